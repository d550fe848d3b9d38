import PyProof.Rows.All
import Wide.All
import OpenK.AllK
import Wide.FinOn
import Lean
import PyProof.EqAt
import PyProof.EqKinds
import PyProof.TupleCall
import KE.KRevIter
import PyProof.P3In
import PyProof.SumAnyB
import PyProof.NeKinds
import KE.KEqDict
import PyProof.ListRange
import PyProof.TupleOfSeq
import PyProof.WalksS
import PyProof.CollectWalk
import PyProof.SetRoads
import PyProof.Rows.SetFrom
import PyProof.RulesAssignMore
import PySem.Challenge.RW_struckdeeds_k59_whole_the_least_carried
set_option Elab.async false
set_option linter.all false
set_option maxRecDepth 100000
set_option compiler.extract_closed false
set_option maxHeartbeats 4000000
open PySem.Str renaming ofString → a0Q
open PySem.PyData renaming eqv → a0X, str → a0W, depthAll → a1Z, depth → a1V, int → a3Q, bool → a8V, keyHash → a9V, canLay0 → b7Q, canLayAll0 → b7W
open PySem.Value renaming ref → a0Z, none → a2Z, int → b8J
open List renaming getElem?_eq_none → a0J, length_drop → a0K, range → a0V, length_take → a1Q, append_nil → a2Q, lookup_cons → a3X, any_eq_true → a3Z, contains_cons → a3J, map_nil → a3W, filterMap_cons → a3V, mem_cons_self → a4Q, drop_eq_nil_of_le → a4X, replicate → a4Z, take_of_length_le → a5J, take_add_one → a5W, pairwise_map → a5V, zip_cons_cons → a6J, take_length → a6K, find?_cons → a7X, mem_singleton → a8X, map_take → a9X, map_id → a9Z, map_drop → a9J, filter_sublist → a9K, any_cons → a9W, length_replicate → b0V, mem_of_mem_drop → b1X, getElem_mem → b1W, replicate_succ → b2Q, getElem?_take_of_lt → b2J, length_nil → b2K, ext_getElem? → b3W, append_assoc → b3V, take_eq_take_iff → b4W, mem_of_mem_take → b5X, getElem?_set_ne → b5Z, getElem?_of_mem → b5J, take_succ_cons → b6X, getElem?_drop → b7K, pairwise_iff_getElem → b8Q, getElem?_zip_eq_some → b8X, drop_eq_getElem_cons → b8Z, reverse_cons → b8W, filter_congr → b8V, eq_of_mem_replicate → b9Q, any_eq_false → b9X, length → b9W, getElem?_cons_succ → b9V, zipIdx_cons → c0J
open PySem.Txt renaming slice → a1X
open Bool renaming and_eq_true → a1J, eq_iff_iff → a6Z, false_eq_true → b2W, or_eq_true → b6Z, or_false → c0Q, false_or → c0X
open Sum renaming inr → a1K, inl → a5X
open PySem.W renaming mg_none_of → a1W, nsIn → a2W, kia_one → a2V, keepIn → a5Q, boot_heap → a5Z, kHook → a6W, fnOf → a7J, topRun → a9Q, segRunT → b2Z, findIn → b3J, codeIn → b3K, piecesOf → b4Q, boot_drawn → b6Q, restOf → b6J, segRun_of → b7X, boot_toks → b7Z
open PySem.Builtin.SmallTypes renaming nextOf → a2X, ownedTupleIsFree → a2K, ownedTupleHandOut → b6V
open Int renaming toNat_natCast → a2J, natCast_nonneg → b3Z
open List.Sublist renaming refl → a3K
open Option renaming some → a4J, none → b8K
open Array renaming length_toList → a4K, getElem?_toList → a7W, getD_eq_getD_getElem? → b5V, getElem?_eq_none → c0K
open PySem.Builtin.Str renaming strSliceIndices → a4W
open Nat renaming add_le_add_left → a4V, le_add_right → a8Q, ne_of_gt → a8Z, min_eq_left → a8W, le_succ → b0Q, add_sub_cancel_left → b3X, lt_trichotomy → b4Z, lt_succ_of_lt → b4J, min_eq_right → b5Q, add_le_add_right → b5W, zero_add → b7V
open PySem renaming mem_of_lookup → a5K
open PySem.Heap renaming get?_update_self → a6Q, size_push → a8J
open PySem.F renaming args_tuple_add_2 → a6X, entry_tuple_add → a6V, slot_tuple_add → a7Q, slot_dict_get → b0Z, slot_tuple_iterator_next → b1J, entry_dict_get → b9Z
open PySem.NameKind renaming free → a7Z
open PyProof.Rows renaming slot_tuple_getitem → a7K, boot_list → b1K, boot_sorted → b5K
open PySem.Obj renaming mapSeq → a7V, data_mapFields → b0K
open False renaming elim → a8K
open True renaming intro → b0X
open PySem.Builtin.Slice renaming slicePlaces → b0J, sliceAdjust → b4V
open PySem.Builtin.Tuple renaming tupleExact → b0W
open PySem.W.OpenRow renaming toRowW → b1Q
open PySem.SeqAt renaming readOf → b1Z, depth_of_shaped → b4X
open ForInStep renaming yield → b1V
open PySem.W.RowW renaming records → b2V
open PySem.W.OpenLaw renaming row → b3Q
open Ne renaming symm → b4K
open PySem.W.Hook renaming val → b6K, obs → b6W
open PySem.Calls renaming call_function_entry → b7J, callWith_builtin → c0Z
open List.Perm renaming append_left → b9J
open PySem.Heap.SameBut renaming update → b9K
open PySem renaming wpAny_bind → zZ, wpAny_pure → zY, codeAny_mono → xN, wpAny_newObj_type → xM
open List renaming length_map → zX, getElem?_eq_getElem → zV, mem_map → zL, size_toArray → zJ, map_cons → zI, getElem?_map → zF, map_map → zD, mem_append_right → zB, mem_append_left → zA, length_append → yY, mem_cons → yX, mem_append → yW, mem_cons_of_mem → yV, getD_eq_getElem?_getD → yU, getElem?_eq_some_iff → yT, length_cons → yR, getElem?_append_left → yQ, getElem?_append_right → yP, mem_of_getElem? → yN, map_congr_left → yM, mem_filter → yL, length_filter_le → yJ, getElem?_range → yA, length_range → xZ, not_mem_nil → xX, nodup_cons → xV, filter_map → xU, map_append → xI
open PySem.Heap renaming get?_push_of_some → zW, lt_size → zM, get?_push_size → yZ, get?_update_other → yC, get?_update_ne → yB
open Nat renaming le_refl → zR, lt_of_le_of_lt → zQ, lt_of_lt_of_le → zP, le_trans → zN, ne_of_lt → zC, lt_irrefl → yF, le_of_ble_eq_true → yD, zero_le → xT, le_of_lt → xR, lt_trans → xQ
open PySem.SeqAt renaming shaped → zH, canLay_of_shaped → zG
open Option renaming isSome_iff_exists → xY
open PySem.Calls renaming spliced_cons → xP
open PySem.Builtin.Int renaming intBits → xJ
open PyProof.Rows renaming callWith_type1 → xH
abbrev sT (n:Nat):PySem.Stmt:=PySem.Challenge.pw_struckdeeds_k59_whole_the_least_carried.main.body.getD n (.Pass ⟨0,0,0,0⟩)
abbrev Frg:=PySem.W.Frag
theorem nft:¬(false=true):=Bool.false_ne_true
namespace L2
open PySem PySem.Spec PyProof.Rows
abbrev Key:=Sum Int Str
def NU:Key->Value->Bool
 | .inl k,v=>Value.isInt k v
 | .inr x,v=>Value.isStrOf x v
def wS (w:World):Key->Int
 | .inl k=>hashInt k
 | .inr x=>hashStr w x
theorem B5:∀{k:Key}{v:Value},NU k v=true->(∃i t,k=a5X i/\v=b8J i t)∨(∃x t,k=a1K x/\v=Value.str x t)
 | .inl i,v,h=>by
   obtain⟨t,e⟩:=Value.isInt_shape (k:=i) (v:=v) h
   exact .inl ⟨i,t,rfl,e⟩
 | .inr x,v,h=>by
   obtain⟨t,e⟩:=Value.isStrOf_shape (x:=x) (v:=v) h
   exact .inr ⟨x,t,rfl,e⟩
theorem cB (i:Int) (t:Tok):NU (.inl i) (.int i t)=true:=by simp[NU,Value.isInt]
theorem cC (x:Str) (t:Tok):NU (.inr x) (.str x t)=true:=by simp[NU,Value.isStrOf]
theorem qI (a b:Int):decide ((a5X a:Key)=a5X b)=(a==b):=by
 by_cases e:a=b
 · subst e;simp
 · have h:¬(a5X a:Key)=a5X b:=fun q=>e (Sum.inl.inj q)
   rw[decide_eq_false h]
   exact(beq_eq_false_iff_ne.mpr e).symm
theorem qJ (a b:Str):decide ((a1K a:Key)=a1K b)=decide (a=b):=by
 by_cases e:a=b
 · subst e;simp
 · have h:¬(a1K a:Key)=a1K b:=fun q=>e (Sum.inr.inj q)
   rw[decide_eq_false h,decide_eq_false e]
theorem qK (a:Int) (b:Str):decide ((a5X a:Key)=a1K b)=false:=decide_eq_false (fun q=>nomatch q)
theorem qL (a:Str) (b:Int):decide ((a1K a:Key)=a5X b)=false:=decide_eq_false (fun q=>nomatch q)
def AX (prog:Program) (w:World):PySem.KeyKind prog w Key where
 is:=NU
 hash:=wS w
 inj:=fun v a b ha hb=>by
   rcases B5 ha with ⟨i,t,rfl,rfl⟩ | ⟨x,t,rfl,rfl⟩
   · rcases B5 hb with ⟨j,u,rfl,e⟩ | ⟨y,u,rfl,e⟩
     · injection e with e1 _;rw[e1]
     · exact nomatch e
   · rcases B5 hb with ⟨j,u,rfl,e⟩ | ⟨y,u,rfl,e⟩
     · exact nomatch e
     · injection e with e1 _;rw[e1]
 byValue:=fun k v h=>by
   rcases B5 h with ⟨i,t,rfl,rfl⟩ | ⟨x,t,rfl,rfl⟩ <;> rfl
 pyHash:=fun hv h=>by
   rcases B5 hv with ⟨i,t,rfl,rfl⟩ | ⟨x,t,rfl,rfl⟩
   · exact wpAny_pyHash_int h
   · exact wpAny_pyHash_str h
 eqBool:=fun hu hv h=>by
   rcases B5 hu with ⟨i,t,rfl,rfl⟩ | ⟨x,t,rfl,rfl⟩
   · rcases B5 hv with ⟨j,u,rfl,rfl⟩ | ⟨y,u,rfl,rfl⟩
     · rw[qI] at h;exact wpAny_eqBool_int h
     · rw[qK] at h;exact SeqAt.EqAt.int_str i t y u _ _ _ _ h
   · rcases B5 hv with ⟨j,u,rfl,rfl⟩ | ⟨y,u,rfl,rfl⟩
     · rw[qL] at h;exact SeqAt.EqAt.str_int x t j u _ _ _ _ h
     · rw[qJ] at h;exact wpAny_eqBool_str h
 «strs»:=fun k x t v h=>by
   rcases B5 h with ⟨i,u,rfl,e⟩ | ⟨y,u,rfl,e⟩
   · exact nomatch e
   · injection e with e1 _
     subst e1
     cases v <;> rfl
theorem VM (prog:Program) (w:World) (i:Int) (t:Tok):(AX prog w).is (.inl i) (.int i t)=true:=cB i t
theorem NV (prog:Program) (w:World) (x:Str) (t:Tok):(AX prog w).is (.inr x) (.str x t)=true:=cC x t
inductive V where
 | non | bl (b:Bool) | int (i:Int) | str (x:Str) | byt (b:Array UInt8) | flt (b:UInt64) | ref (a:Addr) | ty (n:String)
 deriving DecidableEq
def RelV:V->Value->Prop
 | .non,u=>u=a2Z
 | .bl b,u=>u=Value.bool b
 | .int i,u=>∃t,u=b8J i t
 | .str x,u=>∃t,u=Value.str x t
 | .byt b,u=>∃t,u=Value.bytes b t
 | .flt b,u=>∃t,u=Value.float b t
 | .ref a,u=>u=a0Z a
 | .ty n,u=>u=Value.type n
abbrev Vals:List V->List Value->Prop:=Paired RelV
theorem Vals.length {xs:List V}{us:List Value}(r:Vals xs us):xs.length=us.length:=Paired.length r
theorem Vals.get:∀{xs:List V}{us:List Value}{i:Nat}{x:V},Vals xs us->xs[i]?=some x->∃u,us[i]?=some u/\RelV x u
 | _,_,_,_,.nil,e=>by simp at e
 | _,_,0,_,.cons r _,e=>by simp at e;subst e;exact⟨_,rfl,r⟩
 | _,_,i+1,x,.cons _ t,e=>by
   obtain⟨u,h1,h2⟩:=Vals.get (i:=i) (x:=x) t (by simpa using e)
   exact⟨u,by simpa using h1,h2⟩
theorem Vals.set {x:V}{u:Value}(r:RelV x u):∀{xs:List V}{us:List Value}(i:Nat),Vals xs us->Vals (xs.set i x) (us.set i u)
 | _,_,_,.nil=>.nil
 | _,_,0,.cons _ t=>.cons r t
 | _,_,i+1,.cons q t=>.cons q (Vals.set r i t)
theorem Vals.append:∀{xs ys:List V}{us ws:List Value},Vals xs us->Vals ys ws->Vals (xs++ys) (us++ws)
 | _,_,_,_,.nil,s=>s
 | _,_,_,_,.cons r t,s=>.cons r (Vals.append t s)
theorem Vals.take:∀{xs:List V}{us:List Value}(n:Nat),Vals xs us->Vals (xs.take n) (us.take n)
 | _,_,0,_=>.nil
 | _,_,_+1,.nil=>.nil
 | _,_,n+1,.cons r t=>.cons r (Vals.take n t)
theorem Vals.drop:∀{xs:List V}{us:List Value}(n:Nat),Vals xs us->Vals (xs.drop n) (us.drop n)
 | _,_,0,r=>r
 | _,_,_+1,.nil=>.nil
 | _,_,n+1,.cons _ t=>Vals.drop n t
def RelO:Option V->Option Value->Prop
 | some v,some u=>RelV v u
 | none,none=>True
 | _,_=>False
def KV {κ:Type}:List (κ×V)->List (κ×Value)->Prop:=Paired fun(p:κ×V) (q:κ×Value)=>p.1=q.1/\RelV p.2 q.2
def kV:Key->V
 | .inl i=>.int i
 | .inr x=>.str x
inductive HO where
 | lst (xs:List V)
 | tup (xs:List V)
 | dK (kvs:List (Key×V)) | dT (kvs:List (List Key×V))
 | set (S:Int->Bool) (n:Nat)
 | ins (C dx:Addr) (fs:List (Str×V))
 | own (x:Addr)
 | xd (fs:List (Str×V))
 | met (f x:Addr)
 | rng (lo hi:Int)
 | frz (o:Obj) (u:HO)
 | tbl (ps:Array Value)
 | ext (φ:Heap->Prop)
abbrev Hp:=Addr->Option HO
def upd (H:Hp) (a:Addr) (o:HO):Hp:=fun b=>if b=a then some o else H b
theorem AI {H:Hp}{a:Addr}{o:HO}:upd H a o a=some o:=by unfold upd;rw[if_pos rfl]
theorem AJ {H:Hp}{a b:Addr}{o:HO}(h:b≠a):upd H a o b=H b:=by unfold upd;rw[if_neg h]
theorem uL {H:Hp}{a b:Addr}{o u:HO}(h:H a=some o) (h':H b=some u) (d:o≠u):a≠b:=by
 intro e;subst e;rw[h] at h';exact d (Option.some.inj h')
theorem B2 {H:Hp}{a b:Addr}{o:HO}(h:H a=some o) (h':H b=none):a≠b:=by
 intro e;subst e;rw[h] at h';cases h'
section
variable (P:Program) (w:World)
def ObjOk (H:Hp) (h:Heap) (a:Addr):HO->Prop
 | .lst xs=>xs.length<=sizeLine/\∃(its:List Value) (n:Nat),Vals xs its/\h.get? a=some { cls:=.type "list", data:=.seq its.toArray n }
 | .tup xs=>xs.length<=sizeLine/\∃its:List Value,Vals xs its/\IsTup h a its.toArray
 | .dK kvs=>kvs.length<=sizeLine/\(a==sysModules)=false/\∃vs,KV kvs vs/\h.DictOf (AX P w) a vs
 | .dT kvs=>kvs.length<=sizeLine/\(a==sysModules)=false/\∃xs:List (List Key×Addr×Value),
     Paired (fun(p:List Key×V) (q:List Key×Addr×Value)=>p.1=q.1/\H q.2.1=some (.tup (p.1.map kV))/\RelV p.2 q.2.2) kvs xs /\
     ∃o es ep,h.get? a=some o/\o.ExactDict/\o.data = .dict es ep/\es.toList=xs.map (entryOfKey (tupleKind (AX P w)))/\(xs.map (·.1)).Nodup
 | .set S n=>h.SetOf (intKind P w) a S n
 | .ins C dx fs=>H dx=some (.own a)/\fs.length<=1000/\dx≠a/\h.get? a=some (PySem.W.instObj C dx) /\
     ∃mA,h.Ns1 dx mA/\(∀f,RelO (fs.lookup f) (mA f))/\PySem.Within mA (fs.map (·.1))
 | .own _=>∃o,h.get? a=some o
 | .xd fs=>∃mA,h.Ns1 a mA/\∀f,RelO (fs.lookup f) (mA f)
 | .rng lo hi=>∃t u v,h.get? a=some { cls:=.type "range", data:=.fields #[.int lo t,.int hi u,.int 1 v] }
 | .frz o u=>h.get? a=some o/\ObjOk H h a u
 | .tbl ps=>h.get? a=some { cls:=.none,data:=.fields ps }
 | .met f x=>h.get? a=some (PySem.W.methodObj (.ref f) (.ref x))
 | .ext φ=>φ h/\(∃o,h.get? a=some o)/\∀h1 h2:Heap,φ h1->(∀o,h1.get? a=some o->h2.get? a=some o)->φ h2
def HOk (H:Hp) (h:Heap):Prop:=∀a o,H a=some o->ObjOk P w H h a o
end
section
variable {P:Program}{w:World}{H H':Hp}{h h':Heap}{a:Addr}{o:HO}
theorem ObjOk.lt (x:ObjOk P w H h a o):a < h.objs.size:=by
 cases o with
 | lst xs=>obtain⟨_,_,_,_,e⟩:=x;exact zM e
 | tup xs=>obtain⟨_,_,_,p⟩:=x;exact p.lt
 | dK kvs=>obtain⟨_,_,_,_,o,_,_,e,_⟩:=x;exact zM e
 | dT kvs=>obtain⟨_,_,_,_,o,_,_,e,_⟩:=x;exact zM e
 | set S n=>obtain⟨o,_,_,_,e,_⟩:=x;exact zM e
 | ins C dx fs=>obtain⟨_,_,_,e,_⟩:=x;exact zM e
 | own y=>obtain⟨_,e⟩:=x;exact zM e
 | xd fs=>obtain⟨_,⟨_,_,_,e,_⟩,_⟩:=x;exact zM e
 | rng lo hi=>obtain⟨_,_,_,e⟩:=x;exact zM e
 | frz ob u=>obtain⟨e,_⟩:=x;exact zM e
 | tbl ps=>exact zM (show h.get? a=some _ from x)
 | met f y=>exact zM (show h.get? a=some _ from x)
 | ext φ=>obtain⟨_,⟨_,e⟩,_⟩:=x;exact zM e
theorem Paired.mapP {α β:Type}{F G:α->β->Prop}:∀{l₁:List α}{l₂:List β},Paired F l₁ l₂->(∀a b,F a b->G a b)->Paired G l₁ l₂
 | _,_,.nil,_=>.nil
 | _,_,.cons r t,f=>.cons (f _ _ r) (Paired.mapP t f)
theorem ObjOk.stay (x:ObjOk P w H h a o) (k:∀b u,(b=a∨H b=some (.own a))->h.get? b=some u->h'.get? b=some u)
   (ho:∀b,H b=some (.own a)->H' b=some (.own a)) (ht:∀b xs,H b=some (.tup xs)->H' b=some (.tup xs)):ObjOk P w H' h' a o:=by
 induction o with
 | lst xs=>obtain⟨z,its,n,r,e⟩:=x;exact⟨z,its,n,r,k _ _ (.inl rfl) e⟩
 | tup xs=>obtain⟨z,its,r,ob,e,c⟩:=x;exact⟨z,its,r,ob,k _ _ (.inl rfl) e,c⟩
 | dK kvs=>obtain⟨z,y,vs,r,ob,es,ep,e,c⟩:=x;exact⟨z,y,vs,r,ob,es,ep,k _ _ (.inl rfl) e,c⟩
 | dT kvs=>
   obtain⟨z,y,xs,r,ob,es,ep,e,c⟩:=x
   exact⟨z,y,xs,Paired.mapP r fun p q z=>⟨z.1,ht _ _ z.2.1,z.2.2⟩,ob,es,ep,k _ _ (.inl rfl) e,c⟩
 | set S n=>obtain⟨ob,es,ep,t,e,c⟩:=x;exact⟨ob,es,ep,t,k _ _ (.inl rfl) e,c⟩
 | ins C dx fs=>
   obtain⟨d,z,ne,e,mA,⟨od,es,ep,e2,c⟩,r⟩:=x
   exact⟨ho _ d,z,ne,k _ _ (.inl rfl) e,mA,⟨od,es,ep,k _ _ (.inr d) e2,c⟩,r⟩
 | own y=>obtain⟨ob,e⟩:=x;exact⟨ob,k _ _ (.inl rfl) e⟩
 | xd fs=>obtain⟨mA,⟨od,es,ep,e,c⟩,r⟩:=x;exact⟨mA,⟨od,es,ep,k _ _ (.inl rfl) e,c⟩,r⟩
 | rng lo hi=>obtain⟨t,u,v,e⟩:=x;exact⟨t,u,v,k _ _ (.inl rfl) e⟩
 | frz ob u ih=>obtain⟨e,q⟩:=x;exact⟨k _ _ (.inl rfl) e,ih q⟩
 | tbl ps=>
   have e:h.get? a=some { cls:=.none,data:=.fields ps }:=x
   show h'.get? a=some { cls:=.none,data:=.fields ps }
   exact k a _ (.inl rfl) e
 | met f y=>
   have e:h.get? a=some (PySem.W.methodObj (.ref f) (.ref y)):=x
   show h'.get? a=some (PySem.W.methodObj (.ref f) (.ref y))
   exact k a _ (.inl rfl) e
 | ext φ=>obtain⟨p,⟨o,e⟩,st⟩:=x;exact⟨st _ _ p fun o q=>k _ _ (.inl rfl) q,⟨o,k _ _ (.inl rfl) e⟩,st⟩
theorem HOk.lt (x:HOk P w H h) (e:H a=some o):a < h.objs.size:=(x a o e).lt
theorem HOk.fresh (x:HOk P w H h) (e:h.objs.size<=a):H a=none:=by
 cases q:H a with
 | none=>rfl
 | some u=>exact absurd (zP (x.lt q) e) (yF _)
theorem HOk.kept (x:HOk P w H h) (k:∀b u,h.get? b=some u->h'.get? b=some u):HOk P w H h':=fun a o e=>
 (x a o e).stay (fun b u _ q=>k b u q) (fun _ q=>q) fun _ _ q=>q
theorem HOk.laid (x:HOk P w H h) (k:∀b u,h.get? b=some u->h'.get? b=some u) (hp:h.objs.size<=a) (new:ObjOk P w (upd H a o) h' a o):HOk P w (upd H a o) h':=fun b u e=>by
 have hn:=x.fresh hp
 by_cases hb:b=a
 · subst hb;rw[AI] at e;cases e;exact new
 · rw[AJ hb] at e
   exact(x b u e).stay (fun c v _ q=>k c v q) (fun c q=>by rw[AJ (B2 q hn)];exact q) fun c xs q=>by rw[AJ (B2 q hn)];exact q
end
def Rd (H:Hp) (a:Addr) (u:HO):Prop:=H a=some u∨∃o,H a=some (.frz o u)
theorem Rd.ok {P:Program}{w:World}{H:Hp}{h:Heap}{a:Addr}{u:HO}(r:Rd H a u) (x:HOk P w H h):ObjOk P w H h a u:=by
 rcases r with r | ⟨o,r⟩
 · exact x a u r
 · obtain⟨_,q⟩:=x a _ r
   exact q
def Mut:Option HO->Prop
 | some (.lst _)=>True
 | some (.dK _)=>True
 | some (.dT _)=>True
 | some (.set _ _)=>True
 | some (.ins _ _ _)=>True
 | some (.ext _)=>True
 | _=>False
section
variable {P:Program}{w:World}{H:Hp}{h h':Heap}{x e:Addr}{o':HO}
theorem HOk.write (ok:HOk P w H h) (mu:Mut (H x)) (he:e=x∨H e=some (.own x)) (k:∀b u,b≠e->h.get? b=some u->h'.get? b=some u) (heo:∃u,h'.get? e=some u)
   (new:ObjOk P w (upd H x o') h' x o'):HOk P w (upd H x o') h':=fun b u q=>by
 have nown:∀c y,H c=some (.own y)->c≠x:=fun c y r z=>by subst z;rw[r] at mu;exact mu
 have ntup:∀c xs,H c=some (.tup xs)->c≠x:=fun c xs r z=>by subst z;rw[r] at mu;exact mu
 by_cases hb:b=x
 · subst hb;rw[AI] at q;cases q;exact new
 · rw[AJ hb] at q
   by_cases hbe:b=e
   · have q':H b=some (.own x):=by
       rcases he with z | z
       · exact absurd (hbe.trans z) hb
       · rw[hbe];exact z
     rw[q] at q';cases q'
     obtain⟨v,hv⟩:=heo
     exact⟨v,by rw[hbe];exact hv⟩
   · refine(ok b u q).stay (fun c v hc r=>k c v ?_ r) (fun c r=>by rw[AJ (nown c b r)];exact r) fun c xs r=>by rw[AJ (ntup c xs r)];exact r
     rcases hc with rfl | hc
     · exact hbe
     · rintro rfl
       rcases he with z | z
       · exact nown c b hc z
       · rw[hc] at z;cases z;exact hb rfl
end
structure Un (fs ex:List Addr) (H H':Hp) (h h':Heap):Prop where
 keep:∀b o,h.get? b=some o->H b=none->b∉fs->b∉ex->h'.get? b=some o
 slot:∀b o,h.get? b=some o->H b=none->b∈fs->b∉ex->∃sl,h'.get? b=some { o with slots:=sl }
 free:∀b o,h.get? b=some o->H b=none->b∉ex->H' b=none
 there:∀b o,h.get? b=some o->b∉ex->∃o',h'.get? b=some o'
 tups:∀b xs,H b=some (.tup xs)->H' b=some (.tup xs)
 frzs:∀b o u,H b=some (.frz o u)->H' b=some (.frz o u)
 tbls:∀b ps,H b=some (.tbl ps)->∃more,H' b=some (.tbl (ps++more))
section
variable {fs fs' ex ex':List Addr}{H H1 H2:Hp}{h h1 h2 h':Heap}{a x e:Addr}{o:HO}
theorem Un.any (u:Un fs ex H H1 h h1) {b:Addr}{ob:Obj}(q:h.get? b=some ob) (n:H b=none) (hx:b∉ex):∃sl,h1.get? b=some { ob with slots:=sl }:=by
 by_cases hb:b∈fs
 · exact u.slot b ob q n hb hx
 · exact⟨ob.slots,u.keep b ob q n hb hx⟩
theorem Un.kept (k:∀b u,h.get? b=some u->h'.get? b=some u):Un fs ex H H h h':=
 ⟨fun b ob q _ _ _=>k b ob q,fun b ob q _ _ _=>⟨ob.slots,k b ob q⟩,fun _ _ _ n _=>n,fun b ob q _=>⟨ob,k b ob q⟩,fun _ _ q=>q,fun _ _ _ q=>q,fun _ ps q=>⟨#[],by rw[q];simp⟩⟩
theorem Un.refl:Un fs ex H H h h:=Un.kept fun _ _ q=>q
theorem Un.laid (k:∀b u,h.get? b=some u->h'.get? b=some u) (hp:h.objs.size<=a) (hn:H a=none):Un fs ex H (upd H a o) h h' where
 keep:=fun b u q _ _ _=>k b u q
 slot:=fun b u q _ _ _=>⟨u.slots,k b u q⟩
 free:=fun b u q n _=>by rw[AJ (zC (zP (zM q) hp))];exact n
 there:=fun b u q _=>⟨u,k b u q⟩
 tups:=fun b xs q=>by rw[AJ (B2 q hn)];exact q
 frzs:=fun b u xs q=>by rw[AJ (B2 q hn)];exact q
 tbls:=fun b ps q=>⟨#[],by rw[AJ (B2 q hn),q];simp⟩
theorem Un.write (mu:Mut (H x)) (he:e=x∨H e=some (.own x)) (k:∀b u,b≠e->h.get? b=some u->h'.get? b=some u) (heo:∃u,h'.get? e=some u):Un fs ex H (upd H x o) h h':=by
 have hx:∀b,H b=none->b≠x:=fun b n z=>by subst z;rw[n] at mu;exact mu
 have hb:∀b,H b=none->b≠e:=fun b n z=>by
   subst z
   rcases he with r | r
   · exact hx b n r
   · rw[n] at r;cases r
 have hm:∀b u,H b=some u->¬Mut (some u)->b≠x:=fun b u q nm z=>by subst z;rw[q] at mu;exact nm mu
 refine⟨fun b u q n _ _=>k b u (hb b n) q,fun b u q n _ _=>⟨u.slots,k b u (hb b n) q⟩,fun b u q n _=>by rw[AJ (hx b n)];exact n,fun b u q _=>?_,
   fun b xs q=>by rw[AJ (hm b _ q fun z=>z)];exact q,fun b u xs q=>by rw[AJ (hm b _ q fun z=>z)];exact q,fun b ps q=>⟨#[],by rw[AJ (hm b _ q fun z=>z),q];simp⟩⟩
 by_cases hbe:b=e
 · subst hbe;exact heo
 · exact⟨u,k b u hbe q⟩
end
def trk (h:Heap) (H:Hp):List Addr:=(a0V h.objs.size).filter fun a=>(H a).isSome
def TJ (h:Heap) (H:Hp):Heap:=PySem.W.hideAll h (trk h H)
theorem cD (h:Heap) (H:Hp):(TJ h H).objs.size=h.objs.size:=PySem.W.hideAll_size _ _
theorem fL {h:Heap}{H:Hp}{b:Addr}{o:Obj}(e:h.get? b=some o) (n:H b=none):(TJ h H).get? b=some o:=
 PySem.W.hideAll_get _ e fun hm=>by
   have q:(H b).isSome=true:=(yL.mp hm).2
   rw[n] at q;simp at q
theorem lK {h:Heap}{H:Hp}{b:Addr}{o:Obj}(e:(TJ h H).get? b=some o):h.get? b=some o/\H b=none:=by
 have e':h.get? b=some o:=PySem.W.of_hideAll (trk h H) e
 refine⟨e',?_⟩
 cases q:H b with
 | none=>rfl
 | some x=>
   have hm:b∈trk h H:=yL.mpr ⟨List.mem_range.mpr (zM e'),by simp[q]⟩
   have z:(TJ h H).get? b=none:=PySem.W.hideAll_none (trk h H) hm
   rw[z] at e;cases e
structure Mod (K:Frg) (mg:Str->Option Value) (base:Heap):Prop where
 kin:K.In base
 glob:base.Ns mainGlobals mg
 blt:∃mb,base.Ns builtinsNs mb/\∀x:Str,x ≠ "__name__" -> mb x=bootBuiltins x
 nolimit:base.NoLimit
structure Cx where
 prog:Program
 w:World
 K:Frg
 mg:Str->Option Value
 base:Heap
 A:Around
 N:List Str
 s₀:Shared
 H₀:Hp
 env:Env
 outer:List Env
 stack:List Env
 ex:List Addr
 fn:Str->Bool
 calm:Bool
 pn:List (Addr×Obj)
 xe:Value->Shared->Prop
def frs (l:List Env):List Addr:=l.filterMap (·.frame)
abbrev Cx.fs (X:Cx):List Addr:=frs X.outer
def Vis (sc:Scope) (x:Str):Prop:=sc.names.lookup x=some .local∨sc.names.lookup x=some .cell∨sc.names.lookup x=some .free
def Loc (sc:Scope) (x:Str):Prop:=sc.names.lookup x=some .local∨sc.names.lookup x=some .cell
def wT (env:Env) (h:Heap) (m:Str->Option Value) (x:Str) (u:Value):Prop:=
 (env.kindOf x=some .local/\m x=some u)∨((env.kindOf x=some .cell∨env.kindOf x=some .free)/\∃c,env.cells.lookup x=some c/\h.IsCell c (some u))
structure Cx.Ok (X:Cx):Prop where
 mod:Mod X.K X.mg X.base
 kind:X.env.scope.kind = .function
 glob:X.env.globals=mainGlobals
 blt:X.env.builtins=builtinsNs
 above:X.s₀.heap.objs.size<=X.env.locals
 inj:∀x y c,X.env.cells.lookup x=some c->X.env.cells.lookup y=some c->x=y
 has:∀x,(X.env.kindOf x=some .cell∨X.env.kindOf x=some .free)->∃c,X.env.cells.lookup x=some c
 cab:∀x c,X.fn x=true->X.env.cells.lookup x=some c->X.s₀.heap.objs.size<=c
 hd:X.calm=true->X.A.handled=none
 frames:X.A.frames=some X.stack
 stk:X.stack=X.outer∨(X.stack=X.env::X.outer/\X.env.frame=some X.env.locals)
 exf:∀b∈X.ex,b≠X.env.locals/\∀x c,X.env.cells.lookup x=some c->c≠b
 bs:∀b o,X.base.get? b=some o->X.s₀.heap.get? b=some o/\X.H₀ b=none
 bsz:X.base.objs.size<=X.s₀.heap.objs.size
 noex:∀b o,X.base.get? b=some o->b∉X.ex
 exfs:∀b∈X.ex,b∉X.fs
 funs:X.s₀.heap.FunFrames X.base X.outer
 frf:∀b∈X.fs,X.H₀ b=none
structure Inv (X:Cx) (pins:List (Addr×Obj)) (σ:List (Option V)) (H:Hp) (s:Shared):Prop where
 ok:X.Ok
 os:s.os=X.s₀.os
 bare:AllBare s.gens
 base:Un X.fs X.ex X.H₀ H X.s₀.heap s.heap
 loc:∃m,s.heap.Ns X.env.locals m/\∀(i:Nat) (x:Str) (v:V),X.N[i]?=some x->σ[i]?=some (some v)->Vis X.env.scope x->∃u,RelV v u/\wT X.env s.heap m x u
 cell:∀x c,X.env.cells.lookup x=some c->∃v,s.heap.IsCell c v
 free:H X.env.locals=none
 freeC:∀x c,X.env.cells.lookup x=some c->H c=none
 pin:∀p∈X.pn++pins,s.heap.get? p.1=some p.2/\H p.1=none/\p.1≠X.env.locals/\p.1∉X.fs/\∀v,p.2.data≠.cell v
 hok:HOk X.prog X.w H s.heap
 len:σ.length=X.N.length
section
variable {X:Cx}{pins:List (Addr×Obj)}{σ:List (Option V)}{H H':Hp}{s:Shared}{h':Heap}
theorem Cx.Ok.nofr (ok:X.Ok) {b:Addr}{o:Obj}(e:X.base.get? b=some o):b∉X.fs:=fun hb=>by
 have:=(ok.funs.mem hb).1
 rw[e] at this;cases this
theorem Inv.bs (I:Inv X pins σ H s):∀b o,X.base.get? b=some o->s.heap.get? b=some o/\H b=none:=fun b o e=>
 ⟨I.base.keep b o (I.ok.bs b o e).1 (I.ok.bs b o e).2 (I.ok.nofr e) (I.ok.noex b o e),I.base.free b o (I.ok.bs b o e).1 (I.ok.bs b o e).2 (I.ok.noex b o e)⟩
theorem Inv.bk (I:Inv X pins σ H s):∀b o,X.base.get? b=some o->s.heap.get? b=some o:=fun b o e=>(I.bs b o e).1
theorem Inv.mod (I:Inv X pins σ H s):Mod X.K X.mg X.base:=I.ok.mod
theorem Inv.kIn (I:Inv X pins σ H s):X.K.In s.heap:=I.ok.mod.kin.keeps I.bk
theorem Inv.lt (I:Inv X pins σ H s):X.env.locals < s.heap.objs.size:=let ⟨_,hn,_⟩:=I.loc;hn.lt
theorem Inv.sz (I:Inv X pins σ H s):X.s₀.heap.objs.size<=s.heap.objs.size:=zN I.ok.above (xR I.lt)
theorem Inv.nofs (I:Inv X pins σ H s) {a:Addr}(h:s.heap.objs.size<=a):a∉X.fs:=fun hb=>by
 obtain⟨_,o,ho,_⟩:=I.ok.funs.mem hb
 exact absurd (zP (zM ho) (zN I.sz h)) (yF _)
theorem Inv.cne (I:Inv X pins σ H s):∀x c,X.env.cells.lookup x=some c->c≠X.env.locals:=fun x c e z=>by
 obtain⟨v,o,ho,hd⟩:=I.cell x c e
 obtain⟨m,⟨o',es,ep,ho',hd',_⟩,_⟩:=I.loc
 rw[z,ho'] at ho;cases ho;rw[hd'] at hd;cases hd
theorem Inv.funs (I:Inv X pins σ H s):s.heap.FunFrames X.base X.outer:=by
 have all:∀(l:List Env),(∀b∈frs l,b∈X.fs)->X.s₀.heap.FunFrames X.base l->s.heap.FunFrames X.base l:=by
   intro l
   induction l with
   | nil=>intro _ _;trivial
   | cons env r ih=>
     intro hs hl
     obtain⟨hk,⟨L,o,hf,hn,ho,hd⟩,hr⟩:=hl
     have hL:L∈X.fs:=hs L (by unfold frs;rw[a3V,hf];exact a4Q)
     obtain⟨sl,e⟩:=I.base.slot L o ho (I.ok.frf L hL) hL fun z=>I.ok.exfs L z hL
     exact⟨hk,⟨L,_,hf,hn,e,hd⟩,ih (fun b hb=>hs b (by unfold frs;rw[a3V,hf];exact yV _ hb)) hr⟩
 exact all X.outer (fun _ hb=>hb) I.ok.funs
theorem Inv.stack (I:Inv X pins σ H s):s.heap.FunFrames X.base X.stack:=by
 rcases I.ok.stk with e | ⟨e,hf⟩
 · rw[e];exact I.funs
 · rw[e]
   obtain⟨m,hn,_⟩:=I.loc
   refine .cons (by rw[I.ok.kind];decide) hf hn ?_ I.funs
   exact Heap.get?_none_of_le (zN I.ok.bsz I.ok.above)
theorem Inv.stkSub (I:Inv X pins σ H s):∀b∈frs X.stack,b∈X.env.locals::X.fs:=fun b hb=>by
 rcases I.ok.stk with e | ⟨e,hf⟩
 · rw[e] at hb;exact yV _ hb
 · rw[e] at hb
   unfold frs at hb
   rw[a3V,hf] at hb
   exact hb
theorem Inv.stkFree (I:Inv X pins σ H s):∀b∈frs X.stack,H b=none:=fun b hb=>by
 rcases yX.mp (I.stkSub b hb) with e | hb
 · rw[e];exact I.free
 · obtain⟨_,o,ho,_⟩:=I.ok.funs.mem hb
   exact I.base.free b o ho (I.ok.frf b hb) fun z=>I.ok.exfs b z hb
theorem Inv.step {g':Array GenState}{t':Nat}{d':Drawn}{ch:List Addr}(I:Inv X pins σ H s)
   (hch:∀b∈ch,(b∈X.ex∨X.s₀.heap.objs.size<=b)/\b≠X.env.locals/\(∀x c,X.env.cells.lookup x=some c->c≠b)/\∀p∈X.pn++pins,p.1≠b)
   (keep:∀b o,b≠X.env.locals->b∉X.fs->b∉ch->s.heap.get? b=some o->H b=none->h'.get? b=some o)
   (slot:∀b o,b≠X.env.locals->b∈X.fs->b∉ch->s.heap.get? b=some o->H b=none->∃sl,h'.get? b=some { o with slots:=sl }) (free:∀b o,b∉ch->s.heap.get? b=some o->H b=none->H' b=none)
   (there:∀b o,b∉ch->s.heap.get? b=some o->∃o',h'.get? b=some o')
   (tups:∀b xs,H b=some (.tup xs)->H' b=some (.tup xs)) (frzs:∀b o u,H b=some (.frz o u)->H' b=some (.frz o u)) (tbls:∀b ps,H b=some (.tbl ps)->∃more,H' b=some (.tbl (ps++more)))
   (ns:∀m,s.heap.Ns X.env.locals m->h'.Ns X.env.locals m) (hok:HOk X.prog X.w H' h') (hg:AllBare g') :
   Inv X pins σ H' { s with heap:=h',gens:=g',drawn:=d',toks:=t' }:=by
 have neL:∀b o,X.s₀.heap.get? b=some o->b≠X.env.locals:=fun b o e=>zC (zP (zM e) I.ok.above)
 have neC:∀b o,X.s₀.heap.get? b=some o->b∉X.ex->b∉ch:=fun b o e hx hb=>by
   rcases (hch b hb).1 with z | z
   · exact hx z
   · exact absurd (zP (zM e) z) (yF _)
 have cellK:∀x c,X.env.cells.lookup x=some c->∀v,s.heap.IsCell c v->h'.IsCell c v:=fun x c e v ⟨o,ho,hd⟩=>by
   have nch:c∉ch:=fun z=>(hch c z).2.2.1 x c e rfl
   by_cases hc:c∈X.fs
   · obtain⟨sl,q⟩:=slot c o (I.cne x c e) hc nch ho (I.freeC x c e)
     exact⟨_,q,hd⟩
   · exact⟨o,keep c o (I.cne x c e) hc nch ho (I.freeC x c e),hd⟩
 refine⟨I.ok,I.os,hg,⟨fun b o e n hb hx=>?_,fun b o e n hb hx=>?_,fun b o e n hx=>?_,fun b o e hx=>?_,fun b xs e=>tups b xs (I.base.tups b xs e),fun b o xs e=>frzs b o xs (I.base.frzs b o xs e),fun b ps e=>?_⟩,?_,fun x c e=>?_,?_,fun x c e=>?_,fun p hp=>?_,hok,I.len⟩
 · exact keep b o (neL b o e) hb (neC b o e hx) (I.base.keep b o e n hb hx) (I.base.free b o e n hx)
 · obtain⟨sl,e1⟩:=I.base.slot b o e n hb hx
   obtain⟨sl',e2⟩:=slot b _ (neL b o e) hb (neC b o e hx) e1 (I.base.free b o e n hx)
   exact⟨sl',e2⟩
 · obtain⟨o',e1⟩:=I.base.there b o e hx
   exact free b o' (neC b o e hx) e1 (I.base.free b o e n hx)
 · obtain⟨o',e1⟩:=I.base.there b o e hx
   exact there b o' (neC b o e hx) e1
 · obtain⟨m1,e1⟩:=I.base.tbls b ps e
   obtain⟨m2,e2⟩:=tbls b _ e1
   exact⟨m1++m2,by rw[e2,Array.append_assoc]⟩
 · obtain⟨m,hn,hl⟩:=I.loc
   refine⟨m,ns m hn,fun i x v e1 e2 e3=>?_⟩
   obtain⟨u,r,l⟩:=hl i x v e1 e2 e3
   refine⟨u,r,?_⟩
   rcases l with l | ⟨k,c,e,z⟩
   · exact .inl l
   · exact .inr ⟨k,c,e,cellK x c e _ z⟩
 · obtain⟨v,z⟩:=I.cell x c e
   exact⟨v,cellK x c e v z⟩
 · obtain⟨m,⟨o,_,_,ho,_⟩,_⟩:=I.loc
   exact free _ o (fun z=>(hch _ z).2.1 rfl) ho I.free
 · obtain⟨v,o,ho,hd⟩:=I.cell x c e
   exact free c o (fun z=>(hch c z).2.2.1 x c e rfl) ho (I.freeC x c e)
 · obtain⟨e,n,ne,nf,d⟩:=I.pin p hp
   have nch:p.1∉ch:=fun z=>(hch p.1 z).2.2.2 p hp rfl
   exact⟨keep p.1 p.2 ne nf nch e n,free p.1 p.2 nch e n,ne,nf,d⟩
theorem Inv.un {t':Nat}(I:Inv X pins σ H s) (u:Un X.fs [] H H' s.heap h') (hok:HOk X.prog X.w H' h'):Inv X pins σ H' { s with heap:=h',toks:=t' }:=by
 obtain⟨m,⟨o,es,ep,ho,r⟩,_⟩:=id I.loc
 obtain⟨sl,hL⟩:=u.any ho I.free (by simp)
 exact I.step (g':=s.gens) (d':=s.drawn) (ch:=[]) (fun _ z=>nomatch z) (fun b o _ hb _ e n=>u.keep b o e n hb (by simp)) (fun b o _ hb _ e n=>u.slot b o e n hb (by simp)) (fun b o _ e n=>u.free b o e n (by simp)) (fun b o _ e=>u.there b o e (by simp)) u.tups u.frzs u.tbls (fun m' hm=>by
   obtain⟨o',es',ep',ho',r'⟩:=hm
   rw[ho] at ho';cases ho'
   exact⟨_,es',ep',hL,r'⟩) hok I.bare
theorem Inv.call {g':Array GenState}{t':Nat}{d':Drawn}{ch:List Addr}(I:Inv X pins σ H s) (u:Un (frs X.stack) ch H H' s.heap h') (hok:HOk X.prog X.w H' h') (hg:AllBare g')
   (hch:∀b∈ch,(b∈X.ex∨X.s₀.heap.objs.size<=b)/\b≠X.env.locals/\(∀x c,X.env.cells.lookup x=some c->c≠b)/\∀p∈X.pn++pins,p.1≠b) :
   Inv X pins σ H' { s with heap:=h',gens:=g',drawn:=d',toks:=t' }:=by
 obtain⟨m,⟨o,es,ep,ho,r⟩,_⟩:=id I.loc
 obtain⟨sl,hL⟩:=u.any ho I.free fun z=>(hch _ z).2.1 rfl
 exact I.step (ch:=ch) hch (fun b o hL hb hc e n=>u.keep b o e n (fun z=>(yX.mp (I.stkSub b z)).elim hL hb) hc) (fun b o _ _ hc e n=>u.any e n hc) (fun b o hc e n=>u.free b o e n hc) (fun b o hc e=>u.there b o e hc) u.tups u.frzs u.tbls (fun m' hm=>by
   obtain⟨o',es',ep',ho',r'⟩:=hm
   rw[ho] at ho';cases ho'
   exact⟨_,es',ep',hL,r'⟩) hok hg
theorem Inv.turned {t':Nat}{it:Addr}(I:Inv X pins σ H s) (k:∀b o,b≠it->s.heap.get? b=some o->h'.get? b=some o) (hn:H it=none) (hL:it≠X.env.locals)
   (h1:it∈X.ex∨X.s₀.heap.objs.size<=it) (h2:∀x c,X.env.cells.lookup x=some c->c≠it) (h3:∀p∈X.pn++pins,p.1≠it):Inv X pins σ H { s with heap:=h',toks:=t' }:=by
 have nit:∀b u,H b=some u->b≠it:=fun b u e z=>by rw[z,hn] at e;cases e
 refine I.step (g':=s.gens) (d':=s.drawn) (ch:=[it]) (fun b hb=>?_) (fun b o _ _ hc e _=>k b o (fun z=>hc (by simp[z])) e) (fun b o _ _ hc e _=>⟨o.slots,k b o (fun z=>hc (by simp[z])) e⟩) (fun _ _ _ _ n=>n)
   (fun b o hc e=>⟨o,k b o (fun z=>hc (by simp[z])) e⟩) (fun _ _ e=>e) (fun _ _ _ e=>e) (fun b ps e=>⟨#[],by rw[e];simp⟩) (fun m hm=>?_) (fun b u e=>?_) I.bare
 · have e:b=it:=by simpa using hb
   subst e
   exact⟨h1,hL,h2,h3⟩
 · obtain⟨o,es,ep,ho,r⟩:=hm
   exact⟨o,es,ep,k _ o (b4K hL) ho,r⟩
 · refine(I.hok b u e).stay (fun c v hc q=>k c v ?_ q) (fun _ q=>q) fun _ _ q=>q
   rcases hc with z | z
   · rw[z];exact nit b u e
   · exact nit c _ z
theorem Inv.tok (I:Inv X pins σ H s) (t:Nat):Inv X pins σ H { s with toks:=t }:=I.un (h':=s.heap) (t':=t) Un.refl I.hok
theorem Inv.kept {t':Nat}(I:Inv X pins σ H s) (k:∀b u,s.heap.get? b=some u->h'.get? b=some u):Inv X pins σ H { s with heap:=h',toks:=t' }:=I.un (Un.kept k) (I.hok.kept k)
theorem Inv.laid {a:Addr}{o:HO}{t':Nat}(I:Inv X pins σ H s) (k:∀b u,s.heap.get? b=some u->h'.get? b=some u) (hp:s.heap.objs.size<=a) (new:ObjOk X.prog X.w (upd H a o) h' a o) :
   Inv X pins σ (upd H a o) { s with heap:=h',toks:=t' }:=I.un (Un.laid k hp (I.hok.fresh hp)) (I.hok.laid k hp new)
theorem Inv.write {x e:Addr}{o:HO}{t':Nat}(I:Inv X pins σ H s) (mu:Mut (H x)) (he:e=x∨H e=some (.own x)) (k:∀b u,b≠e->s.heap.get? b=some u->h'.get? b=some u) (heo:∃u,h'.get? e=some u)
   (new:ObjOk X.prog X.w (upd H x o) h' x o):Inv X pins σ (upd H x o) { s with heap:=h',toks:=t' }:=I.un (Un.write mu he k heo) (I.hok.write mu he k heo new)
theorem Inv.weak {σ':List (Option V)}(I:Inv X pins σ H s) (hl:σ'.length=σ.length) (w:∀(i:Nat) v,σ'[i]?=some (some v)->σ[i]?=some (some v)):Inv X pins σ' H s:=
 ⟨I.ok,I.os,I.bare,I.base,let ⟨m,hn,hl'⟩:=I.loc;⟨m,hn,fun i x v e1 e2 e3=>hl' i x v e1 (w i v e2) e3⟩,I.cell,I.free,I.freeC,I.pin,I.hok,hl.trans I.len⟩
theorem Inv.pins_of {pins':List (Addr×Obj)}(I:Inv X pins σ H s) (h:∀p∈pins',s.heap.get? p.1=some p.2/\H p.1=none/\p.1≠X.env.locals/\p.1∉X.fs/\∀v,p.2.data≠.cell v):Inv X pins' σ H s:=
 ⟨I.ok,I.os,I.bare,I.base,I.loc,I.cell,I.free,I.freeC,fun p hp=>(yW.mp hp).elim (fun z=>I.pin p (zA _ z)) (h p),I.hok,I.len⟩
theorem VN {N:List Str}(hN:N.Nodup) {i j:Nat}{x:Str}(a:N[i]?=some x) (b:N[j]?=some x):i=j:=by
 obtain⟨h1,e1⟩:=yT.mp a
 obtain⟨h2,e2⟩:=yT.mp b
 exact(List.getElem_inj hN).mp (e1.trans e2.symm)
theorem cE {M:Model}{A:Around}{E:Value->Shared->Prop}{i:Nat}{x:Str}{v:V}{u:Value}{Q:Unit->Shared->Prop}(I:Inv X pins σ H s) (hN:X.N.Nodup) (hi:X.N[i]?=some x) (hx:Loc X.env.scope x) (r:RelV v u)
   (h:∀s',Inv X pins (σ.set i (some v)) H s'->(∃a,Heap.SameBut a s.heap s'.heap/\(a=X.env.locals∨X.env.cells.lookup x=some a))->Q () s') (hf:X.fn x=true∨X.env.scope.names.lookup x=some .local:=by first | exact .inl rfl | exact .inr rfl | assumption):wpAny M A (storeName X.env x u) Q E s:=by
 obtain⟨m,hn,hl⟩:=id I.loc
 have hcls:(X.env.scope.kind==.class||(X.env.scope.kind==.module&&X.env.locals != X.env.globals))=false:=by rw[I.ok.kind];rfl
 have hiσ:i < σ.length:=by rw[I.len];exact(yT.mp hi).1
 have cne:=I.cne
 have tracked:∀{a:Addr}{h':Heap},(∃o,s.heap.get? a=some o/\H a=none)->Heap.SameBut a s.heap h'->HOk X.prog X.w H h':=fun {a h'} ha hs b ob e=>by
   obtain⟨_,_,hfree⟩:=ha
   refine(I.hok b ob e).stay (fun c w' hc q=>(hs.2 c ?_).trans q) (fun _ q=>q) fun _ _ q=>q
   rintro rfl
   rcases hc with rfl | hc
   · rw[hfree] at e;cases e
   · rw[hfree] at hc;cases hc
 rcases hx with hk | hk
 · refine wpAny_storeName_local hk hn (fun h' hn' hs=>?_) hcls
   obtain⟨oL,_,_,hoL,_⟩:=id hn
   refine h _ ⟨I.ok,I.os,I.bare,⟨fun b o e n hb hx=>?_,fun b o e n hb hx=>?_,I.base.free,fun b o e hx=>?_,I.base.tups,I.base.frzs,I.base.tbls⟩,⟨_,hn',fun j y v' e1 e2 e3=>?_⟩,fun y c e=>?_,I.free,I.freeC,fun p hp=>?_,tracked ⟨oL,hoL,I.free⟩ hs,by simpa using I.len⟩ ⟨_,hs,.inl rfl⟩
   · exact(hs.2 b (zC (zP (zM e) I.ok.above))).trans (I.base.keep b o e n hb hx)
   · obtain⟨sl,e1⟩:=I.base.slot b o e n hb hx
     exact⟨sl,(hs.2 b (zC (zP (zM e) I.ok.above))).trans e1⟩
   · obtain⟨o',e1⟩:=I.base.there b o e hx
     exact⟨o',(hs.2 b (zC (zP (zM e) I.ok.above))).trans e1⟩
   · by_cases hj:j=i
     · subst hj
       rw[hi] at e1;cases e1
       rw[List.getElem?_set_self hiσ] at e2
       cases e2
       exact⟨u,r,.inl ⟨hk,by simp⟩⟩
     · rw[b5Z (b4K hj)] at e2
       obtain⟨u',r',q⟩:=hl j y v' e1 e2 e3
       refine⟨u',r',?_⟩
       rcases q with ⟨k,e⟩ | ⟨k,c,e,z⟩
       · refine .inl ⟨k,?_⟩
         have:y≠x:=fun e=>hj (VN hN e1 (e▸hi))
         simp[this,e]
       · exact .inr ⟨k,c,e,z.sameBut hs (cne y c e)⟩
   · obtain⟨w',z⟩:=I.cell y c e
     exact⟨w',z.sameBut hs (cne y c e)⟩
   · obtain⟨e,n,ne,nf,d⟩:=I.pin p hp
     exact⟨(hs.2 p.1 ne).trans e,n,ne,nf,d⟩
 · have hfn:X.fn x=true:=by
     rcases hf with z | z
     · exact z
     · rw[z] at hk;cases hk
   obtain⟨c,hc⟩:=I.ok.has x (.inl hk)
   obtain⟨w',z⟩:=I.cell x c hc
   refine wpAny_storeName_cell I.ok.kind hk hc z (fun h' hc' hs=>?_)
   obtain⟨oc,hoc,hocd⟩:=id z
   refine h { s with heap:=h' } ⟨I.ok,I.os,I.bare,⟨fun b o e n hb hx=>?_,fun b o e n hb hx=>?_,I.base.free,fun b o e hx=>?_,I.base.tups,I.base.frzs,I.base.tbls⟩,⟨m,hn.sameBut hs (b4K (cne x c hc)),fun j y v' e1 e2 e3=>?_⟩,fun y c' e=>?_,I.free,I.freeC,fun p hp=>?_,tracked ⟨oc,hoc,I.freeC x c hc⟩ hs,by simpa using I.len⟩ ⟨c,hs,.inr hc⟩
   · exact(hs.2 b (zC (zP (zM e) (I.ok.cab x c hfn hc)))).trans (I.base.keep b o e n hb hx)
   · obtain⟨sl,e1⟩:=I.base.slot b o e n hb hx
     exact⟨sl,(hs.2 b (zC (zP (zM e) (I.ok.cab x c hfn hc)))).trans e1⟩
   · obtain⟨o',e1⟩:=I.base.there b o e hx
     exact⟨o',(hs.2 b (zC (zP (zM e) (I.ok.cab x c hfn hc)))).trans e1⟩
   · by_cases hj:j=i
     · subst hj
       rw[hi] at e1;cases e1
       rw[List.getElem?_set_self hiσ] at e2
       cases e2
       exact⟨u,r,.inr ⟨.inl hk,c,hc,hc'⟩⟩
     · rw[b5Z (b4K hj)] at e2
       obtain⟨u',r',q⟩:=hl j y v' e1 e2 e3
       refine⟨u',r',?_⟩
       rcases q with q | ⟨k,c',e,z'⟩
       · exact .inl q
       · refine .inr ⟨k,c',e,z'.sameBut hs ?_⟩
         rintro rfl
         exact hj (VN hN e1 (I.ok.inj _ _ _ e hc▸hi))
   · by_cases hcc:c'=c
     · subst hcc;exact⟨_,hc'⟩
     · obtain⟨w2,z2⟩:=I.cell y c' e
       exact⟨w2,z2.sameBut hs hcc⟩
   · obtain⟨e,n,ne,nf,d⟩:=I.pin p hp
     refine⟨(hs.2 p.1 ?_).trans e,n,ne,nf,d⟩
     intro q
     rw[q,hoc] at e
     have q':oc=p.2:=Option.some.inj e
     exact d w' (by rw[← q'];exact hocd)
theorem FO {M:Model}{A:Around}{E:Value->Shared->Prop}{i:Nat}{x:Str}{v:V}{u:Value}{Q:Unit->Shared->Prop}(I:Inv X pins σ H s) (hN:X.N.Nodup) (hi:X.N[i]?=some x) (hx:Loc X.env.scope x) (r:RelV v u)
   (h:∀s',Inv X pins (σ.set i (some v)) H s'->Q () s') (hf:X.fn x=true∨X.env.scope.names.lookup x=some .local:=by first | exact .inl rfl | exact .inr rfl | assumption):wpAny M A (storeName X.env x u) Q E s:=
 cE I hN hi hx r (fun s' I' _=>h s' I') hf
theorem Inv.call' {s':Shared}{ch:List Addr}(I:Inv X pins σ H s) (ho:s'.os=s.os) (u:Un (frs X.stack) ch H H' s.heap s'.heap) (hok:HOk X.prog X.w H' s'.heap) (hg:AllBare s'.gens)
   (hch:∀b∈ch,(b∈X.ex∨X.s₀.heap.objs.size<=b)/\b≠X.env.locals/\(∀x c,X.env.cells.lookup x=some c->c≠b)/\∀p∈X.pn++pins,p.1≠b):Inv X pins σ H' s':=by
 obtain⟨h',g',d',t',o'⟩:=s'
 have e:o'=s.os:=ho
 subst e
 exact I.call (g':=g') (t':=t') (d':=d') u hok hg hch
end
abbrev XK:=Value->Option Addr->Hp->Prop
abbrev St:=List (Option V)
abbrev VK:=V->Hp->Prop
abbrev TE:=St->Hp->VK->Prop
abbrev TT:=St->Hp->(Bool->Hp->Prop)->Prop
abbrev TA:=St->Hp->(List V->Hp->Prop)->Prop
structure Ends where
 nx:St->Hp->Prop
 rt:VK
 bk:St->Hp->Prop:=fun _ _=>False
 ct:St->Hp->Prop:=fun _ _=>False
abbrev TS:=Ends->St->Hp->Prop
def EP (X:Cx) (pins:List (Addr×Obj)) (σ:St) (Q:VK) (u:Value) (s':Shared):Prop:=∃v H',Inv X pins σ H' s'/\RelV v u/\Q v H'
def TP (X:Cx) (pins:List (Addr×Obj)) (σ:St) (Q:Bool->Hp->Prop) (b:Bool) (s':Shared):Prop:=∃H',Inv X pins σ H' s'/\Q b H'
def AP (X:Cx) (pins:List (Addr×Obj)) (σ:St) (Q:List V->Hp->Prop) (us:List Value) (s':Shared):Prop:=∃vs H',Inv X pins σ H' s'/\Vals vs us/\Q vs H'
def SP (X:Cx) (pins:List (Addr×Obj)) (D:Ends) (f:Flow) (s':Shared):Prop:=
 match f with
 | .next=>∃σ' H',Inv X pins σ' H' s'/\D.nx σ' H'
 | .brk=>∃σ' H',Inv X pins σ' H' s'/\D.bk σ' H'
 | .cont=>∃σ' H',Inv X pins σ' H' s'/\D.ct σ' H'
 | .ret u=>∃v σ' H',Inv X pins σ' H' s'/\RelV v u/\D.rt v H'
def PE (X:Cx) (e:Expr) (t:TE):Prop:=
 ∀(pins:List (Addr×Obj)) (s:Shared) (σ:St) (H:Hp) (Q:VK),Inv X pins σ H s->t σ H Q->wpAny (model X.prog X.w) X.A (eval e X.env) (EP X pins σ Q) X.xe s
def PT (X:Cx) (e:Expr) (t:TT):Prop:=
 ∀(pins:List (Addr×Obj)) (s:Shared) (σ:St) (H:Hp) (Q:Bool->Hp->Prop),Inv X pins σ H s->t σ H Q->wpAny (model X.prog X.w) X.A (isTrue e X.env (eval e X.env)) (TP X pins σ Q) X.xe s
def PW (X:Cx) (e:Expr) (t:TT):Prop:=
 ∀(whole:Sem Value) (pins:List (Addr×Obj)) (s:Shared) (σ:St) (H:Hp) (Q:Bool->Hp->Prop),Inv X pins σ H s->t σ H Q->wpAny (model X.prog X.w) X.A (isTrue e X.env whole) (TP X pins σ Q) X.xe s
theorem PW.pt {X:Cx}{e:Expr}{t:TT}(h:PW X e t):PT X e t:=h _
def PA (X:Cx) (es:List Expr) (t:TA):Prop:=
 ∀(pos:Pos) (pins:List (Addr×Obj)) (s:Shared) (σ:St) (H:Hp) (Q:List V->Hp->Prop),Inv X pins σ H s->t σ H Q->wpAny (model X.prog X.w) X.A (spliced (backTo pos (starEach es X.env))) (AP X pins σ Q) X.xe s
def PS (X:Cx) (st:Stmt) (t:TS):Prop:=
 ∀(pins:List (Addr×Obj)) (s:Shared) (σ:St) (H:Hp) (D:Ends),Inv X pins σ H s->t D σ H->wpAny (model X.prog X.w) X.A (exec st X.env) (SP X pins D) X.xe s
def PSs (X:Cx) (st:List Stmt) (t:TS):Prop:=
 ∀(pins:List (Addr×Obj)) (s:Shared) (σ:St) (H:Hp) (D:Ends),Inv X pins σ H s->t D σ H->wpAny (model X.prog X.w) X.A (execs st X.env) (SP X pins D) X.xe s
theorem thn {α:Type}{t:Sem α}{Q Q':α->Shared->Prop}{M:Model}{A:Around}{E:Value->Shared->Prop}{s:Shared}(h:wpAny M A t Q E s) (hQ:∀a s,Q a s->Q' a s):wpAny M A t Q' E s:=wpAny_mono h hQ fun _ _ x=>x
section
variable {X:Cx}
def cF (i:Nat):TE:=fun σ H Q=>∃v,σ[i]?=some (some v)/\Q v H
def tC (v:V):TE:=fun _ H Q=>Q v H
theorem fM {i:Nat}{x:Str}{pos:Pos}(hN:X.N[i]?=some x) (hv:Vis X.env.scope x) (hd:(x==("__debug__":Str))=false:=by decide) (hcd:(x==("__classdict__":Str))=false:=by decide):PE X (.Name x pos) (cF i):=by
 intro pins s σ H Q I h
 obtain⟨v,e,h⟩:=h
 obtain⟨m,hn,hl⟩:=I.loc
 obtain⟨u,r,l⟩:=hl i x v hN e hv
 have fin:EP X pins σ Q u s:=⟨v,H,I,r,h⟩
 rcases l with ⟨hk,hm⟩ | ⟨hk,c,hc,hcell⟩
 · exact wpAny_Name (wpAny_loadName_local I.ok.kind hk hn hm fin) hd
 · rcases hk with hk | hk
   · exact wpAny_Name (wpAny_loadName_cell I.ok.kind hk hc hcell fin) hd
   · exact wpAny_Name (wpAny_loadName_free I.ok.kind hk hc hcell fin hcd) hd
theorem qM {i j pos}:PE X (.Constant (.int i) j pos) (tC (.int i)):=fun _ _ _ H _ I h=>wpAny_Constant_int ⟨.int i,H,I.tok _,⟨_,rfl⟩,h⟩
theorem uM {b j pos}:PE X (.Constant (.bool b) j pos) (tC (.bl b)):=fun _ _ _ H _ I h=>Constant_bool ⟨.bl b,H,I,rfl,h⟩
theorem qN {j pos}:PE X (.Constant .none j pos) (tC .non):=fun _ _ _ H _ I h=>Constant_none ⟨.non,H,I,rfl,h⟩
theorem qO {x j pos}:PE X (.Constant (.str x) j pos) (tC (.str x)):=fun _ _ _ H _ I h=>Calls.Constant_str ⟨.str x,H,I.tok _,⟨_,rfl⟩,h⟩
def Gl (X:Cx) (x:Str):Prop:=X.env.kindOf x=some .globalImplicit
theorem P0 {E:Value->Shared->Prop}{pins:List (Addr×Obj)}{s:Shared}{σ:St}{H:Hp}{x:Str}{u:Value}{pos:Pos}{Q:Value->Shared->Prop}(I:Inv X pins σ H s) (hg:Gl X x) (hm:X.mg x=some u) (h:Q u s)
   (hd:(x==("__debug__":Str))=false:=by decide):wpAny (model X.prog X.w) X.A (eval (.Name x pos) X.env) Q E s:=
 Calls.Name_function_global I.ok.kind hg (Calls.loadGlobal_global (by rw[I.ok.glob];exact I.mod.glob.keeps I.bk) hm h) hd
theorem HK {E:Value->Shared->Prop}{pins:List (Addr×Obj)}{s:Shared}{σ:St}{H:Hp}{x:Str}{u:Value}{pos:Pos}{Q:Value->Shared->Prop}(I:Inv X pins σ H s) (hg:Gl X x) (hm:X.mg x=none) (hv:bootBuiltins x=some u) (h:Q u s)
   (hn:x ≠ "__name__" := by decide) (hd:(x==("__debug__":Str))=false:=by decide):wpAny (model X.prog X.w) X.A (eval (.Name x pos) X.env) Q E s:=by
 obtain⟨mb,h1,h2⟩:=I.mod.blt
 exact Calls.Name_function_global I.ok.kind hg (Calls.loadGlobal_builtin (by rw[I.ok.glob];exact I.mod.glob.keeps I.bk) hm (by rw[I.ok.blt];exact h1.keeps I.bk) ((h2 x hn).trans hv) h) hd
theorem HL {x:Str}{v:V}{u:Value}{pos:Pos}(hg:Gl X x) (hm:X.mg x=none) (hv:bootBuiltins x=some u) (r:RelV v u) (hn:x ≠ "__name__" := by decide) (hd:(x==("__debug__":Str))=false:=by decide):PE X (.Name x pos) (tC v):=
 fun _ _ _ H _ I h=>HK I hg hm hv ⟨v,H,I,r,h⟩ hn hd
variable {a b:Expr}{ta tb:TE}{pos:Pos}
def PC (X:Cx) (op:CmpOp) (a b:Expr) (t:TE):Prop:=
 ∀(pins:List (Addr×Obj)) (s:Shared) (σ:St) (H:Hp) (Q:VK),Inv X pins σ H s->t σ H Q ->
   wpAny (model X.prog X.w) X.A (eval a X.env) (fun v s₁=>wpAny (model X.prog X.w) X.A (eval b X.env) (fun u s₂=>wpAny (model X.prog X.w) X.A (compareOp op v u) (EP X pins σ Q) X.xe s₂) X.xe s₁) X.xe s
def tB (t:TE):TT:=fun σ H Q=>t σ H fun x H1=>∃c,x = .bl c/\Q c H1
theorem TK {op:CmpOp}{t:TE}(h:PC X op a b t) (h1:behindInMarks op b=false:=by first | exact nobehind _ (by decide) (by decide) | rfl):PT X (.Compare a [op] [b] pos) (tB t):=by
 intro pins s σ H Q I hw
 refine wpAny_isTrue_Compare1 (thn (h pins s σ H _ I hw) fun v s1 h1=>thn h1 fun u s2 h2=>thn h2 fun c s3 ⟨x,H1,I1,r1,q1⟩=>?_) h1
 obtain⟨d,rfl,q⟩:=q1
 cases r1
 exact wpAny_truthy_bool ⟨H1,I1,q⟩
theorem qP {e:Expr}{t:TE}(h:PE X e t) (he:∀whole,isTrue e X.env whole=(do let v ← whole;standAt e.pos;holding [v] (truthy v)):=by intro _;rfl):PT X e (tB t):=by
 intro pins s σ H Q I hw
 refine isTrue_plain (thn (h pins s σ H _ I hw) fun v s1 ⟨x,H1,I1,r1,q1⟩=>?_) (he _)
 obtain⟨d,rfl,q⟩:=q1
 cases r1
 exact wpAny_truthy_bool ⟨H1,I1,q⟩
variable {tA tB':TT}{rest:List Expr}
def uN (t u:TT):TT:=fun σ H Q=>t σ H fun c H1=>if c=true then u σ H1 Q else Q false H1
def tOr (t u:TT):TT:=fun σ H Q=>t σ H fun c H1=>if c=true then Q true H1 else u σ H1 Q
def uO (t:TT):TT:=fun σ H Q=>t σ H fun c H1=>Q (!c) H1
theorem pw_and1 (ha:PT X a tA):PW X (.BoolOp .And [a] pos) tA:=by
 intro wh pins s σ H Q I h
 refine isTrue_and (thn (ha pins s σ H Q I h) fun c s1 e=>?_)
 cases c with
 | true=>exact isTrue_and_nil e
 | false=>exact e
theorem pw_or1 (ha:PT X a tA):PW X (.BoolOp .Or [a] pos) tA:=by
 intro wh pins s σ H Q I h
 refine isTrue_or (thn (ha pins s σ H Q I h) fun c s1 e=>?_)
 cases c with
 | false=>exact isTrue_or_nil e
 | true=>exact e
theorem pw_and (ha:PT X a tA) (hb:PW X (.BoolOp .And (b::rest) pos) tB'):PW X (.BoolOp .And (a::b::rest) pos) (uN tA tB'):=by
 intro wh pins s σ H Q I h
 refine isTrue_and (thn (ha pins s σ H _ I h) fun c s1 ⟨H1,I1,q1⟩=>?_)
 cases c with
 | true=>exact hb wh pins s1 σ H1 Q I1 q1
 | false=>exact⟨H1,I1,q1⟩
theorem pw_or (ha:PT X a tA) (hb:PW X (.BoolOp .Or (b::rest) pos) tB'):PW X (.BoolOp .Or (a::b::rest) pos) (tOr tA tB'):=by
 intro wh pins s σ H Q I h
 refine isTrue_or (thn (ha pins s σ H _ I h) fun c s1 ⟨H1,I1,q1⟩=>?_)
 cases c with
 | true=>exact⟨H1,I1,q1⟩
 | false=>exact hb wh pins s1 σ H1 Q I1 q1
theorem qQ (ha:PT X a tA):PT X (.UnaryOp .Not a pos) (uO tA):=by
 intro pins s σ H Q I h
 exact isTrue_not (ha pins s σ H (fun c H1=>Q (!c) H1) I h)
def p9 (ta tb:TE):TE:=fun σ H Q=>ta σ H fun x H1=>∃c,x = .bl c/\if c=true then tb σ H1 Q else Q (.bl false) H1
def uP (ta tb:TE):TE:=fun σ H Q=>ta σ H fun x H1=>∃c,x = .bl c/\if c=true then Q (.bl true) H1 else tb σ H1 Q
def pA (ta:TE):TE:=fun σ H Q=>ta σ H fun x H1=>∃c,x = .bl c/\Q (.bl (!c)) H1
theorem qR {op} {t:TE}(h:PE X a t):PE X (.BoolOp op [a] pos) t:=fun pins s σ H Q I hw=>BoolOp_one (h pins s σ H Q I hw)
theorem qS (ha:PE X a ta) (hb:PE X (.BoolOp .And (b::rest) pos) tb):PE X (.BoolOp .And (a::b::rest) pos) (p9 ta tb):=by
 intro pins s σ H Q I h
 refine BoolOp_and (thn (ha pins s σ H _ I h) fun v s1 ⟨x,H1,I1,r1,q1⟩=>?_)
 obtain⟨c,rfl,q1⟩:=q1
 cases r1
 refine wpAny_truthy_bool ?_
 cases c with
 | true=>exact hb pins s1 σ H1 Q I1 q1
 | false=>exact⟨.bl false,H1,I1,rfl,q1⟩
theorem uQ (ha:PE X a ta) (hb:PE X (.BoolOp .Or (b::rest) pos) tb):PE X (.BoolOp .Or (a::b::rest) pos) (uP ta tb):=by
 intro pins s σ H Q I h
 refine BoolOp_or (thn (ha pins s σ H _ I h) fun v s1 ⟨x,H1,I1,r1,q1⟩=>?_)
 obtain⟨c,rfl,q1⟩:=q1
 cases r1
 refine wpAny_truthy_bool ?_
 cases c with
 | false=>exact hb pins s1 σ H1 Q I1 q1
 | true=>exact⟨.bl true,H1,I1,rfl,q1⟩
theorem qT (ha:PE X a ta):PE X (.UnaryOp .Not a pos) (pA ta):=by
 intro pins s σ H Q I h
 refine UnaryOp_ (thn (ha pins s σ H _ I h) fun v s1 ⟨x,H1,I1,r1,q1⟩=>?_)
 obtain⟨c,rfl,q1⟩:=q1
 cases r1
 exact not_of (wpAny_truthy_bool ⟨.bl (!c),H1,I1,rfl,q1⟩)
def tIf (t:TT) (ta tb:TE):TE:=fun σ H Q=>t σ H fun c H1=>if c=true then ta σ H1 Q else tb σ H1 Q
theorem fN {c:Expr}(hc:PT X c tA) (ha:PE X a ta) (hb:PE X b tb):PE X (.IfExp c a b pos) (tIf tA ta tb):=by
 intro pins s σ H Q I h
 refine wpAny_IfExp (thn (hc pins s σ H _ I h) fun d s1 ⟨H1,I1,q1⟩=>?_)
 cases d with
 | true=>exact ha pins s1 σ H1 Q I1 q1
 | false=>exact hb pins s1 σ H1 Q I1 q1
end
def SqL (K:Frg) (H:Hp) (a:Addr) (xs:List V):Prop:=
 Rd H a (.lst xs) ∨
   ∃(o:Obj) (its:Array Value) (n:Nat),K.lookup a=some o/\o.cls = .type "list" /\ o.dict=none/\o.data = .seq its n/\its.size<=sizeLine/\Vals xs its.toList
def SqT (K:Frg) (H:Hp) (a:Addr) (xs:List V):Prop:=
 Rd H a (.tup xs) ∨
   ∃(o:Obj) (its:Array Value) (n:Nat),K.lookup a=some o/\o.cls = .type "tuple" /\ o.data = .seq its n/\its.size<=sizeLine/\Vals xs its.toList
def wU:Value->Option V
 | .none=>some .non
 | .bool b=>some (.bl b)
 | .int i _=>some (.int i)
 | .str x _=>some (.str x)
 | .bytes b _=>some (.byt b)
 | .float b _=>some (.flt b)
 | .ref a=>some (.ref a)
 | .type n=>some (.ty n)
 | _=>none
theorem RelV.abs {x:V}{u:Value}(r:RelV x u):wU u=some x:=by
 cases x with
 | non=>cases r;rfl
 | bl _=>cases r;rfl
 | int _=>obtain⟨t,rfl⟩:=r;rfl
 | str _=>obtain⟨t,rfl⟩:=r;rfl
 | byt _=>obtain⟨t,rfl⟩:=r;rfl
 | flt _=>obtain⟨t,rfl⟩:=r;rfl
 | ref _=>cases r;rfl
 | ty _=>cases r;rfl
theorem RelV.inj {x y:V}{u:Value}(r:RelV x u) (q:RelV y u):x=y:=Option.some.inj (r.abs.symm.trans q.abs)
theorem Vals.inj:∀{xs ys:List V}{us:List Value},Vals xs us->Vals ys us->xs=ys
 | _,_,_,.nil,.nil=>rfl
 | _,_,_,.cons r t,.cons r' t'=>by rw[r.inj r',Vals.inj t t']
section
variable {X:Cx}{pins:List (Addr×Obj)}{σ:St}{H:Hp}{s:Shared}{a:Addr}{xs ys:List V}
theorem SqL.of {K:Frg}(h:H a=some (.lst xs)):SqL K H a xs:=.inl (.inl h)
theorem Inv.list (I:Inv X pins σ H s) (h:SqL X.K H a xs):∃its:List Value,Vals xs its/\PlainL s.heap a its.toArray/\xs.length<=sizeLine:=by
 rcases h with h | ⟨o,its,n,hk,hc,hd,hs,hz,r⟩
 · obtain⟨z,its,n,r,e⟩:=h.ok I.hok
   exact⟨its,r,⟨_,n,e,rfl,rfl,rfl⟩,z⟩
 · refine⟨its.toList,r,⟨o,n,I.kIn a o hk,hc,hd,by simpa using hs⟩,?_⟩
   have e:=r.length
   simp only[a4K] at e
   omega
theorem Inv.tuple (I:Inv X pins σ H s) (h:SqT X.K H a xs):∃its:List Value,Vals xs its/\IsTup s.heap a its.toArray/\xs.length<=sizeLine:=by
 rcases h with h | ⟨o,its,n,hk,hc,hs,hz,r⟩
 · obtain⟨z,its,r,p⟩:=h.ok I.hok
   exact⟨its,r,p,z⟩
 · refine⟨its.toList,r,⟨o,I.kIn a o hk,hc,n,by simpa using hs⟩,?_⟩
   have e:=r.length
   simp only[a4K] at e
   omega
theorem Inv.list_inj (I:Inv X pins σ H s) (h:SqL X.K H a xs) (h':SqL X.K H a ys):xs=ys:=by
 obtain⟨its,r,⟨o,n,e,_,_,d⟩,_⟩:=I.list h
 obtain⟨its',r',⟨o',n',e',_,_,d'⟩,_⟩:=I.list h'
 rw[e] at e';cases e'
 rw[d] at d'
 injection d' with d1 _
 have:its=its':=by simpa using congrArg Array.toList d1
 subst this
 exact r.inj r'
theorem Inv.tuple_inj (I:Inv X pins σ H s) (h:SqT X.K H a xs) (h':SqT X.K H a ys):xs=ys:=by
 obtain⟨its,r,⟨o,e,_,n,d⟩,_⟩:=I.tuple h
 obtain⟨its',r',⟨o',e',_,n',d'⟩,_⟩:=I.tuple h'
 rw[e] at e';cases e'
 rw[d] at d'
 injection d' with d1 _
 have:its=its':=by simpa using congrArg Array.toList d1
 subst this
 exact r.inj r'
end
abbrev Cx.wish (X:Cx) (E:Value->Shared->Prop):Cx:={ X with xe:=E }
abbrev Cx.nox (X:Cx):Cx:=X.wish fun _ _=>False
theorem Cx.Ok.wish {X:Cx}(ok:X.Ok) (E:Value->Shared->Prop):(X.wish E).Ok:=
 ⟨ok.mod,ok.kind,ok.glob,ok.blt,ok.above,ok.inj,ok.has,ok.cab,ok.hd,ok.frames,ok.stk,ok.exf,ok.bs,ok.bsz,ok.noex,ok.exfs,ok.funs,ok.frf⟩
theorem Cx.Ok.unwish {X:Cx}{E:Value->Shared->Prop}(ok:(X.wish E).Ok):X.Ok:=
 ⟨ok.mod,ok.kind,ok.glob,ok.blt,ok.above,ok.inj,ok.has,ok.cab,ok.hd,ok.frames,ok.stk,ok.exf,ok.bs,ok.bsz,ok.noex,ok.exfs,ok.funs,ok.frf⟩
section
variable {X:Cx}{pins:List (Addr×Obj)}{σ:St}{H:Hp}{s:Shared}{E:Value->Shared->Prop}
theorem Inv.wish (I:Inv X pins σ H s) (E:Value->Shared->Prop):Inv (X.wish E) pins σ H s:=⟨I.ok.wish E,I.os,I.bare,I.base,I.loc,I.cell,I.free,I.freeC,I.pin,I.hok,I.len⟩
theorem Inv.unwish (I:Inv (X.wish E) pins σ H s):Inv X pins σ H s:=⟨I.ok.unwish,I.os,I.bare,I.base,I.loc,I.cell,I.free,I.freeC,I.pin,I.hok,I.len⟩
theorem SP.unwish {D:Ends}{f:Flow}{s':Shared}(h:SP (X.wish E) pins D f s'):SP X pins D f s':=by
 cases f with
 | next=>obtain⟨σ',H',I,q⟩:=h;exact⟨σ',H',I.unwish,q⟩
 | brk=>obtain⟨σ',H',I,q⟩:=h;exact⟨σ',H',I.unwish,q⟩
 | cont=>obtain⟨σ',H',I,q⟩:=h;exact⟨σ',H',I.unwish,q⟩
 | ret u=>obtain⟨v,σ',H',I,r,q⟩:=h;exact⟨v,σ',H',I.unwish,r,q⟩
theorem PSs.nox {st:List Stmt}{t:TS}(h:PSs X.nox st t):PSs X st t:=fun pins s σ H D I hw=>
 wpAny_mono (h pins s σ H D (I.wish _) hw) (fun _ _ q=>q.unwish) fun _ _ z=>a8K z
end
section
variable {X:Cx}{st:Stmt}{rest:List Stmt}{t u:TS}{e:Expr}{te:TE}{pos:Pos}
def pB:TS:=fun D σ H=>D.nx σ H
def fQ (t u:TS):TS:=fun D σ H=>t { D with nx:=u D } σ H
theorem lL:PSs X [] pB:=fun _ _ σ H _ I h=>wpAny_execs_nil ⟨σ,H,I,h⟩
theorem VO (h1:PS X st t) (h2:PSs X rest u):PSs X (st::rest) (fQ t u):=by
 intro pins s σ H D I h
 refine wpAny_execs_cons (thn (h1 pins s σ H { D with nx:=u D } I h) fun f s1 q=>?_)
 cases f with
 | next=>
   obtain⟨σ',H',I',q⟩:=q
   exact h2 pins s1 σ' H' D I' q
 | ret v=>exact q
 | brk=>exact q
 | cont=>exact q
theorem TL (h1:PS X st t):PSs X [st] t:=by
 intro pins s σ H D I h
 refine wpAny_execs_cons (thn (h1 pins s σ H D I h) fun f s1 q=>?_)
 cases f with
 | next=>exact wpAny_execs_nil q
 | ret v=>exact q
 | brk=>exact q
 | cont=>exact q
theorem Inv.quiet {pins:List (Addr×Obj)}{σ:St}{H:Hp}{s:Shared}(I:Inv X pins σ H s):interactive X.env=false:=by simp[interactive,I.ok.kind]
def pC (te:TE):TS:=fun D σ H=>te σ H fun _ H1=>D.nx σ H1
theorem lM (he:PE X e te) (hs:swapsWith e none pos.line X.env=pure false:=by rfl):PS X (.Expr e pos) (pC te):=by
 intro pins s σ H D I h
 exact wpAny_Expr_any (thn (he pins s σ H _ I h) fun v s1 ⟨x,H1,I1,r1,q1⟩=>⟨σ,H1,I1,q1⟩) I.quiet hs
def qU (te:TE):TS:=fun D σ H=>te σ H D.rt
theorem qV (he:PE X e te):PS X (.Return (some e) pos) (qU te):=by
 intro pins s σ H D I h
 exact wpAny_Return_some (thn (he pins s σ H _ I h) fun v s1 ⟨x,H1,I1,r1,q1⟩=>⟨x,σ,H1,I1,r1,q1⟩)
def qW (c:TT) (t u:TS):TS:=fun D σ H=>c σ H fun b H1=>if b=true then t D σ H1 else u D σ H1
theorem uR {c:Expr}{a b:List Stmt}{tc:TT}(hc:PT X c tc) (ha:PSs X a t) (hb:PSs X b u):PS X (.If c a b pos) (qW tc t u):=by
 intro pins s σ H D I h
 refine wpAny_If (thn (hc pins s σ H _ I h) fun d s1 ⟨H1,I1,q1⟩=>?_)
 cases d with
 | true=>exact ha pins s1 σ H1 D I1 q1
 | false=>exact hb pins s1 σ H1 D I1 q1
def qX:TS:=fun _ _ _=>False
theorem fR:PS X st qX:=fun _ _ _ _ _ _ h=>h.elim
end
abbrev TG:=V->St->Hp->(St->Hp->Prop)->Prop
abbrev TGs:=List V->St->Hp->(St->Hp->Prop)->Prop
def PG (X:Cx) (target:Expr) (t:TG):Prop:=
 ∀(pins:List (Addr×Obj)) (s:Shared) (σ:St) (H:Hp) (v:V) (u:Value) (Q:St->Hp->Prop),Inv X pins σ H s->RelV v u->t v σ H Q ->
   wpAny (model X.prog X.w) X.A (assign target X.env u) (fun _ s'=>∃σ' H',Inv X pins σ' H' s'/\Q σ' H') X.xe s
def PGs (X:Cx) (ts:List Expr) (t:TGs):Prop:=
 ∀(pins:List (Addr×Obj)) (s:Shared) (σ:St) (H:Hp) (vs:List V) (us:List Value) (Q:St->Hp->Prop),Inv X pins σ H s->Vals vs us->t vs σ H Q ->
   wpAny (model X.prog X.w) X.A (assignInOrder ((assignEach ts X.env).map (·.2)) us) (fun _ s'=>∃σ' H',Inv X pins σ' H' s'/\Q σ' H') X.xe s
abbrev qY:=V->V->V->Hp->(Hp->Prop)->Prop
def uS (X:Cx) (t:qY):Prop:=
 ∀(pins:List (Addr×Obj)) (s:Shared) (σ:St) (H:Hp) (o i v:V) (ov iv u:Value) (Q:Hp->Prop),Inv X pins σ H s->RelV o ov->RelV i iv->RelV v u->t o i v H Q ->
   wpAny (model X.prog X.w) X.A (setItem ov iv u) (fun _ s'=>∃H',Inv X pins σ H' s'/\Q H') X.xe s
abbrev TIp:=V->V->Hp->VK->Prop
def PIp (X:Cx) (op:Operator) (t:TIp):Prop:=
 ∀(pins:List (Addr×Obj)) (s:Shared) (σ:St) (H:Hp) (x y:V) (v u:Value) (Q:VK),Inv X pins σ H s->RelV x v->RelV y u->t x y H Q ->
   wpAny (model X.prog X.w) X.A (inplaceOp op v u) (EP X pins σ Q) X.xe s
section
variable {X:Cx}{pos:Pos}
def PD (i:Nat):TG:=fun v σ H Q=>Q (σ.set i (some v)) H
theorem aH {i:Nat}{x:Str}(hN:X.N.Nodup) (hi:X.N[i]?=some x) (hx:Loc X.env.scope x) (hf:X.fn x=true∨X.env.scope.names.lookup x=some .local:=by first | exact .inl rfl | exact .inr rfl | assumption):PG X (.Name x pos) (PD i):=by
 intro pins s σ H v u Q I r h
 exact wpAny_assign_Name (FO I hN hi hx r (fun s' I'=>⟨_,H,I',h⟩) hf)
def qZ:TGs:=fun vs σ H Q=>vs=[]/\Q σ H
def aI (t:TG) (u:TGs):TGs:=fun vs σ H Q=>∃v r,vs=v::r/\t v σ H fun σ' H'=>u r σ' H' Q
theorem lN:PGs X [] qZ:=by
 intro pins s σ H vs us Q I r h
 obtain⟨e,h⟩:=h
 subst e
 cases r
 exact assignInOrder_nil ⟨σ,H,I,h⟩
theorem fS {e:Expr}{es:List Expr}{t:TG}{u:TGs}(h1:PG X e t) (h2:PGs X es u)
   (hs:(assignEach (e::es) X.env).map (·.2)=assign e X.env::(assignEach es X.env).map (·.2):=by rfl):PGs X (e::es) (aI t u):=by
 intro pins s σ H vs us Q I r h
 obtain⟨v,vr,e1,h⟩:=h
 subst e1
 cases r with
 | cons r rr=>
   rw[hs]
   refine assignInOrder_cons (thn (h1 pins s σ H _ _ _ I r h) fun _ s1 ⟨σ1,H1,I1,q1⟩=>?_)
   exact h2 pins s1 σ1 H1 _ _ Q I1 rr q1
def lO (K:Frg) (n:Nat) (t:TGs):TG:=fun v σ H Q=>∃a xs,v = .ref a/\SqT K H a xs/\xs.length=n/\t xs σ H Q
theorem fT {es:List Expr}{k:Nat}{t:TGs}{n:Nat}(hc:X.calm=true) (h:PGs X es t)
   (hn:(assignEach es X.env).length=n:=by rfl) (hst:(assignEach es X.env).findIdx? (·.1)=none:=by rfl):PG X (.Tuple es k pos) (lO X.K n t):=by
 intro pins s σ H v u Q I r hw
 obtain⟨a,xs,e1,hq,hl,hw⟩:=hw
 subst e1
 cases r
 obtain⟨its,rv,ht,hz⟩:=I.tuple hq
 refine assign_Tuple_tuple (I.ok.hd hc) ht (by simp[hn,← hl,rv.length]) hst fun h' hx=>?_
 have I1:Inv X pins σ H { s with heap:=h' }:=I.kept (t':=s.toks) fun b o e=>hx b o (zC (zM e)) e
 exact h pins _ σ H xs _ Q I1 (by simpa using rv) hw
def uT (to ti:TE) (t:qY):TG:=fun v σ H Q=>to σ H fun o H1=>ti σ H1 fun i H2=>t o i v H2 fun H3=>Q σ H3
theorem r6 {o i:Expr}{to ti:TE}{t:qY}(ho:PE X o to) (hi:PE X i ti) (hs:uS X t)
   (ha:∀v,assign (.Subscript o i pos) X.env v=(do
     let ov ← holding [v] (eval o X.env)
     let iv ← holding [v,ov] (eval i X.env)
     standAt pos
     holding [v,ov,iv] (setItem ov iv v)
     release [v,ov,iv] []):=by intro _;rfl):PG X (.Subscript o i pos) (uT to ti t):=by
 intro pins s σ H v u Q I r h
 rw[ha]
 refine zZ (wpAny_holding (thn (ho pins s σ H _ I h) fun ov s1 ⟨x,H1,I1,r1,q1⟩=>?_))
 refine zZ (wpAny_holding (thn (hi pins s1 σ H1 _ I1 q1) fun iv s2 ⟨y,H2,I2,r2,q2⟩=>?_))
 refine zZ (wpAny_standAt (zZ (wpAny_holding (thn (hs pins s2 σ H2 x y v ov iv u _ I2 r1 r2 r q2) fun _ s3 ⟨H3,I3,q3⟩=>?_))))
 exact wpAny_release ⟨σ,H3,I3,q3⟩
def lP (te:TE) (g:TG):TS:=fun D σ H=>te σ H fun x H1=>g x σ H1 D.nx
theorem TM {tg e:Expr}{te:TE}{g:TG}(he:PE X e te) (hg:PG X tg g) (hs:swapsWithSole [tg] e pos.line X.env=pure false:=by rfl) (hw:swappedStores [tg] e X.env=pure none:=by rfl)
   (h1:(assignEach [tg] X.env).map (·.2)=[assign tg X.env]:=by rfl):PS X (.Assign [tg] e pos) (lP te g):=by
 intro pins s σ H D I h
 refine wpAny_Assign_stores (thn (he pins s σ H _ I h) fun v s1 ⟨x,H1,I1,r1,q1⟩=>?_) hs hw
 rw[h1]
 exact thn (hg pins s1 σ H1 x v _ I1 r1 q1) fun _ s2 q=>q
theorem r8 {i:Nat}{x:Str}{e:Expr}{te:TE}{pos':Pos}(hN:X.N.Nodup) (hi:X.N[i]?=some x) (hx:Loc X.env.scope x) (he:PE X e te) (hs:swapsWith e (some (.Name x pos')) pos.line X.env=pure false:=by rfl) (hf:X.fn x=true∨X.env.scope.names.lookup x=some .local:=by first | exact .inl rfl | exact .inr rfl | assumption) :
   PS X (.Assign [.Name x pos'] e pos) (lP te (PD i)):=by
 intro pins s σ H D I h
 refine wpAny_Assign_Name (thn (he pins s σ H _ I h) fun v s1 ⟨y,H1,I1,r1,q1⟩=>?_) hs
 exact FO I1 hN hi hx r1 (fun s2 I2=>⟨_,H1,I2,q1⟩) hf
def uU (i j:Nat) (ta:TA):TS:=fun D σ H=>ta σ H fun vs H1=>∃v w,vs=[v,w]/\D.nx ((σ.set i (some v)).set j (some w)) H1
theorem r9 {i j:Nat}{x y:Str}{a b:Expr}{ta:TA}{px py pt:Pos}{kt k2 pt2} (hc:X.calm=true) (hN:X.N.Nodup) (hi:X.N[i]?=some x) (hj:X.N[j]?=some y) (hij:i≠j)
   (hx:X.env.scope.names.lookup x=some .local) (hy:X.env.scope.names.lookup y=some .local) (ha:PA X [a,b] ta)
   (hw:swappedStores [.Tuple [.Name x px,.Name y py] kt pt] (.Tuple [a,b] k2 pt2) X.env=pure (some [x,y]))
   (hs:swapsWithSole [.Tuple [.Name x px,.Name y py] kt pt] (.Tuple [a,b] k2 pt2) pos.line X.env=pure false:=by rfl) :
   PS X (.Assign [.Tuple [.Name x px,.Name y py] kt pt] (.Tuple [a,b] k2 pt2) pos) (uU i j ta):=by
 intro pins s σ H D I h
 rw[exec_Assign_arm]
 refine zZ (wpAny_standAt ?_)
 rw[hs]
 refine zZ (zY ?_)
 rw[if_neg (by decide)]
 refine zZ (Tuple_ (thn (ha _ pins s σ H _ I h) fun us s1 ⟨vs,H1,I1,r1,q1⟩=>?_))
 obtain⟨v,w,e1,q1⟩:=q1
 subst e1
 obtain⟨u1,u2,rfl,rv,rw'⟩:∃u1 u2,us=[u1,u2]/\RelV v u1/\RelV w u2:=by
   cases r1 with
   | cons p q=>
     cases q with
     | cons p' q'=>
       cases q'
       exact⟨_,_,rfl,p,p'⟩
 refine xM ?_ (by show 2<=sizeLine;decide)
 have I2:Inv X pins σ H1 { s1 with heap:=s1.heap.push { cls:=.type "tuple", data:=.seq [u1,u2].toArray } }:=I1.kept (t':=s1.toks) fun b o e=>zW _ e
 rw[hw]
 refine zZ (zY ?_)
 show wpAny (model X.prog X.w) X.A (do rule "assign.swapped-stores";let items ← unpackItems (.ref s1.heap.objs.size) 2 none;assignInOrder [fun v=>bindName X.env y v,fun v=>bindName X.env x v] items.reverse;pure Flow.next) _ _ _
 refine zZ (wpAny_rule (zZ (unpackItems_tuple (items:=#[u1,u2]) (I.ok.hd hc) (IsTup.new s1.heap _) fun h' hx'=>?_)))
 have I3:=I2.kept (h':=h') (t':=s1.toks) fun b o e=>hx' b o (zC (zM e)) e
 show wpAny _ _ (assignInOrder [fun v=>bindName X.env y v,fun v=>bindName X.env x v] [u2,u1] >>= fun _=>pure Flow.next) _ _ _
 refine zZ (assignInOrder_cons (wpAny_bindName (FO I3 hN hj (.inl hy) rw' (fun s2 I4=>?_) (.inr hy))))
 refine assignInOrder_cons (wpAny_bindName (FO I4 hN hi (.inl hx) rv (fun s3 I5=>assignInOrder_nil (zY ?_)) (.inr hx)))
 rw[List.set_comm _ _ (b4K hij)] at I5
 exact⟨_,H1,I5,q1⟩
def uV (i:Nat) (te:TE) (ti:TIp):TS:=fun D σ H=>∃x,σ[i]?=some (some x)/\te σ H fun y H1=>ti x y H1 fun z H2=>D.nx (σ.set i (some z)) H2
theorem YF {i:Nat}{x:Str}{e:Expr}{te:TE}{op:Operator}{ti:TIp}{pos':Pos}(hN:X.N.Nodup) (hi:X.N[i]?=some x) (hx:Loc X.env.scope x) (he:PE X e te) (ho:PIp X op ti) (hf:X.fn x=true∨X.env.scope.names.lookup x=some .local:=by first | exact .inl rfl | exact .inr rfl | assumption) :
   PS X (.AugAssign (.Name x pos') op e pos) (uV i te ti):=by
 intro pins s σ H D I h
 obtain⟨v,e1,h⟩:=h
 obtain⟨m,hn,hl⟩:=I.loc
 have vis:Vis X.env.scope x:=by rcases hx with k | k;exact .inl k;exact .inr (.inl k)
 obtain⟨u,r,l⟩:=hl i x v hi e1 vis
 refine wpAny_AugAssign_Name ?_
 have go:wpAny (model X.prog X.w) X.A (eval e X.env) (fun w s₂=>wpAny (model X.prog X.w) X.A (inplaceOp op u w) (fun r s₃=>wpAny (model X.prog X.w) X.A (storeName X.env x r) (fun _=>SP X pins D .next) X.xe s₃) X.xe s₂) X.xe s:=by
   refine thn (he pins s σ H _ I h) fun w s1 ⟨y,H1,I1,r1,q1⟩=>?_
   refine thn (ho pins s1 σ H1 v y u w _ I1 r r1 q1) fun z s2 ⟨zv,H2,I2,r2,q2⟩=>?_
   exact FO I2 hN hi hx r2 (fun s3 I3=>⟨_,H2,I3,q2⟩) hf
 rcases l with ⟨hk,hm⟩ | ⟨hk,c,hc,hcell⟩
 · exact wpAny_loadName_local I.ok.kind hk hn hm go
 · rcases hk with hk | hk
   · exact wpAny_loadName_cell I.ok.kind hk hc hcell go
   · rcases hx with k | k
     · have:X.env.scope.names.lookup x=some .free:=hk
       rw[k] at this;cases this
     · have:X.env.scope.names.lookup x=some .free:=hk
       rw[k] at this;cases this
def ipI (f:Int->Int->Int):TIp:=fun x y H Q=>∃i j,x = .int i/\y = .int j/\Q (.int (f i j)) H
theorem rA:PIp X .Add (ipI fun i j=>i+j):=by
 intro pins s σ H x y v u Q I r1 r2 h
 obtain⟨i,j,e1,e2,q⟩:=h
 subst e1;subst e2
 obtain⟨t,rfl⟩:=r1
 obtain⟨t',rfl⟩:=r2
 exact iadd_int ⟨.int _,H,I.tok _,⟨_,rfl⟩,q⟩
def fU (c:TT) (tb:TS):TS:=fun D σ H=>∃W:Nat->St->Hp->Prop,(∃m,W m σ H)/\∀m σ H,W m σ H ->
 c σ H fun b H1=>if b=true then ∃N:St->Hp->Prop,(∀σ' H',N σ' H'->∃m',m' < m/\W m' σ' H')/\tb { D with nx:=N,ct:=N,bk:=D.nx } σ H1 else D.nx σ H1
theorem fV {c:Expr}{body:List Stmt}{tc:TT}{tb:TS}(hp:PassesOwn (model X.prog X.w) X.A X.env X.xe) (hc:PT X c tc) (hb:PSs X body tb):PS X (.While c body [] pos) (fU tc tb):=by
 intro pins s σ H D I h
 obtain⟨W,⟨m0,w0⟩,turn⟩:=h
 refine wpAny_While (codeAny_whileLoop (fun n s'=>∃σ' H',Inv X pins σ' H' s'/\W n σ' H') ?_ m0 ⟨σ,H,I,w0⟩)
 rintro n s1 ⟨σ1,H1,I1,w1⟩
 refine wpAny_passesOwn hp (thn (hc pins s1 σ1 H1 _ I1 (turn n σ1 H1 w1)) fun b s2 ⟨H2,I2,q2⟩=>?_)
 cases b with
 | true=>
   obtain⟨N,hN,q2⟩:=q2
   rw[if_pos rfl]
   refine wpAny_passesOwn hp (thn (hb pins s2 σ1 H2 _ I2 q2) fun f s3 q3=>?_)
   cases f with
   | next=>
     obtain⟨σ3,H3,I3,n3⟩:=q3
     obtain⟨m',hm,w3⟩:=hN σ3 H3 n3
     exact⟨m',hm,σ3,H3,I3,w3⟩
   | cont=>
     obtain⟨σ3,H3,I3,n3⟩:=q3
     obtain⟨m',hm,w3⟩:=hN σ3 H3 n3
     exact⟨m',hm,σ3,H3,I3,w3⟩
   | brk=>exact q3
   | ret v=>exact q3
 | false=>
   rw[if_neg nft]
   exact wpAny_execs_nil ⟨σ1,H2,I2,q2⟩
end
structure It where
 go:Nat->Hp->Prop
 yld:Nat->Hp->V->Hp->Prop
 stop:Nat->Hp->Prop
def L1 (X:Cx) (pins:List (Addr×Obj)) (H:Hp) (b:Addr):Prop:=
 H b=none/\b≠X.env.locals/\b∉X.fs/\(b∈X.ex∨X.s₀.heap.objs.size<=b)/\(∀x c,X.env.cells.lookup x=some c->c≠b)/\∀p∈X.pn++pins,p.1≠b
theorem Inv.fpOk {X:Cx}{pins:List (Addr×Obj)}{σ:St}{H H':Hp}{s:Shared}{b:Addr}(I:Inv X pins σ H s) (hb:s.heap.objs.size<=b) (hn:H' b=none):L1 X pins H' b:=by
 refine⟨hn,a8Z (zP I.lt hb),I.nofs hb,.inr (zN I.sz hb),fun x c e z=>?_,fun p hp z=>?_⟩
 · obtain⟨v,q⟩:=I.cell x c e
   exact absurd (zP q.lt (by rw[z];exact hb)) (yF _)
 · exact absurd (zP (zM (I.pin p hp).1) (by rw[z];exact hb)) (yF _)
structure Turn (P:Program) (w:World) (K:Frg) (tg:Expr) (J:It) (fp:List Addr) (it:Addr) (tn:Nat->Heap->Prop):Prop where
 mem:it∈fp
 obj:∀i h,tn i h->∀b∈fp,∃o,h.get? b=some o/\∀v,o.data≠.cell v
 keep:∀i h h',tn i h->(∀b∈fp,∀o,h.get? b=some o->h'.get? b=some o)->tn i h'
 item:∀(X:Cx),X.prog=P->X.w=w->X.K=K->X.calm=true->∀(i:Nat) (pins:List (Addr×Obj)) (s:Shared) (σ:St) (H:Hp) (E:Value->Shared->Prop),Inv X pins σ H s->(∀b∈fp,L1 X pins H b)->tn i s.heap->J.go i H ->
   wpAny (model P w) X.A (pyNext (.ref it)) (fun r s1=>∃u,r=some u /\
     wpAny (model P w) X.A (letOwnedTupleGo tg (.ref it) u) (fun _ s2=>∃x H',Inv X pins σ H' s2/\RelV x u/\J.yld i H x H'/\tn (i+1) s2.heap/\∀b∈fp,H' b=none) E s1) E s
 done:∀(X:Cx),X.prog=P->X.w=w->X.K=K->X.calm=true->∀(i:Nat) (pins:List (Addr×Obj)) (s:Shared) (σ:St) (H:Hp) (E:Value->Shared->Prop),Inv X pins σ H s->(∀b∈fp,L1 X pins H b)->tn i s.heap->J.stop i H ->
   wpAny (model P w) X.A (pyNext (.ref it)) (fun r s1=>r=none/\Inv X pins σ H s1) E s
 self:∀(A:Around) (i:Nat) (s:Shared) (Q:Value->Shared->Prop) (E:Value->Shared->Prop),tn i s.heap->Q (.ref it) s->wpAny (model P w) A (pyIter (.ref it)) Q E s
abbrev TI:=St->Hp->(It->Hp->Prop)->Prop
def PIE (X:Cx) (pins:List (Addr×Obj)) (σ:St) (tg:Expr) (R:It->Hp->Prop) (itv:Value) (s2:Shared):Prop:=
 ∃(it:Addr) (fp:List Addr) (tn:Nat->Heap->Prop) (J:It) (H':Hp),itv = .ref it/\Inv X pins σ H' s2/\Turn X.prog X.w X.K tg J fp it tn/\tn 0 s2.heap/\(∀b∈fp,L1 X pins H' b)/\R J H'
def PI (X:Cx) (tg iter:Expr) (wi:TI):Prop:=
 ∀(pins:List (Addr×Obj)) (s:Shared) (σ:St) (H:Hp) (R:It->Hp->Prop),Inv X pins σ H s->wi σ H R ->
   wpAny (model X.prog X.w) X.A (eval iter X.env) (fun v s1=>wpAny (model X.prog X.w) X.A (pyIter v) (PIE X pins σ tg R) X.xe s1) X.xe s
theorem aJ {M:Model}{A:Around}{E:Value->Shared->Prop}{s:Shared}{tg:Expr}{it:Addr}{u:Value}{o:Obj}{n:String}{vs:Array Value}{Q:Unit->Shared->Prop}(ho:s.heap.get? it=some o) (hc:o.cls = .type n) (hd:o.data = .fields vs)
   (hn:["enumerate", "zip", "dict_itemiterator", "dict_reverseitemiterator", "odict_iterator", "itertools.zip_longest", "itertools.pairwise"].contains n=false) (hQ:Q () s):wpAny M A (letOwnedTupleGo tg (.ref it) u) Q E s:=by
 unfold letOwnedTupleGo
 cases tg <;> first
   | exact zY hQ
   | (cases u <;> first
       | exact zY hQ
       | (refine zZ (wpAny_load ho ?_)
          rw[hc,hd]
          show wpAny M A (if (["enumerate", "zip", "dict_itemiterator", "dict_reverseitemiterator", "odict_iterator", "itertools.zip_longest", "itertools.pairwise"].contains n&&vs[0]?==some (rawInt _))=true then _ else _) Q E s
          rw[if_neg (by intro h;rw[hn,Bool.false_and] at h;cases h)]
          exact zY hQ))
def Itl (K:Frg) (a:Addr):It:=
 ⟨fun i H=>∃xs x,SqL K H a xs/\xs[i]?=some x,fun i H x H'=>H'=H/\∀xs,SqL K H a xs->xs[i]?=some x,fun i H=>∃xs,SqL K H a xs/\xs.length<=i⟩
def Itt (K:Frg) (a:Addr):It:=
 ⟨fun i H=>∃xs x,SqT K H a xs/\xs[i]?=some x,fun i H x H'=>H'=H/\∀xs,SqT K H a xs->xs[i]?=some x,fun i H=>∃xs,SqT K H a xs/\xs.length<=i⟩
def Itr (lo:Int) (n:Nat):It:=⟨fun i _=>i < n,fun i H x H'=>H'=H/\x = .int (lo+i),fun i _=>n<=i⟩
theorem cG {P:Program}{w:World}{K:Frg}{tg:Expr}(a it:Addr):Turn P w K tg (Itl K a) [it] it (fun i h=>h.IsListIter it a i) where
 mem:=by simp
 obj:=fun i h st b hb=>by
   have e:b=it:=by simpa using hb
   subst e
   obtain⟨o,e,c,d⟩:=st
   exact⟨o,e,fun v z=>by rw[d] at z;cases z⟩
 keep:=fun i h h' st k=>st.at fun o e=>k it (by simp) o e
 item:=by
   intro X hP hw hK hc i pins s σ H E I hf st hg
   subst hP hw hK
   obtain⟨xs,x,hq,hx⟩:=hg
   obtain⟨its,rv,p,hz⟩:=I.list hq
   obtain⟨u,hu,ru⟩:=rv.get hx
   obtain⟨f0,f1,f2,f3,f4,f5⟩:=hf it (by simp)
   refine wpAny_pyNext_list_item st p.isList (x:=u) (by simpa using hu) fun h' st' sb=>?_
   have I1:Inv X pins σ H { s with heap:=h' }:=I.turned (t':=s.toks) (fun b o hb e=>(sb.2 b hb).trans e) f0 f1 f3 f4 f5
   obtain⟨o,e,c,d⟩:=id st'
   exact⟨u,rfl,aJ (s:={ s with heap:=h' }) e c d (by decide) ⟨x,H,I1,ru,⟨rfl,fun ys hy=>by rw[I.list_inj hy hq];exact hx⟩,st',fun b hb=>(hf b hb).1⟩⟩
 done:=by
   intro X hP hw hK hc i pins s σ H E I hf st hg
   subst hP hw hK
   obtain⟨xs,hq,hx⟩:=hg
   obtain⟨its,rv,p,hz⟩:=I.list hq
   obtain⟨f0,f1,f2,f3,f4,f5⟩:=hf it (by simp)
   have hl:=rv.length
   exact wpAny_pyNext_list_end (I.ok.hd hc) st p.isList (by simp;omega) fun h' eb=>⟨rfl,I.turned (t':=s.toks) (fun b o hb e=>eb b o hb e) f0 f1 f3 f4 f5⟩
 self:=fun _ _ _ _ _ st h=>wpAny_pyIter_listiter st h
theorem YG {P:Program}{w:World}{K:Frg}{tg:Expr}(a it:Addr):Turn P w K tg (Itt K a) [it] it (fun i h=>h.IsTupleIter it a i) where
 mem:=by simp
 obj:=fun i h st b hb=>by
   have e:b=it:=by simpa using hb
   subst e
   obtain⟨o,e,c,d⟩:=st
   exact⟨o,e,fun v z=>by rw[d] at z;cases z⟩
 keep:=fun i h h' st k=>st.at fun o e=>k it (by simp) o e
 item:=by
   intro X hP hw hK hc i pins s σ H E I hf st hg
   subst hP hw hK
   obtain⟨xs,x,hq,hx⟩:=hg
   obtain⟨its,rv,p,hz⟩:=I.tuple hq
   obtain⟨u,hu,ru⟩:=rv.get hx
   obtain⟨f0,f1,f2,f3,f4,f5⟩:=hf it (by simp)
   refine wpAny_pyNext_tuple_item st (show s.heap.IsTuple a its.toArray from p) (x:=u) (by simpa using hu) fun h' st' sb=>?_
   have I1:Inv X pins σ H { s with heap:=h' }:=I.turned (t':=s.toks) (fun b o hb e=>(sb.2 b hb).trans e) f0 f1 f3 f4 f5
   obtain⟨o,e,c,d⟩:=id st'
   exact⟨u,rfl,aJ (s:={ s with heap:=h' }) e c d (by decide) ⟨x,H,I1,ru,⟨rfl,fun ys hy=>by rw[I.tuple_inj hy hq];exact hx⟩,st',fun b hb=>(hf b hb).1⟩⟩
 done:=by
   intro X hP hw hK hc i pins s σ H E I hf st hg
   subst hP hw hK
   obtain⟨xs,hq,hx⟩:=hg
   obtain⟨its,rv,p,hz⟩:=I.tuple hq
   obtain⟨f0,f1,f2,f3,f4,f5⟩:=hf it (by simp)
   have hl:=rv.length
   exact wpAny_pyNext_tuple_end (I.ok.hd hc) st (show s.heap.IsTuple a its.toArray from p) (by simp;omega) fun h' eb=>⟨rfl,I.turned (t':=s.toks) (fun b o hb e=>eb b o hb e) f0 f1 f3 f4 f5⟩
 self:=fun _ _ _ _ _ st h=>wpAny_pyIter_tupleiter st h
theorem YH {P:Program}{w:World}{K:Frg}{tg:Expr}(it:Addr) (lo:Int) (n:Nat):Turn P w K tg (Itr lo n) [it] it (fun i h=>IsRangeIter h it (lo+(i:Nat)*1) ((n:Int) - (i:Nat)) 1) where
 mem:=by simp
 obj:=fun i h st b hb=>by
   have e:b=it:=by simpa using hb
   subst e
   exact⟨_,st,fun v z=>by
     have z':Data.fields _=Data.cell v:=z
     cases z'⟩
 keep:=fun i h h' st k=>k it (by simp) _ st
 item:=by
   intro X hP hw hK hc i pins s σ H E I hf st hg
   subst hP hw hK
   obtain⟨f0,f1,f2,f3,f4,f5⟩:=hf it (by simp)
   have W:=Walks.range (prog:=X.prog) (w:=X.w) (I.ok.hd hc) it lo 1 n
   refine W.item i s _ _ hg st fun v h' tk hv st' kk=>?_
   obtain⟨t,rfl⟩:=hv
   have I1:Inv X pins σ H { s with heap:=h',toks:=tk }:=I.turned (fun b o hb e=>kk b o (by simpa using hb) e) f0 f1 f3 f4 f5
   refine⟨_,rfl,aJ (s:={ s with heap:=h',toks:=tk }) (n:= "range_iterator") st' rfl rfl (by decide) ⟨.int (lo+i),H,I1,⟨t,?_⟩,⟨rfl,rfl⟩,st',fun b hb=>(hf b hb).1⟩⟩
   rw[Int.mul_one]
 done:=by
   intro X hP hw hK hc i pins s σ H E I hf st hg
   subst hP hw hK
   obtain⟨f0,f1,f2,f3,f4,f5⟩:=hf it (by simp)
   exact wpAny_pyNext_range_end (I.ok.hd hc) st (by have:n<=i:=hg;omega) fun h' eb=>⟨rfl,I.turned (t':=s.toks) (fun b o hb e=>eb b o hb e) f0 f1 f3 f4 f5⟩
 self:=fun _ _ _ _ _ st h=>wpAny_pyIter_rangeiter st h
section
variable {X:Cx}{tg:Expr}
theorem VP {pins:List (Addr×Obj)}{σ:St}{H:Hp}{s:Shared}{R:It->Hp->Prop}{E:Value->Shared->Prop}{lo hi:Int}{t u v:Tok}{tk:Nat}(I:Inv X pins σ H s) (h1 : -(2 ^ 62)<=lo) (h2:lo < 2 ^ 62) (h3 : -(2 ^ 62)<=hi) (h4:hi < 2 ^ 62)
   (q:R (Itr lo (hi - lo).toNat) H):wpAny (model X.prog X.w) X.A (pyIter (.ref s.heap.objs.size)) (PIE X pins σ tg R) E { s with heap:=s.heap.push { cls:=.type "range", data:=.fields #[.int lo t,.int hi u,.int 1 v] },toks:=tk }:=by
 refine wpAny_pyIter_range (IsRange.new ..) (small_one h1 h2 h3 h4) ?_
 have I1:Inv X pins σ H { s with heap:=s.heap.push { cls:=.type "range", data:=.fields #[.int lo t,.int hi u,.int 1 v] },toks:=tk }:=I.kept fun b o e=>zW _ e
 refine⟨(s.heap.push { cls:=.type "range", data:=.fields #[.int lo t,.int hi u,.int 1 v] }).objs.size,[(s.heap.push { cls:=.type "range", data:=.fields #[.int lo t,.int hi u,.int 1 v] }).objs.size],_,_,H,rfl,
   I1.kept (t':=tk) fun b o e=>zW _ e,YH _ lo (hi - lo).toNat,?_,fun b hb=>?_,q⟩
 · have e1:lo+((0:Nat):Int)*1=lo:=by simp
   have e2:(((hi - lo).toNat:Nat):Int) - ((0:Nat):Int)=Builtin.Range.rangeSize lo hi 1:=by rw[rangeSize_one];split <;> omega
   show IsRangeIter _ _ (lo+((0:Nat):Int)*1) ((((hi - lo).toNat:Nat):Int) - ((0:Nat):Int)) 1
   rw[e1,e2]
   exact yZ _ rfl
 · have e:b=(s.heap.push { cls:=.type "range", data:=.fields #[.int lo t,.int hi u,.int 1 v] }).objs.size:=by simpa using hb
   subst e
   exact I1.fpOk (zR _) (I1.hok.fresh (zR _))
def pD (ta:TA):TI:=fun σ H R=>ta σ H fun vs H1=>∃j:Int,vs=[.int j]/\-(2 ^ 62)<=j/\j < 2 ^ 62/\R (Itr 0 j.toNat) H1
def pE (ta:TA):TI:=fun σ H R=>ta σ H fun vs H1=>∃i j:Int,vs=[.int i,.int j]/\(-(2 ^ 62)<=i/\i < 2 ^ 62/\-(2 ^ 62)<=j/\j < 2 ^ 62)/\R (Itr i (j - i).toNat) H1
theorem cH {a:Expr}{ta:TA}{p pos:Pos}(hg:Gl X "range") (hm:X.mg "range"=none) (ha:PA X [a] ta) (hs:starEach [a] X.env=[(false,eval a X.env)]:=by rfl):PI X tg (.Call (.Name "range" p) [a] [] pos) (pD ta):=by
 intro pins s σ H R I h
 refine Call_ (HK I hg hm boot_range (xH (thn (ha pos pins s σ H _ I h) fun us s1 ⟨vs,H1,I1,r1,q1⟩=>?_) hs rfl))
 obtain⟨j,e,q1,q2,q⟩:=q1
 subst e
 cases r1 with
 | cons r rr=>
   cases rr
   obtain⟨t,rfl⟩:=r
   exact call_range_1 (VP I1 (by omega) (by omega) q1 q2 (by simpa using q))
theorem cI {a b:Expr}{ta:TA}{p pos:Pos}(hg:Gl X "range") (hm:X.mg "range"=none) (ha:PA X [a,b] ta) (hs:starEach [a,b] X.env=[(false,eval a X.env),(false,eval b X.env)]:=by rfl) (hs2:starEach [b] X.env=[(false,eval b X.env)]:=by rfl) :
   PI X tg (.Call (.Name "range" p) [a,b] [] pos) (pE ta):=by
 intro pins s σ H R I h
 refine Call_ (HK I hg hm boot_range (xH (thn (ha pos pins s σ H _ I h) fun us s1 ⟨vs,H1,I1,r1,q1⟩=>?_) (by rw[hs,hs2]) (by rw[hs2];rfl)))
 obtain⟨i,j,e,⟨q1,q2,q3,q4⟩,q⟩:=q1
 subst e
 cases r1 with
 | cons r rr=>
   cases rr with
   | cons r' rr=>
     cases rr
     obtain⟨t,rfl⟩:=r
     obtain⟨t',rfl⟩:=r'
     exact call_range_2 (VP I1 q1 q2 q3 q4 q)
def rB (wi:TI) (g:TG) (tb:TS):TS:=fun D σ H=>wi σ H fun J H1=>∃W:Nat->Nat->St->Hp->Prop,(∃m,W 0 m σ H1)/\∀i m σ H,W i m σ H ->
 (J.stop i H/\D.nx σ H)∨(J.go i H/\∃N:St->Hp->Prop,(∀σ' H',N σ' H'->∃m',m' < m/\W (i+1) m' σ' H')/\∀x H',J.yld i H x H'->g x σ H' fun σ2 H2=>tb { D with nx:=N,ct:=N,bk:=D.nx } σ2 H2)
def NA (fp:List Addr) (h:Heap):List (Addr×Obj):=fp.filterMap fun b=>(h.get? b).map fun o=>(b,o)
theorem E8 {fp:List Addr}{h:Heap}{b:Addr}{o:Obj}(hb:b∈fp) (e:h.get? b=some o):(b,o)∈NA fp h:=List.mem_filterMap.mpr ⟨b,hb,by rw[e];rfl⟩
theorem cJ {fp:List Addr}{h:Heap}{p:Addr×Obj}(hp:p∈NA fp h):p.1∈fp/\h.get? p.1=some p.2:=by
 obtain⟨b,hb,e⟩:=List.mem_filterMap.mp hp
 cases q:h.get? b with
 | none=>rw[q] at e;cases e
 | some o=>
   rw[q] at e
   have e':(b,o)=p:=Option.some.inj e
   subst e'
   exact⟨hb,q⟩
theorem Inv.pinned {pins:List (Addr×Obj)}{σ:St}{H:Hp}{s:Shared}{fp:List Addr}(I:Inv X pins σ H s) (hf:∀b∈fp,L1 X pins H b) (ho:∀b∈fp,∃o,s.heap.get? b=some o/\∀v,o.data≠.cell v):Inv X (pins++NA fp s.heap) σ H s:=
 I.pins_of fun p hp=>(yW.mp hp).elim (fun z=>I.pin p (zB _ z)) fun z=>by
   obtain⟨hb,e⟩:=cJ z
   obtain⟨f0,f1,f2,_⟩:=hf p.1 hb
   obtain⟨o,e',d⟩:=ho p.1 hb
   rw[e] at e';cases e'
   exact⟨e,f0,f1,f2,d⟩
theorem Inv.unpinned {pins pl:List (Addr×Obj)}{σ:St}{H:Hp}{s:Shared}(I:Inv X (pins++pl) σ H s):Inv X pins σ H s:=I.pins_of fun p hp=>I.pin p (zB _ (zA _ hp))
theorem fW {iter:Expr}{body:List Stmt}{wi:TI}{g:TG}{tb:TS}{pos:Pos}(hp:PassesOwn (model X.prog X.w) X.A X.env X.xe) (hc:X.calm=true) (hi:PI X tg iter wi) (hg:PG X tg g) (hb:PSs X body tb)
   (hs:∀x,foldedSetIterable iter X.env x=pure x:=by intro _;rfl):PS X (.For tg iter body [] pos) (rB wi g tb):=by
 intro pins s σ H D I h
 refine wpAny_For (thn (hi pins s σ H _ I h) fun v s1 h1=>thn h1 fun itv s2 h2=>?_) hs
 obtain⟨it,fp,tn,J,H2,e,I2,T,st2,f2,W,⟨m0,w0⟩,turn⟩:=h2
 subst e
 have stat:∀{H':Hp},(∀b∈fp,H' b=none)->∀b∈fp,L1 X pins H' b:=fun hn b hb=>⟨hn b hb,(f2 b hb).2⟩
 refine codeAny_forLoop_any (fun n s'=>∃i σ' H',Inv X pins σ' H' s'/\tn i s'.heap/\(∀b∈fp,H' b=none)/\W i n σ' H') ?_ m0 ⟨0,σ,H2,I2,st2,fun b hb=>(f2 b hb).1,w0⟩
 rintro n s3 ⟨i,σ3,H3,I3,st3,fr3,w3⟩
 rcases turn i n σ3 H3 w3 with ⟨stop,qn⟩ | ⟨go,N,hN,step⟩
 · refine wpAny_passesOwn hp (thn (T.done X rfl rfl rfl hc i pins s3 σ3 H3 X.xe I3 (stat fr3) st3 stop) fun r s4 ⟨hr,I4⟩=>?_)
   subst hr
   exact wpAny_execs_nil ⟨σ3,H3,I4,qn⟩
 · refine wpAny_passesOwn hp (thn (T.item X rfl rfl rfl hc i pins s3 σ3 H3 X.xe I3 (stat fr3) st3 go) fun r s4 ⟨u,hr,h4⟩=>?_)
   subst hr
   refine wpAny_passesOwn hp (thn h4 fun _ s5 ⟨x,H5,I5,r5,y5,st5,fr5⟩=>?_)
   have I5':=I5.pinned (stat fr5) (T.obj _ _ st5)
   refine wpAny_passesOwn hp (thn (hg _ s5 σ3 H5 x u _ I5' r5 (step x H5 y5)) fun _ s6 ⟨σ6,H6,I6,q6⟩=>?_)
   refine wpAny_passesOwn hp (thn (hb _ s6 σ6 H6 _ I6 q6) fun f s7 q7=>?_)
   have again:∀{σ7:St}{H7:Hp},Inv X (pins++NA fp s5.heap) σ7 H7 s7->N σ7 H7->∃m,m < n/\∃i σ' H',Inv X pins σ' H' s7/\tn i s7.heap/\(∀b∈fp,H' b=none)/\W i m σ' H':=fun {σ7 H7} I7 n7=>by
     obtain⟨m',hm,w7⟩:=hN σ7 H7 n7
     refine⟨m',hm,i+1,σ7,H7,I7.unpinned,T.keep _ _ _ st5 fun b hb o e=>(I7.pin (b,o) (zB _ (zB _ (E8 hb e)))).1,fun b hb=>?_,w7⟩
     obtain⟨o,e,d⟩:=T.obj _ _ st5 b hb
     exact(I7.pin (b,o) (zB _ (zB _ (E8 hb e)))).2.1
   cases f with
   | next=>obtain⟨σ7,H7,I7,n7⟩:=q7;exact again I7 n7
   | cont=>obtain⟨σ7,H7,I7,n7⟩:=q7;exact again I7 n7
   | brk=>obtain⟨σ7,H7,I7,q7⟩:=q7;exact⟨σ7,H7,I7.unpinned,q7⟩
   | ret v=>obtain⟨x7,σ7,H7,I7,r7,q7⟩:=q7;exact⟨x7,σ7,H7,I7.unpinned,r7,q7⟩
end
abbrev R2:=V->V->Hp->VK->Prop
def OpR (X:Cx) (f:Value->Value->Sem Value) (r:R2):Prop:=
 ∀(pins:List (Addr×Obj)) (s:Shared) (σ:St) (H:Hp) (x y:V) (v u:Value) (Q:VK),Inv X pins σ H s->RelV x v->RelV y u->r x y H Q ->
   wpAny (model X.prog X.w) X.A (f v u) (EP X pins σ Q) X.xe s
def UnR (X:Cx) (f:Value->Sem Value) (r:V->Hp->VK->Prop):Prop:=
 ∀(pins:List (Addr×Obj)) (s:Shared) (σ:St) (H:Hp) (x:V) (v:Value) (Q:VK),Inv X pins σ H s->RelV x v->r x H Q ->
   wpAny (model X.prog X.w) X.A (f v) (EP X pins σ Q) X.xe s
def BM (X:Cx) (f:Value) (r:List V->Hp->VK->Prop):Prop:=
 ∀(pins:List (Addr×Obj)) (s:Shared) (σ:St) (H:Hp) (xs:List V) (us:List Value) (Q:VK),Inv X pins σ H s->Vals xs us->r xs H Q ->
   wpAny (model X.prog X.w) X.A (call f us) (EP X pins σ Q) X.xe s
def tOp (r:R2) (ta tb:TE):TE:=fun σ H Q=>ta σ H fun x H1=>tb σ H1 fun y H2=>r x y H2 Q
def tUn (r:V->Hp->VK->Prop) (ta:TE):TE:=fun σ H Q=>ta σ H fun x H1=>r x H1 Q
def rI (C:Int->Int->Prop) (g:Int->Int->V):R2:=fun x y H Q=>∃i j,x = .int i/\y = .int j/\C i j/\Q (g i j) H
def rI0 (g:Int->Int->V):R2:=fun x y H Q=>∃i j,x = .int i/\y = .int j/\Q (g i j) H
def rU (g:Int->V):V->Hp->VK->Prop:=fun x H Q=>∃i,x = .int i/\Q (g i) H
section
variable {X:Cx}{a b c:Expr}{ta tb tc:TE}{pos:Pos}
theorem rC (ha:PE X a ta) (hb:PE X b tb) {pins:List (Addr×Obj)}{s:Shared}{σ:St}{H:Hp}{R:V->V->Hp->Prop}(I:Inv X pins σ H s)
   (h:ta σ H fun x H1=>tb σ H1 fun y H2=>R x y H2) {Q:Value->Shared->Prop}{f:Value->Value->Sem Value}
   (hf:∀v u s2 x y H2,Inv X pins σ H2 s2->RelV x v->RelV y u->R x y H2->wpAny (model X.prog X.w) X.A (f v u) Q X.xe s2) :
   wpAny (model X.prog X.w) X.A (eval a X.env) (fun v s₁=>wpAny (model X.prog X.w) X.A (eval b X.env) (fun u s₂=>wpAny (model X.prog X.w) X.A (f v u) Q X.xe s₂) X.xe s₁) X.xe s:=by
 refine thn (ha pins s σ H _ I h) fun v s1 ⟨x,H1,I1,r1,q1⟩=>?_
 refine thn (hb pins s1 σ H1 _ I1 q1) fun u s2 ⟨y,H2,I2,r2,q2⟩=>?_
 exact hf v u s2 x y H2 I2 r1 r2 q2
theorem PF {op:Operator}{r:R2}(ho:OpR X (binaryOp op) r) (ha:PE X a ta) (hb:PE X b tb):PE X (.BinOp a op b pos) (tOp r ta tb):=by
 intro pins s σ H Q I h
 exact wpAny_BinOp (rC ha hb I h fun v u s2 x y H2 I2 rx ry q=>ho pins s2 σ H2 x y v u Q I2 rx ry q)
theorem uW {op:UnaryOp}{r:V->Hp->VK->Prop}(ho:UnR X (unaryOp op) r) (ha:PE X a ta):PE X (.UnaryOp op a pos) (tUn r ta):=by
 intro pins s σ H Q I h
 exact UnaryOp_ (thn (ha pins s σ H _ I h) fun v s1 ⟨x,H1,I1,r1,q1⟩=>ho pins s1 σ H1 x v Q I1 r1 q1)
theorem opI {f:Value->Value->Sem Value}{C:Int->Int->Prop}{g:Int->Int->Int}
   (rule:∀(i j:Int) (t u:Tok) (s:Shared) (Q:Value->Shared->Prop) (E:Value->Shared->Prop),C i j->Q (.int (g i j) s.toks) { s with toks:=s.toks+1 }->wpAny (model X.prog X.w) X.A (f (.int i t) (.int j u)) Q E s) :
   OpR X f (rI C fun i j=>.int (g i j)):=by
 intro pins s σ H x y v u Q I rx ry h
 obtain⟨i,j,rfl,rfl,hc,q⟩:=h
 obtain⟨t,rfl⟩:=rx
 obtain⟨t',rfl⟩:=ry
 exact rule i j t t' s _ _ hc ⟨.int (g i j),H,I.tok _,⟨_,rfl⟩,q⟩
theorem uX {f:Value->Value->Sem Value}{g:Int->Int->Int}
   (rule:∀(i j:Int) (t u:Tok) (s:Shared) (Q:Value->Shared->Prop) (E:Value->Shared->Prop),Q (.int (g i j) s.toks) { s with toks:=s.toks+1 }->wpAny (model X.prog X.w) X.A (f (.int i t) (.int j u)) Q E s) :
   OpR X f (rI0 fun i j=>.int (g i j)):=by
 intro pins s σ H x y v u Q I rx ry h
 obtain⟨i,j,rfl,rfl,q⟩:=h
 obtain⟨t,rfl⟩:=rx
 obtain⟨t',rfl⟩:=ry
 exact rule i j t t' s _ _ ⟨.int (g i j),H,I.tok _,⟨_,rfl⟩,q⟩
theorem rD {f:Value->Value->Sem Value}{g:Int->Int->Bool}
   (rule:∀(i j:Int) (t u:Tok) (s:Shared) (Q:Value->Shared->Prop) (E:Value->Shared->Prop),Q (.bool (g i j)) s->wpAny (model X.prog X.w) X.A (f (.int i t) (.int j u)) Q E s) :
   OpR X f (rI0 fun i j=>.bl (g i j)):=by
 intro pins s σ H x y v u Q I rx ry h
 obtain⟨i,j,rfl,rfl,q⟩:=h
 obtain⟨t,rfl⟩:=rx
 obtain⟨t',rfl⟩:=ry
 exact rule i j t t' s _ _ ⟨.bl (g i j),H,I,rfl,q⟩
def uY (i j:Int):Prop:=0 < j/\j < 1073741824
def uZ (i j:Int):Prop:=0<=j/\j<=1000000/\i.natAbs < 2 ^ 64
theorem rE:OpR X (binaryOp .Add) (rI0 fun i j=>.int (i+j)):=uX fun _ _ _ _ _ _ _ q=>add_int q
theorem rF:OpR X (binaryOp .Sub) (rI0 fun i j=>.int (i - j)):=uX fun _ _ _ _ _ _ _ q=>sub_int q
theorem rG:OpR X (binaryOp .Mod) (rI (fun _ j=>0 < j) fun i j=>.int (i % j)):=opI fun i j _ _ _ _ _ hc q=>by
 have h1:(0:Int) < j:=hc
 exact mod_int' (by omega) (by rw[Int.fmod_eq_emod_of_nonneg i (by omega)];exact q)
theorem rH:OpR X (binaryOp .Pow) (rI uZ fun i j=>.int (i ^ j.toNat)):=opI fun _ _ _ _ _ _ _ hc q=>pow_int_small hc.1 hc.2.1 hc.2.2 q
theorem unI {f:Value->Sem Value}{g:Int->Int}
   (rule:∀(i:Int) (t:Tok) (s:Shared) (Q:Value->Shared->Prop) (E:Value->Shared->Prop),Q (.int (g i) s.toks) { s with toks:=s.toks+1 }->wpAny (model X.prog X.w) X.A (f (.int i t)) Q E s) :
   UnR X f (rU fun i=>.int (g i)):=by
 intro pins s σ H x v Q I rx h
 obtain⟨i,rfl,q⟩:=h
 obtain⟨t,rfl⟩:=rx
 exact rule i t s _ _ ⟨.int (g i),H,I.tok _,⟨_,rfl⟩,q⟩
theorem rJ:UnR X (unaryOp .USub) (rU fun i=>.int (-i)):=unI fun _ _ _ _ _ q=>neg_int q
theorem TN {pins:List (Addr×Obj)}{σ:St}{H:Hp}{s:Shared}{Q:VK}{k k':Bool}(I:Inv X pins σ H s) (q:Q (.bl k) H) (e:k=k'):EP X pins σ Q (.bool k') s:=by
 subst e
 exact⟨.bl k,H,I,rfl,q⟩
theorem v6:OpR X (compareOp .Lt) (rI0 fun i j=>.bl (decide (i < j))):=rD fun _ _ _ _ _ _ _ q=>lt_int q
theorem pF:OpR X (compareOp .LtE) (rI0 fun i j=>.bl (decide (i<=j))):=rD fun _ _ _ _ _ _ _ q=>le_int q
theorem pG:OpR X (compareOp .Gt) (rI0 fun i j=>.bl (decide (j < i))):=rD fun _ _ _ _ _ _ _ q=>gt_int q
theorem cK:OpR X (compareOp .Lt) (fun x y H Q=>∃i j,x = .str i/\y = .str j/\Q (.bl (decide (i.cps.toList < j.cps.toList))) H):=by
 intro pins s σ H x y v u Q I rx ry h
 obtain⟨i,j,rfl,rfl,q⟩:=h
 obtain⟨t,rfl⟩:=rx
 obtain⟨t',rfl⟩:=ry
 exact lt_str (TN I q rfl)
theorem cL:OpR X (compareOp .In) (fun x y H Q=>∃i j,x = .str i/\y = .str j/\Q (.bl (!(Builtin.Str.occurrences j i 0 j.length 1).isEmpty)) H):=by
 intro pins s σ H x y v u Q I rx ry h
 obtain⟨i,j,rfl,rfl,q⟩:=h
 obtain⟨t,rfl⟩:=rx
 obtain⟨t',rfl⟩:=ry
 exact in_str (TN I q rfl)
theorem rK:OpR X (compareOp .Is) (fun x y H Q=>y = .non/\Q (.bl (decide (x = .non))) H):=by
 intro pins s σ H x y v u Q I rx ry h
 obtain⟨rfl,q⟩:=h
 cases ry
 refine is_none_gen (TN I q ?_)
 cases x <;> first
   | (cases rx;rfl)
   | (obtain⟨t,rfl⟩:=rx;rfl)
theorem lQ:OpR X (compareOp .IsNot) (fun x y H Q=>y = .non/\Q (.bl (!decide (x = .non))) H):=by
 intro pins s σ H x y v u Q I rx ry h
 obtain⟨rfl,q⟩:=h
 cases ry
 refine isnot_none_gen (TN I q ?_)
 cases x <;> first
   | (cases rx;rfl)
   | (obtain⟨t,rfl⟩:=rx;rfl)
theorem OpR.or {f:Value->Value->Sem Value}{r r':R2}(h:OpR X f r) (h':OpR X f r'):OpR X f (fun x y H Q=>r x y H Q∨r' x y H Q):=by
 intro pins s σ H x y v u Q I rx ry q
 rcases q with q | q
 · exact h pins s σ H x y v u Q I rx ry q
 · exact h' pins s σ H x y v u Q I rx ry q
theorem EW (b:Expr) {op:CmpOp}(h:op≠.In:=by decide) (h2:op≠.NotIn:=by decide):behindInMarks op b=false:=by
 have e1:(op==CmpOp.In)=false:=by cases op <;> first | rfl | exact absurd rfl h
 have e2:(op==CmpOp.NotIn)=false:=by cases op <;> first | rfl | exact absurd rfl h2
 cases b <;> simp[behindInMarks,e1,e2]
theorem D7 {op:CmpOp}{r:R2}(ho:OpR X (compareOp op) r) (ha:PE X a ta) (hb:PE X b tb) (hm:behindInMarks op b=false):PE X (.Compare a [op] [b] pos) (tOp r ta tb):=by
 intro pins s σ H Q I h
 exact wpAny_Compare1 (rC ha hb I h fun v u s2 x y H2 I2 rx ry q=>ho pins s2 σ H2 x y v u Q I2 rx ry q) hm
def pH (t:TE):TT:=fun σ H Q=>t σ H fun x H'=>∃k,x = .bl k/\Q k H'
theorem BY {op:CmpOp}{r:R2}(ho:OpR X (compareOp op) r) (ha:PE X a ta) (hb:PE X b tb) (hm:behindInMarks op b=false):PT X (.Compare a [op] [b] pos) (pH (tOp r ta tb)):=by
 intro pins s σ H Q I h
 refine wpAny_isTrue_Compare1 (thn (ha pins s σ H _ I h) fun v s1 ⟨x,H1,I1,r1,q1⟩=>thn (hb pins s1 σ H1 _ I1 q1) fun u s2 ⟨y,H2,I2,r2,q2⟩=>
   thn (ho pins s2 σ H2 x y v u _ I2 r1 r2 q2) fun c s3 ⟨z,H3,I3,r3,k,e,q3⟩=>?_) hm
 subst e
 cases r3
 exact wpAny_truthy_bool ⟨H3,I3,q3⟩
def fX (r r':R2) (ta tb tc:TE):TE:=fun σ H Q=>ta σ H fun x H1=>tb σ H1 fun y H2=>r x y H2 fun z H3=>∃k,z = .bl k /\
 (if k=true then tc σ H3 fun w' H4=>r' y w' H4 Q else Q (.bl false) H3)
theorem fY {op op':CmpOp}{r r':R2}(ho:OpR X (compareOp op) r) (ho':OpR X (compareOp op') r') (ha:PE X a ta) (hb:PE X b tb) (hc:PE X c tc)
   (hm:lastMarks [op,op'] [b,c]=false:=by with_unfolding_all rfl):PE X (.Compare a [op,op'] [b,c] pos) (fX r r' ta tb tc):=by
 intro pins s σ H Q I h
 refine Compare_chain (thn (ha pins s σ H _ I h) fun v s1 ⟨x,H1,I1,r1,q1⟩=>chain_link (thn (hb pins s1 σ H1 _ I1 q1) fun u s2 ⟨y,H2,I2,r2,q2⟩=>
   thn (ho pins s2 σ H2 x y v u _ I2 r1 r2 q2) fun d s3 ⟨z,H3,I3,r3,k,e,q3⟩=>?_)) hm
 subst e
 cases r3
 refine wpAny_truthy_bool ?_
 cases k with
 | false=>exact ite_ff ⟨.bl false,H3,I3,rfl,q3⟩
 | true=>exact ite_tt (chain_last (thn (hc pins s3 σ H3 _ I3 q3) fun w' s4 ⟨z',H4,I4,r4,q4⟩=>ho' pins s4 σ H4 y z' u w' Q I4 r2 r4 q4))
theorem PH:(sizeLine:Nat) < 2 ^ 63:=by rw[sizeLine_eq];decide
theorem YI:OpR X (binaryOp .Add) (fun x y H Q=>∃i j,x = .str i/\y = .str j/\i.length+j.length<=sizeLine/\Q (.str (i++j)) H):=by
 intro pins s σ H x y v u Q I rx ry h
 obtain⟨i,j,rfl,rfl,hz,q⟩:=h
 obtain⟨t,rfl⟩:=rx
 obtain⟨t',rfl⟩:=ry
 exact add_str (fun t' tk=>⟨.str (i++j),H,I.tok _,⟨_,rfl⟩,q⟩) hz
theorem F4 {x:V}{us:List Value}(r:Vals [x] us):∃u,us=[u]/\RelV x u:=by
 cases r with
 | cons r1 r2=>cases r2;exact⟨_,rfl,r1⟩
theorem pI {x y:V}{us:List Value}(r:Vals [x,y] us):∃u w',us=[u,w']/\RelV x u/\RelV y w':=by
 cases r with
 | cons r1 r2=>
   cases r2 with
   | cons r3 r4=>cases r4;exact⟨_,_,rfl,r1,r3⟩
theorem cM:BM X (.type "int") (fun xs H Q=>(∃i,xs=[.int i]/\Q (.int i) H)∨∃k,xs=[.bl k]/\Q (.int (if k then 1 else 0)) H):=by
 intro pins s σ H xs us Q I r h
 rcases h with ⟨i,rfl,q⟩ | ⟨k,rfl,q⟩
 · obtain⟨u,rfl,t,rfl⟩:=F4 r
   exact call_int_int ⟨.int i,H,I,⟨_,rfl⟩,q⟩
 · obtain⟨u,rfl,r1⟩:=F4 r
   cases r1
   exact call_int_bool ⟨.int (if k then 1 else 0),H,I.tok _,⟨_,rfl⟩,q⟩
def lR (K:Frg) (x:V) (H:Hp) (n:Nat):Prop:=
 match x with
 | .str y=>y.length<=sizeLine/\n=y.length
 | .byt y=>y.size<=sizeLine/\n=y.size
 | .ref p=>(∃xs,SqL K H p xs/\n=xs.length)∨∃xs,SqT K H p xs/\n=xs.length
 | _=>False
theorem fZ:BM X (.builtin "len") (fun xs H Q=>∃x n,xs=[x]/\lR X.K x H n/\Q (.int n) H):=by
 intro pins s σ H xs us Q I r h
 obtain⟨x,n,rfl,e,q⟩:=h
 obtain⟨u,rfl,rx⟩:=F4 r
 have hl:=PH
 have hs:sizeLine=16777216:=sizeLine_eq
 cases x with
 | str y=>
   obtain⟨t,rfl⟩:=rx
   obtain⟨hy,e'⟩:y.length<=sizeLine/\n=y.length:=e
   subst e'
   exact len_str (by omega) ⟨.int _,H,I.tok _,⟨_,rfl⟩,q⟩
 | byt y=>
   obtain⟨t,rfl⟩:=rx
   obtain⟨hy,e'⟩:y.size<=sizeLine/\n=y.size:=e
   subst e'
   exact PySem.W.len_bytes (by omega) ⟨.int _,H,I.tok _,⟨_,rfl⟩,q⟩
 | ref p=>
   cases rx
   have e':(∃xs,SqL X.K H p xs/\n=xs.length)∨∃xs,SqT X.K H p xs/\n=xs.length:=e
   rcases e' with ⟨xs,hx,e'⟩ | ⟨xs,hx,e'⟩
   · subst e'
     obtain⟨its,r',pl,hz⟩:=I.list hx
     have hlen:=r'.length
     exact Calls.call_len_list pl.isList (by simp only[zJ];omega) ⟨.int xs.length,H,I.tok _,⟨_,by simp only[zJ];rw[hlen]⟩,q⟩
   · subst e'
     obtain⟨its,r',pl,hz⟩:=I.tuple hx
     have hlen:=r'.length
     exact len_tuple pl (by simp only[zJ];omega) ⟨.int xs.length,H,I.tok _,⟨_,by simp only[zJ];rw[hlen]⟩,q⟩
 | _=>exact(show False from e).elim
theorem VQ:BM X (.builtin "divmod") (fun xs H Q=>∃i j,xs=[.int i,.int j]/\uY i j/\∀p,H p=none->Q (.ref p) (upd H p (.tup [.int (i/j),.int (i % j)]))):=by
 intro pins s σ H xs us Q I r h
 obtain⟨i,j,rfl,⟨h1,h2⟩,q⟩:=h
 obtain⟨u,w',rfl,⟨t,rfl⟩,⟨t',rfl⟩⟩:=pI r
 refine divmod_int (by omega) ?_ (.inl (PyProof.noPylong_small (by omega)))
 rw[Int.fdiv_eq_ediv_of_nonneg i (by omega),Int.fmod_eq_emod_of_nonneg i (by omega)]
 have hn:H s.heap.objs.size=none:=I.hok.fresh (zR _)
 refine⟨.ref s.heap.objs.size,_,?_,rfl,q _ hn⟩
 refine I.laid (fun b o e=>zW _ e) (zR _) ⟨by simp only[yR,b2K];rw[sizeLine_eq];decide,[.int (i/j) s.toks,.int (i % j) (s.toks+1)],.cons ⟨_,rfl⟩ (.cons ⟨_,rfl⟩ .nil),?_⟩
 exact⟨_,yZ s.heap rfl,rfl,0,rfl⟩
end
structure ObjM (h:Heap) (x dx C:Addr) (mA:Str->Option Value):Prop where
 obj:h.get? x=some (PySem.W.instObj C dx)
 ns:h.Ns1 dx mA
 ne:dx≠x
theorem cO {h:Heap}{dx:Addr}{mA:Str->Option Value}(n:h.Ns1 dx mA):∃od,h.get? dx=some od/\∀name,PySem.W.lookIn name od=some (mA name):=by
 obtain⟨o,es,ep,ho,hd,hk,_,hm⟩:=n
 refine⟨o,ho,fun name=>?_⟩
 have e:=hm name
 unfold nsFind findBy at e
 rw[← Array.find?_toList] at e
 unfold PySem.W.lookIn
 rw[hd]
 dsimp only
 split
 · rename_i y q
   rw[q] at e
   exact congrArg some e
 · rename_i q
   rw[q] at e
   have a:es.toList.any (·.refKey)=false:=by
     rw[b9X]
     intro y hy
     obtain⟨z,t,hkey⟩:=hk y (Array.mem_toList_iff.mp hy)
     simp[DictEntry.refKey,hkey]
   have a':¬es.toList.any (·.refKey)=true:=by rw[a];exact nft
   rw[if_neg a']
   exact congrArg some e
theorem ObjM.look {h:Heap}{x dx C:Addr}{mA:Str->Option Value}(I:ObjM h x dx C mA):∃od,PySem.W.InstAt h x (PySem.W.instObj C dx) C (some od)/\∀name,PySem.W.lookIn name od=some (mA name):=
 let ⟨od,ho,hl⟩:=cO I.ns
 ⟨od,⟨I.obj,rfl,rfl,ho⟩,hl⟩
theorem RelO.some_of {v:V}{o:Option Value}(r:RelO (some v) o):∃u,o=some u/\RelV v u:=by
 cases o with
 | none=>exact(show False from r).elim
 | some u=>exact⟨u,rfl,r⟩
section
variable {P:Program}{w:World}{H H':Hp}{h h':Heap}{a C dx:Addr}{fs fs':List (Str×V)}
theorem lS (hok:HOk P w H h) (e:H a=some (.ins C dx fs)):∃mA,ObjM h a dx C mA/\(∀f,RelO (fs.lookup f) (mA f))/\PySem.Within mA (fs.map (·.1))/\fs.length<=1000/\H dx=some (.own a):=by
 obtain⟨d,z,ne,ob,mA,n,r,q⟩:=(show ObjOk P w H h a (.ins C dx fs) from hok a _ e)
 exact⟨mA,⟨ob,n,ne⟩,r,q,z,d⟩
end
structure Cls (K:Frg) (C:Addr):Prop where
 pg:PySem.W.plainGet K C Str.empty=true
 hd:PySem.W.hasDictIn K C=true
 po:PySem.W.plainOver K C=true
 sa:b3J K (.ref C) "__setattr__"=some (some (.builtin "object.__setattr__"))
theorem Cls.get {K:Frg}{C:Addr}(c:Cls K C) (f:Str):PySem.W.plainGet K C f=true:=c.pg
section
variable {X:Cx}{pins:List (Addr×Obj)}{σ:St}{H:Hp}{s:Shared}{A:Around}{E:Value->Shared->Prop}{Q:Value->Shared->Prop}{c:Value}{b:Bool}
inductive TyOf (K:Frg) (H:Hp):V->Value->Prop where
 | non:TyOf K H .non (.type "NoneType")
 | bl (x:Bool):TyOf K H (.bl x) (.type "bool")
 | int (i:Int):TyOf K H (.int i) (.type "int")
 | str (x:Str):TyOf K H (.str x) (.type "str")
 | flt (x:UInt64):TyOf K H (.flt x) (.type "float")
 | lst {a:Addr}{xs:List V}(e:H a=some (.lst xs)):TyOf K H (.ref a) (.type "list")
 | frz {a:Addr}{o:Obj}{xs:List V}(e:H a=some (.frz o (.lst xs))):TyOf K H (.ref a) (.type "list")
 | tup {a:Addr}{xs:List V}(e:H a=some (.tup xs)):TyOf K H (.ref a) (.type "tuple")
 | dK {a:Addr}{kvs:List (Key×V)}(e:H a=some (.dK kvs)):TyOf K H (.ref a) (.type "dict")
 | dT {a:Addr}{kvs:List (List Key×V)}(e:H a=some (.dT kvs)):TyOf K H (.ref a) (.type "dict")
 | ins {a C dx:Addr}{fs:List (Str×V)}(e:H a=some (.ins C dx fs)) (cl:Cls K C) (ha:b3J K (.ref C) "__class__"=some (some (.builtin "object.__class__")))
     (hn:PySem.W.specialIn K (.builtin "object.__class__") "__get__"=some (some (.builtin "getset_descriptor.__get__"))) (htk:PySem.W.takesIn K (.builtin "object.__class__")=some true)
     (hm:PySem.W.mroIn K C (.type "object")=some true):TyOf K H (.ref a) (.ref C)
theorem GW {x:V}{u t:Value}(I:Inv X pins σ H s) (rx:RelV x u) (ty:TyOf X.K H x t) (e:PySem.W.kitOne X.K t c=some b) (h:∀tk,Q (.bool b) { s with toks:=tk }) :
   wpAny (model X.prog X.w) A (call (.builtin "isinstance") [u,c]) Q E s:=by
 cases ty with
 | non=>cases (show u=a2Z from rx);exact a2V PySem.W.kitx_none I.kIn b0X e (fun z=>nomatch z) h
 | bl y=>cases (show u=Value.bool y from rx);exact a2V PySem.W.kitx_bool I.kIn b0X e (fun z=>nomatch z) h
 | int i=>obtain⟨t,q⟩:=(show ∃t,u=b8J i t from rx);cases q;exact a2V PySem.W.kitx_int I.kIn b0X e (fun z=>nomatch z) h
 | str y=>obtain⟨t,q⟩:=(show ∃t,u=Value.str y t from rx);cases q;exact a2V PySem.W.kitx_str I.kIn b0X e (fun z=>nomatch z) h
 | flt y=>obtain⟨t,q⟩:=(show ∃t,u=Value.float y t from rx);cases q;exact a2V PySem.W.kitx_float I.kIn b0X e (fun z=>nomatch z) h
 | @lst a xs ea=>
   cases (show u=a0Z a from rx)
   obtain⟨_,_,n,_,h1⟩:=(show ObjOk X.prog X.w H s.heap a (.lst xs) from I.hok a _ ea)
   exact a2V PySem.W.kitx_list I.kIn ⟨_,h1,rfl⟩ e (fun z=>nomatch z) h
 | @frz a ob xs ea=>
   cases (show u=a0Z a from rx)
   obtain⟨_,_,_,n,_,h1⟩:=(show ObjOk X.prog X.w H s.heap a (.frz ob (.lst xs)) from I.hok a _ ea)
   exact a2V PySem.W.kitx_list I.kIn ⟨_,h1,rfl⟩ e (fun z=>nomatch z) h
 | @tup a xs ea=>
   cases (show u=a0Z a from rx)
   obtain⟨_,_,_,p⟩:=(show ObjOk X.prog X.w H s.heap a (.tup xs) from I.hok a _ ea)
   obtain⟨o,h1,h2,_⟩:=p
   exact a2V PySem.W.kitx_tuple I.kIn ⟨o,h1,h2⟩ e (fun z=>nomatch z) h
 | @dK a kvs ea=>
   cases (show u=a0Z a from rx)
   obtain⟨_,_,vs,_,p⟩:=(show ObjOk X.prog X.w H s.heap a (.dK kvs) from I.hok a _ ea)
   obtain⟨o,es,ep,h1,h2,_⟩:=p
   exact a2V PySem.W.kitx_dict I.kIn ⟨o,h1,h2.1⟩ e (fun z=>nomatch z) h
 | @dT a kvs ea=>
   cases (show u=a0Z a from rx)
   obtain⟨_,_,xs,_,o,es,ep,h1,h2,_⟩:=(show ObjOk X.prog X.w H s.heap a (.dT kvs) from I.hok a _ ea)
   exact a2V PySem.W.kitx_dict I.kIn ⟨o,h1,h2.1⟩ e (fun z=>nomatch z) h
 | @ins a C dx fs ea cl ha hn htk hm=>
   cases (show u=a0Z a from rx)
   obtain⟨mA,O,_⟩:=lS I.hok ea
   obtain⟨od,J,_⟩:=O.look
   exact a2V (PySem.W.kitx_own (cl.get _) cl.hd ha hn htk hm) I.kIn J e (fun z=>nomatch z) h
end
structure Room (k:Nat) (A:Around):Prop where
 hd:A.handled=none
 dp:A.depth+3*k+5 < recursionLimit
 un:A.units+16*k+200 < cLine
theorem Room.mono {j k:Nat}{A:Around}(r:Room k A) (h:j<=k):Room j A:=⟨r.hd,by have:=r.dp;omega,by have:=r.un;omega⟩
theorem Room.deeper {k:Nat}{A:Around}(r:Room (k+1) A) (env:Env):Room k (A.deeper env):=
 ⟨r.hd,by have:=r.dp;show A.depth+1+3*k+5 < _;omega,by have:=r.un;show A.units+3+16*k+200 < _;omega⟩
theorem YJ {A:Around}{C:Addr}{us:List Value}{kw:List (Str×Value)}:(A.under (.builtin "type.__call__" ⟨.ref C::us,kw⟩)).depth=A.depth+1:=by
 first | rfl | simp[Around.under,Code.weight,Code.isCreation,Code.isGuard,Code.isCaller,Code.frames,Code.isFrame,guardIds]
theorem YK {A:Around}{C:Addr}{us:List Value}{kw:List (Str×Value)}:(A.under (.builtin "type.__call__" ⟨.ref C::us,kw⟩)).units=A.units+1:=by
 first | rfl | simp[Around.under,Code.cUnits,Code.frames,Code.isFrame]
theorem Room.make {k:Nat}{A:Around}(r:Room (k+1) A) (C:Addr) (us:List Value) (kw:List (Str×Value)):Room k (A.under (.builtin "type.__call__" ⟨.ref C::us,kw⟩)):=
 ⟨r.hd,by have:=r.dp;rw[YJ];omega,by have:=r.un;rw[YK];omega⟩
theorem Room.depth {k:Nat}{A:Around}(r:Room k A):A.depth < recursionLimit:=by have:=r.dp;omega
theorem Room.units {k:Nat}{A:Around}(r:Room k A):A.units+64 < cLine:=by have:=r.un;omega
def v7:TA:=fun _ H Q=>Q [] H
def g0 (ta:TE) (tr:TA):TA:=fun σ H Q=>ta σ H fun x H1=>tr σ H1 fun xs H2=>Q (x::xs) H2
section
variable {X:Cx}{e:Expr}{es:List Expr}{te:TE}{t:TA}{pos:Pos}
theorem rL:PA X [] v7:=fun _ _ _ _ H Q I h=>Calls.spliced_nil ⟨[],H,I,.nil,h⟩
theorem lU (ha:PE X e te) (hr:PA X es t) (hs:starEach (e::es) X.env=(false,eval e X.env)::starEach es X.env:=by rfl):PA X (e::es) (g0 te t):=by
 intro pos pins s σ H Q I h
 rw[hs]
 show wpAny _ _ (spliced ((false,eval e X.env)::backTo pos (starEach es X.env))) _ _ s
 refine xP (thn (ha pins s σ H _ I h) fun u s1 ⟨x,H1,I1,r1,q1⟩=>?_)
 exact thn (hr pos pins s1 σ H1 _ I1 q1) fun us s2 ⟨xs,H2,I2,r2,q2⟩=>⟨x::xs,H2,I2,.cons r1 r2,q2⟩
def v8 (t:TA):TE:=fun σ H Q=>t σ H fun xs H1=>xs.length<=sizeLine/\∀p,H1 p=none->Q (.ref p) (upd H1 p (.tup xs))
def rM (t:TA):TE:=fun σ H Q=>t σ H fun xs H1=>xs.length<=sizeLine/\∀p,H1 p=none->Q (.ref p) (upd H1 p (.lst xs))
theorem rN {x1} (h:PA X es t):PE X (.Tuple es x1 pos) (v8 t):=by
 intro pins s σ H Q I hq
 refine wpAny_Tuple_spliced (thn (h pos pins s σ H _ I hq) fun us s1 ⟨xs,H1,I1,r,z,q⟩=>⟨by rw[← r.length];exact z,?_⟩)
 have hf:H1 s1.heap.objs.size=none:=I1.hok.fresh (zR _)
 refine⟨.ref s1.heap.objs.size,upd H1 s1.heap.objs.size (.tup xs),I1.laid (t':=s1.toks) (fun b u e=>zW _ e) (zR _) ?_,rfl,q _ hf⟩
 exact⟨z,us,r,⟨_,yZ _ rfl,rfl,_,rfl⟩⟩
theorem rO (h:PA X es t):PE X (.List es pos) (rM t):=by
 intro pins s σ H Q I hq
 refine wpAny_List_spliced (thn (h pos pins s σ H _ I hq) fun us s1 ⟨xs,H1,I1,r,z,q⟩=>⟨by rw[← r.length];exact z,?_⟩)
 have hf:H1 s1.heap.objs.size=none:=I1.hok.fresh (zR _)
 refine⟨.ref s1.heap.objs.size,upd H1 s1.heap.objs.size (.lst xs),I1.laid (t':=s1.toks) (fun b u e=>zW _ e) (zR _) ?_,rfl,q _ hf⟩
 exact⟨z,us,0,r,yZ _ rfl⟩
end
abbrev Sp:=List V->Hp->VK->XK->Prop
abbrev CXT:=List Env->Hp->Shared->XK->Value->Shared->Prop
structure Env0 (P:Program) (w:World) (K:Frg) (mg:Str->Option Value) (base:Heap) (A:Around) (outer:List Env) (s:Shared) (H:Hp):Prop where
 frames:A.frames=some outer
 mod:Mod K mg base
 bs:∀b o,base.get? b=some o->s.heap.get? b=some o/\H b=none
 bsz:base.objs.size<=s.heap.objs.size
 funs:s.heap.FunFrames base outer
 frf:∀b∈frs outer,H b=none
 hok:HOk P w H s.heap
 bare:AllBare s.gens
def CE (outer:List Env) (P:Program) (w:World) (H:Hp) (s:Shared) (Q:VK) (u:Value) (s':Shared):Prop:=
 ∃v H',s'.os=s.os/\AllBare s'.gens/\Un (frs outer) [] H H' s.heap s'.heap/\HOk P w H' s'.heap/\RelV v u/\Q v H'
def CR (CX:CXT) (outer:List Env) (P:Program) (w:World) (H:Hp) (s:Shared) (Q:VK) (E:XK) (r:Result) (s':Shared):Prop:=
 match r with
 | .ok (.ret u)=>CE outer P w H s Q u s'
 | .ok _=>False
 | .error e=>CX outer H s E e s'
structure FnOk (P:Program) (w:World) (K:Frg) (mg:Str->Option Value) (base:Heap) (CX:CXT) (k:Nat) (f:Addr) (fd:FuncData) (ps:List Str) (sp:Sp):Prop where
 len:∀vs H Q E,sp vs H Q E->vs.length=ps.length
 run:∀(A:Around) (outer:List Env) (s:Shared) (H:Hp) (args:Args) (us:List Value) (vs:List V) (Q:VK) (E:XK),Room k A->Env0 P w K mg base A outer s H->BindsTo s fd args (ps.zip us)->Vals vs us->sp vs H Q E ->
   codeAny (model P w) A (.call (.ref f) args) (CR CX outer P w H s Q E) s
theorem Env0.make {P:Program}{w:World}{K:Frg}{mg:Str->Option Value}{base:Heap}{A:Around}{outer:List Env}{s:Shared}{H:Hp}(e:Env0 P w K mg base A outer s H) (C:Addr) (us:List Value) (kw:List (Str×Value)) :
   Env0 P w K mg base (A.under (.builtin "type.__call__" ⟨.ref C::us,kw⟩)) outer s H:=⟨by first | exact e.frames | (simpa [Around.under,Code.envs,Code.isFrame,pushEnvs] using e.frames),e.mod,e.bs,e.bsz,e.funs,e.frf,e.hok,e.bare⟩
section
variable {X:Cx}{pins:List (Addr×Obj)}{σ:St}{H:Hp}{s s':Shared}
theorem Inv.env0 (I:Inv X pins σ H s):Env0 X.prog X.w X.K X.mg X.base X.A X.stack s H:=
 ⟨I.ok.frames,I.ok.mod,I.bs,zN I.ok.bsz I.sz,I.stack,I.stkFree,I.hok,I.bare⟩
theorem Inv.after {Q:VK}{u:Value}(I:Inv X pins σ H s) (h:CE X.stack X.prog X.w H s Q u s'):EP X pins σ Q u s':=by
 obtain⟨v,H',os,bare,un,hok,r,q⟩:=h
 obtain⟨hh,g,d,t,os'⟩:=s'
 obtain rfl:os'=s.os:=os
 exact⟨v,H',I.call (h':=hh) (g':=g) (d':=d) (t':=t) (ch:=[]) un hok bare (fun b z=>absurd z (by simp)),r,q⟩
end
def aK (sp:Sp) (dvs:List V) (E:XK) (t:TA):TE:=fun σ H Q=>t σ H fun vs H1=>sp (vs++dvs) H1 Q E
def Binds (K:Frg) (fd:FuncData) (ps:List Str) (ds:List Value):Prop:=
 ∀(s:Shared) (us:List Value),K.In s.heap->(us++ds).length=ps.length->BindsTo s fd ⟨us,[]⟩ (ps.zip (us++ds))
theorem Binds.all {K:Frg}{fd:FuncData}{ps:List Str}(h:∀us:List Value,us.length=ps.length->bindArgs fd ⟨us,[]⟩=pure (ps.zip us)):Binds K fd ps []:=fun s us _ hl=>by
 rw[a2Q] at hl ⊢
 exact .of_eq (h us hl)
def YL (CX:CXT) (X:Cx) (E:XK):Prop:=∀(pins:List (Addr×Obj)) (σ:St) (H:Hp) (s:Shared) (e:Value) (s':Shared),Inv X pins σ H s->CX X.stack H s E e s'->X.xe e s'
section
variable {X:Cx}{CX:CXT}{k:Nat}{f C:Addr}{fd:FuncData}{ps:List Str}{sp:Sp}{dvs:List V}{ds:List Value}{E:XK}{x m:Str}{p pos apos:Pos}{e o:Expr}{es:List Expr}{ta:TE}{t:TA}
theorem rP {pins:List (Addr×Obj)}{σ:St}{H:Hp}{s:Shared}{Q:VK}{us:List Value}{vs:List V}(F:FnOk X.prog X.w X.K X.mg X.base CX k f fd ps sp) (hr:Room k X.A) (hb:Binds X.K fd ps ds) (hd:Vals dvs ds) (hx:YL CX X E)
   (I:Inv X pins σ H s) (r:Vals vs us) (h:sp (vs++dvs) H Q E):wpAny (model X.prog X.w) X.A (call (.ref f) us) (EP X pins σ Q) X.xe s:=by
 have r2:Vals (vs++dvs) (us++ds):=r.append hd
 have hl:(us++ds).length=ps.length:=by rw[← r2.length];exact F.len _ _ _ _ h
 refine wpAny_call (xN (F.run X.A X.stack s H ⟨us,[]⟩ (us++ds) (vs++dvs) Q E hr I.env0 (hb s us I.kIn hl) r2 h) fun r s' hq=>?_)
 cases r with
 | error e=>exact hx pins σ H s e s' I hq
 | ok fl=>
   cases fl with
   | ret u=>exact I.after hq
   | next=>exact a8K hq
   | brk=>exact a8K hq
   | cont=>exact a8K hq
theorem lV (F:FnOk X.prog X.w X.K X.mg X.base CX k f fd ps sp) (hr:Room k X.A) (hg:Gl X x) (hm:X.mg x=some (.ref f)) (hk:a5Q X.K (.ref f)=true) (hb:Binds X.K fd ps ds) (hd:Vals dvs ds) (hx:YL CX X E)
   (ha:PA X (e::es) t) (hdb:(x==("__debug__":Str))=false:=by decide) (he:starEach (e::es) X.env=(false,eval e X.env)::starEach es X.env:=by rfl) (hpl:(backTo pos (starEach es X.env)).any (·.1)=false:=by rfl) :
   PE X (.Call (.Name x p) (e::es) [] pos) (aK sp dvs E t):=by
 intro pins s σ H Q I h
 refine wpAny_Call_Name_kw (P0 I hg hm ?_ hdb)
 refine PySem.W.callWith_K (h₀:=X.base) I.ok.mod.kin hk (thn (ha pos pins s σ H _ I h) fun us s1 ⟨vs,H1,I1,r,q⟩=>⟨I1.kIn,?_⟩) he hpl
 exact rP F hr hb hd hx I1 r q
end
structure FnScope (N P:List Str) (sc:Scope):Prop where
 kind:sc.kind = .function
 co:sc.isCoroutine=false
 gen:sc.isGenerator=false
 nd:N.Nodup
 pre:N.take P.length=P
 par:∀x∈P,sc.names.lookup x=some .local∨sc.names.lookup x=some .cell
 nofree:∀y∈sc.names,y.2≠.free
theorem SJ {kindOf:Str->Option NameKind}{x:Str}:∀{binds:List (Str×Value)}{m:Str->Option Value},(∀v,(x,v)∉binds)->bindL kindOf binds m x=m x
 | [],_,_=>rfl
 | (n,v)::r,m,h=>by
   unfold bindL
   rw[SJ fun w hw=>h w (yV _ hw)]
   split
   · have:x≠n:=by rintro rfl;exact h v a4Q
     simp[this]
   · rfl
theorem SK {kindOf:Str->Option NameKind}{x:Str}:∀{binds:List (Str×Value)}{m:Str->Option Value},(∀v,(x,v)∉binds)->bindC kindOf binds m x=m x
 | [],_,_=>rfl
 | (n,v)::r,m,h=>by
   unfold bindC
   rw[SK fun w hw=>h w (yV _ hw)]
   split
   · rfl
   · have:x≠n:=by rintro rfl;exact h v a4Q
     simp[this]
theorem SL {kindOf:Str->Option NameKind}{x:Str}{v:Value}:∀{P:List Str}{vs:List Value}{i:Nat}{m:Str->Option Value},P.Nodup->P[i]?=some x->vs[i]?=some v->kindOf x=some .local ->
   bindL kindOf (P.zip vs) m x=some v
 | [],_,_,_,_,h,_,_=>by simp at h
 | _::_,[],_,_,_,_,h,_=>by simp at h
 | p::P,w::vs,0,m,nd,h1,h2,hk=>by
   simp at h1 h2;subst h1;subst h2
   show bindL kindOf ((p,w)::P.zip vs) m p=_
   unfold bindL
   rw[SJ fun v hv=>(xV.mp nd).1 (List.of_mem_zip hv).1,if_pos hk]
   simp
 | p::P,w::vs,i+1,m,nd,h1,h2,hk=>by
   show bindL kindOf ((p,w)::P.zip vs) m x=_
   unfold bindL
   exact SL (i:=i) (xV.mp nd).2 (by simpa using h1) (by simpa using h2) hk
theorem SM {kindOf:Str->Option NameKind}{x:Str}{v:Value}:∀{P:List Str}{vs:List Value}{i:Nat}{m:Str->Option Value},P.Nodup->P[i]?=some x->vs[i]?=some v->kindOf x≠some .local ->
   bindC kindOf (P.zip vs) m x=some v
 | [],_,_,_,_,h,_,_=>by simp at h
 | _::_,[],_,_,_,_,h,_=>by simp at h
 | p::P,w::vs,0,m,nd,h1,h2,hk=>by
   simp at h1 h2;subst h1;subst h2
   show bindC kindOf ((p,w)::P.zip vs) m p=_
   unfold bindC
   rw[SK fun v hv=>(xV.mp nd).1 (List.of_mem_zip hv).1,if_neg hk]
   simp
 | p::P,w::vs,i+1,m,nd,h1,h2,hk=>by
   show bindC kindOf ((p,w)::P.zip vs) m x=_
   unfold bindC
   exact SM (i:=i) (xV.mp nd).2 (by simpa using h1) (by simpa using h2) hk
def G6 (N:List Str) (vs:List V):St:=vs.map some++a4Z (N.length - vs.length) none
def LO (CX:CXT) (P:Program) (w:World) (K:Frg) (mg:Str->Option Value) (base:Heap) (N:List Str) (qual:Str) (scope:Scope) (f:Addr) (cd:Value) (A:Around) (outer:List Env) (s:Shared) (H:Hp) (E:XK):Cx where
 prog:=P
 w:=w
 K:=K
 mg:=mg
 base:=base
 A:=A.deeper (envOfC qual scope s.heap.objs.size f cd)
 N:=N
 s₀:=s
 H₀:=H
 env:=envOfC qual scope s.heap.objs.size f cd
 outer:=outer
 stack:=envOfC qual scope s.heap.objs.size f cd::outer
 ex:=[]
 calm:=true
 fn:=fun _=>true
 pn:=[]
 xe:=fun e s'=>wpAny (model P w) (A.deeper (envOfC qual scope s.heap.objs.size f cd)) (leaving (envOfC qual scope s.heap.objs.size f cd) e) (fun _ s''=>CX outer H s E e s'') (fun e' s''=>CX outer H s E e' s'') s'
theorem VR {sc:Scope}{n:Nat}{x:Str}(h:sc.names.lookup x=some .cell):∃c,(cellsFrom n sc.names []).lookup x=some c:=by
 have q:=PySem.W.cellsFrom_some sc.names n [] (.inl h)
 exact xY.mp q
theorem cP {CX:CXT}{P:Program}{w:World}{K:Frg}{mg:Str->Option Value}{base:Heap}{N ps:List Str}{qual:Str}{scope:Scope}{f:Addr}{cd:Value}{A:Around}{outer:List Env}{s s1:Shared}{H:Hp}{E:XK}{us:List Value}{vs:List V}
   (S:FnScope N ps scope) (hd:A.handled=none) (e0:Env0 P w K mg base A outer s H) (hl:vs.length=ps.length) (r:Vals vs us)
   (x:InCallC s s.heap.objs.size (bindL (envOfC qual scope s.heap.objs.size f cd).kindOf (ps.zip us) fun _=>none) (cellsFrom (s.heap.objs.size+1) scope.names []) (bindC (envOfC qual scope s.heap.objs.size f cd).kindOf (ps.zip us) fun _=>none) s1) :
   Inv (LO CX P w K mg base N qual scope f cd A outer s H E) [] (G6 N vs) H s1:=by
 have hpl:ps.length<=N.length:=by have:=congrArg b9W S.pre;rw[a1Q] at this;omega
 obtain⟨h1,tk,rfl,hk⟩:=x.done
 have noA:∀b:Addr,b∉(LO CX P w K mg base N qual scope f cd A outer s H E).ex:=fun b z=>absurd (show b∈([]:List Addr) from z) (by simp)
 refine⟨⟨e0.mod,S.kind,rfl,rfl,zR _,fun y z c h1 h2=>?_,fun y hy=>?_,fun y c _ h=>?_,fun _=>hd,Around.frames_deeper e0.frames,.inr ⟨rfl,rfl⟩,fun b z=>absurd z (noA b),e0.bs,e0.bsz,fun b _ _=>noA b,fun b z=>absurd z (noA b),e0.funs,e0.frf⟩,
   rfl,e0.bare,Un.kept hk,⟨_,x.toInCall.ns,fun i y v h1 h2 h3=>?_⟩,fun y c h=>⟨_,x.cell y c h⟩,e0.hok.fresh (zR _),fun y c h=>?_,fun p hp=>absurd (show p∈([]:List (Addr×Obj)) from hp) (by simp),e0.hok.kept hk,?_⟩
 · exact name_of_addr x.apart (a5K h1) (a5K h2)
 · have hy:scope.names.lookup y=some .cell∨scope.names.lookup y=some .free:=hy
   rcases hy with hy | hy
   · exact VR hy
   · exact absurd rfl (S.nofree _ (a5K hy))
 · exact xR (x.above y c (a5K h))
 · have hi:i < vs.length:=by
     unfold G6 at h2
     by_cases hi:i < vs.length
     · exact hi
     · rw[yP (by simpa using hi)] at h2
       rw[List.getElem?_replicate] at h2
       split at h2 <;> cases h2
   have ha:vs[i]?=some v:=by
     unfold G6 at h2
     rw[yQ (by simpa using hi),zF] at h2
     cases e:vs[i]? with
     | none=>rw[e] at h2;cases h2
     | some a=>rw[e] at h2;cases h2;rfl
   obtain⟨u,hu,rv⟩:=r.get ha
   have hp:ps[i]?=some y:=by
     rw[← S.pre,b2J (by omega)];exact h1
   have ndP:ps.Nodup:=by rw[← S.pre];exact S.nd.sublist (List.take_sublist _ _)
   refine⟨u,rv,?_⟩
   rcases S.par y (yN hp) with k | k
   · exact .inl ⟨k,SL ndP hp hu k⟩
   · obtain⟨c,e⟩:=VR (n:=s.heap.objs.size+1) k
     refine .inr ⟨.inl k,c,e,?_⟩
     have q:=x.cell y c e
     rw[SM ndP hp hu (by show scope.names.lookup y≠_;rw[k];decide)] at q
     exact q
 · exact e0.hok.fresh (xR (x.above y c (a5K h)))
 · unfold G6
   show _=N.length
   rw[yY,zX,b0V]
   omega
theorem pJ {CX:CXT}{P:Program}{w:World}{K:Frg}{mg:Str->Option Value}{base:Heap}{k:Nat}{f:Addr}{name qual:Str}{params:Arguments}{body:List Stmt}{scope:Scope}{dV kV doc pm cdv ct oc:Value}{an od:Option Addr}
   {osl:Array (Option Value)}{N ps:List Str}{sp:Sp}(lk:K.lookup f=some ⟨oc,od,.func (a7J name qual params body scope dV kV doc pm an cdv ct),osl⟩) (hcd:b3K K cdv qual=true) (S:FnScope N ps scope)
   (len:∀vs H Q E,sp vs H Q E->vs.length=ps.length)
   (hbody:∀(A:Around) (outer:List Env) (s:Shared) (H:Hp) (vs:List V) (Q:VK) (E:XK),Room k (A.deeper (envOfC qual scope s.heap.objs.size f cdv))->sp vs H Q E ->
     ∃t,PSs (LO CX P w K mg base N qual scope f cdv A outer s H E) body t/\t { nx:=fun _ H'=>Q .non H',rt:=Q } (G6 N vs) H) :
   FnOk P w K mg base CX (k+1) f (a7J name qual params body scope dV kV doc pm an cdv ct) ps sp:=by
 refine⟨len,fun A outer s H args us vs Q E hr e0 hb r hsp=>?_⟩
 have hl:=len _ _ _ _ hsp
 have KX:K.In s.heap:=e0.mod.kin.keeps fun b o e=>(e0.bs b o e).1
 have lim:s.heap.NoLimit:=e0.mod.nolimit.keeps fun b o e=>(e0.bs b o e).1
 have hkind:∀y∈ps.zip us,scope.names.lookup y.1=some .local∨(scope.names.lookup y.1=some .cell/\((cellsFrom (s.heap.objs.size+1) scope.names []).lookup y.1).isSome=true):=fun⟨n,v⟩ hy=>by
   rcases S.par n (List.of_mem_zip hy).1 with q | q
   · exact .inl q
   · exact .inr ⟨q,PySem.W.cellsFrom_some _ _ _ (.inl q)⟩
 refine codeAny_call_function hr.depth (KX _ _ lk) rfl S.co S.gen rfl (PySem.W.codeRec_of KX hcd) (hb _ _ _ _ ?_)
 refine wpAny_newFunctionEnv_cells S.kind hkind fun env he s1 x=>?_
 subst he
 refine⟨lim.keeps x.toInCall.keep,codeAny_func ?_⟩
 obtain⟨t,ht,hq⟩:=hbody A outer s H vs Q E (hr.deeper _) hsp
 have I:Inv (LO CX P w K mg base N qual scope f cdv A outer s H E) [] (G6 N vs) H s1:=cP S hr.hd e0 hl r x
 refine wpAny_mono (ht [] s1 (G6 N vs) H _ I hq) (fun fl s' hs=>?_) fun e s' hs=>hs
 have fin:∀{σ':St}{H':Hp}{v:V}{u:Value},Inv (LO CX P w K mg base N qual scope f cdv A outer s H E) [] σ' H' s'->RelV v u->Q v H'->CE outer P w H s Q u s':=
   fun {σ' H' v u} J rv q=>⟨v,H',J.os,J.bare,J.base,J.hok,rv,q⟩
 cases fl with
 | ret u=>
   obtain⟨v,σ',H',J,rv,q⟩:=hs
   exact fin J rv q
 | next=>
   obtain⟨σ',H',J,q⟩:=hs
   exact fin (v:=V.non) (u:=a2Z) J rfl q
 | brk=>
   obtain⟨_,_,_,q⟩:=hs
   exact a8K q
 | cont=>
   obtain⟨_,_,_,q⟩:=hs
   exact a8K q
section
variable {X:Cx}{x:Str}{p pos:Pos}{e:Expr}{es:List Expr}{t:TA}{id T:String}{r:List V->Hp->VK->Prop}
def tCB (r:List V->Hp->VK->Prop) (t:TA):TE:=fun σ H Q=>t σ H fun vs H1=>r vs H1 Q
theorem D8 (hc:BM X (.builtin id) r) (hg:Gl X x) (hm:X.mg x=none) (hv:bootBuiltins x=some (.builtin id)) (ha:PA X (e::es) t) (hn:x ≠ "__name__" := by decide) (hdb:(x==("__debug__":Str))=false:=by decide)
   (he:starEach (e::es) X.env=(false,eval e X.env)::starEach es X.env:=by rfl) (hpl:(backTo pos (starEach es X.env)).any (·.1)=false:=by rfl):PE X (.Call (.Name x p) (e::es) [] pos) (tCB r t):=by
 intro pins s σ H Q I h
 refine wpAny_Call_Name_kw (HK I hg hm hv ?_ hn hdb)
 exact PyProof.Rows.callWith_builtin1 (thn (ha pos pins s σ H _ I h) fun us s1 ⟨vs,H1,I1,r1,q1⟩=>hc pins s1 σ H1 vs us Q I1 r1 q1) he hpl
theorem JS (hc:BM X (.type T) r) (hg:Gl X x) (hm:X.mg x=none) (hv:bootBuiltins x=some (.type T)) (ha:PA X (e::es) t) (hn:x ≠ "__name__" := by decide) (hdb:(x==("__debug__":Str))=false:=by decide)
   (he:starEach (e::es) X.env=(false,eval e X.env)::starEach es X.env:=by rfl) (hpl:(backTo pos (starEach es X.env)).any (·.1)=false:=by rfl):PE X (.Call (.Name x p) (e::es) [] pos) (tCB r t):=by
 intro pins s σ H Q I h
 refine wpAny_Call_Name_kw (HK I hg hm hv ?_ hn hdb)
 exact xH (thn (ha pos pins s σ H _ I h) fun us s1 ⟨vs,H1,I1,r1,q1⟩=>hc pins s1 σ H1 vs us Q I1 r1 q1) he hpl
end
end L2
namespace HT
open PySem PyProof.Rows
section
variable {prog:Program}{w:World}{A:Around}{E:Value->Shared->Prop}{s:Shared}
def sIx (n d:Nat):Option Int->Nat
 | none=>d
 | some v=>if v < 0 then (v+(n:Int)).toNat else min v.toNat n
theorem sIx_nat (n d k:Nat):sIx n d (some (k:Int))=min k n:=by
 show(if (k:Int) < 0 then ((k:Int)+(n:Int)).toNat else min (k:Int).toNat n)=min k n
 rw[if_neg (by omega),a2J]
theorem rQ (n d:Nat) (hd:d<=n) (o:Option Int):sIx n d o<=n:=by
 cases o with
 | none=>exact hd
 | some v=>
   show(if v < 0 then (v+(n:Int)).toNat else min v.toNat n)<=n
   by_cases hv:v < 0
   · rw[if_pos hv];omega
   · rw[if_neg hv];exact Nat.min_le_right _ _
theorem aL (v:Int) (n d:Nat):(if v < 0 then max (v+(n:Int)) 0 else min v (n:Int))=((sIx n d (some v):Nat):Int):=by
 show(if v < 0 then max (v+(n:Int)) 0 else min v (n:Int))=(((if v < 0 then (v+(n:Int)).toNat else min v.toNat n):Nat):Int)
 by_cases hv:v < 0
 · simp only[if_pos hv];omega
 · simp only[if_neg hv];omega
theorem YM (lo hi:Option Int) (n:Nat):b4V lo hi 1 (n:Int)=(((sIx n 0 lo:Nat):Int),((sIx n n hi:Nat):Int)):=by
 have h1:¬((1:Int) < 0):=by omega
 unfold b4V
 simp only[h1,if_false]
 refine Prod.ext ?_ ?_
 · cases lo with
   | none=>rfl
   | some v=>exact aL v n 0
 · cases hi with
   | none=>rfl
   | some v=>exact aL v n n
theorem YN (i j:Nat):b0J (i:Int) (j:Int) 1=j - i:=by
 unfold b0J
 have h1:(1:Int) > 0:=by omega
 simp only[h1,if_true,Int.ediv_one]
 split <;> omega
theorem PJ {v:Value}{o:Option Int}{Q:Option Int->Shared->Prop}(p:IsPart v o) (h:Q o s):wpAny (model prog w) A (Builtin.Slice.slicePartIndex v) Q E s:=by
 cases p with
 | none=>exact slicePart_none h
 | int i t=>exact slicePart_int h
theorem GX {sl:Addr}{vl vu:Value}{lo hi:Option Int}{n:Nat}{Q:Int×Int×Nat->Shared->Prop}(hs:s.heap.IsSliceOf sl vl vu .none) (pl:IsPart vl lo) (pu:IsPart vu hi)
   (h:Q (((sIx n 0 lo:Nat):Int),1,sIx n n hi - sIx n 0 lo) s):wpAny (model prog w) A (Builtin.Slice.sliceApplied (.ref sl) (pure (n:Int))) Q E s:=by
 obtain⟨os,hos,hcs,hds⟩:=id hs
 unfold Builtin.Slice.sliceApplied Builtin.Slice.sliceFields
 refine zZ (zZ (wpAny_field hos hds (x:=vl) rfl (zZ (wpAny_field hos hds (x:=vu) rfl (zZ (wpAny_field hos hds (x:=.none) rfl (zY ?_)))))))
 refine zZ (slicePart_none ?_)
 show wpAny _ _ (if ((1:Int)==0)=true then _ else _) _ _ s
 rw[if_neg (by decide)]
 refine zZ (PJ pl (zZ (PJ pu (zZ (zY ?_)))))
 show wpAny _ _ (match b4V lo hi 1 (n:Int) with | (lo,hi)=>pure (lo,(1:Int),b0J lo hi 1)) _ _ s
 rw[YM lo hi n]
 show wpAny _ _ (pure (((sIx n 0 lo:Nat):Int),(1:Int),b0J ((sIx n 0 lo:Nat):Int) ((sIx n n hi:Nat):Int) 1)) _ _ s
 rw[YN]
 exact zY h
theorem g6 (xs:Array Value) (i k:Nat):((a0V k).filterMap fun(m:Nat)=>xs[((i:Int)+(m:Int)*1).toNat]?).toArray=((xs.toList.drop i).take k).toArray:=by
 have e:(fun(m:Nat)=>xs[((i:Int)+(m:Int)*1).toNat]?)=fun m=>xs[i+m]?:=by
   funext m
   have:((i:Int)+(m:Int)*1).toNat=i+m:=by omega
   rw[this]
 rw[e]
 have:=pick_run xs i k
 rw[List.filterMap_map] at this
 have e2:((fun x=>xs[x]?)∘fun x=>i+x)=fun m=>xs[i+m]?:=rfl
 rw[e2] at this
 rw[this]
theorem getItem_tuple_cut {t sl:Addr}{items:Array Value}{vl vu:Value}{lo hi:Option Int}{Q:Value->Shared->Prop}(ht:IsTup s.heap t items) (hs:s.heap.IsSliceOf sl vl vu .none) (pl:IsPart vl lo) (pu:IsPart vu hi)
   (hw:¬(sIx items.size 0 lo=0/\sIx items.size items.size hi=items.size))
   (h:Q (.ref s.heap.objs.size) { s with heap:=s.heap.push { cls:=.type "tuple", data:=.seq ((items.toList.drop (sIx items.size 0 lo)).take (sIx items.size items.size hi - sIx items.size 0 lo)).toArray } })
   (hsz:items.size<=sizeLine):wpAny (model prog w) A (getItem (.ref t) (.ref sl)) Q E s:=by
 have htake:sizeOk (.seq ((items.toList.drop (sIx items.size 0 lo)).take (sIx items.size items.size hi - sIx items.size 0 lo)).toArray):=by
   show((items.toList.drop (sIx items.size 0 lo)).take (sIx items.size items.size hi - sIx items.size 0 lo)).toArray.size<=sizeLine
   rw[zJ,a1Q,a0K,a4K]
   omega
 have hj:sIx items.size items.size hi<=items.size:=rQ _ _ (zR _) hi
 obtain⟨os,hos,hcs,hds⟩:=id hs
 have hTs:s.TypeIs (.ref sl) "slice" := ⟨os,hos,hcs⟩
 unfold getItem
 try with_reducible refine wpAny_holding ?_
 first | refine zZ (zY ?_) | skip
 refine zZ (wpAny_sequenceKey ht.typeIs (by decide) ?_)
 refine zZ (wpAny_callSpecial?_slot (name:=a0Q "__getitem__") ht.typeIs a7K
   (wpAny_call_entry a7K ht.typeIs entry_tuple_getitem ?_ (args_tuple_getitem _ _)))
 show wpAny _ _ (Builtin.Tuple.tupleItemsOf (.ref t) >>= _) _ _ s
 refine zZ (tupleItemsOf_ ht ?_)
 refine zZ (wpAny_typeOf hTs ?_)
 rw[if_pos (by decide)]
 refine zZ (GX hs pl pu ?_)
 have hno:¬((((sIx items.size 0 lo:Nat):Int)==0&&(1:Int)==1&&(sIx items.size items.size hi - sIx items.size 0 lo)==items.size)=true):=by
   intro q
   rw[a1J,a1J] at q
   have q1:((sIx items.size 0 lo:Nat):Int)=0:=eq_of_beq q.1.1
   have q2:sIx items.size items.size hi - sIx items.size 0 lo=items.size:=eq_of_beq q.2
   exact hw ⟨by omega,by omega⟩
 show wpAny _ _ (if (((sIx items.size 0 lo:Nat):Int)==0&&(1:Int)==1&&(sIx items.size items.size hi - sIx items.size 0 lo)==items.size)=true then _ else _) _ _ s
 rw[if_neg hno,g6]
 first
   | exact zZ (m:=b0W _) (xM (zY ⟨_,rfl,zY h⟩) htake)
   | exact zZ (m:=b0W _) (xM (zZ (zY (zY ⟨_,rfl,zY h⟩))) htake)
   | exact zZ (zZ (m:=b0W _) (xM (zY (zY ⟨_,rfl,zY h⟩)) htake))
   | exact zZ (zZ (m:=b0W _) (xM (zY ⟨_,rfl,zY h⟩) htake))
end
end HT
namespace L2
open PySem PySem.Spec PyProof.Rows
abbrev TO:=St->Hp->(Option Int->Hp->Prop)->Prop
def PO (X:Cx) (e:Option Expr) (t:TO):Prop:=
 ∀(pins:List (Addr×Obj)) (s:Shared) (σ:St) (H:Hp) (Q:Option Int->Hp->Prop),Inv X pins σ H s->t σ H Q ->
   wpAny (model X.prog X.w) X.A (evalPart e X.env) (fun u s'=>∃o H',Inv X pins σ H' s'/\IsPart u o/\Q o H') X.xe s
def aM:TO:=fun _ H Q=>Q none H
def pK (t:TE):TO:=fun σ H Q=>t σ H fun x H1=>∃i,x = .int i/\Q (some i) H1
section
variable {X:Cx}{e:Expr}{te:TE}{lo hi:Option Expr}{tl th:TO}{pos p2:Pos}
theorem lW:PO X none aM:=by
 intro pins s σ H Q I h
 rw[evalPart_none]
 exact zY ⟨none,H,I,.none,h⟩
theorem lX (h:PE X e te):PO X (some e) (pK te):=by
 intro pins s σ H Q I hw
 rw[evalPart_some]
 refine thn (h pins s σ H _ I hw) fun u s1 ⟨x,H1,I1,r1,q1⟩=>?_
 obtain⟨i,rfl,q⟩:=q1
 obtain⟨t,rfl⟩:=r1
 exact⟨some i,H1,I1,.int i t,q⟩
def SlR (X:Cx) (r:V->Option Int->Option Int->Hp->VK->Prop):Prop:=
 ∀(pins:List (Addr×Obj)) (s:Shared) (σ:St) (H:Hp) (x:V) (v vl vu:Value) (lo hi:Option Int) (sl:Addr) (Q:VK),Inv X pins σ H s->RelV x v->s.heap.IsSliceOf sl vl vu .none->IsPart vl lo->IsPart vu hi->r x lo hi H Q ->
   ∃T id,typeLookup (.type T) "__getitem__"=pure (some (.builtin id))/\s.TypeIs v T/\wpAny (model X.prog X.w) X.A (getItem v (.ref sl)) (EP X pins σ Q) X.xe s
theorem SlR.or {r r':V->Option Int->Option Int->Hp->VK->Prop}(h:SlR X r) (h':SlR X r'):SlR X (fun x lo hi H Q=>r x lo hi H Q∨r' x lo hi H Q):=by
 intro pins s σ H x v vl vu lo hi sl Q I rx hs pl pu q
 rcases q with q | q
 · exact h pins s σ H x v vl vu lo hi sl Q I rx hs pl pu q
 · exact h' pins s σ H x v vl vu lo hi sl Q I rx hs pl pu q
def tSl (r:V->Option Int->Option Int->Hp->VK->Prop) (te:TE) (tl th:TO):TE:=fun σ H Q=>te σ H fun x H1=>tl σ H1 fun l H2=>th σ H2 fun u H3=>r x l u H3 Q
theorem g9 {r:V->Option Int->Option Int->Hp->VK->Prop}(hr:SlR X r) (he:PE X e te) (hl:PO X lo tl) (hu:PO X hi th):PE X (.Subscript e (.Slice lo hi none p2) pos) (tSl r te tl th):=by
 intro pins s σ H Q I h
 refine Subscript_ (thn (he pins s σ H _ I h) fun v s1 ⟨x,H1,I1,r1,q1⟩=>?_)
 refine wpAny_Slice (thn (hl pins s1 σ H1 _ I1 q1) fun vl s2 ⟨l,H2,I2,pl,q2⟩=>thn (hu pins s2 σ H2 _ I2 q2) fun vu s3 ⟨u,H3,I3,pu,q3⟩=>?_)
 rw[evalPart_none]
 refine zY ?_
 have I4:Inv X pins σ H3 { s3 with heap:=s3.heap.push { cls:=.type "slice", data:=.fields #[vl,vu,.none] } }:=I3.kept (t':=s3.toks) fun b ob q=>zW _ q
 obtain⟨T,id,hT,ht,hg⟩:=hr pins { s3 with heap:=s3.heap.push { cls:=.type "slice", data:=.fields #[vl,vu,.none] } } σ H3 x v vl vu l u s3.heap.objs.size Q I4 r1 (Heap.IsSliceOf.new ..) pl pu q3
 show wpAny (model X.prog X.w) X.A (subscriptTail e (.Slice lo hi none p2) v (.ref s3.heap.objs.size)) (EP X pins σ Q) X.xe { s3 with heap:=s3.heap.push { cls:=.type "slice", data:=.fields #[vl,vu,.none] } }
 exact tail_any (ops:=[.ref s3.heap.objs.size,v]) ht hT hg (by with_unfolding_all rfl)
def L4 (xs:List V) (lo hi:Option Int):List V:=(xs.drop (HT.sIx xs.length 0 lo)).take (HT.sIx xs.length xs.length hi - HT.sIx xs.length 0 lo)
theorem NW (xs:List V) (lo hi:Option Int):(L4 xs lo hi).length<=xs.length:=by
 unfold L4
 rw[a1Q,a0K]
 omega
def wV (K:Frg):V->Option Int->Option Int->Hp->VK->Prop:=fun x lo hi H Q=>∃a xs,x = .ref a/\SqT K H a xs /\
 ¬(HT.sIx xs.length 0 lo=0/\HT.sIx xs.length xs.length hi=xs.length)/\∀p,H p=none->Q (.ref p) (upd H p (.tup (L4 xs lo hi)))
theorem rR:SlR X (wV X.K):=by
 intro pins s σ H x v vl vu lo hi sl Q I rx hs pl pu h
 obtain⟨a,xs,rfl,hx,hw,q⟩:=h
 cases rx
 obtain⟨its,r,ht,hz⟩:=I.tuple hx
 have hlen:its.toArray.size=xs.length:=by rw[zJ];exact r.length.symm
 refine⟨"tuple", _,PyProof.Rows.slot_tuple_getitem.lookup,ht.typeIs,?_⟩
 refine HT.getItem_tuple_cut ht hs pl pu (by rw[hlen];exact hw) ?_ (by rw[hlen];exact hz)
 rw[hlen]
 refine⟨.ref s.heap.objs.size,_,I.laid (t':=s.toks) (o:=.tup (L4 xs lo hi)) (fun b ob q=>zW _ q) (zR _) ?_,rfl,q _ (I.hok.fresh (zR _))⟩
 exact⟨zN (NW xs lo hi) hz,_,(r.drop (HT.sIx xs.length 0 lo)).take (HT.sIx xs.length xs.length hi - HT.sIx xs.length 0 lo),IsTup.new _ _⟩
end
def ixN (n:Nat) (i:Int):Option Nat:=if 0<=i then (if i < n then some i.toNat else none) else if -(n:Int)<=i then some (i+n).toNat else none
def atI {α:Type}(xs:List α) (i:Int):Option α:=(ixN xs.length i).bind fun j=>xs[j]?
theorem aN {n:Nat}{i:Int}{j:Nat}(h:ixN n i=some j):seqIndex? i n=some j/\j < n/\-(n:Int)<=i/\i < n:=by
 unfold ixN at h
 by_cases h0:0<=i
 · rw[if_pos h0] at h
   by_cases h1:i < n
   · rw[if_pos h1] at h
     have e:i.toNat=j:=Option.some.inj h
     exact⟨by rw[seqIndex_of h0 h1,e],by omega,by omega,h1⟩
   · rw[if_neg h1] at h;cases h
 · rw[if_neg h0] at h
   by_cases h1 : -(n:Int)<=i
   · rw[if_pos h1] at h
     have e:(i+n).toNat=j:=Option.some.inj h
     exact⟨by rw[seqIndex_neg (by omega) h1,e],by omega,h1,by omega⟩
   · rw[if_neg h1] at h;cases h
theorem TQ {α:Type}{xs:List α}{i:Int}{v:α}(h:atI xs i=some v):∃j,seqIndex? i xs.length=some j/\xs[j]?=some v/\j < xs.length/\-(xs.length:Int)<=i/\i < xs.length:=by
 unfold atI at h
 cases e:ixN xs.length i with
 | none=>rw[e] at h;cases h
 | some j=>
   rw[e] at h
   obtain⟨h1,h2,h3,h4⟩:=aN e
   exact⟨j,h1,h,h2,h3,h4⟩
theorem AE {α:Type}{xs:List α}{j:Nat}{v:α}(h:xs[j]?=some v):atI xs (j:Int)=some v:=by
 have hj:j < xs.length:=(yT.mp h).1
 have e:ixN xs.length (j:Int)=some j:=by
   unfold ixN
   rw[if_pos (by omega),if_pos (by omega)];simp
 unfold atI;rw[e];exact h
def lY (b:Expr):Prop:=∀o i,subscripted b false o i=operate [o,i] (getItem o i)
def IxR (X:Cx) (r:R2):Prop:=
 ∀(value slice:Expr) (pins:List (Addr×Obj)) (s:Shared) (σ:St) (H:Hp) (x y:V) (v u:Value) (Q:VK),Inv X pins σ H s->RelV x v->RelV y u->r x y H Q ->
   subscripted slice false v u=operate [v,u] (getItem v u)->wpAny (model X.prog X.w) X.A (subscriptTail value slice v u) (EP X pins σ Q) X.xe s
def MtR (X:Cx) (id:String) (r:V->List V->Hp->VK->Prop):Prop:=
 ∀(pins:List (Addr×Obj)) (s:Shared) (σ:St) (H:Hp) (x:V) (xs:List V) (v:Value) (us:List Value) (Q:VK),Inv X pins σ H s->RelV x v->Vals xs us->r x xs H Q ->
   wpAny (model X.prog X.w) X.A (call (.builtin id) (v::us)) (EP X pins σ Q) X.xe s
section
variable {X:Cx}{a b:Expr}{ta tb:TE}{pos:Pos}
theorem IxR.or {r r':R2}(h:IxR X r) (h':IxR X r'):IxR X (fun x y H Q=>r x y H Q∨r' x y H Q):=by
 intro value slice pins s σ H x y v u Q I rx ry q hs
 rcases q with q | q
 · exact h value slice pins s σ H x y v u Q I rx ry q hs
 · exact h' value slice pins s σ H x y v u Q I rx ry q hs
theorem v9 {r:R2}(hr:IxR X r) (ha:PE X a ta) (hb:PE X b tb) (hs:lY b):PE X (.Subscript a b pos) (tOp r ta tb):=by
 intro pins s σ H Q I h
 exact Subscript_ (rC ha hb I h fun v u s2 x y H2 I2 rx ry q=>hr a b pins s2 σ H2 x y v u Q I2 rx ry q (hs _ _))
def lZ (K:Frg):R2:=fun x y H Q=>∃p xs i v,x = .ref p/\y = .int i/\SqL K H p xs/\atI xs i=some v/\Q v H
def rS (K:Frg):R2:=fun x y H Q=>∃p xs i v,x = .ref p/\y = .int i/\SqT K H p xs/\atI xs i=some v/\Q v H
def rT:R2:=fun x y H Q=>∃z i c,x = .str z/\y = .int i/\z.length<=sizeLine/\atI z.cps.toList i=some c/\Q (.str ⟨#[c]⟩) H
theorem m4:IxR X (lZ X.K):=by
 intro value slice pins s σ H x y v u Q I rx ry h hs
 obtain⟨p,xs,i,z,rfl,rfl,hq,he,q⟩:=h
 cases rx
 obtain⟨t,rfl⟩:=ry
 obtain⟨its,r,pl,hz⟩:=I.list hq
 obtain⟨j,h1,h2,h3,h4,h5⟩:=TQ he
 obtain⟨w,ew,rw'⟩:=r.get h2
 have hl:=r.length
 have hn:=PH
 have fin:EP X pins σ Q w s:=⟨z,H,I,rw',q⟩
 by_cases h0:0<=i
 · have hj:i.toNat=j:=by
     rw[seqIndex_of h0 h5] at h1
     exact Option.some.inj h1
   exact item_listR pl.isList h0 (by omega) (by rw[hj];simpa using ew) fin hs
 · have hj:(i+(its.toArray.size:Int)).toNat=j:=by
     rw[seqIndex_neg (by omega) h4] at h1
     rw[zJ,← hl]
     exact Option.some.inj h1
   exact subscriptTail_builtinR (x:=w) pl.isList.typeIs slot_list_getitem.lookup
     (wpAny_getItem_list_neg (Q:=fun r s'=>r=w/\EP X pins σ Q r s') pl.isList (by omega) (by rw[zJ] <;> omega) (by omega) (by rw[hj];simpa using ew) ⟨rfl,fin⟩) hs
theorem rV:IxR X (rS X.K):=by
 intro value slice pins s σ H x y v u Q I rx ry h hs
 obtain⟨p,xs,i,z,rfl,rfl,hq,he,q⟩:=h
 cases rx
 obtain⟨t,rfl⟩:=ry
 obtain⟨its,r,pl,hz⟩:=I.tuple hq
 obtain⟨j,h1,h2,h3,h4,h5⟩:=TQ he
 obtain⟨w,ew,rw'⟩:=r.get h2
 have hl:=r.length
 have hn:=PH
 have fin:EP X pins σ Q w s:=⟨z,H,I,rw',q⟩
 exact subscriptTail_builtinR (x:=w) pl.typeIs slot_tuple_getitem.lookup
   (getItem_tuple (j:=j) (Q:=fun r s'=>r=w/\EP X pins σ Q r s') pl (by omega) (by omega) (by rw[zJ,← hl];exact h1) (by simpa using ew) ⟨rfl,fin⟩) hs
theorem rW:IxR X rT:=by
 intro value slice pins s σ H x y v u Q I rx ry h hs
 obtain⟨z,i,c,rfl,rfl,hz,he,q⟩:=h
 obtain⟨t,rfl⟩:=rx
 obtain⟨t',rfl⟩:=ry
 obtain⟨j,h1,h2,h3,h4,h5⟩:=TQ he
 have hl:z.cps.toList.length=z.length:=by simp[Str.length]
 rw[hl] at h1 h4 h5
 have hn:=PH
 exact tail_any (typeIs_str s z t) slot_str_getitem.lookup (getItem_str (c:=c) (by
   have e1:decide (i < -(2 ^ 63:Int))=false:=decide_eq_false (by omega)
   have e2:decide (i≥2 ^ 63)=false:=decide_eq_false (by omega)
   rw[e1,e2,c0Q]) (by rw[h1];simpa using h2) ⟨.str ⟨#[c]⟩,H,I.tok _,⟨_,rfl⟩,q⟩) hs
theorem YO (its:List Value) (n j:Nat) (u:Value):a7V (·.setIfInBounds j u) { cls:=.type "list", data:=.seq its.toArray n }={ cls:=.type "list", data:=.seq (its.set j u).toArray n }:=by
 simp[a7V]
theorem Inv.lst {pins:List (Addr×Obj)}{σ:St}{H:Hp}{s:Shared}{p:Addr}{xs:List V}(I:Inv X pins σ H s) (h:H p=some (.lst xs)) :
   ∃(its:List Value) (n:Nat),Vals xs its/\s.heap.get? p=some { cls:=.type "list", data:=.seq its.toArray n }/\xs.length<=sizeLine:=by
 obtain⟨z,its,n,r,e⟩:=I.hok p _ h
 exact⟨its,n,r,e,z⟩
theorem Inv.lstUpd {pins:List (Addr×Obj)}{σ:St}{H:Hp}{s:Shared}{p:Addr}{xs ys:List V}{its its':List Value}{n n':Nat}{f:Obj->Obj}(I:Inv X pins σ H s) (h:H p=some (.lst xs))
   (ho:s.heap.get? p=some { cls:=.type "list", data:=.seq its.toArray n }) (hf:f { cls:=.type "list", data:=.seq its.toArray n }={ cls:=.type "list", data:=.seq its'.toArray n' }) (r:Vals ys its') (hz:ys.length<=sizeLine) (t:Nat) :
   Inv X pins σ (upd H p (.lst ys)) { s with heap:=s.heap.update p f,toks:=t }:=by
 have e:(s.heap.update p f).get? p=some { cls:=.type "list", data:=.seq its'.toArray n' }:=by
   rw[a6Q f ho (by rw[hf] <;> rfl),hf]
 refine I.write (x:=p) (e:=p) (by rw[h];trivial) (.inl rfl) (fun b u hb q=>(yC _ _ (b4K hb)).trans q) ⟨_,e⟩ ?_
 exact⟨hz,its',n',r,e⟩
def pL:V->V->V->Hp->(Hp->Prop)->Prop:=fun o i v H Q=>∃p xs k j,o = .ref p/\i = .int k/\H p=some (.lst xs)/\ixN xs.length k=some j/\Q (upd H p (.lst (xs.set j v)))
theorem gA:uS X pL:=by
 intro pins s σ H o i v ov iv u Q I ro ri rv h
 obtain⟨p,xs,k,j,rfl,rfl,hp,hj,q⟩:=h
 cases ro
 obtain⟨t,rfl⟩:=ri
 obtain⟨its,n,r,ho,hz⟩:=I.lst hp
 obtain⟨h1,h2,h3,h4⟩:=aN hj
 have hl:=r.length
 have hn:=PH
 have I':Inv X pins σ (upd H p (.lst (xs.set j v))) { s with heap:=s.heap.update p (a7V (·.setIfInBounds j u)) }:=
   I.lstUpd hp ho (YO its n j u) (r.set rv j) (by rw[List.length_set];exact hz) s.toks
 by_cases h0:0<=k
 · have hk:k.toNat=j:=by
     rw[seqIndex_of h0 h4] at h1
     exact Option.some.inj h1
   exact PySem.W.ki_setAt ho h0 (by omega) (by rw[zJ,← hl];exact h4) (by rw[hk];exact⟨_,I',q⟩)
 · have hk:(k+(its.toArray.size:Int)).toNat=j:=by
     rw[seqIndex_neg (by omega) h3] at h1
     rw[zJ,← hl]
     exact Option.some.inj h1
   exact PySem.W.ki_setBack ho (by omega) (by rw[zJ,← hl];exact h3) (by omega) (by rw[hk];exact⟨_,I',q⟩)
theorem TR (lo hi:Option Int) (n:Nat):(sliceBounds lo hi none n).1=((HT.sIx n 0 lo:Nat):Int)/\(sliceBounds lo hi none n).2.1=((HT.sIx n n hi:Nat):Int)/\(sliceBounds lo hi none n).2.2=1:=by
 refine⟨?_,?_,rfl⟩
 · cases lo with
   | none=>simp[sliceBounds,HT.sIx]
   | some i=>
     simp only[sliceBounds,HT.sIx,Option.getD_none,show(1:Int) > 0 by decide,if_true]
     by_cases h:i < 0
     · simp only[h,if_true] <;> omega
     · simp only[h,if_false] <;> omega
 · cases hi with
   | none=>simp[sliceBounds,HT.sIx]
   | some i=>
     simp only[sliceBounds,HT.sIx,Option.getD_none,show(1:Int) > 0 by decide,if_true]
     by_cases h:i < 0
     · simp only[h,if_true] <;> omega
     · simp only[h,if_false] <;> omega
theorem RP (its:List Value) (lo hi:Option Int):slicePick its.toArray lo hi none=((its.drop (HT.sIx its.length 0 lo)).take (HT.sIx its.length its.length hi - HT.sIx its.length 0 lo)).toArray:=by
 obtain⟨h1,h2,h3⟩:=TR lo hi its.toArray.size
 unfold slicePick
 rw[h1,h2,h3]
 simp only[sliceRange_one,pick_run,zJ] <;> rfl
def rX (K:Frg):V->Option Int->Option Int->Hp->VK->Prop:=fun x lo hi H Q=>∃a xs,x = .ref a/\SqL K H a xs/\∀p,H p=none->Q (.ref p) (upd H p (.lst (L4 xs lo hi)))
theorem m5:SlR X (rX X.K):=by
 intro pins s σ H x v vl vu lo hi sl Q I rx hs pl pu h
 obtain⟨a,xs,rfl,hx,q⟩:=h
 cases rx
 obtain⟨its,r,ht,hz⟩:=I.list hx
 have hlen:=r.length
 refine⟨"list", _,slot_list_getitem.lookup,ht.isList.typeIs,?_⟩
 refine wpAny_getItem_list_slice ht.isList hs pl pu .none (by simp) ?_ (by rw[zJ] <;> omega)
 rw[RP,← hlen]
 refine⟨.ref s.heap.objs.size,_,I.laid (t':=s.toks) (o:=.lst (L4 xs lo hi)) (fun b ob q=>zW _ q) (zR _) ?_,rfl,q _ (I.hok.fresh (zR _))⟩
 exact⟨zN (NW xs lo hi) hz,_,0,(r.drop (HT.sIx xs.length 0 lo)).take (HT.sIx xs.length xs.length hi - HT.sIx xs.length 0 lo),yZ _ rfl⟩
def KB:V->Bool
 | .non=>true
 | .bl _=>true
 | .int _=>true
 | .str _=>true
 | _=>false
def eqV:V->V->Bool
 | .non,.non=>true
 | .bl a,.bl b=>a==b
 | .bl a,.int b=>(if a then 1 else 0)==b
 | .int a,.bl b=>a==(if b then 1 else 0)
 | .int a,.int b=>a==b
 | .str a,.str b=>a==b
 | _,_=>false
theorem rY {A:Around}{s:Shared}{y x:V}{u v:Value}(ry:RelV y u) (rx:RelV x v) (fy:KB y=true) (fx:KB x=true):SeqAt.EqAt A s u v (eqV y x):=by
 cases y with
 | non=>
   cases ry
   cases x with
   | non=>cases rx;exact SeqAt.EqAt.same _
   | bl b=>cases rx;exact SeqAt.EqAt.none_bool b
   | int b=>obtain⟨t,rfl⟩:=rx;exact SeqAt.EqAt.none_int b t
   | str b=>obtain⟨t,rfl⟩:=rx;exact SeqAt.EqAt.none_str b t
   | _=>exact absurd (show false=true from fx) nft
 | bl a=>
   cases ry
   cases x with
   | non=>cases rx;exact SeqAt.EqAt.bool_none a
   | bl b=>cases rx;exact SeqAt.EqAt.bool_bool a b
   | int b=>obtain⟨t,rfl⟩:=rx;exact SeqAt.EqAt.bool_int a b t
   | str b=>obtain⟨t,rfl⟩:=rx;exact SeqAt.EqAt.bool_str a b t
   | _=>exact absurd (show false=true from fx) nft
 | int a=>
   obtain⟨t',rfl⟩:=ry
   cases x with
   | non=>cases rx;exact SeqAt.EqAt.int_none a t'
   | bl b=>cases rx;exact SeqAt.EqAt.int_bool a t' b
   | int b=>obtain⟨t,rfl⟩:=rx;exact SeqAt.EqAt.int_int a t' b t
   | str b=>obtain⟨t,rfl⟩:=rx;exact SeqAt.EqAt.int_str a t' b t
   | _=>exact absurd (show false=true from fx) nft
 | str a=>
   obtain⟨t',rfl⟩:=ry
   cases x with
   | non=>cases rx;exact SeqAt.EqAt.str_none a t'
   | bl b=>cases rx;exact SeqAt.EqAt.str_bool a t' b
   | int b=>obtain⟨t,rfl⟩:=rx;exact SeqAt.EqAt.str_int a t' b t
   | str b=>obtain⟨t,rfl⟩:=rx;exact SeqAt.EqAt.str_str a t' b t
   | _=>exact absurd (show false=true from fx) nft
 | _=>exact absurd (show false=true from fy) nft
def eqU (x:V) (u:Value):Bool:=match u with
 | .none=>eqV .non x
 | .bool b=>eqV (.bl b) x
 | .int i _=>eqV (.int i) x
 | .str z _=>eqV (.str z) x
 | _=>false
theorem gB {x y:V}{u:Value}(r:RelV y u) (f:KB y=true):eqU x u=eqV y x:=by
 cases y with
 | non=>cases r;rfl
 | bl b=>cases r;rfl
 | int i=>obtain⟨t,rfl⟩:=r;rfl
 | str z=>obtain⟨t,rfl⟩:=r;rfl
 | _=>exact absurd (show false=true from f) nft
theorem TU {x:V}:∀{xs:List V}{us:List Value},Vals xs us->xs.all KB=true->us.any (eqU x)=xs.any fun y=>eqV y x
 | _,_,.nil,_=>rfl
 | y::xs,u::us,.cons r t,f=>by
   rw[List.all_cons,a1J] at f
   rw[a9W,a9W,gB r f.1,TU t f.2]
theorem PK {A:Around}{s:Shared}{x:V}{v:Value}(rx:RelV x v) (fx:KB x=true):∀{xs:List V}{us:List Value},Vals xs us->xs.all KB=true->∀u∈us,SeqAt.EqAt A s u v (eqU x u)
 | _,_,.nil,_=>fun u hu=>by cases hu
 | y::xs,u::us,.cons r t,f=>fun u' hu=>by
   rw[List.all_cons,a1J] at f
   rcases yX.mp hu with rfl | hu
   · rw[gB r f.1];exact rY r rx f.1 fx
   · exact PK rx fx t f.2 u' hu
def inV (x:V) (xs:List V):Bool:=xs.any fun y=>eqV y x
def rIn (K:Frg) (neg:Bool):R2:=fun x y H Q=>∃p xs,y = .ref p/\(SqL K H p xs∨SqT K H p xs)/\KB x=true/\xs.all KB=true/\Q (.bl (if neg then !inV x xs else inV x xs)) H
theorem cQ:OpR X (compareOp .In) (rIn X.K false):=by
 intro pins s σ H x y v u Q I rx ry h
 obtain⟨p,xs,rfl,hq,fx,fs,q⟩:=h
 cases ry
 rcases hq with hq | hq
 · obtain⟨its,r,pl,hz⟩:=I.list hq
   refine SeqAt.in_listAt (eqU x) pl.isList (fun w hw=>PK rx fx r fs w (by simpa using hw)) ⟨.bl _,H,I,rfl,?_⟩
   rw[show its.toArray.any (eqU x)=its.any (eqU x) by simp,TU r fs]
   exact q
 · obtain⟨its,r,pl,hz⟩:=I.tuple hq
   refine SeqAt.in_tupleAt (eqU x) pl (fun w hw=>PK rx fx r fs w (by simpa using hw)) ⟨.bl _,H,I,rfl,?_⟩
   rw[show its.toArray.any (eqU x)=its.any (eqU x) by simp,TU r fs]
   exact q
theorem TV:BM X (.type "list") (fun xs H Q=>∃p ys,xs=[.ref p]/\(SqL X.K H p ys∨SqT X.K H p ys)/\∀l,H l=none->Q (.ref l) (upd H l (.lst ys))):=by
 intro pins s σ H xs us Q I r h
 obtain⟨p,ys,rfl,hq,q⟩:=h
 obtain⟨u,rfl,rx⟩:=F4 r
 cases rx
 have fin:∀(its:List Value),Vals ys its->ys.length<=sizeLine->∀(h':Heap) (c':Nat),(∀b o',s.heap.get? b=some o'->h'.get? b=some o') ->
     h'.get? s.heap.objs.size=some { cls:=.type "list", dict:=none,data:=.seq its.toArray c',slots:=#[] }->EP X pins σ Q (.ref s.heap.objs.size) { s with heap:=h' }:=fun its r' hz h' c' kp e=>
   ⟨.ref s.heap.objs.size,_,I.laid (t':=s.toks) kp (zR _) (show ObjOk X.prog X.w _ h' _ (.lst ys) from ⟨hz,its,c',r',e⟩),rfl,q _ (I.hok.fresh (zR _))⟩
 rcases hq with hq | hq
 · obtain⟨its,r',pl,hz⟩:=I.list hq
   have hlen:=r'.length
   obtain⟨o,ho,hc,n,hd⟩:=pl.isList
   exact call_list_seq p (.inl rfl) ho hc hd (fun h' c' kp e=>fin its r' hz h' c' kp e) (by simp only[zJ] <;> omega)
 · obtain⟨its,r',pl,hz⟩:=I.tuple hq
   have hlen:=r'.length
   obtain⟨o,ho,hc,n,hd⟩:=pl
   exact call_list_seq p (.inr rfl) ho hc hd (fun h' c' kp e=>fin its r' hz h' c' kp e) (by simp only[zJ] <;> omega)
theorem RQ:BM X (.type "tuple") (fun xs H Q=>∃p ys,xs=[.ref p]/\((SqL X.K H p ys/\∀l,H l=none->Q (.ref l) (upd H l (.tup ys)))∨(SqT X.K H p ys/\Q (.ref p) H))):=by
 intro pins s σ H xs us Q I r h
 obtain⟨p,ys,rfl,h⟩:=h
 obtain⟨u,rfl,rx⟩:=F4 r
 cases rx
 rcases h with ⟨hq,q⟩ | ⟨hq,q⟩
 · obtain⟨its,r',pl,hz⟩:=I.list hq
   have hlen:=r'.length
   refine call_tuple_list pl.isList (fun h' kp=>?_) (by simp only[zJ] <;> omega)
   have I1:Inv X pins σ H { s with heap:=h' }:=I.kept (t':=s.toks) kp
   have I2:Inv X pins σ (upd H h'.objs.size (.tup ys)) { s with heap:=h'.push { cls:=.type "tuple", data:=.seq its.toArray } }:=
     I1.laid (t':=s.toks) (fun b o e=>zW _ e) (zR _) (show ObjOk X.prog X.w _ _ _ (.tup ys) from ⟨hz,its,r',IsTup.new _ _⟩)
   exact⟨.ref h'.objs.size,_,I2,rfl,q _ (I1.hok.fresh (zR _))⟩
 · obtain⟨its,r',pl,hz⟩:=I.tuple hq
   exact call_tuple_same pl ⟨.ref p,H,I,rfl,q⟩
def tyV (K:Frg) (T:String) (x:V) (H:Hp):Prop:=match x with
 | .str _=>T = "str"
 | .int _=>T = "int"
 | .ref p=>(T = "list" /\ ∃xs,SqL K H p xs)∨(T = "tuple" /\ ∃o,K.lookup p=some o/\o.cls = .type "tuple" /\ o.dict=none) ∨
     (T = "dict" /\ ((∃kvs,H p=some (.dK kvs))∨∃kvs,H p=some (.dT kvs)))∨(T = "set" /\ ∃S n,H p=some (.set S n))
 | _=>False
theorem rZ {pins:List (Addr×Obj)}{σ:St}{H:Hp}{s:Shared}{T:String}{x:V}{v:Value}(I:Inv X pins σ H s) (r:RelV x v) (ty:tyV X.K T x H) :
   s.TypeIs v T/\∀a,v = .ref a->∃ob,s.heap.get? a=some ob/\ob.dict=none:=by
 cases x with
 | str z=>
   obtain⟨t,rfl⟩:=r
   cases (show T = "str" from ty)
   exact⟨typeIs_str s z t,fun _ e=>nomatch e⟩
 | int i=>
   obtain⟨t,rfl⟩:=r
   cases (show T = "int" from ty)
   exact⟨typeIs_int s i t,fun _ e=>nomatch e⟩
 | ref p=>
   cases r
   rcases ty with ⟨rfl,xs,hq⟩ | ⟨rfl,o,hk,hc,hd⟩ | ⟨rfl,hk⟩ | ⟨rfl,S,n,hk⟩
   · obtain⟨its,_,pl,_⟩:=I.list hq
     refine⟨pl.isList.typeIs,fun a e=>?_⟩
     cases e
     obtain⟨o,n,e,c,hd,_⟩:=pl
     exact⟨o,e,hd⟩
   · refine⟨⟨o,I.kIn p o hk,hc⟩,fun a e=>?_⟩
     cases e
     exact⟨o,I.kIn _ o hk,hd⟩
   · have z:∃o,s.heap.get? p=some o/\o.ExactDict:=by
       rcases hk with ⟨kvs,hk⟩ | ⟨kvs,hk⟩
       · obtain⟨_,_,_,_,o,_,_,e,ex,_⟩:=I.hok p _ hk
         exact⟨o,e,ex⟩
       · obtain⟨_,_,_,_,o,_,_,e,ex,_⟩:=I.hok p _ hk
         exact⟨o,e,ex⟩
     obtain⟨o,e,ex⟩:=z
     refine⟨⟨o,e,ex.1⟩,fun a e2=>?_⟩
     cases e2
     exact⟨o,e,ex.2.1⟩
   · obtain⟨o,_,_,_,e,ex,_⟩:=I.hok p _ hk
     refine⟨⟨o,e,ex.1⟩,fun a e2=>?_⟩
     cases e2
     exact⟨o,e,ex.2.1⟩
 | _=>exact a8K ty
def tBM (K:Frg) (T:String) (r:V->List V->Hp->VK->Prop) (to:TE) (t:TA):TE:=fun σ H Q=>to σ H fun x H1=>tyV K T x H1/\t σ H1 fun xs H2=>r x xs H2 Q
variable {o e:Expr}{es:List Expr}{to:TE}{t:TA}{name:Str}{apos cpos:Pos}{T id:String}{r:V->List V->Hp->VK->Prop}
theorem vA (pa:PlainAttrs T) (slot:Slot T name id) (hty:typeOf (.builtin id)=pure (.type "method_descriptor")) (hm:MtR X id r) (ho:PE X o to) (ha:PA X (e::es) t)
   (hbase:attributeBase o name X.env (eval o X.env)=eval o X.env:=by rfl)
   (hfew:((backTo cpos (starEach (e::es) X.env)).all (fun x=>!x.1)&&(backToKw cpos (keywordEach [] X.env)).all (fun x=>x.1.isSome)
     && decide ((e::es).length+([]:List Keyword).length+(if ([]:List Keyword).isEmpty then 0 else 1) < 30))=true:=by rfl)
   (hline:(apos.endLine==cpos.line)=true:=by rfl) (hs:starEach (e::es) X.env=(false,eval e X.env)::starEach es X.env:=by rfl) (hplain:(backTo cpos (starEach es X.env)).any (·.1)=false:=by rfl) :
   PE X (.Call (.Attribute o name apos) (e::es) [] cpos) (tBM X.K T r to t):=by
 intro pins s σ H Q I h
 refine wpAny_Call_method_late hbase hfew hline rfl (thn (ho pins s σ H _ I h) fun v s1 ⟨x,H1,I1,r1,ty,q1⟩=>?_)
 obtain⟨h1,h2⟩:=rZ I1 r1 ty
 refine⟨T,id,pa,slot,hty,h1,h2,?_⟩
 have hA:=ha cpos pins s1 σ H1 _ I1 q1
 rw[hs] at hA ⊢
 refine c0Z (by show(false||(backTo cpos (starEach es X.env)).any (·.1))=false;rw[hplain] <;> rfl) (Calls.evalArgs_plain ?_)
 exact thn hA fun us s2 ⟨vs,H2,I2,r2,q2⟩=>hm pins s2 σ H2 x vs v us Q I2 r1 r2 q2
end
def MtM (X:Cx) (id:String) (r:V->List V->Hp->VK->Prop):Prop:=
 ∀(pins:List (Addr×Obj)) (s:Shared) (σ:St) (H:Hp) (x:V) (xs:List V) (v:Value) (us:List Value) (Q:VK),Inv X pins σ H s->RelV x v->Vals xs us->r x xs H Q ->
   wpAny (model X.prog X.w) X.A (call (.builtin id) (v::us)) (EP X pins σ Q) X.xe s
theorem Vals.one:∀{x:V}{us:List Value},Vals [x] us->∃u,us=[u]/\RelV x u
 | _,_,.cons r .nil=>⟨_,rfl,r⟩
theorem Vals.reverse {xs:List V}{us:List Value}(h:Vals xs us):Vals xs.reverse us.reverse:=by
 induction h with
 | nil=>exact .nil
 | cons r t ih=>rw[b8W,b8W];exact Vals.append ih (.cons r .nil)
section
variable {X:Cx}{pins:List (Addr×Obj)}{σ:St}{H:Hp}{s:Shared}{l b:Addr}{xs ys zs:List V}
theorem Inv.lset {its its':List Value}{n:Nat}{f:Array Value->Array Value}{t':Nat}(I:Inv X pins σ H s) (hH:H l=some (.lst xs))
   (e:s.heap.get? l=some { cls:=.type "list", data:=.seq its.toArray n }) (hf:f its.toArray=its'.toArray) (hv:Vals ys its') (hz:ys.length<=sizeLine) :
   Inv X pins σ (upd H l (.lst ys)) { s with heap:=s.heap.update l (a7V f),toks:=t' }:=by
 have q:=PySem.IsL.update e f
 rw[hf] at q
 refine I.write (x:=l) (e:=l) (by rw[hH];exact trivial) (.inl rfl) (fun b' u hb hu=>(yC s.heap (a7V f) (b4K hb)).trans hu) ⟨_,q⟩ ?_
 exact⟨hz,its',_,hv,q⟩
theorem Inv.lnew {its:List Value}{t':Nat}(I:Inv X pins σ H s) (hv:Vals ys its) (hz:ys.length<=sizeLine) :
   Inv X pins σ (upd H s.heap.objs.size (.lst ys)) { s with heap:=s.heap.push { cls:=.type "list", data:=.seq its.toArray },toks:=t' }:=
 I.laid (fun _ _ q=>zW _ q) (zR _) ⟨hz,its,0,hv,yZ _ rfl⟩
theorem Inv.fresh (I:Inv X pins σ H s):H s.heap.objs.size=none:=I.hok.fresh (zR _)
theorem Inv.lstM (I:Inv X pins σ H s) (hH:H l=some (.lst xs)):xs.length<=sizeLine/\∃(its:List Value) (n:Nat),Vals xs its/\xs.length=its.length/\s.heap.get? l=some { cls:=.type "list", data:=.seq its.toArray n }:=by
 obtain⟨z,its,n,r,e⟩:=I.hok l _ hH
 exact⟨z,its,n,r,r.length,e⟩
end
section
variable {X:Cx}
def TX:V->List V->Hp->VK->Prop:=fun x vs H Q=>∃l xs y,x = .ref l/\vs=[y]/\H l=some (.lst xs)/\xs.length < sizeLine/\Q .non (upd H l (.lst (xs++[y])))
theorem SN:MtM X "list.append" TX:=by
 intro pins s σ H x vs v us Q I rx rv h
 obtain⟨l,xs,y,rfl,rfl,hH,hz,q⟩:=h
 cases rx
 obtain⟨u,rfl,ru⟩:=rv.one
 obtain⟨z,its,n,r,hl,e⟩:=I.lstM hH
 refine call_meets F.slot_list_append ⟨_,e,rfl⟩ F.entry_list_append (F.args_list_append_2 _ _) (PySem.list_append l its.toArray n u (by rw[zJ];omega)) ⟨e,?_⟩
 refine⟨.non,_,I.lset (its':=its++[u]) hH e (by simp) (r.append (.cons ru .nil)) ?_,rfl,q⟩
 rw[yY,List.length_singleton]
 omega
end
section
variable {κ:Type}[DecidableEq κ]
def G5 (kvs:List (κ×V)) (k:κ):Option V:=(kvs.find? fun kv=>decide (kv.1=k)).map (·.2)
def EX (kvs:List (κ×V)) (k:κ) (v:V):List (κ×V):=
 if (kvs.any fun kv=>decide (kv.1=k))=true then kvs.map (fun kv=>if kv.1=k then (kv.1,v) else kv) else kvs++[(k,v)]
theorem J6 {p:κ×V}{r:List (κ×V)}{k:κ}(e:p.1=k):G5 (p::r) k=some p.2:=by simp[G5,a7X,e]
theorem FP {p:κ×V}{r:List (κ×V)}{k:κ}(e:¬p.1=k):G5 (p::r) k=G5 r k:=by simp[G5,a7X,e]
theorem VS (k:κ):∀kvs:List (κ×V),(kvs.any fun kv=>decide (kv.1=k))=(G5 kvs k).isSome
 | []=>rfl
 | p::r=>by
   rw[a9W]
   by_cases e:p.1=k
   · simp only[J6 e,decide_eq_true e,Bool.true_or,Option.isSome_some]
   · rw[FP e,decide_eq_false e,c0X];exact VS k r
theorem G7 (kvs:List (κ×V)) (k:κ) (v:V):(EX kvs k v).length<=kvs.length+1:=by
 unfold EX
 split
 · rw[zX];omega
 · rw[yY,yR,b2K];omega
theorem RelO.isSome_eq {o:Option V}{u:Option Value}(r:RelO o u):o.isSome=u.isSome:=by
 cases o with
 | none=>cases u with
   | none=>rfl
   | some _=>exact(show False from r).elim
 | some _=>cases u with
   | none=>exact(show False from r).elim
   | some _=>rfl
theorem RelO.getD {o:Option V}{u:Option Value}{d:V}{d':Value}(r:RelO o u) (rd:RelV d d'):RelV (o.getD d) (u.getD d'):=by
 cases o with
 | none=>cases u with
   | none=>exact rd
   | some _=>exact(show False from r).elim
 | some _=>cases u with
   | none=>exact(show False from r).elim
   | some _=>exact r
theorem KV.val {kvs:List (κ×V)}{vs:List (κ×Value)}(r:KV kvs vs) (k:κ):RelO (G5 kvs k) (valueAt vs k):=by
 unfold KV at r
 induction r with
 | nil=>exact b0X
 | @cons p q ps qs h t ih=>
   obtain⟨h1,h2⟩:=h
   by_cases e:p.1=k
   · have e':q.1=k:=h1.symm.trans e
     have b:valueAt (q::qs) k=some q.2:=by simp[valueAt,a7X,e']
     rw[J6 e,b];exact h2
   · have e':¬q.1=k:=fun z=>e (h1.trans z)
     have b:valueAt (q::qs) k=valueAt qs k:=by simp[valueAt,a7X,e']
     rw[FP e,b];exact ih
theorem KV.any {kvs:List (κ×V)}{vs:List (κ×Value)}(r:KV kvs vs) (k:κ):(kvs.any fun kv=>decide (kv.1=k))=vs.any fun kv=>decide (kv.1=k):=by
 unfold KV at r
 induction r with
 | nil=>rfl
 | cons h t ih=>rw[a9W,a9W,ih,h.1]
theorem KV.repl {kvs:List (κ×V)}{vs:List (κ×Value)}(r:KV kvs vs) (k:κ) {y:V}{u:Value}(ry:RelV y u) :
   KV (kvs.map fun kv=>if kv.1=k then (kv.1,y) else kv) (vs.map fun kv=>if kv.1=k then (kv.1,u) else kv):=by
 unfold KV at r ⊢
 induction r with
 | nil=>exact .nil
 | @cons p q ps qs h t ih=>
   rw[zI,zI]
   refine .cons ?_ ih
   obtain⟨h1,h2⟩:=h
   by_cases e:p.1=k
   · rw[if_pos e,if_pos (h1.symm.trans e)];exact⟨h1,ry⟩
   · rw[if_neg e,if_neg (fun z=>e (h1.trans z))];exact⟨h1,h2⟩
theorem KV.put {kvs:List (κ×V)}{vs:List (κ×Value)}(r:KV kvs vs) (k:κ) {y:V}{u:Value}(ry:RelV y u):KV (EX kvs k y) (stored vs k u):=by
 unfold EX stored
 rw[r.any k]
 by_cases e:(vs.any fun kv=>decide (kv.1=k))=true
 · rw[if_pos e,if_pos e];exact r.repl k ry
 · rw[if_neg e,if_neg e];exact Paired.snoc r ⟨rfl,ry⟩
theorem KV.length {kvs:List (κ×V)}{vs:List (κ×Value)}(r:KV kvs vs):kvs.length=vs.length:=Paired.length r
end
theorem LP {P:Program}{w:World}{k:Key}{u:Value}(r:RelV (kV k) u):(AX P w).is k u=true:=by
 cases k with
 | inl i=>obtain⟨t,e⟩:=(show ∃t,u=b8J i t from r);subst e;exact VM P w i t
 | inr x=>obtain⟨t,e⟩:=(show ∃t,u=Value.str x t from r);subst e;exact NV P w x t
theorem SO {P:Program}{w:World}:∀{ks:List Key}{us:List Value},Vals (ks.map kV) us->ItemsAre (AX P w) ks us
 | [],_,r=>by rw[a3W] at r;cases r;exact .nil
 | k::ks,_,r=>by
   rw[zI] at r
   cases r with
   | cons h t=>exact .cons (LP h) (SO t)
abbrev KT (H:Hp):List (List Key×V)->List (List Key×Addr×Value)->Prop:=Paired fun p q=>p.1=q.1/\H q.2.1=some (.tup (p.1.map kV))/\RelV p.2 q.2.2
theorem KT.val {H:Hp}{kvs:List (List Key×V)}{xs:List (List Key×Addr×Value)}(r:KT H kvs xs) (k:List Key):RelO (G5 kvs k) ((atKey xs k).map (·.2)):=by
 induction r with
 | nil=>exact b0X
 | @cons p q ps qs h t ih=>
   obtain⟨h1,_,h2⟩:=h
   by_cases e:p.1=k
   · have e':q.1=k:=h1.symm.trans e
     have b:atKey (q::qs) k=some q.2:=by simp[atKey,a7X,e']
     rw[J6 e,b];exact h2
   · have e':¬q.1=k:=fun z=>e (h1.trans z)
     have b:atKey (q::qs) k=atKey qs k:=by simp[atKey,a7X,e']
     rw[FP e,b];exact ih
theorem KT.repl {H:Hp}{kvs:List (List Key×V)}{xs:List (List Key×Addr×Value)}(r:KT H kvs xs) (k:List Key) {y:V}{u:Value}(ry:RelV y u) :
   KT H (kvs.map fun kv=>if kv.1=k then (kv.1,y) else kv) (xs.map (putAt k u)):=by
 induction r with
 | nil=>exact .nil
 | @cons p q ps qs h t ih=>
   rw[zI,zI]
   refine .cons ?_ ih
   obtain⟨h1,h2,h3⟩:=h
   unfold putAt
   by_cases e:p.1=k
   · rw[if_pos e,if_pos (h1.symm.trans e)];exact⟨h1,h2,ry⟩
   · rw[if_neg e,if_neg (fun z=>e (h1.trans z))];exact⟨h1,h2,h3⟩
theorem KT.put {H:Hp}{kvs:List (List Key×V)}{xs:List (List Key×Addr×Value)}(r:KT H kvs xs) (k:List Key) {b:Addr}{y:V}{u:Value}(hb:H b=some (.tup (k.map kV))) (ry:RelV y u) :
   KT H (EX kvs k y) (storedH xs k b u):=by
 have e:(kvs.any fun kv=>decide (kv.1=k))=(atKey xs k).isSome:=by
   rw[VS,(r.val k).isSome_eq,Option.isSome_map]
 unfold EX storedH
 rw[e]
 by_cases q:(atKey xs k).isSome=true
 · rw[if_pos q,if_pos q];exact r.repl k ry
 · rw[if_neg q,if_neg q];exact Paired.snoc r ⟨rfl,hb,ry⟩
theorem KT.keeps {H H':Hp}{kvs:List (List Key×V)}{xs:List (List Key×Addr×Value)}(r:KT H kvs xs) (ht:∀b ys,H b=some (.tup ys)->H' b=some (.tup ys)):KT H' kvs xs:=
 Paired.mapP r fun _ _ z=>⟨z.1,ht _ _ z.2.1,z.2.2⟩
section
variable {P:Program}{w:World}{H:Hp}{h:Heap}{a:Addr}
theorem pM {u:HO}(ok:HOk P w H h) (e:Rd H a u):ObjOk P w H h a u:=e.ok ok
theorem KC {kvs:List (Key×V)}(ok:HOk P w H h) (e:Rd H a (.dK kvs)):kvs.length<=sizeLine/\(a==sysModules)=false/\∃vs,KV kvs vs/\h.DictOf (AX P w) a vs:=
 show ObjOk P w H h a (.dK kvs) from pM ok e
theorem gC {kvs:List (Key×V)}(ok:HOk P w H h) (e:H a=some (.dK kvs)):kvs.length<=sizeLine/\(a==sysModules)=false/\∃vs,KV kvs vs/\h.DictOf (AX P w) a vs:=KC ok (.inl e)
theorem NB {ks:List Key}(ok:HOk P w H h) (e:H a=some (.tup (ks.map kV))):(tupleKind (AX P w)).is h ks a:=by
 obtain⟨_,its,r,o,h1,h2,n,h3⟩:=(show ObjOk P w H h a (.tup (ks.map kV)) from ok a _ e)
 exact⟨o,its.toArray,n,h1,h2,h3,by simpa using SO r⟩
theorem PL {kvs:List (List Key×V)}(ok:HOk P w H h) (e:Rd H a (.dT kvs)):kvs.length<=sizeLine/\(a==sysModules)=false /\
   ∃xs,KT H kvs xs/\h.DictOfH (tupleKind (AX P w)) a xs:=by
 obtain⟨z,y,xs,r,o,es,ep,h1,h2,h3,h4,h5⟩:=(show ObjOk P w H h a (.dT kvs) from pM ok e)
 refine⟨z,y,xs,r,o,es,ep,h1,h2,h3,h4,fun x hx=>?_,h5⟩
 have all:∀{l:List (List Key×V)}{m:List (List Key×Addr×Value)},KT H l m->∀x∈m,(tupleKind (AX P w)).is h x.1 x.2.1:=by
   intro l m q
   induction q with
   | nil=>intro x hx;exact nomatch hx
   | @cons p q ps qs hq t ih=>
     intro x hx
     rcases yX.mp hx with e | hx
     · subst e
       exact NB ok (by rw[← hq.1];exact hq.2.1)
     · exact ih x hx
 exact all r x hx
theorem vB {kvs:List (List Key×V)}(ok:HOk P w H h) (e:H a=some (.dT kvs)):kvs.length<=sizeLine/\(a==sysModules)=false /\
   ∃xs,KT H kvs xs/\h.DictOfH (tupleKind (AX P w)) a xs:=PL ok (.inl e)
end
def TY (H:Hp) (a:Addr) (y:V) (r:Option V):Prop:=
 (∃kvs k,Rd H a (.dK kvs)/\y=kV k/\r=G5 kvs k)∨∃kvs k b,Rd H a (.dT kvs)/\y = .ref b/\H b=some (.tup (k.map kV))/\r=G5 kvs k
def vC (H:Hp) (a:Addr) (y v:V) (H':Hp):Prop:=
 (∃kvs k,H a=some (.dK kvs)/\y=kV k/\kvs.length < sizeLine/\H'=upd H a (.dK (EX kvs k v))) ∨
 ∃kvs k b,H a=some (.dT kvs)/\y = .ref b/\H b=some (.tup (k.map kV))/\kvs.length < sizeLine/\H'=upd H a (.dT (EX kvs k v))
section
variable {X:Cx}{pins:List (Addr×Obj)}{σ:St}{H:Hp}{s:Shared}{a:Addr}{y v:V}{u r:Value}{o:Option V}{A:Around}{E:Value->Shared->Prop}
theorem Inv.big (I:Inv X pins σ H s):sysModules < s.heap.objs.size:=by
 have h:mainGlobals < s.heap.objs.size:=(I.mod.glob.keeps I.bk).lt
 exact xQ (by decide) h
theorem cR {Q:Value->Shared->Prop}(hu:A.units+1 < cLine) (I:Inv X pins σ H s) (g:TY H a y (some v)) (ry:RelV y u) (h:∀w' s',Inv X pins σ H s'->RelV v w'->Q w' s') :
   wpAny (model X.prog X.w) A (getItem (.ref a) u) Q E s:=by
 rcases g with ⟨kvs,k,e,ey,l⟩ | ⟨kvs,k,b,e,ey,eb,l⟩
 · subst ey
   obtain⟨z,hd,vs,rel,dd⟩:=KC I.hok e
   obtain⟨w',hw,rw'⟩:=RelO.some_of (v:=v) (o:=valueAt vs k) (by rw[l];exact rel.val k)
   exact wpAny_getItem_of (LP ry) dd.mapOf hw (h w' _ (I.tok _) rw')
 · subst ey
   cases (show u=a0Z b from ry)
   obtain⟨z,hd,xs,rel,dd⟩:=PL I.hok e
   obtain⟨w',hw,rw'⟩:=RelO.some_of (v:=v) (o:=(atKey xs k).map (·.2)) (by rw[l];exact rel.val k)
   obtain⟨p,hp,hp2⟩:=Option.map_eq_some_iff.mp hw
   refine wpAny_getItem_heap (tupleKind_room_in1 hu) (NB I.hok eb) dd hp ?_
   rw[hp2]
   exact h w' _ (I.tok _) rw'
theorem wW {Q:Value->Shared->Prop}(hu:A.units+1 < cLine) (I:Inv X pins σ H s) (g:TY H a y o) (ry:RelV y u) (h:∀s',Inv X pins σ H s'->Q (.bool o.isSome) s') :
   wpAny (model X.prog X.w) A (compareOp .In u (.ref a)) Q E s:=by
 rcases g with ⟨kvs,k,e,ey,l⟩ | ⟨kvs,k,b,e,ey,eb,l⟩
 · subst ey
   obtain⟨z,hd,vs,rel,dd⟩:=KC I.hok e
   refine wpAny_in_of (LP ry) hd dd.mapOf ?_
   rw[← (rel.val k).isSome_eq,← l]
   exact h _ (I.tok _)
 · subst ey
   cases (show u=a0Z b from ry)
   obtain⟨z,hd,xs,rel,dd⟩:=PL I.hok e
   refine wpAny_in_heap (tupleKind_room_in1 hu) (NB I.hok eb) hd dd ?_
   have q:=(rel.val k).isSome_eq
   rw[Option.isSome_map] at q
   rw[← q,← l]
   exact h _ (I.tok _)
theorem m6 {Q:Value->Shared->Prop}(hu:A.units+1 < cLine) (I:Inv X pins σ H s) (g:TY H a y o) (ry:RelV y u) (h:∀s',Inv X pins σ H s'->Q (.bool (!o.isSome)) s') :
   wpAny (model X.prog X.w) A (compareOp .NotIn u (.ref a)) Q E s:=by
 rcases g with ⟨kvs,k,e,ey,l⟩ | ⟨kvs,k,b,e,ey,eb,l⟩
 · subst ey
   obtain⟨z,hd,vs,rel,dd⟩:=KC I.hok e
   refine wpAny_notIn_of (LP ry) hd dd.mapOf ?_
   rw[← (rel.val k).isSome_eq,← l]
   exact h _ (I.tok _)
 · subst ey
   cases (show u=a0Z b from ry)
   obtain⟨z,hd,xs,rel,dd⟩:=PL I.hok e
   refine wpAny_notIn_heap (tupleKind_room_in1 hu) (NB I.hok eb) hd dd ?_
   have q:=(rel.val k).isSome_eq
   rw[Option.isSome_map] at q
   rw[← q,← l]
   exact h _ (I.tok _)
theorem P1 {h':Heap}{t':Nat}{ob:HO}(I:Inv X pins σ H s) (mu:Mut (H a)) (hs:Heap.SameBut a s.heap h') (he:∃q,h'.get? a=some q) (new:ObjOk X.prog X.w (upd H a ob) h' a ob) :
   Inv X pins σ (upd H a ob) { s with heap:=h',toks:=t' }:=
 I.write (x:=a) (e:=a) mu (.inl rfl) (fun b q hb z=>(hs.2 b hb).trans z) he new
theorem YQ {P:Program}{w:World}{H':Hp}{h':Heap}{kvs:List (Key×V)}{vs:List (Key×Value)}(z:kvs.length<=sizeLine) (hd:(a==sysModules)=false) (rel:KV kvs vs) (dd:h'.DictOf (AX P w) a vs) :
   ObjOk P w H' h' a (.dK kvs):=⟨z,hd,vs,rel,dd⟩
theorem cS {H':Hp}{Q:Unit->Shared->Prop}(hu:A.units+1 < cLine) (I:Inv X pins σ H s) (g:vC H a y v H') (ry:RelV y u) (rv:RelV v r) (h:∀s',Inv X pins σ H' s'->Q () s') :
   wpAny (model X.prog X.w) A (setItem (.ref a) u r) Q E s:=by
 rcases g with ⟨kvs,k,e,ey,l,eH⟩ | ⟨kvs,k,b,e,ey,eb,l,eH⟩
 · subst ey eH
   obtain⟨z,hd,vs,rel,dd⟩:=gC I.hok e
   have hz:vs.length<=sizeLine:=by rw[← rel.length];exact z
   have hl:(EX kvs k v).length<=sizeLine:=by have:=G7 kvs k v;omega
   refine wpAny_setItem_pairs (hsz:=hz) (LP ry) dd fun h' dd' hs=>h _ ?_
   have he:∃q,h'.get? a=some q:=let ⟨q,_,_,hq,_⟩:=dd';⟨q,hq⟩
   exact P1 I (by rw[e];exact b0X) hs he (YQ hl hd (rel.put k rv) dd')
 · subst ey eH
   cases (show u=a0Z b from ry)
   obtain⟨z,hd,xs,rel,dd⟩:=vB I.hok e
   have hz:xs.length<=sizeLine:=by rw[← Paired.length rel];exact z
   have hl:(EX kvs k v).length<=sizeLine:=by have:=G7 kvs k v;omega
   refine wpAny_setItem_heap (hsz:=hz) (tupleKind_room_in1 hu) (NB I.hok eb) dd fun h' dd' hs=>h _ ?_
   obtain⟨q,es,ep,hq,h2,h3,h4,_,h5⟩:=dd'
   refine P1 I (by rw[e];exact b0X) hs ⟨q,hq⟩ ⟨hl,hd,_,(rel.put k eb rv).keeps fun c ys ec=>?_,q,es,ep,hq,h2,h3,h4,h5⟩
   rw[AJ (uL ec e (fun z=>nomatch z))]
   exact ec
end
def vD (i:Expr):Prop:=∀ov iv,subscripted i false ov iv=operate [ov,iv] (getItem ov iv)
theorem m7 {prog:Program}{w:World}{A:Around}{E:Value->Shared->Prop}{s:Shared}{env:Env}{value slice:Expr}{pos:Pos}{T id:String}{Q:Value->Shared->Prop}
   (hl:typeLookup (.type T) "__getitem__"=pure (some (.builtin id))) (hs:vD slice)
   (h:wpAny (model prog w) A (eval value env) (fun o s₁=>wpAny (model prog w) A (eval slice env) (fun i s₂=>s₂.TypeIs o T/\wpAny (model prog w) A (getItem o i) Q E s₂) E s₁) E s) :
   wpAny (model prog w) A (eval (.Subscript value slice pos) env) Q E s:=by
 refine Subscript_ (wpAny_mono h (fun o s₁ h₁=>wpAny_mono h₁ (fun i s₂ h₂=>?_) fun _ _ x=>x) fun _ _ x=>x)
 obtain⟨hT,h₂⟩:=h₂
 unfold subscriptTail
 refine zZ ?_
 rw[getitemInPython_of_ne hT.not_modules]
 refine zZ (wpAny_specialOf hT hl ?_)
 have fin:wpAny (model prog w) A (subscripted slice false o i) (fun r s₃=>wpAny (model prog w) A (letTemporaryGo value o r >>= fun _=>pure r) Q E s₃) E s₂:=by
   rw[hs o i]
   exact wpAny_operating (wpAny_mono h₂ (fun r s₃ h₃=>zZ (wpAny_letTemporaryGo (zY h₃))) fun _ _ x=>x)
 first
   | exact zY (zZ fin)
   | exact zZ (zY (zZ fin))
   | exact zZ fin
theorem VT {X:Cx}{pins:List (Addr×Obj)}{σ:St}{H:Hp}{s:Shared}{a:Addr}{y:V}{o:Option V}(I:Inv X pins σ H s) (g:TY H a y o):s.TypeIs (.ref a) "dict" := by
 rcases g with ⟨kvs,k,e,_,_⟩ | ⟨kvs,k,b,e,_,_,_⟩
 · obtain⟨_,_,vs,_,dd⟩:=KC I.hok e
   exact dd.typeIs
 · obtain⟨_,_,xs,_,dd⟩:=PL I.hok e
   exact dd.typeIs
def gD (td ty:TE):TE:=fun σ H Q=>td σ H fun x H1=>ty σ H1 fun y H2=>∃a v,x = .ref a/\TY H2 a y (some v)/\Q v H2
def sB (ty td:TE):TE:=fun σ H Q=>ty σ H fun y H1=>td σ H1 fun x H2=>∃a o,x = .ref a/\TY H2 a y o/\Q (.bl o.isSome) H2
def aO (ty td:TE):TE:=fun σ H Q=>ty σ H fun y H1=>td σ H1 fun x H2=>∃a o,x = .ref a/\TY H2 a y o/\Q (.bl (!o.isSome)) H2
def gE (td ty tv:TE):TS:=fun D σ H=>tv σ H fun v H1=>td σ H1 fun x H2=>ty σ H2 fun y H3=>∃a H4,x = .ref a/\vC H3 a y v H4/\D.nx σ H4
section
variable {X:Cx}{o i e value:Expr}{pos pos' tpos:Pos}{td ty tv:TE}
theorem TZ (hu:X.A.units+1 < cLine) (ho:PE X o td) (hi:PE X i ty) (hs:vD i):PE X (.Subscript o i pos) (gD td ty):=by
 intro pins s σ H Q I h
 refine m7 PySem.F.slot_dict_getitem.lookup hs (thn (ho pins s σ H _ I h) fun u s1 ⟨x,H1,I1,rx,q1⟩=>thn (hi pins s1 σ H1 _ I1 q1) fun iv s2 ⟨y,H2,I2,ry,a,v,ex,g,q2⟩=>?_)
 subst ex
 obtain rfl:u=a0Z a:=rx
 exact⟨VT I2 g,cR hu I2 g ry fun w' s3 I3 rw'=>⟨v,H2,I3,rw',q2⟩⟩
theorem YR (hu:X.A.units+1 < cLine) (hi:PE X i ty) (ho:PE X o td):PC X .In i o (sB ty td):=by
 intro pins s σ H Q I h
 refine thn (hi pins s σ H _ I h) fun iv s1 ⟨y,H1,I1,ry,q1⟩=>thn (ho pins s1 σ H1 _ I1 q1) fun u s2 ⟨x,H2,I2,rx,a,ov,ex,g,q2⟩=>?_
 subst ex
 obtain rfl:u=a0Z a:=rx
 exact wW hu I2 g ry fun s3 I3=>⟨.bl ov.isSome,H2,I3,rfl,q2⟩
theorem cT (hu:X.A.units+1 < cLine) (hi:PE X i ty) (ho:PE X o td):PC X .NotIn i o (aO ty td):=by
 intro pins s σ H Q I h
 refine thn (hi pins s σ H _ I h) fun iv s1 ⟨y,H1,I1,ry,q1⟩=>thn (ho pins s1 σ H1 _ I1 q1) fun u s2 ⟨x,H2,I2,rx,a,ov,ex,g,q2⟩=>?_
 subst ex
 obtain rfl:u=a0Z a:=rx
 exact m6 hu I2 g ry fun s3 I3=>⟨.bl (!ov.isSome),H2,I3,rfl,q2⟩
theorem aP (hu:X.A.units+1 < cLine) (ho:PE X o td) (hi:PE X i ty) (hv:PE X value tv) (hs:swapsWith value (some (.Subscript o i pos')) pos.line X.env=pure false) :
   PS X (.Assign [.Subscript o i pos'] value pos) (gE td ty tv):=by
 intro pins s σ H D I h
 refine wpAny_Assign_Subscript (thn (hv pins s σ H _ I h) fun r s1 ⟨v,H1,I1,rv,q1⟩=>thn (ho pins s1 σ H1 _ I1 q1) fun u s2 ⟨x,H2,I2,rx,q2⟩=>thn (hi pins s2 σ H2 _ I2 q2) fun iv s3 ⟨y,H3,I3,ry,a,H4,ex,g,q3⟩=>?_) hs
 subst ex
 obtain rfl:u=a0Z a:=rx
 exact cS hu I3 g ry rv fun s4 I4=>⟨σ,H4,I4,q3⟩
end
theorem PM {P:Program}{w:World}{H:Hp}(h:Heap) (hb:sysModules < h.objs.size):ObjOk P w H (h.push { cls:=.type "dict", data:=.dict #[] }) h.objs.size (.dK []):=
 ⟨xT _,beq_eq_false_iff_ne.mpr (b4K (zC hb)),[],.nil,Heap.DictOf.new h⟩
def gF:TE:=fun _ H Q=>∀p,H p=none->Q (.ref p) (upd H p (.dK []))
section
variable {X:Cx}{pos:Pos}
theorem gG:PE X (.Dict [] [] pos) gF:=fun pins s σ H Q I h=>
 wpAny_Dict_empty ⟨.ref s.heap.objs.size,_,I.laid (a:=s.heap.objs.size) (o:=.dK []) (t':=s.toks) (fun _ _ q=>zW _ q) (zR _) (PM s.heap I.big),rfl,h _ (I.hok.fresh (zR _))⟩
end
def U0:List (TE×TE)->St->Hp->(List (V×V)->Hp->Prop)->Prop
 | [],_,H,Q=>Q [] H
 | (tk,tv)::r,σ,H,Q=>tk σ H fun x H1=>tv σ H1 fun y H2=>U0 r σ H2 fun ps H3=>Q ((x,y)::ps) H3
abbrev VV:List (V×V)->List (Value×Value)->Prop:=Paired fun p q=>RelV p.1 q.1/\RelV p.2 q.2
def PPs (X:Cx) (pos:Pos) (keys:List (Option Expr)) (values:List Expr) (trs:List (TE×TE)):Prop:=
 ∀(pins:List (Addr×Obj)) (s:Shared) (σ:St) (H:Hp) (Q:List (V×V)->Hp->Prop),Inv X pins σ H s->U0 trs σ H Q ->
   wpAny (model X.prog X.w) X.A (evalPairs (pairTrees keys values X.env pos)) (fun vs s'=>∃ps H',Inv X pins σ H' s'/\VV ps vs/\Q ps H') X.xe s
theorem P2 {X:Cx}{pos:Pos}:PPs X pos [] [] []:=fun pins s σ H Q I h=>pairTrees_nil_walk ⟨[],H,I,.nil,h⟩
theorem CS {X:Cx}{pos:Pos}{k v:Expr}{ks:List (Option Expr)}{vs:List Expr}{tk tv:TE}{trs:List (TE×TE)}(hk:PE X k tk) (hv:PE X v tv) (hr:PPs X pos ks vs trs) :
   PPs X pos (some k::ks) (v::vs) ((tk,tv)::trs):=fun pins s σ H Q I h=>
 pairTrees_cons_walk (thn (hk pins s σ H _ I h) fun u s1 ⟨x,H1,I1,rx,q1⟩=>thn (hv pins s1 σ H1 _ I1 q1) fun w2 s2 ⟨y,H2,I2,ry,q2⟩=>
   thn (hr pins s2 σ H2 _ I2 q2) fun ws s3 ⟨ps,H3,I3,rel,q3⟩=>⟨(x,y)::ps,H3,I3,.cons ⟨rx,ry⟩ rel,q3⟩)
def J7 (kvs more:List (Key×V)):List (Key×V):=more.foldl (fun acc kv=>EX acc kv.1 kv.2) kvs
theorem KV.merge:∀{more:List (Key×V)}{rs:List (Key×Value)}{kvs:List (Key×V)}{vs:List (Key×Value)},KV more rs->KV kvs vs->KV (J7 kvs more) (merged vs rs):=by
 intro more rs kvs vs r
 unfold KV at r
 induction r generalizing kvs vs with
 | nil=>intro q;exact q
 | @cons p q ps qs h t ih=>
   intro r0
   have e:KV (EX kvs p.1 p.2) (stored vs q.1 q.2):=by
     have:=r0.put p.1 h.2
     rw[← h.1];exact this
   exact ih e
theorem KD:∀(more kvs:List (Key×V)),(J7 kvs more).length<=kvs.length+more.length
 | [],kvs=>by show kvs.length<=kvs.length+0;omega
 | p::r,kvs=>by
   have h1:=KD r (EX kvs p.1 p.2)
   have h2:=G7 kvs p.1 p.2
   show(J7 (EX kvs p.1 p.2) r).length<=_
   rw[yR];omega
theorem PN {P:Program}{w:World}:∀{kvs:List (Key×V)}{ws:List (Value×Value)},VV (kvs.map fun kv=>(kV kv.1,kv.2)) ws->∃rs,Carries (AX P w) ws rs/\KV kvs rs
 | [],_,r=>by rw[a3W] at r;cases r;exact⟨[],b0X,.nil⟩
 | p::kvs,_,r=>by
   rw[zI] at r
   cases r with
   | @cons a b as bs h t=>
     obtain⟨rs,c,q⟩:=PN (P:=P) (w:=w) t
     obtain⟨b1,b2⟩:=b
     exact⟨(p.1,b2)::rs,⟨LP h.1,rfl,c⟩,.cons ⟨rfl,h.2⟩ q⟩
def pN (trs:List (TE×TE)):TE:=fun σ H Q=>∀p,H p=none->U0 trs σ (upd H p (.dK [])) fun ps H2=>H2 p=some (.dK [])/\∃kvs:List (Key×V),ps=kvs.map (fun kv=>(kV kv.1,kv.2))/\kvs.length<=15/\Q (.ref p) (upd H2 p (.dK (J7 [] kvs)))
theorem P3 {X:Cx}{pos:Pos}{keys:List (Option Expr)}{values:List Expr}{trs:List (TE×TE)}(h:PPs X pos keys values trs) (hall:keys.all (·.isSome)=true) (hl:keys.length=values.length) (h0:keys≠[])
   (h15:keys.length<=15):PE X (.Dict keys values pos) (pN trs):=by
 intro pins s σ H Q I q
 have hn:=I.hok.fresh (zR s.heap.objs.size)
 have I1:=I.laid (a:=s.heap.objs.size) (o:=.dK []) (h':=s.heap.push { cls:=.type "dict", data:=.dict #[] }) (t':=s.toks) (fun _ _ q=>zW _ q) (zR _) (PM s.heap I.big)
 refine wpAny_Dict_walk (knd:=AX X.prog X.w) hall hl h0 h15 (thn (h pins _ σ _ _ I1 (q _ hn)) fun ws s2 ⟨ps,H2,I2,rel,e,kvs,ep,lk,q2⟩=>?_)
 subst ep
 obtain⟨rs,c,rk⟩:=PN (P:=X.prog) (w:=X.w) rel
 obtain⟨z,hd,vs0,r0,dd⟩:=gC I2.hok e
 cases r0
 refine⟨rs,c,dd,fun h' dd' hs=>⟨.ref s.heap.objs.size,_,?_,rfl,q2⟩⟩
 have hz:(J7 [] kvs).length<=sizeLine:=by
   have h1:=KD kvs []
   rw[b2K] at h1
   rw[sizeLine_eq];omega
 have he:∃q,h'.get? s.heap.objs.size=some q:=let ⟨q,_,_,hq,_⟩:=dd';⟨q,hq⟩
 exact P1 I2 (by rw[e];exact b0X) hs he (YQ hz hd (rk.merge .nil) dd')
structure M1 (X:Cx) (o:Expr) (m:Str) (apos:Pos) (e:Expr) (cpos:Pos):Prop where
 base:attributeBase o m X.env (eval o X.env)=eval o X.env
 few:((backTo cpos (starEach [e] X.env)).all (fun x=>!x.1)&&(backToKw cpos (keywordEach [] X.env)).all (fun x=>x.1.isSome)
   && decide (([e]:List Expr).length+([]:List Keyword).length+(if ([]:List Keyword).isEmpty then 0 else 1) < 30))=true
 line:(apos.endLine==cpos.line)=true
 trees:backTo cpos (starEach [e] X.env)=[(false,eval e X.env)]
structure M2 (X:Cx) (o:Expr) (m:Str) (apos:Pos) (e f:Expr) (cpos:Pos):Prop where
 base:attributeBase o m X.env (eval o X.env)=eval o X.env
 few:((backTo cpos (starEach [e,f] X.env)).all (fun x=>!x.1)&&(backToKw cpos (keywordEach [] X.env)).all (fun x=>x.1.isSome)
   && decide (([e,f]:List Expr).length+([]:List Keyword).length+(if ([]:List Keyword).isEmpty then 0 else 1) < 30))=true
 line:(apos.endLine==cpos.line)=true
 trees:backTo cpos (starEach [e,f] X.env)=[(false,eval e X.env),(false,eval f X.env)]
def IsD (H:Hp) (a:Addr):Prop:=(∃kvs,Rd H a (.dK kvs))∨∃kvs,Rd H a (.dT kvs)
theorem sC {X:Cx}{pins:List (Addr×Obj)}{σ:St}{H:Hp}{s:Shared}{a:Addr}(I:Inv X pins σ H s) (d:IsD H a) :
   s.TypeIs (.ref a) "dict" /\ (∀b,a0Z a = .ref b->∃ob,s.heap.get? b=some ob/\ob.dict=none)/\(a==sysModules)=false:=by
 rcases d with ⟨kvs,e⟩ | ⟨kvs,e⟩
 · obtain⟨_,hd,vs,_,dd⟩:=KC I.hok e
   refine⟨dd.typeIs,fun b q=>?_,hd⟩
   cases q
   obtain⟨ob,_,_,h1,h2,_⟩:=dd
   exact⟨ob,h1,h2.2.1⟩
 · obtain⟨_,hd,xs,_,dd⟩:=PL I.hok e
   refine⟨dd.typeIs,fun b q=>?_,hd⟩
   cases q
   obtain⟨ob,_,_,h1,h2,_⟩:=dd
   exact⟨ob,h1,h2.2.1⟩
section
variable {X:Cx}{pins:List (Addr×Obj)}{σ:St}{H:Hp}{s:Shared}{a:Addr}{y d:V}{u r:Value}{o:Option V}{A:Around}{E:Value->Shared->Prop}
theorem sD {Q:Value->Shared->Prop}(hu:A.units+1 < cLine) (I:Inv X pins σ H s) (g:TY H a y o) (ry:RelV y u) (rd:RelV d r) (h:∀w' s',Inv X pins σ H s'->RelV (o.getD d) w'->Q w' s') :
   wpAny (model X.prog X.w) A (call (.builtin "dict.get") [.ref a,u,r]) Q E s:=by
 rcases g with ⟨kvs,k,e,ey,l⟩ | ⟨kvs,k,b,e,ey,eb,l⟩
 · subst ey
   obtain⟨z,hd,vs,rel,dd⟩:=KC I.hok e
   refine call_meetsIn b0Z dd.typeIs b9Z (PySem.F.args_dict_get_3 _ _ _) (meets_dict_get_default (AX X.prog X.w) a (LP ry) hd r) ⟨_,dd.mapOf,h _ _ (I.tok _) ?_⟩
   rw[l]
   exact(rel.val k).getD rd
 · subst ey
   cases (show u=a0Z b from ry)
   obtain⟨z,hd,xs,rel,dd⟩:=PL I.hok e
   refine call_meetsIn b0Z dd.typeIs b9Z (PySem.F.args_dict_get_3 _ _ _) (meetsH_dict_get_default (tupleKind (AX X.prog X.w)) a b hd r) ⟨tupleKind_room_in1 hu,k,xs,NB I.hok eb,dd,h _ _ (I.tok _) ?_⟩
   rw[l]
   exact(rel.val k).getD rd
end
def gH (td ty tx:TE):TE:=fun σ H Q=>td σ H fun x H1=>∃a,x = .ref a/\IsD H1 a/\ty σ H1 fun y H2=>tx σ H2 fun z H3=>∃o,TY H3 a y o/\Q (o.getD z) H3
section
variable {X:Cx}{o e f:Expr}{apos cpos:Pos}{td ty tx:TE}
theorem LQ (hu:X.A.units+1 < cLine) (ho:PE X o td) (he:PE X e ty) (hf:PE X f tx) (m:M2 X o "get" apos e f cpos):PE X (.Call (.Attribute o "get" apos) [e,f] [] cpos) (gH td ty tx):=by
 intro pins s σ H Q I h
 refine wpAny_Call_method m.base m.few m.line PySem.F.plainAttrs_dict b0Z PySem.F.type_dict_get (thn (ho pins s σ H _ I h) fun u s1 ⟨x,H1,I1,rx,a,ex,d,q1⟩=>?_)
 subst ex
 obtain rfl:u=a0Z a:=rx
 obtain⟨t1,t2,_⟩:=sC I1 d
 refine⟨t1,t2,?_⟩
 rw[m.trees]
 refine c0Z rfl (Calls.evalArgs_plain (xP (thn (he pins s1 σ H1 _ I1 q1) fun iv s2 ⟨y,H2,I2,ry,q2⟩=>
   xP (thn (hf pins s2 σ H2 _ I2 q2) fun fv s3 ⟨z,H3,I3,rz,ov,g,q3⟩=>Calls.spliced_nil ?_))))
 exact sD hu I3 g ry rz fun w' s4 I4 rw'=>⟨_,H3,I4,rw',q3⟩
end
end L2
namespace Att
open PySem PySem.W PySem.Calls PyProof.Rows
theorem OH {P:Params}{h:Heap}:∀(ns:List Int) (vs:List Value),WellAll P h vs (ns.map WData.int)->IntsAre vs ns:=by
 intro ns
 induction ns with
 | nil=>
   intro vs w
   rw[a3W] at w
   cases w
   exact .nil
 | cons n ns ih=>
   intro vs w
   rw[zI] at w
   cases w with
   | cons a b=>
     cases a
     exact .cons _ _ (ih _ b)
theorem script_of {l:OpenLaw}{n:Nat}(hn:l.most=some n) {P:Params}{h:Heap}{args:List WData}{vals:List Value}
   (hpre:l.row.toRowW.claim.pre args=true) (hwl:WellAll P h vals args) :
   ∃a vs ns,vals=[a0Z a]/\args=[WData.list (ns.map WData.int)]/\h.get? a=some { cls:=.type "list", data:=.seq vs.toArray }/\IntsAre vs ns/\ns.length<=n:=by
 have hsh:WShape.hasAll [] args [.list .int]=true:=(pre_splitW hpre).1
 have hc:l.pre.holds [] { args:=args }=true:=(pre_splitW hpre).2
 obtain⟨d,r,rfl,h1,h2⟩:=hasAllW_cons hsh
 obtain rfl:=hasAllW_nil h2
 obtain⟨xs,rfl,h3⟩:=hasW_list h1
 obtain⟨ns,rfl⟩:=items_int h3
 have hlen:ns.length<=n:=by
   unfold OpenLaw.pre at hc
   have h4:(WTm.not (.lt (.lit (.int (n:Int))) (.len (.arg 0)))).holds [] { args:=[.list (ns.map .int)] }=true:=by
     have h4:=(holds_andW hc).1
     rw[hn] at h4
     exact h4
   have h5:=condW_of h4 (w_not (w_lt w_lit (w_len_list (w_arg rfl))))
   rw[zX] at h5
   refine Nat.le_of_not_lt fun q=>?_
   have q':(n:Int) < ((ns.length:Nat):Int):=by omega
   first
     | (rw[decide_eq_true q'] at h5;exact absurd h5 (by decide))
     | (simp at h5;omega)
 cases hwl with
 | cons w1 w2=>
   cases w2
   cases w1 with
   | list ho hall=>exact⟨_,_,ns,rfl,rfl,ho,OH ns _ hall,hlen⟩
theorem post_true (l:OpenLaw) (args:List WData):l.row.toRowW.claim.post args (.bool true) args=true:=
 postW_of (r:=l.row.toRowW) (X:=(true==true))
   (show WShape.has [] (.bool true) .bool=true by first | rfl | decide | simp[WShape.has,WShape.arms,WShape.armsAll])
   (show(WTm.eq .res (.lit (.bool true))).value [] { args:=args,res:=some (.bool true),after:=args }=some (.bool (true==true)) from w_eq_bool (w_res rfl) w_lit) rfl
end Att
namespace L2
open PySem PySem.Spec PyProof.Rows
theorem SQ:∀{vs:List Value}{ns:List Int},IntsAre vs ns->Vals (ns.map V.int) vs
 | _,_,.nil=>.nil
 | _,_,.cons n t h=>.cons ⟨t,rfl⟩ (SQ h)
def sE (H:Hp):Prop:=∀b,H b=none∨∃o xs,H b=some (.frz o (.lst xs))
theorem gI {P:Program}{w:World}{K:Frg}{mg mb:Str->Option Value}{CX:CXT}{k:Nat}{fa a:Addr}{fd:FuncData}{x:Str}{sp:Sp}{s₁:Shared}{vs:List Value}{ns:List Int}
   (KX:K.In s₁.heap) (hns:s₁.heap.Ns mainGlobals mg) (hb:s₁.heap.Ns builtinsNs mb) (hbb:∀x:Str,x ≠ "__name__" -> mb x=bootBuiltins x) (hlim:s₁.heap.NoLimit) (hg:s₁.gens=#[])
   (ha:s₁.heap.get? a=some { cls:=.type "list", data:=.seq vs.toArray }) (hi:IntsAre vs ns) (hl:ns.length<=sizeLine) (hr:Room k callerA)
   (F:∀base:Heap,K.In base->base.Ns mainGlobals mg->FnOk P w K mg base CX k fa fd [x] sp) (hbind:∀(s:Shared) (u:Value),BindsTo s fd ⟨[u],[]⟩ [(x,u)])
   (hsp:∀H:Hp,sE H->SqL K H a (ns.map V.int)->sp [.ref a] H (fun v _=>v = .bl true) fun _ _ _=>False)
   (hCX:∀H e s',CX [] H s₁ (fun _ _ _=>False) e s'->False) :
   codeAny (model P w) callerA (.call (.ref fa) ⟨[.ref a],[]⟩) (fun r s'=>r = .ok (.ret (.bool true))/\OldK s₁.heap s'.heap/\s'.os=s₁.os/\AllBare s'.gens) s₁:=by
 have rv:=SQ hi
 have lenV:=hi.length
 have core:∀H:Hp,sE H->SqL K H a (ns.map V.int)->HOk P w H s₁.heap->(∀b,H b≠none->b=a)->(H a≠none->K.lookup a=none) ->
     codeAny (model P w) callerA (.call (.ref fa) ⟨[.ref a],[]⟩) (fun r s'=>r = .ok (.ret (.bool true))/\OldK s₁.heap s'.heap/\s'.os=s₁.os/\AllBare s'.gens) s₁:=by
   intro H hO hS hok hA hK
   have base_of:∀{b:Addr}{o:Obj},s₁.heap.get? b=some o->H b=none->(TJ s₁.heap H).get? b=some o:=fun e n=>fL e n
   have noA:∀{b:Addr}{o:Obj}{es:Array DictEntry}{ep:Nat},s₁.heap.get? b=some o->o.data = .dict es ep->H b=none:=fun {b o es ep} e d=>by
     cases q:H b with
     | none=>rfl
     | some u=>
       have e':b=a:=hA b (by rw[q];simp)
       subst e'
       rw[ha] at e;cases e
       have d':Data.seq vs.toArray _=Data.dict es ep:=d
       cases d'
   have nsK:∀{b:Addr}{m:Str->Option Value},s₁.heap.Ns b m->(TJ s₁.heap H).Ns b m:=fun {b m} ⟨o,es,ep,e,d,r⟩=>⟨o,es,ep,base_of e (noA e d),d,r⟩
   have hKb:K.In (TJ s₁.heap H):=fun b o e=>base_of (KX b o e) (by
     cases q:H b with
     | none=>rfl
     | some u=>
       have e':b=a:=hA b (by rw[q];simp)
       subst e'
       rw[hK (by rw[q];simp)] at e;cases e)
   have hM:Mod K mg (TJ s₁.heap H):=⟨hKb,nsK hns,⟨mb,nsK hb,hbb⟩,let ⟨mc,h1,h2⟩:=hlim;⟨mc,nsK h1,h2⟩⟩
   have e0:Env0 P w K mg (TJ s₁.heap H) callerA [] s₁ H:=⟨rfl,hM,fun b o e=>lK e,Nat.le_of_eq (cD _ _),trivial,fun b hb=>absurd (show b∈([]:List Addr) from hb) (by simp),hok,.of_eq hg⟩
   refine xN ((F _ hKb (nsK hns)).run callerA [] s₁ H ⟨[.ref a],[]⟩ [.ref a] [.ref a] _ _ hr e0 (hbind s₁ (.ref a)) (.cons rfl .nil) (hsp H hO hS)) fun r s' h=>?_
   cases r with
   | error e=>exact(hCX H e s' h).elim
   | ok fl=>
     cases fl with
     | next=>exact a8K h
     | brk=>exact a8K h
     | cont=>exact a8K h
     | ret u=>
       obtain⟨v,H',os,bare,un,hok',r',q⟩:=h
       have q':v = .bl true:=q
       subst q'
       obtain rfl:u=Value.bool true:=r'
       refine⟨rfl,OldK.of_keep fun b o e=>?_,os,bare⟩
       cases q:H b with
       | none=>exact un.keep b o e q (by intro z;exact absurd (show b∈([]:List Addr) from z) (by simp)) (by simp)
       | some u=>
         rcases hO b with z | ⟨ob,xs,z⟩
         · rw[q] at z;cases z
         · have z2:=un.frzs b ob _ z
           obtain⟨e1,_⟩:=hok b _ z
           obtain⟨e2,_⟩:=hok' b _ z2
           rw[e] at e1;cases e1
           exact e2
 cases hk:K.lookup a with
 | some o=>
   have e:=KX a o hk
   rw[ha] at e
   cases e
   refine core (fun _=>none) (fun _=>.inl rfl) (.inr ⟨_,vs.toArray,_,hk,rfl,rfl,rfl,by rw[zJ,lenV];exact hl,by simpa using rv⟩) (fun b u z=>by have z':(none:Option HO)=some u:=z;cases z') (fun b z=>absurd rfl z) fun z=>absurd rfl z
 | none=>
   refine core (fun b=>if b=a then some (.frz { cls:=.type "list", data:=.seq vs.toArray } (.lst (ns.map V.int))) else none) (fun b=>?_) (.inl (.inr ⟨{ cls:=.type "list", data:=.seq vs.toArray },if_pos rfl⟩)) (fun b u z=>?_) (fun b z=>?_) fun _=>hk
   · by_cases hb:b=a
     · exact .inr ⟨_,_,if_pos hb⟩
     · exact .inl (if_neg hb)
   · by_cases hb:b=a
     · have z':=(if_pos hb).symm.trans z
       cases z'
       subst hb
       exact⟨ha,by rw[zX];exact hl,vs,_,rv,ha⟩
     · have z':=(if_neg hb).symm.trans z
       cases z'
   · by_cases hb:b=a
     · exact hb
     · exact absurd (if_neg hb) z
def EH (s:Stmt):Arguments:=match s with
 | .FunctionDef _ a _ _ _ _ _ _ _ _=>a
 | _=>{ posonlyargs:=[],args:=[],vararg:=none,kwonlyargs:=[],kw_defaults:=[],kwarg:=none,defaults:=[] }
def BZ (s:Stmt):List Stmt:=match s with
 | .FunctionDef _ _ b _ _ _ _ _ _ _=>b
 | _=>[]
def AB (s:Stmt):Scope:=match s with
 | .FunctionDef _ _ _ _ _ _ sc _ _ _=>sc
 | _=>{ kind:=.function,names:=[],isGenerator:=false,isCoroutine:=false }
abbrev CX0:CXT:=fun _ _ _ _ _ _=>False
abbrev E0:XK:=fun _ _ _=>False
theorem vE {X:Cx}:YL CX0 X E0:=fun _ _ _ _ _ _ _ h=>h.elim
structure Fun (K:Frg) (x qual:Str) (st:Stmt) (f:Addr) (fd:FuncData):Prop where
 ex:∃(oc:Value) (od:Option Addr) (kV doc pm:Value) (an:Option Addr) (cdv ct:Value) (osl:Array (Option Value)),
   fd=a7J x qual (EH st) (BZ st) (AB st) .none kV doc pm an cdv ct/\K.lookup f=some ⟨oc,od,.func fd,osl⟩/\b3K K cdv qual=true
 kp:a5Q K (.ref f)=true
section
variable {P:Program}{w:World}{K:Frg}{mg:Str->Option Value}{base:Heap}
theorem Fun.ok {x qual:Str}{st:Stmt}{f:Addr}{fd:FuncData}{N ps:List Str}{k:Nat}{sp:Sp}(F:Fun K x qual st f fd) (S:FnScope N ps (AB st)) (len:∀vs H Q E,sp vs H Q E->vs.length=ps.length)
   (hbody:∀(cdv:Value) (A:Around) (outer:List Env) (s:Shared) (H:Hp) (vs:List V) (Q:VK) (E:XK),Room k (A.deeper (envOfC qual (AB st) s.heap.objs.size f cdv))->sp vs H Q E ->
     ∃t,PSs (LO CX0 P w K mg base N qual (AB st) f cdv A outer s H E).nox (BZ st) t/\t { nx:=fun _ H'=>Q .non H',rt:=Q } (G6 N vs) H):FnOk P w K mg base CX0 (k+1) f fd ps sp:=by
 obtain⟨oc,od,kV,doc,pm,an,cdv,ct,osl,rfl,lk,hcd⟩:=F.ex
 refine pJ lk hcd S len fun A outer s H vs Q E hr hsp=>?_
 obtain⟨t,h,q⟩:=hbody cdv A outer s H vs Q E hr hsp
 exact⟨t,h.nox,q⟩
theorem Fun.binds {x qual:Str}{st:Stmt}{f:Addr}{fd:FuncData}{ps:List Str}(F:Fun K x qual st f fd)
   (h:∀(kV doc pm:Value) (an:Option Addr) (cdv ct:Value) (us:List Value),us.length=ps.length->bindArgs (a7J x qual (EH st) (BZ st) (AB st) .none kV doc pm an cdv ct) ⟨us,[]⟩=pure (ps.zip us)):Binds K fd ps []:=by
 obtain⟨oc,od,kV,doc,pm,an,cdv,ct,osl,rfl,lk,hcd⟩:=F.ex
 exact .all (h kV doc pm an cdv ct)
theorem gJ {x qual:Str}{st:Stmt}{f:Addr}{oc:Value}{od an:Option Addr}{osl:Array (Option Value)}{kV doc pm cdv ct:Value}(l:K.lookup f=some ⟨oc,od,.func (a7J x qual (EH st) (BZ st) (AB st) .none kV doc pm an cdv ct),osl⟩)
   (c:b3K K cdv qual=true) (k:a5Q K (.ref f)=true):Fun K x qual st f (a7J x qual (EH st) (BZ st) (AB st) .none kV doc pm an cdv ct):=⟨⟨oc,od,kV,doc,pm,an,cdv,ct,osl,rfl,l,c⟩,k⟩
end
section
variable {X:Cx}
theorem pv (i:Nat) {x:Str}{pos:Pos}(hN:X.N[i]?=some x:=by rfl) (hv:Vis X.env.scope x:=by first | exact Or.inl rfl | exact Or.inr (Or.inl rfl) | exact Or.inr (Or.inr rfl)) (hd:(x==("__debug__":Str))=false:=by decide)
   (hcd:(x==("__classdict__":Str))=false:=by decide):PE X (.Name x pos) (cF i):=fM hN hv hd hcd
end
theorem m8 {A B:Prop}(h:B):if false=true then A else B:=by
 rw[if_neg nft]
 exact h
theorem m9 {A B:Prop}(h:A):if true=true then A else B:=by
 rw[if_pos rfl]
 exact h
theorem sF {c A B:Prop}[Decidable c] (h1:c->A) (h2:¬c->B):if c then A else B:=by
 by_cases h:c
 · rw[if_pos h]
   exact h1 h
 · rw[if_neg h]
   exact h2 h
end L2
namespace L2
open PySem PySem.Spec PyProof.Rows
def L5 (cells:List (Str×Addr)):List (Str×NameKind)->List (Str×Addr)->List (Str×Addr)
 | [],cs=>cs
 | (n,k)::r,cs=>L5 cells r (if k==.free then (match cells.lookup n with | some c=>(n,c)::cs | none=>cs) else cs)
theorem U1 (env:Env):∀(names:List (Str×NameKind)) (cs:List (Str×Addr)),(∀y∈names,y.2 = .free->∃c,env.cells.lookup y.1=some c) ->
   (forIn (m:=Sem) names cs fun x r=>do
     let (name,kind):=x
     if (kind==.free)=true then do let c ← cellOf env name;pure (b1V ((name,c)::r)) else pure (b1V r))=pure (L5 env.cells names cs)
 | [],cs,_=>rfl
 | (n,k)::r,cs,h=>by
   have hr:∀y∈r,y.2 = .free->∃c,env.cells.lookup y.1=some c:=fun y hy=>h y (yV _ hy)
   rw[List.forIn_cons]
   by_cases hk:(k==a7Z)=true
   · obtain⟨c,hc⟩:=h (n,k) a4Q (by simpa using hk)
     have hc':env.cells.lookup n=some c:=hc
     simp only[hk,if_true,cellOf,hc',L5]
     exact U1 env r _ hr
   · simp only[hk,if_false,L5]
     exact U1 env r _ hr
theorem aQ {scope:Scope}{env:Env}(h:∀y∈scope.names,y.2 = .free->∃c,env.cells.lookup y.1=some c):closureFor scope env=pure (L5 env.cells scope.names []):=by
 have e:=U1 env scope.names [] h
 have e2:closureFor scope env=((forIn (m:=Sem) scope.names ([]:List (Str×Addr)) fun x r=>do
     let (name,kind):=x
     if (kind==.free)=true then do let c ← cellOf env name;pure (b1V ((name,c)::r)) else pure (b1V r)) >>= fun r=>pure r):=rfl
 rw[e2,e]
 rfl
theorem VU {cells:List (Str×Addr)}:∀{names:List (Str×NameKind)}{cs:List (Str×Addr)},(∀p∈cs,cells.lookup p.1=some p.2)->∀p∈L5 cells names cs,cells.lookup p.1=some p.2
 | [],_,h=>h
 | (n,k)::r,cs,h=>by
   refine VU (names:=r) ?_
   split
   · cases e:cells.lookup n with
     | none=>exact h
     | some c=>
       intro p hp
       rcases yX.mp hp with rfl | hp
       · exact e
       · exact h p hp
   · exact h
theorem SR {cells:List (Str×Addr)}:∀{names:List (Str×NameKind)}{cs:List (Str×Addr)}{p:Str×Addr},p∈cs->p∈L5 cells names cs
 | [],_,_,h=>h
 | (n,k)::r,cs,p,h=>by
   refine SR (names:=r) ?_
   split
   · cases e:cells.lookup n with
     | none=>exact h
     | some c=>exact yV _ h
   · exact h
theorem VW {cells:List (Str×Addr)}{x:Str}{c:Addr}(hc:cells.lookup x=some c):∀{names:List (Str×NameKind)}{cs:List (Str×Addr)},(x,a7Z)∈names->(x,c)∈L5 cells names cs
 | [],_,h=>absurd h (by simp)
 | (n,k)::r,cs,h=>by
   rcases yX.mp h with e | h
   · cases e
     refine SR (names:=r) ?_
     simp[hc]
   · exact VW hc (names:=r) h
theorem PP {α:Type}:∀{l:List (Str×α)}{x:Str}{c:α},(x,c)∈l->∃c',l.lookup x=some c'
 | [],_,_,h=>absurd h (by simp)
 | (n,k)::r,x,c,h=>by
   rw[a3X]
   cases e:x==n with
   | true=>exact⟨k,rfl⟩
   | false=>
     rcases yX.mp h with e' | h
     · cases e';simp at e
     · exact PP h
theorem BW {cells:List (Str×Addr)}{names:List (Str×NameKind)}{x:Str}{c:Addr}(h:(L5 cells names []).lookup x=some c):cells.lookup x=some c:=
 VU (names:=names) (cs:=[]) (by simp) (x,c) (a5K h)
structure CSc (X:Cx) (scope:Scope) (NC:List Str) (fr:List (Option Nat)):Prop where
 kind:scope.kind = .function
 nocell:∀y∈scope.names,y.2≠.cell
 names:∀y∈scope.names,y.2 = .local->scope.names.lookup y.1=some .local
 free:∀y∈scope.names,y.2 = .free->X.env.kindOf y.1=some .cell∨X.env.kindOf y.1=some .free
 len:fr.length=NC.length
 slot:∀(i j:Nat) (x:Str),NC[i]?=some x->fr[i]?=some (some j)->X.N[j]?=some x/\scope.names.lookup x=some .free/\Vis X.env.scope x/\X.env.kindOf x≠some .local
def capt (fr:List (Option Nat)) (σ:St):St:=fr.map fun o=>o.bind fun j=>(σ[j]?).join
def BL (X:Cx) (scope:Scope) (NC:List Str) (C:Addr) (s:Shared) (H:Hp) (ex:List Addr) (pn:List (Addr×Obj)):Cx where
 prog:=X.prog
 w:=X.w
 K:=X.K
 mg:=X.mg
 base:=X.base
 A:=X.A
 N:=NC
 s₀:=s
 H₀:=H
 env:=compEnvC scope (L5 X.env.cells scope.names []) C X.env
 outer:=X.stack
 stack:=X.stack
 ex:=ex
 fn:=fun _=>false
 calm:=X.calm
 pn:=pn
 xe:=fun _ _=>False
theorem KF {scope:Scope}{env:Env}{x:Str}:∀{names:List (Str×NameKind)},
   ((names.map fun(n,k)=>if (k==a7Z&&env.scope.kind==.function&&env.kindOf n==some .cell) then (n,NameKind.cell) else (n,k)).lookup x=some .cell ∨
    (names.map fun(n,k)=>if (k==a7Z&&env.scope.kind==.function&&env.kindOf n==some .cell) then (n,NameKind.cell) else (n,k)).lookup x=some .free) ->
   (∀y∈names,y.2≠.cell)->(x,a7Z)∈names
 | [],h,_=>by simp at h
 | (n,k)::r,h,hn=>by
   have ih:=@KF scope env x r
   have hn':∀y∈r,y.2≠.cell:=fun y hy=>hn y (yV _ hy)
   have hk:=hn (n,k) a4Q
   simp only[zI] at h
   by_cases hc:(k==a7Z&&env.scope.kind==.function&&env.kindOf n==some .cell)=true
   · simp only[hc,if_true,a3X] at h
     cases hx:x==n with
     | true=>
       have e:x=n:=by simpa using hx
       have e2:k = .free:=by simp at hc;exact hc.1.1
       subst e e2
       exact a4Q
     | false=>
       simp only[hx] at h
       exact yV _ (ih h hn')
   · simp only[hc,a3X] at h
     cases hx:x==n with
     | true=>
       have e:x=n:=by simpa using hx
       subst e
       simp[a3X] at h
       rcases h with h | h
       · exact absurd h hk
       · subst h;exact a4Q
     | false=>
       simp[a3X,hx] at h
       exact yV _ (ih (by simpa using h) hn')
section
variable {X:Cx}{scope:Scope}{NC:List Str}{fr:List (Option Nat)}{pins:List (Addr×Obj)}{σ:St}{H:Hp}{s:Shared}
theorem CSc.has (S:CSc X scope NC fr) (ok:X.Ok):∀y∈scope.names,y.2 = .free->∃c,X.env.cells.lookup y.1=some c:=fun y hy hf=>ok.has y.1 (S.free y hy hf)
theorem CSc.cells (S:CSc X scope NC fr) (ok:X.Ok) {x:Str}(h:(x,a7Z)∈scope.names):∃c,(L5 X.env.cells scope.names []).lookup x=some c/\X.env.cells.lookup x=some c:=by
 obtain⟨c,hc⟩:=S.has ok _ h rfl
 have hc':X.env.cells.lookup x=some c:=hc
 obtain⟨c',h'⟩:=PP (VW hc' h (cs:=[]))
 have:=BW h'
 rw[hc'] at this;cases this
 exact⟨_,h',hc'⟩
theorem U2 {env:Env}{x:Str}{scope:Scope}(hn:∀y∈scope.names,y.2 = .local->scope.names.lookup y.1=some .local) (h:(x,a7Z)∈scope.names) (hl:scope.names.lookup x≠some .free->False):(relabel scope env).names.lookup x=some .cell∨(relabel scope env).names.lookup x=some .free:=by
 have hf:scope.names.lookup x=some .free:=by
   cases e:scope.names.lookup x with
   | none=>exact(hl (by rw[e];intro z;cases z)).elim
   | some k=>
     cases k <;> first
       | rfl
       | exact(hl (by rw[e];intro z;cases z)).elim
 have go:∀(names:List (Str×NameKind)),names.lookup x=some .free ->
   ((names.map fun(n,k)=>if (k==a7Z&&env.scope.kind==.function&&env.kindOf n==some .cell) then (n,NameKind.cell) else (n,k)).lookup x=some .cell ∨
    (names.map fun(n,k)=>if (k==a7Z&&env.scope.kind==.function&&env.kindOf n==some .cell) then (n,NameKind.cell) else (n,k)).lookup x=some .free):=by
   intro names
   induction names with
   | nil=>intro h;simp at h
   | cons y r ih=>
     obtain⟨n,k⟩:=y
     intro h
     rw[a3X] at h
     simp only[zI]
     cases hx:x==n with
     | true=>
       simp only[hx] at h
       cases h
       split
       · left;simp[a3X,hx]
       · right;simp[a3X,hx]
     | false=>
       simp only[hx] at h
       have:=ih h
       split
       · simpa [a3X,hx] using this
       · simpa [a3X,hx] using this
 exact go scope.names hf
end
end L2
namespace L2
open PySem PySem.Spec PyProof.Rows
theorem B3 {α:Type}{t:Sem α}{Q:α->Shared->Prop}{M:Model}{A:Around}{E:Value->Shared->Prop}{s:Shared}(h:wpAny M A t Q (fun _ _=>False) s):wpAny M A t Q E s:=
 wpAny_mono h (fun _ _ q=>q) fun _ _ f=>f.elim
def L6 (ifs:List Expr) (env:Env):Sem Bool:=forIn ifs true fun c r=>if r=true then do let ok ← isTrue c env (eval c env);pure (b1V ok) else pure (b1V r)
theorem K8 {prog:Program}{w:World}{A:Around}{R:Result->Shared->Prop}{s:Shared}{elt target iter:Expr}{ifs:List Expr}{scope:Scope}{pos:Pos}{it acc:Value}{env:Env}(I:Nat->Shared->Prop)
   (turn:∀n s,I n s->wpAny (model prog w) A (pyNext it) (fun r s₁=>match r with
     | none=>R (.ok .next) s₁
     | some v=>wpAny (model prog w) A (letOwnedTupleGo target it v) (fun _ s₀=>wpAny (model prog w) A (assign target env v) (fun _ s₂=>
         wpAny (model prog w) A (L6 ifs env) (fun ok s₃=>
           if ok=true then wpAny (model prog w) A (eval elt env) (fun x s₄=>
             wpAny (model prog w) A (call (.builtin "list.append") [acc,x]) (fun _ s₅=>∃m,m < n/\I m s₅) (fun _ _=>False) s₄) (fun _ _=>False) s₃
           else ∃m,m < n/\I m s₃) (fun _ _=>False) s₂) (fun _ _=>False) s₀) (fun _ _=>False) s₁) (fun _ _=>False) s)
   (n:Nat) (h:I n s) :
   codeAny (model prog w) A (.compLoop (.ListComp elt [⟨target,iter,ifs,0⟩] scope pos) 0 it acc env) R s:=by
 refine codeAny_loop rfl I (fun n s hI=>?_) n h
 show wpAny _ A ((compTurn (.ListComp elt [⟨target,iter,ifs,0⟩] scope pos) 0 it acc env).onRaise (fun x=>do noteFrame x env;theTreesLotGoes x)) _ _ s
 refine wpAny_noted ?_
 rw[compTurn_list]
 refine zZ (wpAny_standAt (zZ (wpAny_mono (B3 (turn n s hI)) (fun r s₁ h₁=>?_) fun _ _ h'=>h')))
 cases r with
 | none=>exact zY h₁
 | some v=>
   refine zZ (wpAny_mono (B3 h₁) (fun _ s₀ h₀=>?_) fun _ _ h'=>h')
   refine zZ (wpAny_mono (B3 h₀) (fun _ s₂ h₂=>zZ (wpAny_mono (B3 h₂) (fun ok s₃ h₃=>?_) fun _ _ h'=>h')) fun _ _ h'=>h')
   cases ok with
   | false=>exact zY ⟨rfl,h₃⟩
   | true=>
     exact zZ (zZ (wpAny_mono (B3 h₃) (fun x s₄ h₄=>zZ (wpAny_mono (B3 h₄) (fun _ s₅ h₅=>zY (zY ⟨rfl,h₅⟩)) fun _ _ h'=>h')) fun _ _ h'=>h'))
def PTs (X:Cx) (ifs:List Expr) (t:TT):Prop:=
 ∀(pins:List (Addr×Obj)) (s:Shared) (σ:St) (H:Hp) (Q:Bool->Hp->Prop),Inv X pins σ H s->t σ H Q->wpAny (model X.prog X.w) X.A (L6 ifs X.env) (TP X pins σ Q) X.xe s
def vF:TT:=fun _ H Q=>Q true H
theorem mB {X:Cx}:PTs X [] vF:=fun _ _ _ H _ I h=>wpAny_tests_nil ⟨H,I,h⟩
theorem mD {X:Cx}{c:Expr}{t:TT}(h:PT X c t):PTs X [c] t:=fun pins s σ H Q I q=>wpAny_tests_one (h pins s σ H Q I q)
def SS (fr:List (Option Nat)) (wi:TI) (g:TG) (tt:TT) (te:TE):TE:=fun σ H Q=>wi σ H fun J H1=>∀D,H1 D=none->∃W:Nat->Nat->List V->Hp->Prop,(∃m,W 0 m [] (upd H1 D (.lst []))) /\
 ∀i m ys H2,W i m ys H2->H2 D=some (.lst ys)/\((J.stop i H2/\Q (.ref D) H2)∨(J.go i H2/\∀x H3,J.yld i H2 x H3->g x (capt fr σ) H3 fun σ2 H4=>
   (∀(i:Nat) v,(capt fr σ)[i]?=some (some v)->σ2[i]?=some (some v))/\tt σ2 H4 fun c H5=>if c=true then te σ2 H5 fun y H6=>∃ys',H6 D=some (.lst ys')/\ys'.length < sizeLine/\∃m',m' < m/\W (i+1) m' (ys'++[y]) (upd H6 D (.lst (ys'++[y])))
     else ∃ys' m',m' < m/\W (i+1) m' ys' H5))
section
variable {X:Cx}{scope:Scope}{NC:List Str}{fr:List (Option Nat)}{pins:List (Addr×Obj)}{σ:St}{H:Hp}{s:Shared}
theorem PQ {fp:List Addr}{h1:Heap}{m:Str->Option Value}{tk:Nat}(S:CSc X scope NC fr) (I:Inv X pins σ H s) (hfp:∀b∈fp,L1 X pins H b) (hlt:∀b∈fp,b < s.heap.objs.size)
   (hns:h1.Ns s.heap.objs.size m) (hk:∀b o,s.heap.get? b=some o->h1.get? b=some o) :
   Inv (BL X scope NC s.heap.objs.size s H fp (X.pn++pins)) [] (capt fr σ) H { s with heap:=h1,toks:=tk }:=by
 have I4:Inv X pins σ H { s with heap:=h1,toks:=tk }:=I.kept hk
 have nstk:∀b,b≠X.env.locals->b∉X.fs->b∉frs X.stack:=fun b h1 h2 z=>(yX.mp (I.stkSub b z)).elim h1 h2
 refine⟨⟨I.ok.mod,S.kind,I.ok.glob,I.ok.blt,zR _,fun x y c h1 h2=>I.ok.inj x y c (BW h1) (BW h2),fun x hx=>?_,fun x c h=>absurd h (by intro z;cases z),I.ok.hd,I.ok.frames,.inl rfl,fun b hb=>?_,I.bs,zN I.ok.bsz I.sz,fun b o e hb=>?_,fun b hb=>?_,I.stack,I.stkFree⟩,
   rfl,I.bare,Un.kept hk,⟨m,hns,fun i x v e1 e2 e3=>?_⟩,fun x c e=>I4.cell x c (BW e),I.hok.fresh (zR _),fun x c e=>I4.freeC x c (BW e),fun p hp=>?_,I4.hok,?_⟩
 · have hx':=KF (scope:=scope) (env:=X.env) (x:=x) (names:=scope.names) hx S.nocell
   obtain⟨c,h,_⟩:=S.cells I.ok hx'
   exact⟨c,h⟩
 · exact⟨zC (hlt b hb),fun x c e=>(hfp b hb).2.2.2.2.1 x c (BW e)⟩
 · rcases (hfp b hb).2.2.2.1 with z | z
   · exact I.ok.noex b o e z
   · exact absurd (zP (zM e) (zN I.ok.bsz z)) (yF _)
 · exact nstk b (hfp b hb).2.1 (hfp b hb).2.2.1
 · have e2':∃j,fr[i]?=some (some j)/\σ[j]?=some (some v):=by
     unfold capt at e2
     rw[zF] at e2
     cases hf:fr[i]? with
     | none=>rw[hf] at e2;cases e2
     | some o=>
       rw[hf] at e2
       cases o with
       | none=>cases e2
       | some j=>
         refine⟨j,rfl,?_⟩
         have e2:((σ[j]?).join)=some v:=Option.some.inj e2
         cases hs:σ[j]? with
         | none=>rw[hs] at e2;cases e2
         | some q=>rw[hs] at e2;cases q with
           | none=>cases e2
           | some v'=>cases e2;rfl
   obtain⟨j,f1,f2⟩:=e2'
   obtain⟨g1,g2,g3,g4⟩:=S.slot i j x e1 f1
   obtain⟨m',hn',hl'⟩:=I4.loc
   obtain⟨u,r,l⟩:=hl' j x v g1 f2 g3
   rcases l with ⟨k,_⟩ | ⟨k,c,hc,hcell⟩
   · exact absurd k g4
   · obtain⟨c',q1,q2⟩:=S.cells I.ok (a5K g2)
     rw[hc] at q2;cases q2
     exact⟨u,r,.inr ⟨U2 S.names (a5K g2) (fun z=>z g2),c,q1,hcell⟩⟩
 · have hp':p∈X.pn++pins:=by rw[a2Q] at hp;exact hp
   obtain⟨p1,p2,p3,p4,p5⟩:=I4.pin p hp'
   exact⟨p1,p2,zC (zM (I.pin p hp').1),nstk _ p3 p4,p5⟩
 · unfold capt
   rw[zX]
   exact S.len
theorem VX {elt iter tg:Expr}{ifs:List Expr}{pos cpos:Pos}{wi:TI}{g:TG}{tt:TT}{te:TE}{use:Option (Value->Sem Unit)}{Q:VK}{QQ:Value->Shared->Prop}
   (hc:X.calm=true) (S:CSc X scope NC fr) (hi:PI X tg iter wi)
   (hb:∀(C:Addr) (s:Shared) (H:Hp) (ex:List Addr) (pn:List (Addr×Obj)),PG (BL X scope NC C s H ex pn) tg g/\PTs (BL X scope NC C s H ex pn) ifs tt/\PE (BL X scope NC C s H ex pn) elt te)
   (I:Inv X pins σ H s) (h:SS fr wi g tt te σ H Q)
   (fin:∀(D C:Addr) (H':Hp) (s':Shared) (m:Str->Option Value) (oC:Obj),Inv X (pins++[(C,oC)]) σ H' s'->s'.heap.Ns C m->Q (.ref D) H' ->
     (∀(pins':List (Addr×Obj)) (σ2:St) (H2:Hp) (s2:Shared) (h2:Heap),Inv X (pins++[(C,oC)]) σ2 H2 s2->Heap.SameBut C s2.heap h2->Inv X pins σ2 H2 { s2 with heap:=h2 }) ->
     s'.heap.get? C=some oC ->
     match use with
     | none=>∀h',Heap.SameBut C s'.heap h'->QQ (.ref D) { s' with heap:=h' }
     | some u=>wpAny (model X.prog X.w) X.A (u (.ref D)) (fun _ s''=>∃m,s''.heap.Ns C m/\∀h',Heap.SameBut C s''.heap h'->QQ .none { s'' with heap:=h' }) X.xe s')
   (hs:∀x,foldedSetIterable iter X.env x=pure x) :
   wpAny (model X.prog X.w) X.A (comprehension (.ListComp elt [⟨tg,iter,ifs,0⟩] scope pos) scope X.env cpos (newList []) false (eval iter X.env) use) QQ X.xe s:=by
 refine wpAny_comprehension_free (use:=use) rfl hs (aQ (S.has I.ok)) S.kind S.names (thn (hi pins s σ H _ I h) fun v s1 h1=>thn h1 fun itv s2 h2=>?_)
 obtain⟨it,fp,tn,J,H2,e,I2,T,st2,f2,hq⟩:=h2
 subst e
 have hDn:H2 s2.heap.objs.size=none:=I2.hok.fresh (zR _)
 obtain⟨W,⟨m0,w0⟩,turn⟩:=hq s2.heap.objs.size hDn
 refine xM (wpAny_newFunctionEnv S.nocell (by intro y hy;simp at hy) (fun h₁ hns₁ hsb₁=>?_) S.kind)
 dsimp only at hns₁ hsb₁ ⊢
 generalize hs3:({ s2 with heap:=s2.heap.push { cls:=.type "list", dict:=none,data:=.seq ([]:List Value).toArray } }:Shared)=s3
 have hh3:s2.heap.push { cls:=.type "list", dict:=none,data:=.seq ([]:List Value).toArray }=s3.heap:=by rw[← hs3]
 have I3:Inv X pins σ (upd H2 s2.heap.objs.size (.lst [])) s3:=by
   rw[← hs3]
   refine I2.laid (t':=s2.toks) (fun b u e=>zW _ e) (zR _) ?_
   exact⟨xT _,[],0,.nil,yZ _ rfl⟩
 rw[hh3] at hns₁ hsb₁ ⊢
 have sz3:s3.heap.objs.size=s2.heap.objs.size+1:=by rw[← hh3,a8J]
 have lt2:∀b∈fp,b < s2.heap.objs.size:=fun b hb=>by
   obtain⟨o,e,_⟩:=T.obj _ _ st2 b hb
   exact zM e
 have lt3:∀b∈fp,b < s3.heap.objs.size:=fun b hb=>by rw[sz3];exact b4J (lt2 b hb)
 have f3:∀b∈fp,L1 X pins (upd H2 s2.heap.objs.size (.lst [])) b:=fun b hb=>⟨by rw[AJ (zC (lt2 b hb))];exact(f2 b hb).1,(f2 b hb).2⟩
 have keep1:∀b o,s3.heap.get? b=some o->h₁.get? b=some o:=fun b o e=>hsb₁.extBut b o (zC (zM e)) (zW _ e)
 generalize hC:s3.heap.objs.size=C at hns₁ hsb₁ ⊢
 have I0:Inv (BL X scope NC C s3 (upd H2 s2.heap.objs.size (.lst [])) fp (X.pn++pins)) [] (capt fr σ) (upd H2 s2.heap.objs.size (.lst [])) { s2 with heap:=h₁,toks:=s2.toks+([]:List (Str×Value)).length }:=by
   have:=PQ (tk:=s2.toks+([]:List (Str×Value)).length) (h1:=h₁) S I3 f3 lt3 (hC▸hns₁) keep1
   rw[hC] at this
   rw[← hs3] at this
   rw[← hs3]
   exact this
 obtain⟨hbg,hbt,hbe⟩:=hb C s3 (upd H2 s2.heap.objs.size (.lst [])) fp (X.pn++pins)
 generalize hX':BL X scope NC C s3 (upd H2 s2.heap.objs.size (.lst [])) fp (X.pn++pins)=X' at I0 hbg hbt hbe
 have eP:X'.prog=X.prog:=by rw[← hX'];rfl
 have eW:X'.w=X.w:=by rw[← hX'];rfl
 have eK:X'.K=X.K:=by rw[← hX'];rfl
 have eA:X'.A=X.A:=by rw[← hX'];rfl
 have eE:X'.env=compEnvC scope (L5 X.env.cells scope.names []) C X.env:=by rw[← hX'];rfl
 have eX:X'.xe=fun _ _=>False:=by rw[← hX'];rfl
 have ec:X'.calm=true:=by rw[← hX'];exact hc
 have stat:∀{H':Hp},(∀b∈fp,H' b=none)->∀b∈fp,L1 X' [] H' b:=fun {H'} hn b hb=>by
   obtain⟨q1,q2,q3,q4,q5,q6⟩:=f3 b hb
   rw[← hX']
   exact⟨hn b hb,by show b≠C;rw[← hC];exact zC (lt3 b hb),fun z=>(yX.mp (I3.stkSub b z)).elim q2 q3,.inl hb,fun x c e=>q5 x c (BW e),fun p hp=>q6 p (by rw[a2Q] at hp;exact hp)⟩
 have ends:∀(i m:Nat) (ys:List V) (H':Hp) (s':Shared),Inv X' [] (capt fr σ) H' s'->Q (.ref s2.heap.objs.size) H' ->
     compPost (model X.prog X.w) X.A X.xe use QQ (.ref s2.heap.objs.size) C (.ok .next) s':=by
   intro i m ys H' s' I' q'
   have eC:X'.env.locals=C:=by rw[eE];rfl
   obtain⟨mC,hnC,_⟩:=I'.loc
   rw[eC] at hnC
   have hCn:H' C=none:=by have:=I'.free;rw[eC] at this;exact this
   have un:Un (frs X.stack) fp (upd H2 s2.heap.objs.size (.lst [])) H' s3.heap s'.heap:=by
     have:=I'.base
     rw[← hX'] at this
     exact this
   have os':s'.os=s3.os:=by have:=I'.os;rw[← hX'] at this;exact this
   have hok':HOk X.prog X.w H' s'.heap:=by have:=I'.hok;rw[eP,eW] at this;exact this
   have Iout:Inv X pins σ H' s':=I3.call' (ch:=fp) os' un hok' I'.bare fun b hb=>⟨(f3 b hb).2.2.2.1,(f3 b hb).2.1,(f3 b hb).2.2.2.2.1,(f3 b hb).2.2.2.2.2⟩
   have C1:C≠X.env.locals:=by rw[← hC];exact a8Z I3.lt
   have C2:C∉X.fs:=by rw[← hC];exact I3.nofs (zR _)
   have C3:X.s₀.heap.objs.size<=C:=by rw[← hC];exact I3.sz
   have C4:∀x c,X.env.cells.lookup x=some c->c≠C:=fun x c e z=>by
     obtain⟨v,q⟩:=I3.cell x c e
     rw[z,← hC] at q
     exact absurd q.lt (yF _)
   have C5:∀p∈X.pn++pins,p.1≠C:=fun p hp z=>by
     have:=zM (I3.pin p hp).1
     rw[z,← hC] at this
     exact absurd this (yF _)
   obtain⟨oC,esC,epC,hoC,hdC,hrC⟩:=id hnC
   have Ipin:Inv X (pins++[(C,oC)]) σ H' s':=Iout.pins_of fun p hp=>(yW.mp hp).elim (fun z=>Iout.pin p (zB _ z)) fun z=>by
     have e:p=(C,oC):=by simpa using z
     subst e
     exact⟨hoC,hCn,C1,C2,fun v z=>by rw[hdC] at z;cases z⟩
   have res:=fin s2.heap.objs.size C H' s' mC oC Ipin hnC q' (fun _ σ2 H3 s4 h4 I4 sb=>by
     have J4:Inv X pins σ2 H3 s4:=I4.unpinned
     have hn4:H3 C=none:=(I4.pin (C,oC) (zB _ (zB _ (by simp)))).2.1
     exact J4.turned (t':=s4.toks) (it:=C) (fun b o hb e=>sb.extBut b o hb e) hn4 C1 (.inr C3) C4 C5) hoC
   cases use with
   | none=>exact⟨mC,hnC,res⟩
   | some u=>exact res
 have loop:∀s':Shared,s'={ s2 with heap:=h₁,toks:=s2.toks+([]:List (Str×Value)).length } ->
     codeAny (model X.prog X.w) X.A (.compLoop (.ListComp elt [⟨tg,iter,ifs,0⟩] scope pos) 0 (.ref it) (.ref s2.heap.objs.size) (compEnvC scope (L5 X.env.cells scope.names []) C X.env))
       (compPost (model X.prog X.w) X.A X.xe use QQ (.ref s2.heap.objs.size) C) s':=by
   rintro s' rfl
   refine K8 (fun n s'=>∃i ys H',Inv X' [] (capt fr σ) H' s'/\tn i s'.heap/\(∀b∈fp,H' b=none)/\W i n ys H') ?_ m0
     ⟨0,[],_,I0,T.keep _ _ _ st2 (fun b hb o e=>keep1 b o (by rw[← hh3];exact zW _ e)),fun b hb=>(f3 b hb).1,w0⟩
   rintro n s5 ⟨i,ys,H5,I5,st5,fr5,w5⟩
   obtain⟨hD5,hturn⟩:=turn i n ys H5 w5
   rcases hturn with ⟨stop,qn⟩ | ⟨go,step⟩
   · have:=T.done X' eP eW eK ec i [] s5 (capt fr σ) H5 (fun _ _=>False) I5 (stat fr5) st5 stop
     rw[eA] at this
     refine thn this fun r s6 ⟨hr,I6⟩=>?_
     subst hr
     exact ends i n ys H5 s6 I6 qn
   · have:=T.item X' eP eW eK ec i [] s5 (capt fr σ) H5 (fun _ _=>False) I5 (stat fr5) st5 go
     rw[eA] at this
     refine thn this fun r s6 ⟨u,hr,h6⟩=>?_
     subst hr
     refine thn h6 fun _ s7 ⟨x,H7,I7,r7,y7,st7,fr7⟩=>?_
     have I7':=I7.pinned (stat fr7) (T.obj _ _ st7)
     have hg1:=hbg _ s7 (capt fr σ) H7 x u _ I7' r7 (step x H7 y7)
     rw[eP,eW,eA,eE,eX] at hg1
     refine thn hg1 fun _ s8 ⟨σ8,H8,I8,ext8,q8⟩=>?_
     have ht1:=hbt _ s8 σ8 H8 _ I8 q8
     rw[eP,eW,eA,eE,eX] at ht1
     refine thn ht1 fun ok s9 ⟨H9,I9,q9⟩=>?_
     have weak:∀{H':Hp}{s':Shared},Inv X' ([]++NA fp s7.heap) σ8 H' s'->Inv X' [] (capt fr σ) H' s'/\tn (i+1) s'.heap/\∀b∈fp,H' b=none:=fun {H' s'} I'=>by
       refine⟨I'.unpinned.weak (by rw[I'.len];rw[I0.len]) ext8,T.keep _ _ _ st7 fun b hb o e=>(I'.pin (b,o) (zB _ (zB _ (E8 hb e)))).1,fun b hb=>?_⟩
       obtain⟨o,e,d⟩:=T.obj _ _ st7 b hb
       exact(I'.pin (b,o) (zB _ (zB _ (E8 hb e)))).2.1
     cases ok with
     | false=>
       rw[if_neg nft] at q9
       obtain⟨ys',m',hm',w'⟩:=q9
       obtain⟨a1,a2,a3⟩:=weak I9
       exact⟨m',hm',i+1,ys',H9,a1,a2,a3,w'⟩
     | true=>
       rw[if_pos rfl] at q9
       have he1:=hbe _ s9 σ8 H9 _ I9 q9
       rw[eP,eW,eA,eE,eX] at he1
       refine thn he1 fun y s10 ⟨yv,H10,I10,r10,ys',hD10,hsz,m',hm',w'⟩=>?_
       have ha:=SN (X:=X') _ s10 σ8 H10 (.ref s2.heap.objs.size) [yv] (.ref s2.heap.objs.size) [y] (fun _ H'=>∃m',m' < n/\W (i+1) m' (ys'++[yv]) H') I10 rfl (.cons r10 .nil) ⟨_,ys',yv,rfl,rfl,hD10,hsz,m',hm',w'⟩
       rw[eP,eW,eA,eX] at ha
       refine thn ha fun _ s11 ⟨_,H11,I11,_,m'',hm'',w''⟩=>?_
       obtain⟨a1,a2,a3⟩:=weak I11
       exact⟨m'',hm'',i+1,_,H11,a1,a2,a3,w''⟩
 refine codeAny_compStart_list (loop _ rfl) (T.self _ 0 _ _ _ ?_ (loop _ rfl))
 exact T.keep _ _ _ st2 (fun b hb o e=>keep1 b o (by rw[← hh3];exact zW _ e))
end
end L2
namespace L2
open PySem PySem.Spec PyProof.Rows
section
variable {X:Cx}{scope:Scope}{NC:List Str}{fr:List (Option Nat)}{elt iter tg:Expr}{ifs:List Expr}{pos:Pos}{wi:TI}{g:TG}{tt:TT}{te:TE}
theorem mE (hc:X.calm=true) (S:CSc X scope NC fr) (hi:PI X tg iter wi)
   (hb:∀(C:Addr) (s:Shared) (H:Hp) (ex:List Addr) (pn:List (Addr×Obj)),PG (BL X scope NC C s H ex pn) tg g/\PTs (BL X scope NC C s H ex pn) ifs tt/\PE (BL X scope NC C s H ex pn) elt te)
   (hs:∀x,foldedSetIterable iter X.env x=pure x:=by intro _;rfl):PE X (.ListComp elt [⟨tg,iter,ifs,0⟩] scope pos) (SS fr wi g tt te):=by
 intro pins s σ H Q I h
 rw[eval_ListComp]
 refine VX (use:=none) (Q:=Q) hc S hi hb I h (fun D C H' s' m oC I' hn q back _ h' sb=>?_) hs
 exact⟨.ref D,H',back pins σ H' s' h' I' sb,rfl,q⟩
theorem mF {i:Nat}{x:Str}{py spos:Pos}(hc:X.calm=true) (hN:X.N.Nodup) (hix:X.N[i]?=some x) (hx:Loc X.env.scope x) (S:CSc X scope NC fr) (hi:PI X tg iter wi)
   (hb:∀(C:Addr) (s:Shared) (H:Hp) (ex:List Addr) (pn:List (Addr×Obj)),PG (BL X scope NC C s H ex pn) tg g/\PTs (BL X scope NC C s H ex pn) ifs tt/\PE (BL X scope NC C s H ex pn) elt te)
   (hsw:swapsWith (.ListComp elt [⟨tg,iter,ifs,0⟩] scope pos) (some (.Name x py)) spos.line X.env=pure true)
   (hf:X.fn x=true∨X.env.scope.names.lookup x=some .local:=by first | exact .inl rfl | exact .inr rfl | assumption)
   (hs:∀x,foldedSetIterable iter X.env x=pure x:=by intro _;rfl) :
   PS X (.Assign [.Name x py] (.ListComp elt [⟨tg,iter,ifs,0⟩] scope pos) spos) (fun D σ H=>SS fr wi g tt te σ H fun v H'=>D.nx (σ.set i (some v)) H'):=by
 intro pins s σ H D I h
 rw[exec_Assign_Name_used _ _ _ _ hsw]
 refine zZ (wpAny_standAt (zZ ?_))
 show wpAny _ X.A (do let _ ← comprehension (.ListComp elt [⟨tg,iter,ifs,0⟩] scope pos) scope X.env _ (newList []) false (eval iter X.env) (some (assign (.Name x py) X.env))) _ _ s
 refine zZ (thn (VX (use:=some (assign (.Name x py) X.env)) (Q:=fun v H'=>D.nx (σ.set i (some v)) H') (QQ:=fun _ s'=>∃σ' H',Inv X pins σ' H' s'/\D.nx σ' H') hc S hi hb I h (fun A C H' s' m oC I' hn q back hoC=>?_) hs) fun _ s' hq=>zY (zY hq))
 have hst:=aH (X:=X) (pos:=py) hN hix hx hf (pins++[(C,oC)]) s' σ H' (.ref A) (.ref A) (fun σ' H'=>D.nx σ' H') I' rfl q
 refine thn hst fun _ s2 ⟨σ2,H2,I2,q2⟩=>?_
 have hC2:s2.heap.get? C=some oC:=(I2.pin (C,oC) (zB _ (zB _ (by simp)))).1
 obtain⟨o',es,ep,ho',hd',hr'⟩:=hn
 rw[hoC] at ho';cases ho'
 exact⟨m,⟨_,es,ep,hC2,hd',hr'⟩,fun h' sb=>⟨σ2,H2,back pins σ2 H2 s2 h' I2 sb,q2⟩⟩
end
def Its (x:Str):It:=⟨fun i _=>i < x.cps.size,fun i H v H'=>H'=H/\∃c,x.cps[i]?=some c/\v = .str ⟨#[c]⟩,fun i _=>i=x.cps.size⟩
theorem VY {P:Program}{w:World}{K:Frg}{tg:Expr}(it:Addr) (ty:String) (x:Str) (t:Tok) (hty:["enumerate", "zip", "dict_itemiterator", "dict_reverseitemiterator", "odict_iterator", "itertools.zip_longest", "itertools.pairwise"].contains ty=false)
   (W:∀A:Around,A.handled=none->Walks P w A it [it] [it] x.cps.size (SignAt x) (fun i h=>h.IsStrIter it ty x t i))
   (hself:∀(A:Around) (i:Nat) (s:Shared) (Q:Value->Shared->Prop) (E:Value->Shared->Prop),s.heap.IsStrIter it ty x t i->Q (.ref it) s->wpAny (model P w) A (pyIter (.ref it)) Q E s) :
   Turn P w K tg (Its x) [it] it (fun i h=>h.IsStrIter it ty x t i) where
 mem:=by simp
 obj:=fun i h st b hb=>by
   have e:b=it:=by simpa using hb
   subst e
   obtain⟨o,e,c,d⟩:=st
   exact⟨o,e,fun v z=>by rw[d] at z;cases z⟩
 keep:=fun i h h' st k=>by
   obtain⟨o,e,r⟩:=st
   exact⟨o,k it (by simp) o e,r⟩
 item:=by
   intro X hP hw hK hc i pins s σ H E I hf st hg
   subst hP hw hK
   obtain⟨f0,f1,f2,f3,f4,f5⟩:=hf it (by simp)
   refine(W X.A (I.ok.hd hc)).item i s _ _ hg st fun v h' tk hv st' kk=>?_
   obtain⟨c,u,hcx,rfl⟩:=hv
   have I1:Inv X pins σ H { s with heap:=h',toks:=tk }:=I.turned (fun b o hb e=>kk b o (by simpa using hb) e) f0 f1 f3 f4 f5
   obtain⟨o,e,c',d⟩:=id st'
   exact⟨_,rfl,aJ (s:={ s with heap:=h',toks:=tk }) e c' d hty ⟨.str ⟨#[c]⟩,H,I1,⟨u,rfl⟩,⟨rfl,c,hcx,rfl⟩,st',fun b hb=>(hf b hb).1⟩⟩
 done:=by
   intro X hP hw hK hc i pins s σ H E I hf st hg
   subst hP hw hK
   obtain⟨f0,f1,f2,f3,f4,f5⟩:=hf it (by simp)
   have hi:i=x.cps.size:=hg
   subst hi
   refine(W X.A (I.ok.hd hc)).done s _ _ st fun h' tk kk=>⟨rfl,I.turned (fun b o hb e=>kk b o (by simpa using hb) e) f0 f1 f3 f4 f5⟩
 self:=hself
theorem U3 (bs:List Bool):(a0V bs.length).all (fun i=>(bs[i]?).getD false)=bs.all id:=by
 rw[a6Z,List.all_eq_true,List.all_eq_true]
 constructor
 · intro h b hb
   obtain⟨i,hi,rfl⟩:=List.mem_iff_getElem.mp hb
   have:=h i (by simpa using hi)
   simpa [hi] using this
 · intro h i hi
   have hi:i < bs.length:=by simpa using hi
   have:=h bs[i] (b1W hi)
   simpa [hi] using this
theorem U4 (bs:List Bool):(a0V bs.length).any (fun i=>(bs[i]?).getD false)=bs.any id:=by
 rw[a6Z,a3Z,a3Z]
 constructor
 · rintro⟨i,hi,h⟩
   have hi:i < bs.length:=by simpa using hi
   exact⟨bs[i],b1W hi,by simpa [hi] using h⟩
 · rintro⟨b,hb,h⟩
   obtain⟨i,hi,rfl⟩:=List.mem_iff_getElem.mp hb
   exact⟨i,by simpa using hi,by simpa [hi] using h⟩
section
variable {X:Cx}
theorem aR {bs:List Bool}{its:List Value}(r:Vals (bs.map V.bl) its) {i:Nat}{v:Value}(h:its.toArray[i]?=some v):v = .bool ((bs[i]?).getD false):=by
 have h':its[i]?=some v:=by simpa using h
 have hl:i < its.length:=(yT.mp h').1
 have e:=r.length
 rw[zX] at e
 have hb:(bs.map V.bl)[i]?=some (V.bl bs[i]):=by rw[zF];simp[show i < bs.length by omega]
 obtain⟨u,hu,ru⟩:=r.get hb
 rw[h'] at hu;cases hu
 simp[show i < bs.length by omega]
 exact ru
def wX (X:Cx):List V->Hp->VK->Prop:=fun xs H Q=>∃(p:Addr) (bs:List Bool),xs=[.ref p]/\SqL X.K H p (bs.map V.bl)/\Q (.bl (bs.all id)) H
theorem gK (hc:X.calm=true):BM X (.builtin "all") (wX X):=by
 intro pins s σ H xs us Q I r h
 obtain⟨p,bs,rfl,hp,q⟩:=h
 obtain⟨u,rfl,ru⟩:=F4 r
 cases ru
 obtain⟨its,rv,pl,hz⟩:=I.list hp
 have hne:p≠s.heap.objs.size:=by obtain⟨o,n,e,_⟩:=pl;exact zC (zM e)
 have el:=rv.length
 rw[zX] at el
 refine call_all_walk (wpAny_pyIter_list pl.isList ?_)
 refine⟨s.heap.objs.size,_,_,_,_,_,fun i=>(bs[i]?).getD false,rfl,Walks.list (show X.A.in1.handled=none from I.ok.hd hc) s.heap.objs.size p hne its.toArray,⟨⟨_,yZ _ rfl,rfl,rfl⟩,?_⟩,fun i v s' Q' E' hv hq=>?_,fun h' tk hk=>?_⟩
 · obtain⟨o,n,e,c,d,dd⟩:=pl
   exact⟨o,zW _ e,c,n,dd⟩
 · rw[aR rv hv]
   exact wpAny_truthy_bool hq
 · refine⟨.bl (bs.all id),H,?_,?_,q⟩
   · exact I.kept (t':=tk) fun b o e=>hk b o (by simp;exact zC (zM e)) (zW _ e)
   · rw[zJ,← el,U3];rfl
def wY (X:Cx):List V->Hp->VK->Prop:=fun xs H Q=>∃(p:Addr) (bs:List Bool),xs=[.ref p]/\SqL X.K H p (bs.map V.bl)/\Q (.bl (bs.any id)) H
theorem gL (hc:X.calm=true):BM X (.builtin "any") (wY X):=by
 intro pins s σ H xs us Q I r h
 obtain⟨p,bs,rfl,hp,q⟩:=h
 obtain⟨u,rfl,ru⟩:=F4 r
 cases ru
 obtain⟨its,rv,pl,hz⟩:=I.list hp
 have hne:p≠s.heap.objs.size:=by obtain⟨o,n,e,_⟩:=pl;exact zC (zM e)
 have el:=rv.length
 rw[zX] at el
 refine call_any_walk (wpAny_pyIter_list pl.isList ?_)
 refine⟨s.heap.objs.size,_,_,_,_,_,fun i=>(bs[i]?).getD false,rfl,Walks.list (show X.A.in1.handled=none from I.ok.hd hc) s.heap.objs.size p hne its.toArray,⟨⟨_,yZ _ rfl,rfl,rfl⟩,?_⟩,fun i v s' Q' E' hv hq=>?_,fun h' tk hk=>?_⟩
 · obtain⟨o,n,e,c,d,dd⟩:=pl
   exact⟨o,zW _ e,c,n,dd⟩
 · rw[aR rv hv]
   exact wpAny_truthy_bool hq
 · refine⟨.bl (bs.any id),H,?_,?_,q⟩
   · exact I.kept (t':=tk) fun b o e=>hk b o (by simp;exact zC (zM e)) (zW _ e)
   · rw[zJ,← el,U4];rfl
def sG:V->Option Int->Option Int->Hp->VK->Prop:=fun x lo hi H Q=>∃y,x = .str y/\y.length<=sizeLine/\Q (.str (a1X y lo hi)) H
theorem sH:SlR X sG:=by
 intro pins s σ H x v vl vu lo hi sl Q I rx hs pl pu h
 obtain⟨y,rfl,hz,q⟩:=h
 obtain⟨t,rfl⟩:=rx
 refine⟨"str", _,F.slot_str_getitem.lookup,typeIs_str _ _ _,?_⟩
 cases pl with
 | none=>
   cases pu with
   | none=>exact wpAny_getItem_str_slice (l:=none) (u:=none) (st:=none) hs rfl (post_val_or_str ⟨zN (Txt.slice_le y _ _) hz,fun t' k=>⟨.str _,H,I.tok _,⟨_,rfl⟩,q⟩⟩)
   | int j tj=>exact wpAny_getItem_str_slice (l:=none) (u:=some (j,tj)) (st:=none) hs rfl (post_val_or_str ⟨zN (Txt.slice_le y _ _) hz,fun t' k=>⟨.str _,H,I.tok _,⟨_,rfl⟩,q⟩⟩)
 | int i ti=>
   cases pu with
   | none=>exact wpAny_getItem_str_slice (l:=some (i,ti)) (u:=none) (st:=none) hs rfl (post_val_or_str ⟨zN (Txt.slice_le y _ _) hz,fun t' k=>⟨.str _,H,I.tok _,⟨_,rfl⟩,q⟩⟩)
   | int j tj=>exact wpAny_getItem_str_slice (l:=some (i,ti)) (u:=some (j,tj)) (st:=none) hs rfl (post_val_or_str ⟨zN (Txt.slice_le y _ _) hz,fun t' k=>⟨.str _,H,I.tok _,⟨_,rfl⟩,q⟩⟩)
theorem aS:∀{ys:List Str}{its:List Value},Vals (ys.map V.str) its->StrsAre its ys
 | [],_,.nil=>.nil
 | y::r,_,.cons h t=>by
   obtain⟨tk,rfl⟩:=h
   exact .cons y tk (aS t)
def pO (K:Frg):R2:=fun x y H Q=>∃a b xs ys,x = .ref a/\y = .ref b/\SqL K H a xs/\SqL K H b ys/\xs.length+ys.length<=sizeLine/\∀p,H p=none->Q (.ref p) (upd H p (.lst (xs++ys)))
theorem mG:OpR X (binaryOp .Add) (pO X.K):=by
 intro pins s σ H x y v u Q I rx ry h
 obtain⟨l,b,xs,zs,rfl,rfl,hH,hB,hz,q⟩:=h
 cases rx
 cases ry
 obtain⟨its,r,pl,hl⟩:=I.list hH
 obtain⟨its2,r2,pl2,hl2⟩:=I.list hB
 have e1:=r.length
 have e2:=r2.length
 obtain⟨⟨cls,dd,data,sl⟩,n,ho,hc,_,hd⟩:=pl
 obtain⟨⟨cls2,dd2,data2,sl2⟩,n2,ho2,hc2,_,hd2⟩:=pl2
 dsimp only at hc hd hc2 hd2
 subst hc hd hc2 hd2
 have ea:its.toArray++its2.toArray=(its++its2).toArray:=by simp
 have fin:EP X pins σ Q (.ref s.heap.objs.size) { s with heap:=s.heap.push { cls:=.type "list", data:=.seq (its.toArray++its2.toArray) } }:=by
   rw[ea]
   exact⟨.ref _,_,I.lnew (t':=s.toks) (r.append r2) (by rw[yY];omega),rfl,q _ I.fresh⟩
 exact concat_meets ⟨_,ho,rfl⟩ ⟨_,ho2,rfl⟩ noFill_list_add seq_list_add PySem.F.slot_list_add PySem.F.entry_list_add (PySem.F.args_list_add_2 _ _) (list_addW l b its.toArray its2.toArray n n2 dd dd2 sl sl2 (by rw[zJ,zJ];omega)) ⟨ho,ho2,fin⟩
def pP (i j:Int):Prop:=0 < j/\j < 2 ^ 64
theorem gM:OpR X (binaryOp .FloorDiv) (rI pP fun i j=>.int (i/j)):=opI fun i j _ _ _ _ _ hc q=>by
 have h1:(0:Int) < j:=hc.1
 have h2:j.natAbs.log2 < 9000:=by
   have h0:j.natAbs≠0:=by omega
   have:j.natAbs < 2 ^ 64:=by have:=hc.2;omega
   exact zP ((Nat.log2_lt h0).mpr this) (by decide)
 exact floordiv_int (by omega) (by rw[Int.fdiv_eq_ediv_of_nonneg i (by omega)];exact q) (.inl (PyProof.noPylong_of_log2 h2))
end
end L2
namespace L2
open PySem PySem.Spec PyProof.Rows
def cU:Key->PyData
 | .inl i=>.int i
 | .inr x=>.str x
def LW (K:Frg) (H:Hp) (W:Addr->Prop) (a:Addr) (xs:List V):Prop:=
 (¬W a/\Rd H a (.lst xs))∨∃(o:Obj) (its:Array Value) (n:Nat),K.lookup a=some o/\o.cls = .type "list" /\ o.dict=none/\o.data = .seq its n/\its.size<=sizeLine/\Vals xs its.toList
def TW (K:Frg) (H:Hp) (W:Addr->Prop) (a:Addr) (xs:List V):Prop:=
 (¬W a/\Rd H a (.tup xs))∨∃(o:Obj) (its:Array Value) (n:Nat),K.lookup a=some o/\o.cls = .type "tuple" /\ o.data = .seq its n/\its.size<=sizeLine/\Vals xs its.toList
theorem LW.sq {K:Frg}{H:Hp}{W:Addr->Prop}{a:Addr}{xs:List V}(h:LW K H W a xs):SqL K H a xs:=h.elim (fun z=>.inl z.2) .inr
theorem TW.sq {K:Frg}{H:Hp}{W:Addr->Prop}{a:Addr}{xs:List V}(h:TW K H W a xs):SqT K H a xs:=h.elim (fun z=>.inl z.2) .inr
mutual
def DV (K:Frg) (H:Hp) (W:Addr->Prop):PyData->V->Prop
 | .none,v=>v = .non
 | .bool b,v=>v = .bl b
 | .int i,v=>v = .int i
 | .str x,v=>v = .str x
 | .list ds,v=>∃a vs,v = .ref a/\LW K H W a vs/\DVs K H W ds vs
 | .tuple ds,v=>∃a vs,v = .ref a/\TW K H W a vs/\DVs K H W ds vs
 | .dict kvs,v=>∃a kvs',v = .ref a/\¬W a/\Rd H a (.dK kvs')/\DKV K H W kvs kvs'
def DVs (K:Frg) (H:Hp) (W:Addr->Prop):List PyData->List V->Prop
 | [],vs=>vs=[]
 | d::ds,vs=>∃v r,vs=v::r/\DV K H W d v/\DVs K H W ds r
def DKV (K:Frg) (H:Hp) (W:Addr->Prop):List (PyData×PyData)->List (Key×V)->Prop
 | [],vs=>vs=[]
 | (k,d)::ds,vs=>∃k' v r,vs=(k',v)::r/\k=cU k'/\DV K H W d v/\DKV K H W ds r
end
structure Grow (K:Frg) (W W':Addr->Prop) (H H':Hp):Prop where
 keep:∀b o,H b=some o->¬W b->H' b=some o∨∃ks ob,o = .dK ks/\H' b=some (.frz ob o)
 new:∀b,W' b->W b∨H b=none
theorem Grow.refl {K:Frg}{W:Addr->Prop}{H:Hp}:Grow K W W H H:=⟨fun _ _ h _=>.inl h,fun _ h=>.inl h⟩
section
variable {K:Frg}{W W' W2:Addr->Prop}{H H' H2:Hp}
theorem Rd.grow (g:Grow K W W' H H') {a:Addr}{o:HO}(nw:¬W a) (h:Rd H a o):Rd H' a o:=by
 rcases h with h | ⟨o',h⟩
 · rcases g.keep _ _ h nw with e | ⟨ks,ob,_,e⟩
   · exact .inl e
   · exact .inr ⟨ob,e⟩
 · rcases g.keep _ _ h nw with e | ⟨ks,ob,e,_⟩
   · exact .inr ⟨o',e⟩
   · cases e
theorem Grow.kept (g:Grow K W W' H H') {a:Addr}{o:HO}(h:H a=some o) (nw:¬W a) (n:∀ks,o≠.dK ks):H' a=some o:=(g.keep a o h nw).elim id fun⟨ks,_,e,_⟩=>absurd e (n ks)
theorem Rd.ne_none {H:Hp}{a:Addr}{o:HO}(h:Rd H a o):H a≠none:=by
 rcases h with h | ⟨o',h⟩ <;> rw[h] <;> simp
theorem Rd.nw (g:Grow K W W' H H') {a:Addr}{o:HO}(nw:¬W a) (h:Rd H a o):¬W' a:=fun w=>by
 rcases g.new a w with z | z
 · exact nw z
 · exact Rd.ne_none h z
theorem LW.grow (g:Grow K W W' H H') {a:Addr}{xs:List V}(h:LW K H W a xs):LW K H' W' a xs:=h.elim (fun z=>.inl ⟨z.2.nw g z.1,z.2.grow g z.1⟩) .inr
theorem TW.grow (g:Grow K W W' H H') {a:Addr}{xs:List V}(h:TW K H W a xs):TW K H' W' a xs:=h.elim (fun z=>.inl ⟨z.2.nw g z.1,z.2.grow g z.1⟩) .inr
mutual
theorem DV.grow (g:Grow K W W' H H'):∀{d:PyData}{v:V},DV K H W d v->DV K H' W' d v
 | .none,v,h=>by unfold DV at h ⊢;exact h
 | .bool b,v,h=>by unfold DV at h ⊢;exact h
 | .int i,v,h=>by unfold DV at h ⊢;exact h
 | .str x,v,h=>by unfold DV at h ⊢;exact h
 | .list ds,v,h=>by
   unfold DV at h ⊢
   obtain⟨a,vs,e,hs,hd⟩:=h
   exact⟨a,vs,e,hs.grow g,DVs.grow g hd⟩
 | .tuple ds,v,h=>by
   unfold DV at h ⊢
   obtain⟨a,vs,e,hs,hd⟩:=h
   exact⟨a,vs,e,hs.grow g,DVs.grow g hd⟩
 | .dict kvs,v,h=>by
   unfold DV at h ⊢
   obtain⟨a,vs,e,nw,hs,hd⟩:=h
   exact⟨a,vs,e,hs.nw g nw,hs.grow g nw,DKV.grow g hd⟩
theorem DVs.grow (g:Grow K W W' H H'):∀{ds:List PyData}{vs:List V},DVs K H W ds vs->DVs K H' W' ds vs
 | [],vs,h=>by unfold DVs at h ⊢;exact h
 | d::ds,vs,h=>by
   unfold DVs at h ⊢
   obtain⟨v,r,e,h1,h2⟩:=h
   exact⟨v,r,e,DV.grow g h1,DVs.grow g h2⟩
theorem DKV.grow (g:Grow K W W' H H'):∀{ds:List (PyData×PyData)}{vs:List (Key×V)},DKV K H W ds vs->DKV K H' W' ds vs
 | [],vs,h=>by unfold DKV at h ⊢;exact h
 | (k,d)::ds,vs,h=>by
   unfold DKV at h ⊢
   obtain⟨k',v,r,e,e2,h1,h2⟩:=h
   exact⟨k',v,r,e,e2,DV.grow g h1,DKV.grow g h2⟩
end
theorem Grow.trans (a:Grow K W W' H H') (b:Grow K W' W2 H' H2):Grow K W W2 H H2:=by
 refine⟨fun x o h nw=>?_,fun x w=>?_⟩
 · have nw':¬W' x:=fun w=>by
     rcases a.new x w with z | z
     · exact nw z
     · rw[h] at z;cases z
   rcases a.keep x o h nw with e | ⟨ks,ob,e1,e2⟩
   · exact b.keep x o e nw'
   · exact .inr ⟨ks,ob,e1,b.kept e2 nw' fun _ z=>nomatch z⟩
 · rcases b.new x w with z | z1
   · exact a.new x z
   · by_cases hx:W x
     · exact .inl hx
     · refine .inr ?_
       cases e:H x with
       | none=>rfl
       | some o=>
         rcases a.keep x o e hx with q | ⟨_,_,_,q⟩ <;> (rw[q] at z1;cases z1)
theorem DVs.length:∀{ds:List PyData}{vs:List V},DVs K H W ds vs->vs.length=ds.length
 | [],vs,h=>by unfold DVs at h;subst h;rfl
 | d::ds,vs,h=>by
   unfold DVs at h
   obtain⟨v,r,e,h1,h2⟩:=h
   subst e
   simp[DVs.length h2]
theorem DVs.get:∀{ds:List PyData}{vs:List V}{i:Nat}{v:V},DVs K H W ds vs->vs[i]?=some v->∃d,ds[i]?=some d/\DV K H W d v
 | [],vs,i,v,h,e=>by unfold DVs at h;subst h;simp at e
 | d::ds,vs,i,v,h,e=>by
   unfold DVs at h
   obtain⟨u,r,e',h1,h2⟩:=h
   subst e'
   cases i with
   | zero=>simp at e;subst e;exact⟨d,rfl,h1⟩
   | succ i=>simpa using DVs.get h2 (by simpa using e)
theorem DVs.get':∀{ds:List PyData}{vs:List V}{i:Nat}{d:PyData},DVs K H W ds vs->ds[i]?=some d->∃v,vs[i]?=some v/\DV K H W d v
 | [],vs,i,v,h,e=>by simp at e
 | d::ds,vs,i,v,h,e=>by
   unfold DVs at h
   obtain⟨u,r,e',h1,h2⟩:=h
   subst e'
   cases i with
   | zero=>simp at e;subst e;exact⟨u,rfl,h1⟩
   | succ i=>simpa using DVs.get' h2 (by simpa using e)
theorem DVs.nil:DVs K H W [] []:=by unfold DVs;rfl
theorem DVs.cons {d:PyData}{v:V}{ds:List PyData}{vs:List V}(h:DV K H W d v) (t:DVs K H W ds vs):DVs K H W (d::ds) (v::vs):=by unfold DVs;exact⟨v,vs,rfl,h,t⟩
theorem DVs.append:∀{ds es:List PyData}{vs us:List V},DVs K H W ds vs->DVs K H W es us->DVs K H W (ds++es) (vs++us)
 | [],es,vs,us,h,t=>by unfold DVs at h;subst h;exact t
 | d::ds,es,vs,us,h,t=>by
   unfold DVs at h
   obtain⟨u,r,e',h1,h2⟩:=h
   subst e'
   exact DVs.cons h1 (DVs.append h2 t)
theorem DVs.set:∀{ds:List PyData}{vs:List V}{d:PyData}{v:V}(i:Nat),DVs K H W ds vs->DV K H W d v->DVs K H W (ds.set i d) (vs.set i v)
 | [],vs,d,v,i,h,t=>by unfold DVs at h;subst h;exact DVs.nil
 | e::ds,vs,d,v,i,h,t=>by
   unfold DVs at h
   obtain⟨u,r,e',h1,h2⟩:=h
   subst e'
   cases i with
   | zero=>exact DVs.cons t h2
   | succ i=>exact DVs.cons h1 (DVs.set i h2 t)
theorem DVs.drop:∀{ds:List PyData}{vs:List V}(i:Nat),DVs K H W ds vs->DVs K H W (ds.drop i) (vs.drop i)
 | ds,vs,0,h=>h
 | [],vs,i+1,h=>by unfold DVs at h;subst h;exact DVs.nil
 | e::ds,vs,i+1,h=>by
   unfold DVs at h
   obtain⟨u,r,e',h1,h2⟩:=h
   subst e'
   exact DVs.drop i h2
theorem DVs.take:∀{ds:List PyData}{vs:List V}(i:Nat),DVs K H W ds vs->DVs K H W (ds.take i) (vs.take i)
 | ds,vs,0,h=>DVs.nil
 | [],vs,i+1,h=>by unfold DVs at h;subst h;exact DVs.nil
 | e::ds,vs,i+1,h=>by
   unfold DVs at h
   obtain⟨u,r,e',h1,h2⟩:=h
   subst e'
   exact DVs.cons h1 (DVs.take i h2)
theorem ND:∀{bs:List Bool}{vs:List V},DVs K H W (bs.map a8V) vs->vs=bs.map V.bl
 | [],vs,h=>by unfold DVs at h;exact h
 | b::bs,vs,h=>by
   simp only[zI] at h
   unfold DVs at h
   obtain⟨u,r,e',h1,h2⟩:=h
   unfold DV at h1
   subst e' h1
   rw[ND h2];rfl
theorem PR:∀{bs:List Str}{vs:List V},DVs K H W (bs.map a0W) vs->vs=bs.map V.str
 | [],vs,h=>by unfold DVs at h;exact h
 | b::bs,vs,h=>by
   simp only[zI] at h
   unfold DVs at h
   obtain⟨u,r,e',h1,h2⟩:=h
   unfold DV at h1
   subst e' h1
   rw[PR h2];rfl
end
section
variable {X:Cx}{pins:List (Addr×Obj)}{σ:St}{H:Hp}{s:Shared}{W:Addr->Prop}
mutual
theorem DV.reads (I:Inv X pins σ H s):∀{d:PyData}{v:V}{u:Value},d.canLay0=true->DV X.K H W d v->RelV v u->∃as,PySem.Reads s.heap u d as
 | .none,v,u,c,h,r=>by unfold DV at h;subst h;cases r;exact⟨_,.none⟩
 | .bool b,v,u,c,h,r=>by unfold DV at h;subst h;cases r;exact⟨_,.bool b⟩
 | .int i,v,u,c,h,r=>by unfold DV at h;subst h;obtain⟨t,rfl⟩:=r;exact⟨_,.int i t⟩
 | .str x,v,u,c,h,r=>by unfold DV at h;subst h;obtain⟨t,rfl⟩:=r;exact⟨_,.str x t⟩
 | .list ds,v,u,c,h,r=>by
   unfold DV at h
   obtain⟨a,vs,rfl,hs,hd⟩:=h
   cases r
   obtain⟨its,rv,⟨o,n,e,hc,_,dd⟩,_⟩:=I.list hs.sq
   obtain⟨as,q⟩:=DVs.reads I (by simpa [b7Q] using c) hd rv
   exact⟨_,.list e hc dd (by simpa using q)⟩
 | .tuple ds,v,u,c,h,r=>by
   unfold DV at h
   obtain⟨a,vs,rfl,hs,hd⟩:=h
   cases r
   obtain⟨its,rv,⟨o,e,hc,n,dd⟩,_⟩:=I.tuple hs.sq
   obtain⟨as,q⟩:=DVs.reads I (by simpa [b7Q] using c) hd rv
   exact⟨_,.tuple e hc dd (by simpa using q)⟩
 | .dict kvs,v,u,c,h,r=>by simp[b7Q] at c
theorem DVs.reads (I:Inv X pins σ H s):∀{ds:List PyData}{vs:List V}{us:List Value},b7W ds=true->DVs X.K H W ds vs->Vals vs us->∃as,PySem.ReadsAll s.heap us ds as
 | [],vs,us,c,h,r=>by unfold DVs at h;subst h;cases r;exact⟨_,.nil⟩
 | d::ds,vs,us,c,h,r=>by
   unfold DVs at h
   obtain⟨v,q,rfl,h1,h2⟩:=h
   cases r with
   | cons r1 r2=>
     simp[b7W] at c
     obtain⟨as,q1⟩:=DV.reads I c.1 h1 r1
     obtain⟨bs,q2⟩:=DVs.reads I c.2 h2 r2
     exact⟨_,.cons q1 q2⟩
end
def cV (K:Frg) (neg:Bool):R2:=fun x y H Q=>∃(W:Addr->Prop) (da db:PyData),DV K H W da x/\DV K H W db y/\zH da=true/\zH db=true/\Q (.bl (if neg then !a0X da db else a0X da db)) H
theorem sI (hu:X.A.units+64 < cLine):OpR X (compareOp .Eq) (cV X.K false):=by
 intro pins s σ H x y v u Q I rx ry h
 obtain⟨W,da,db,h1,h2,s1,s2,q⟩:=h
 obtain⟨as,r1⟩:=h1.reads I (zG s1) rx
 obtain⟨bs,r2⟩:=h2.reads I (zG s2) ry
 exact PySem.SeqAt.compareEq_shaped r1 r2 s1 s2 hu ⟨.bl _,H,I,rfl,q⟩
theorem sJ (hu:X.A.units+64 < cLine):OpR X (compareOp .NotEq) (cV X.K true):=by
 intro pins s σ H x y v u Q I rx ry h
 obtain⟨W,da,db,h1,h2,s1,s2,q⟩:=h
 obtain⟨as,r1⟩:=h1.reads I (zG s1) rx
 obtain⟨bs,r2⟩:=h2.reads I (zG s2) ry
 exact PySem.SeqAt.compareNe_shaped r1 r2 s1 s2 hu ⟨.bl _,H,I,rfl,q⟩
end
end L2
namespace DL
open PySem PySem.Spec L2
abbrev St:=L2.St
inductive MO where
 | l (ds:List PyData)
 | d (kvs:List (PyData×PyData))
 | x (C:Addr) (fs:List (Str×PyData))
abbrev Own:=Addr->Option MO
def Own.W (M:Own):Addr->Prop:=fun a=>M a≠none
def Own.put (M:Own) (a:Addr) (o:MO):Own:=fun b=>if b=a then some o else M b
def Own.del (M:Own) (a:Addr):Own:=fun b=>if b=a then none else M b
def Own.Sub (M N:Own):Prop:=∀a o,M a=some o->N a=some o
theorem zU {M:Own}{a:Addr}{o:MO}:M.put a o a=some o:=by unfold Own.put;rw[if_pos rfl]
theorem yH {M:Own}{a b:Addr}{o:MO}(h:b≠a):M.put a o b=M b:=by unfold Own.put;rw[if_neg h]
theorem yI {M:Own}{a:Addr}{o o':MO}:(M.put a o).put a o'=M.put a o':=by
 funext b;unfold Own.put;by_cases h:b=a <;> simp[h]
theorem yG {M:Own}{a:Addr}{o:MO}(h:M a=none):(M.put a o).del a=M:=by
 funext b;unfold Own.put Own.del
 by_cases e:b=a
 · subst e;simp[h]
 · simp[e]
theorem Own.put_self {M:Own}{a:Addr}{o:MO}(h:M a=some o):M.put a o=M:=by
 funext b;unfold Own.put
 by_cases e:b=a
 · subst e;simp[h]
 · simp[e]
theorem zT (M:Own):M.Sub M:=fun _ _ h=>h
theorem Own.Sub.put {M N:Own}{a:Addr}{o:MO}(h:M.Sub N) (n:M a=none):M.Sub (N.put a o):=fun b x e=>by
 rw[yH (by rintro rfl;rw[n] at e;cases e)];exact h b x e
inductive DS where
 | d (x:PyData)
 | loc (a:Addr)
 | ty (n:String)
def SI (K:Frg) (H:Hp) (M:Own):DS->V->Prop
 | .d x,v=>DV K H M.W x v
 | .loc a,v=>v = .ref a
 | .ty n,v=>v = .ty n
def SIs (K:Frg) (H:Hp) (M:Own):List DS->List V->Prop
 | [],vs=>vs=[]
 | d::ds,vs=>∃v r,vs=v::r/\SI K H M d v/\SIs K H M ds r
def XI (K:Frg) (H:Hp) (W:Addr->Prop):Option Addr->List (Str×PyData)->Prop
 | none,[]=>True
 | some d,[(n,x)]=>∃v,¬W d/\H d=some (.xd [(n,v)])/\DV K H W x v
 | _,_=>False
theorem XI.grow {K:Frg}{W W':Addr->Prop}{H H':Hp}(g:Grow K W W' H H') {dd:Option Addr}{fs:List (Str×PyData)}(h:XI K H W dd fs):XI K H' W' dd fs:=by
 unfold XI at h ⊢
 split at h
 · trivial
 · obtain⟨v,nw,a,b⟩:=h
   exact⟨v,fun z=>(g.new _ z).elim nw fun q=>by(rw[a] at q;cases q),g.kept a nw (fun _ z=>nomatch z),b.grow g⟩
 · exact h.elim
def exK (a C:Addr) (dd:Option Addr):HO:=.ext fun h=>∃o vs,h.get? a=some o/\o.cls = .ref C/\o.dict=dd/\o.data = .fields vs
def OA1 (K:Frg) (H:Hp) (M:Own) (a:Addr):MO->Prop
 | .x C fs=>∃dd,H a=some (exK a C dd)/\XI K H M.W dd fs
 | .l ds=>∃vs,H a=some (.lst vs)/\DVs K H M.W ds vs
 | .d kvs=>∃ks,H a=some (.dK ks)/\DKV K H M.W kvs ks
def OA (K:Frg) (H:Hp) (M:Own):Prop:=∀a o,M a=some o->OA1 K H M a o
structure Step (K:Frg) (M M':Own) (H H':Hp):Prop where
 grow:Grow K M.W M'.W H H'
structure Rel (K:Frg) (M:Own) (ρ:List (Option DS)) (σ:St) (H:Hp):Prop where
 own:OA K H M
 len:ρ.length=σ.length
 slot:∀(i:Nat) x,ρ[i]?=some (some x)->∃v,σ[i]?=some (some v)/\SI K H M x v
section
variable {K:Frg}{M M' M2:Own}{H H' H2:Hp}{ρ:List (Option DS)}{σ:St}
theorem Step.refl:Step K M M H H:=⟨Grow.refl⟩
theorem Step.trans (a:Step K M M' H H') (b:Step K M' M2 H' H2):Step K M M2 H H2:=⟨a.grow.trans b.grow⟩
theorem SI.step (st:Step K M M' H H'):∀{x:DS}{v:V},SI K H M x v->SI K H' M' x v
 | .d _,_,h=>DV.grow st.grow h
 | .loc _,_,h=>h
 | .ty _,_,h=>h
theorem Rel.step (R:Rel K M ρ σ H) (oa:OA K H' M') (st:Step K M M' H H'):Rel K M' ρ σ H':=
 ⟨oa,R.len,fun i x e=>let ⟨v,h1,h2⟩:=R.slot i x e;⟨v,h1,h2.step st⟩⟩
theorem Rel.set (R:Rel K M ρ σ H) {x:DS}{v:V}(h:SI K H M x v) (i:Nat):Rel K M (ρ.set i (some x)) (σ.set i (some v)) H:=by
 refine⟨R.own,by rw[List.length_set,List.length_set];exact R.len,fun j y e=>?_⟩
 rw[List.getElem?_set] at e ⊢
 by_cases hij:i=j
 · rw[if_pos hij] at e ⊢
   subst hij
   by_cases hl:i < ρ.length
   · rw[if_pos hl] at e
     cases e
     rw[if_pos (by rw[← R.len];exact hl)]
     exact⟨v,rfl,h⟩
   · rw[if_neg hl] at e;cases e
 · rw[if_neg hij] at e ⊢
   exact R.slot j y e
theorem OA.none (oa:OA K H M) {p:Addr}(h:H p=b8K):M p=b8K:=by
 cases e:M p with
 | none=>rfl
 | some o=>
   have:=oa p o e
   cases o with
   | l ds=>obtain⟨vs,q,_⟩:=this;rw[h] at q;cases q
   | d kvs=>obtain⟨vs,q,_⟩:=this;rw[h] at q;cases q
   | x C fs=>obtain⟨vs,q,_⟩:=this;rw[h] at q;cases q
theorem AY {p:Addr}{o:HO}(W:Addr->Prop) (h:H p=b8K):Grow K W W H (upd H p o):=
 ⟨fun b u e _=>.inl (by rw[AJ (B2 e h)];exact e),fun _ w=>.inl w⟩
theorem OA.grow (oa:OA K H M) (g:Grow K M.W M.W H H') (hk:∀a o,M a=some o->H' a=H a):OA K H' M:=fun a o e=>by
 have q:=oa a o e
 cases o with
 | l ds=>obtain⟨vs,q1,q2⟩:=q;exact⟨vs,by rw[hk a _ e];exact q1,q2.grow g⟩
 | d kvs=>obtain⟨vs,q1,q2⟩:=q;exact⟨vs,by rw[hk a _ e];exact q1,q2.grow g⟩
 | x C fs=>obtain⟨vs,q1,q2⟩:=q;exact⟨vs,by rw[hk a _ e];exact q1,q2.grow g⟩
theorem OA.new {p:Addr}{o:HO}(oa:OA K H M) (h:H p=b8K):OA K (upd H p o) M:=oa.grow (AY _ h) fun a x e=>by
 rw[AJ (by rintro rfl;rw[oa.none h] at e;cases e)]
theorem aT {p:Addr}{vs:List V}{ds:List PyData}(oa:OA K H M) (h:H p=b8K) (hd:DVs K H M.W ds vs) :
   OA K (upd H p (.lst vs)) (M.put p (.l ds))/\Step K M (M.put p (.l ds)) H (upd H p (.lst vs)):=by
 have hM:=oa.none h
 have g:Grow K M.W (M.put p (.l ds)).W H (upd H p (.lst vs)):=⟨fun b u e _=>.inl (by rw[AJ (B2 e h)];exact e),fun b w=>by
   by_cases hb:b=p
   · subst hb;exact .inr h
   · left;unfold Own.W at w ⊢;rw[yH hb] at w;exact w⟩
 refine⟨fun a o e=>?_,⟨g⟩⟩
 · by_cases ha:a=p
   · subst ha;rw[zU] at e;cases e;exact⟨vs,AI,hd.grow g⟩
   · rw[yH ha] at e
     have q:=oa a o e
     cases o with
     | l ds=>obtain⟨vs,q1,q2⟩:=q;exact⟨vs,by rw[AJ ha];exact q1,q2.grow g⟩
     | d kvs=>obtain⟨vs,q1,q2⟩:=q;exact⟨vs,by rw[AJ ha];exact q1,q2.grow g⟩
     | x C fs=>obtain⟨vs,q1,q2⟩:=q;exact⟨vs,by rw[AJ ha];exact q1,q2.grow g⟩
theorem NE {p:Addr}{vs':List V}{ds':List PyData}{o:MO}(oa:OA K H M) (h:M p=some o) (hd:DVs K H M.W ds' vs') :
   OA K (upd H p (.lst vs')) (M.put p (.l ds'))/\Step K M (M.put p (.l ds')) H (upd H p (.lst vs')):=by
 have hw:∀b,(M.put p (.l ds')).W b->M.W b:=fun b w=>by
   unfold Own.W at w ⊢
   by_cases hb:b=p
   · subst hb;rw[h];simp
   · rw[yH hb] at w;exact w
 have g:Grow K M.W (M.put p (.l ds')).W H (upd H p (.lst vs')):=⟨fun b u e nw=>.inl (by
   rw[AJ (by rintro rfl;exact nw (by unfold Own.W;rw[h];simp))];exact e),fun b w=>.inl (hw b w)⟩
 refine⟨fun a o e=>?_,⟨g⟩⟩
 · by_cases ha:a=p
   · subst ha;rw[zU] at e;cases e;exact⟨vs',AI,hd.grow g⟩
   · rw[yH ha] at e
     have q:=oa a o e
     cases o with
     | l ds=>obtain⟨vs,q1,q2⟩:=q;exact⟨vs,by rw[AJ ha];exact q1,q2.grow g⟩
     | d kvs=>obtain⟨vs,q1,q2⟩:=q;exact⟨vs,by rw[AJ ha];exact q1,q2.grow g⟩
     | x C fs=>obtain⟨vs,q1,q2⟩:=q;exact⟨vs,by rw[AJ ha];exact q1,q2.grow g⟩
theorem B1 (hs:M'.Sub M):Grow K M.W M'.W H H:=⟨fun _ _ e _=>.inl e,fun b w=>.inl (by
 unfold Own.W at w ⊢
 cases e:M' b with
 | none=>exact absurd e w
 | some o=>rw[hs b o e];simp)⟩
theorem OA.sub (oa:OA K H M) (hs:M'.Sub M):OA K H M':=fun a o e=>by
 have q:=oa a o (hs a o e)
 cases o with
 | l ds=>obtain⟨vs,q1,q2⟩:=q;exact⟨vs,q1,q2.grow (B1 hs)⟩
 | d kvs=>obtain⟨vs,q1,q2⟩:=q;exact⟨vs,q1,q2.grow (B1 hs)⟩
 | x C fs=>obtain⟨vs,q1,q2⟩:=q;exact⟨vs,q1,q2.grow (B1 hs)⟩
theorem SI.sub (hs:M'.Sub M):∀{x:DS}{v:V},SI K H M x v->SI K H M' x v
 | .d _,_,h=>DV.grow (B1 hs) h
 | .loc _,_,h=>h
 | .ty _,_,h=>h
end
def DE (K:Frg) (t:TE) (ρ:List (Option DS)) (M:Own) (Q:DS->Own->Prop):Prop:=
 ∀(σ:St) (H:Hp) (QQ:VK),Rel K M ρ σ H->(∀v H' x M',OA K H' M'->SI K H' M' x v->Step K M M' H H'->Q x M'->QQ v H')->t σ H QQ
def DT (K:Frg) (t:TT) (ρ:List (Option DS)) (M:Own) (Q:Bool->Own->Prop):Prop:=
 ∀(σ:St) (H:Hp) (QQ:Bool->Hp->Prop),Rel K M ρ σ H->(∀b H' M',OA K H' M'->Step K M M' H H'->Q b M'->QQ b H')->t σ H QQ
def DA (K:Frg) (t:TA) (ρ:List (Option DS)) (M:Own) (Q:List DS->Own->Prop):Prop:=
 ∀(σ:St) (H:Hp) (QQ:List V->Hp->Prop),Rel K M ρ σ H->(∀vs H' xs M',OA K H' M'->SIs K H' M' xs vs->Step K M M' H H'->Q xs M'->QQ vs H')->t σ H QQ
def DP (K:Frg) (t:TO) (ρ:List (Option DS)) (M:Own) (Q:Option Int->Own->Prop):Prop:=
 ∀(σ:St) (H:Hp) (QQ:Option Int->Hp->Prop),Rel K M ρ σ H->(∀b H' M',OA K H' M'->Step K M M' H H'->Q b M'->QQ b H')->t σ H QQ
structure EndsD where
 nx:List (Option DS)->Own->Prop
 rt:DS->Own->Prop
 bk:List (Option DS)->Own->Prop:=fun _ _=>False
 ct:List (Option DS)->Own->Prop:=fun _ _=>False
def DSt (K:Frg) (t:TS) (ρ:List (Option DS)) (M:Own) (D:EndsD):Prop:=
 ∀(σ:St) (H:Hp) (E:Ends),Rel K M ρ σ H->(∀ρ' M' σ' H',Rel K M' ρ' σ' H'->Step K M M' H H'->D.nx ρ' M'->E.nx σ' H')->(∀v H' x M',OA K H' M'->SI K H' M' x v->Step K M M' H H'->D.rt x M'->E.rt v H') ->
   (∀ρ' M' σ' H',Rel K M' ρ' σ' H'->Step K M M' H H'->D.bk ρ' M'->E.bk σ' H')->(∀ρ' M' σ' H',Rel K M' ρ' σ' H'->Step K M M' H H'->D.ct ρ' M'->E.ct σ' H')->t E σ H
def D1 (K:Frg) (r:V->Hp->VK->Prop) (x:DS) (M:Own) (Q:DS->Own->Prop):Prop:=
 ∀(H:Hp) (v:V) (QQ:VK),OA K H M->SI K H M x v->(∀w H' z M',OA K H' M'->SI K H' M' z w->Step K M M' H H'->Q z M'->QQ w H')->r v H QQ
def D2 (K:Frg) (r:R2) (x y:DS) (M:Own) (Q:DS->Own->Prop):Prop:=
 ∀(H:Hp) (v u:V) (QQ:VK),OA K H M->SI K H M x v->SI K H M y u->(∀w H' z M',OA K H' M'->SI K H' M' z w->Step K M M' H H'->Q z M'->QQ w H')->r v u H QQ
def DR (K:Frg) (r:List V->Hp->VK->Prop) (xs:List DS) (M:Own) (Q:DS->Own->Prop):Prop:=
 ∀(H:Hp) (vs:List V) (QQ:VK),OA K H M->SIs K H M xs vs->(∀w H' z M',OA K H' M'->SI K H' M' z w->Step K M M' H H'->Q z M'->QQ w H')->r vs H QQ
def DM (K:Frg) (r:V->List V->Hp->VK->Prop) (x:DS) (xs:List DS) (M:Own) (Q:DS->Own->Prop):Prop:=
 ∀(H:Hp) (v:V) (vs:List V) (QQ:VK),OA K H M->SI K H M x v->SIs K H M xs vs->(∀w H' z M',OA K H' M'->SI K H' M' z w->Step K M M' H H'->Q z M'->QQ w H')->r v vs H QQ
def DSl (K:Frg) (r:V->Option Int->Option Int->Hp->VK->Prop) (x:DS) (lo hi:Option Int) (M:Own) (Q:DS->Own->Prop):Prop:=
 ∀(H:Hp) (v:V) (QQ:VK),OA K H M->SI K H M x v->(∀w H' z M',OA K H' M'->SI K H' M' z w->Step K M M' H H'->Q z M'->QQ w H')->r v lo hi H QQ
def DTy (K:Frg) (T:String) (x:DS) (M:Own):Prop:=∀(H:Hp) (v:V),OA K H M->SI K H M x v->tyV K T v H
section
variable {K:Frg}{ρ:List (Option DS)}{M:Own}{Q:DS->Own->Prop}{QB:Bool->Own->Prop}{ta tb tc:TE}{tA tB':TT}{r r':R2}
theorem aU {t:TE}{Q':DS->Own->Prop}(h:DE K t ρ M Q) (hq:∀x M',Q x M'->Q' x M'):DE K t ρ M Q':=fun σ H QQ R k=>h σ H QQ R fun v H' x M' a b c q=>k v H' x M' a b c (hq x M' q)
theorem sK {i:Nat}{x:DS}(e:ρ[i]?=some (some x)) (h:Q x M):DE K (cF i) ρ M Q:=fun σ H QQ R k=>by
 obtain⟨v,h1,h2⟩:=R.slot i x e
 exact⟨v,h1,k v H x M R.own h2 Step.refl h⟩
theorem sL {i:Int}(h:Q (.d (.int i)) M):DE K (tC (.int i)) ρ M Q:=fun σ H QQ R k=>k _ H (.d (.int i)) M R.own (by unfold SI DV;rfl) Step.refl h
theorem vG {i:Bool}(h:Q (.d (.bool i)) M):DE K (tC (.bl i)) ρ M Q:=fun σ H QQ R k=>k _ H (.d (.bool i)) M R.own (by unfold SI DV;rfl) Step.refl h
theorem sM {i:Str}(h:Q (.d (.str i)) M):DE K (tC (.str i)) ρ M Q:=fun σ H QQ R k=>k _ H (.d (.str i)) M R.own (by unfold SI DV;rfl) Step.refl h
theorem sN (h:Q (.d .none) M):DE K (tC .non) ρ M Q:=fun σ H QQ R k=>k _ H (.d .none) M R.own (by unfold SI DV;rfl) Step.refl h
theorem vH {n:String}(h:Q (.ty n) M):DE K (tC (.ty n)) ρ M Q:=fun σ H QQ R k=>k _ H (.ty n) M R.own rfl Step.refl h
theorem vI (h:DE K ta ρ M fun x M1=>DE K tb ρ M1 fun y M2=>D2 K r x y M2 Q):DE K (tOp r ta tb) ρ M Q:=fun σ H QQ R k=>
 h σ H _ R fun v H1 x M1 o1 s1 t1 h1=>h1 σ H1 _ (R.step o1 t1) fun u H2 y M2 o2 s2 t2 h2=>h2 H2 v u QQ o2 (s1.step t2) s2 fun w H3 z M3 o3 s3 t3 q=>k w H3 z M3 o3 s3 ((t1.trans t2).trans t3) q
theorem vJ {r:V->Hp->VK->Prop}(h:DE K ta ρ M fun x M1=>D1 K r x M1 Q):DE K (tUn r ta) ρ M Q:=fun σ H QQ R k=>
 h σ H _ R fun v H1 x M1 o1 s1 t1 h1=>h1 H1 v QQ o1 s1 fun w H3 z M3 o3 s3 t3 q=>k w H3 z M3 o3 s3 (t1.trans t3) q
theorem gN (h:DE K ta ρ M fun x M1=>DE K tb ρ M1 fun y M2=>D2 K r x y M2 fun z M3=>∃c,z = .d (.bool c)/\if c=true then DE K tc ρ M3 (fun w M4=>D2 K r' y w M4 Q) else Q (.d (.bool false)) M3) :
   DE K (fX r r' ta tb tc) ρ M Q:=fun σ H QQ R k=>
 h σ H _ R fun v H1 x M1 o1 s1 t1 h1=>h1 σ H1 _ (R.step o1 t1) fun u H2 y M2 o2 s2 t2 h2=>h2 H2 v u _ o2 (s1.step t2) s2 fun w H3 z M3 o3 s3 t3 q=>by
   obtain⟨c,rfl,q⟩:=q
   unfold SI DV at s3
   refine⟨c,s3,?_⟩
   cases c with
   | false=>
     rw[if_neg nft] at q ⊢
     exact k _ H3 _ M3 o3 (by unfold SI DV;rfl) ((t1.trans t2).trans t3) q
   | true=>
     rw[if_pos rfl] at q ⊢
     exact q σ H3 _ (R.step o3 ((t1.trans t2).trans t3)) fun w4 H4 z4 M4 o4 s4 t4 h4=>h4 H4 u w4 QQ o4 (s2.step (t3.trans t4)) s4 fun w5 H5 z5 M5 o5 s5 t5 q5=>k w5 H5 z5 M5 o5 s5 ((((t1.trans t2).trans t3).trans t4).trans t5) q5
theorem mH (h:DE K ta ρ M fun x M1=>∃c,x = .d (.bool c)/\QB c M1):DT K (pH ta) ρ M QB:=fun σ H QQ R k=>
 h σ H _ R fun v H1 x M1 o1 s1 t1 h1=>by
   obtain⟨c,rfl,q⟩:=h1
   unfold SI DV at s1
   exact⟨c,s1,k c H1 M1 o1 t1 q⟩
theorem wZ (h:DE K ta ρ M fun x M1=>∃c,x = .d (.bool c)/\QB c M1):DT K (L2.tB ta) ρ M QB:=fun σ H QQ R k=>
 h σ H _ R fun v H1 x M1 o1 s1 t1 h1=>by
   obtain⟨c,rfl,q⟩:=h1
   unfold SI DV at s1
   exact⟨c,s1,k c H1 M1 o1 t1 q⟩
theorem sO (h:DT K tA ρ M fun c M1=>if c=true then DT K tB' ρ M1 QB else QB false M1):DT K (uN tA tB') ρ M QB:=fun σ H QQ R k=>
 h σ H _ R fun c H1 M1 o1 t1 h1=>by
   cases c with
   | false=>rw[if_neg nft] at h1 ⊢;exact k _ H1 M1 o1 t1 h1
   | true=>rw[if_pos rfl] at h1 ⊢;exact h1 σ H1 QQ (R.step o1 t1) fun b H2 M2 o2 t2 q=>k b H2 M2 o2 (t1.trans t2) q
theorem vK (h:DT K tA ρ M fun c M1=>if c=true then QB true M1 else DT K tB' ρ M1 QB):DT K (tOr tA tB') ρ M QB:=fun σ H QQ R k=>
 h σ H _ R fun c H1 M1 o1 t1 h1=>by
   cases c with
   | true=>rw[if_pos rfl] at h1 ⊢;exact k _ H1 M1 o1 t1 h1
   | false=>rw[if_neg nft] at h1 ⊢;exact h1 σ H1 QQ (R.step o1 t1) fun b H2 M2 o2 t2 q=>k b H2 M2 o2 (t1.trans t2) q
theorem sP (h:DT K tA ρ M fun c M1=>QB (!c) M1):DT K (uO tA) ρ M QB:=fun σ H QQ R k=>h σ H _ R fun c H1 M1 o1 t1 h1=>k _ H1 M1 o1 t1 h1
theorem sQ (h:QB true M):DT K vF ρ M QB:=fun σ H QQ R k=>k true H M R.own Step.refl h
theorem sR (h:DE K ta ρ M fun x M1=>∃c,x = .d (.bool c)/\if c=true then DE K tb ρ M1 Q else Q (.d (.bool false)) M1):DE K (p9 ta tb) ρ M Q:=fun σ H QQ R k=>
 h σ H _ R fun v H1 x M1 o1 s1 t1 h1=>by
   obtain⟨c,rfl,q⟩:=h1
   unfold SI DV at s1
   refine⟨c,s1,?_⟩
   cases c with
   | false=>rw[if_neg nft] at q ⊢;exact k _ H1 _ M1 o1 (by unfold SI DV;rfl) t1 q
   | true=>rw[if_pos rfl] at q ⊢;exact q σ H1 QQ (R.step o1 t1) fun w H2 z M2 o2 s2 t2 q=>k w H2 z M2 o2 s2 (t1.trans t2) q
theorem vL (h:DE K ta ρ M fun x M1=>∃c,x = .d (.bool c)/\if c=true then Q (.d (.bool true)) M1 else DE K tb ρ M1 Q):DE K (uP ta tb) ρ M Q:=fun σ H QQ R k=>
 h σ H _ R fun v H1 x M1 o1 s1 t1 h1=>by
   obtain⟨c,rfl,q⟩:=h1
   unfold SI DV at s1
   refine⟨c,s1,?_⟩
   cases c with
   | true=>rw[if_pos rfl] at q ⊢;exact k _ H1 _ M1 o1 (by unfold SI DV;rfl) t1 q
   | false=>rw[if_neg nft] at q ⊢;exact q σ H1 QQ (R.step o1 t1) fun w H2 z M2 o2 s2 t2 q=>k w H2 z M2 o2 s2 (t1.trans t2) q
theorem sS (h:DE K ta ρ M fun x M1=>∃c,x = .d (.bool c)/\Q (.d (.bool (!c))) M1):DE K (pA ta) ρ M Q:=fun σ H QQ R k=>
 h σ H _ R fun v H1 x M1 o1 s1 t1 h1=>by
   obtain⟨c,rfl,q⟩:=h1
   unfold SI DV at s1
   exact⟨c,s1,k _ H1 _ M1 o1 (by unfold SI DV;rfl) t1 q⟩
theorem vM (h:DT K tA ρ M fun c M1=>if c=true then DE K ta ρ M1 Q else DE K tb ρ M1 Q):DE K (tIf tA ta tb) ρ M Q:=fun σ H QQ R k=>
 h σ H _ R fun c H1 M1 o1 t1 h1=>by
   cases c with
   | true=>rw[if_pos rfl] at h1 ⊢;exact h1 σ H1 QQ (R.step o1 t1) fun w H2 z M2 o2 s2 t2 q=>k w H2 z M2 o2 s2 (t1.trans t2) q
   | false=>rw[if_neg nft] at h1 ⊢;exact h1 σ H1 QQ (R.step o1 t1) fun w H2 z M2 o2 s2 t2 q=>k w H2 z M2 o2 s2 (t1.trans t2) q
variable {QL:List DS->Own->Prop}{tl:TA}
theorem YS (h:QL [] M):DA K v7 ρ M QL:=fun σ H QQ R k=>k [] H [] M R.own rfl Step.refl h
theorem mI (h:DE K ta ρ M fun x M1=>DA K tl ρ M1 fun xs M2=>QL (x::xs) M2):DA K (g0 ta tl) ρ M QL:=fun σ H QQ R k=>
 h σ H _ R fun v H1 x M1 o1 s1 t1 h1=>h1 σ H1 _ (R.step o1 t1) fun vs H2 xs M2 o2 s2 t2 q=>k (v::vs) H2 (x::xs) M2 o2 ⟨v,vs,rfl,s1.step t2,s2⟩ (t1.trans t2) q
def RR:List DS->Option (List PyData)
 | []=>some []
 | .d x::r=>match RR r with
   | some l=>some (x::l)
   | none=>none
 | .loc _::_=>none
 | .ty _::_=>none
theorem SIs.data {H:Hp}:∀{xs:List DS}{ds:List PyData}{vs:List V},RR xs=some ds->SIs K H M xs vs->DVs K H M.W ds vs
 | [],ds,vs,e,h=>by cases e;cases h;exact DVs.nil
 | .d x::r,ds,vs,e,⟨v,q,e2,h1,h2⟩=>by
   cases e3:RR r with
   | none=>rw[RR,e3] at e;cases e
   | some es=>
     rw[RR,e3] at e;cases e
     subst e2
     exact DVs.cons h1 (SIs.data e3 h2)
 | .loc _::_,ds,vs,e,_=>by cases e
 | .ty _::_,ds,vs,e,_=>by cases e
theorem SIs.length {H:Hp}:∀{xs:List DS}{vs:List V},SIs K H M xs vs->vs.length=xs.length
 | [],vs,h=>by cases h;rfl
 | _::r,vs,⟨v,q,e2,h1,h2⟩=>by subst e2;simp[SIs.length h2]
theorem sU (h:DA K tl ρ M fun xs M1=>∃ds,RR xs=some ds/\ds.length<=sizeLine/\Q (.d (.tuple ds)) M1):DE K (v8 tl) ρ M Q:=fun σ H QQ R k=>
 h σ H _ R fun vs H1 xs M1 o1 s1 t1 h1=>by
   obtain⟨ds,e,hz,q⟩:=h1
   have hd:=s1.data e
   refine⟨by rw[hd.length];exact hz,fun p hp=>?_⟩
   have g:Grow K M1.W M1.W H1 (upd H1 p (.tup vs)):=AY _ hp
   refine k _ _ (.d (.tuple ds)) M1 (o1.new hp) ?_ (t1.trans ⟨g⟩) q
   unfold SI DV
   exact⟨p,vs,rfl,.inl ⟨fun w=>w (o1.none hp),.inl AI⟩,hd.grow g⟩
theorem CV (h:DA K tl ρ M fun xs M1=>∃ds,RR xs=some ds/\ds.length<=sizeLine/\Q (.d (.list ds)) M1):DE K (rM tl) ρ M Q:=fun σ H QQ R k=>
 h σ H _ R fun vs H1 xs M1 o1 s1 t1 h1=>by
   obtain⟨ds,e,hz,q⟩:=h1
   have hd:=s1.data e
   refine⟨by rw[hd.length];exact hz,fun p hp=>?_⟩
   have g:Grow K M1.W M1.W H1 (upd H1 p (.lst vs)):=AY _ hp
   refine k _ _ (.d (.list ds)) M1 (o1.new hp) ?_ (t1.trans ⟨g⟩) q
   unfold SI DV
   exact⟨p,vs,rfl,.inl ⟨fun w=>w (o1.none hp),.inl AI⟩,hd.grow g⟩
theorem LR (h:DA K tl ρ M fun xs M1=>∃ds,RR xs=some ds/\ds.length<=sizeLine/\∀p,M1 p=none->Q (.loc p) (M1.put p (.l ds))):DE K (rM tl) ρ M Q:=fun σ H QQ R k=>
 h σ H _ R fun vs H1 xs M1 o1 s1 t1 h1=>by
   obtain⟨ds,e,hz,q⟩:=h1
   have hd:=s1.data e
   refine⟨by rw[hd.length];exact hz,fun p hp=>?_⟩
   obtain⟨a,b⟩:=aT o1 hp hd
   exact k _ _ (.loc p) _ a rfl (t1.trans b) (q p (o1.none hp))
theorem vN {r:List V->Hp->VK->Prop}(h:DA K tl ρ M fun xs M1=>DR K r xs M1 Q):DE K (tCB r tl) ρ M Q:=fun σ H QQ R k=>
 h σ H _ R fun vs H1 xs M1 o1 s1 t1 h1=>h1 H1 vs QQ o1 s1 fun w H2 z M2 o2 s2 t2 q=>k w H2 z M2 o2 s2 (t1.trans t2) q
structure FSp where
 pre:List DS->Own->Prop
 post:List DS->Own->DS->Own->Prop
def spD (K:Frg) (n:Nat) (S:FSp):Sp:=fun vs H Q _=>∃xs M,xs.length=n/\OA K H M/\SIs K H M xs vs/\S.pre xs M/\∀x M' v H',S.post xs M x M'->Step K M M' H H'->OA K H' M'->SI K H' M' x v->Q v H'
theorem aV {n:Nat}{S:FSp}:∀vs H Q E,spD K n S vs H Q E->vs.length=n:=fun vs H Q E ⟨xs,M,hl,_,h,_⟩=>by rw[h.length,hl]
theorem mJ {n:Nat}{S:FSp}{E:XK}(h:DA K tl ρ M fun xs M1=>xs.length=n/\S.pre xs M1/\∀x M',S.post xs M1 x M'->Q x M'):DE K (aK (spD K n S) [] E tl) ρ M Q:=fun σ H QQ R k=>
 h σ H _ R fun vs H1 xs M1 o1 s1 t1 ⟨h0,h1,h2⟩=>by
   show spD K n S (vs++[]) H1 QQ E
   rw[a2Q]
   exact⟨xs,M1,h0,o1,s1,h1,fun x M' v H' p st oa si=>k v H' x M' oa si (t1.trans st) (h2 x M' p)⟩
theorem ST {T:String}{r:V->List V->Hp->VK->Prop}(h:DE K ta ρ M fun x M1=>DTy K T x M1/\DA K tl ρ M1 fun xs M2=>DM K r x xs M2 Q):DE K (tBM K T r ta tl) ρ M Q:=fun σ H QQ R k=>
 h σ H _ R fun v H1 x M1 o1 s1 t1 ⟨h0,h1⟩=>⟨h0 H1 v o1 s1,h1 σ H1 _ (R.step o1 t1) fun vs H2 xs M2 o2 s2 t2 h2=>h2 H2 v vs QQ o2 (s1.step t2) s2 fun w H3 z M3 o3 s3 t3 q=>k w H3 z M3 o3 s3 ((t1.trans t2).trans t3) q⟩
theorem mK {QP:Option Int->Own->Prop}(h:QP none M):DP K aM ρ M QP:=fun σ H QQ R k=>k _ H M R.own Step.refl h
theorem mL {QP:Option Int->Own->Prop}(h:DE K ta ρ M fun x M1=>∃i,x = .d (.int i)/\QP (some i) M1):DP K (pK ta) ρ M QP:=fun σ H QQ R k=>
 h σ H _ R fun v H1 x M1 o1 s1 t1 h1=>by
   obtain⟨i,rfl,q⟩:=h1
   unfold SI DV at s1
   exact⟨i,s1,k _ H1 M1 o1 t1 q⟩
theorem vO {r:V->Option Int->Option Int->Hp->VK->Prop}{tl th:TO}(h:DE K ta ρ M fun x M1=>DP K tl ρ M1 fun lo M2=>DP K th ρ M2 fun hi M3=>DSl K r x lo hi M3 Q):DE K (tSl r ta tl th) ρ M Q:=fun σ H QQ R k=>
 h σ H _ R fun v H1 x M1 o1 s1 t1 h1=>h1 σ H1 _ (R.step o1 t1) fun lo H2 M2 o2 t2 h2=>h2 σ H2 _ (R.step o2 (t1.trans t2)) fun hi H3 M3 o3 t3 h3=>h3 H3 v QQ o3 (s1.step (t2.trans t3)) fun w H4 z M4 o4 s4 t4 q=>k w H4 z M4 o4 s4 (((t1.trans t2).trans t3).trans t4) q
variable {D:EndsD}{t u:TS}
theorem aW (h:D.nx ρ M):DSt K pB ρ M D:=fun σ H E R k1 _ _ _=>k1 ρ M σ H R Step.refl h
theorem gQ (h:DE K ta ρ M D.rt):DSt K (qU ta) ρ M D:=fun σ H E R _ k2 _ _=>h σ H E.rt R fun v H' x M' a b c q=>k2 v H' x M' a b c q
theorem aX (h:DE K ta ρ M fun _ M1=>D.nx ρ M1):DSt K (pC ta) ρ M D:=fun σ H E R k1 _ _ _=>h σ H _ R fun v H' x M' a b c q=>k1 ρ M' σ H' (R.step a c) c q
theorem gR {i:Nat}(h:DE K ta ρ M fun x M1=>D.nx (ρ.set i (some x)) M1):DSt K (lP ta (PD i)) ρ M D:=fun σ H E R k1 _ _ _=>
 h σ H _ R fun v H' x M' a b c q=>k1 _ M' _ H' ((R.step a c).set b i) c q
theorem aY {i:Nat}(h:DE K ta ρ M fun x M1=>D.nx (ρ.set i (some x)) M1):DSt K (fun D σ H=>ta σ H fun v H'=>D.nx (σ.set i (some v)) H') ρ M D:=fun σ H E R k1 _ _ _=>
 h σ H _ R fun v H' x M' a b c q=>k1 _ M' _ H' ((R.step a c).set b i) c q
theorem gS (h:DSt K t ρ M { D with nx:=fun ρ1 M1=>DSt K u ρ1 M1 D }):DSt K (fQ t u) ρ M D:=fun σ H E R k1 k2 k3 k4=>by
 refine h σ H { E with nx:=fun σ' H'=>u E σ' H' } R (fun ρ1 M1 σ1 H1 R1 t1 q=>?_) k2 k3 k4
 exact q σ1 H1 E R1 (fun a b c d e f g=>k1 a b c d e (t1.trans f) g) (fun a b c d e f g q=>k2 a b c d e f (t1.trans g) q) (fun a b c d e f g=>k3 a b c d e (t1.trans f) g) (fun a b c d e f g=>k4 a b c d e (t1.trans f) g)
theorem vP (h:DT K tA ρ M fun c M1=>if c=true then DSt K t ρ M1 D else DSt K u ρ M1 D):DSt K (qW tA t u) ρ M D:=fun σ H E R k1 k2 k3 k4=>
 h σ H _ R fun c H1 M1 o1 t1 h1=>by
   have go:∀{w:TS},DSt K w ρ M1 D->w E σ H1:=fun q=>q σ H1 E (R.step o1 t1) (fun a b c d e f g=>k1 a b c d e (t1.trans f) g) (fun a b c d e f g q=>k2 a b c d e f (t1.trans g) q) (fun a b c d e f g=>k3 a b c d e (t1.trans f) g) (fun a b c d e f g=>k4 a b c d e (t1.trans f) g)
   cases c with
   | true=>rw[if_pos rfl] at h1 ⊢;exact go h1
   | false=>rw[if_neg nft] at h1 ⊢;exact go h1
theorem mM {D':EndsD}(h:DSt K t ρ M D) (h1:∀ρ' M',D.nx ρ' M'->D'.nx ρ' M') (h2:∀x M',D.rt x M'->D'.rt x M') (h3:∀ρ' M',D.bk ρ' M'->D'.bk ρ' M') (h4:∀ρ' M',D.ct ρ' M'->D'.ct ρ' M'):DSt K t ρ M D':=
 fun σ H E R k1 k2 k3 k4=>h σ H E R (fun a b c d e f g=>k1 a b c d e f (h1 _ _ g)) (fun a b c d e f g q=>k2 a b c d e f g (h2 _ _ q)) (fun a b c d e f g=>k3 a b c d e f (h3 _ _ g)) (fun a b c d e f g=>k4 a b c d e f (h4 _ _ g))
theorem SU {i:Nat}{a:Addr}{ds:List PyData}(e:ρ[i]?=some (some (.loc a))) (m:M a=some (.l ds)) (h:DSt K t (ρ.set i (some (.d (.list ds)))) (M.del a) D):DSt K t ρ M D:=fun σ H E R k1 k2 k3 k4=>by
 have hs:(M.del a).Sub M:=fun b o q=>by
   unfold Own.del at q
   by_cases hb:b=a
   · rw[if_pos hb] at q;cases q
   · rw[if_neg hb] at q;exact q
 have st:Step K M (M.del a) H H:=⟨B1 hs⟩
 obtain⟨v,e1,e2⟩:=R.slot i _ e
 obtain⟨vs,q1,q2⟩:=R.own a _ m
 have R1:Rel K (M.del a) ρ σ H:=R.step (R.own.sub hs) st
 have R2:=R1.set (x:=.d (.list ds)) (v:=v) (by
   unfold SI DV
   refine⟨a,vs,e2,.inl ⟨fun w=>w (by unfold Own.del;rw[if_pos rfl]),.inl q1⟩,q2.grow (B1 hs)⟩) i
 have e3:σ.set i (some v)=σ:=by
   apply b3W
   intro j
   rw[List.getElem?_set]
   by_cases hij:i=j
   · subst hij
     rw[if_pos rfl,e1]
     split
     · rfl
     · rename_i hl
       rw[a0J (by omega)] at e1;cases e1
   · rw[if_neg hij]
 rw[e3] at R2
 exact h σ H E R2 (fun a b c d e f g=>k1 a b c d e (st.trans f) g) (fun a b c d e f g q=>k2 a b c d e f (st.trans g) q) (fun a b c d e f g=>k3 a b c d e (st.trans f) g) (fun a b c d e f g=>k4 a b c d e (st.trans f) g)
end
end DL
namespace DL
open PySem PySem.Spec L2
section
variable {K:Frg}{ρ:List (Option DS)}{M:Own}{Q:DS->Own->Prop}{H:Hp}
theorem BF {i:Int}{v:V}(h:SI K H M (.d (.int i)) v):v = .int i:=by unfold SI DV at h;exact h
theorem pQ {i:Bool}{v:V}(h:SI K H M (.d (.bool i)) v):v = .bl i:=by unfold SI DV at h;exact h
theorem CD {i:Str}{v:V}(h:SI K H M (.d (.str i)) v):v = .str i:=by unfold SI DV at h;exact h
theorem gT {v:V}(h:SI K H M (.d .none) v):v = .non:=by unfold SI DV at h;exact h
theorem CI {i:Int}:SI K H M (.d (.int i)) (.int i):=by unfold SI DV;rfl
theorem AK {i:Bool}:SI K H M (.d (.bool i)) (.bl i):=by unfold SI DV;rfl
theorem GY {i:Str}:SI K H M (.d (.str i)) (.str i):=by unfold SI DV;rfl
theorem vQ {g:Int->Int->Int}{i j:Int}(q:Q (.d (.int (g i j))) M):D2 K (rI0 fun i j=>.int (g i j)) (.d (.int i)) (.d (.int j)) M Q:=fun H v u QQ oa s1 s2 k=>by
 rw[BF s1,BF s2];exact⟨i,j,rfl,rfl,k _ H _ M oa CI Step.refl q⟩
theorem vR {g:Int->Int->Bool}{i j:Int}(q:Q (.d (.bool (g i j))) M):D2 K (rI0 fun i j=>.bl (g i j)) (.d (.int i)) (.d (.int j)) M Q:=fun H v u QQ oa s1 s2 k=>by
 rw[BF s1,BF s2];exact⟨i,j,rfl,rfl,k _ H _ M oa AK Step.refl q⟩
theorem vT {C:Int->Int->Prop}{g:Int->Int->Int}{i j:Int}(c:C i j) (q:Q (.d (.int (g i j))) M):D2 K (rI C fun i j=>.int (g i j)) (.d (.int i)) (.d (.int j)) M Q:=fun H v u QQ oa s1 s2 k=>by
 rw[BF s1,BF s2];exact⟨i,j,rfl,rfl,c,k _ H _ M oa CI Step.refl q⟩
theorem x8 {g:Int->Int}{i:Int}(q:Q (.d (.int (g i))) M):D1 K (rU fun i=>.int (g i)) (.d (.int i)) M Q:=fun H v QQ oa s1 k=>by
 rw[BF s1];exact⟨i,rfl,k _ H _ M oa CI Step.refl q⟩
theorem mN {i j:Str}(hz:i.length+j.length<=sizeLine) (q:Q (.d (.str (i++j))) M) :
   D2 K (fun x y H Q=>∃i j,x = .str i/\y = .str j/\i.length+j.length<=sizeLine/\Q (.str (i++j)) H) (.d (.str i)) (.d (.str j)) M Q:=fun H v u QQ oa s1 s2 k=>by
 rw[CD s1,CD s2];exact⟨i,j,rfl,rfl,hz,k _ H _ M oa GY Step.refl q⟩
theorem B4 {neg:Bool}{a b:PyData}(ha:zH a=true) (hb:zH b=true) (q:Q (.d (.bool (if neg then !a0X a b else a0X a b))) M):D2 K (cV K neg) (.d a) (.d b) M Q:=fun H v u QQ oa s1 s2 k=>
 ⟨M.W,a,b,s1,s2,ha,hb,k _ H _ M oa AK Step.refl q⟩
theorem VZ (x:Str) (ys:List Str):inV (.str x) (ys.map V.str)=decide (x∈ys):=by
 unfold inV
 rw[a6Z,a3Z,decide_eq_true_iff]
 constructor
 · rintro⟨y,hy,e⟩
   obtain⟨z,hz,rfl⟩:=zL.mp hy
   have:z=x:=by simpa [eqV] using e
   subst this;exact hz
 · intro h
   exact⟨.str x,zL.mpr ⟨x,h,rfl⟩,by simp[eqV]⟩
theorem sV {neg:Bool}{x:Str}{ys:List Str}(q:Q (.d (.bool (if neg then !decide (x∈ys) else decide (x∈ys)))) M):D2 K (rIn K neg) (.d (.str x)) (.d (.list (ys.map .str))) M Q:=fun H v u QQ oa s1 s2 k=>by
 rw[CD s1]
 unfold SI DV at s2
 obtain⟨a,vs,rfl,hl,hd⟩:=s2
 have e:=PR hd
 subst e
 exact⟨a,_,rfl,.inl hl.sq,rfl,by simp[KB],k _ H (.d (.bool (if neg then !decide (x∈ys) else decide (x∈ys)))) M oa (by rw[VZ];exact AK) Step.refl q⟩
theorem YT {W:Addr->Prop}{ds:List PyData}{vs:List V}{i:Int}{d:PyData}(h:DVs K H W ds vs) (e:atI ds i=some d):∃v,atI vs i=some v/\DV K H W d v:=by
 unfold atI at e ⊢
 rw[h.length]
 cases hx:ixN ds.length i with
 | none=>rw[hx] at e;cases e
 | some j=>rw[hx] at e;simpa using h.get' (by simpa using e)
theorem sW {ds:List PyData}{i:Int}{d:PyData}(e:atI ds i=some d) (q:Q (.d d) M):D2 K (lZ K) (.d (.list ds)) (.d (.int i)) M Q:=fun H v u QQ oa s1 s2 k=>by
 rw[BF s2]
 unfold SI DV at s1
 obtain⟨a,vs,rfl,hl,hd⟩:=s1
 obtain⟨w,h1,h2⟩:=YT hd e
 exact⟨a,vs,i,w,rfl,rfl,hl.sq,h1,k _ H (.d d) M oa h2 Step.refl q⟩
theorem sY {ds:List PyData}{i:Int}{d:PyData}(e:atI ds i=some d) (q:Q (.d d) M):D2 K (rS K) (.d (.tuple ds)) (.d (.int i)) M Q:=fun H v u QQ oa s1 s2 k=>by
 rw[BF s2]
 unfold SI DV at s1
 obtain⟨a,vs,rfl,hl,hd⟩:=s1
 obtain⟨w,h1,h2⟩:=YT hd e
 exact⟨a,vs,i,w,rfl,rfl,hl.sq,h1,k _ H (.d d) M oa h2 Step.refl q⟩
theorem sZ {a:Addr}{ds:List PyData}{i:Int}{d:PyData}(m:M a=some (.l ds)) (e:atI ds i=some d) (q:Q (.d d) M):D2 K (lZ K) (.loc a) (.d (.int i)) M Q:=fun H v u QQ oa s1 s2 k=>by
 rw[BF s2]
 unfold SI at s1
 subst s1
 obtain⟨vs,h0,hd⟩:=oa a _ m
 obtain⟨w,h1,h2⟩:=YT hd e
 exact⟨a,vs,i,w,rfl,rfl,SqL.of h0,h1,k _ H (.d d) M oa h2 Step.refl q⟩
theorem t0 {z:Str}{i:Int}{c:Nat}(hz:z.length<=sizeLine) (e:atI z.cps.toList i=some c) (q:Q (.d (.str ⟨#[c]⟩)) M):D2 K rT (.d (.str z)) (.d (.int i)) M Q:=fun H v u QQ oa s1 s2 k=>by
 rw[BF s2,CD s1]
 exact⟨z,i,c,rfl,rfl,hz,e,k _ H _ M oa GY Step.refl q⟩
theorem FQ {r r':R2}{x y:DS}(h:D2 K r x y M Q):D2 K (fun x y H Q=>r x y H Q∨r' x y H Q) x y M Q:=fun H v u QQ oa s1 s2 k=>.inl (h H v u QQ oa s1 s2 k)
theorem HM {r r':R2}{x y:DS}(h:D2 K r' x y M Q):D2 K (fun x y H Q=>r x y H Q∨r' x y H Q) x y M Q:=fun H v u QQ oa s1 s2 k=>.inr (h H v u QQ oa s1 s2 k)
theorem t7 {as bs:List PyData}(hz:as.length+bs.length<=sizeLine) (q:Q (.d (.list (as++bs))) M):D2 K (fun x y H Q=>∃a b xs ys,x = .ref a/\y = .ref b/\SqL K H a xs/\SqL K H b ys/\xs.length+ys.length<=sizeLine/\∀p,H p=none->Q (.ref p) (upd H p (.lst (xs++ys)))) (.d (.list as)) (.d (.list bs)) M Q:=fun H v u QQ oa s1 s2 k=>by
 unfold SI DV at s1 s2
 obtain⟨a,vs,rfl,hl,hd⟩:=s1
 obtain⟨b,us,rfl,hl2,hd2⟩:=s2
 refine⟨a,b,vs,us,rfl,rfl,hl.sq,hl2.sq,by rw[hd.length,hd2.length];exact hz,fun p hp=>?_⟩
 have g:Grow K M.W M.W H (upd H p (.lst (vs++us))):=AY _ hp
 refine k _ _ (.d (.list (as++bs))) M (oa.new hp) ?_ ⟨g⟩ q
 unfold SI DV
 exact⟨p,_,rfl,.inl ⟨fun w=>w (oa.none hp),.inl AI⟩,(hd.append hd2).grow g⟩
theorem mO {ds:List PyData}(q:Q (.d (.int ds.length)) M):DR K (fun xs H Q=>∃x n,xs=[x]/\lR K x H n/\Q (.int (n:Nat)) H) [.d (.list ds)] M Q:=fun H vs QQ oa s k=>by
 obtain⟨v,r,rfl,h1,h2⟩:=s
 cases h2
 unfold SI DV at h1
 obtain⟨a,vs,rfl,hl,hd⟩:=h1
 exact⟨_,_,rfl,.inl ⟨vs,hl.sq,rfl⟩,k _ H (.d (.int ds.length)) M oa (by rw[hd.length];exact CI) Step.refl q⟩
theorem mP {ds:List PyData}(q:Q (.d (.int ds.length)) M):DR K (fun xs H Q=>∃x n,xs=[x]/\lR K x H n/\Q (.int (n:Nat)) H) [.d (.tuple ds)] M Q:=fun H vs QQ oa s k=>by
 obtain⟨v,r,rfl,h1,h2⟩:=s
 cases h2
 unfold SI DV at h1
 obtain⟨a,vs,rfl,hl,hd⟩:=h1
 exact⟨_,_,rfl,.inr ⟨vs,hl.sq,rfl⟩,k _ H (.d (.int ds.length)) M oa (by rw[hd.length];exact CI) Step.refl q⟩
theorem t8 {bs:List Bool}(q:Q (.d (.bool (bs.all id))) M):DR K (fun xs H Q=>∃(p:Addr) (bs:List Bool),xs=[.ref p]/\SqL K H p (bs.map V.bl)/\Q (.bl (bs.all id)) H) [.d (.list (bs.map .bool))] M Q:=fun H vs QQ oa s k=>by
 obtain⟨v,r,rfl,h1,h2⟩:=s
 cases h2
 unfold SI DV at h1
 obtain⟨a,vs,rfl,hl,hd⟩:=h1
 rw[ND hd] at hl
 exact⟨a,bs,rfl,hl.sq,k _ H _ M oa AK Step.refl q⟩
theorem t9 {bs:List Bool}(q:Q (.d (.bool (bs.any id))) M):DR K (fun xs H Q=>∃(p:Addr) (bs:List Bool),xs=[.ref p]/\SqL K H p (bs.map V.bl)/\Q (.bl (bs.any id)) H) [.d (.list (bs.map .bool))] M Q:=fun H vs QQ oa s k=>by
 obtain⟨v,r,rfl,h1,h2⟩:=s
 cases h2
 unfold SI DV at h1
 obtain⟨a,vs,rfl,hl,hd⟩:=h1
 rw[ND hd] at hl
 exact⟨a,bs,rfl,hl.sq,k _ H _ M oa AK Step.refl q⟩
theorem mQ {z:Str}:DTy K "str" (.d (.str z)) M:=fun H v _ s=>by rw[CD s];exact rfl
theorem P4 {a:Addr}{ds:List PyData}(m:M a=some (.l ds)):DTy K "list" (.loc a) M:=fun H v oa s=>by
 unfold SI at s
 subst s
 obtain⟨vs,h0,hd⟩:=oa a _ m
 exact .inl ⟨rfl,vs,SqL.of h0⟩
theorem JT {a:Addr}{ds:List PyData}{d:PyData}(m:M a=some (.l ds)) (hz:ds.length < sizeLine) (q:Q (.d .none) (M.put a (.l (ds++[d])))):DM K TX (.loc a) [.d d] M Q:=fun H v vs QQ oa s1 s2 k=>by
 obtain⟨u,r,rfl,h1,h2⟩:=s2
 cases h2
 unfold SI at s1
 subst s1
 obtain⟨us,h0,hd⟩:=oa a _ m
 obtain⟨x,y⟩:=NE oa m (hd.append (DVs.cons h1 DVs.nil))
 exact⟨a,us,u,rfl,rfl,h0,by rw[hd.length];exact hz,k _ _ (.d .none) _ x (by unfold SI DV;rfl) y q⟩
theorem mR {z:Str}{lo hi:Option Int}(hz:z.length<=sizeLine) (q:Q (.d (.str (a1X z lo hi))) M):DSl K sG (.d (.str z)) lo hi M Q:=fun H v QQ oa s1 k=>by
 rw[CD s1]
 exact⟨z,rfl,hz,k _ H _ M oa GY Step.refl q⟩
def E9 (xs:List PyData) (lo hi:Option Int):List PyData:=(xs.drop (HT.sIx xs.length 0 lo)).take (HT.sIx xs.length xs.length hi - HT.sIx xs.length 0 lo)
theorem gU {ds:List PyData}{lo hi:Option Int}(q:Q (.d (.list (E9 ds lo hi))) M):DSl K (rX K) (.d (.list ds)) lo hi M Q:=fun H v QQ oa s1 k=>by
 unfold SI DV at s1
 obtain⟨a,vs,rfl,hl,hd⟩:=s1
 refine⟨a,vs,rfl,hl.sq,fun p hp=>?_⟩
 have g:Grow K M.W M.W H (upd H p (.lst (L4 vs lo hi))):=AY _ hp
 have key:DVs K H M.W (E9 ds lo hi) (L4 vs lo hi):=by
   unfold E9 L4
   rw[hd.length]
   exact(hd.drop _).take _
 refine k _ _ (.d (.list (E9 ds lo hi))) M (oa.new hp) ?_ ⟨g⟩ q
 unfold SI DV
 exact⟨p,_,rfl,.inl ⟨fun w=>w (oa.none hp),.inl AI⟩,key.grow g⟩
end
end DL
namespace DL
open PySem PySem.Spec L2
structure WD (K:Frg) (J:It) (ds:List PyData) (H1:Hp) (M1:Own):Prop where
 go:∀(i:Nat) H' M',i < ds.length->OA K H' M'->Step K M1 M' H1 H'->J.go i H'
 stop:∀H' M',OA K H' M'->Step K M1 M' H1 H'->J.stop ds.length H'
 yld:∀(i:Nat) H' M' x H2,OA K H' M'->Step K M1 M' H1 H'->i < ds.length->J.yld i H' x H2->OA K H2 M'/\Step K M' M' H' H2/\∃d,ds[i]?=some d/\DV K H2 M'.W d x
def DI (K:Frg) (wi:TI) (ρ:List (Option DS)) (M:Own) (Q:List PyData->Own->Prop):Prop:=
 ∀(σ:St) (H:Hp) (R:It->Hp->Prop),Rel K M ρ σ H->(∀J ds H1 M1,OA K H1 M1->Step K M M1 H H1->WD K J ds H1 M1->Q ds M1->R J H1)->wi σ H R
def DG (K:Frg) (g:TG) (d:PyData) (ρ:List (Option DS)) (M:Own) (P:List (Option DS)->Own->Prop):Prop:=
 ∀(σ:St) (H:Hp) (v:V) (QQ:St->Hp->Prop),Rel K M ρ σ H->DV K H M.W d v->(∀ρ' M' σ' H',Rel K M' ρ' σ' H'->Step K M M' H H'->P ρ' M'->QQ σ' H')->g v σ H QQ
def PU (g:TG) (T:List Nat):Prop:=∀(v:V) (σ:St) (H:Hp) (QQ:St->Hp->Prop),g v σ H (fun σ2 H2=>(∀i,i∉T->σ2[i]?=σ[i]?)->QQ σ2 H2)->g v σ H QQ
section
variable {K:Frg}{ρ:List (Option DS)}{M:Own}{D:EndsD}{tl:TE}{tb:TS}{i:Nat}{QI:List PyData->Own->Prop}{g:TG}{wi:TI}
def BJ (lo:Int) (n:Nat):List PyData:=(a0V n).map fun(i:Nat)=>.int (lo+i)
theorem HN {ta:TA}(h:DA K ta ρ M fun xs M1=>∃j:Int,xs=[.d (.int j)]/\-(2 ^ 62)<=j/\j < 2 ^ 62/\QI (BJ 0 j.toNat) M1):DI K (pD ta) ρ M QI:=fun σ H R Rl k=>
 h σ H _ Rl fun vs H1 xs M1 o1 s1 t1 ⟨j,e,h1,h2,q⟩=>by
   subst e
   obtain⟨v,r,rfl,h3,h4⟩:=s1
   cases h4
   rw[show v = .int j by unfold SI DV at h3;exact h3]
   have hlen:(BJ 0 j.toNat).length=j.toNat:=by simp[BJ]
   refine⟨j,rfl,h1,h2,k _ (BJ 0 j.toNat) H1 M1 o1 t1 ⟨fun i H' M' hi oa st=>?_,fun H' M' oa st=>?_,fun i H' M' x H2 oa st hi y=>?_⟩ q⟩
   · show i < j.toNat;rw[← hlen];exact hi
   · show j.toNat<=(BJ 0 j.toNat).length;rw[hlen];exact zR _
   · obtain⟨rfl,rfl⟩:=y
     refine⟨oa,Step.refl,.int (0+i),?_,by unfold DV;rfl⟩
     unfold BJ
     rw[zF]
     rw[hlen] at hi
     simp[hi]
theorem mS {d:PyData}{P:List (Option DS)->Own->Prop}(h:P (ρ.set i (some (.d d))) M):DG K (PD i) d ρ M P:=fun σ H v QQ R dv k=>k _ M _ H (R.set (x:=.d d) dv i) Step.refl h
theorem AQ (i:Nat):PU (PD i) [i]:=fun v σ H QQ h=>h fun j hj=>by
 rw[b5Z (by rintro rfl;exact hj (by simp))]
abbrev EndsD.turn (D:EndsD) (P:List (Option DS)->Own->Prop):EndsD:={ nx:=P,ct:=P,bk:=D.nx,rt:=D.rt }
theorem HP (h:DI K wi ρ M fun ds M1=>∃P:Nat->List (Option DS)->Own->Prop,P 0 ρ M1/\(∀k d ρ' M',ds[k]?=some d->P k ρ' M'->DG K g d ρ' M' fun ρ2 M2=>DSt K tb ρ2 M2 (D.turn (P (k+1))))/\∀ρ' M',P ds.length ρ' M'->D.nx ρ' M') :
   DSt K (rB wi g tb) ρ M D:=fun σ H E R k1 k2 k3 k4=>
 h σ H _ R fun J ds H1 M1 o1 t1 wd ⟨P,p0,pt,pe⟩=>by
   refine⟨fun i m σ' H'=>m=ds.length - i/\i<=ds.length/\∃ρ' M',Rel K M' ρ' σ' H'/\Step K M1 M' H1 H'/\P i ρ' M',⟨_,rfl,xT _,ρ,M1,R.step o1 t1,Step.refl,p0⟩,?_⟩
   rintro i m σ' H' ⟨rfl,hi,ρ',M',R',st,p⟩
   by_cases hlt:i < ds.length
   · refine .inr ⟨wd.go i H' M' hlt R'.own st,fun σ2 H2=>∃ρ2 M2,Rel K M2 ρ2 σ2 H2/\Step K M1 M2 H1 H2/\P (i+1) ρ2 M2,fun σ2 H2 ⟨ρ2,M2,a,b,c⟩=>⟨ds.length - (i+1),by omega,rfl,hlt,ρ2,M2,a,b,c⟩,fun x H2 y=>?_⟩
     obtain⟨oa2,st2,d,e1,e2⟩:=wd.yld i H' M' x H2 R'.own st hlt y
     refine pt i d ρ' M' e1 p σ' H2 x _ (R'.step oa2 st2) e2 fun ρ3 M3 σ3 H3 R3 st3 b3=>?_
     have s3:=(st.trans st2).trans st3
     exact b3 σ3 H3 _ R3 (fun r m s hh R4 st4 q=>⟨r,m,R4,s3.trans st4,q⟩) (fun w hh x m a b c q=>k2 w hh x m a b (t1.trans (s3.trans c)) q)
       (fun r m s hh R4 st4 q=>k1 r m s hh R4 (t1.trans (s3.trans st4)) q) (fun r m s hh R4 st4 q=>⟨r,m,R4,s3.trans st4,q⟩)
   · have e:i=ds.length:=by omega
     subst e
     exact .inl ⟨wd.stop H' M' R'.own st,k1 ρ' M' σ' H' R' (t1.trans st) (pe ρ' M' p)⟩
def KG (fr:List (Option Nat)) (ρ:List (Option DS)):List (Option DS):=fr.map fun o=>o.bind fun j=>(ρ[j]?).join
theorem JU {fr:List (Option Nat)}{α:Type}{ρ:List (Option α)}{i:Nat}{x:α}(h:(fr.map fun o=>o.bind fun j=>(ρ[j]?).join)[i]?=some (some x)):∃j,fr[i]?=some (some j)/\ρ[j]?=some (some x):=by
 rw[zF] at h
 cases hf:fr[i]? with
 | none=>rw[hf] at h;cases h
 | some o=>
   rw[hf] at h
   cases o with
   | none=>cases h
   | some j=>
     refine⟨j,rfl,?_⟩
     have e2:((ρ[j]?).join)=some x:=Option.some.inj h
     cases hs:ρ[j]? with
     | none=>rw[hs] at e2;cases e2
     | some q=>rw[hs] at e2;cases q with
       | none=>cases e2
       | some v'=>cases e2;rfl
theorem Rel.capt {fr:List (Option Nat)}{σ:St}{H:Hp}(R:Rel K M ρ σ H):Rel K M (KG fr ρ) (L2.capt fr σ) H:=by
 refine⟨R.own,by unfold KG L2.capt;rw[zX,zX],fun i x e=>?_⟩
 obtain⟨j,e1,e2⟩:=JU e
 obtain⟨v,h1,h2⟩:=R.slot j x e2
 refine⟨v,?_,h2⟩
 unfold L2.capt
 rw[zF,e1]
 simp[h1]
theorem U5 {fr:List (Option Nat)}{tt:TT}{te:TE}{T:List Nat}{Q:DS->Own->Prop}(ho:PU g T) (hT:∀i∈T,∀j,fr[i]?≠some (some j))
   (h:DI K wi ρ M fun ds M1=>ds.length < sizeLine/\∀D,M1 D=none->∃P:Nat->List PyData->Own->Prop,P 0 [] (M1.put D (.l []))/\(∀k acc M',P k acc M'->M' D=some (.l acc)/\acc.length<=k) /\
     (∀k d acc M',ds[k]?=some d->P k acc M'->DG K g d (KG fr ρ) M' fun ρ2 M2=>DT K tt ρ2 M2 fun c M3=>if c=true then DE K te ρ2 M3 fun y M4=>∃r,y = .d r/\M4 D=some (.l acc)/\P (k+1) (acc++[r]) (M4.put D (.l (acc++[r]))) else P (k+1) acc M3) /\
     ∀acc M',P ds.length acc M'->Q (.d (.list acc)) (M'.del D)) :
   DE K (SS fr wi g tt te) ρ M Q:=fun σ H QQ R k=>
 h σ H _ R fun J ds H1 M1 o1 t1 wd ⟨hsz,hq⟩=>by
   intro A hA
   obtain⟨P,p0,pa,pt,pe⟩:=hq A (o1.none hA)
   obtain⟨oA,sA⟩:=aT o1 hA (DVs.nil (K:=K) (H:=H1) (W:=M1.W))
   refine⟨fun i m ys H2=>m=ds.length - i/\i<=ds.length/\H2 A=some (.lst ys)/\∃acc M',OA K H2 M'/\Step K M1 M' H1 H2/\P i acc M',⟨_,rfl,xT _,AI,[],_,oA,sA,p0⟩,?_⟩
   rintro i m ys H2 ⟨rfl,hi,hys,acc,M',oa,st,p⟩
   refine⟨hys,?_⟩
   have hs0:∀{N:Own},(N.del A).Sub N:=fun {N} b o q=>by
     unfold Own.del at q
     by_cases hb:b=A
     · rw[if_pos hb] at q;cases q
     · rw[if_neg hb] at q;exact q
   by_cases hlt:i < ds.length
   · refine .inr ⟨wd.go i H2 M' hlt oa st,fun x H3 y=>?_⟩
     obtain⟨oa3,st3,d,e1,e2⟩:=wd.yld i H2 M' x H3 oa st hlt y
     have Rc:Rel K M' (KG fr ρ) (L2.capt fr σ) H3:=((R.step o1 t1).step oa3 (st.trans st3)).capt
     refine ho _ _ _ _ (pt i d acc M' e1 p (L2.capt fr σ) H3 x _ Rc e2 fun ρ3 M3 σ3 H4 R3 st4 b3 hext=>⟨fun i' v' hv'=>?_,?_⟩)
     · obtain⟨j,f1,f2⟩:=JU hv'
       rw[hext i' fun hm=>hT i' hm j f1]
       exact hv'
     · refine b3 σ3 H4 _ R3 fun c H5 M5 o5 st5 h5=>?_
       have sx:=((st.trans st3).trans st4).trans st5
       cases c with
       | false=>
         rw[if_neg nft] at h5 ⊢
         obtain⟨hm,_⟩:=pa _ _ _ h5
         obtain⟨vs,q1,q2⟩:=o5 A _ hm
         exact⟨vs,ds.length - (i+1),by omega,rfl,hlt,q1,acc,M5,o5,sx,h5⟩
       | true=>
         rw[if_pos rfl] at h5 ⊢
         refine h5 σ3 H5 _ (R3.step o5 st5) fun y H6 z M6 o6 s6 st6 h6=>?_
         obtain⟨r,rfl,hm,p'⟩:=h6
         obtain⟨vs,q1,q2⟩:=o6 A _ hm
         obtain⟨w1,w2⟩:=NE o6 hm (q2.append (DVs.cons s6 DVs.nil))
         have hlen:acc.length<=i:=(pa _ _ _ p).2
         exact⟨vs,q1,by rw[q2.length];omega,ds.length - (i+1),by omega,rfl,hlt,AI,_,_,w1,(sx.trans st6).trans w2,p'⟩
   · have e:i=ds.length:=by omega
     subst e
     refine .inl ⟨wd.stop H2 M' oa st,?_⟩
     obtain⟨hm,_⟩:=pa _ _ _ p
     obtain⟨vs,q1,q2⟩:=oa A _ hm
     have hst:Step K M' (M'.del A) H2 H2:=⟨B1 hs0⟩
     refine k _ H2 (.d (.list acc)) (M'.del A) (oa.sub hs0) ?_ ((t1.trans st).trans hst) (pe acc M' p)
     unfold SI DV
     exact⟨A,vs,rfl,.inl ⟨fun w=>w (by unfold Own.del;rw[if_pos rfl]),.inl q1⟩,q2.grow (B1 hs0)⟩
theorem AF {fr:List (Option Nat)}{tt:TT}{te:TE}{T:List Nat}{Q:DS->Own->Prop}(ho:PU g T) (hT:∀i∈T,∀j,fr[i]?≠some (some j))
   (h:DI K wi ρ M fun ds M1=>ds.length < sizeLine/\∃(c:PyData->Bool) (f:PyData->PyData),(∀d∈ds,∀M',DG K g d (KG fr ρ) M' fun ρ2 M2=>M2=M'/\DT K tt ρ2 M2 fun b M3=>M3=M'/\b=c d/\(c d=true->DE K te ρ2 M3 fun y M4=>y = .d (f d)/\M4=M'))/\Q (.d (.list ((ds.filter c).map f))) M1) :
   DE K (SS fr wi g tt te) ρ M Q:=by
 refine U5 ho hT fun σ H R Rl k=>h σ H R Rl fun J ds H1 M1 o1 t1 wd q=>k J ds H1 M1 o1 t1 wd ?_
 obtain⟨hsz,c,f,he,q⟩:=q
 refine⟨hsz,fun A hA=>⟨fun k acc M'=>acc=((ds.take k).filter c).map f/\M'=M1.put A (.l acc),⟨by simp,rfl⟩,fun k acc M' ⟨e1,e2⟩=>⟨by rw[e2];exact zU,?_⟩,fun k d acc M' hd ⟨e1,e2⟩=>?_,fun acc M' ⟨e1,e2⟩=>?_⟩⟩
 · rw[e1,zX]
   exact zN (yJ _ _) (by rw[a1Q];omega)
 · have hm:d∈ds:=yN hd
   intro σ H v QQ R dv kk
   refine he d hm M' σ H v QQ R dv fun ρ' M2 σ' H' R' st ⟨eM,q2⟩=>kk ρ' M2 σ' H' R' st fun σ2 H2 QQ2 R2 k2=>?_
   refine q2 σ2 H2 QQ2 R2 fun b H3 M3 o3 st3 ⟨eM3,eb,q3⟩=>k2 b H3 M3 o3 st3 ?_
   have ts:(ds.take (k+1)).filter c=(ds.take k).filter c++(if c d then [d] else []):=take_succ_filter c ds k d hd
   cases hb:c d with
   | false=>
     rw[hb] at eb
     subst eb
     refine L2.m8 ⟨?_,by rw[eM3,e2]⟩
     rw[ts,hb,e1];simp
   | true=>
     rw[hb] at eb
     subst eb
     refine L2.m9 ?_
     refine aU (q3 hb) fun y M4 ⟨ey,e4⟩=>⟨f d,ey,by rw[e4,e2];exact zU,?_,by rw[e4,e2,yI]⟩
     rw[ts,hb,e1];simp
 · rw[e2,yG hA,e1,a6K]
   exact q
end
def PV (N:List Str) (xs:List DS):List (Option DS):=xs.map some++a4Z (N.length - xs.length) none
section
variable {P:Program}{w:World}{K:Frg}{mg:Str->Option Value}{base:Heap}
theorem SIs.get {M:Own}{H:Hp}:∀{xs:List DS}{vs:List V}{i:Nat}{x:DS},SIs K H M xs vs->xs[i]?=some x->∃v,vs[i]?=some v/\SI K H M x v
 | [],_,_,_,_,e=>by simp at e
 | d::ds,vs,i,x,⟨v,r,e',h1,h2⟩,e=>by
   subst e'
   cases i with
   | zero=>simp at e;subst e;exact⟨v,rfl,h1⟩
   | succ i=>simpa using SIs.get h2 (by simpa using e)
theorem SV {M:Own}{H:Hp}{N:List Str}{xs:List DS}{vs:List V}(oa:OA K H M) (h:SIs K H M xs vs):Rel K M (PV N xs) (L2.G6 N vs) H:=by
 have hl:=h.length
 refine⟨oa,by unfold PV L2.G6;simp[hl],fun i x e=>?_⟩
 unfold PV at e
 by_cases hi:i < xs.length
 · rw[yQ (by simpa using hi),zF] at e
   cases q:xs[i]? with
   | none=>rw[q] at e;cases e
   | some y=>
     rw[q] at e
     cases e
     obtain⟨v,h1,h2⟩:=h.get q
     refine⟨v,?_,h2⟩
     unfold L2.G6
     rw[yQ (by rw[zX,hl];exact hi),zF,h1]
     rfl
 · rw[yP (by simpa using hi),List.getElem?_replicate] at e
   split at e <;> cases e
theorem fnD {x qual:Str}{st:Stmt}{f:Addr}{fd:FuncData}{N ps:List Str}{k:Nat}{S:FSp}(F:Fun K x qual st f fd) (Sc:FnScope N ps (AB st))
   (hbody:∀(cdv:Value) (A:Around) (outer:List Env) (s:Shared) (H:Hp) (E:XK),Room k (A.deeper (PyProof.Rows.envOfC qual (AB st) s.heap.objs.size f cdv)) ->
     ∃t,PSs (LO CX0 P w K mg base N qual (AB st) f cdv A outer s H E).nox (BZ st) t/\∀xs M,xs.length=ps.length->S.pre xs M->DSt K t (PV N xs) M { nx:=fun _ M1=>∃M2:Own,M2.Sub M1/\S.post xs M (.d .none) M2,rt:=fun y M1=>∃M2:Own,M2.Sub M1/\S.post xs M y M2 }) :
   FnOk P w K mg base CX0 (k+1) f fd ps (spD K ps.length S):=by
 refine F.ok Sc aV fun cdv A outer s H vs Q E hr h=>?_
 obtain⟨t,ht,hq⟩:=hbody cdv A outer s H E hr
 obtain⟨xs,M,hl,oa,si,pre,post⟩:=h
 refine⟨t,ht,hq xs M hl pre (L2.G6 N vs) H _ (SV oa si) ?_ ?_ (fun _ _ _ _ _ _ z=>z.elim) (fun _ _ _ _ _ _ z=>z.elim)⟩
 · rintro ρ' M1 σ' H' R st ⟨M2,hs,p⟩
   exact post (.d .none) M2 .non H' p (st.trans ⟨B1 hs⟩) (R.own.sub hs) (by unfold SI DV;rfl)
 · rintro v H' y M1 o s1 st ⟨M2,hs,p⟩
   exact post y M2 v H' p (st.trans ⟨B1 hs⟩) (o.sub hs) (s1.sub hs)
end
end DL
namespace L2
open PySem PySem.Spec PyProof.Rows
section
variable {X:Cx}{tg:Expr}
def W0 (K:Frg):R2:=fun x y H Q=>(rI0 fun i j=>.int (i+j)) x y H Q∨((∃i j,x = .str i/\y = .str j/\i.length+j.length<=sizeLine/\Q (.str (i++j)) H)∨pO K x y H Q)
theorem mT:OpR X (binaryOp .Add) (W0 X.K):=rE.or (YI.or mG)
def cW (K:Frg):R2:=fun x y H Q=>lZ K x y H Q∨(rS K x y H Q∨rT x y H Q)
theorem tD:IxR X (cW X.K):=m4.or (rV.or rW)
def mU (K:Frg):V->Option Int->Option Int->Hp->VK->Prop:=fun x lo hi H Q=>rX K x lo hi H Q∨sG x lo hi H Q
theorem tE:SlR X (mU X.K):=m5.or sH
def vU:R2:=fun x y H Q=>(rI0 fun i j=>.bl (decide (i < j))) x y H Q∨∃i j,x = .str i/\y = .str j/\Q (.bl (decide (i.cps.toList < j.cps.toList))) H
theorem gV:OpR X (compareOp .Lt) vU:=v6.or cK
def mV (K:Frg):R2:=fun x y H Q=>(∃i j,x = .str i/\y = .str j/\Q (.bl (!(Builtin.Str.occurrences j i 0 j.length 1).isEmpty)) H)∨rIn K false x y H Q
theorem tF:OpR X (compareOp .In) (mV X.K):=cL.or cQ
def mW (K:Frg) (tl:TE):TI:=fun σ H R=>tl σ H fun x H1=>(∃a,x = .ref a/\(∃xs,SqL K H1 a xs)/\R (Itl K a) H1)∨(∃a,x = .ref a/\(∃xs,SqT K H1 a xs)/\R (Itt K a) H1)∨∃y,x = .str y/\R (Its y) H1
theorem tG {l:Expr}{tl:TE}(hl:PE X l tl):PI X tg l (mW X.K tl):=by
 intro pins s σ H R I h
 refine thn (hl pins s σ H _ I h) fun v s1 ⟨x,H1,I1,r1,q1⟩=>?_
 have fp:∀b∈[s1.heap.objs.size],L1 X pins H1 b:=fun b hb=>by
   have e:b=s1.heap.objs.size:=by simpa using hb
   subst e
   exact I1.fpOk (zR _) (I1.hok.fresh (zR _))
 rcases q1 with ⟨a,e,⟨xs,hq⟩,q⟩ | ⟨a,e,⟨xs,hq⟩,q⟩ | ⟨y,e,q⟩
 · subst e
   cases r1
   obtain⟨its,rv,p,hz⟩:=I1.list hq
   refine wpAny_pyIter_list p.isList ?_
   exact⟨s1.heap.objs.size,[s1.heap.objs.size],_,_,H1,rfl,I1.kept (t':=s1.toks) fun b o e=>zW _ e,cG a _,⟨_,yZ _ rfl,rfl,rfl⟩,fp,q⟩
 · subst e
   cases r1
   obtain⟨its,rv,p,hz⟩:=I1.tuple hq
   refine wpAny_pyIter_tuple (show s1.heap.IsTuple a its.toArray from p) ?_
   exact⟨s1.heap.objs.size,[s1.heap.objs.size],_,_,H1,rfl,I1.kept (t':=s1.toks) fun b o e=>zW _ e,YG a _,⟨_,yZ _ rfl,rfl,rfl⟩,fp,q⟩
 · subst e
   obtain⟨t,rfl⟩:=r1
   cases ha:y.cps.all (· < 128)
   · exact wpAny_pyIter_wide ha ⟨s1.heap.objs.size,[s1.heap.objs.size],_,_,H1,rfl,I1.kept (t':=s1.toks) fun b o e=>zW _ e,
       VY s1.heap.objs.size "str_iterator" y t (by decide) (fun A hA=>Walks.strWide hA _ y t) (fun _ _ _ _ _ st h=>wpAny_pyIter_striter_wide st h),⟨_,yZ _ rfl,rfl,rfl⟩,fp,q⟩
   · exact wpAny_pyIter_ascii ha ⟨s1.heap.objs.size,[s1.heap.objs.size],_,_,H1,rfl,I1.kept (t':=s1.toks) fun b o e=>zW _ e,
       VY s1.heap.objs.size "str_ascii_iterator" y t (by decide) (fun A hA=>Walks.strAscii hA _ y t) (fun _ _ _ _ _ st h=>wpAny_pyIter_striter_ascii st h),⟨_,yZ _ rfl,rfl,rfl⟩,fp,q⟩
end
def gW:NameKind->Bool | .free=>true | _=>false
def gX:NameKind->Bool | .cell=>true | _=>false
def aZ:NameKind->Bool | .local=>true | _=>false
def gY (osc:Scope) (ON:List Str) (scope:Scope) (NC:List Str) (fr:List (Option Nat)):Bool:=
 (match scope.kind with | .function=>true | _=>false)&&scope.names.all (fun y=>!gX y.2) &&
 scope.names.all (fun y=>!aZ y.2||(match scope.names.lookup y.1 with | some .local=>true | _=>false)) &&
 scope.names.all (fun y=>!gW y.2||(match osc.names.lookup y.1 with | some .cell=>true | some .free=>true | _=>false)) &&
 fr.length==NC.length &&
 (a0V NC.length).all fun i=>match fr[i]?,NC[i]? with
   | some (some j),some x=>ON[j]?==some x&&(match scope.names.lookup x with | some .free=>true | _=>false)&&(match osc.names.lookup x with | some .cell=>true | some .free=>true | _=>false)
   | _,_=>true
theorem CSc.of {X:Cx}{scope:Scope}{NC:List Str}{fr:List (Option Nat)}{osc:Scope}{ON:List Str}(h:gY osc ON scope NC fr=true) (e:X.env.scope=osc) (eN:X.N=ON):CSc X scope NC fr:=by
 subst e eN
 unfold gY at h
 simp only[a1J,List.all_eq_true,List.mem_range,beq_iff_eq] at h
 obtain⟨⟨⟨⟨⟨h1,h2⟩,h3⟩,h4⟩,h5⟩,h6⟩:=h
 refine⟨?_,fun y hy e=>?_,fun y hy e=>?_,fun y hy e=>?_,h5,fun i j x e1 e2=>?_⟩
 · cases hk:scope.kind <;> rw[hk] at h1 <;> simp at h1 ⊢
 · have:=h2 y hy;rw[e] at this;simp[gX] at this
 · have:=h3 y hy
   rw[e] at this
   simp only[aZ,Bool.not_true,c0X] at this
   cases hl:scope.names.lookup y.1 with
   | none=>rw[hl] at this;cases this
   | some k=>rw[hl] at this;cases k <;> first | rfl | cases this
 · have:=h4 y hy
   rw[e] at this
   simp only[gW,Bool.not_true,c0X] at this
   cases hl:X.env.scope.names.lookup y.1 with
   | none=>rw[hl] at this;cases this
   | some k=>
     rw[hl] at this
     cases k <;> first
       | exact .inl hl
       | exact .inr hl
       | cases this
 · have hi:i < NC.length:=(yT.mp e1).1
   have:=h6 i hi
   rw[e1,e2] at this
   simp only[a1J,beq_iff_eq] at this
   obtain⟨⟨q1,q2⟩,q3⟩:=this
   refine⟨q1,?_,?_⟩
   · cases hl:scope.names.lookup x with
     | none=>rw[hl] at q2;cases q2
     | some k=>rw[hl] at q2;cases k <;> first | rfl | cases q2
   · cases hl:X.env.scope.names.lookup x with
     | none=>rw[hl] at q3;cases q3
     | some k=>
       rw[hl] at q3
       cases k <;> first
         | exact⟨.inr (.inl hl),fun z=>by have z':X.env.scope.names.lookup x=some .local:=z;rw[hl] at z';cases z'⟩
         | exact⟨.inr (.inr hl),fun z=>by have z':X.env.scope.names.lookup x=some .local:=z;rw[hl] at z';cases z'⟩
         | cases q3
end L2
namespace DL
open PySem PySem.Spec L2
section
variable {K:Frg}{ρ:List (Option DS)}{M:Own}{Q:DS->Own->Prop}{H:Hp}{QI:List PyData->Own->Prop}{tl ta tb:TE}
theorem gZ {i j:Int}(q:Q (.d (.int (i+j))) M):D2 K (W0 K) (.d (.int i)) (.d (.int j)) M Q:=FQ (vQ q)
theorem h7 {i j:Str}(hz:i.length+j.length<=sizeLine) (q:Q (.d (.str (i++j))) M):D2 K (W0 K) (.d (.str i)) (.d (.str j)) M Q:=HM (FQ (mN hz q))
theorem h8 {a b:List PyData}(hz:a.length+b.length<=sizeLine) (q:Q (.d (.list (a++b))) M):D2 K (W0 K) (.d (.list a)) (.d (.list b)) M Q:=HM (HM (t7 hz q))
theorem D9 {ds:List PyData}{i:Int}{d:PyData}(e:atI ds i=some d) (q:Q (.d d) M):D2 K (cW K) (.d (.list ds)) (.d (.int i)) M Q:=FQ (sW e q)
theorem mX {a:Addr}{ds:List PyData}{i:Int}{d:PyData}(m:M a=some (.l ds)) (e:atI ds i=some d) (q:Q (.d d) M):D2 K (cW K) (.loc a) (.d (.int i)) M Q:=FQ (sZ m e q)
theorem AA {ds:List PyData}{i:Int}{d:PyData}(e:atI ds i=some d) (q:Q (.d d) M):D2 K (cW K) (.d (.tuple ds)) (.d (.int i)) M Q:=HM (FQ (sY e q))
theorem U6 {z:Str}{i:Int}{c:Nat}(hz:z.length<=sizeLine) (e:atI z.cps.toList i=some c) (q:Q (.d (.str ⟨#[c]⟩)) M):D2 K (cW K) (.d (.str z)) (.d (.int i)) M Q:=HM (HM (t0 hz e q))
theorem h9 {z:Str}{lo hi:Option Int}(hz:z.length<=sizeLine) (q:Q (.d (.str (a1X z lo hi))) M):DSl K (mU K) (.d (.str z)) lo hi M Q:=fun H v QQ oa s1 k=>.inr (mR hz q H v QQ oa s1 k)
theorem cX {ds:List PyData}{lo hi:Option Int}(q:Q (.d (.list (E9 ds lo hi))) M):DSl K (mU K) (.d (.list ds)) lo hi M Q:=fun H v QQ oa s1 k=>.inl (gU q H v QQ oa s1 k)
theorem mY {i j:Int}(q:Q (.d (.bool (decide (i < j)))) M):D2 K vU (.d (.int i)) (.d (.int j)) M Q:=FQ (vR q)
theorem HQ {x:Str}{ys:List Str}(q:Q (.d (.bool (decide (x∈ys)))) M):D2 K (mV K) (.d (.str x)) (.d (.list (ys.map .str))) M Q:=HM (sV (neg:=false) q)
theorem AW (h:DE K tl ρ M fun x M1=>∃ds,x = .d (.list ds)/\QI ds M1):DI K (mW K tl) ρ M QI:=fun σ H R Rl k=>
 h σ H _ Rl fun v H1 x M1 o1 s1 t1 ⟨ds,e,q⟩=>by
   subst e
   unfold SI DV at s1
   obtain⟨a,vs,rfl,hl,hd⟩:=s1
   refine .inl ⟨a,rfl,⟨vs,hl.sq⟩,k _ ds H1 M1 o1 t1 ⟨fun i H' M' hi oa st=>?_,fun H' M' oa st=>?_,fun i H' M' x H2 oa st hi y=>?_⟩ q⟩
   · exact⟨vs,vs[i]'(by rw[hd.length];exact hi),(hl.grow st.grow).sq,by simp[hd.length,hi]⟩
   · exact⟨vs,(hl.grow st.grow).sq,by rw[hd.length];exact zR _⟩
   · obtain⟨rfl,y⟩:=y
     obtain⟨d,e1,e2⟩:=hd.get (y vs (hl.grow st.grow).sq)
     exact⟨oa,Step.refl,d,e1,e2.grow st.grow⟩
theorem C0 (h:DE K tl ρ M fun x M1=>∃ds,x = .d (.tuple ds)/\QI ds M1):DI K (mW K tl) ρ M QI:=fun σ H R Rl k=>
 h σ H _ Rl fun v H1 x M1 o1 s1 t1 ⟨ds,e,q⟩=>by
   subst e
   unfold SI DV at s1
   obtain⟨a,vs,rfl,hl,hd⟩:=s1
   refine .inr (.inl ⟨a,rfl,⟨vs,hl.sq⟩,k _ ds H1 M1 o1 t1 ⟨fun i H' M' hi oa st=>?_,fun H' M' oa st=>?_,fun i H' M' x H2 oa st hi y=>?_⟩ q⟩)
   · exact⟨vs,vs[i]'(by rw[hd.length];exact hi),(hl.grow st.grow).sq,by simp[hd.length,hi]⟩
   · exact⟨vs,(hl.grow st.grow).sq,by rw[hd.length];exact zR _⟩
   · obtain⟨rfl,y⟩:=y
     obtain⟨d,e1,e2⟩:=hd.get (y vs (hl.grow st.grow).sq)
     exact⟨oa,Step.refl,d,e1,e2.grow st.grow⟩
def tyD:PyData->String
 | .none => "NoneType"
 | .bool _ => "bool"
 | .int _ => "int"
 | .str _ => "str"
 | .list _ => "list"
 | .tuple _ => "tuple"
 | .dict _ => "dict"
end
end DL
namespace L2
open PySem PySem.Spec PyProof.Rows
section
variable {X:Cx}
def hU (K:Frg):List V->Hp->VK->Prop:=fun xs H Q=>∃(x:V) (T:String) (d:PyData) (W:Addr->Prop) (b:Bool),xs=[x,.ty T]/\DV K H W d x/\PySem.W.kitOne K (.type (DL.tyD d)) (.type T)=some b/\Q (.bl b) H
theorem cY:BM X (.builtin "isinstance") (hU X.K):=by
 intro pins s σ H xs us Q I r h
 obtain⟨x,T,d,W,b,rfl,dv,e,q⟩:=h
 obtain⟨u,u',rfl,ru,ru'⟩:=pI r
 cases ru'
 have fin:∀tk,EP X pins σ Q (.bool b) { s with toks:=tk }:=fun tk=>⟨.bl b,H,I.tok _,rfl,q⟩
 cases d with
 | none=>unfold DV at dv;subst dv;exact GW I ru (TyOf.non) e fin
 | bool y=>unfold DV at dv;subst dv;exact GW I ru (TyOf.bl _) e fin
 | int i=>unfold DV at dv;subst dv;exact GW I ru (TyOf.int _) e fin
 | str y=>unfold DV at dv;subst dv;exact GW I ru (TyOf.str _) e fin
 | list ds=>
   unfold DV at dv
   obtain⟨a,vs,rfl,hl,_⟩:=dv
   cases ru
   obtain⟨its,rv,⟨o,n,h1,h2,_,_⟩,_⟩:=I.list hl.sq
   exact a2V PySem.W.kitx_list I.kIn ⟨o,h1,h2⟩ e (fun z=>nomatch z) fin
 | tuple ds=>
   unfold DV at dv
   obtain⟨a,vs,rfl,hl,_⟩:=dv
   cases ru
   obtain⟨its,rv,⟨o,h1,h2,_⟩,_⟩:=I.tuple hl.sq
   exact a2V PySem.W.kitx_tuple I.kIn ⟨o,h1,h2⟩ e (fun z=>nomatch z) fin
 | dict kvs=>
   unfold DV at dv
   obtain⟨a,vs,rfl,_,hl,_⟩:=dv
   rcases hl with hl | ⟨o',hl⟩
   · exact GW I ru (TyOf.dK hl) e fin
   · cases ru
     obtain⟨_,_,vs',_,dd⟩:=KC I.hok (.inr ⟨o',hl⟩)
     exact a2V PySem.W.kitx_dict I.kIn dd.typeIs e (fun z=>nomatch z) fin
end
end L2
namespace DL
open PySem PySem.Spec L2
section
variable {K:Frg}{ρ:List (Option DS)}{M:Own}{Q:DS->Own->Prop}{H:Hp}{ta tb:TE}
theorem hW {d:PyData}{T:String}{b:Bool}(e:PySem.W.kitOne K (.type (tyD d)) (.type T)=some b) (q:Q (.d (.bool b)) M):DR K (hU K) [.d d,.ty T] M Q:=fun H vs QQ oa s k=>by
 obtain⟨v,r,rfl,h1,v2,r2,rfl,h2,h3⟩:=s
 cases h3
 rw[show v2 = .ty T from h2]
 exact⟨v,T,d,M.W,b,rfl,h1,e,k _ H _ M oa AK Step.refl q⟩
theorem LS {p:Addr}{ks:List (Key×V)}{kvs:List (PyData×PyData)}(oa:OA K H M) (h:H p=b8K) (hd:DKV K H M.W kvs ks) :
   OA K (upd H p (.dK ks)) (M.put p (.d kvs))/\Step K M (M.put p (.d kvs)) H (upd H p (.dK ks)):=by
 have hM:=oa.none h
 have g:Grow K M.W (M.put p (.d kvs)).W H (upd H p (.dK ks)):=⟨fun b u e _=>.inl (by rw[AJ (B2 e h)];exact e),fun b w=>by
   by_cases hb:b=p
   · subst hb;exact .inr h
   · left;unfold Own.W at w ⊢;rw[yH hb] at w;exact w⟩
 refine⟨fun a o e=>?_,⟨g⟩⟩
 by_cases ha:a=p
 · subst ha;rw[zU] at e;cases e;exact⟨ks,AI,hd.grow g⟩
 · rw[yH ha] at e
   have q:=oa a o e
   cases o with
   | l ds=>obtain⟨vs,q1,q2⟩:=q;exact⟨vs,by rw[AJ ha];exact q1,q2.grow g⟩
   | d kvs=>obtain⟨vs,q1,q2⟩:=q;exact⟨vs,by rw[AJ ha];exact q1,q2.grow g⟩
   | x C fs=>obtain⟨vs,q1,q2⟩:=q;exact⟨vs,by rw[AJ ha];exact q1,q2.grow g⟩
theorem FR {p:Addr}{ks:List (Key×V)}{kvs:List (PyData×PyData)}{o:MO}(oa:OA K H M) (h:M p=some o) (hd:DKV K H M.W kvs ks) :
   OA K (upd H p (.dK ks)) (M.put p (.d kvs))/\Step K M (M.put p (.d kvs)) H (upd H p (.dK ks)):=by
 have hw:∀b,(M.put p (.d kvs)).W b->M.W b:=fun b w=>by
   unfold Own.W at w ⊢
   by_cases hb:b=p
   · subst hb;rw[h];simp
   · rw[yH hb] at w;exact w
 have g:Grow K M.W (M.put p (.d kvs)).W H (upd H p (.dK ks)):=⟨fun b u e nw=>.inl (by
   rw[AJ (by rintro rfl;exact nw (by unfold Own.W;rw[h];simp))];exact e),fun b w=>.inl (hw b w)⟩
 refine⟨fun a o e=>?_,⟨g⟩⟩
 by_cases ha:a=p
 · subst ha;rw[zU] at e;cases e;exact⟨ks,AI,hd.grow g⟩
 · rw[yH ha] at e
   have q:=oa a o e
   cases o with
   | l ds=>obtain⟨vs,q1,q2⟩:=q;exact⟨vs,by rw[AJ ha];exact q1,q2.grow g⟩
   | d kvs=>obtain⟨vs,q1,q2⟩:=q;exact⟨vs,by rw[AJ ha];exact q1,q2.grow g⟩
   | x C fs=>obtain⟨vs,q1,q2⟩:=q;exact⟨vs,by rw[AJ ha];exact q1,q2.grow g⟩
end
structure Has (P:Program) (w:World) (K:Frg) (mg:Str->Option Value) (base:Heap) (x:Str) (k:Nat) (ps:List Str) (S:FSp):Prop where
 ex:∃f fd,FnOk P w K mg base CX0 k f fd ps (spD K ps.length S)/\mg x=some (.ref f)/\a5Q K (.ref f)=true/\Binds K fd ps []
theorem hX {X:Cx}{x:Str}{k:Nat}{ps:List Str}{S:FSp}{e:Expr}{es:List Expr}{t:TA}{p pos:Pos}(h:Has X.prog X.w X.K X.mg X.base x k ps S) (hr:Room k X.A) (hg:Gl X x) (ha:PA X (e::es) t)
   (hdb:(x==("__debug__":Str))=false:=by decide) (he:starEach (e::es) X.env=(false,eval e X.env)::starEach es X.env:=by rfl) (hpl:(backTo pos (starEach es X.env)).any (·.1)=false:=by rfl) :
   PE X (.Call (.Name x p) (e::es) [] pos) (aK (spD X.K ps.length S) [] E0 t):=by
 obtain⟨f,fd,F,hm,hk,hb⟩:=h.ex
 exact lV F hr hg hm hk hb .nil vE ha hdb he hpl
section
variable {X:Cx}{K:Frg}
theorem kIx (h:X.K=K):IxR X (cW K):=h▸tD
theorem kIn (h:X.K=K):OpR X (compareOp .In) (mV K):=h▸tF
theorem kEq (h:X.K=K) (hu:X.A.units+64 < cLine):OpR X (compareOp .Eq) (cV K false):=h▸sI hu
theorem kNe (h:X.K=K) (hu:X.A.units+64 < cLine):OpR X (compareOp .NotEq) (cV K true):=h▸sJ hu
def tH (K:Frg):List V->Hp->VK->Prop:=fun xs H Q=>∃x n,xs=[x]/\lR K x H n/\Q (.int (n:Nat)) H
def pR (K:Frg):List V->Hp->VK->Prop:=fun xs H Q=>∃(p:Addr) (bs:List Bool),xs=[.ref p]/\SqL K H p (bs.map V.bl)/\Q (.bl (bs.all id)) H
def pS (K:Frg):List V->Hp->VK->Prop:=fun xs H Q=>∃(p:Addr) (bs:List Bool),xs=[.ref p]/\SqL K H p (bs.map V.bl)/\Q (.bl (bs.any id)) H
theorem x9 (h:X.K=K):BM X (.builtin "len") (tH K):=h▸fZ
theorem xA (h:X.K=K) (hc:X.calm=true):BM X (.builtin "all") (pR K):=h▸gK hc
theorem xB (h:X.K=K) (hc:X.calm=true):BM X (.builtin "any") (pS K):=h▸gL hc
theorem xC (h:X.K=K):BM X (.builtin "isinstance") (hU K):=h▸cY
theorem vV {tg l:Expr}{tl:TE}(h:X.K=K) (hl:PE X l tl):PI X tg l (mW K tl):=h▸tG hl
theorem pT {P:Program}{w:World}{mg:Str->Option Value}{base:Heap}{x:Str}{k:Nat}{ps:List Str}{S:FSp}{e:Expr}{es:List Expr}{t:TA}{p pos:Pos}(hK:X.K=K) (hP:X.prog=P) (hw:X.w=w) (hmg:X.mg=mg) (hbs:X.base=base)
   (h:Has P w K mg base x k ps S) (hr:Room k X.A) (hg:Gl X x) (ha:PA X (e::es) t)
   (hdb:(x==("__debug__":Str))=false:=by decide) (he:starEach (e::es) X.env=(false,eval e X.env)::starEach es X.env:=by rfl) (hpl:(backTo pos (starEach es X.env)).any (·.1)=false:=by rfl) :
   PE X (.Call (.Name x p) (e::es) [] pos) (aK (spD K ps.length S) [] E0 t):=by
 subst hK hP hw hmg hbs
 exact hX h hr hg ha hdb he hpl
variable {o e:Expr}{es:List Expr}{to:TE}{t:TA}{name:Str}{apos cpos:Pos}{T id:String}{r:V->List V->Hp->VK->Prop}
theorem kBm (h:X.K=K) (pa:PlainAttrs T) (slot:Slot T name id) (hty:typeOf (.builtin id)=pure (.type "method_descriptor")) (hm:MtR X id r) (ho:PE X o to) (ha:PA X (e::es) t)
   (hbase:attributeBase o name X.env (eval o X.env)=eval o X.env:=by rfl)
   (hfew:((backTo cpos (starEach (e::es) X.env)).all (fun x=>!x.1)&&(backToKw cpos (keywordEach [] X.env)).all (fun x=>x.1.isSome)
     && decide ((e::es).length+([]:List Keyword).length+(if ([]:List Keyword).isEmpty then 0 else 1) < 30))=true:=by rfl)
   (hline:(apos.endLine==cpos.line)=true:=by rfl) (hs:starEach (e::es) X.env=(false,eval e X.env)::starEach es X.env:=by rfl) (hplain:(backTo cpos (starEach es X.env)).any (·.1)=false:=by rfl) :
   PE X (.Call (.Attribute o name apos) (e::es) [] cpos) (tBM K T r to t):=h▸vA pa slot hty hm ho ha hbase hfew hline hs hplain
end
section
variable {K:Frg}{M:Own}{Q:DS->Own->Prop}
theorem U7 {ds:List PyData}(q:Q (.d (.int ds.length)) M):DR K (tH K) [.d (.list ds)] M Q:=mO q
theorem DC {ds:List PyData}(q:Q (.d (.int ds.length)) M):DR K (tH K) [.d (.tuple ds)] M Q:=mP q
theorem tI {bs:List Bool}(q:Q (.d (.bool (bs.all id))) M):DR K (pR K) [.d (.list (bs.map .bool))] M Q:=t8 q
theorem U8 {bs:List Bool}(q:Q (.d (.bool (bs.any id))) M):DR K (pS K) [.d (.list (bs.map .bool))] M Q:=t9 q
end
end DL
namespace L2
open PySem PySem.Spec PyProof.Rows
section
variable {X:Cx}
theorem i5:∀{its:List Value}{ss:List Str},StrsAre its ss->Vals (ss.map V.str) its
 | _,_,.nil=>.nil
 | _,_,.cons y t r=>.cons ⟨t,rfl⟩ (i5 r)
def i6 (K:Frg):List V->Hp->VK->Prop:=fun xs H Q=>∃(p:Addr) (ss:List Str),xs=[.ref p]/\SqL K H p (ss.map V.str)/\ss.length < 64/\∀(ss':List Str) (q:Addr),ss'.Perm ss->sortedS ss'=true->H q=none->Q (.ref q) (upd H q (.lst (ss'.map V.str)))
theorem YU:BM X (.builtin "sorted") (i6 X.K):=by
 intro pins s σ H xs us Q I r h
 obtain⟨p,ss,rfl,hp,h64,q⟩:=h
 obtain⟨u,rfl,ru⟩:=F4 r
 cases ru
 obtain⟨its,rv,pl,hz⟩:=I.list hp
 have hS:=aS rv
 have el:=rv.length
 rw[zX] at el
 refine sorted_strs pl.isList hS (by omega) fun out ss' h1 h2 h3=>?_
 obtain⟨e,he⟩:=sortedAll_at s.heap its out
 have hn:H (s.heap.objs.size+1)=none:=I.hok.fresh (b0Q _)
 have hlen:=h2.length_eq
 refine⟨.ref (s.heap.objs.size+1),_,I.laid (t':=s.toks) (o:=.lst (ss'.map V.str)) (fun b o eb=>sortedAll_old eb) (b0Q _) ?_,rfl,q ss' _ h2 h3 hn⟩
 refine⟨by rw[zX,hlen];exact zN (xR h64) (by decide),out.toList,e,i5 h1,?_⟩
 have he':=he
 simpa [seqObj] using he'
end
end L2
namespace DL
open PySem PySem.Spec L2
section
variable {X:Cx}{K:Frg}
def W1 (K:Frg):List V->Hp->VK->Prop:=fun xs H Q=>∃p ys,xs=[.ref p]/\((SqL K H p ys/\∀l,H l=none->Q (.ref l) (upd H l (.tup ys)))∨(SqT K H p ys/\Q (.ref p) H))
theorem tJ (h:X.K=K):BM X (.type "tuple") (W1 K):=h▸RQ
def U9 (K:Frg):List V->Hp->VK->Prop:=fun xs H Q=>∃p ys,xs=[.ref p]/\(SqL K H p ys∨SqT K H p ys)/\∀l,H l=none->Q (.ref l) (upd H l (.lst ys))
theorem pU (h:X.K=K):BM X (.type "list") (U9 K):=h▸TV
end
section
variable {K:Frg}{M:Own}{Q:DS->Own->Prop}{ρ:List (Option DS)}{H:Hp}
theorem EI {ds:List PyData}(q:Q (.d (.tuple ds)) M):DR K (W1 K) [.d (.list ds)] M Q:=fun H vs QQ oa s k=>by
 obtain⟨v,r,rfl,h1,h2⟩:=s
 cases h2
 unfold SI DV at h1
 obtain⟨a,vs,rfl,hl,hd⟩:=h1
 refine⟨a,vs,rfl,.inl ⟨hl.sq,fun p hp=>?_⟩⟩
 have g:Grow K M.W M.W H (upd H p (.tup vs)):=AY _ hp
 refine k _ _ (.d (.tuple ds)) M (oa.new hp) ?_ ⟨g⟩ q
 unfold SI DV
 exact⟨p,vs,rfl,.inl ⟨fun w=>w (oa.none hp),.inl AI⟩,hd.grow g⟩
theorem LT {ds:List PyData}(q:Q (.d (.list ds)) M):DR K (U9 K) [.d (.tuple ds)] M Q:=fun H vs QQ oa s k=>by
 obtain⟨v,r,rfl,h1,h2⟩:=s
 cases h2
 unfold SI DV at h1
 obtain⟨a,vs,rfl,hl,hd⟩:=h1
 refine⟨a,vs,rfl,.inr hl.sq,fun p hp=>?_⟩
 have g:Grow K M.W M.W H (upd H p (.lst vs)):=AY _ hp
 refine k _ _ (.d (.list ds)) M (oa.new hp) ?_ ⟨g⟩ q
 unfold SI DV
 exact⟨p,vs,rfl,.inl ⟨fun w=>w (oa.none hp),.inl AI⟩,hd.grow g⟩
def BI:PyData->Bool | .none=>true | _=>false
theorem tK {d:PyData}(q:Q (.d (.bool (BI d))) M):D2 K (fun x y H Q=>y = .non/\Q (.bl (decide (x = .non))) H) (.d d) (.d .none) M Q:=fun H v u QQ oa s1 s2 k=>by
 refine⟨gT s2,k _ H (.d (.bool (BI d))) M oa ?_ Step.refl q⟩
 cases d <;> unfold SI DV at s1
 · rw[s1];exact AK
 · rw[s1];exact AK
 · rw[s1];exact AK
 · rw[s1];exact AK
 · obtain⟨a,_,rfl,_⟩:=s1;exact AK
 · obtain⟨a,_,rfl,_⟩:=s1;exact AK
 · obtain⟨a,_,rfl,_⟩:=s1;exact AK
theorem mZ {d:PyData}(q:Q (.d (.bool (!BI d))) M):D2 K (fun x y H Q=>y = .non/\Q (.bl (!decide (x = .non))) H) (.d d) (.d .none) M Q:=fun H v u QQ oa s1 s2 k=>by
 refine⟨gT s2,k _ H (.d (.bool (!BI d))) M oa ?_ Step.refl q⟩
 cases d <;> unfold SI DV at s1
 · rw[s1];exact AK
 · rw[s1];exact AK
 · rw[s1];exact AK
 · rw[s1];exact AK
 · obtain⟨a,_,rfl,_⟩:=s1;exact AK
 · obtain⟨a,_,rfl,_⟩:=s1;exact AK
 · obtain⟨a,_,rfl,_⟩:=s1;exact AK
end
def DGs (K:Frg) (g:TGs) (ds:List PyData) (ρ:List (Option DS)) (M:Own) (P:List (Option DS)->Own->Prop):Prop:=
 ∀(σ:St) (H:Hp) (vs:List V) (QQ:St->Hp->Prop),Rel K M ρ σ H->DVs K H M.W ds vs->(∀ρ' M' σ' H',Rel K M' ρ' σ' H'->Step K M M' H H'->P ρ' M'->QQ σ' H')->g vs σ H QQ
section
variable {K:Frg}{M:Own}{ρ:List (Option DS)}{P:List (Option DS)->Own->Prop}
theorem n5 (h:P ρ M):DGs K qZ [] ρ M P:=fun σ H vs QQ R hd k=>by
 unfold DVs at hd
 subst hd
 exact⟨rfl,k ρ M σ H R Step.refl h⟩
theorem i7 {i:Nat}{g:TGs}{d:PyData}{ds:List PyData}(h:DGs K g ds (ρ.set i (some (.d d))) M P):DGs K (aI (PD i) g) (d::ds) ρ M P:=fun σ H vs QQ R hd k=>by
 unfold DVs at hd
 obtain⟨v,r,rfl,h1,h2⟩:=hd
 exact⟨v,r,rfl,h (σ.set i (some v)) H r QQ (R.set (x:=.d d) h1 i) h2 k⟩
theorem tL {n:Nat}{g:TGs}{ds:List PyData}(hn:ds.length=n) (h:DGs K g ds ρ M P):DG K (lO K n g) (.tuple ds) ρ M P:=fun σ H v QQ R dv k=>by
 unfold DV at dv
 obtain⟨a,vs,rfl,hl,hd⟩:=dv
 exact⟨a,vs,rfl,hl.sq,by rw[hd.length];exact hn,h σ H vs QQ R hd k⟩
def n6 (g:TGs) (T:List Nat):Prop:=(∀(vs:List V) (σ:St) (H:Hp) (Q Q':St->Hp->Prop),(∀a b,Q a b->Q' a b)->g vs σ H Q->g vs σ H Q') /\
 (∀(vs:List V) (σ:St) (H:Hp) (QQ:St->Hp->Prop),g vs σ H QQ->g vs σ H fun σ2 H2=>(∀i,i∉T->σ2[i]?=σ[i]?)/\QQ σ2 H2)
theorem YV:n6 qZ []:=⟨fun vs σ H Q Q' m ⟨e,h⟩=>⟨e,m _ _ h⟩,fun vs σ H QQ ⟨e,h⟩=>⟨e,fun _ _=>rfl,h⟩⟩
theorem JV {i:Nat}{g:TGs}{T:List Nat}(hg:n6 g T):n6 (aI (PD i) g) (i::T):=by
 refine⟨fun vs σ H Q Q' m ⟨v,r,e,h⟩=>⟨v,r,e,hg.1 r _ H Q Q' m h⟩,fun vs σ H QQ ⟨v,r,e,h⟩=>⟨v,r,e,?_⟩⟩
 refine hg.1 r _ H _ _ (fun σ2 H2 ⟨h1,h2⟩=>⟨fun j hj=>?_,h2⟩) (hg.2 r (σ.set i (some v)) H QQ h)
 rw[h1 j fun z=>hj (yV _ z),b5Z (by rintro rfl;exact hj a4Q)]
theorem YW {n:Nat}{g:TGs}{T:List Nat}(hg:n6 g T):PU (lO K n g) T:=fun v σ H QQ ⟨a,xs,e,hs,hl,h⟩=>
 ⟨a,xs,e,hs,hl,hg.1 xs σ H _ _ (fun σ2 H2 ⟨h1,h2⟩=>h2 h1) (hg.2 xs σ H _ h)⟩
end
end DL
namespace L2
open PySem PySem.Spec PyProof.Rows
section
variable {X:Cx}{pins:List (Addr×Obj)}{σ:St}{H:Hp}{s:Shared}{h':Heap}
theorem Inv.turnedT {ch:List Addr}{T:Addr}{ys:List V}{t':Nat}(I:Inv X pins σ H s) (k:∀b o,b∉ch->s.heap.get? b=some o->h'.get? b=some o) (hn:∀b∈ch,H b=none)
   (hch:∀b∈ch,(b∈X.ex∨X.s₀.heap.objs.size<=b)/\b≠X.env.locals/\(∀x c,X.env.cells.lookup x=some c->c≠b)/\∀p∈X.pn++pins,p.1≠b)
   (hT:s.heap.objs.size<=T) (new:ObjOk X.prog X.w (upd H T (.tup ys)) h' T (.tup ys)):Inv X pins σ (upd H T (.tup ys)) { s with heap:=h',toks:=t' }:=by
 have hTn:H T=none:=I.hok.fresh hT
 have nch:∀b u,H b=some u->b∉ch:=fun b u e z=>by rw[hn b z] at e;cases e
 refine I.step (g':=s.gens) (d':=s.drawn) (ch:=ch) hch (fun b o _ _ hc e _=>k b o hc e) (fun b o _ _ hc e _=>⟨o.slots,k b o hc e⟩) (fun b o hc e n=>?_)
   (fun b o hc e=>⟨o,k b o hc e⟩) (fun b xs e=>?_) (fun b o u e=>?_) (fun b ps e=>⟨#[],?_⟩) (fun m hm=>?_) (fun b u e=>?_) I.bare
 · rw[AJ (zC (zP (zM e) hT))];exact n
 · rw[AJ (B2 e hTn)];exact e
 · rw[AJ (B2 e hTn)];exact e
 · rw[AJ (B2 e hTn),e];simp
 · obtain⟨o,es,ep,ho,r⟩:=hm
   exact⟨o,es,ep,k _ o (fun z=>(hch _ z).2.1 rfl) ho,r⟩
 · by_cases hb:b=T
   · subst hb;rw[AI] at e;cases e;exact new
   · rw[AJ hb] at e
     refine(I.hok b u e).stay (fun c v hc q=>k c v ?_ q) (fun c q=>by rw[AJ (B2 q hTn)];exact q) fun c xs q=>by rw[AJ (B2 q hTn)];exact q
     rcases hc with z | z
     · rw[z];exact nch b u e
     · exact nch c _ z
theorem Inv.turnedL {ch:List Addr}{t':Nat}(I:Inv X pins σ H s) (k:∀b o,b∉ch->s.heap.get? b=some o->h'.get? b=some o) (hn:∀b∈ch,H b=none)
   (hch:∀b∈ch,(b∈X.ex∨X.s₀.heap.objs.size<=b)/\b≠X.env.locals/\(∀x c,X.env.cells.lookup x=some c->c≠b)/\∀p∈X.pn++pins,p.1≠b):Inv X pins σ H { s with heap:=h',toks:=t' }:=by
 have nch:∀b u,H b=some u->b∉ch:=fun b u e z=>by rw[hn b z] at e;cases e
 refine I.step (g':=s.gens) (d':=s.drawn) (ch:=ch) hch (fun b o _ _ hc e _=>k b o hc e) (fun b o _ _ hc e _=>⟨o.slots,k b o hc e⟩) (fun b o hc e n=>n)
   (fun b o hc e=>⟨o,k b o hc e⟩) (fun b xs e=>e) (fun b o u e=>e) (fun b ps e=>⟨#[],by rw[e];simp⟩) (fun m hm=>?_) (fun b u e=>?_) I.bare
 · obtain⟨o,es,ep,ho,r⟩:=hm
   exact⟨o,es,ep,k _ o (fun z=>(hch _ z).2.1 rfl) ho,r⟩
 · refine(I.hok b u e).stay (fun c v hc q=>k c v ?_ q) (fun c q=>q) fun c xs q=>q
   rcases hc with z | z
   · rw[z];exact nch b u e
   · exact nch c _ z
theorem pV {a z:Addr}{xs:List V}(I:Inv X pins σ H s) (hf:L1 X pins H z) (h:SqL X.K H a xs):a≠z:=by
 rintro rfl
 rcases h with h | ⟨o,its,n,hk,_⟩
 · rcases h with h | ⟨o',h⟩ <;> rw[hf.1] at h <;> cases h
 · have e:=I.ok.mod.kin a o hk
   rcases hf.2.2.2.1 with z | z
   · exact I.ok.noex a o e z
   · exact absurd (zP (zM e) (zN I.ok.bsz z)) (yF _)
end
end L2
namespace DL
open PySem PySem.Spec L2
section
variable {K:Frg}{M:Own}{ρ:List (Option DS)}{QI:List PyData->Own->Prop}
def OI (as bs:List PyData):List PyData:=(as.zip bs).map fun p=>.tuple [p.1,p.2]
end
end DL
namespace HT
open PySem PySem.Spec PyProof.Rows
section
variable {prog:Program}{w:World}{A:Around}{E:Value->Shared->Prop}{s:Shared}
theorem getItem_tuple_whole {t sl:Addr}{items:Array Value}{vl vu:Value}{lo hi:Option Int}{Q:Value->Shared->Prop}(ht:IsTup s.heap t items) (hs:s.heap.IsSliceOf sl vl vu .none) (pl:IsPart vl lo) (pu:IsPart vu hi)
   (hw:sIx items.size 0 lo=0/\sIx items.size items.size hi=items.size) (h:Q (.ref t) s):wpAny (model prog w) A (getItem (.ref t) (.ref sl)) Q E s:=by
 obtain⟨os,hos,hcs,hds⟩:=id hs
 have hTs:s.TypeIs (.ref sl) "slice" := ⟨os,hos,hcs⟩
 unfold getItem
 try with_reducible refine wpAny_holding ?_
 first | refine zZ (zY ?_) | skip
 refine zZ (wpAny_sequenceKey ht.typeIs (by decide) ?_)
 refine zZ (wpAny_callSpecial?_slot (name:=a0Q "__getitem__") ht.typeIs a7K
   (wpAny_call_entry a7K ht.typeIs entry_tuple_getitem ?_ (args_tuple_getitem _ _)))
 show wpAny _ _ (Builtin.Tuple.tupleItemsOf (.ref t) >>= _) _ _ s
 refine zZ (tupleItemsOf_ ht ?_)
 refine zZ (wpAny_typeOf hTs ?_)
 rw[if_pos (by decide)]
 refine zZ (GX hs pl pu ?_)
 have hno:((((sIx items.size 0 lo:Nat):Int)==0&&(1:Int)==1&&(sIx items.size items.size hi - sIx items.size 0 lo)==items.size)=true):=by
   rw[hw.1,hw.2];simp
 show wpAny _ _ (if (((sIx items.size 0 lo:Nat):Int)==0&&(1:Int)==1&&(sIx items.size items.size hi - sIx items.size 0 lo)==items.size)=true then _ else _) _ _ s
 rw[if_pos hno]
 refine zZ (m:=Builtin.Tuple.tupleIsExact _) (zZ (wpAny_typeOf ht.typeIs (zY ?_)))
 show wpAny _ _ (if true=true then _ else _) _ _ s
 rw[if_pos rfl]
 first
   | exact zZ (wpAny_rule (zZ (zY ⟨_,rfl,zY h⟩)))
   | exact zZ (wpAny_rule (zY ⟨_,rfl,zY h⟩))
   | exact zZ (wpAny_rule (zZ (zY (zY ⟨_,rfl,zY h⟩))))
end
end HT
namespace L2
open PySem PySem.Spec PyProof.Rows
section
variable {X:Cx}
def pW (K:Frg):V->Option Int->Option Int->Hp->VK->Prop:=fun x lo hi H Q=>∃a xs,x = .ref a/\SqT K H a xs/\(L4 xs lo hi=xs->Q (.ref a) H)/\∀p,H p=none->Q (.ref p) (upd H p (.tup (L4 xs lo hi)))
theorem n8:SlR X (pW X.K):=by
 intro pins s σ H x v vl vu lo hi sl Q I rx hs pl pu h
 obtain⟨a,xs,rfl,hx,q1,q2⟩:=h
 cases rx
 obtain⟨its,r,ht,hz⟩:=I.tuple hx
 have hlen:its.toArray.size=xs.length:=by rw[zJ];exact r.length.symm
 by_cases hw:HT.sIx xs.length 0 lo=0/\HT.sIx xs.length xs.length hi=xs.length
 · refine⟨"tuple", _,PyProof.Rows.slot_tuple_getitem.lookup,ht.typeIs,?_⟩
   refine HT.getItem_tuple_whole ht hs pl pu (by rw[hlen];exact hw) ⟨.ref a,H,I,rfl,q1 ?_⟩
   unfold L4
   rw[hw.1,hw.2];simp
 · exact rR pins s σ H (.ref a) (.ref a) vl vu lo hi sl Q I rfl hs pl pu ⟨a,xs,rfl,hx,hw,q2⟩
def YX (K:Frg):R2:=fun x y H Q=>∃a b xs ys,x = .ref a/\y = .ref b/\SqT K H a xs/\SqT K H b ys/\xs.length+ys.length<=sizeLine /\
 (xs=[]->Q (.ref b) H)/\(ys=[]->Q (.ref a) H)/\(∀p,H p=none->Q (.ref p) (upd H p (.tup (xs++ys))))
theorem i8:OpR X (binaryOp .Add) (YX X.K):=by
 intro pins s σ H x y v u Q I rx ry h
 obtain⟨t,b,xs,ys,rfl,rfl,hx,hy,hz,q0,q1,q2⟩:=h
 cases rx
 cases ry
 obtain⟨its,r,ht,_⟩:=I.tuple hx
 obtain⟨its2,r2,hb,_⟩:=I.tuple hy
 have e1:=r.length
 have e2:=r2.length
 obtain⟨⟨cls,dd,data,sl⟩,ho,hc,n,hd⟩:=id ht
 obtain⟨⟨cls2,dd2,data2,sl2⟩,ho2,hc2,n2,hd2⟩:=id hb
 dsimp only at hc hd hc2 hd2
 subst hc hd hc2 hd2
 have e:its.toArray++its2.toArray=(its++its2).toArray:=by simp
 by_cases hv:its=[]
 · have hx0:xs=[]:=by cases r with | nil=>rfl | cons _ _=>cases hv
   exact concat_meets ⟨_,ho,rfl⟩ ⟨_,ho2,rfl⟩ noFill_tuple_add seq_tuple_add a7Q a6V (a6X _ _)
     (tuple_addW0 t b its.toArray its2.toArray n n2 dd dd2 sl sl2 (by simp[hv])) ⟨ho,ho2,⟨.ref b,H,I,rfl,q0 hx0⟩⟩
 · by_cases hw:its2=[]
   · have hy0:ys=[]:=by cases r2 with | nil=>rfl | cons _ _=>cases hw
     exact concat_meets ⟨_,ho,rfl⟩ ⟨_,ho2,rfl⟩ noFill_tuple_add seq_tuple_add a7Q a6V (a6X _ _)
       (tuple_addW1 t b its.toArray its2.toArray n n2 dd dd2 sl sl2 (by simpa using hv) (by simp[hw])) ⟨ho,ho2,⟨.ref t,H,I,rfl,q1 hy0⟩⟩
   · refine concat_meets ⟨_,ho,rfl⟩ ⟨_,ho2,rfl⟩ noFill_tuple_add seq_tuple_add a7Q a6V (a6X _ _)
       (tuple_addW2 t b its.toArray its2.toArray n n2 dd dd2 sl sl2 (by simpa using hv) (by simpa using hw) (by rw[zJ,zJ];omega)) ⟨ho,ho2,?_⟩
     rw[e]
     refine⟨.ref s.heap.objs.size,_,I.laid (t':=s.toks) (o:=.tup (xs++ys)) (fun b ob q=>zW _ q) (zR _) ?_,rfl,q2 _ I.fresh⟩
     exact⟨by rw[yY];exact hz,its++its2,r.append r2,IsTup.new _ _⟩
end
end L2
namespace DL
open PySem PySem.Spec L2
section
variable {X:Cx}{K:Frg}
def W3 (K:Frg):R2:=fun x y H Q=>W0 K x y H Q∨YX K x y H Q
theorem vW (h:X.K=K):OpR X (binaryOp .Add) (W3 K):=h▸mT.or i8
def n9 (K:Frg):V->Option Int->Option Int->Hp->VK->Prop:=fun x lo hi H Q=>mU K x lo hi H Q∨pW K x lo hi H Q
theorem xD (h:X.K=K):SlR X (n9 K):=h▸tE.or n8
end
section
variable {K:Frg}{M:Own}{Q:DS->Own->Prop}
theorem i9 {i j:Int}(q:Q (.d (.int (i+j))) M):D2 K (W3 K) (.d (.int i)) (.d (.int j)) M Q:=FQ (gZ q)
theorem PX {i j:Str}(hz:i.length+j.length<=sizeLine) (q:Q (.d (.str (i++j))) M):D2 K (W3 K) (.d (.str i)) (.d (.str j)) M Q:=FQ (h7 hz q)
theorem CT {a b:List PyData}(hz:a.length+b.length<=sizeLine) (q:Q (.d (.list (a++b))) M):D2 K (W3 K) (.d (.list a)) (.d (.list b)) M Q:=FQ (h8 hz q)
theorem FS {as bs:List PyData}(hz:as.length+bs.length<=sizeLine) (q:Q (.d (.tuple (as++bs))) M):D2 K (W3 K) (.d (.tuple as)) (.d (.tuple bs)) M Q:=HM fun H v u QQ oa s1 s2 k=>by
 have s1':=s1
 have s2':=s2
 unfold SI DV at s1 s2
 obtain⟨a,vs,rfl,hl,hd⟩:=s1
 obtain⟨b,us,rfl,hl2,hd2⟩:=s2
 refine⟨a,b,vs,us,rfl,rfl,hl.sq,hl2.sq,by rw[hd.length,hd2.length];exact hz,fun e=>?_,fun e=>?_,fun p hp=>?_⟩
 · have:as=[]:=by have:=hd.length;rw[e] at this;exact List.length_eq_zero_iff.mp this.symm
   subst this
   exact k _ H (.d (.tuple ([]++bs))) M oa s2' Step.refl q
 · have:bs=[]:=by have:=hd2.length;rw[e] at this;exact List.length_eq_zero_iff.mp this.symm
   subst this
   rw[a2Q] at q
   exact k _ H (.d (.tuple as)) M oa s1' Step.refl q
 · have g:Grow K M.W M.W H (upd H p (.tup (vs++us))):=AY _ hp
   refine k _ _ (.d (.tuple (as++bs))) M (oa.new hp) ?_ ⟨g⟩ q
   unfold SI DV
   exact⟨p,_,rfl,.inl ⟨fun w=>w (oa.none hp),.inl AI⟩,(hd.append hd2).grow g⟩
theorem LU {z:Str}{lo hi:Option Int}(hz:z.length<=sizeLine) (q:Q (.d (.str (a1X z lo hi))) M):DSl K (n9 K) (.d (.str z)) lo hi M Q:=fun H v QQ oa s1 k=>.inl (h9 hz q H v QQ oa s1 k)
theorem CA {ds:List PyData}{lo hi:Option Int}(q:Q (.d (.list (E9 ds lo hi))) M):DSl K (n9 K) (.d (.list ds)) lo hi M Q:=fun H v QQ oa s1 k=>.inl (cX q H v QQ oa s1 k)
theorem B6 {ds:List PyData}{lo hi:Option Int}(q:Q (.d (.tuple (E9 ds lo hi))) M):DSl K (n9 K) (.d (.tuple ds)) lo hi M Q:=fun H v QQ oa s1 k=>.inr (by
 have s1':=s1
 unfold SI DV at s1
 obtain⟨a,vs,rfl,hl,hd⟩:=s1
 have key:DVs K H M.W (E9 ds lo hi) (L4 vs lo hi):=by
   unfold E9 L4
   rw[hd.length]
   exact(hd.drop _).take _
 refine⟨a,vs,rfl,hl.sq,fun e=>?_,fun p hp=>?_⟩
 · refine k _ H (.d (.tuple (E9 ds lo hi))) M oa ?_ Step.refl q
   unfold SI DV
   exact⟨a,vs,rfl,hl,by rw[← e];rw[e] at key;rw[e];exact key⟩
 · have g:Grow K M.W M.W H (upd H p (.tup (L4 vs lo hi))):=AY _ hp
   refine k _ _ (.d (.tuple (E9 ds lo hi))) M (oa.new hp) ?_ ⟨g⟩ q
   unfold SI DV
   exact⟨p,_,rfl,.inl ⟨fun w=>w (oa.none hp),.inl AI⟩,key.grow g⟩)
end
theorem nA {X:Cx}{K:Frg}{pos:Pos}{es:List Expr}{k:Nat}{t:TGs}{n:Nat}(hK:X.K=K) (hc:X.calm=true) (h:PGs X es t)
   (hn:(assignEach es X.env).length=n:=by rfl) (hst:(assignEach es X.env).findIdx? (·.1)=none:=by rfl):PG X (.Tuple es k pos) (lO K n t):=hK▸fT hc h hn hst
end DL
namespace HT
open PySem PySem.Spec PyProof.Rows
section
variable {prog:Program}{w:World}{A:Around}{E:Value->Shared->Prop}{s:Shared}
theorem iD (xs:Array Value):((a0V xs.size).filterMap fun(m:Nat)=>xs[((xs.size:Int) - 1+(m:Int)*(-1)).toNat]?).toArray=xs.toList.reverse.toArray:=by
 congr 1
 apply b3W
 intro i
 have key:∀k,k<=xs.size->((a0V k).filterMap fun(m:Nat)=>xs[((xs.size:Int) - 1+(m:Int)*(-1)).toNat]?)=xs.toList.reverse.take k:=by
   intro k
   induction k with
   | zero=>intro _;simp
   | succ k ih=>
     intro hk
     rw[List.range_succ,List.filterMap_append,ih (by omega),a5W]
     have e1:((xs.size:Int) - 1+(k:Int)*(-1)).toNat=xs.size - 1 - k:=by omega
     have e2:xs.toList.reverse[k]?=xs[xs.size - 1 - k]?:=by
       rw[List.getElem?_reverse (by simp;omega)]
       simp
     simp only[a3V,List.filterMap_nil,e1,e2]
     cases xs[xs.size - 1 - k]? <;> simp
 rw[key xs.size (zR _),a5J (by simp)]
end
end HT
namespace DL
open PySem PySem.Spec L2
section
variable {K:Frg}{ρ:List (Option DS)}{M:Own}{Q:DS->Own->Prop}{te ts:TE}
theorem DVs.reverse {H:Hp}{W:Addr->Prop}:∀{ds:List PyData}{vs:List V},DVs K H W ds vs->DVs K H W ds.reverse vs.reverse
 | [],vs,h=>by unfold DVs at h;subst h;exact DVs.nil
 | d::ds,vs,h=>by
   unfold DVs at h
   obtain⟨v,r,rfl,h1,h2⟩:=h
   rw[b8W,b8W]
   exact(DVs.reverse h2).append (DVs.cons h1 DVs.nil)
end
end DL
namespace DL
open PySem PySem.Spec L2
def fn1 (pre:PyData->Prop) (f:PyData->PyData):FSp:=⟨fun xs _=>∃d,xs=[.d d]/\pre d,fun xs M y M'=>∀d,xs=[.d d]->y = .d (f d)/\M'=M⟩
theorem B9 {pre:PyData->Prop}{f:PyData->PyData}{d:PyData}{M:Own}{Q:DS->Own->Prop}(p:pre d) (q:Q (.d (f d)) M):[DS.d d].length=1/\(fn1 pre f).pre [.d d] M/\∀x M',(fn1 pre f).post [.d d] M x M'->Q x M':=
 ⟨rfl,⟨d,rfl,p⟩,fun x M' h=>by obtain⟨rfl,rfl⟩:=h d rfl;exact q⟩
def LV (c:Nat):Bool:=decide (97<=c)&&decide (c<=122)
def tM:PyData->Bool | .int _=>true | _=>false
def L7:FSp:=fn1 (fun _=>True) fun d=>.bool (tM d)
def LX (d:PyData) (lo hi:Int):Bool:=match d with | .int i=>decide (lo<=i)&&decide (i<=hi) | _=>false
def EK:FSp:=⟨fun xs _=>∃(d:PyData) (lo hi:Int),xs=[.d d,.d (.int lo),.d (.int hi)],fun xs M y M'=>∀(d:PyData) (lo hi:Int),xs=[.d d,.d (.int lo),.d (.int hi)]->y = .d (.bool (LX d lo hi))/\M'=M⟩
theorem W4 {d:PyData}{lo hi:Int}{M:Own}{Q:DS->Own->Prop}(q:Q (.d (.bool (LX d lo hi))) M):[DS.d d,.d (.int lo),.d (.int hi)].length=3/\EK.pre [.d d,.d (.int lo),.d (.int hi)] M/\∀x M',EK.post [.d d,.d (.int lo),.d (.int hi)] M x M'->Q x M':=
 ⟨rfl,⟨d,lo,hi,rfl⟩,fun x M' h=>by obtain⟨rfl,rfl⟩:=h d lo hi rfl;exact q⟩
section
variable {K:Frg}{ρ:List (Option DS)}{M:Own}{D:EndsD}{t u:TS}
theorem L8 (P:List (Option DS)->Own->Prop) (h:DSt K t ρ M { D with nx:=P }) (h2:∀ρ1 M1,P ρ1 M1->DSt K u ρ1 M1 D):DSt K (fQ t u) ρ M D:=
 gS (mM h (fun ρ' M' p=>h2 ρ' M' p) (fun _ _ q=>q) (fun _ _ q=>q) (fun _ _ q=>q))
end
def AO (z:Str):Prop:=1<=z.cps.size/\z.cps.size<=8/\∀c∈z.cps.toList,LV c=true
theorem xE {M:Own}{a:Addr}{ds:List PyData}{k:Int}{j:Nat}{F:Addr->List PyData->Nat->Prop}(m:M a=some (.l ds)) (e:ixN ds.length k=some j) (q:F a ds j) :
   ∃a' ds' k' j',DS.loc a = .loc a'/\DS.d (.int k) = .d (.int k')/\M a'=some (.l ds')/\ixN ds'.length k'=some j'/\F a' ds' j':=⟨a,ds,k,j,rfl,rfl,m,e,q⟩
theorem xF {xs:List DS}{ds:List PyData}{Q:List PyData->Prop}(e:RR xs=some ds) (h:ds.length<=sizeLine) (q:Q ds):∃ds,RR xs=some ds/\ds.length<=sizeLine/\Q ds:=⟨ds,e,h,q⟩
theorem iE (n len:Nat):a4W none (some (n:Int)) 1 len=a0V (min n len):=by
 unfold a4W sliceRange
 have h1:¬((n:Int) < 0):=by omega
 have h2:max 0 (min (n:Int) (len:Int))=((min n len:Nat):Int):=by omega
 simp only[show(1:Int) > 0 by decide,if_true,h1,if_false,h2]
 have h3:(if (0:Int) < ((min n len:Nat):Int) then (((min n len:Nat):Int) - 0+1 - 1)/1 else 0).toNat=min n len:=by
   split
   · rw[Int.ediv_one];omega
   · omega
 rw[h3]
 apply b3W
 intro i
 rw[zF]
 by_cases h:i < min n len
 · simp[yA h]
 · simp[a0J (show(a0V (min n len)).length<=i by simp;omega)]
theorem cZ (l:List Nat) (a:Array Nat) (m:Nat) (h:a.toList=l):(a0V m).filterMap (fun i=>a[i]?)=l.take m:=by
 induction m with
 | zero=>simp
 | succ m ih=>
   rw[List.range_succ,List.filterMap_append,ih,a5W]
   have e:a[m]?=l[m]?:=by rw[← h];simp
   simp only[a3V,List.filterMap_nil,e]
   cases l[m]? <;> simp
theorem HR (z:Str) (n:Nat):(a1X z none (some (n:Int))).cps.toList=z.cps.toList.take n:=by
 unfold a1X
 rw[iE]
 have hl:z.length=z.cps.toList.length:=by simp[Str.length]
 split
 · rename_i h
   simp only[xZ,beq_self_eq_true,Bool.true_and,beq_iff_eq] at h
   rw[a5J (by rw[← hl];omega)]
 · show(List.filterMap _ _).toArray.toList=_
   rw[cZ z.cps.toList z.cps _ rfl,List.toList_toArray,hl,b4W]
   omega
theorem dA {z:Str}{n:Nat}{c:Nat}(h:c∈(a1X z none (some (n:Int))).cps.toList):c∈z.cps.toList:=by
 rw[HR] at h;exact b5X h
theorem AT (x y:Str):(x++y).cps.toList=x.cps.toList++y.cps.toList:=by
 show(x.cps++y.cps).toList=_
 simp
theorem J8:(a0Q "abcdefghijklmnopqrstuvwxyz").length=26:=by decide +kernel
theorem iF {M:Own}{p A:Addr}{o o' x y:MO}(h:p≠A):(((M.put p o).put A x).put p o').put A y=(M.put p o').put A y:=by
 funext b
 unfold Own.put
 by_cases h1:b=A
 · simp[h1]
 · by_cases h2:b=p
   · simp[h2,h1,h]
   · simp[h1,h2]
theorem flt (l:List PyData):l.filter (fun _=>true)=l:=List.filter_eq_self.mpr (by simp)
theorem iG:(a0Q "abcdefghijklmnopqrstuvwxyz").cps.size=26:=by decide +kernel
theorem SW (z:Str) (l u:Option Int) {n:Nat}(h:z.length<=n):(a1X z l u).length<=n:=zN (Txt.slice_le z l u) h
theorem tN {c:Nat}(h:LV c=true):c < 128:=by
 unfold LV at h;simp at h;omega
theorem NF (s:Str):s.cps.size=s.cps.toList.length:=by simp
end DL
namespace DL
open PySem PySem.Spec L2
def sl (a b:Str):Bool:=Spec.ltCps a.cps.toList b.cps.toList
theorem vX (a b:Str):decide (a.cps.toList < b.cps.toList)=sl a b:=PyProof.Rows.lt_meets a b
def Ris (ss:List Str):Prop:=ss.Pairwise fun a b=>sl a b=true
theorem BD {d:PyData}(h1:d.canLay0=true) (h2:d.depth<=64):zH d=true:=by
 unfold zH;rw[h1,decide_eq_true h2];rfl
theorem EY {ds:List PyData}(h:∀d∈ds,d.canLay0=true):b7W ds=true:=by
 induction ds with
 | nil=>rfl
 | cons d r ih=>rw[b7W,h d a4Q,ih fun x hx=>h x (yV _ hx)];rfl
theorem J9 {ds:List PyData}{n:Nat}(h:∀d∈ds,d.depth<=n):a1Z ds<=n:=by
 induction ds with
 | nil=>simp[a1Z]
 | cons d r ih=>
   have h1:=h d a4Q
   have h2:=ih fun x hx=>h x (yV _ hx)
   simp only[a1Z];omega
theorem C6 {z:Str}(h:AO z):PyData.strOk z=true:=by
 unfold PyData.strOk
 rw[Array.all_eq_true']
 intro c hc
 have:=tN (h.2.2 c (by simpa using hc))
 simp;omega
theorem OJ (ys:List Str):a0X (.list (ys.map .str)) (.list [])=ys.isEmpty:=by
 cases ys with
 | nil=>rfl
 | cons y r=>simp[a0X,PyData.eqvAll]
theorem PY:∀c∈(a0Q "abcdefghijklmnopqrstuvwxyz").cps.toList,LV c=true:=by decide +kernel
theorem YY:(a0Q "abcdefghijklmnopqrstuvwxyz").cps.toList.Nodup:=by decide +kernel
end DL
namespace DL
open PySem PySem.Spec L2
theorem sIx_nat (n d k:Nat):HT.sIx n d (some (k:Int))=min k n:=HT.sIx_nat n d k
theorem DD (xs:List PyData) (k:Nat):E9 xs (some (k:Int)) none=xs.drop k:=by
 unfold E9
 rw[sIx_nat]
 show(xs.drop (min k xs.length)).take (xs.length - min k xs.length)=_
 rw[a5J (by rw[a0K];omega)]
 by_cases h:k<=xs.length
 · rw[a8W h]
 · rw[b5Q (by omega),a4X (zR _),a4X (by omega)]
theorem UA (xs:List PyData) (k:Nat):E9 xs none (some (k:Int))=xs.take k:=by
 unfold E9
 rw[sIx_nat]
 show(xs.drop 0).take (min k xs.length - 0)=_
 rw[List.drop_zero,Nat.sub_zero,b4W];omega
theorem JW (xs:List PyData) (a b:Nat):E9 xs (some (a:Int)) (some (b:Int))=(xs.take b).drop a:=by
 unfold E9
 rw[sIx_nat,sIx_nat,List.drop_take]
 by_cases h:a<=xs.length
 · rw[a8W h,b4W,a0K];omega
 · rw[a4X (show xs.length<=min a xs.length by omega),a4X (show xs.length<=a by omega)];simp
def SX:PyData->Str | .str z=>z | _=>⟨#[]⟩
abbrev Th:=Str×Int×Int
def thD (t:Th):PyData:=.tuple [.str t.1,.int t.2.1,.int t.2.2]
def wD (w:List Th):PyData:=.tuple (w.map thD)
end DL
namespace DL
open PySem PySem.Spec L2
section
variable {K:Frg}{ρ:List (Option DS)}{M:Own}{g:TG}{wi:TI}
theorem FA {fr:List (Option Nat)}{tt:TT}{te:TE}{T:List Nat}{Q:DS->Own->Prop}(ho:PU g T) (hT:∀i∈T,∀j,fr[i]?≠some (some j))
   (h:DI K wi ρ M fun ds M1=>ds.length < sizeLine/\∃(c:PyData->Bool) (f:PyData->PyData),(∀d∈ds,∀A acc M',M1 A=none->M'=M1.put A (.l acc)->DG K g d (KG fr ρ) M' fun ρ2 M2=>M2=M'/\DT K tt ρ2 M2 fun b M3=>M3=M'/\b=c d/\(c d=true->DE K te ρ2 M3 fun y M4=>y = .d (f d)/\M4=M'))/\Q (.d (.list ((ds.filter c).map f))) M1) :
   DE K (SS fr wi g tt te) ρ M Q:=by
 refine U5 ho hT fun σ H R Rl k=>h σ H R Rl fun J ds H1 M1 o1 t1 wd q=>k J ds H1 M1 o1 t1 wd ?_
 obtain⟨hsz,c,f,he,q⟩:=q
 refine⟨hsz,fun A hA=>⟨fun k acc M'=>acc=((ds.take k).filter c).map f/\M'=M1.put A (.l acc),⟨by simp,rfl⟩,fun k acc M' ⟨e1,e2⟩=>⟨by rw[e2];exact zU,?_⟩,fun k d acc M' hd ⟨e1,e2⟩=>?_,fun acc M' ⟨e1,e2⟩=>?_⟩⟩
 · rw[e1,zX]
   exact zN (yJ _ _) (by rw[a1Q];omega)
 · have hm:d∈ds:=yN hd
   intro σ H v QQ R dv kk
   refine he d hm A acc M' hA e2 σ H v QQ R dv fun ρ' M2 σ' H' R' st ⟨eM,q2⟩=>kk ρ' M2 σ' H' R' st fun σ2 H2 QQ2 R2 k2=>?_
   refine q2 σ2 H2 QQ2 R2 fun b H3 M3 o3 st3 ⟨eM3,eb,q3⟩=>k2 b H3 M3 o3 st3 ?_
   have ts:(ds.take (k+1)).filter c=(ds.take k).filter c++(if c d then [d] else []):=take_succ_filter c ds k d hd
   cases hb:c d with
   | false=>
     rw[hb] at eb
     subst eb
     refine L2.m8 ⟨?_,by rw[eM3,e2]⟩
     rw[ts,hb,e1];simp
   | true=>
     rw[hb] at eb
     subst eb
     refine L2.m9 ?_
     refine aU (q3 hb) fun y M4 ⟨ey,e4⟩=>⟨f d,ey,by rw[e4,e2];exact zU,?_,by rw[e4,e2,yI]⟩
     rw[ts,hb,e1];simp
 · rw[e2,yG hA,e1,a6K]
   exact q
end
theorem W5 {as bs:List Str}(h:as.map a0W=bs.map a0W):as=bs:=by
 have:=congrArg (List.map SX) h
 rw[zD,zD] at this
 simpa [show(SX∘a0W)=id from rfl] using this
theorem HS {K:Frg}{ρ:List (Option DS)}{M:Own}{D:EndsD}{te:TE}{g:TG}(h:DE K te ρ M fun x M1=>∃d,x = .d d/\DG K g d ρ M1 D.nx):DSt K (lP te g) ρ M D:=fun σ H E R k1 _ _ _=>
 h σ H _ R fun v H' x M' a b c q=>by
   obtain⟨d,rfl,q⟩:=q
   exact q σ H' v _ (R.step a c) b fun ρ2 M2 σ2 H2 R2 st2 p=>k1 ρ2 M2 σ2 H2 R2 (c.trans st2) p
theorem iH {X:Cx}:MtR X "list.append" TX:=SN
end DL
namespace L2
open PySem PySem.Spec PyProof.Rows
def EntS (w:World):List DictEntry->List (Str×Str)->Prop
 | [],[]=>True
 | e::es,kv::r=>e.hash=hashStr w kv.1/\(∃t,e.key = .str kv.1 t)/\(∃t,e.val = .str kv.2 t)/\EntS w es r
 | _,_=>False
def GDict (w:World) (K:Frg) (a:Addr) (kvs:List (Str×Str)):Prop:=
 (a==sysModules)=false/\(kvs.map (·.1)).Nodup/\∃es ep,K.lookup a=some { cls:=.type "dict", data:=.dict es ep }/\EntS w es.toList kvs
theorem EntS.pairs {P:Program}{w:World}:∀{es:List DictEntry}{kvs:List (Str×Str)},EntS w es kvs->∃vs:List (Key×Value),Pairs (AX P w) es vs/\KV (kvs.map fun kv=>((a1K kv.1:Key),V.str kv.2)) vs/\vs.map (·.1)=kvs.map (fun kv=>(a1K kv.1:Key))/\∀e∈es,∃k,(AX P w).is k e.key=true/\e.hash=(AX P w).hash k
 | [],[],_=>⟨[],.nil,.nil,rfl,by simp⟩
 | e::es,kv::r,⟨h1,⟨t,h2⟩,⟨t',h3⟩,h4⟩=>by
   obtain⟨vs,a,b,c,d⟩:=EntS.pairs (P:=P) h4
   have hk:(AX P w).is (a1K kv.1) e.key=true:=by rw[h2];exact NV P w kv.1 t
   refine⟨(a1K kv.1,e.val)::vs,.cons hk rfl a,.cons ⟨rfl,⟨t',h3⟩⟩ b,by rw[zI,zI,c],fun x hx=>?_⟩
   rcases yX.mp hx with rfl | hx
   · exact⟨_,hk,h1⟩
   · exact d x hx
section
variable {X:Cx}{pins:List (Addr×Obj)}{σ:St}{H:Hp}{s:Shared}
theorem GDict.at {a:Addr}{kvs:List (Str×Str)}(g:GDict X.w X.K a kvs) (I:Inv X pins σ H s):∃vs,KV (kvs.map fun kv=>((a1K kv.1:Key),V.str kv.2)) vs/\s.heap.DictOf (AX X.prog X.w) a vs:=by
 obtain⟨_,nd,es,ep,hk,he⟩:=g
 obtain⟨vs,p1,p2,p3,p4⟩:=he.pairs (P:=X.prog)
 refine⟨vs,p2,_,es,ep,I.kIn a _ hk,⟨rfl,rfl,rfl⟩,rfl,fun e he=>p4 e (by simpa using he),p1,?_⟩
 rw[p3]
 have:kvs.map (fun kv=>(a1K kv.1:Key))=(kvs.map (·.1)).map a1K:=by rw[zD];rfl
 rw[this]
 unfold List.Nodup
 rw[a5V]
 exact nd.imp fun {a b} q e=>q (by injection e)
def pX (kvs:List (Str×Str)) (ty:TE):TE:=fun σ H Q=>ty σ H fun y H1=>∃k:Str,y = .str k/\Q (((kvs.lookup k).map V.str).getD .non) H1
theorem W6 (kvs:List (Str×Str)) (k:Str):G5 (kvs.map fun kv=>((a1K kv.1:Key),V.str kv.2)) (a1K k)=(kvs.lookup k).map V.str:=by
 induction kvs with
 | nil=>rfl
 | cons kv r ih=>
   obtain⟨a,b⟩:=kv
   unfold G5 at ih ⊢
   rw[zI,a7X,a3X]
   by_cases h:a=k
   · subst h;simp
   · have h1:decide ((a1K a:Key)=a1K k)=false:=decide_eq_false fun e=>h (by injection e)
     have h2:(k==a)=false:=by simpa using fun e=>h e.symm
     simp only[h1,h2]
     exact ih
theorem nB {x:Str}{p apos cpos:Pos}{e:Expr}{ty:TE}{kvs:List (Str×Str)}(hg:Gl X x) (hm:∃a,X.mg x=some (.ref a)/\GDict X.w X.K a kvs) (he:PE X e ty) (m:M1 X (.Name x p) "get" apos e cpos) (hd:(x==("__debug__":Str))=false:=by decide) :
   PE X (.Call (.Attribute (.Name x p) "get" apos) [e] [] cpos) (pX kvs ty):=by
 obtain⟨a,hm,g⟩:=hm
 intro pins s σ H Q I h
 refine wpAny_Call_method m.base m.few m.line PySem.F.plainAttrs_dict b0Z PySem.F.type_dict_get (P0 I hg hm ?_ hd)
 obtain⟨vs,rel,dd⟩:=g.at I
 refine⟨dd.typeIs,fun b q=>?_,?_⟩
 · cases q
   obtain⟨ob,_,_,h1,h2,_⟩:=dd
   exact⟨ob,h1,h2.2.1⟩
 rw[m.trees]
 refine c0Z rfl (Calls.evalArgs_plain (xP (thn (he pins s σ H _ I h) fun iv s2 ⟨y,H2,I2,ry,k,ey,q2⟩=>Calls.spliced_nil ?_)))
 subst ey
 obtain⟨vs',rel',dd'⟩:=g.at I2
 refine call_meetsIn b0Z dd'.typeIs b9Z (PySem.F.args_dict_get_2 _ _) (meets_dict_get (AX X.prog X.w) a (LP (k:=a1K k) ry) g.1) ⟨_,dd'.mapOf,?_⟩
 refine⟨_,H2,I2.tok _,?_,q2⟩
 have:=(rel'.val (a1K k)).getD (show RelV .non .none from rfl)
 rw[W6] at this
 exact this
end
end L2
namespace DL
open PySem PySem.Spec L2
section
variable {K:Frg}{ρ:List (Option DS)}{M:Own}{Q:DS->Own->Prop}{ty:TE}
def tP:Option Str->PyData | some z=>.str z | none=>.none
theorem nC {kvs:List (Str×Str)}(h:DE K ty ρ M fun y M1=>∃k,y = .d (.str k)/\Q (.d (tP (kvs.lookup k))) M1):DE K (pX kvs ty) ρ M Q:=fun σ H QQ R k=>
 h σ H _ R fun v H1 x M1 o1 s1 t1 h1=>by
   obtain⟨z,rfl,q⟩:=h1
   refine⟨z,CD s1,?_⟩
   cases e:kvs.lookup z with
   | none=>rw[e] at q;exact k _ H1 (.d .none) M1 o1 (by unfold SI DV;rfl) t1 q
   | some y=>rw[e] at q;exact k _ H1 (.d (.str y)) M1 o1 GY t1 q
theorem tQ {neg:Bool}{x:Str}{ys:List Str}(q:Q (.d (.bool (if neg then !decide (x∈ys) else decide (x∈ys)))) M):D2 K (rIn K neg) (.d (.str x)) (.d (.tuple (ys.map .str))) M Q:=fun H v u QQ oa s1 s2 k=>by
 rw[CD s1]
 unfold SI DV at s2
 obtain⟨a,vs,rfl,hl,hd⟩:=s2
 have e:=PR hd
 subst e
 exact⟨a,_,rfl,.inr hl.sq,rfl,by simp[KB],k _ H (.d (.bool (if neg then !decide (x∈ys) else decide (x∈ys)))) M oa (by rw[VZ];exact AK) Step.refl q⟩
theorem bC {x:Str}{ys:List Str}(q:Q (.d (.bool (decide (x∈ys)))) M):D2 K (mV K) (.d (.str x)) (.d (.tuple (ys.map .str))) M Q:=HM (tQ (neg:=false) q)
end
end DL
namespace L2
open PySem PySem.Spec PyProof.Rows
section
variable {X:Cx}
def UB:V->List V->Hp->VK->Prop:=fun v vs H Q=>∃x y,v = .str x/\vs=[.str y]/\Q (.bl (Txt.startswith x y)) H
theorem dB:MtR X "str.startswith" UB:=by
 intro pins s σ H x xs v us Q I rx rv h
 obtain⟨y,z,rfl,rfl,q⟩:=h
 obtain⟨t,rfl⟩:=rx
 obtain⟨u,rfl,t',rfl⟩:=F4 rv
 exact SC.startswith ⟨.bl _,H,I,rfl,q⟩
def OK (z:Str) (n:Int):Str:=if (n==1||z.length==0)=true then z else ⟨(a4Z n.toNat z.cps).foldl (·++·) #[]⟩
def bD:R2:=fun x y H Q=>(rI (fun i j=>IntMulOk i j) fun i j=>.int (i*j)) x y H Q∨∃z n,x = .str z/\y = .int n/\1<=n/\n<=8/\z.length<=1000/\Q (.str (OK z n)) H
theorem W7 (a:Array Nat):∀(n:Nat) (b:Array Nat),(List.foldl (fun x1 x2=>x1++x2) b (a4Z n a)).size=b.size+n*a.size
 | 0,b=>by simp
 | n+1,b=>by
   rw[b2Q,List.foldl_cons,W7 a n,Array.size_append,Nat.succ_mul];omega
theorem PZ (a:Array Nat):∀(n:Nat) (b:Array Nat),(List.foldl (fun x1 x2=>x1++x2) b (a4Z n a)).toList=b.toList++(a4Z n a.toList).flatten
 | 0,b=>by simp
 | n+1,b=>by
   rw[b2Q,List.foldl_cons,PZ a n,b2Q];simp
theorem nD:OpR X (binaryOp .Mult) bD:=by
 intro pins s σ H x y v u Q I rx ry h
 rcases h with h | ⟨z,n,rfl,rfl,h1,h2,h3,q⟩
 · exact(opI (C:=fun i j=>IntMulOk i j) fun _ _ _ _ _ _ _ hc q=>mul_int q hc) pins s σ H x y v u Q I rx ry h
 · obtain⟨t,rfl⟩:=rx
   obtain⟨t',rfl⟩:=ry
   have hp:(2:Int) ^ 63=9223372036854775808:=by decide
   refine P.mul_str ?_ (fun _ _=>?_) (fun _ _=>?_) ?_
   · rw[decide_eq_false (Int.not_lt.mpr (Int.le_trans (by decide) h1)),decide_eq_false (Int.not_le.mpr (Int.lt_of_le_of_lt h2 (by decide)))];rfl
   · rw[hp]
     have h5:(1000:Int)<=(9223372036854775808 - 1)/n:=Int.le_ediv_of_mul_le (Int.lt_of_lt_of_le (by decide) h1) (Int.le_trans (Int.mul_le_mul_of_nonneg_left h2 (by decide)) (by decide))
     exact fun hc=>absurd (Int.lt_of_le_of_lt h5 hc) (Int.not_lt.mpr (Int.ofNat_le.mpr h3))
   · have hm:z.length*n.toNat<=1000*1000:=Nat.mul_le_mul h3 (by omega)
     unfold Builtin.Str.tooLong
     rw[decide_eq_false]
     exact fun hc=>absurd (zP hc hm) (by decide)
   · rw[if_neg (by omega)]
     have q':=q
     unfold OK at q'
     split
     · rename_i e
       rw[if_pos e] at q'
       exact⟨.str z,H,I,⟨_,rfl⟩,q'⟩
     · rename_i e
       rw[if_neg e] at q'
       refine⟨?_,⟨.str _,H,I.tok _,⟨_,rfl⟩,q'⟩⟩
       show(List.foldl (fun x1 x2=>x1++x2) #[] (a4Z n.toNat z.cps)).size<=sizeLine
       rw[W7]
       have hm:(#[]:Array Nat).size+n.toNat*z.cps.size<=8*1000:=by
         rw[show(#[]:Array Nat).size=0 from rfl,b7V]
         exact Nat.mul_le_mul (by omega) h3
       exact zN hm (by decide)
end
end L2
namespace DL
open PySem PySem.Spec L2
section
variable {X:Cx}{K:Frg}
theorem W8 (_:X.K=K):MtR X "str.startswith" UB:=dB
theorem vY (_:X.K=K):OpR X (binaryOp .Mult) bD:=nD
def pY:List V->Hp->VK->Prop:=fun xs H Q=>(∃i,xs=[.int i]/\Q (.int i) H)∨∃k,xs=[.bl k]/\Q (.int (if k then 1 else 0)) H
def bE:List V->Hp->VK->Prop:=fun xs H Q=>∃i j,xs=[.int i,.int j]/\uY i j/\∀p,H p=none->Q (.ref p) (upd H p (.tup [.int (i/j),.int (i % j)]))
theorem xG (_:X.K=K):BM X (.type "int") pY:=cM
theorem nE (_:X.K=K):BM X (.builtin "divmod") bE:=VQ
end
section
variable {K:Frg}{ρ:List (Option DS)}{M:Own}{Q:DS->Own->Prop}
theorem dC {x y:Str}(q:Q (.d (.bool (Txt.startswith x y))) M):DM K UB (.d (.str x)) [.d (.str y)] M Q:=fun H v vs QQ oa s1 s2 k=>by
 obtain⟨u,r,rfl,h1,h2⟩:=s2
 cases h2
 rw[CD s1,CD h1]
 exact⟨x,y,rfl,rfl,k _ H _ M oa AK Step.refl q⟩
theorem iI {i j:Int}(c:IntMulOk i j) (q:Q (.d (.int (i*j))) M):D2 K bD (.d (.int i)) (.d (.int j)) M Q:=fun H v u QQ oa s1 s2 k=>by
 rw[BF s1,BF s2]
 exact .inl ⟨i,j,rfl,rfl,c,k _ H _ M oa CI Step.refl q⟩
theorem tR {z:Str}{n:Int}(h1:1<=n) (h2:n<=8) (h3:z.length<=1000) (q:Q (.d (.str (OK z n))) M):D2 K bD (.d (.str z)) (.d (.int n)) M Q:=fun H v u QQ oa s1 s2 k=>by
 rw[CD s1,BF s2]
 exact .inr ⟨z,n,rfl,rfl,h1,h2,h3,k _ H _ M oa GY Step.refl q⟩
theorem nG {b:Bool}(q:Q (.d (.int (if b then 1 else 0))) M):DR K pY [.d (.bool b)] M Q:=fun H vs QQ oa s k=>by
 obtain⟨v,r,rfl,h1,h2⟩:=s
 cases h2
 rw[pQ h1]
 exact .inr ⟨b,rfl,k _ H _ M oa CI Step.refl q⟩
theorem dD {i j:Int}(h0:0 < j) (hj:j < 1073741824) (q:Q (.d (.tuple [.int (i/j),.int (i % j)])) M):DR K bE [.d (.int i),.d (.int j)] M Q:=fun H vs QQ oa s k=>by
 obtain⟨v,r,rfl,h1,v2,r2,rfl,h2,h3⟩:=s
 cases h3
 rw[BF h1,BF h2]
 refine⟨i,j,rfl,⟨h0,hj⟩,fun p hp=>?_⟩
 have g:Grow K M.W M.W H (upd H p (.tup [.int (i/j),.int (i % j)])):=AY _ hp
 refine k _ _ (.d (.tuple [.int (i/j),.int (i % j)])) M (oa.new hp) ?_ ⟨g⟩ q
 unfold SI DV
 exact⟨p,_,rfl,.inl ⟨fun w=>w (oa.none hp),.inl AI⟩,DVs.cons (by unfold DV;rfl) (DVs.cons (by unfold DV;rfl) DVs.nil)⟩
theorem iJ {g:TGs}{to ti:TE}{d:PyData}{ds:List PyData}{P:List (Option DS)->Own->Prop}
   (h:DE K to ρ M fun o M1=>DE K ti ρ M1 fun i M2=>∃a xs k j,o = .loc a/\i = .d (.int k)/\M2 a=some (.l xs)/\ixN xs.length k=some j/\DGs K g ds ρ (M2.put a (.l (xs.set j d))) P) :
   DGs K (aI (uT to ti pL) g) (d::ds) ρ M P:=fun σ H vs QQ R hd kk=>by
 unfold DVs at hd
 obtain⟨v,r,rfl,h1,h2⟩:=hd
 refine⟨v,r,rfl,h σ H _ R fun w H2 y M2 o2 s2 t2 h3=>h3 σ H2 _ (R.step o2 t2) fun u H3 z M3 o3 s3 t3 h4=>?_⟩
 obtain⟨a,xs,k,j,rfl,rfl,m,hj,q⟩:=h4
 rw[BF s3]
 have e:=s2.step t3
 unfold SI at e
 subst e
 obtain⟨vs,h0,hd'⟩:=o3 a _ m
 have t23:=t2.trans t3
 obtain⟨p1,p2⟩:=NE o3 m (hd'.set j (DV.grow t23.grow h1))
 have st:=t23.trans p2
 exact⟨a,vs,k,j,rfl,rfl,h0,by rw[hd'.length];exact hj,q σ _ r _ (R.step p1 st) (DVs.grow st.grow h2) fun ρ' M' σ' H' R' st' p=>kk ρ' M' σ' H' R' (st.trans st') p⟩
end
end DL
namespace L2
open PySem PySem.Spec PyProof.Rows PySem.W
theorem UC {ns:List Int}(h:WData.layableAll [WData.list (ns.map WData.int)]=true):∀i∈ns,xJ i<=2 ^ 20:=by
 have h1:WData.weightAll (ns.map WData.int)<=2 ^ 20:=by
   have h0:WData.layable (WData.list (ns.map WData.int))=true:=by
     unfold WData.layableAll at h
     simpa using h
   unfold WData.layable at h0
   rw[a1J] at h0
   exact of_decide_eq_true h0.2
 intro i hi
 refine zN ?_ h1
 clear h h1
 induction ns with
 | nil=>cases hi
 | cons n r ih=>
   rw[zI]
   show _<=WData.weight (.int n)+1+WData.weightAll (r.map WData.int)
   rcases yX.mp hi with rfl | hi
   · have:WData.weight (.int i)=xJ i:=rfl
     omega
   · have:=ih hi
     omega
theorem iK {l:PySem.W.OpenLaw}{n k:Nat}{q:Program}{loose:List Str}{XP:(Str->Option Value)->Heap->Prop}{YP:World->Heap->Prop}{d:DefRec}{K:Params->Frg}{CX:World->CXT}{sp:World->Sp}{x:Str}
   (hn:l.most=some n) (hn2:n<=sizeLine) (hdf:d.params.defaults=[]) (hr:Room k callerA)
   (hY:∀(w:World) (h:Heap),YP w h->(K w.params).In h)
   (F:∀(w:World) (mg:Str->Option Value) (fa:Addr) (h:Heap),(K w.params).In h->h.Ns mainGlobals mg->mg d.name=some (.ref fa) ->
     ∃fd:FuncData,(∀(s:Shared) (u:Value),BindsTo s fd ⟨[u],[]⟩ [(x,u)]) /\
       ∀base:Heap,(K w.params).In base->base.Ns mainGlobals mg->FnOk l.prog w (K w.params) mg base (CX w) k fa fd [x] (sp w))
   (hsp:∀(w:World) (H:Hp) (a:Addr) (ns:List Int),ns.length<=n->(∀i∈ns,xJ i<=2 ^ 20)->sE H->SqL (K w.params) H a (ns.map V.int)->sp w [.ref a] H (fun v _=>v = .bl true) fun _ _ _=>False)
   (hCX:∀(w:World) (H:Hp) (s:Shared) (e:Value) (s':Shared),CX w [] H s (fun _ _ _=>False) e s'->False) :
   PySem.W.WalkO q loose XP YP l.row.toRowW d [] (fun f vs=>PySem.call f vs):=by
 intro w s₀ s₁ mg mb G Y fa o pm cd doc dV kV ho hd hcd hD hmg hg args vals as hpre hlay hrd hwl hlo
 have e1:dV = .none:=Dflts.none hD hdf
 subst e1
 have e2:kV = .none:=Dflts.noKw hD
 subst e2
 obtain⟨a,vs,ns,rfl,rfl,hobj,hints,hlen⟩:=Att.script_of hn hpre hwl
 have hbits:=UC hlay
 refine enter_call (xN (R:=fun r s'=>r = .ok (.ret (.bool true))/\OldK s₁.heap s'.heap/\s'.os=s₁.os/\AllBare s'.gens) ?_ fun r s' hq=>?_)
 · have KX:=hY w _ Y
   obtain⟨fd,hb,hF⟩:=F w mg fa _ KX G.T.g hmg
   exact gI KX G.T.g G.T.b G.T.builtins G.T.nolimit hg hobj hints (zN hlen hn2) hr hF hb (fun H hO hS=>hsp w H a ns hlen hbits hO hS) fun H e s'=>hCX w H s₁ e s'
 · have h1:=hq.1
   subst h1
   exact⟨.inl ⟨.bool true,.bool true,[],rfl,fun _=>rfl,.bool true,Att.post_true l _,fun _=>⟨List.Pairwise.nil,fun _ hm=>(nomatch hm)⟩⟩,hq.2.1,hq.2.2.1,hq.2.2.2⟩
end L2
namespace DL
open PySem PySem.Spec L2
theorem Q0 (i m:Nat) (a:Array Nat):((a0V m).map (i+·)).filterMap (fun j=>a[j]?)=(a.toList.drop i).take m:=by
 induction m with
 | zero=>simp
 | succ m ih=>
   rw[List.range_succ,xI,List.filterMap_append,ih,a5W]
   have e:a[i+m]?=(a.toList.drop i)[m]?:=by rw[b7K];simp
   simp only[zI,a3W,a3V,List.filterMap_nil,e]
   cases (a.toList.drop i)[m]? <;> simp
theorem YZ (n len:Nat):max 0 (min (n:Int) (len:Int))=((min n len:Nat):Int):=by
 rcases Nat.le_total n len with h | h
 · rw[a8W h,Int.min_eq_left (Int.ofNat_le.mpr h),Int.max_eq_right (b3Z _)]
 · rw[b5Q h,Int.min_eq_right (Int.ofNat_le.mpr h),Int.max_eq_right (b3Z _)]
theorem iL (a b:Nat):(if (a:Int) < (b:Int) then ((b:Int) - (a:Int)+1 - 1)/1 else 0).toNat=b - a:=by
 split
 · rw[Int.ediv_one];omega
 · omega
theorem iM (n len:Nat):a4W (some (n:Int)) none 1 len=(a0V (len - min n len)).map (min n len+·):=by
 unfold a4W sliceRange
 have h1:¬((n:Int) < 0):=Int.not_lt.mpr (b3Z n)
 have h2:=YZ n len
 simp only[show(1:Int) > 0 by decide,if_true,h1,if_false,h2]
 have h3:(if ((min n len:Nat):Int) < (len:Int) then ((len:Int) - ((min n len:Nat):Int)+1 - 1)/1 else 0).toNat=len - min n len:=iL _ _
 rw[h3]
 apply yM
 intro i hi
 omega
theorem nH (n k len:Nat):a4W (some (n:Int)) (some (k:Int)) 1 len=(a0V (min k len - min n len)).map (min n len+·):=by
 unfold a4W sliceRange
 have h1:¬((n:Int) < 0):=Int.not_lt.mpr (b3Z n)
 have h1':¬((k:Int) < 0):=Int.not_lt.mpr (b3Z k)
 have h2:=YZ n len
 have h2':=YZ k len
 simp only[show(1:Int) > 0 by decide,if_true,h1,h1',if_false,h2,h2']
 have h3:(if ((min n len:Nat):Int) < ((min k len:Nat):Int) then (((min k len:Nat):Int) - ((min n len:Nat):Int)+1 - 1)/1 else 0).toNat=min k len - min n len:=iL _ _
 rw[h3]
 apply yM
 intro i hi
 omega
theorem HU (z:Str) (n:Nat):(a1X z (some (n:Int)) none).cps.toList=z.cps.toList.drop n:=by
 unfold a1X
 rw[iM]
 have hl:z.length=z.cps.toList.length:=by simp[Str.length]
 split
 · rename_i h
   rw[a1J] at h
   have h:=eq_of_beq h.2
   rw[zX,xZ] at h
   have h0:n=0∨z.cps.toList.length=0:=by rw[hl] at h;omega
   rcases h0 with rfl | h0
   · simp
   · rw[List.length_eq_zero_iff.mp h0];simp
 · show(List.filterMap _ _).toArray.toList=_
   rw[Q0,List.toList_toArray,hl]
   by_cases h:n<=z.cps.toList.length
   · rw[a8W h,a5J (by rw[a0K];exact zR _)]
   · rw[b5Q (by omega),a4X (zR _),a4X (by omega)];simp
theorem dE (z:Str) (n k:Nat):(a1X z (some (n:Int)) (some (k:Int))).cps.toList=(z.cps.toList.take k).drop n:=by
 unfold a1X
 rw[nH]
 have hl:z.length=z.cps.toList.length:=by simp[Str.length]
 have key:(z.cps.toList.drop (min n z.length)).take (min k z.length - min n z.length)=(z.cps.toList.take k).drop n:=by
   rw[hl,List.drop_take]
   by_cases h:n<=z.cps.toList.length
   · rw[a8W h,b4W,a0K]
     rcases Nat.le_total k z.cps.toList.length with h' | h'
     · rw[a8W h']
     · rw[b5Q h',Nat.min_self,b5Q (Nat.sub_le_sub_right h' n)]
   · rw[a4X (show z.cps.toList.length<=min n z.cps.toList.length by omega),a4X (show z.cps.toList.length<=n by omega)];simp
 split
 · rename_i h
   rw[a1J] at h
   have h:=eq_of_beq h.2
   rw[zX,xZ] at h
   rw[← key]
   have h5:=Nat.min_le_right k z.length
   have h0:min n z.length=0∨z.cps.toList.length=0:=by
     rw[← hl]
     revert h h5
     generalize min k z.length=a
     generalize min n z.length=b
     omega
   rcases h0 with h0 | h0
   · have h6:z.cps.toList.length<=min k z.length - 0:=by rw[← hl];rw[h0] at h;exact Nat.le_of_eq h.symm
     rw[h0,List.drop_zero,a5J h6]
   · rw[List.length_eq_zero_iff.mp h0];simp
 · show(List.filterMap _ _).toArray.toList=_
   rw[Q0,List.toList_toArray,key]
theorem Z0 {i N:Nat}(h:i < N) (hN:N<=26):i/8 < 26:=zQ (Nat.div_le_self i 8) (zP h hN)
theorem L9 (k:Nat):(1:Int)<=1+(k:Int) % 8/\1+(k:Int) % 8<=8/\1<=(1+(k:Int) % 8).toNat/\(1+(k:Int) % 8).toNat<=8:=by
 have e:(k:Int) % 8=((k % 8:Nat):Int):=rfl
 rw[e]
 have:=Nat.mod_lt k (show 8 > 0 by decide)
 clear e
 generalize k % 8=r at *
 omega
theorem vZ {i j:Nat}(h1:(1:Int)+(i:Int) % 8=1+(j:Int) % 8) (h2:i/8=j/8):i=j:=by
 have a:=Nat.div_add_mod i 8
 have b:=Nat.div_add_mod j 8
 have c:i % 8=j % 8:=by
   have:=Int.add_left_cancel h1
   exact Int.ofNat.inj this
 rw[← a,← b,h2,c]
theorem tS {t:Nat}(h:t<=26):26 - t+min t 26=26:=by rw[a8W h,Nat.sub_add_cancel h]
theorem tT {s L:Nat}(h:s<=7):min (3+s) L - 3<=7:=zN (Nat.sub_le_sub_right (Nat.min_le_left _ _) 3) (by rw[b3X];exact h)
def Z1 (z:Str):Prop:=∀c∈z.cps.toList,LV c=true
theorem Q1 {z:Str}(h:Z1 z) (h1:1<=z.cps.toList.length) (h2:z.cps.toList.length<=8):AO z:=⟨by rw[NF];exact h1,by rw[NF];exact h2,h⟩
theorem Q2 {a b:Str}(h1:Z1 a) (h2:Z1 b):Z1 (a++b):=fun c hc=>by
 rw[AT] at hc
 exact(yW.mp hc).elim (h1 c) (h2 c)
theorem W9 {c:Nat}(h:LV c=true):Z1 ⟨#[c]⟩:=fun d hd=>by
 have:d=c:=by simpa using hd
 subst this;exact h
theorem UD {c:Nat}{n:Int}(h1:1<=n):(OK ⟨#[c]⟩ n).cps.toList=a4Z n.toNat c:=by
 unfold OK
 split
 · rename_i h
   have:n=1:=by
     rw[b6Z,beq_iff_eq,beq_iff_eq] at h
     rcases h with h | h
     · exact h
     · exact absurd h (show ¬(1=0) by decide)
   subst this;rfl
 · show(List.foldl _ _ _:Array Nat).toList=_
   rw[PZ]
   show []++(a4Z n.toNat [c]).flatten=_
   rw[List.nil_append]
   induction n.toNat with
   | zero=>rfl
   | succ m ih=>rw[b2Q,List.flatten_cons,ih,b2Q];rfl
end DL
namespace L2
open PySem PySem.Spec PyProof.Rows
abbrev FT (F:List Addr) (S:Heap->Prop):Prop:=∀h h':Heap,S h->(∀c∈F,∀o,h.get? c=some o->h'.get? c=some o)->S h'
abbrev NxI (P:Program) (w:World) (A:Around) (i:Addr) (S S':Heap->Prop) (R:Value->Prop):Prop:=
 ∀(s:Shared) (Q:Value->Shared->Prop) (E:Value->Shared->Prop),S s.heap->(∀h' tk x,R x->S' h'->Heap.SameBut i s.heap h'->Q x { s with heap:=h',toks:=tk })->wpAny (model P w) A (a2X (.ref i)) Q E s
abbrev NxE (P:Program) (w:World) (A:Around) (i:Addr) (S:Heap->Prop):Prop:=
 ∀(s:Shared) (Q:Value->Shared->Prop) (E:Value->Shared->Prop),S s.heap->(∀h' e,Heap.ExtBut i s.heap h'->(∃o,h'.get? e=some o/\o.cls = .type "StopIteration")->E (.ref e) { s with heap:=h' })->wpAny (model P w) A (a2X (.ref i)) Q E s
structure ZAp (z TI TO i1 i2:Addr) (F1 F2:List Addr):Prop where
 tz:TO≠z
 az:i1≠z
 bz:i2≠z
 ta:TO≠i1
 tb:TO≠i2
 ab:i1≠i2
 f1:∀c∈F1,c≠z/\c≠TO/\c≠i2
 f2:∀c∈F2,c≠z/\c≠TO/\c≠i1
section
variable {prog:Program}{w:World}{A:Around}{E:Value->Shared->Prop}{s:Shared}{z TI TO i1 i2:Addr}{F1 F2:List Addr}{S1 S1' S2 S2':Heap->Prop}{R1 R2:Value->Prop}{a b:Value}
theorem dF {Q:Value->Shared->Prop}(D:ZAp z TI TO i1 i2 F1 F2) (t1:FT F1 S1) (t1':FT F1 S1') (t2:FT F2 S2) (t2':FT F2 S2') (n1:NxI prog w A i1 S1 S1' R1) (n2:NxI prog w A i2 S2 S2' R2)
   (hz:IsZip s.heap z TI TO .none) (hTI:IsPair s.heap TI (.ref i1) (.ref i2)) (hTO:IsPair s.heap TO a b) (h1:S1 s.heap) (h2:S2 s.heap)
   (l1:∀h,S1' h->i1 < h.objs.size) (l2:∀h,S2' h->i2 < h.objs.size)
   (hQ:∀h' tk x y,R1 x->R2 y->IsZip h' z TI TO (rawInt s.heap.objs.size)->IsPair h' TO x y->S1' h'->S2' h'->IsPair h' s.heap.objs.size x y->h'.objs.size=s.heap.objs.size+1 ->
     (∀c o,c≠z->c≠TO->c≠i1->c≠i2->s.heap.get? c=some o->h'.get? c=some o)->Q (.ref s.heap.objs.size) { s with heap:=h',toks:=tk }) :
   wpAny (model prog w) A (Builtin.«zip.__next__» ⟨[.ref z],[]⟩) (fun fin s'=>∃v,fin = .done (.ret v)/\Q v s') E s:=by
 show wpAny _ _ (field (.ref z) 2 >>= _) _ _ _
 refine zZ (wpAny_field hz rfl (x:=.bool false) rfl ?_);show wpAny _ _ (field (.ref z) 3 >>= _) _ _ _
 refine zZ (wpAny_field hz rfl (x:=.ref TI) rfl ?_);refine zZ (wpAny_seqItems hTI rfl ?_)
 show wpAny _ _ (a2K (.ref z) >>= _) _ _ _;refine zZ ?_;unfold a2K
 refine zZ (wpAny_field hz rfl (x:=.none) rfl (zY ?_));simp only[if_true];refine zZ (wpAny_rule ?_)
 refine zZ (wpAny_field hz rfl (x:=.ref TO) rfl ?_);refine zZ (wpAny_setField_rec hz (by simp) fun g1 y1 q1=>?_)
 replace y1:IsZip g1 z TI TO .ellipsis:=y1
 refine zZ ?_;simp only[List.forIn_cons,List.forIn_nil,c0J,List.zipIdx_nil]
 refine zZ (zZ (wpAny_onRaise ?_));show wpAny _ _ (a2X (.ref i1) >>= _) _ _ _
 refine zZ (n1 _ _ _ (t1 _ _ h1 fun c hc o e=>q1.extBut _ _ (D.f1 c hc).1 e) fun g2 k2 x rx x2 q2=>zY ?_)
 have p2:IsPair g2 TO a b:=q2.extBut _ _ D.ta (q1.extBut _ _ D.tz hTO)
 refine zZ (wpAny_seqItems p2 rfl ?_);refine zZ (wpAny_updateSeq_pair p2 fun g3 p3 q3=>?_)
 replace p3:IsPair g3 TO x b:=p3
 refine zZ (wpAny_letGo (zY ?_));refine zZ (zZ (wpAny_onRaise ?_));show wpAny _ _ (a2X (.ref i2) >>= _) _ _ _
 refine zZ (n2 _ _ _ (t2 _ _ h2 fun c hc o e=>q3.extBut _ _ (D.f2 c hc).2.1 (q2.extBut _ _ (D.f2 c hc).2.2 (q1.extBut _ _ (D.f2 c hc).1 e))) fun g4 k4 y ry x4 q4=>zY ?_)
 have p4:IsPair g4 TO x b:=q4.extBut _ _ D.tb p3
 refine zZ (wpAny_seqItems p4 rfl ?_);refine zZ (wpAny_updateSeq_pair p4 fun g5 p5 q5=>?_)
 replace p5:IsPair g5 TO x y:=p5
 refine zZ (wpAny_letGo (zY (zY ?_)));refine zZ (wpAny_seqItems p5 rfl ?_);refine zZ (wpAny_newTuple ?_)
 have hsz:g5.objs.size=s.heap.objs.size:=by rw[q5.1,q4.1,q3.1,q2.1,q1.1]
 have y5:IsZip g5 z TI TO .ellipsis:=q5.extBut _ _ D.tz.symm (q4.extBut _ _ D.bz.symm (q3.extBut _ _ D.tz.symm (q2.extBut _ _ D.az.symm y1)))
 have k5:∀c o,c≠z->c≠TO->c≠i1->c≠i2->s.heap.get? c=some o->g5.get? c=some o:=fun c o c1 c2 c3 c4 e=>q5.extBut _ _ c2 (q4.extBut _ _ c4 (q3.extBut _ _ c2 (q2.extBut _ _ c3 (q1.extBut _ _ c1 e))))
 have x25:S1' g5:=t1' _ _ x2 fun c hc o e=>q5.extBut _ _ (D.f1 c hc).2.1 (q4.extBut _ _ (D.f1 c hc).2.2 (q3.extBut _ _ (D.f1 c hc).2.1 e))
 have x45:S2' g5:=t2' _ _ x4 fun c hc o e=>q5.extBut _ _ (D.f2 c hc).2.1 e
 have ltz:z < g5.objs.size:=zM y5
 show wpAny _ _ (b6V (.ref z) (.ref g5.objs.size) >>= _) _ _ _;refine zZ ?_;unfold b6V
 have y6:IsZip (g5.push { cls:=.type "tuple", data:=.seq #[x,y] }) z TI TO .ellipsis:=zW _ y5
 refine zZ (wpAny_setField_rec y6 (by simp) fun g7 y7 q7=>?_)
 replace y7:IsZip g7 z TI TO (rawInt g5.objs.size):=y7
 refine wpAny_setField_rec y7 (by simp) fun g8 y8 q8=>?_
 replace y8:IsZip g8 z TI TO (rawInt g5.objs.size):=y8
 have up:∀c o,c≠z->g5.get? c=some o->g8.get? c=some o:=fun c o c1 e=>q8.extBut _ _ c1 (q7.extBut _ _ c1 (zW _ e))
 have p8:IsPair g8 g5.objs.size x y:=q8.extBut _ _ (a8Z ltz) (q7.extBut _ _ (a8Z ltz) (yZ _ rfl))
 have s8:g8.objs.size=g5.objs.size+1:=by rw[q8.1,q7.1,a8J]
 rw[hsz] at y8 p8 s8
 refine zY ⟨_,rfl,?_⟩;show Q (.ref g5.objs.size) _;rw[hsz]
 exact hQ g8 _ x y rx ry y8 (up _ _ D.tz p5) (t1' _ _ x25 fun c hc o e=>up c o (D.f1 c hc).1 e) (t2' _ _ x45 fun c hc o e=>up c o (D.f2 c hc).1 e) p8 s8 fun c o c1 c2 c3 c4 e=>up c o c1 (k5 c o c1 c2 c3 c4 e)
theorem dG {Q:Fin->Shared->Prop}(D:ZAp z TI TO i1 i2 F1 F2) (t1:FT F1 S1) (n1:NxE prog w A i1 S1)
   (hz:IsZip s.heap z TI TO .none) (hTI:IsPair s.heap TI (.ref i1) (.ref i2)) (hTO:IsPair s.heap TO a b) (h1:S1 s.heap)
   (hE:∀h' e tk,(∀c o,c≠z->c≠TO->c≠i1->c≠i2->s.heap.get? c=some o->h'.get? c=some o)->(∃o,h'.get? e=some o/\o.cls = .type "StopIteration")->E (.ref e) { s with heap:=h',toks:=tk }) :
   wpAny (model prog w) A (Builtin.«zip.__next__» ⟨[.ref z],[]⟩) Q E s:=by
 show wpAny _ _ (field (.ref z) 2 >>= _) _ _ _
 refine zZ (wpAny_field hz rfl (x:=.bool false) rfl ?_);show wpAny _ _ (field (.ref z) 3 >>= _) _ _ _
 refine zZ (wpAny_field hz rfl (x:=.ref TI) rfl ?_);refine zZ (wpAny_seqItems hTI rfl ?_)
 show wpAny _ _ (a2K (.ref z) >>= _) _ _ _;refine zZ ?_;unfold a2K
 refine zZ (wpAny_field hz rfl (x:=.none) rfl (zY ?_));simp only[if_true];refine zZ (wpAny_rule ?_)
 refine zZ (wpAny_field hz rfl (x:=.ref TO) rfl ?_);refine zZ (wpAny_setField_rec hz (by simp) fun g1 y1 q1=>?_)
 replace y1:IsZip g1 z TI TO .ellipsis:=y1
 refine zZ ?_;simp only[List.forIn_cons,List.forIn_nil,c0J,List.zipIdx_nil]
 refine zZ (zZ (wpAny_onRaise ?_));show wpAny _ _ (a2X (.ref i1) >>= _) _ _ _
 refine zZ (n1 _ _ _ (t1 _ _ h1 fun c hc o e=>q1.extBut _ _ (D.f1 c hc).1 e) fun g2 e q2 he=>?_)
 obtain⟨oe,hoe,hce⟩:=he
 have y2:IsZip g2 z TI TO .ellipsis:=q2 _ _ D.az.symm y1
 have ez:e≠z:=fun x=>by subst x;rw[y2] at hoe;cases hoe;simp at hce
 exact wpAny_setField_rec y2 (by simp) fun g3 _ q3=>hE g3 e _ (fun c o c1 _ c3 _ x=>q3.extBut _ _ c1 (q2 _ _ c3 (q1.extBut _ _ c1 x))) ⟨oe,q3.extBut _ _ ez hoe,hce⟩
theorem dH {Q:Fin->Shared->Prop}(D:ZAp z TI TO i1 i2 F1 F2) (t1:FT F1 S1) (t2:FT F2 S2) (n1:NxI prog w A i1 S1 S1' R1) (n2:NxE prog w A i2 S2)
   (hz:IsZip s.heap z TI TO .none) (hTI:IsPair s.heap TI (.ref i1) (.ref i2)) (hTO:IsPair s.heap TO a b) (h1:S1 s.heap) (h2:S2 s.heap)
   (hE:∀h' e tk,(∀c o,c≠z->c≠TO->c≠i1->c≠i2->s.heap.get? c=some o->h'.get? c=some o)->(∃o,h'.get? e=some o/\o.cls = .type "StopIteration")->E (.ref e) { s with heap:=h',toks:=tk }) :
   wpAny (model prog w) A (Builtin.«zip.__next__» ⟨[.ref z],[]⟩) Q E s:=by
 show wpAny _ _ (field (.ref z) 2 >>= _) _ _ _
 refine zZ (wpAny_field hz rfl (x:=.bool false) rfl ?_);show wpAny _ _ (field (.ref z) 3 >>= _) _ _ _
 refine zZ (wpAny_field hz rfl (x:=.ref TI) rfl ?_);refine zZ (wpAny_seqItems hTI rfl ?_)
 show wpAny _ _ (a2K (.ref z) >>= _) _ _ _;refine zZ ?_;unfold a2K
 refine zZ (wpAny_field hz rfl (x:=.none) rfl (zY ?_));simp only[if_true];refine zZ (wpAny_rule ?_)
 refine zZ (wpAny_field hz rfl (x:=.ref TO) rfl ?_);refine zZ (wpAny_setField_rec hz (by simp) fun g1 y1 q1=>?_)
 replace y1:IsZip g1 z TI TO .ellipsis:=y1
 refine zZ ?_;simp only[List.forIn_cons,List.forIn_nil,c0J,List.zipIdx_nil]
 refine zZ (zZ (wpAny_onRaise ?_));show wpAny _ _ (a2X (.ref i1) >>= _) _ _ _
 refine zZ (n1 _ _ _ (t1 _ _ h1 fun c hc o e=>q1.extBut _ _ (D.f1 c hc).1 e) fun g2 k2 x rx x2 q2=>zY ?_)
 have p2:IsPair g2 TO a b:=q2.extBut _ _ D.ta (q1.extBut _ _ D.tz hTO)
 refine zZ (wpAny_seqItems p2 rfl ?_);refine zZ (wpAny_updateSeq_pair p2 fun g3 p3 q3=>?_)
 refine zZ (wpAny_letGo (zY ?_));refine zZ (zZ (wpAny_onRaise ?_));show wpAny _ _ (a2X (.ref i2) >>= _) _ _ _
 refine zZ (n2 _ _ _ (t2 _ _ h2 fun c hc o e=>q3.extBut _ _ (D.f2 c hc).2.1 (q2.extBut _ _ (D.f2 c hc).2.2 (q1.extBut _ _ (D.f2 c hc).1 e))) fun g4 e q4 he=>?_)
 obtain⟨oe,hoe,hce⟩:=he
 have y4:IsZip g4 z TI TO .ellipsis:=q4 _ _ D.bz.symm (q3.extBut _ _ D.tz.symm (q2.extBut _ _ D.az.symm y1))
 have ez:e≠z:=fun x=>by subst x;rw[y4] at hoe;cases hoe;simp at hce
 exact wpAny_setField_rec y4 (by simp) fun g5 _ q5=>hE g5 e _ (fun c o c1 c2 c3 c4 x=>q5.extBut _ _ c1 (q4 _ _ c4 (q3.extBut _ _ c2 (q2.extBut _ _ c3 (q1.extBut _ _ c1 x))))) ⟨oe,q5.extBut _ _ ez hoe,hce⟩
theorem dI {Q:Option Value->Shared->Prop}(D:ZAp z TI TO i1 i2 F1 F2) (t1:FT F1 S1) (t1':FT F1 S1') (t2:FT F2 S2) (t2':FT F2 S2') (n1:∀A:Around,NxI prog w A i1 S1 S1' R1) (n2:∀A:Around,NxI prog w A i2 S2 S2' R2)
   (hz:IsZip s.heap z TI TO .none) (hTI:IsPair s.heap TI (.ref i1) (.ref i2)) (hTO:IsPair s.heap TO a b) (h1:S1 s.heap) (h2:S2 s.heap)
   (l1:∀h,S1' h->i1 < h.objs.size) (l2:∀h,S2' h->i2 < h.objs.size)
   (hQ:∀h' tk x y,R1 x->R2 y->IsZip h' z TI TO (rawInt s.heap.objs.size)->IsPair h' TO x y->S1' h'->S2' h'->IsPair h' s.heap.objs.size x y->h'.objs.size=s.heap.objs.size+1 ->
     (∀c o,c≠z->c≠TO->c≠i1->c≠i2->s.heap.get? c=some o->h'.get? c=some o)->Q (some (.ref s.heap.objs.size)) { s with heap:=h',toks:=tk }) :
   wpAny (model prog w) A (pyNext (.ref z)) Q E s:=by
 have hT:s.TypeIs (.ref z) "zip" := ⟨_,hz,rfl⟩
 unfold pyNext
 exact zZ (wpAny_attempt (wpAny_callSpecial?_slot (name:=a0Q "__next__") hT F.slot_zip_next (wpAny_call_entry F.slot_zip_next hT F.entry_zip_next
   (dF D t1 t1' t2 t2' (n1 _) (n2 _) hz hTI hTO h1 h2 l1 l2 fun h' tk x y b1 b2 b3 b4 b5 b6 b7 b8 b9=>zY (hQ h' tk x y b1 b2 b3 b4 b5 b6 b7 b8 b9)) (F.args_zip_next_1 _))))
theorem dJ {Q:Option Value->Shared->Prop}(hh:A.handled=none) (hz:IsZip s.heap z TI TO .none)
   (h:∀(Q':Fin->Shared->Prop) (E':Value->Shared->Prop),(∀h' e tk,(∀c o,c≠z->c≠TO->c≠i1->c≠i2->s.heap.get? c=some o->h'.get? c=some o)->(∃o,h'.get? e=some o/\o.cls = .type "StopIteration")->E' (.ref e) { s with heap:=h',toks:=tk }) ->
     ∀A':Around,A'.handled=none->wpAny (model prog w) A' (Builtin.«zip.__next__» ⟨[.ref z],[]⟩) Q' E' s)
   (hQ:∀h' tk,(∀c o,c≠z->c≠TO->c≠i1->c≠i2->s.heap.get? c=some o->h'.get? c=some o)->Q none { s with heap:=h',toks:=tk }):wpAny (model prog w) A (pyNext (.ref z)) Q E s:=by
 have hT:s.TypeIs (.ref z) "zip" := ⟨_,hz,rfl⟩
 unfold pyNext
 refine zZ (wpAny_attempt (wpAny_callSpecial?_slot (name:=a0Q "__next__") hT F.slot_zip_next (wpAny_call_entry F.slot_zip_next hT F.entry_zip_next (h _ _ (fun h' e tk hk he=>?_) _ ?_) (F.args_zip_next_1 _))))
 · obtain⟨o,ho,hc⟩:=he
   refine zZ (wpAny_isInstance (T:= "StopIteration") (b:=true) ⟨o,ho,hc⟩ isSubtype_stop ?_)
   exact zY (hQ _ _ hk)
 · exact hh
end
end L2
namespace L2
open PySem PySem.Spec PyProof.Rows
section
variable {prog:Program}{w:World}{A:Around}{E:Value->Shared->Prop}{s:Shared}
theorem Z2 {i t:Addr}{k:Nat}{items:Array Value}{y:Value}(hne:t≠i) (hx:items[k]?=some y):NxI prog w A i (fun h=>h.IsTupleIter i t k/\h.IsTuple t items) (fun h=>h.IsTupleIter i t (k+1)/\h.IsTuple t items) (fun v=>v=y):=fun s Q E hS hQ=>by
 obtain⟨hit,ht⟩:=hS
 obtain⟨o,ho,hc,hd⟩:=id hit
 obtain⟨ol,hol,hcl,nl,hdl⟩:=id ht
 unfold a2X;refine zZ (wpAny_callSpecial?_slot (name:=a0Q "__next__") hit.typeIs b1J (wpAny_call_entry b1J hit.typeIs F.entry_tuple_iterator_next ?_ (F.args_tuple_iterator_next_1 _)))
 show wpAny _ _ (field (.ref i) 0 >>= _) _ _ s
 refine zZ (wpAny_field ho hd (x:=.ref t) rfl ?_);show wpAny _ _ (if (a0Z t==a2Z)=true then _ else _) _ _ s
 rw[if_neg (show ¬((a0Z t==a2Z)=true) from nft)];show wpAny _ _ (field (.ref i) 1 >>= _) _ _ s
 refine zZ (wpAny_field ho hd (x:=.int k 0) rfl ?_);show wpAny _ _ (seqItems? (.ref t) >>= _) _ _ s
 refine zZ (wpAny_seqItems hol hdl ?_);simp only[a2J,hx]
 refine zZ (wpAny_setField ho hd (by simp) (zY ⟨y,rfl,zY (hQ _ s.toks y rfl ⟨?_,ht.extBut (b9K ..).extBut hne⟩ (b9K ..))⟩))
 exact⟨_,a6Q _ ho (Obj.isFreed_of_fields (b0K hd _)),(Obj.cls_mapFields ..).trans hc,by rw[b0K hd];simp[rawInt]⟩
abbrev WA (v:Value) (o:Obj) (Pre:Heap->Prop):Prop:=∀(prog:Program) (w:World) (A:Around) (E:Value->Shared->Prop) (s:Shared) (Q:Value->Shared->Prop),Pre s.heap->Q (.ref s.heap.objs.size) { s with heap:=s.heap.push o }->wpAny (model prog w) A (pyIter v) Q E s
theorem bF {t:Addr}{items:Array Value}:WA (.ref t) { cls:=.type "tuple_iterator", data:=.fields #[.ref t,.int 0 0] } (fun h=>h.IsTuple t items):=fun prog w A E s Q ht hQ=>wpAny_pyIter_tuple ht hQ
abbrev zH1 (h:Heap) (o1:Obj):Heap:=h.push o1
abbrev zH2 (h:Heap) (o1 o2:Obj):Heap:=(zH1 h o1).push o2
abbrev zH3 (h:Heap) (o1 o2:Obj):Heap:=(zH2 h o1 o2).push { cls:=.type "tuple", data:=.seq #[.ref h.objs.size,.ref (zH1 h o1).objs.size] }
abbrev zH4 (h:Heap) (o1 o2:Obj):Heap:=(zH3 h o1 o2).push { cls:=.type "tuple", data:=.seq #[.none,.none] }
abbrev zH5 (h:Heap) (o1 o2:Obj):Heap:=(zH4 h o1 o2).push { cls:=.type "zip", data:=.fields #[.none,.bool false,.bool false,.ref (zH2 h o1 o2).objs.size,.ref (zH3 h o1 o2).objs.size] }
theorem Z3 {v1 v2:Value}{o1 o2:Obj}{Pre1 Pre2:Heap->Prop}(n1:WA v1 o1 Pre1) (n2:WA v2 o2 Pre2) (st2:∀h o,Pre2 h->Pre2 (h.push o)) :
   Meets (Builtin.«zip.__new__» ⟨[.type "zip", v1,v2],[]⟩) (fun _ R s=>Pre1 s.heap/\Pre2 s.heap/\R (.ok (.ret (.ref (zH4 s.heap o1 o2).objs.size))) { s with heap:=zH5 s.heap o1 o2 }):=
 .of_wp fun prog w A R s h=>by
   obtain⟨hp,g,d,tk,os⟩:=s
   obtain⟨p1,p2,h⟩:=h
   have hsub:=sub_zip
   have p2':Pre2 (hp.push o1):=st2 _ _ p2
   wp_walk using n1 _ _ _ _ _ _ p1,n2 _ _ _ _ _ _ p2'
   exact⟨_,rfl,h⟩
theorem dL {v1 v2:Value}{o1 o2:Obj}{Pre1 Pre2:Heap->Prop}{Q:Value->Shared->Prop}(n1:WA v1 o1 Pre1) (n2:WA v2 o2 Pre2) (st2:∀h o,Pre2 h->Pre2 (h.push o)) (f1:o1.isFreed=false) (f2:o2.isFreed=false) (h1:Pre1 s.heap) (h2:Pre2 s.heap)
   (h:∀h',IsZip h' (s.heap.objs.size+4) (s.heap.objs.size+2) (s.heap.objs.size+3) .none->IsPair h' (s.heap.objs.size+2) (.ref s.heap.objs.size) (.ref (s.heap.objs.size+1)) ->
     IsPair h' (s.heap.objs.size+3) .none .none->h'.get? s.heap.objs.size=some o1->h'.get? (s.heap.objs.size+1)=some o2->(∀c o,s.heap.get? c=some o->h'.get? c=some o)->Q (.ref (s.heap.objs.size+4)) { s with heap:=h' }) :
   wpAny (model prog w) A (call (.type "zip") [v1,v2]) Q E s:=by
 refine callType_new F.called_zip (by decide) (F.typeCall_zip_2 _ _) (F.newCall_zip_2 _ _) (fun obj=>F.args_object_init_3 obj _ _) F.entry_zip_new (Z3 n1 n2 st2) ⟨h1,h2,?_⟩
 have z1:(zH1 s.heap o1).objs.size=s.heap.objs.size+1:=a8J ..
 have z2:(zH2 s.heap o1 o2).objs.size=s.heap.objs.size+2:=by rw[a8J,z1]
 have z3:(zH3 s.heap o1 o2).objs.size=s.heap.objs.size+3:=by rw[a8J,z2]
 have z4:(zH4 s.heap o1 o2).objs.size=s.heap.objs.size+4:=by rw[a8J,z3]
 have e5:(zH5 s.heap o1 o2).get? (zH4 s.heap o1 o2).objs.size=some _:=yZ _ rfl
 have e4:(zH5 s.heap o1 o2).get? (zH3 s.heap o1 o2).objs.size=some _:=zW _ (yZ _ rfl)
 have e3:(zH5 s.heap o1 o2).get? (zH2 s.heap o1 o2).objs.size=some _:=zW _ (zW _ (yZ _ rfl))
 have e2:(zH5 s.heap o1 o2).get? (zH1 s.heap o1).objs.size=some o2:=zW _ (zW _ (zW _ (yZ _ f2)))
 have e1:(zH5 s.heap o1 o2).get? s.heap.objs.size=some o1:=zW _ (zW _ (zW _ (zW _ (yZ _ f1))))
 show _/\_
 rw[z2,z3,z4] at e5
 rw[z1,z2] at e3
 rw[z3] at e4
 rw[z1] at e2
 rw[z4]
 exact⟨⟨_,e5,rfl⟩,h _ e5 e3 e4 e1 e2 fun c o x=>zW _ (zW _ (zW _ (zW _ (zW _ x))))⟩
end
section
variable {X:Cx}{pins:List (Addr×Obj)}{σ:St}{H:Hp}{s:Shared}
theorem UE {a z:Addr}{xs:List V}(I:Inv X pins σ H s) (hf:L1 X pins H z) (h:SqT X.K H a xs):a≠z:=by
 rintro rfl
 rcases h with h | ⟨o,its,n,hk,_⟩
 · rcases h with h | ⟨o',h⟩ <;> rw[hf.1] at h <;> cases h
 · have e:=I.ok.mod.kin a o hk
   rcases hf.2.2.2.1 with z | z
   · exact I.ok.noex a o e z
   · exact absurd (zP (zM e) (zN I.ok.bsz z)) (yF _)
end
end L2
namespace L2
open PySem PySem.Spec PyProof.Rows
section
variable {X:Cx}
def w6:R2:=fun x y H Q=>(y = .non/\Q (.bl (decide (x = .non))) H)∨∃a b:Bool,x = .bl a/\y = .bl b/\Q (.bl (a==b)) H
theorem iN:OpR X (compareOp .Is) w6:=by
 intro pins s σ H x y v u Q I rx ry h
 rcases h with h | ⟨a,b,rfl,rfl,q⟩
 · exact rK pins s σ H x y v u Q I rx ry h
 · cases rx;cases ry
   refine wpAny_is_plain rfl ⟨.bl (a==b),H,I,?_,q⟩
   cases a <;> cases b <;> rfl
def pZ:R2:=fun x y H Q=>(y = .non/\Q (.bl (!decide (x = .non))) H)∨∃a b:Bool,x = .bl a/\y = .bl b/\Q (.bl (!(a==b))) H
theorem bG:OpR X (compareOp .IsNot) pZ:=by
 intro pins s σ H x y v u Q I rx ry h
 rcases h with h | ⟨a,b,rfl,rfl,q⟩
 · exact lQ pins s σ H x y v u Q I rx ry h
 · cases rx;cases ry
   refine wpAny_isNot_plain rfl ⟨.bl (!(a==b)),H,I,?_,q⟩
   cases a <;> cases b <;> rfl
end
end L2
namespace DL
open PySem PySem.Spec L2
section
variable {K:Frg}{ρ:List (Option DS)}{M:Own}{Q:DS->Own->Prop}{QI:List PyData->Own->Prop}
theorem bH {d:PyData}(q:Q (.d (.bool (BI d))) M):D2 K w6 (.d d) (.d .none) M Q:=FQ (tK q)
theorem GZ {d:PyData}(q:Q (.d (.bool (!BI d))) M):D2 K pZ (.d d) (.d .none) M Q:=FQ (mZ q)
def DPs (K:Frg) (trs:List (TE×TE)) (ρ:List (Option DS)) (M:Own) (Q:List (Str×PyData)->Own->Prop):Prop:=
 ∀(σ:St) (H:Hp) (QQ:List (V×V)->Hp->Prop),Rel K M ρ σ H->(∀ps H' kds M',OA K H' M'->(∃vs,DVs K H' M'.W (kds.map (·.2)) vs/\ps=(kds.map fun k=>V.str k.1).zip vs)->Step K M M' H H'->Q kds M'->QQ ps H')->U0 trs σ H QQ
theorem HV {Q:List (Str×PyData)->Own->Prop}(h:Q [] M):DPs K [] ρ M Q:=fun σ H QQ R k=>k [] H [] M R.own ⟨[],DVs.nil,rfl⟩ Step.refl h
theorem BA {tk tv:TE}{trs:List (TE×TE)}{Q:List (Str×PyData)->Own->Prop}(h:DE K tk ρ M fun x M1=>∃k,x = .d (.str k)/\DE K tv ρ M1 fun y M2=>∃d,y = .d d/\DPs K trs ρ M2 fun kds M3=>Q ((k,d)::kds) M3):DPs K ((tk,tv)::trs) ρ M Q:=fun σ H QQ R kk=>
 h σ H _ R fun v H1 x M1 o1 s1 t1 h1=>by
   obtain⟨k,rfl,h1⟩:=h1
   refine h1 σ H1 _ (R.step o1 t1) fun u H2 y M2 o2 s2 t2 h2=>?_
   obtain⟨d,rfl,h2⟩:=h2
   refine h2 σ H2 _ (R.step o2 (t1.trans t2)) fun ps H3 kds M3 o3 ⟨vs,s3,e3⟩ t3 q=>?_
   refine kk _ H3 ((k,d)::kds) M3 o3 ⟨u::vs,DVs.cons (DV.grow t3.grow s2) s3,?_⟩ ((t1.trans t2).trans t3) q
   rw[CD s1,e3];rfl
theorem NX:∀(kvs acc:List (Key×V)),((acc++kvs).map (·.1)).Nodup->J7 acc kvs=acc++kvs
 | [],acc,_=>by simp[J7]
 | kv::r,acc,h=>by
   have h1:(acc.any fun x=>decide (x.1=kv.1))=false:=by
     rw[b9X]
     intro x hx
     rw[xI,List.nodup_append] at h
     have:=h.2.2 x.1 (zL.mpr ⟨x,hx,rfl⟩) kv.1 (by simp)
     simpa using this
   show J7 (EX acc kv.1 kv.2) r=_
   have e:EX acc kv.1 kv.2=acc++[kv]:=by
     unfold EX
     rw[h1];rfl
   rw[e,NX r (acc++[kv]) (by rw[b3V];exact h)]
   simp
theorem iO {H:Hp}{W:Addr->Prop}:∀{kds:List (Str×PyData)}{vs:List V},DVs K H W (kds.map (·.2)) vs->DKV K H W (kds.map fun k=>(.str k.1,k.2)) ((kds.map fun k=>(a1K k.1:Key)).zip vs)
 | [],vs,h=>by unfold DKV;rfl
 | (k,d)::r,vs,h=>by
   rw[zI] at h
   unfold DVs at h
   obtain⟨v,r',rfl,h1,h2⟩:=h
   rw[zI]
   unfold DKV
   exact⟨a1K k,v,_,rfl,rfl,h1,iO h2⟩
theorem WB:∀(kds:List (Str×PyData)) (vs:List V),vs.length=kds.length->(kds.map fun k=>V.str k.1).zip vs=((kds.map fun k=>(a1K k.1:Key)).zip vs).map fun kv=>(kV kv.1,kv.2)
 | [],vs,_=>by simp
 | a::r,[],h=>by cases h
 | a::r,v::vs,h=>by
   rw[zI,zI,a6J,a6J,zI,WB r vs (by simpa using h)];rfl
theorem FU {trs:List (TE×TE)}(h:∀p,M p=none->DPs K trs ρ (M.put p (.d [])) fun kds M1=>M1 p=some (.d [])/\kds.length<=15/\(kds.map (·.1)).Nodup/\Q (.d (.dict (kds.map fun k=>(.str k.1,k.2)))) (M1.del p)):DE K (pN trs) ρ M Q:=fun σ H QQ R k p hp=>by
 have hMp:=R.own.none hp
 obtain⟨oa0,st0⟩:=LS (kvs:=[]) (ks:=[]) R.own hp (by unfold DKV;rfl)
 refine h p hMp σ _ _ (R.step oa0 st0) fun ps H2 kds M2 o2 ⟨vs,hd,e⟩ t2 h2=>?_
 obtain⟨hm,hl,nd,q⟩:=h2
 obtain⟨ks,q1,q2⟩:=o2 p _ hm
 unfold DKV at q2
 subst q2
 have hlen:vs.length=kds.length:=by rw[hd.length,zX]
 refine⟨q1,(kds.map fun k=>(a1K k.1:Key)).zip vs,?_,by rw[List.length_zip,zX];omega,?_⟩
 · rw[e];exact WB kds vs hlen
 · have hk:(((kds.map fun k=>(a1K k.1:Key)).zip vs).map (·.1)).Nodup:=by
     rw[List.map_fst_zip (by rw[zX,hlen];exact zR _)]
     have:kds.map (fun k=>(a1K k.1:Key))=(kds.map (·.1)).map a1K:=by rw[zD];rfl
     rw[this]
     unfold List.Nodup
     rw[a5V]
     exact nd.imp fun {a b} q e=>q (by injection e)
   rw[NX _ [] (by simpa using hk),List.nil_append]
   obtain⟨o3,t3⟩:=FR (kvs:=kds.map fun k=>(.str k.1,k.2)) (ks:=(kds.map fun k=>(a1K k.1:Key)).zip vs) o2 hm (iO hd)
   have hs:(M2.del p).Sub (M2.put p (.d (kds.map fun k=>(.str k.1,k.2)))):=fun b o e=>by
     unfold Own.del at e
     by_cases hb:b=p
     · rw[if_pos hb] at e;cases e
     · rw[if_neg hb] at e;rw[yH hb];exact e
   refine k _ _ (.d (.dict (kds.map fun k=>(.str k.1,k.2)))) (M2.del p) (o3.sub hs) ?_ (((st0.trans t2).trans t3).trans ⟨B1 hs⟩) q
   obtain⟨ks',q1',q2'⟩:=o3 p _ zU
   unfold SI DV
   exact⟨p,ks',rfl,fun w=>w (by unfold Own.del;rw[if_pos rfl]),.inl q1',q2'.grow (B1 hs)⟩
def IK (k:Str):List (PyData×PyData)->Option PyData
 | (.str a,d)::r=>if a=k then some d else IK k r
 | _::r=>IK k r
 | []=>none
theorem bI {H:Hp}{W:Addr->Prop}{k:Str}:∀{kvs:List (PyData×PyData)}{ks:List (Key×V)},DKV K H W kvs ks->(∃d v,IK k kvs=some d/\G5 ks (a1K k)=some v/\DV K H W d v)∨(IK k kvs=none/\G5 ks (a1K k)=none)
 | [],ks,h=>by unfold DKV at h;subst h;exact .inr ⟨rfl,rfl⟩
 | (kd,d)::r,ks,h=>by
   unfold DKV at h
   obtain⟨k',v,r',rfl,rfl,h1,h2⟩:=h
   have ih:=bI (k:=k) h2
   unfold G5 at ih ⊢
   rw[a7X]
   cases k' with
   | inl i=>
     have e1:decide ((a5X i:Key)=a1K k)=false:=rfl
     rw[e1]
     exact ih
   | inr a=>
     by_cases e:a=k
     · subst e
       left
       exact⟨d,v,by simp[cU,IK],by simp,h1⟩
     · have e1:decide ((a1K a:Key)=a1K k)=false:=decide_eq_false fun q=>e (by injection q)
       rw[e1]
       rcases ih with ⟨d',v',a1,a2,a3⟩ | ⟨a1,a2⟩
       · exact .inl ⟨d',v',by simp only[cU,IK,if_neg e];exact a1,a2,a3⟩
       · exact .inr ⟨by simp only[cU,IK,if_neg e];exact a1,a2⟩
theorem FV {td ty tx:TE}(h:DE K td ρ M fun x M1=>∃kvs,x = .d (.dict kvs)/\DE K ty ρ M1 fun y M2=>∃k,y = .d (.str k)/\DE K tx ρ M2 fun z M3=>∃dz,z = .d dz/\Q (.d ((IK k kvs).getD dz)) M3):DE K (gH td ty tx) ρ M Q:=fun σ H QQ R kk=>
 h σ H _ R fun v H1 x M1 o1 s1 t1 h1=>by
   obtain⟨kvs,rfl,h1⟩:=h1
   have s1':=s1
   unfold SI DV at s1'
   obtain⟨a,ks,rfl,nw,ha,hk⟩:=s1'
   refine⟨a,rfl,.inl ⟨ks,ha⟩,h1 σ H1 _ (R.step o1 t1) fun u H2 y M2 o2 s2 t2 h2=>?_⟩
   obtain⟨k,rfl,h2⟩:=h2
   refine h2 σ H2 _ (R.step o2 (t1.trans t2)) fun z H3 zz M3 o3 s3 t3 h3=>?_
   obtain⟨dz,rfl,q⟩:=h3
   have s1'':=s1.step (t2.trans t3)
   unfold SI DV at s1''
   obtain⟨a',ks',e,nw',ha',hk'⟩:=s1''
   cases e
   rw[CD s2]
   rcases bI (k:=k) hk' with ⟨d,v,e1,e2,e3⟩ | ⟨e1,e2⟩
   · rw[e1] at q
     exact⟨some v,.inl ⟨ks',a1K k,ha',rfl,e2.symm⟩,kk _ H3 (.d d) M3 o3 e3 ((t1.trans t2).trans t3) q⟩
   · rw[e1] at q
     exact⟨none,.inl ⟨ks',a1K k,ha',rfl,e2.symm⟩,kk _ H3 (.d dz) M3 o3 s3 ((t1.trans t2).trans t3) q⟩
end
end DL
namespace L2
open PySem PySem.Spec PyProof.Rows
section
variable {prog:Program}{w:World}{A:Around}{E:Value->Shared->Prop}{s:Shared}
theorem WC {it l:Addr}{its:Array Value}(hne:l≠it):∀(n i:Nat) (s:Shared) (Q:List Value->Shared->Prop),s.heap.IsListIter it l i->s.heap.IsList l its->i+n<=its.size ->
   (∀h',h'.IsListIter it l (i+n)->Heap.SameBut it s.heap h'->Q ((its.toList.drop i).take n) { s with heap:=h' })->wpAny (model prog w) A (draw (.ref it) n) Q E s
 | 0,i,s,Q,hit,_,_,hQ=>by
   show wpAny _ _ (pure []) Q E s;exact zY (by simpa using hQ s.heap hit (Heap.SameBut.refl ..))
 | n+1,i,s,Q,hit,hl,hle,hQ=>by
   have hlt:i < its.size:=by omega
   show wpAny _ _ (pyNext (.ref it) >>= _) Q E s;refine zZ (wpAny_pyNext_list_item hit hl (x:=its[i]) (by simp[hlt]) fun g1 t1 q1=>?_)
   refine zZ (wpAny_holding (WC hne n (i+1) _ _ t1 (hl.extBut q1.extBut hne) (by omega) fun g2 t2 q2=>zY ?_))
   have hd:its.toList.drop i=its[i]::its.toList.drop (i+1):=by simp[b8Z,hlt]
   have h3:=hQ g2 (by rw[show i+(n+1)=i+1+n by omega];exact t2) (q1.trans q2)
   rw[hd,b6X] at h3
   exact h3
theorem Z4 {l:Addr}{its:Array Value}{Q:List Value->Shared->Prop}(hh:A.handled=none) (hl:s.heap.IsList l its)
   (hQ:∀h',Heap.ExtBut s.heap.objs.size s.heap h'->Q its.toList { s with heap:=h' }):wpAny (model prog w) A (unpackItems (.ref l) its.size none) Q E s:=by
 have hne:l≠s.heap.objs.size:=by obtain⟨o,ho,_⟩:=hl;exact zC (zM ho)
 unfold unpackItems;refine zZ ?_;unfold notIterableAtAll
 refine zZ (wpAny_specialOf hl.typeIs F.slot_list_iter.lookup ?_);refine zY ?_;simp only[b2W,if_false]
 refine zZ (wpAny_holding (wpAny_pyIter_list hl ?_))
 refine zZ (wpAny_holding (WC hne its.size 0 _ _ ⟨_,yZ _ rfl,rfl,rfl⟩ (hl.push _) (by omega) fun g1 t1 q1=>?_))
 rw[show List.take its.size (List.drop 0 its.toList)=its.toList by rw[List.drop_zero];exact a5J (by simp),if_neg (by simp)]
 refine zZ (wpAny_holding (wpAny_pyNext_list_end hh t1 ((hl.push _).extBut q1.extBut hne) (by simp) fun g2 e2=>?_));simp only[Option.isSome_none,b2W,if_false]
 exact zY (hQ g2 fun b o hb e=>e2 b o hb (q1.extBut b o hb (zW _ e)))
end
section
variable {X:Cx}{pos:Pos}
def iP (K:Frg) (n:Nat) (t:TGs):TG:=fun v σ H Q=>∃a xs,v = .ref a/\(SqT K H a xs∨SqL K H a xs)/\xs.length=n/\t xs σ H Q
theorem nI {es:List Expr}{k:Nat}{t:TGs}{n:Nat}(hc:X.calm=true) (h:PGs X es t)
   (hn:(assignEach es X.env).length=n:=by rfl) (hst:(assignEach es X.env).findIdx? (·.1)=none:=by rfl):PG X (.Tuple es k pos) (iP X.K n t):=by
 intro pins s σ H v u Q I r hw
 obtain⟨a,xs,e1,hq,hl,hw⟩:=hw
 rcases hq with hq | hq
 · exact fT hc h hn hst pins s σ H v u Q I r ⟨a,xs,e1,hq,hl,hw⟩
 · subst e1
   cases r
   obtain⟨its,rv,pl,hz⟩:=I.list hq
   rw[arm_assign_Tuple]
   refine zZ (wpAny_standAt ?_)
   unfold unpack
   rw[show(assignEach es X.env).length=its.toArray.size by simp[hn,← hl,rv.length],hst]
   refine zZ (wpAny_holding (Z4 (I.ok.hd hc) pl.isList fun h' hx=>?_))
   have I1:Inv X pins σ H { s with heap:=h' }:=I.kept (t':=s.toks) fun b o e=>hx b o (zC (zM e)) e
   exact h pins _ σ H xs _ Q I1 (by simpa using rv) hw
end
end L2
namespace DL
open PySem PySem.Spec L2
theorem bJ {X:Cx}{K:Frg}{pos:Pos}{es:List Expr}{k:Nat}{t:TGs}{n:Nat}(hK:X.K=K) (hc:X.calm=true) (h:PGs X es t)
   (hn:(assignEach es X.env).length=n:=by rfl) (hst:(assignEach es X.env).findIdx? (·.1)=none:=by rfl):PG X (.Tuple es k pos) (iP K n t):=hK▸nI hc h hn hst
section
variable {K:Frg}{M:Own}{ρ:List (Option DS)}{P:List (Option DS)->Own->Prop}
theorem nJ {n:Nat}{g:TGs}{ds:List PyData}(hn:ds.length=n) (h:DGs K g ds ρ M P):DG K (iP K n g) (.tuple ds) ρ M P:=fun σ H v QQ R dv k=>by
 unfold DV at dv
 obtain⟨a,vs,rfl,hl,hd⟩:=dv
 exact⟨a,vs,rfl,.inl hl.sq,by rw[hd.length];exact hn,h σ H vs QQ R hd k⟩
end
end DL
namespace L2
open PySem PySem.Spec PyProof.Rows PySem.W
section
variable {n:Nat}{lt:Nat->Nat->Bool}
def Good (n:Nat) (lt:Nat->Nat->Bool) {α:Type}(P:α->Prop):KasT α->Prop
 | .ret a=>P a
 | .ask i j k=>i < n/\j < n/\i≠j/\Good n lt P (k (lt i j))
theorem Good.mono {α:Type}{P Q:α->Prop}(h:∀a,P a->Q a):∀{t:KasT α},Good n lt P t->Good n lt Q t
 | .ret _,g=>h _ g
 | .ask _ _ _,⟨a,b,c,g⟩=>⟨a,b,c,Good.mono h g⟩
theorem Good.bind {α β:Type}{P:β->Prop}{f:α->KasT β}:∀{t:KasT α},Good n lt (fun a=>Good n lt P (f a)) t->Good n lt P (t.bind f)
 | .ret _,g=>g
 | .ask _ _ _,⟨a,b,c,g⟩=>⟨a,b,c,Good.bind g⟩
theorem Good.wp {α:Type}{cmp:Nat->Nat->(Bool->Shared->Prop)->Shared->Prop}{s:Shared}{P:α->Prop}{Q:α->Shared->Prop}
   (hc:∀i j (C:Bool->Shared->Prop),i < n->j < n->i≠j->C (lt i j) s->cmp i j C s) (hq:∀a,P a->Q a s):∀{t:KasT α},Good n lt P t->t.kasWp cmp Q s
 | .ret a,g=>hq a g
 | .ask i j k,⟨a,b,c,g⟩=>hc i j _ a b c (Good.wp hc hq g)
structure Strict (n:Nat) (lt:Nat->Nat->Bool):Prop where
 irr:∀i,lt i i=false
 tr:∀i j k,lt i j=true->lt j k=true->lt i k=true
 tot:∀i j,i < n->j < n->i≠j->lt i j=true∨lt j i=true
def Pm (n:Nat) (p:Array Nat):Prop:=p.toList.Perm (a0V n)
theorem Pm.size {p:Array Nat}(h:Pm n p):p.size=n:=by have:=h.length_eq;simpa using this
theorem Pm.bel {p:Array Nat}(h:Pm n p) {i:Nat}(hi:i < n):p.getD i 0 < n:=by
 have hs:i < p.size:=by rw[h.size];exact hi
 have:p[i]∈a0V n:=h.mem_iff.mp (by simp)
 simp only[Array.getD,hs,dite_true]
 exact List.mem_range.mp this
theorem tU {l:List Nat}(nd:l.Nodup) {i j:Nat}{hi:i < l.length}{hj:j < l.length}(e:l[i]=l[j]):i=j:=by
 rcases b4Z i j with h | h | h
 · exact absurd e (List.pairwise_iff_getElem.mp nd i j hi hj h)
 · exact h
 · exact absurd e.symm (List.pairwise_iff_getElem.mp nd j i hj hi h)
theorem Pm.inj {p:Array Nat}(h:Pm n p) {i j:Nat}(hi:i < n) (hj:j < n) (hij:i≠j):p.getD i 0≠p.getD j 0:=by
 have hsi:i < p.size:=by rw[h.size];exact hi
 have hsj:j < p.size:=by rw[h.size];exact hj
 simp only[Array.getD,hsi,hsj,dite_true]
 have nd:p.toList.Nodup:=h.nodup_iff.mpr List.nodup_range
 intro e
 have e':p.toList[i]'(by simpa using hsi)=p.toList[j]'(by simpa using hsj):=by simpa using e
 exact hij (tU nd e')
def Up (lt:Nat->Nat->Bool) (p:Array Nat) (k:Nat):Prop:=∀i j,i < j->j < k->lt (p.getD i 0) (p.getD j 0)=true
def Dn (lt:Nat->Nat->Bool) (p:Array Nat) (k:Nat):Prop:=∀i j,i < j->j < k->lt (p.getD j 0) (p.getD i 0)=true
theorem Q3 (S:Strict n lt) {p:Array Nat}(hp:Pm n p):∀(f m:Nat),1<=m->m+f<=n->Up lt p m ->
   Good n lt (fun r=>m<=r/\r<=m+f/\Up lt p r/\(r=m+f∨lt (p.getD r 0) (p.getD (r - 1) 0)=true)) (kas_asc p f m)
 | 0,m,h1,h2,h3=>⟨zR _,zR _,h3,.inl rfl⟩
 | f+1,m,h1,h2,h3=>by
   unfold kas_asc
   refine⟨hp.bel (by omega),hp.bel (by omega),hp.inj (by omega) (by omega) (by omega),?_⟩
   cases hc:lt (p.getD m 0) (p.getD (m - 1) 0) with
   | true=>exact⟨zR _,by omega,h3,.inr hc⟩
   | false=>
     have hup:lt (p.getD (m - 1) 0) (p.getD m 0)=true:=(S.tot _ _ (hp.bel (by omega)) (hp.bel (by omega)) (hp.inj (i:=m - 1) (j:=m) (by omega) (by omega) (by omega))).elim id fun z=>by rw[hc] at z;cases z
     dsimp only
     rw[if_neg nft]
     refine(Q3 S hp f (m+1) (by omega) (by omega) fun i j hij hj=>?_).mono fun r ⟨a,b,c,d⟩=>⟨by omega,by omega,c,d.elim (fun z=>.inl (by omega)) .inr⟩
     by_cases hjm:j < m
     · exact h3 i j hij hjm
     · have e:j=m:=by omega
       subst e
       by_cases hi:i=j - 1
       · subst hi;exact hup
       · exact S.tr _ _ _ (h3 i (j - 1) (by omega) (by omega)) hup
theorem SY (S:Strict n lt) {p:Array Nat}(hp:Pm n p):∀(f m:Nat),1<=m->m+f<=n->Dn lt p m ->
   Good n lt (fun r=>r.1=p/\r.2.2=0/\m<=r.2.1/\r.2.1<=m+f/\Dn lt p r.2.1) (kas_desc f p m 0)
 | 0,m,h1,h2,h3=>⟨rfl,rfl,zR _,zR _,h3⟩
 | f+1,m,h1,h2,h3=>by
   unfold kas_desc
   refine⟨hp.bel (by omega),hp.bel (by omega),hp.inj (by omega) (by omega) (by omega),?_⟩
   cases hc:lt (p.getD m 0) (p.getD (m - 1) 0) with
   | true=>
     dsimp only
     rw[if_pos rfl,if_neg (yF 0)]
     refine(SY S hp f (m+1) (by omega) (by omega) fun i j hij hj=>?_).mono fun r ⟨a,b,c,d,e⟩=>⟨a,b,by omega,by omega,e⟩
     by_cases hjm:j < m
     · exact h3 i j hij hjm
     · have e:j=m:=by omega
       subst e
       by_cases hi:i=j - 1
       · subst hi;exact hc
       · exact S.tr _ _ _ hc (h3 i (j - 1) (by omega) (by omega))
   | false=>
     have hup:lt (p.getD (m - 1) 0) (p.getD m 0)=true:=(S.tot _ _ (hp.bel (by omega)) (hp.bel (by omega)) (hp.inj (i:=m - 1) (j:=m) (by omega) (by omega) (by omega))).elim id fun z=>by rw[hc] at z;cases z
     dsimp only
     rw[if_neg nft]
     refine⟨hp.bel (by omega),hp.bel (by omega),hp.inj (by omega) (by omega) (by omega),?_⟩
     dsimp only
     rw[hup,if_pos rfl]
     exact⟨rfl,rfl,zR _,(show m<=_ by omega),h3⟩
theorem P5 {α:Type}{xs ys:Array α}{i j:Nat}{d:α}(h:xs[i]?=ys[j]?):xs.getD i d=ys.getD j d:=by
 rw[b5V,b5V,h]
theorem iQ {p:Array Nat}(hp:Pm n p) (i j:Nat):Pm n (kas_rev p i j):=(Array.perm_iff_toList_perm.mp (mirror_perm _ _ _ _)).trans hp
theorem Z5 (S:Strict n lt) {p:Array Nat}(hp:Pm n p) {m:Nat}(h1:1<=m) (h2:m<=n) (h3:Dn lt p m) :
   Good n lt (fun r=>1<=r.1/\r.1<=n/\Pm n r.2/\Up lt r.2 r.1) (kas_tail3 m n p):=by
 unfold kas_tail3
 refine Good.bind ((Q3 S (iQ hp 0 m) (n - m) m h1 (by omega) fun i j hij hj=>?_).mono fun r ⟨a,b,c,_⟩=>⟨by omega,by omega,iQ hp 0 m,c⟩)
 have hz:m<=p.size:=by rw[hp.size];exact h2
 have e:∀k,k < m->(kas_rev p 0 m).getD k 0=p.getD (m - 1 - k) 0:=fun k hk=>by
   refine P5 ?_
   unfold kas_rev
   rw[getElem?_mirror_all (i:=0) hz k,if_pos ⟨xT _,hk⟩,b7V]
 rw[e i (by omega),e j (by omega)]
 exact h3 _ _ (by omega) (by omega)
theorem RS (S:Strict n lt) {p:Array Nat}(hp:Pm n p) {m:Nat}(h2:m+1<=n) (h3:Dn lt p (m+1)) :
   Good n lt (fun r=>1<=r.1/\r.1<=n/\Pm n r.2/\Up lt r.2 r.1) (kas_descPart m n p):=by
 unfold kas_descPart
 refine Good.bind ((SY S hp (n - (m+1)) (m+1) (by omega) (by omega) h3).mono fun r ⟨a,b,c,d,e⟩=>?_)
 rw[b,if_neg (yF 0),a]
 exact Z5 S hp (by omega) (by omega) e
theorem Z6 (S:Strict n lt) {p:Array Nat}(hp:Pm n p) (h2:1<=n) :
   Good n lt (fun r=>1<=r.1/\r.1<=n/\Pm n r.2/\Up lt r.2 r.1) (kas_count n p):=by
 unfold kas_count
 refine Good.bind ((Q3 S hp (n - 1) 1 (zR _) (by omega) fun i j hij hj=>by omega).mono fun r ⟨a,b,c,d⟩=>?_)
 by_cases hr:r=n
 · subst hr
   rw[if_pos (by simp)]
   exact⟨a,zR _,hp,c⟩
 · rw[if_neg (by simpa using hr)]
   have hlt:lt (p.getD r 0) (p.getD (r - 1) 0)=true:=d.resolve_left (by omega)
   by_cases h1:r > 1
   · rw[if_pos h1]
     refine⟨hp.bel (by omega),hp.bel (by omega),hp.inj (by omega) (by omega) (by omega),?_⟩
     dsimp only
     rw[c 0 (r - 1) (by omega) (by omega),if_pos rfl]
     exact⟨a,by omega,hp,c⟩
   · rw[if_neg h1]
     have e:r=1:=by omega
     subst e
     refine RS S hp (by omega) fun i j hij hj=>?_
     have e1:i=0:=by omega
     have e2:j=1:=by omega
     subst e1 e2
     exact hlt
theorem LA (S:Strict n lt) {p:Array Nat}(hp:Pm n p) {k:Nat}(hk:k < n) (hu:Up lt p k):∀(f l r:Nat),l<=r->r<=k->r - l<=f ->
   (∀i,i < l->lt (p.getD i 0) (p.getD k 0)=true)->(∀i,r<=i->i < k->lt (p.getD k 0) (p.getD i 0)=true) ->
   Good n lt (fun x=>x<=k/\(∀i,i < x->lt (p.getD i 0) (p.getD k 0)=true)/\∀i,x<=i->i < k->lt (p.getD k 0) (p.getD i 0)=true) (kas_place p k f l r)
 | 0,l,r,h1,h2,h3,h4,h5=>by
   unfold kas_place
   exact⟨by omega,h4,fun i hi hik=>h5 i (by omega) hik⟩
 | f+1,l,r,h1,h2,h3,h4,h5=>by
   unfold kas_place
   by_cases hge:l≥r
   · rw[if_pos hge]
     exact⟨by omega,h4,fun i hi hik=>h5 i (by omega) hik⟩
   · rw[if_neg hge]
     have hm:l<=(l+r)/2/\(l+r)/2 < r:=by omega
     generalize (l+r)/2=m at hm ⊢
     obtain⟨hm1,hm2⟩:=hm
     have hmk:m < k:=zP hm2 h2
     have hmn:m < n:=xQ hmk hk
     refine⟨hp.bel hk,hp.bel hmn,hp.inj hk hmn (a8Z hmk),?_⟩
     cases hc:lt (p.getD k 0) (p.getD m 0) with
     | true=>
       dsimp only
       rw[if_pos rfl]
       refine LA S hp hk hu f l m hm1 (xR hmk) (by omega) h4 fun i hi hik=>?_
       by_cases e:i=m
       · subst e;exact hc
       · exact S.tr _ _ _ hc (hu _ _ (Nat.lt_of_le_of_ne hi (b4K e)) hik)
     | false=>
       dsimp only
       rw[if_neg nft]
       have hup:lt (p.getD m 0) (p.getD k 0)=true:=(S.tot _ _ (hp.bel hmn) (hp.bel hk) (hp.inj (i:=m) (j:=k) hmn hk (zC hmk))).elim id fun z=>by rw[hc] at z;cases z
       refine LA S hp hk hu f (m+1) r hm2 h2 (by omega) (fun i hi=>?_) h5
       by_cases e:i=m
       · subst e;exact hup
       · exact S.tr _ _ _ (hu _ _ (by omega) (by omega)) hup
theorem WE (S:Strict n lt):∀(f:Nat) {p:Array Nat}{k:Nat},Pm n p->k+f=n->Up lt p k->Good n lt (fun q=>Pm n q/\Up lt q n) (kas_bin f p k)
 | 0,p,k,hp,h1,h2=>by
   have e:k=n:=by omega
   subst e
   exact⟨hp,h2⟩
 | f+1,p,k,hp,h1,h2=>by
   unfold kas_bin
   refine Good.bind ((LA S hp (by omega) h2 k 0 k (xT _) (zR _) (by omega) (fun i hi=>by omega) fun i hi hk=>by omega).mono fun x ⟨hx,a,b⟩=>?_)
   have hks:k < p.size:=by rw[hp.size];omega
   refine WE S f ((Array.perm_iff_toList_perm.mp (bubble_perm _ _ _)).trans hp) (by omega) fun i j hij hj=>?_
   have e:∀q,(bubble p k (k - x)).getD q 0=if q=x then p.getD k 0 else if x < q/\q<=k then p.getD (q - 1) 0 else p.getD q 0:=fun q=>by
     have:=getElem?_bubble hks (k - x) (by omega) q
     rw[show k - (k - x)=x by omega] at this
     by_cases c1:q=x
     · rw[if_pos c1] at this ⊢;exact P5 this
     · rw[if_neg c1] at this ⊢
       by_cases c2:x < q/\q<=k
       · rw[if_pos c2] at this ⊢;exact P5 this
       · rw[if_neg c2] at this ⊢;exact P5 this
   obtain⟨g,hg⟩:∃g:Nat->Nat,∀i,p.getD i 0=g i:=⟨_,fun _=>rfl⟩
   have h2':∀i j,i < j->j < k->lt (g i) (g j)=true:=fun i j x y=>by rw[← hg,← hg];exact h2 i j x y
   rw[e,e]
   simp only[hg] at a b ⊢
   clear e
   rcases b4Z j x with hj' | hj' | hj'
   · have hi':i < x:=xQ hij hj'
     rw[if_neg (zC hi'),if_neg (fun z=>Nat.lt_asymm z.1 hi'),if_neg (zC hj'),if_neg (fun z=>Nat.lt_asymm z.1 hj')]
     exact h2' _ _ hij (zP hj' hx)
   · subst hj'
     rw[if_neg (zC hij),if_neg (fun z=>Nat.lt_asymm z.1 hij),if_pos rfl]
     exact a _ hij
   · obtain⟨j',rfl⟩:∃j',j=j'+1:=⟨j - 1,by omega⟩
     have hjk:j' < k:=Nat.lt_of_succ_le (Nat.le_of_lt_succ hj)
     have hxj:x<=j':=Nat.le_of_lt_succ hj'
     rw[if_neg (a8Z hj') (c:=j'+1=x),if_pos (c:=x < j'+1/\j'+1<=k) ⟨hj',hjk⟩,Nat.add_sub_cancel]
     rcases b4Z i x with hi' | hi' | hi'
     · rw[if_neg (zC hi'),if_neg (fun z=>Nat.lt_asymm z.1 hi')]
       exact h2' _ _ (zP hi' hxj) hjk
     · rw[if_pos hi']
       exact b _ hxj hjk
     · obtain⟨i',rfl⟩:∃i',i=i'+1:=⟨i - 1,by omega⟩
       have hij':i' < j':=Nat.lt_of_succ_lt_succ hij
       rw[if_neg (a8Z hi'),if_pos (c:=x < i'+1/\i'+1<=k) ⟨hi',xQ hij' hjk⟩,Nat.add_sub_cancel]
       exact h2' _ _ hij' hjk
theorem dM (S:Strict n lt) (h1:1<=n):Good n lt (fun q=>Pm n q/\Up lt q n) (kas_sort n):=by
 unfold kas_sort
 refine Good.bind ((Z6 S (show Pm n _ from .refl _) h1).mono fun r ⟨a,b,c,d⟩=>?_)
 have e:max r.1 1=r.1:=by omega
 rw[e]
 by_cases hr:r.1 < n
 · rw[if_pos hr]
   exact WE S _ c (by omega) d
 · rw[if_neg hr]
   have e:r.1=n:=by omega
   rw[e] at d
   exact⟨c,d⟩
end
end L2
namespace L2
open PySem PySem.Spec PyProof.Rows PySem.W
def TupsN (h:Heap) (vs:List Value) (ns:List Str):Prop:=
 vs.length=ns.length/\∀(i:Nat) (v:Value) (nm:Str),vs[i]?=some v->ns[i]?=some nm->∃(a:Addr) (o:Obj) (xs:Array Value) (k:Nat) (t:Tok),v=a0Z a/\h.get? a=some o/\o.cls = .type "tuple" /\ o.data = .seq xs k/\xs[0]?=some (.str nm t)
theorem TupsN.keep {h h':Heap}{vs:List Value}{ns:List Str}(t:TupsN h vs ns) (hk:∀b o,o.cls = .type "tuple" -> h.get? b=some o->h'.get? b=some o):TupsN h' vs ns:=
 ⟨t.1,fun i v nm e1 e2=>let ⟨a,o,xs,k,t',h1,h2,h3,h4,h5⟩:=t.2 i v nm e1 e2;⟨a,o,xs,k,t',h1,hk a o h3 h2,h3,h4,h5⟩⟩
theorem TupsN.kat {h:Heap}:∀{vs:List Value}{ns:List Str},TupsN h vs ns->∃fs,KatTups h vs fs/\fs.length=ns.length/\∀v∈fs,∃x t,v=Value.str x t
 | [],[],_=>⟨[],trivial,rfl,fun v hv=>nomatch hv⟩
 | [],_::_,t=>by have:=t.1;simp at this
 | _::_,[],t=>by have:=t.1;simp at this
 | v::vs,nm::ns,t=>by
   obtain⟨a,o,xs,k,t',rfl,h2,h3,h4,h5⟩:=t.2 0 v nm rfl rfl
   obtain⟨fs,q1,q2,q3⟩:=TupsN.kat (vs:=vs) (ns:=ns) ⟨by have:=t.1;simpa using this,fun i v nm e1 e2=>t.2 (i+1) v nm (by simpa using e1) (by simpa using e2)⟩
   exact⟨_,KatTups.cons h2 h3 h4 h5 q1,by simp[q2],fun v hv=>(yX.mp hv).elim (fun e=>⟨_,_,e⟩) (q3 v)⟩
section
variable {prog:Program}{w:World}{A:Around}{E:Value->Shared->Prop}{s:Shared}
theorem iR {vs:List Value}{ns:List Str}(t:TupsN s.heap vs ns) (nd:ns.Nodup) {i j:Nat}(hi:i < ns.length) (hj:j < ns.length) (hij:i≠j) {C:Bool->Shared->Prop}(h:C (decide ((ns.getD i "").cps.toList < (ns.getD j "").cps.toList)) s) :
   kas_ask prog w A (tuples' true) vs i j C s:=by
 unfold kas_ask
 have hl:=t.1
 have e1:vs[i]?=some (vs.getD i a2Z):=by rw[yU,zV (by omega)];rfl
 have e2:vs[j]?=some (vs.getD j a2Z):=by rw[yU,zV (by omega)];rfl
 have f1:ns[i]?=some (ns.getD i ""):=by rw[yU,zV hi];rfl
 have f2:ns[j]?=some (ns.getD j ""):=by rw[yU,zV hj];rfl
 have hne:ns.getD i "" ≠ ns.getD j "" := fun e=>by
   rw[yU,yU,zV hi,zV hj] at e
   rcases Nat.lt_or_gt_of_ne hij with q | q
   · exact List.pairwise_iff_getElem.mp nd i j hi hj q e
   · exact List.pairwise_iff_getElem.mp nd j i hj hi q e.symm
 generalize vs.getD i a2Z=v at e1 ⊢
 generalize vs.getD j a2Z=u at e2 ⊢
 obtain⟨a,o,xs,k,t1,rfl,a2,a3,a4,a5⟩:=t.2 i v _ e1 f1
 obtain⟨b,o',ys,k',t2,rfl,b2,b3,b4,b5⟩:=t.2 j u _ e2 f2
 refine kat_lt a2 a4 b2 b4 ?_
 have x1:xs.toList[0]?=some (.str (ns.getD i "") t1):=by rw[a7W];exact a5
 have y1:ys.toList[0]?=some (.str (ns.getD j "") t2):=by rw[a7W];exact b5
 obtain⟨xr,hx⟩:∃r,xs.toList = .str (ns.getD i "") t1::r:=by
   cases hh:xs.toList with
   | nil=>rw[hh] at x1;cases x1
   | cons q r=>rw[hh] at x1;cases x1;exact⟨r,rfl⟩
 obtain⟨yr,hy⟩:∃r,ys.toList = .str (ns.getD j "") t2::r:=by
   cases hh:ys.toList with
   | nil=>rw[hh] at y1;cases y1
   | cons q r=>rw[hh] at y1;cases y1;exact⟨r,rfl⟩
 rw[hx,hy,a6J]
 refine kat_cons (wpAny_eqBool_str ?_)
 rw[decide_eq_false hne]
 refine kat_no ?_
 show wpAny (model prog w) A (oneLt' true _ _) C (fun _ _=>False) s
 exact oneLt_str h
theorem Q4 {a:Addr}{vs:List Value}{ns:List Str}{n:Nat}{P:PySem.Fin->Shared->Prop}(ho:s.heap.get? a=some (seqObj "list" vs.toArray n)) (t:TupsN s.heap vs ns) (nd:ns.Nodup) (h64:vs.length < 64)
   (h:∀p:List Nat,p.Perm (a0V vs.length)->(∀i j,i < j->j < vs.length->(ns.getD (p.getD i 0) "").cps.toList < (ns.getD (p.getD j 0) "").cps.toList) ->
     P (.done (.ret .none)) { s with heap:=sortedHeap s.heap a vs (p.map fun i=>vs.getD i a2Z).toArray }) :
   wpAny (model prog w) A (Builtin.«list.sort» ⟨[.ref a],[]⟩) P E s:=by
 have ha:a < s.heap.objs.size:=zM ho
 rw[list_sort_plain];refine zZ (listItems_at ho rfl ?_)
 refine zZ (listUpdate_at ho rfl ?_ (by rw[zJ,sizeLine_eq];omega) (xT _));obtain⟨e1,ho1⟩:∃e1,(s.heap.update a (a7V fun _=>(#[]:Array Value))).get? a=some (seqObj "list" #[] e1):=⟨_,get?_update_seq ho (fun _=>#[])⟩
 refine zZ (seqEpoch_at ho1 rfl (zZ (wpAny_newTuple ?_ (by show vs.length<=_;rw[sizeLine_eq];omega))))
 refine zZ (wpAny_newList (wpAny_holding ?_) (xT _))
 have hsz:vs.toArray.size=vs.length:=zJ ..
 have keepT:∀b o,o.cls = .type "tuple" -> s.heap.get? b=some o->(((s.heap.update a (a7V fun _=>(#[]:Array Value))).push (seqObj "tuple" vs.toArray 0)).push (seqObj "list" #[] 0)).get? b=some o:=fun b o hc q=>by
   have hb:b≠a:=fun e=>by
     subst e
     rw[ho] at q
     cases q
     exact absurd hc (show ¬(Value.type "list"=Value.type "tuple") by decide)
   refine zW _ (zW _ ?_)
   rw[yB _ _ _ _ hb]
   exact q
 have ho6:(((s.heap.update a (a7V fun _=>(#[]:Array Value))).push (seqObj "tuple" vs.toArray 0)).push (seqObj "list" #[] 0)).get? a=some (seqObj "list" #[] e1):=zW _ (zW _ ho1)
 show wpAny (model prog w) A _ P E { s with heap:=((s.heap.update a (a7V fun _=>(#[]:Array Value))).push (seqObj "tuple" vs.toArray 0)).push (seqObj "list" #[] 0) }
 dsimp only
 by_cases h2:vs.toArray.size < 2
 · rw[if_pos h2,if_pos h2]
   refine zZ (zY ?_)
   rw[StateT.run_pure]
   refine zZ (zY (zZ (seqEpoch_at ho6 rfl ?_)))
   have e3:(arrOf (SortSt.mk' general' (vs.toArray.zip vs.toArray) #[] 7 none)).map (·.2)=vs.toArray:=by
     show(vs.toArray.zip vs.toArray).map (·.2)=vs.toArray
     apply Array.toList_inj.mp
     rw[Array.toList_map,Array.toList_zip]
     exact List.map_snd_zip (zR _)
   rw[e3]
   refine zZ (listUpdate_at ho6 rfl ?_ (xT _) (by rw[zJ,sizeLine_eq];omega))
   simp only[bne_self_eq_false,b2W,if_false]
   have:=h (a0V vs.length) (.refl _) (fun i j hij hj=>by omega)
   have e4:(a0V vs.length).map (fun i=>vs.getD i a2Z)=vs:=by
     apply b3W
     intro i
     rw[zF]
     by_cases hi:i < vs.length
     · rw[yA hi]
       simp[hi]
     · rw[a0J (by simp;omega),a0J (by omega)]
       rfl
   rw[e4] at this
   exact zY this
 · rw[if_neg h2,if_neg h2]
   have h2':2<=vs.length:=by omega
   have t6:=t.keep keepT
   obtain⟨fs,q1,q2,q3⟩:=t6.kat
   refine zZ (kat_kind (T:=.type "str") q1 (by have:=t.1;omega) (fun v hv=>?_) rfl ?_)
   · obtain⟨x,tt,rfl⟩:=q3 v hv
     exact Looks.of_pure rfl
   have hn:vs.length=ns.length:=t.1
   have S:Strict vs.length (fun i j=>decide (i < vs.length)&&(decide (j < vs.length)&&decide ((ns.getD i "").cps.toList < (ns.getD j "").cps.toList))):=by
     refine⟨fun i=>?_,fun i j k a b=>?_,fun i j hi hj hij=>?_⟩
     · simp[List.lt_irrefl]
     · simp only[a1J,decide_eq_true_eq] at a b ⊢
       exact⟨a.1,b.2.1,List.lt_trans a.2.2 b.2.2⟩
     · simp only[a1J,decide_eq_true_eq,hi,hj,true_and]
       have hne:(ns.getD i "").cps.toList≠(ns.getD j "").cps.toList:=fun e=>by
         have e':ns.getD i ""=ns.getD j "" := by
           generalize ns.getD i ""=x at e
           generalize ns.getD j ""=y at e
           obtain⟨⟨x⟩⟩:=x
           obtain⟨⟨y⟩⟩:=y
           simp at e
           rw[e]
         rw[yU,yU,zV (by omega),zV (by omega)] at e'
         rcases Nat.lt_or_gt_of_ne hij with q | q
         · exact List.pairwise_iff_getElem.mp nd i j (by omega) (by omega) q e'
         · exact List.pairwise_iff_getElem.mp nd j i (by omega) (by omega) q e'.symm
       by_cases c:(ns.getD i "").cps.toList < (ns.getD j "").cps.toList
       · exact .inl c
       · refine .inr ?_
         rcases List.le_iff_lt_or_eq.mp (List.not_lt.mp c) with z | z
         · exact z
         · exact absurd z.symm hne
   refine zZ (wpAny_mono (kat_run (ks:=vs) (G:=fun p s'=>s'={ s with heap:=((s.heap.update a (a7V fun _=>(#[]:Array Value))).push (seqObj "tuple" vs.toArray 0)).push (seqObj "list" #[] 0) }/\Pm vs.length p/\Up _ p vs.length)
     (Q:=fun st' s'=>s'={ s with heap:=((s.heap.update a (a7V fun _=>(#[]:Array Value))).push (seqObj "tuple" vs.toArray 0)).push (seqObj "list" #[] 0) }/\failedOf st'=none/\∃p:Array Nat,Pm vs.length p/\Up _ p vs.length/\(arrOf st').map (·.2)=List.toArray (p.toList.map fun i=>vs.getD i a2Z))
     rfl h2' h64 (fun p st' s' a1 a2 a3 a4=>⟨a4.1,a3,p,a4.2.1,a4.2.2,kat_snds rfl a2⟩) ((dM S (by omega)).wp (fun i j C hi hj hij hC=>?_) fun p hp=>⟨rfl,hp.1,hp.2⟩)) ?_ fun _ _ e=>e)
   · refine iR t6 nd (by omega) (by omega) hij ?_
     simp only[hi,hj,decide_true,Bool.true_and] at hC
     exact hC
   · rintro⟨⟨⟩,st'⟩ s' ⟨rfl,hf,p,hp,hu,hm⟩
     dsimp only
     refine zZ (seqEpoch_at ho6 rfl ?_)
     rw[hm]
     refine zZ (listUpdate_at ho6 rfl ?_ (xT _) (by
       have z:=hp.length_eq
       simp only[xZ,a4K] at z
       simp only[zJ,zX,a4K]
       rw[sizeLine_eq];omega))
     rw[hf]
     simp only[bne_self_eq_false,b2W,if_false]
     refine zY (h p.toList hp fun i j hij hj=>?_)
     have:=hu i j hij hj
     simp only[a1J,decide_eq_true_eq] at this
     have ed:∀k,p.toList.getD k 0=p.getD k 0:=fun k=>by rw[yU,b5V,a7W]
     rw[ed,ed]
     exact this.2.2
theorem WF {l:Addr}{vs:List Value}{Q:List Value->Shared->Prop}(hl:s.heap.IsList l vs.toArray∨s.heap.IsTuple l vs.toArray)
   (h:Q vs { s with heap:=(s.heap.push (seqObj "list" #[] 0)).update s.heap.objs.size (a7V (·++vs.toArray)) }) (hsz:vs.length<=sizeLine) :
   wpAny (model prog w) A (collect (.ref l)) Q E s:=by
 rcases hl with hl | ⟨o,ho,hc,n,hd⟩
 · exact collect_list hl h hsz
 unfold collect
 refine zZ (wpAny_runValue (codeAny_builtin entry_proto_collect' ?_))
 show wpAny _ _ (do again (.builtin "list.__iadd__" ⟨[← newList [],.ref l],[]⟩)) _ _ s
 refine zZ (wpAny_newList (zY ⟨Code.quiet_builtin _ (by decide +kernel),codeAny_builtin entry_list_iadd' ?_⟩))
 show wpAny _ _ (Builtin.List.listExtendWith (.ref s.heap.objs.size) (.ref l) (.ref s.heap.objs.size)) _ _ { s with heap:=s.heap.push (seqObj "list" #[] 0) }
 unfold Builtin.List.listExtendWith
 have ho':(s.heap.push (seqObj "list" #[] 0)).get? l=some o:=zW _ ho
 refine zZ (wpAny_typeOf (T:= "tuple") ⟨o,ho',hc⟩ ?_)
 have ht:(Value.type "tuple" == Value.type "tuple")=true:=by rfl
 rw[if_pos (by rw[ht];simp)]
 refine zZ (listItems_at ho' hd ?_)
 refine zZ (listItems_at (xs:=#[]) (n:=0) (yZ _ rfl) rfl ?_)
 rw[if_neg (by simp)]
 refine zZ (listUpdate_at (xs:=#[]) (n:=0) (yZ _ rfl) rfl ?_ (xT _) (by show(#[]++vs.toArray).size<=sizeLine+1;simp only[Array.size_append,zJ,b2K];omega))
 refine zY ?_
 show wpAny (model prog w) A (do
     let o ← load s.heap.objs.size
     match o.data with
     | .seq xs _=>pure xs.toList
     | _=>unsupported "internal:collect") Q E { s with heap:=(s.heap.push (seqObj "list" #[] 0)).update s.heap.objs.size (a7V (·++vs.toArray)) }
 refine zZ (wpAny_load (get?_update_seq (yZ _ rfl) _) ?_)
 show wpAny _ _ (pure ((#[]:Array Value)++vs.toArray).toList) Q E _
 rw[show((#[]:Array Value)++vs.toArray).toList=vs by simp]
 exact zY h
theorem WG {l:Addr}{vs:List Value}{ns:List Str}{Q:Value->Shared->Prop}(hl:s.heap.IsList l vs.toArray∨s.heap.IsTuple l vs.toArray) (t:TupsN s.heap vs ns) (nd:ns.Nodup) (h64:vs.length < 64)
   (h:∀p:List Nat,p.Perm (a0V vs.length)->(∀i j,i < j->j < vs.length->(ns.getD (p.getD i 0) "").cps.toList < (ns.getD (p.getD j 0) "").cps.toList) ->
     Q (.ref (s.heap.objs.size+1)) { s with heap:=sortedAll s.heap vs (p.map fun i=>vs.getD i a2Z).toArray }) :
   wpAny (model prog w) A (call (.builtin "sorted") [.ref l]) Q E s:=by
 refine b7J kind_sorted plain_sorted entry_sorted (args_sorted1 _) ?_
 unfold Builtin.«sorted»;refine zZ (m:=checkCount "sorted" 1 1 _) (zY (zZ (WF hl (zZ (wpAny_newList ?_ (by rw[sizeLine_eq];omega))) (by rw[sizeLine_eq];omega))))
 generalize hH:(s.heap.push (seqObj "list" #[] 0)).update s.heap.objs.size (a7V (·++vs.toArray))=H1
 have hsz:H1.objs.size=s.heap.objs.size+1:=by rw[← hH,Heap.size_update,size_push']
 have old:∀b o,s.heap.get? b=some o->(H1.push (seqObj "list" vs.toArray 0)).get? b=some o:=fun b o q=>by
   refine zW _ ?_
   rw[← hH,yB _ _ _ _ (zC (zM q))]
   exact zW _ q
 have hoL:(H1.push (seqObj "list" vs.toArray 0)).get? (s.heap.objs.size+1)=some (seqObj "list" vs.toArray 0):=by
   rw[← hsz];exact yZ _ rfl
 show wpAny _ _ _ _ _ { s with heap:=H1.push (seqObj "list" vs.toArray 0) }
 rw[hsz]
 refine zZ (wpAny_holding (wpAny_call_entry slot_list_sort ⟨_,hoL,rfl⟩ entry_list_sort (Q4 hoL (t.keep fun b o _ q=>old b o q) nd h64 fun p a1 a2=>⟨_,rfl,?_⟩) (args_list_sort _)))
 have:=h p a1 a2
 unfold sortedAll at this
 rw[hH] at this
 exact zY ⟨_,rfl,this⟩
theorem WH {d:Addr}{kvs:List (Key×Value)}{ss:List Str}{Q:Value->Shared->Prop}(hh:A.handled=none) (hd:(d==sysModules)=false) (dd:s.heap.DictOf (AX prog w) d kvs) (hk:kvs.map (·.1)=ss.map a1K) (h64:ss.length < 64)
   (h:∀(h1 h':Heap) (tk:Nat) (out:List Value) (e:Nat) (ss':List Str),(∀b o,s.heap.get? b=some o->h1.get? b=some o)->(∀b o,h1.get? b=some o->h'.get? b=some o)->h'.get? h1.objs.size=some (seqObj "list" out.toArray e)->StrsAre out ss'->ss'.Perm ss->sortedS ss'=true->Q (.ref h1.objs.size) { s with heap:=h',toks:=tk }) :
   wpAny (model prog w) A (call (.builtin "sorted") [.ref d]) Q E s:=by
 refine b7J kind_sorted plain_sorted entry_sorted (args_sorted1 _) ?_
 obtain⟨ep,hat⟩:=dd.dictAt
 have hlen:kvs.length=ss.length:=by have:=congrArg b9W hk;simpa using this
 unfold Builtin.«sorted»;refine zZ (m:=checkCount "sorted" 1 1 _) (zY (zZ (kdu_collect (A:=A.in1) (kdl_dict (kvs:=kvs) (ep:=ep) hd) hh hat (by rw[hlen,sizeLine_eq];omega) fun h' tk acc hold hacc=>?_)))
 have hl:acc.toList.length=ss.length:=by rw[a4K,hacc.1,hlen]
 have hS:StrsAre acc.toList ss:=by
   have go:∀(vs:List Value) (zs:List Str),vs.length=zs.length->(∀(i:Nat) v x,vs[i]?=some v->zs[i]?=some x->∃t,v=Value.str x t)->StrsAre vs zs:=by
     intro vs
     induction vs with
     | nil=>intro zs hz _;cases zs with
       | nil=>exact .nil
       | cons _ _=>simp at hz
     | cons v vs ih=>intro zs hz hv;cases zs with
       | nil=>simp at hz
       | cons x zs=>
         obtain⟨t,rfl⟩:=hv 0 v x rfl rfl
         exact .cons x t (ih zs (by simpa using hz) fun i v x e1 e2=>hv (i+1) v x (by simpa using e1) (by simpa using e2))
   refine go _ _ hl fun i v x e1 e2=>?_
   obtain⟨k,y,g1,g2⟩:=hacc.2 i v (by rw[← a7W];exact e1)
   have e3:(kvs.map (·.1))[i]?=some k:=by rw[zF,g1];rfl
   rw[hk,zF,e2] at e3
   cases e3
   have g2':NU (.inr x) v=true:=g2
   rcases B5 g2' with ⟨i,t,e,_⟩ | ⟨z,t,e,e'⟩
   · cases e
   · cases e;exact⟨t,e'⟩
 refine zZ (wpAny_newList ?_ (by rw[hl,sizeLine_eq];omega))
 have hoL:(h'.push (seqObj "list" acc.toList.toArray 0)).get? h'.objs.size=some (seqObj "list" acc.toList.toArray 0):=yZ _ rfl
 show wpAny _ _ _ _ _ { s with heap:=h'.push (seqObj "list" acc.toList.toArray 0),toks:=tk }
 refine zZ (wpAny_holding (wpAny_call_entry (s:={ s with heap:=h'.push (seqObj "list" acc.toList.toArray 0),toks:=tk }) slot_list_sort ⟨_,hoL,rfl⟩ entry_list_sort (list_sort_treeK strKind_oneLt hoL hS.keysOf (fun v₁ v₂ rest e=>keyKind_strs (by rw[← e];exact hS)) (by rw[hl];exact h64) fun st' hp hs=>⟨_,rfl,?_⟩) (args_list_sort _)))
 obtain⟨ss',h1,h2,h3⟩:=sorted_out_str hS hp hs
 obtain⟨e,he⟩:=sortedHeap_at (out:=(arrOf st').map (·.2)) hoL
 refine zY ⟨_,rfl,h h' _ tk ((arrOf st').map (·.2)).toList e ss' hold (fun b o q=>?_) (by rw[Array.toArray_toList];exact he) h1 h2 h3⟩
 have lt:b < h'.objs.size:=zM q
 rw[sortedHeap_old (zC lt) (by rw[size_push'];exact b4J lt)]
 exact zW _ q
end
end L2
namespace L2
open PySem PySem.Spec PyProof.Rows
theorem JA {prog:Program}{w:World}{A:Around}{R:Result->Shared->Prop}{s:Shared}{kx vx target iter:Expr}{ifs:List Expr}{scope:Scope}{pos:Pos}{it:Value}{D:Addr}{env:Env}(I:Nat->Shared->Prop)
   (turn:∀n s,I n s->wpAny (model prog w) A (pyNext it) (fun r s₁=>match r with
     | none=>R (.ok .next) s₁
     | some v=>wpAny (model prog w) A (letOwnedTupleGo target it v) (fun _ s₀=>wpAny (model prog w) A (assign target env v) (fun _ s₂=>
         wpAny (model prog w) A (L6 ifs env) (fun ok s₃=>
           if ok=true then wpAny (model prog w) A (eval kx env) (fun kv s₄=>wpAny (model prog w) A (eval vx env) (fun vv s₅=>
             wpAny (model prog w) A (dictSet D kv vv) (fun _ s₆=>∃m,m < n/\I m s₆) (fun _ _=>False) s₅) (fun _ _=>False) s₄) (fun _ _=>False) s₃
           else ∃m,m < n/\I m s₃) (fun _ _=>False) s₂) (fun _ _=>False) s₀) (fun _ _=>False) s₁) (fun _ _=>False) s)
   (n:Nat) (h:I n s) :
   codeAny (model prog w) A (.compLoop (.DictComp kx vx [⟨target,iter,ifs,0⟩] scope pos) 0 it (.ref D) env) R s:=by
 refine codeAny_loop rfl I (fun n s hI=>?_) n h
 show wpAny _ A ((compTurn (.DictComp kx vx [⟨target,iter,ifs,0⟩] scope pos) 0 it (.ref D) env).onRaise (fun x=>do noteFrame x env;theTreesLotGoes x)) _ _ s
 refine wpAny_noted ?_
 rw[compTurn_dict]
 refine zZ (wpAny_standAt (zZ (wpAny_mono (B3 (turn n s hI)) (fun r s₁ h₁=>?_) fun _ _ h'=>h')))
 cases r with
 | none=>exact zY h₁
 | some v=>
   refine zZ (wpAny_mono (B3 h₁) (fun _ s₀ h₀=>?_) fun _ _ h'=>h')
   refine zZ (wpAny_mono (B3 h₀) (fun _ s₂ h₂=>zZ (wpAny_mono (B3 h₂) (fun ok s₃ h₃=>?_) fun _ _ h'=>h')) fun _ _ h'=>h')
   cases ok with
   | false=>exact zY ⟨rfl,h₃⟩
   | true=>
     exact zZ (zZ (wpAny_mono (B3 h₃) (fun kv s₄ h₄=>zZ (wpAny_holding (wpAny_mono (B3 h₄) (fun vv s₅ h₅=>zZ (wpAny_standAt (wpAny_holding (wpAny_mono (B3 h₅) (fun _ s₆ h₆=>zY ⟨rfl,h₆⟩) fun _ _ h'=>h')))) fun _ _ h'=>h'))) fun _ _ h'=>h'))
theorem tV {X:Cx}{pins:List (Addr×Obj)}{σ:St}{H:Hp}{s:Shared}{a:Addr}{kvs:List (Key×V)}{k:Key}{v:V}{u r:Value}{A:Around}{E:Value->Shared->Prop}{Q:Unit->Shared->Prop}
   (I:Inv X pins σ H s) (e:H a=some (.dK kvs)) (l:kvs.length < sizeLine) (ry:RelV (kV k) u) (rv:RelV v r) (h:∀s',Inv X pins σ (upd H a (.dK (EX kvs k v))) s'->Q () s'):wpAny (model X.prog X.w) A (dictSet a u r) Q E s:=by
 obtain⟨z,hd,vs,rel,dd⟩:=gC I.hok e
 have hz:vs.length<=sizeLine:=by rw[← rel.length];exact z
 have hl:(EX kvs k v).length<=sizeLine:=by have:=G7 kvs k v;omega
 refine wpAny_dictSet_pairs (hsz:=hz) (LP ry) dd fun h' dd' hs=>h _ ?_
 have he:∃q,h'.get? a=some q:=let ⟨q,_,_,hq,_⟩:=dd';⟨q,hq⟩
 exact P1 I (by rw[e];exact b0X) hs he (YQ hl hd (rel.put k rv) dd')
def UF (fr:List (Option Nat)) (wi:TI) (g:TG) (tt:TT) (tk tv:TE):TE:=fun σ H Q=>wi σ H fun J H1=>∀D,H1 D=none->∃W:Nat->Nat->List (Key×V)->Hp->Prop,(∃m,W 0 m [] (upd H1 D (.dK []))) /\
 ∀i m ys H2,W i m ys H2->H2 D=some (.dK ys)/\((J.stop i H2/\Q (.ref D) H2)∨(J.go i H2/\∀x H3,J.yld i H2 x H3->g x (capt fr σ) H3 fun σ2 H4=>
   (∀(i:Nat) v,(capt fr σ)[i]?=some (some v)->σ2[i]?=some (some v))/\tt σ2 H4 fun c H5=>if c=true then tk σ2 H5 fun x H6=>tv σ2 H6 fun y H7=>∃ys' k,x=kV k/\H7 D=some (.dK ys')/\ys'.length < sizeLine/\∃m',m' < m/\W (i+1) m' (EX ys' k y) (upd H7 D (.dK (EX ys' k y)))
     else ∃ys' m',m' < m/\W (i+1) m' ys' H5))
section
variable {X:Cx}{scope:Scope}{NC:List Str}{fr:List (Option Nat)}{pins:List (Addr×Obj)}{σ:St}{H:Hp}{s:Shared}
theorem dN {kx vx iter tg:Expr}{ifs:List Expr}{pos cpos:Pos}{wi:TI}{g:TG}{tt:TT}{tk tv:TE}{use:Option (Value->Sem Unit)}{Q:VK}{QQ:Value->Shared->Prop}
   (hc:X.calm=true) (S:CSc X scope NC fr) (hi:PI X tg iter wi)
   (hb:∀(C:Addr) (s:Shared) (H:Hp) (ex:List Addr) (pn:List (Addr×Obj)),PG (BL X scope NC C s H ex pn) tg g/\PTs (BL X scope NC C s H ex pn) ifs tt/\PE (BL X scope NC C s H ex pn) kx tk/\PE (BL X scope NC C s H ex pn) vx tv)
   (I:Inv X pins σ H s) (hu:X.A.units+1 < cLine) (h:UF fr wi g tt tk tv σ H Q)
   (fin:∀(D C:Addr) (H':Hp) (s':Shared) (m:Str->Option Value) (oC:Obj),Inv X (pins++[(C,oC)]) σ H' s'->s'.heap.Ns C m->Q (.ref D) H' ->
     (∀(pins':List (Addr×Obj)) (σ2:St) (H2:Hp) (s2:Shared) (h2:Heap),Inv X (pins++[(C,oC)]) σ2 H2 s2->Heap.SameBut C s2.heap h2->Inv X pins σ2 H2 { s2 with heap:=h2 }) ->
     s'.heap.get? C=some oC ->
     match use with
     | none=>∀h',Heap.SameBut C s'.heap h'->QQ (.ref D) { s' with heap:=h' }
     | some u=>wpAny (model X.prog X.w) X.A (u (.ref D)) (fun _ s''=>∃m,s''.heap.Ns C m/\∀h',Heap.SameBut C s''.heap h'->QQ .none { s'' with heap:=h' }) X.xe s')
   (hs:∀x,foldedSetIterable iter X.env x=pure x) :
   wpAny (model X.prog X.w) X.A (comprehension (.DictComp kx vx [⟨tg,iter,ifs,0⟩] scope pos) scope X.env cpos newDict false (eval iter X.env) use) QQ X.xe s:=by
 refine wpAny_comprehension_free (use:=use) rfl hs (aQ (S.has I.ok)) S.kind S.names (thn (hi pins s σ H _ I h) fun v s1 h1=>thn h1 fun itv s2 h2=>?_)
 obtain⟨it,fp,tn,J,H2,e,I2,T,st2,f2,hq⟩:=h2
 subst e
 have hDn:H2 s2.heap.objs.size=none:=I2.hok.fresh (zR _)
 obtain⟨W,⟨m0,w0⟩,turn⟩:=hq s2.heap.objs.size hDn
 refine xM (wpAny_newFunctionEnv S.nocell (by intro y hy;simp at hy) (fun h₁ hns₁ hsb₁=>?_) S.kind)
 dsimp only at hns₁ hsb₁ ⊢
 generalize hs3:({ s2 with heap:=s2.heap.push { cls:=.type "dict", dict:=none,data:=.dict #[] } }:Shared)=s3
 have hh3:s2.heap.push { cls:=.type "dict", dict:=none,data:=.dict #[] }=s3.heap:=by rw[← hs3]
 have I3:Inv X pins σ (upd H2 s2.heap.objs.size (.dK [])) s3:=by
   rw[← hs3]
   refine I2.laid (t':=s2.toks) (fun b u e=>zW _ e) (zR _) ?_
   exact PM s2.heap I2.big
 rw[hh3] at hns₁ hsb₁ ⊢
 have sz3:s3.heap.objs.size=s2.heap.objs.size+1:=by rw[← hh3,a8J]
 have lt2:∀b∈fp,b < s2.heap.objs.size:=fun b hb=>by
   obtain⟨o,e,_⟩:=T.obj _ _ st2 b hb
   exact zM e
 have lt3:∀b∈fp,b < s3.heap.objs.size:=fun b hb=>by rw[sz3];exact b4J (lt2 b hb)
 have f3:∀b∈fp,L1 X pins (upd H2 s2.heap.objs.size (.dK [])) b:=fun b hb=>⟨by rw[AJ (zC (lt2 b hb))];exact(f2 b hb).1,(f2 b hb).2⟩
 have keep1:∀b o,s3.heap.get? b=some o->h₁.get? b=some o:=fun b o e=>hsb₁.extBut b o (zC (zM e)) (zW _ e)
 generalize hC:s3.heap.objs.size=C at hns₁ hsb₁ ⊢
 have I0:Inv (BL X scope NC C s3 (upd H2 s2.heap.objs.size (.dK [])) fp (X.pn++pins)) [] (capt fr σ) (upd H2 s2.heap.objs.size (.dK [])) { s2 with heap:=h₁,toks:=s2.toks+([]:List (Str×Value)).length }:=by
   have:=PQ (tk:=s2.toks+([]:List (Str×Value)).length) (h1:=h₁) S I3 f3 lt3 (hC▸hns₁) keep1
   rw[hC] at this
   rw[← hs3] at this
   rw[← hs3]
   exact this
 obtain⟨hbg,hbt,hbk,hbv⟩:=hb C s3 (upd H2 s2.heap.objs.size (.dK [])) fp (X.pn++pins)
 generalize hX':BL X scope NC C s3 (upd H2 s2.heap.objs.size (.dK [])) fp (X.pn++pins)=X' at I0 hbg hbt hbk hbv
 have eP:X'.prog=X.prog:=by rw[← hX'];rfl
 have eW:X'.w=X.w:=by rw[← hX'];rfl
 have eK:X'.K=X.K:=by rw[← hX'];rfl
 have eA:X'.A=X.A:=by rw[← hX'];rfl
 have eE:X'.env=compEnvC scope (L5 X.env.cells scope.names []) C X.env:=by rw[← hX'];rfl
 have eX:X'.xe=fun _ _=>False:=by rw[← hX'];rfl
 have ec:X'.calm=true:=by rw[← hX'];exact hc
 have stat:∀{H':Hp},(∀b∈fp,H' b=none)->∀b∈fp,L1 X' [] H' b:=fun {H'} hn b hb=>by
   obtain⟨q1,q2,q3,q4,q5,q6⟩:=f3 b hb
   rw[← hX']
   exact⟨hn b hb,by show b≠C;rw[← hC];exact zC (lt3 b hb),fun z=>(yX.mp (I3.stkSub b z)).elim q2 q3,.inl hb,fun x c e=>q5 x c (BW e),fun p hp=>q6 p (by rw[a2Q] at hp;exact hp)⟩
 have ends:∀(i m:Nat) (ys:List (Key×V)) (H':Hp) (s':Shared),Inv X' [] (capt fr σ) H' s'->Q (.ref s2.heap.objs.size) H' ->
     compPost (model X.prog X.w) X.A X.xe use QQ (.ref s2.heap.objs.size) C (.ok .next) s':=by
   intro i m ys H' s' I' q'
   have eC:X'.env.locals=C:=by rw[eE];rfl
   obtain⟨mC,hnC,_⟩:=I'.loc
   rw[eC] at hnC
   have hCn:H' C=none:=by have:=I'.free;rw[eC] at this;exact this
   have un:Un (frs X.stack) fp (upd H2 s2.heap.objs.size (.dK [])) H' s3.heap s'.heap:=by
     have:=I'.base
     rw[← hX'] at this
     exact this
   have os':s'.os=s3.os:=by have:=I'.os;rw[← hX'] at this;exact this
   have hok':HOk X.prog X.w H' s'.heap:=by have:=I'.hok;rw[eP,eW] at this;exact this
   have Iout:Inv X pins σ H' s':=I3.call' (ch:=fp) os' un hok' I'.bare fun b hb=>⟨(f3 b hb).2.2.2.1,(f3 b hb).2.1,(f3 b hb).2.2.2.2.1,(f3 b hb).2.2.2.2.2⟩
   have C1:C≠X.env.locals:=by rw[← hC];exact a8Z I3.lt
   have C2:C∉X.fs:=by rw[← hC];exact I3.nofs (zR _)
   have C3:X.s₀.heap.objs.size<=C:=by rw[← hC];exact I3.sz
   have C4:∀x c,X.env.cells.lookup x=some c->c≠C:=fun x c e z=>by
     obtain⟨v,q⟩:=I3.cell x c e
     rw[z,← hC] at q
     exact absurd q.lt (yF _)
   have C5:∀p∈X.pn++pins,p.1≠C:=fun p hp z=>by
     have:=zM (I3.pin p hp).1
     rw[z,← hC] at this
     exact absurd this (yF _)
   obtain⟨oC,esC,epC,hoC,hdC,hrC⟩:=id hnC
   have Ipin:Inv X (pins++[(C,oC)]) σ H' s':=Iout.pins_of fun p hp=>(yW.mp hp).elim (fun z=>Iout.pin p (zB _ z)) fun z=>by
     have e:p=(C,oC):=by simpa using z
     subst e
     exact⟨hoC,hCn,C1,C2,fun v z=>by rw[hdC] at z;cases z⟩
   have res:=fin s2.heap.objs.size C H' s' mC oC Ipin hnC q' (fun _ σ2 H3 s4 h4 I4 sb=>by
     have J4:Inv X pins σ2 H3 s4:=I4.unpinned
     have hn4:H3 C=none:=(I4.pin (C,oC) (zB _ (zB _ (by simp)))).2.1
     exact J4.turned (t':=s4.toks) (it:=C) (fun b o hb e=>sb.extBut b o hb e) hn4 C1 (.inr C3) C4 C5) hoC
   cases use with
   | none=>exact⟨mC,hnC,res⟩
   | some u=>exact res
 have loop:∀s':Shared,s'={ s2 with heap:=h₁,toks:=s2.toks+([]:List (Str×Value)).length } ->
     codeAny (model X.prog X.w) X.A (.compLoop (.DictComp kx vx [⟨tg,iter,ifs,0⟩] scope pos) 0 (.ref it) (.ref s2.heap.objs.size) (compEnvC scope (L5 X.env.cells scope.names []) C X.env))
       (compPost (model X.prog X.w) X.A X.xe use QQ (.ref s2.heap.objs.size) C) s':=by
   rintro s' rfl
   refine JA (fun n s'=>∃i ys H',Inv X' [] (capt fr σ) H' s'/\tn i s'.heap/\(∀b∈fp,H' b=none)/\W i n ys H') ?_ m0
     ⟨0,[],_,I0,T.keep _ _ _ st2 (fun b hb o e=>keep1 b o (by rw[← hh3];exact zW _ e)),fun b hb=>(f3 b hb).1,w0⟩
   rintro n s5 ⟨i,ys,H5,I5,st5,fr5,w5⟩
   obtain⟨hD5,hturn⟩:=turn i n ys H5 w5
   rcases hturn with ⟨stop,qn⟩ | ⟨go,step⟩
   · have:=T.done X' eP eW eK ec i [] s5 (capt fr σ) H5 (fun _ _=>False) I5 (stat fr5) st5 stop
     rw[eA] at this
     refine thn this fun r s6 ⟨hr,I6⟩=>?_
     subst hr
     exact ends i n ys H5 s6 I6 qn
   · have:=T.item X' eP eW eK ec i [] s5 (capt fr σ) H5 (fun _ _=>False) I5 (stat fr5) st5 go
     rw[eA] at this
     refine thn this fun r s6 ⟨u,hr,h6⟩=>?_
     subst hr
     refine thn h6 fun _ s7 ⟨x,H7,I7,r7,y7,st7,fr7⟩=>?_
     have I7':=I7.pinned (stat fr7) (T.obj _ _ st7)
     have hg1:=hbg _ s7 (capt fr σ) H7 x u _ I7' r7 (step x H7 y7)
     rw[eP,eW,eA,eE,eX] at hg1
     refine thn hg1 fun _ s8 ⟨σ8,H8,I8,ext8,q8⟩=>?_
     have ht1:=hbt _ s8 σ8 H8 _ I8 q8
     rw[eP,eW,eA,eE,eX] at ht1
     refine thn ht1 fun ok s9 ⟨H9,I9,q9⟩=>?_
     have weak:∀{H':Hp}{s':Shared},Inv X' ([]++NA fp s7.heap) σ8 H' s'->Inv X' [] (capt fr σ) H' s'/\tn (i+1) s'.heap/\∀b∈fp,H' b=none:=fun {H' s'} I'=>by
       refine⟨I'.unpinned.weak (by rw[I'.len];rw[I0.len]) ext8,T.keep _ _ _ st7 fun b hb o e=>(I'.pin (b,o) (zB _ (zB _ (E8 hb e)))).1,fun b hb=>?_⟩
       obtain⟨o,e,d⟩:=T.obj _ _ st7 b hb
       exact(I'.pin (b,o) (zB _ (zB _ (E8 hb e)))).2.1
     cases ok with
     | false=>
       rw[if_neg nft] at q9
       obtain⟨ys',m',hm',w'⟩:=q9
       obtain⟨a1,a2,a3⟩:=weak I9
       exact⟨m',hm',i+1,ys',H9,a1,a2,a3,w'⟩
     | true=>
       rw[if_pos rfl] at q9
       have he1:=hbk _ s9 σ8 H9 _ I9 q9
       rw[eP,eW,eA,eE,eX] at he1
       refine thn he1 fun yk s10 ⟨kv,H10,I10,r10,q10⟩=>?_
       have he2:=hbv _ s10 σ8 H10 _ I10 q10
       rw[eP,eW,eA,eE,eX] at he2
       refine thn he2 fun yv s11 ⟨vv,H11,I11,r11,ys',k,ek,hD11,hsz,m',hm',w'⟩=>?_
       subst ek
       have hset:=tV (A:=X'.A) (E:=X'.xe) (Q:=fun _ s'=>∃m'',m'' < n/\∃i ys H',Inv X' [] (capt fr σ) H' s'/\tn i s'.heap/\(∀b∈fp,H' b=none)/\W i m'' ys H') I11 hD11 hsz r10 r11 fun s' I'=>by
         obtain⟨a1,a2,a3⟩:=weak I'
         exact⟨m',hm',i+1,_,_,a1,a2,a3,w'⟩
       rw[eP,eW,eA,eX] at hset
       exact hset
 refine codeAny_compStart_dict (loop _ rfl) (T.self _ 0 _ _ _ ?_ (loop _ rfl))
 exact T.keep _ _ _ st2 (fun b hb o e=>keep1 b o (by rw[← hh3];exact zW _ e))
theorem iS {kx vx iter tg:Expr}{ifs:List Expr}{pos:Pos}{wi:TI}{g:TG}{tt:TT}{tk tv:TE}(hc:X.calm=true) (hu:X.A.units+1 < cLine) (S:CSc X scope NC fr) (hi:PI X tg iter wi)
   (hb:∀(C:Addr) (s:Shared) (H:Hp) (ex:List Addr) (pn:List (Addr×Obj)),PG (BL X scope NC C s H ex pn) tg g/\PTs (BL X scope NC C s H ex pn) ifs tt/\PE (BL X scope NC C s H ex pn) kx tk/\PE (BL X scope NC C s H ex pn) vx tv)
   (hs:∀x,foldedSetIterable iter X.env x=pure x:=by intro _;rfl):PE X (.DictComp kx vx [⟨tg,iter,ifs,0⟩] scope pos) (UF fr wi g tt tk tv):=by
 intro pins s σ H Q I h
 rw[arm_eval_DictComp]
 refine dN (use:=none) (Q:=Q) hc S hi hb I hu h (fun D C H' s' m oC I' hn q back _ h' sb=>?_) hs
 exact⟨.ref D,H',back pins σ H' s' h' I' sb,rfl,q⟩
end
end L2
namespace L2
open PySem PySem.Spec PyProof.Rows PySem.W
def iT (K:Frg):List V->Hp->VK->Prop:=fun xs H Q=>∃(p:Addr) (es:List (Addr×Str×List V)),xs=[.ref p]/\(SqL K H p (es.map fun e=>V.ref e.1)∨SqT K H p (es.map fun e=>V.ref e.1))/\(∀e∈es,SqT K H e.1 (.str e.2.1::e.2.2))/\(es.map fun e=>e.2.1).Nodup/\es.length < 64 /\
 ∀(es':List (Addr×Str×List V)) (q:Addr),es'.Perm es->es'.Pairwise (fun x y=>x.2.1.cps.toList < y.2.1.cps.toList)->H q=none->Q (.ref q) (upd H q (.lst (es'.map fun e=>V.ref e.1)))
def iU:List V->Hp->VK->Prop:=fun xs H Q=>∃(p:Addr) (kvs:List (Key×V)) (ss:List Str),xs=[.ref p]/\Rd H p (.dK kvs)/\kvs.map (·.1)=ss.map a1K/\ss.length < 64 /\
 ∀(ss':List Str) (q:Addr),ss'.Perm ss->sortedS ss'=true->H q=none->Q (.ref q) (upd H q (.lst (ss'.map V.str)))
def Q5 (K:Frg):List V->Hp->VK->Prop:=fun xs H Q=>i6 K xs H Q∨iT K xs H Q∨iU xs H Q
section
variable {X:Cx}
theorem SZ:∀{es:List (Addr×Str×List V)}{its:List Value},Vals (es.map fun e=>V.ref e.1) its->its=es.map fun e=>a0Z e.1
 | [],_,.nil=>rfl
 | _::_,_,.cons r t=>by rw[SZ t];cases r;rfl
theorem T0:∀{es:List (Addr×Str×List V)},Vals (es.map fun e=>V.ref e.1) (es.map fun e=>a0Z e.1)
 | []=>.nil
 | _::_=>.cons rfl T0
theorem Z7:BM X (.builtin "sorted") (iT X.K):=by
 intro pins s σ H xs us Q I r h
 obtain⟨p,es,rfl,hp,ht,nd,h64,q⟩:=h
 obtain⟨u,rfl,ru⟩:=F4 r
 cases ru
 obtain⟨its,rv,pl⟩:∃its:List Value,Vals (es.map fun e=>V.ref e.1) its/\(s.heap.IsList p its.toArray∨s.heap.IsTuple p its.toArray):=by
   rcases hp with hp | hp
   · obtain⟨its,rv,pl,_⟩:=I.list hp
     exact⟨its,rv,.inl pl.isList⟩
   · obtain⟨its,rv,pl,_⟩:=I.tuple hp
     exact⟨its,rv,.inr pl⟩
 have ei:=SZ rv
 subst ei
 have tn:TupsN s.heap (es.map fun e=>a0Z e.1) (es.map fun e=>e.2.1):=by
   refine⟨by simp,fun i v nm e1 e2=>?_⟩
   rw[zF] at e1 e2
   cases he:es[i]? with
   | none=>rw[he] at e1;cases e1
   | some e=>
     rw[he] at e1 e2
     cases e1
     cases e2
     obtain⟨js,rj,⟨o,ho,hc,n,hd⟩,_⟩:=I.tuple (ht e (yN he))
     cases rj with
     | cons r0 _=>
       obtain⟨t,rfl⟩:=r0
       exact⟨e.1,o,_,n,t,rfl,ho,hc,hd,by simp⟩
 refine WG pl tn nd (by simpa using h64) fun pm h1 h2=>?_
 simp only[zX] at h1 h2
 obtain⟨e,he⟩:=sortedAll_at s.heap (es.map fun e=>a0Z e.1) (pm.map fun i=>(es.map fun e=>a0Z e.1).getD i a2Z).toArray
 have hn:H (s.heap.objs.size+1)=none:=I.hok.fresh (b0Q _)
 obtain⟨es',he'⟩:∃es':List (Addr×Str×List V),es'=pm.filterMap fun i=>es[i]?:=⟨_,rfl⟩
 have hin:∀i∈pm,i < es.length:=fun i hi=>List.mem_range.mp (h1.mem_iff.mp hi)
 have emap:∀(l:List Nat),(∀i∈l,i < es.length)->(l.filterMap fun i=>es[i]?)=l.attach.map fun i=>es.getD i.1 (0, "", []):=fun l=>by
   intro hl
   induction l with
   | nil=>rfl
   | cons a l ih=>
     have ha:=hl a (by simp)
     rw[a3V,zV ha]
     simp only[List.attach_cons,zI,zD]
     rw[ih fun i hi=>hl i (yV _ hi)]
     simp[yU,zV ha]
 have emap':es'=pm.map fun i=>es.getD i (0, "", []):=by
   rw[he',emap pm hin]
   simp
 have perm:es'.Perm es:=by
   rw[he']
   refine(h1.filterMap _).trans ?_
   rw[show((a0V es.length).filterMap fun i=>es[i]?)=es from ?_]
   apply b3W
   intro i
   have:((a0V es.length).filterMap fun i=>es[i]?)=(a0V es.length).map fun i=>es.getD i (0, "", []):=by
     rw[emap _ fun i hi=>List.mem_range.mp hi]
     simp
   rw[this,zF]
   by_cases hi:i < es.length
   · rw[yA hi]
     simp[hi]
   · rw[a0J (by simp;omega),a0J (by omega)]
     rfl
 have outs:(pm.map fun i=>(es.map fun e=>a0Z e.1).getD i a2Z)=es'.map fun e=>a0Z e.1:=by
   rw[emap',zD]
   apply yM
   intro i hi
   have hi:=hin i hi
   simp[yU,zF,zV hi]
 have lenp:pm.length=es.length:=by have:=h1.length_eq;simpa using this
 have srt:es'.Pairwise (fun x y=>x.2.1.cps.toList < y.2.1.cps.toList):=by
   rw[emap',a5V,b8Q]
   intro i j hi hj hij
   have:=h2 i j hij (by omega)
   have g:∀k (hk:k < pm.length),(es.map fun e=>e.2.1).getD (pm.getD k 0) (a0Q "")=(es.getD pm[k] (0, "", [])).2.1:=fun k hk=>by
     have hk':=hin pm[k] (b1W hk)
     rw[yU (l:=pm),zV hk]
     simp[yU,zF,zV hk']
   rw[g i hi,g j hj] at this
   exact this
 rw[outs] at he ⊢
 refine⟨.ref (s.heap.objs.size+1),_,I.laid (t':=s.toks) (o:=.lst (es'.map fun e=>V.ref e.1)) (fun b o eb=>sortedAll_old eb) (b0Q _) ?_,rfl,q es' _ perm srt hn⟩
 refine⟨by rw[zX,perm.length_eq];exact zN (xR h64) (by decide),es'.map fun e=>a0Z e.1,e,T0,?_⟩
 have he':=he
 simpa [seqObj] using he'
theorem Z8 (hc:X.calm=true):BM X (.builtin "sorted") iU:=by
 intro pins s σ H xs us Q I r h
 obtain⟨p,kvs,ss,rfl,hp,hk,h64,q⟩:=h
 obtain⟨u,rfl,ru⟩:=F4 r
 cases ru
 obtain⟨z,hd,vs,rel,dd⟩:=KC I.hok hp
 have hk':vs.map (·.1)=ss.map a1K:=by
   rw[← hk]
   clear hk dd z hp q
   unfold KV at rel
   induction rel with
   | nil=>rfl
   | cons h t ih=>simp[h.1,ih]
 refine WH (I.ok.hd hc) hd dd hk' h64 fun h1 h' tk out e ss' k1 k2 ho hS hperm hsort=>?_
 have I1:Inv X pins σ H { s with heap:=h1,toks:=tk }:=I.kept k1
 have hn:H h1.objs.size=none:=I1.hok.fresh (zR _)
 refine⟨.ref h1.objs.size,_,I1.laid (t':=tk) (o:=.lst (ss'.map V.str)) (h':=h') k2 (zR _) ?_,rfl,q ss' _ hperm hsort hn⟩
 refine⟨by rw[zX,hperm.length_eq];exact zN (xR h64) (by decide),out,e,i5 hS,?_⟩
 simpa [seqObj] using ho
theorem Q6 (hc:X.calm=true):BM X (.builtin "sorted") (Q5 X.K):=by
 intro pins s σ H xs us Q I r h
 rcases h with h | h | h
 · exact YU pins s σ H xs us Q I r h
 · exact Z7 pins s σ H xs us Q I r h
 · exact Z8 hc pins s σ H xs us Q I r h
end
end L2
namespace DL
open PySem PySem.Spec L2
def BG (ts:List (Str×PyData)):List (PyData×PyData):=ts.map fun t=>(a0W t.1,t.2)
def dO (ts:List (Str×PyData)) (k:Str) (d:PyData):List (Str×PyData):=
 if (ts.any fun t=>decide (t.1=k))=true then ts.map (fun t=>if t.1=k then (t.1,d) else t) else ts++[(k,d)]
def B8:List (Str×PyData)->Str->Option PyData
 | [],_=>none
 | t::r,k=>if t.1=k then some t.2 else B8 r k
section
variable {K:Frg}{H:Hp}{W:Addr->Prop}
theorem EM {t:Str×PyData}{ts:List (Str×PyData)}{ks:List (Key×V)}:DKV K H W (BG (t::ts)) ks↔∃v r,ks=(a1K t.1,v)::r/\DV K H W t.2 v/\DKV K H W (BG ts) r:=by
 unfold BG
 rw[zI]
 constructor
 · intro h
   unfold DKV at h
   obtain⟨k',v,r,e,e2,h1,h2⟩:=h
   cases k' with
   | inl i=>cases e2
   | inr x=>
     have e3:t.1=x:=by simpa [cU] using e2
     subst e3
     exact⟨v,r,e,h1,h2⟩
 · rintro⟨v,r,e,h1,h2⟩
   unfold DKV
   exact⟨a1K t.1,v,r,e,rfl,h1,h2⟩
theorem JX {ks:List (Key×V)}:DKV K H W (BG []) ks↔ks=[]:=by unfold BG;simp only[a3W];unfold DKV;exact Iff.rfl
theorem bK {k:Str}:∀{ts:List (Str×PyData)}{ks:List (Key×V)},DKV K H W (BG ts) ks->(ks.any fun kv=>decide (kv.1=a1K k))=ts.any fun t=>decide (t.1=k)
 | [],ks,h=>by rw[JX.mp h];rfl
 | t::ts,ks,h=>by
   obtain⟨v,r,rfl,_,h2⟩:=EM.mp h
   rw[a9W,a9W,bK h2]
   congr 1
   by_cases e:t.1=k
   · rw[decide_eq_true e,decide_eq_true (by rw[e])]
   · rw[decide_eq_false e,decide_eq_false fun q=>e (by injection q)]
theorem Q7 {k:Str}{d:PyData}{v:V}(hd:DV K H W d v):∀{ts:List (Str×PyData)}{ks:List (Key×V)},DKV K H W (BG ts) ks ->
   DKV K H W (BG (ts.map fun t=>if t.1=k then (t.1,d) else t)) (ks.map fun kv=>if kv.1=a1K k then (kv.1,v) else kv)
 | [],ks,h=>by rw[JX.mp h];exact JX.mpr rfl
 | t::ts,ks,h=>by
   obtain⟨u,r,rfl,h1,h2⟩:=EM.mp h
   rw[zI,zI]
   by_cases e:t.1=k
   · rw[if_pos e,if_pos (by rw[e])]
     exact EM.mpr ⟨v,_,rfl,hd,Q7 hd h2⟩
   · rw[if_neg e,if_neg fun q=>e (by injection q)]
     exact EM.mpr ⟨u,_,rfl,h1,Q7 hd h2⟩
theorem WI {k:Str}{d:PyData}{v:V}(hd:DV K H W d v):∀{ts:List (Str×PyData)}{ks:List (Key×V)},DKV K H W (BG ts) ks->DKV K H W (BG (ts++[(k,d)])) (ks++[(a1K k,v)])
 | [],ks,h=>by rw[JX.mp h];exact EM.mpr ⟨v,[],rfl,hd,JX.mpr rfl⟩
 | t::ts,ks,h=>by
   obtain⟨u,r,rfl,h1,h2⟩:=EM.mp h
   exact EM.mpr ⟨u,_,rfl,h1,WI hd h2⟩
theorem bL {k:Str}{d:PyData}{v:V}{ts:List (Str×PyData)}{ks:List (Key×V)}(h:DKV K H W (BG ts) ks) (hd:DV K H W d v):DKV K H W (BG (dO ts k d)) (EX ks (a1K k) v):=by
 unfold dO EX
 rw[bK h]
 by_cases c:(ts.any fun t=>decide (t.1=k))=true
 · rw[if_pos c,if_pos c];exact Q7 hd h
 · rw[if_neg c,if_neg c];exact WI hd h
theorem Q8 {k:Str}:∀{ts:List (Str×PyData)}{ks:List (Key×V)},DKV K H W (BG ts) ks->(∃d v,B8 ts k=some d/\G5 ks (a1K k)=some v/\DV K H W d v)∨(B8 ts k=none/\G5 ks (a1K k)=none)
 | [],ks,h=>by rw[JX.mp h];exact .inr ⟨rfl,rfl⟩
 | t::ts,ks,h=>by
   obtain⟨u,r,rfl,h1,h2⟩:=EM.mp h
   by_cases e:t.1=k
   · exact .inl ⟨t.2,u,by simp[B8,e],J6 (by rw[e]),h1⟩
   · have e':¬(a1K t.1:Key)=a1K k:=fun q=>e (by injection q)
     rcases Q8 (k:=k) h2 with ⟨d,v,a1,a2,a3⟩ | ⟨a1,a2⟩
     · exact .inl ⟨d,v,by simp[B8,e,a1],by rw[FP (p:=(a1K t.1,u)) e'];exact a2,a3⟩
     · exact .inr ⟨by simp[B8,e,a1],by rw[FP (p:=(a1K t.1,u)) e'];exact a2⟩
theorem LY:∀{kvs:List (PyData×PyData)}{ks:List (Key×V)},DKV K H W kvs ks->ks.length=kvs.length
 | [],ks,h=>by unfold DKV at h;subst h;rfl
 | (k,d)::r,ks,h=>by unfold DKV at h;obtain⟨_,_,_,rfl,_,_,h2⟩:=h;simp[LY h2]
end
section
variable {K:Frg}{M:Own}{Q:DS->Own->Prop}{ρ:List (Option DS)}{H:Hp}{td ty tv:TE}{D:EndsD}
theorem WJ (h:DE K td ρ M fun x M1=>DE K ty ρ M1 fun y M2=>∃(a:Addr) (ts:List (Str×PyData)) (k:Str) (d:PyData),x = .loc a/\y = .d (.str k)/\M2 a=some (.d (BG ts))/\B8 ts k=some d/\Q (.d d) M2):DE K (gD td ty) ρ M Q:=fun σ H QQ R kk=>
 h σ H _ R fun v H1 x M1 o1 s1 t1 h1=>h1 σ H1 _ (R.step o1 t1) fun u H2 y M2 o2 s2 t2 h2=>by
   obtain⟨a,ts,k,d,rfl,rfl,m,l,q⟩:=h2
   unfold SI at s1
   subst s1
   rw[CD s2]
   obtain⟨ks,e1,e2⟩:=o2 a _ m
   rcases Q8 (k:=k) e2 with ⟨d',w',a1,a2,a3⟩ | ⟨a1,a2⟩
   · rw[l] at a1
     cases a1
     exact⟨a,w',rfl,.inl ⟨ks,a1K k,.inl e1,rfl,a2.symm⟩,kk _ H2 (.d d) M2 o2 a3 (t1.trans t2) q⟩
   · rw[l] at a1;cases a1
theorem bM (h:DE K ty ρ M fun y M1=>DE K td ρ M1 fun x M2=>∃(a:Addr) (ts:List (Str×PyData)) (k:Str),x = .loc a/\y = .d (.str k)/\M2 a=some (.d (BG ts))/\Q (.d (.bool (B8 ts k).isSome)) M2):DE K (sB ty td) ρ M Q:=fun σ H QQ R kk=>
 h σ H _ R fun v H1 x M1 o1 s1 t1 h1=>h1 σ H1 _ (R.step o1 t1) fun u H2 y M2 o2 s2 t2 h2=>by
   obtain⟨a,ts,k,rfl,rfl,m,q⟩:=h2
   unfold SI at s2
   subst s2
   rw[CD s1]
   obtain⟨ks,e1,e2⟩:=o2 a _ m
   refine⟨a,G5 ks (a1K k),rfl,.inl ⟨ks,a1K k,.inl e1,rfl,rfl⟩,kk _ H2 _ M2 o2 ?_ (t1.trans t2) q⟩
   rcases Q8 (k:=k) e2 with ⟨d',w',a1,a2,a3⟩ | ⟨a1,a2⟩
   · rw[a1,a2];exact AK
   · rw[a1,a2];exact AK
theorem nK (h:DE K tv ρ M fun z M1=>DE K td ρ M1 fun x M2=>DE K ty ρ M2 fun y M3=>∃(a:Addr) (ts:List (Str×PyData)) (k:Str) (d:PyData),z = .d d/\x = .loc a/\y = .d (.str k)/\M3 a=some (.d (BG ts))/\ts.length < sizeLine/\D.nx ρ (M3.put a (.d (BG (dO ts k d))))):DSt K (gE td ty tv) ρ M D:=fun σ H E R k1 k2 k3 k4=>
 h σ H _ R fun v H1 z M1 o1 s1 t1 h1=>h1 σ H1 _ (R.step o1 t1) fun u H2 x M2 o2 s2 t2 h2=>h2 σ H2 _ (R.step o2 (t1.trans t2)) fun yv H3 y M3 o3 s3 t3 h3=>by
   obtain⟨a,ts,k,d,rfl,rfl,rfl,m,hl,q⟩:=h3
   unfold SI at s2
   subst s2
   rw[CD s3]
   obtain⟨ks,e1,e2⟩:=o3 a _ m
   have hd:DV K H3 M3.W d v:=DV.grow (t2.trans t3).grow s1
   obtain⟨o4,t4⟩:=FR o3 m (bL (k:=k) e2 hd)
   have hlen:ks.length < sizeLine:=by rw[LY e2];unfold BG;rw[zX];exact hl
   have ta:=((t1.trans t2).trans t3).trans t4
   exact⟨a,_,rfl,.inl ⟨ks,a1K k,e1,rfl,hlen,rfl⟩,k1 ρ _ σ _ (R.step o4 ta) ta q⟩
def NG (t:Str×List PyData):PyData:=.tuple (.str t.1::t.2)
theorem WK {W:Addr->Prop}:∀{ts:List (Str×List PyData)}{vs:List V},DVs K H W (ts.map NG) vs->∃es:List (Addr×Str×List V),vs=es.map (fun e=>V.ref e.1)/\es.map (fun e=>e.2.1)=ts.map (·.1)/\(∀e∈es,SqT K H e.1 (.str e.2.1::e.2.2)) /\
   es.length=ts.length/\∀(i:Nat) e t,es[i]?=some e->ts[i]?=some t->DV K H W (NG t) (.ref e.1)/\e.2.1=t.1
 | [],vs,h=>by unfold DVs at h;subst h;exact⟨[],rfl,rfl,(fun e he=>by simp at he),rfl,fun i e t h1 h2=>by simp at h1⟩
 | t::ts,vs,h=>by
   rw[zI] at h
   unfold DVs at h
   obtain⟨v,r,rfl,h1,h2⟩:=h
   obtain⟨es,rfl,e2,e3,e4,e5⟩:=WK h2
   have h1':=h1
   unfold NG DV at h1'
   obtain⟨a,us,rfl,hw,hd⟩:=h1'
   unfold DVs at hd
   obtain⟨u,us',rfl,hu,hus⟩:=hd
   unfold DV at hu
   subst hu
   refine⟨(a,t.1,us')::es,rfl,by simp[e2],fun e he=>?_,by simp[e4],fun i e t' h3 h4=>?_⟩
   · rcases yX.mp he with rfl | he
     · exact hw.sq
     · exact e3 e he
   · cases i with
     | zero=>simp at h3 h4;subst h3 h4;exact⟨h1,rfl⟩
     | succ i=>exact e5 i e t' (by simpa using h3) (by simpa using h4)
theorem WL {W:Addr->Prop}:∀{es:List (Addr×Str×List V)}{ts:List (Str×List PyData)},es.length=ts.length->(∀(i:Nat) e t,es[i]?=some e->ts[i]?=some t->DV K H W (NG t) (.ref e.1))->DVs K H W (ts.map NG) (es.map fun e=>V.ref e.1)
 | [],[],_,_=>by simp only[a3W];exact DVs.nil
 | [],_::_,h,_=>by simp at h
 | _::_,[],h,_=>by simp at h
 | e::es,t::ts,h,k=>by
   rw[zI,zI]
   exact DVs.cons (k 0 e t rfl rfl) (WL (by simpa using h) fun i e t h1 h2=>k (i+1) e t (by simpa using h1) (by simpa using h2))
theorem Z9 {α β:Type}:∀{as as':List α},as'.Perm as->∀{bs:List β},as.length=bs.length->∃bs':List β,bs'.Perm bs/\(as'.zip bs').Perm (as.zip bs)/\as'.length=bs'.length:=by
 intro as as' h
 induction h with
 | nil=>intro bs hl;exact⟨bs,.refl _,.refl _,hl⟩
 | cons x _ ih=>
   intro bs hl
   cases bs with
   | nil=>simp at hl
   | cons b bs=>
     obtain⟨bs',h1,h2,h3⟩:=ih (bs:=bs) (by simpa using hl)
     exact⟨b::bs',h1.cons b,by rw[a6J,a6J];exact h2.cons _,by simp[h3]⟩
 | swap x y l=>
   intro bs hl
   match bs,hl with
   | b1::b2::bs,hl=>exact⟨b2::b1::bs,.swap _ _ _,by simp only[a6J];exact .swap _ _ _,by simpa using hl⟩
 | trans p1 p2 ih1 ih2=>
   intro bs hl
   obtain⟨b2,h1,h2,h3⟩:=ih2 hl
   obtain⟨b3,g1,g2,g3⟩:=ih1 h3
   exact⟨b3,g1.trans h1,g2.trans h2,g3⟩
theorem Q9 {a:Addr}{ts:List (Str×List PyData)}{vs:List V}{QQ:VK}(oa:OA K H M) (hl:SqL K H a vs∨SqT K H a vs) (hd:DVs K H M.W (ts.map NG) vs) (nd:(ts.map (·.1)).Nodup) (h64:ts.length < 64)
   (k:∀(w:V) (H':Hp) (z:DS) (M':Own),OA K H' M'->SI K H' M' z w->Step K M M' H H'->(∃ts':List (Str×List PyData),ts'.Perm ts/\ts'.Pairwise (fun x y=>x.1.cps.toList < y.1.cps.toList)/\z = .d (.list (ts'.map NG))/\M'=M)->QQ w H'):Q5 K [.ref a] H QQ:=by
 obtain⟨es,rfl,e2,e3,e4,e5⟩:=WK hd
 refine .inr (.inl ⟨a,es,rfl,hl,e3,by rw[e2];exact nd,by rw[e4];exact h64,fun es' p hp hs hn=>?_⟩)
 obtain⟨ts',p1,p2,p3⟩:=Z9 hp e4
 have each:∀(i:Nat) e t,es'[i]?=some e->ts'[i]?=some t->DV K H M.W (NG t) (.ref e.1)/\e.2.1=t.1:=fun i e t h1 h2=>by
   have hz:(e,t)∈es.zip ts:=p2.mem_iff.mp (yN (i:=i) (by rw[b8X];exact⟨h1,h2⟩))
   obtain⟨j,hj⟩:=b5J hz
   rw[b8X] at hj
   exact e5 j e t hj.1 hj.2
 have g:Grow K M.W M.W H (upd H p (.lst (es'.map fun e=>V.ref e.1))):=AY _ hn
 refine k _ _ (.d (.list (ts'.map NG))) M (oa.new hn) ?_ ⟨g⟩ ⟨ts',p1,?_,rfl,rfl⟩
 · unfold SI DV
   exact⟨p,_,rfl,.inl ⟨fun w=>w (oa.none hn),.inl AI⟩,(WL p3 fun i e t h1 h2=>(each i e t h1 h2).1).grow g⟩
 · rw[b8Q] at hs ⊢
   intro i j hi hj hij
   have hi':i < es'.length:=by omega
   have hj':j < es'.length:=by omega
   have:=hs i j hi' hj' hij
   rw[(each i es'[i] ts'[i] (zV hi') (zV hi)).2,(each j es'[j] ts'[j] (zV hj') (zV hj)).2] at this
   exact this
theorem iV {ts:List (Str×List PyData)}(nd:(ts.map (·.1)).Nodup) (h64:ts.length < 64) (q:∀ts':List (Str×List PyData),ts'.Perm ts->ts'.Pairwise (fun x y=>x.1.cps.toList < y.1.cps.toList)->Q (.d (.list (ts'.map NG))) M):DR K (Q5 K) [.d (.list (ts.map NG))] M Q:=fun H vs QQ oa s k=>by
 obtain⟨v,r,rfl,h1,h2⟩:=s
 cases h2
 unfold SI DV at h1
 obtain⟨a,vs,rfl,hl,hd⟩:=h1
 exact Q9 oa (.inl hl.sq) hd nd h64 fun w H' z M' o si st ⟨ts',p1,p2,e1,e2⟩=>by subst e1 e2;exact k w H' _ _ o si st (q ts' p1 p2)
end
end DL
namespace DL
open PySem PySem.Spec L2
section
variable {X:Cx}{K:Frg}
theorem tW (h:X.K=K) (hc:X.calm=true):BM X (.builtin "sorted") (Q5 K):=h▸Q6 hc
end
section
variable {K:Frg}{M:Own}{ρ:List (Option DS)}{wi:TI}{g:TG}{H:Hp}
theorem WM {ts:List (Str×PyData)}{k:Str}{d:PyData}(h:k∉ts.map (·.1)):dO ts k d=ts++[(k,d)]:=by
 unfold dO
 rw[if_neg]
 intro e
 obtain⟨t,ht,e⟩:=List.any_eq_true.mp e
 exact h (zL.mpr ⟨t,ht,by simpa using e⟩)
theorem iW {fr:List (Option Nat)}{tt:TT}{tk tv:TE}{T:List Nat}{Q:DS->Own->Prop}(ho:PU g T) (hT:∀i∈T,∀j,fr[i]?≠some (some j))
   (h:DI K wi ρ M fun ds M1=>ds.length < sizeLine/\∃(c:PyData->Bool) (f:PyData->Str) (w:PyData->PyData),((ds.filter c).map f).Nodup /\
     (∀d∈ds,∀M',DG K g d (KG fr ρ) M' fun ρ2 M2=>M2=M'/\DT K tt ρ2 M2 fun b M3=>M3=M'/\b=c d/\(c d=true->DE K tk ρ2 M3 fun y M4=>y = .d (.str (f d))/\M4=M'/\DE K tv ρ2 M4 fun z M5=>z = .d (w d)/\M5=M')) /\
     ∀p,M1 p=none->Q (.loc p) (M1.put p (.d (BG ((ds.filter c).map fun d=>(f d,w d)))))) :
   DE K (UF fr wi g tt tk tv) ρ M Q:=fun σ H QQ R k=>
 h σ H _ R fun J ds H1 M1 o1 t1 wd ⟨hsz,c,f,w,nd,he,hq⟩=>by
   intro A hA
   obtain⟨oA,sA⟩:=LS (kvs:=[]) (ks:=[]) o1 hA (by unfold DKV;rfl)
   have hM:=o1.none hA
   let acc:Nat->List (Str×PyData):=fun i=>((ds.take i).filter c).map fun d=>(f d,w d)
   refine⟨fun i m ys H2=>m=ds.length - i/\i<=ds.length/\H2 A=some (.dK ys)/\OA K H2 (M1.put A (.d (BG (acc i))))/\Step K M1 (M1.put A (.d (BG (acc i)))) H1 H2,⟨_,rfl,xT _,AI,oA,sA⟩,?_⟩
   rintro i m ys H2 ⟨rfl,hi,hys,oa,st⟩
   refine⟨hys,?_⟩
   by_cases hlt:i < ds.length
   · refine .inr ⟨wd.go i H2 _ hlt oa st,fun x H3 y=>?_⟩
     obtain⟨oa3,st3,d,e1,e2⟩:=wd.yld i H2 _ x H3 oa st hlt y
     have Rc:Rel K (M1.put A (.d (BG (acc i)))) (KG fr ρ) (L2.capt fr σ) H3:=((R.step o1 t1).step oa3 (st.trans st3)).capt
     have ts:(ds.take (i+1)).filter c=(ds.take i).filter c++(if c d then [d] else []):=take_succ_filter c ds i d e1
     refine ho _ _ _ _ (he d (yN e1) _ (L2.capt fr σ) H3 x _ Rc e2 fun ρ3 M3 σ3 H4 R3 st4 ⟨eM,b3⟩ hext=>⟨fun i' v' hv'=>?_,?_⟩)
     · obtain⟨j,f1,f2⟩:=JU hv'
       rw[hext i' fun hm=>hT i' hm j f1]
       exact hv'
     · subst eM
       refine b3 σ3 H4 _ R3 fun b H5 M5 o5 st5 ⟨eM5,eb,h5⟩=>?_
       subst eM5
       have sx:=((st.trans st3).trans st4).trans st5
       cases hb:c d with
       | false=>
         rw[hb] at eb
         subst eb
         rw[if_neg nft]
         obtain⟨ks,q1,q2⟩:=o5 A _ zU
         have ea:acc (i+1)=acc i:=by show(((ds.take (i+1)).filter c).map _)=_;rw[ts,hb];simp[acc]
         refine⟨ks,ds.length - (i+1),by omega,rfl,hlt,q1,?_,?_⟩
         · rw[ea];exact o5
         · rw[ea];exact sx
       | true=>
         rw[hb] at eb
         subst eb
         rw[if_pos rfl]
         refine h5 hb σ3 H5 _ (R3.step o5 st5) fun y H6 z M6 o6 s6 st6 ⟨ez,eM6,h6⟩=>?_
         subst ez eM6
         refine h6 σ3 H6 _ ((R3.step o5 st5).step o6 st6) fun y2 H7 z2 M7 o7 s7 st7 ⟨ez2,eM7⟩=>?_
         subst ez2 eM7
         obtain⟨ks,q1,q2⟩:=o7 A _ zU
         obtain⟨w1,w2⟩:=FR o7 zU (bL (k:=f d) q2 s7)
         have hnew:f d∉(acc i).map (·.1):=by
           intro hm
           have:((ds.take (i+1)).filter c).map f=(acc i).map (·.1)++[f d]:=by rw[ts,hb];simp[acc]
           have nd2:(((ds.take (i+1)).filter c).map f).Nodup:=by
             refine nd.sublist ?_
             exact((List.take_sublist _ _).filter _).map _
           rw[this,List.nodup_append] at nd2
           exact nd2.2.2 _ hm _ (by simp) rfl
         have ea:acc (i+1)=dO (acc i) (f d) (w d):=by
           rw[WM hnew]
           show(((ds.take (i+1)).filter c).map _)=_
           rw[ts,hb]
           simp[acc]
         have hlen:ks.length < sizeLine:=by
           rw[LY q2]
           unfold BG
           rw[zX]
           refine zQ ?_ hsz
           show(((ds.take i).filter c).map _).length<=_
           rw[zX]
           exact zN (yJ _ _) (by rw[a1Q];omega)
         rw[yI] at w1 w2
         refine⟨ks,a1K (f d),CD s6,q1,hlen,ds.length - (i+1),by omega,rfl,hlt,AI,?_,?_⟩
         · rw[ea];exact w1
         · rw[ea];exact((sx.trans st6).trans st7).trans w2
   · have e:i=ds.length:=by omega
     subst e
     refine .inl ⟨wd.stop H2 _ oa st,k _ H2 (.loc A) _ oa rfl (t1.trans st) ?_⟩
     have:=hq A hM
     have ea:acc ds.length=(ds.filter c).map fun d=>(f d,w d):=by show(((ds.take ds.length).filter c).map _)=_;rw[a6K]
     rw[ea]
     exact this
theorem iX {D:EndsD}{i j:Nat}{ta:TA}(h:DA K ta ρ M fun xs M1=>∃x y,xs=[x,y]/\D.nx ((ρ.set i (some x)).set j (some y)) M1):DSt K (uU i j ta) ρ M D:=fun σ H E R k1 _ _ _=>
 h σ H _ R fun vs H1 xs M1 o1 s1 t1 h1=>by
   obtain⟨x,y,rfl,q⟩:=h1
   obtain⟨v,r,rfl,sx,s2⟩:=s1
   obtain⟨w,r',rfl,sy,s3⟩:=s2
   cases s3
   exact⟨v,w,rfl,k1 _ M1 _ H1 (((R.step o1 t1).set sx i).set sy j) t1 q⟩
end
end DL
namespace DL
open PySem PySem.Spec L2
inductive Deed where
 | put (x:Str) (p k:Int) | take (x:Str) | move (x:Str) (p:Int) | count (x:Str) (k:Int) | name (x y:Str) | split (x y:Str) (p k:Int) | join (x y:Str)
def Deed.d:Deed->PyData
 | .put x p k=>.tuple [.str (a0Q "put"),.str x,.int p,.int k]
 | .take x=>.tuple [.str (a0Q "take"),.str x]
 | .move x p=>.tuple [.str (a0Q "move"),.str x,.int p]
 | .count x k=>.tuple [.str (a0Q "count"),.str x,.int k]
 | .name x y=>.tuple [.str (a0Q "name"),.str x,.str y]
 | .split x y p k=>.tuple [.str (a0Q "split"),.str x,.str y,.int p,.int k]
 | .join x y=>.tuple [.str (a0Q "join"),.str x,.str y]
def Deed.names:Deed->List Str
 | .put x _ _=>[x] | .take x=>[x] | .move x _=>[x] | .count x _=>[x] | .name x y=>[x,y] | .split x y _ _=>[x,y] | .join x y=>[x,y]
def Deed.ok (D:Deed):Prop:=∀x∈D.names,AO x
def NY:List (Str×Str):=[("put", "npk"),("take", "n"),("move", "np"),("count", "nk"),("name", "nn"),("split", "nnpk"),("join", "nn")]
def qA:PyData->PyData | .str z=>tP (NY.lookup z) | _=>.none
def nL (z:Str):Bool:=z == "name" || z == "split" || z == "join"
def QA:PyData->PyData | .tuple (.str w::r)=>.tuple (r.take (if nL w then 2 else 1)) | d=>d
theorem iY {w f:Str}(h:NY.lookup w=some f):(w = "put" /\ f = "npk")∨(w = "take" /\ f = "n")∨(w = "move" /\ f = "np")∨(w = "count" /\ f = "nk")∨(w = "name" /\ f = "nn")∨(w = "split" /\ f = "nnpk")∨(w = "join" /\ f = "nn"):=by
 unfold NY at h
 simp only[a3X,List.lookup_nil] at h
 split at h
 · rename_i e;exact .inl ⟨eq_of_beq e,by injection h with h;exact h.symm⟩
 split at h
 · rename_i e;exact .inr (.inl ⟨eq_of_beq e,by injection h with h;exact h.symm⟩)
 split at h
 · rename_i e;exact .inr (.inr (.inl ⟨eq_of_beq e,by injection h with h;exact h.symm⟩))
 split at h
 · rename_i e;exact .inr (.inr (.inr (.inl ⟨eq_of_beq e,by injection h with h;exact h.symm⟩)))
 split at h
 · rename_i e;exact .inr (.inr (.inr (.inr (.inl ⟨eq_of_beq e,by injection h with h;exact h.symm⟩))))
 split at h
 · rename_i e;exact .inr (.inr (.inr (.inr (.inr (.inl ⟨eq_of_beq e,by injection h with h;exact h.symm⟩)))))
 split at h
 · rename_i e;exact .inr (.inr (.inr (.inr (.inr (.inr ⟨eq_of_beq e,by injection h with h;exact h.symm⟩)))))
 cases h
theorem ZA {w f:Str}(h:NY.lookup w=some f):f.cps.all (· < 128)=true/\f.cps.size<=4/\Txt.startswith f (a0Q "nn")=nL w/\(nL w=true->2<=f.cps.size/\f.cps[0]?=some 110/\f.cps[1]?=some 110)/\1<=f.cps.size:=by
 rcases iY h with ⟨rfl,rfl⟩ | ⟨rfl,rfl⟩ | ⟨rfl,rfl⟩ | ⟨rfl,rfl⟩ | ⟨rfl,rfl⟩ | ⟨rfl,rfl⟩ | ⟨rfl,rfl⟩ <;> decide +kernel
def iZ (d:PyData):Prop:=∃w f r,d = .tuple (.str w::r)/\NY.lookup w=some f
theorem j1 (D:Deed):iZ D.d:=by cases D <;> exact⟨_,_,_,rfl,rfl⟩
theorem WN (D:Deed):QA D.d = .tuple (D.names.map .str):=by cases D <;> rfl
def nmS:PyData->List Str | .tuple ds=>ds.map SX | _=>[]
def ZB (d:PyData):List Str:=nmS (QA d)
theorem WO (D:Deed):ZB D.d=D.names:=by
 unfold ZB
 rw[WN]
 show(D.names.map a0W).map SX=_
 rw[zD]
 exact a9Z _
def UG (d:PyData):Prop:=∃D:Deed,d=D.d/\D.ok
def NH:FSp:=fn1 (fun _=>True) qA
def LB:FSp:=fn1 iZ QA
def E7 (o:MO):Prop:=∃v:Int,o = .l [.int v]
def C7:FSp:=⟨fun xs M=>∃c:Int,xs=[.d (.int c)]/\xJ c<=2 ^ 21,fun xs M y M'=>M'=M/\∃v:Int,y = .d (.int v)⟩
def BC:FSp:=⟨fun xs M=>∃p size o,xs=[.loc p,.d (.int size)]/\M p=some o/\E7 o/\0 < size/\size < 1073741824,
 fun xs M y M'=>∀p size,xs=[.loc p,.d (.int size)]->∃v o,y = .d (.int v)/\0<=v/\v < size/\E7 o/\M'=M.put p o⟩
theorem AZ {p:Addr}{size:Int}{o:MO}{M:Own}{Q:DS->Own->Prop}(m:M p=some o) (ho:E7 o) (h0:0 < size) (h1:size < 1073741824) (q:∀v o',0<=v->v < size->E7 o'->Q (.d (.int v)) (M.put p o')) :
   [DS.loc p,.d (.int size)].length=2/\BC.pre [.loc p,.d (.int size)] M/\∀x M',BC.post [.loc p,.d (.int size)] M x M'->Q x M':=
 ⟨rfl,⟨p,size,o,rfl,m,ho,h0,h1⟩,fun x M' h=>by obtain⟨v,o',rfl,h2,h3,h4,rfl⟩:=h p size rfl;exact q v o' h2 h3 h4⟩
def OL:List Str:=["take", "name", "join"]
theorem NI {z:Str}(h:z∈OL):z.cps.toList=[116,97,107,101]∨z.cps.toList=[110,97,109,101]∨z.cps.toList=[106,111,105,110]:=by
 simp only[OL,yX,xX,or_false] at h
 rcases h with rfl | rfl | rfl
 · exact .inl (by decide +kernel)
 · exact .inr (.inl (by decide +kernel))
 · exact .inr (.inr (by decide +kernel))
def nxL (a:Nat):Nat:=if a=122 then 97 else a+1
def Run (l:List Nat):Prop:=∀i a b,l[i]?=some a->l[i+1]?=some b->b=nxL a
theorem Run.drop {l:List Nat}(h:Run l) (n:Nat):Run (l.drop n):=fun i a b h1 h2=>by
 rw[b7K] at h1 h2
 exact h (n+i) a b h1 (by rw[← Nat.add_assoc] at h2;exact h2)
theorem Run.take {l:List Nat}(h:Run l) (n:Nat):Run (l.take n):=fun i a b h1 h2=>by
 rw[List.getElem?_take] at h1 h2
 split at h1
 · split at h2
   · exact h i a b h1 h2
   · cases h2
 · cases h1
theorem nM {z:Str}{n c:Nat}(h:z.cps.toList=a4Z n c):z∉OL:=fun hb=>by
 have key:∀a∈z.cps.toList,a=c:=fun a ha=>by rw[h] at ha;exact b9Q ha
 rcases NI hb with e | e | e
 · rw[e] at key
   have h1:=key 116 (by simp);have h2:=key 97 (by simp);omega
 · rw[e] at key
   have h1:=key 110 (by simp);have h2:=key 97 (by simp);omega
 · rw[e] at key
   have h1:=key 106 (by simp);have h2:=key 111 (by simp);omega
theorem nN {z:Str}{c:Nat}{m:List Nat}(h:z.cps.toList=c::m) (hr:Run m):z∉OL:=fun hb=>by
 rcases NI hb with e | e | e
 · rw[e] at h;injection h with _ h;subst h
   exact absurd (hr 0 97 107 rfl rfl) (by decide)
 · rw[e] at h;injection h with _ h;subst h
   exact absurd (hr 0 97 109 rfl rfl) (by decide)
 · rw[e] at h;injection h with _ h;subst h
   exact absurd (hr 0 111 105 rfl rfl) (by decide)
theorem nO {z:Str}{c:Nat}{m:List Nat}(h:z.cps.toList=m++[c]) (hr:Run m):z∉OL:=fun hb=>by
 have hm:m=z.cps.toList.dropLast:=by rw[h];simp
 rcases NI hb with e | e | e
 · rw[e] at hm;subst hm
   exact absurd (hr 0 116 97 rfl rfl) (by decide)
 · rw[e] at hm;subst hm
   exact absurd (hr 0 110 97 rfl rfl) (by decide)
 · rw[e] at hm;subst hm
   exact absurd (hr 0 106 111 rfl rfl) (by decide)
def w8 (l:List Nat):Bool:=(a0V l.length).all fun i=>match l[i]?,l[i+1]? with | some a,some b=>b==nxL a | _,_=>true
theorem tX {l:List Nat}(h:w8 l=true):Run l:=fun i a b h1 h2=>by
 have hi:i < l.length:=(yT.mp h1).1
 have:=List.all_eq_true.mp h i (List.mem_range.mpr hi)
 rw[h1,h2] at this
 exact eq_of_beq this
theorem j2:∀t,t < 26->w8 ((a0Q "abcdefghijklmnopqrstuvwxyz").cps.toList.drop t++(a0Q "abcdefghijklmnopqrstuvwxyz").cps.toList.take t)=true:=by decide +kernel
def DF:FSp:=⟨fun xs M=>∃p n o,xs=[.loc p,.d (.int n)]/\M p=some o/\E7 o/\0<=n/\n<=26,
 fun xs M y M'=>∀p n,xs=[.loc p,.d (.int n)]->∃(ys:List Str) (o:MO),y = .d (.list (ys.map .str))/\(ys.length:Int)=n/\(∀z∈ys,AO z)/\(∀z∈ys,z∉OL)/\ys.Nodup/\E7 o/\M'=M.put p o⟩
theorem ZC {p:Addr}{n:Int}{o:MO}{M:Own}{Q:DS->Own->Prop}(m:M p=some o) (ho:E7 o) (h0:0<=n) (h1:n<=26) (q:∀(ys:List Str) o',(ys.length:Int)=n->(∀z∈ys,AO z)->(∀z∈ys,z∉OL)->ys.Nodup->E7 o'->Q (.d (.list (ys.map .str))) (M.put p o')) :
   [DS.loc p,.d (.int n)].length=2/\DF.pre [.loc p,.d (.int n)] M/\∀x M',DF.post [.loc p,.d (.int n)] M x M'->Q x M':=
 ⟨rfl,⟨p,n,o,rfl,m,ho,h0,h1⟩,fun x M' h=>by obtain⟨v,o',rfl,h2,h3,h4,h5,h6,rfl⟩:=h p n rfl;exact q v o' h2 h3 h4 h5 h6⟩
theorem LC {c:Int}{M:Own}{Q:DS->Own->Prop}(h:xJ c<=2 ^ 21) (q:∀v:Int,Q (.d (.int v)) M):[DS.d (.int c)].length=1/\C7.pre [.d (.int c)] M/\∀x M',C7.post [.d (.int c)] M x M'->Q x M':=
 ⟨rfl,⟨c,rfl,h⟩,fun x M' h=>by obtain⟨rfl,v,rfl⟩:=h;exact q v⟩
theorem AM {z:Str}(h:AO z):zH (.str z)=true:=BD (C6 h) (by simp[a1V])
def Deed.word:Deed->Str
 | .put .. => "put" | .take .. => "take" | .move .. => "move" | .count .. => "count" | .name .. => "name" | .split .. => "split" | .join .. => "join"
def Deed.fst:Deed->Str
 | .put x _ _=>x | .take x=>x | .move x _=>x | .count x _=>x | .name x _=>x | .split x _ _ _=>x | .join x _=>x
def Deed.rest:Deed->List PyData
 | .put _ p k=>[.int p,.int k] | .take _=>[] | .move _ p=>[.int p] | .count _ k=>[.int k] | .name _ y=>[.str y] | .split _ y p k=>[.str y,.int p,.int k] | .join _ y=>[.str y]
theorem Deed.d_eq (D:Deed):D.d = .tuple (.str D.word::.str D.fst::D.rest):=by cases D <;> rfl
theorem Deed.word_ok (D:Deed):zH (.str D.word)=true:=by cases D <;> (simp only[Deed.word];decide +kernel)
theorem CJ (a b:Str):a0X (.str a) (.str b)=(a==b):=by simp[a0X]
theorem JB {ss:List Str}(h:∀s∈ss,PyData.strOk s=true):zH (.list (ss.map .str))=true:=by
 refine BD (EY fun d hd=>?_) ?_
 · obtain⟨y,h1,rfl⟩:=zL.mp hd
   exact h y h1
 · have:a1Z (ss.map a0W)<=0:=J9 fun d hd=>by
     obtain⟨y,h1,rfl⟩:=zL.mp hd
     exact zR 0
   simp only[a1V];omega
theorem P6 {ys:List Str}{v:Int}(h0:0<=v) (h1:v < ys.length):∃y,atI (ys.map a0W) v=some (.str y)/\y∈ys:=by
 obtain⟨n,rfl⟩:∃n:Nat,v=(n:Int):=⟨v.toNat,by omega⟩
 have hn:n < ys.length:=by omega
 exact⟨ys[n],AE (by rw[zF,zV hn];rfl),b1W hn⟩
def nmA (R:Str):PyData->PyData
 | .int i=>match atI R.cps.toList (i/8) with | some c=>.str (OK ⟨#[c]⟩ (1+i % 8)) | none=>.none
 | d=>d
def nmB (R t:Str):PyData->PyData
 | .int i=>match atI R.cps.toList i with | some c=>.str (⟨#[c]⟩++t) | none=>.none
 | d=>d
def nmC (R t:Str):PyData->PyData
 | .int i=>match atI R.cps.toList i with | some c=>.str (t++⟨#[c]⟩) | none=>.none
 | d=>d
theorem UH {R:Str}{i:Int}{c:Nat}(h:atI R.cps.toList (i/8)=some c):nmA R (.int i) = .str (OK ⟨#[c]⟩ (1+i % 8)):=by simp only[nmA,h]
theorem UI {R t:Str}{i:Int}{c:Nat}(h:atI R.cps.toList i=some c):nmB R t (.int i) = .str (⟨#[c]⟩++t):=by simp only[nmB,h]
theorem UJ {R t:Str}{i:Int}{c:Nat}(h:atI R.cps.toList i=some c):nmC R t (.int i) = .str (t++⟨#[c]⟩):=by simp only[nmC,h]
def WP:FSp:=⟨fun xs M=>∃ns:List Int,xs=[.d (.list (ns.map .int))]/\ns.length<=63/\∀i∈ns,xJ i<=2 ^ 20,fun xs M y M'=>y = .d (.bool true)⟩
theorem QC {R:List Nat}(h:R.Nodup) {i j:Nat}{c:Nat}(h1:atI R (i:Int)=some c) (h2:atI R (j:Int)=some c) (hi:i < R.length) (hj:j < R.length):i=j:=by
 have e1:atI R (i:Int)=some R[i]:=AE (zV hi)
 have e2:atI R (j:Int)=some R[j]:=AE (zV hj)
 rw[e1] at h1
 rw[e2] at h2
 have:R[i]=R[j]:=by rw[Option.some.inj h1,Option.some.inj h2]
 exact(List.getElem_inj h).mp this
theorem nodup_range {N:Nat}{f:Nat->Str}(h:∀i j,i < N->j < N->f i=f j->i=j):((a0V N).map f).Nodup:=by
 unfold List.Nodup
 rw[a5V]
 exact(List.nodup_range (n:=N)).imp_of_mem fun {a b} ha hb hab e=>hab (h a b (List.mem_range.mp ha) (List.mem_range.mp hb) e)
theorem dP (t:Nat):((a0Q "abcdefghijklmnopqrstuvwxyz").cps.toList.drop t++(a0Q "abcdefghijklmnopqrstuvwxyz").cps.toList.take t).Nodup:=by
 have h:((a0Q "abcdefghijklmnopqrstuvwxyz").cps.toList.drop t++(a0Q "abcdefghijklmnopqrstuvwxyz").cps.toList.take t).Perm (a0Q "abcdefghijklmnopqrstuvwxyz").cps.toList:=by
   refine List.perm_append_comm.trans ?_
   rw[List.take_append_drop]
 exact h.nodup_iff.mpr YY
theorem j3 {c d:Nat}{t:Str}(h:(⟨#[c]⟩:Str)++t=⟨#[d]⟩++t):c=d:=by
 have:=congrArg (fun s:Str=>s.cps.toList) h
 simp only[AT] at this
 have:=List.append_cancel_right this
 simpa using this
theorem j4 {c d:Nat}{t:Str}(h:t++(⟨#[c]⟩:Str)=t++⟨#[d]⟩):c=d:=by
 have:=congrArg (fun s:Str=>s.cps.toList) h
 simp only[AT] at this
 have:=List.append_cancel_left this
 simpa using this
theorem nP {c d:Nat}{m n:Int}(hm:1<=m) (hn:1<=n) (h:OK ⟨#[c]⟩ m=OK ⟨#[d]⟩ n):c=d/\m=n:=by
 have:=congrArg (fun s:Str=>s.cps.toList) h
 simp only[UD hm,UD hn] at this
 have hl:=congrArg b9W this
 rw[b0V,b0V] at hl
 have hmn:m=n:=by omega
 refine⟨?_,hmn⟩
 subst hmn
 have hc:c∈a4Z m.toNat d:=by rw[← this];exact List.mem_replicate.mpr ⟨by omega,rfl⟩
 exact b9Q hc
end DL
namespace DL
open PySem PySem.Spec L2
def G8:PyData->PyData
 | .tuple (.str w::r)=>if w == "put" then r.getD 0 .none else if w == "name" || w == "split" then r.getD 1 .none else .none
 | _=>.none
def UK:PyData->PyData
 | .tuple (.str w::r)=>if w == "take" || w == "name" then r.getD 0 .none else if w == "join" then r.getD 1 .none else .none
 | _=>.none
def FH:FSp:=fn1 UG G8
def FW:FSp:=fn1 UG UK
def WQ (d:PyData):List Str:=(ZB d).filter fun n=>!a0X (.str n) (G8 d)
def DH:FSp:=fn1 UG fun d=>.tuple ((WQ d).map .str)
def Deed.isPut:Deed->Bool | .put ..=>true | _=>false
def Deed.isNS:Deed->Bool | .name ..=>true | .split ..=>true | _=>false
def Deed.isTN:Deed->Bool | .take ..=>true | .name ..=>true | _=>false
def Deed.isJoin:Deed->Bool | .join ..=>true | _=>false
theorem j5 (D:Deed):(D.word==a0Q "put")=D.isPut:=by cases D <;> (simp only[Deed.word,Deed.isPut];decide +kernel)
theorem dQ (D:Deed):(D.word==a0Q "join")=D.isJoin:=by cases D <;> (simp only[Deed.word,Deed.isJoin];decide +kernel)
theorem w9 (w a b:Str):decide (w∈[a,b])=(w==a||w==b):=by rw[a6Z];simp
theorem nQ (D:Deed):(D.word==a0Q "name" || D.word==a0Q "split")=D.isNS:=by cases D <;> (simp only[Deed.word,Deed.isNS];decide +kernel)
theorem nR (D:Deed):(D.word==a0Q "take" || D.word==a0Q "name")=D.isTN:=by cases D <;> (simp only[Deed.word,Deed.isTN];decide +kernel)
theorem nS {D:Deed}(h:D.ok):zH (G8 D.d)=true:=by
 cases D with
 | put x p k=>exact AM (h x (by simp[Deed.names]))
 | name x y=>exact AM (h y (by simp[Deed.names]))
 | split x y p k=>exact AM (h y (by simp[Deed.names]))
 | _=>rfl
end DL
namespace DL
open PySem PySem.Spec L2
def Deed.made:Deed->Option Str | .put x _ _=>some x | .name _ y=>some y | .split _ y _ _=>some y | _=>none
def Deed.apart:Deed->Prop | .name x y=>x≠y | .split x y _ _=>x≠y | .join x y=>x≠y | _=>True
def Deed.placed:Deed->Prop | .put _ p _=>0<=p/\p<=999 | .move _ p=>0<=p/\p<=999 | .split _ _ p _=>0<=p/\p<=999 | _=>True
def Deed.real (D:Deed):Prop:=D.ok/\D.apart/\D.placed
theorem B0 {D:Deed}(h:D.real):UG D.d:=⟨D,rfl,h.1⟩
def GR (ns:List Str) (D:Deed):Option Str:=D.names.find? fun n=>decide (n∈ns)==decide (D.made=some n)
theorem WR {ns:List Str}{D:Deed}(h:GR ns D=none):∀n∈D.names,(n∈ns)↔¬D.made=some n:=fun n hn=>by
 have:=List.find?_eq_none.mp h n hn
 by_cases h1:n∈ns <;> by_cases h2:D.made=some n <;> simp_all
theorem UL (D:Deed):G8 D.d=match D.made with | some x=>.str x | none=>.none:=by cases D <;> rfl
theorem FX {D E:Deed}(h:D.d=E.d):D=E:=by
 cases D <;> cases E <;> simp only[Deed.d,PyData.tuple.injEq,List.cons.injEq,PyData.str.injEq,PyData.int.injEq,and_true,true_and,reduceCtorEq,and_false,false_and,List.nil_eq] at h <;>
   first
   | (obtain⟨_,h⟩:=h;first | (obtain⟨rfl,rfl,rfl,rfl⟩:=h;rfl) | (obtain⟨rfl,rfl,rfl⟩:=h;rfl) | (obtain⟨rfl,rfl⟩:=h;rfl) | (subst h;rfl))
   | (obtain⟨rfl,rfl,rfl,rfl⟩:=h;rfl) | (obtain⟨rfl,rfl,rfl⟩:=h;rfl) | (obtain⟨rfl,rfl⟩:=h;rfl) | (subst h;rfl)
   | exact absurd h.1 (by decide +kernel)
end DL
namespace DL
open PySem PySem.Spec L2
theorem LD (ds:List PyData):(ds.filter fun _=>true)=ds:=List.filter_eq_self.mpr (by simp)
def CW (ns:List Str):Deed->List Str
 | .put x _ _=>ns++[x]
 | .take x=>ns.filter fun n=>decide (n≠x)
 | .move _ _=>ns
 | .count _ _=>ns
 | .name x y=>(ns.filter fun n=>decide (n≠x))++[y]
 | .split _ y _ _=>ns++[y]
 | .join _ y=>ns.filter fun n=>decide (n≠y)
theorem j6 {ns:List Str}{D:Deed}(ha:GR ns D=none) {n:Str}(hn:n∈D.names) (hm:D.made≠some n):n∈ns:=(WR ha n hn).mpr hm
end DL
namespace DL
open PySem PySem.Spec L2
def qB (w:List Th):Prop:=Ris (w.map (·.1))/\∀t∈w,AO t.1/\0<=t.2.1/\t.2.1<=999
theorem EN {ns:List Str}{D:Deed}(h:∀n∈D.names,(n∈ns)↔¬D.made=some n):GR ns D=none:=by
 unfold GR
 rw[List.find?_eq_none]
 intro n hn
 have:=h n hn
 by_cases h1:n∈ns <;> by_cases h2:D.made=some n <;> simp_all
end DL
namespace L2
open PySem PySem.Spec PyProof.Rows
theorem NZ (ns:List Int):∀k,k<=ns.length->preSum (fun i=>ns.getD i 0) k=(ns.take k).sum
 | 0,_=>by simp[preSum]
 | k+1,h=>by
   show preSum _ k+ns.getD k 0=_
   have e:ns.take (k+1)=ns.take k++[ns.getD k 0]:=by
     rw[a5W,yU,zV (by omega)];rfl
   rw[NZ ns k (by omega),e,List.sum_append]
   simp
def tY (K:Frg):List V->Hp->VK->Prop:=fun xs H Q=>∃(p:Addr) (ns:List Int),xs=[.ref p]/\SqL K H p (ns.map V.int)/\Q (.int ns.sum) H
theorem QD:∀{ns:List Int}{its:List Value},Vals (ns.map V.int) its->its.length=ns.length/\∀(i:Nat) v,its[i]?=some v->∃t,v=b8J (ns.getD i 0) t
 | [],_,.nil=>⟨rfl,fun i v h=>by simp at h⟩
 | n::ns,_,.cons r t=>by
   obtain⟨h1,h2⟩:=QD t
   refine⟨by simp[h1],fun i v h=>?_⟩
   cases i with
   | zero=>simp at h;subst h;exact r
   | succ i=>exact h2 i v (by simpa using h)
theorem j7 {X:Cx}(hc:X.calm=true):BM X (.builtin "sum") (tY X.K):=by
 intro pins s σ H xs us Q I r h
 obtain⟨p,ns,rfl,hp,q⟩:=h
 obtain⟨u,rfl,ru⟩:=F4 r
 cases ru
 obtain⟨its,rv,pl,_⟩:=I.list hp
 obtain⟨hl,hv⟩:=QD rv
 have hlist:=pl.isList
 have hlt:p < s.heap.objs.size:=by obtain⟨_,e,_⟩:=hlist;exact zM e
 refine call_sum_walkAnyS ?_
 refine wpAny_pyIter_list hlist ⟨s.heap.objs.size,_,_,_,its.toArray.size,fun i v=>its.toArray[i]?=some v,_,fun i=>ns.getD i 0,rfl,(Walks.list (A:=X.A.in1) (I.ok.hd hc) _ _ (zC hlt) its.toArray).toS,⟨⟨_,yZ _ rfl,rfl,rfl⟩,hlist.push _⟩,fun b hb=>?_,fun i v e=>hv i v (by simpa using e),fun s' t' hm=>?_⟩
 · show b < (s.heap.push _).objs.size
   rw[a8J]
   rcases yX.mp hb with e | hb
   · rw[e];exact Nat.lt_succ_self _
   · rw[List.mem_singleton.mp hb];exact b4J hlt
 · have hk:∀b o,s.heap.get? b=some o->s'.heap.get? b=some o:=fun b o e=>
     hm.heap b o (fun hI=>absurd (zM e) (by rw[List.mem_singleton.mp hI];exact yF _)) (zW _ e)
   rw[Moved.eq_with hm]
   have es:preSum (fun i=>ns.getD i 0) its.toArray.size=ns.sum:=by
     rw[zJ,hl,NZ ns _ (zR _),a6K]
   rw[es]
   exact⟨.int ns.sum,H,I.kept (h':=s'.heap) (t':=s'.toks) hk,⟨t',rfl⟩,q⟩
end L2
namespace DL
open PySem PySem.Spec L2
theorem xK {X:Cx}{K:Frg}(h:X.K=K) (hc:X.calm=true):BM X (.builtin "sum") (tY K):=h▸j7 hc
section
variable {K:Frg}{M:Own}{Q:DS->Own->Prop}{H:Hp}
theorem WS {W:Addr->Prop}:∀{ns:List Int}{vs:List V},DVs K H W (ns.map a3Q) vs->vs=ns.map V.int
 | [],vs,h=>by unfold DVs at h;subst h;rfl
 | n::ns,vs,h=>by
   rw[zI] at h
   unfold DVs at h
   obtain⟨v,r,rfl,h1,h2⟩:=h
   unfold DV at h1
   rw[h1,WS h2];rfl
theorem j8 {ns:List Int}(q:Q (.d (.int ns.sum)) M):DR K (tY K) [.d (.list (ns.map .int))] M Q:=fun H vs QQ oa s k=>by
 obtain⟨v,r,rfl,h1,h2⟩:=s
 cases h2
 unfold SI DV at h1
 obtain⟨a,vs,rfl,hl,hd⟩:=h1
 have e:=WS hd
 subst e
 exact⟨a,ns,rfl,hl.sq,k _ H (.d (.int ns.sum)) M oa CI Step.refl q⟩
end
end DL
namespace DL
open PySem PySem.Spec L2
def CC (sp:List Str) (D:Deed):List Str:=match D.made with | some _=>sp.drop 1 | none=>sp
theorem H0 {so sp:List Str}{D:Deed}(h:∀n,D.made=some n->sp.head?=some n):(CW so D++CC sp D).Sublist (so++sp):=by
 have hd:∀n,D.made=some n->sp=n::sp.drop 1:=fun n e=>by
   have:=h n e
   cases sp with
   | nil=>simp at this
   | cons a r=>simp at this;subst this;rfl
 cases D with
 | put x p k=>
   show((so++[x])++sp.drop 1).Sublist _
   conv=>rhs;rw[hd x rfl]
   rw[b3V]
   exact a3K _
 | take x=>exact(a9K).append (a3K _)
 | move x p=>exact a3K _
 | count x k=>exact a3K _
 | name x y=>
   show(((so.filter fun n=>decide (n≠x))++[y])++sp.drop 1).Sublist _
   conv=>rhs;rw[hd y rfl]
   rw[b3V]
   exact List.filter_sublist.append (a3K _)
 | split x y p k=>
   show((so++[y])++sp.drop 1).Sublist _
   conv=>rhs;rw[hd y rfl]
   rw[b3V]
   exact a3K _
 | join x y=>exact(a9K).append (a3K _)
def namesOK (ys:List Str):Prop:=(∀z∈ys,AO z)/\ys.Nodup/\ys.length<=26
theorem namesOK.sub {as bs:List Str}(h:namesOK bs) (s:as.Sublist bs):namesOK as:=⟨fun z hz=>h.1 z (s.subset hz),h.2.1.sublist s,zN s.length_le h.2.2⟩
def AR (ys:List Str):PyData:=.list (ys.map .str)
def EO:FSp:=⟨fun xs M=>∃(p:Addr) (o:MO) (so sp:List Str),xs=[.loc p,.d (AR so),.d (AR sp)]/\M p=some o/\E7 o/\namesOK (so++sp)/\(so≠[]∨sp≠[]),
 fun xs M y M'=>∀(p:Addr) (so sp:List Str),xs=[.loc p,.d (AR so),.d (AR sp)]->∃(D:Deed) (o:MO),y = .d D.d/\D.real/\GR so D=none/\(∀n,D.made=some n->sp.head?=some n)/\E7 o/\M'=M.put p o⟩
theorem QE {p:Addr}{o:MO}{so sp:List Str}{M:Own}{Q:DS->Own->Prop}(m:M p=some o) (ho:E7 o) (hn:namesOK (so++sp)) (he:so≠[]∨sp≠[]) (q:∀(D:Deed) (o':MO),D.real->GR so D=none->(∀n,D.made=some n->sp.head?=some n)->E7 o'->Q (.d D.d) (M.put p o')) :
   [DS.loc p,.d (AR so),.d (AR sp)].length=3/\EO.pre [.loc p,.d (AR so),.d (AR sp)] M/\∀x M',EO.post [.loc p,.d (AR so),.d (AR sp)] M x M'->Q x M':=
 ⟨rfl,⟨p,o,so,sp,rfl,m,ho,hn,he⟩,fun x M' h=>by obtain⟨D,o',rfl,h1,h2,h3,h4,rfl⟩:=h p so sp rfl;exact q D o' h1 h2 h3 h4⟩
def DJ:FSp:=⟨fun xs M=>∃(D:Deed) (so sp:List Str),xs=[.d D.d,.d (AR so),.d (AR sp)]/\D.real/\namesOK (so++sp)/\GR so D=none,
 fun xs M y M'=>∀(D:Deed) (so sp:List Str),xs=[.d D.d,.d (AR so),.d (AR sp)]->y = .d (.tuple [AR (CW so D),AR (CC sp D)])/\M'=M⟩
theorem QF {D:Deed}{so sp:List Str}{M:Own}{Q:DS->Own->Prop}(hr:D.real) (hn:namesOK (so++sp)) (ha:GR so D=none) (q:Q (.d (.tuple [AR (CW so D),AR (CC sp D)])) M) :
   [DS.d D.d,.d (AR so),.d (AR sp)].length=3/\DJ.pre [.d D.d,.d (AR so),.d (AR sp)] M/\∀x M',DJ.post [.d D.d,.d (AR so),.d (AR sp)] M x M'->Q x M':=
 ⟨rfl,⟨D,so,sp,rfl,hr,hn,ha⟩,fun x M' h=>by obtain⟨rfl,rfl⟩:=h D so sp rfl;exact q⟩
def DK:FSp:=⟨fun xs M=>∃(p:Addr) (o:MO) (ys:List Str) (n:Nat),xs=[.loc p,.d (AR ys),.d (.int n)]/\M p=some o/\E7 o/\namesOK ys/\n<=ys.length,
 fun xs M y M'=>∀(p:Addr) (ys:List Str) (n:Nat),xs=[.loc p,.d (AR ys),.d (.int n)]->∃(w:List Th) (o:MO),y = .d (wD w)/\qB w/\(w.map (·.1)).Perm (ys.take n)/\E7 o/\M'=M.put p o⟩
theorem ZD {p:Addr}{o:MO}{ys:List Str}{n:Nat}{M:Own}{Q:DS->Own->Prop}(m:M p=some o) (ho:E7 o) (hy:namesOK ys) (hn:n<=ys.length) (q:∀(w:List Th) (o':MO),qB w->(w.map (·.1)).Perm (ys.take n)->E7 o'->Q (.d (wD w)) (M.put p o')) :
   [DS.loc p,.d (AR ys),.d (.int n)].length=3/\DK.pre [.loc p,.d (AR ys),.d (.int n)] M/\∀x M',DK.post [.loc p,.d (AR ys),.d (.int n)] M x M'->Q x M':=
 ⟨rfl,⟨p,o,ys,n,rfl,m,ho,hy,hn⟩,fun x M' h=>by obtain⟨w,o',rfl,h1,h2,h3,rfl⟩:=h p ys n rfl;exact q w o' h1 h2 h3⟩
def AL (l:Str×Deed):PyData:=.tuple [.str l.1,l.2.d]
def AH (w:List Th) (ls:List (Str×Deed)):PyData:=.tuple [wD w,.tuple (ls.map AL)]
def HW:List Str:=["put", "move", "count", "name", "split", "join", "take", "count", "split"]
theorem dR:∀k∈HW,PyData.strOk k=true:=by decide +kernel
theorem HA {k:Str}(h:k∈HW):zH (.str k)=true:=BD (dR k h) (by simp[a1V])
theorem DN {ys:List Str}(h:∀z∈ys,AO z):zH (AR ys)=true:=JB fun z hz=>C6 (h z hz)
theorem CF (ys:List Str):a0X (AR ys) (.list [])=ys.isEmpty:=OJ ys
theorem EA {ys:List Str}{y:Str}:((ys.map a0W).filter fun d=>!a0X d (.str y)).map id=(ys.filter fun z=>decide (z≠y)).map .str:=by
 rw[a9Z,xU]
 congr 1
 apply b8V
 intro z _
 show(!a0X (.str z) (.str y))=_
 rw[CJ]
 by_cases e:z=y <;> simp[e]
theorem FY {as bs:List Str}(h:AR as=AR bs):as=bs:=W5 (by unfold AR at h;exact PyData.list.inj h)
theorem G9 {p p':Addr}{so so' sp sp':List Str}(e:[DS.loc p,.d (AR so),.d (AR sp)]=[.loc p',.d (AR so'),.d (AR sp')]):p=p'/\so=so'/\sp=sp':=by
 simp only[List.cons.injEq,DS.loc.injEq,DS.d.injEq,and_true] at e
 exact⟨e.1,FY e.2.1,FY e.2.2⟩
theorem HX {D D':Deed}{so so' sp sp':List Str}(e:[DS.d D.d,.d (AR so),.d (AR sp)]=[.d D'.d,.d (AR so'),.d (AR sp')]):D=D'/\so=so'/\sp=sp':=by
 simp only[List.cons.injEq,DS.d.injEq,and_true] at e
 exact⟨FX e.1,FY e.2.1,FY e.2.2⟩
theorem bN {ys:List Str}(h:∀z∈ys,AO z):(ys.filter fun z=>decide (z≠a0Q ""))=ys:=List.filter_eq_self.mpr fun z hz=>by
 have:=(h z hz).1
 simp
 intro e
 rw[e] at this
 exact absurd this (by decide +kernel)
def wB2 (t:Th):Str×List PyData:=(t.1,[.int t.2.1,.int t.2.2])
def unB (u:Str×List PyData):Th:=match u with | (a,[.int p,.int c])=>(a,p,c) | (a,_)=>(a,0,0)
theorem j9 (w:List Th):(w.map wB2).map NG=w.map thD:=by rw[zD];rfl
theorem jA {ts:List (Str×List PyData)}{w:List Th}(h:ts.Perm (w.map wB2)):(ts.map unB).Perm w/\ts.map NG=(ts.map unB).map thD/\(ts.map unB).map (·.1)=ts.map (·.1):=by
 have e:(w.map wB2).map unB=w:=by rw[zD];exact a9Z _
 refine⟨by have:=h.map unB;rw[e] at this;exact this,?_,?_⟩
 · rw[zD]
   apply yM
   intro u hu
   obtain⟨t,_,rfl⟩:=zL.mp (h.mem_iff.mp hu)
   rfl
 · rw[zD]
   apply yM
   intro u hu
   obtain⟨t,_,rfl⟩:=zL.mp (h.mem_iff.mp hu)
   rfl
theorem ZE {ts:List (Str×List PyData)}(h:ts.Pairwise fun x y=>x.1.cps.toList < y.1.cps.toList):Ris (ts.map (·.1)):=by
 unfold Ris
 rw[a5V]
 exact h.imp fun {a b} q=>by rw[← vX];exact decide_eq_true q
theorem WT:∀z∈[a0Q "me", "you", "abcdefgh"],AO z:=by
 intro z hz
 simp only[yX,xX,or_false] at hz
 rcases hz with rfl | rfl | rfl <;> (refine⟨by decide +kernel,by decide +kernel,?_⟩;decide +kernel)
theorem dS:xJ 915965594177219015054603514932384110774149374281672134266497<=256:=by decide +kernel
theorem nT {c:Int}(h:xJ c<=2 ^ 21):IntMulOk c 915965594177219015054603514932384110774149374281672134266497:=PySem.IntMulOk.of_le h dS (by decide)
end DL
namespace DL
open PySem PySem.Spec L2
def BK (ts:List (Int×PyData)):List (PyData×PyData):=ts.map fun t=>(a3Q t.1,t.2)
def J5 (ts:List (Int×PyData)) (k:Int) (d:PyData):List (Int×PyData):=
 if (ts.any fun t=>decide (t.1=k))=true then ts.map (fun t=>if t.1=k then (t.1,d) else t) else ts++[(k,d)]
def HB:List (Int×PyData)->Int->Option PyData
 | [],_=>none
 | t::r,k=>if t.1=k then some t.2 else HB r k
section
variable {K:Frg}{H:Hp}{W:Addr->Prop}
theorem CK {t:Int×PyData}{ts:List (Int×PyData)}{ks:List (Key×V)}:DKV K H W (BK (t::ts)) ks↔∃v r,ks=(a5X t.1,v)::r/\DV K H W t.2 v/\DKV K H W (BK ts) r:=by
 unfold BK
 rw[zI]
 constructor
 · intro h
   unfold DKV at h
   obtain⟨k',v,r,e,e2,h1,h2⟩:=h
   cases k' with
   | inr i=>cases e2
   | inl x=>
     have e3:t.1=x:=by simpa [cU] using e2
     subst e3
     exact⟨v,r,e,h1,h2⟩
 · rintro⟨v,r,e,h1,h2⟩
   unfold DKV
   exact⟨a5X t.1,v,r,e,rfl,h1,h2⟩
theorem FZ {ks:List (Key×V)}:DKV K H W (BK []) ks↔ks=[]:=by unfold BK;simp only[a3W];unfold DKV;exact Iff.rfl
theorem T1:∀{ts:List (Int×PyData)}{ks:List (Key×V)},DKV K H W (BK ts) ks->ks.map (·.1)=(ts.map (·.1)).map a5X
 | [],ks,h=>by rw[FZ.mp h];rfl
 | t::ts,ks,h=>by obtain⟨v,r,rfl,_,h2⟩:=CK.mp h;simp[T1 h2]
theorem WU {k:Int}:∀{ts:List (Int×PyData)}{ks:List (Key×V)},DKV K H W (BK ts) ks->(ks.any fun kv=>decide (kv.1=a5X k))=ts.any fun t=>decide (t.1=k)
 | [],ks,h=>by rw[FZ.mp h];rfl
 | t::ts,ks,h=>by
   obtain⟨v,r,rfl,_,h2⟩:=CK.mp h
   rw[a9W,a9W,WU h2]
   congr 1
   by_cases e:t.1=k
   · rw[decide_eq_true e,decide_eq_true (by rw[e])]
   · rw[decide_eq_false e,decide_eq_false fun q=>e (by injection q)]
theorem NJ {k:Int}{d:PyData}{v:V}(hd:DV K H W d v):∀{ts:List (Int×PyData)}{ks:List (Key×V)},DKV K H W (BK ts) ks ->
   DKV K H W (BK (ts.map fun t=>if t.1=k then (t.1,d) else t)) (ks.map fun kv=>if kv.1=a5X k then (kv.1,v) else kv)
 | [],ks,h=>by rw[FZ.mp h];exact FZ.mpr rfl
 | t::ts,ks,h=>by
   obtain⟨u,r,rfl,h1,h2⟩:=CK.mp h
   rw[zI,zI]
   by_cases e:t.1=k
   · rw[if_pos e,if_pos (by rw[e])]
     exact CK.mpr ⟨v,_,rfl,hd,NJ hd h2⟩
   · rw[if_neg e,if_neg fun q=>e (by injection q)]
     exact CK.mpr ⟨u,_,rfl,h1,NJ hd h2⟩
theorem T2 {k:Int}{d:PyData}{v:V}(hd:DV K H W d v):∀{ts:List (Int×PyData)}{ks:List (Key×V)},DKV K H W (BK ts) ks->DKV K H W (BK (ts++[(k,d)])) (ks++[(a5X k,v)])
 | [],ks,h=>by rw[FZ.mp h];exact CK.mpr ⟨v,[],rfl,hd,FZ.mpr rfl⟩
 | t::ts,ks,h=>by
   obtain⟨u,r,rfl,h1,h2⟩:=CK.mp h
   exact CK.mpr ⟨u,_,rfl,h1,T2 hd h2⟩
theorem WV {k:Int}{d:PyData}{v:V}{ts:List (Int×PyData)}{ks:List (Key×V)}(h:DKV K H W (BK ts) ks) (hd:DV K H W d v):DKV K H W (BK (J5 ts k d)) (EX ks (a5X k) v):=by
 unfold J5 EX
 rw[WU h]
 by_cases c:(ts.any fun t=>decide (t.1=k))=true
 · rw[if_pos c,if_pos c];exact NJ hd h
 · rw[if_neg c,if_neg c];exact T2 hd h
theorem JY {k:Int}:∀{ts:List (Int×PyData)}{ks:List (Key×V)},DKV K H W (BK ts) ks->(∃d v,HB ts k=some d/\G5 ks (a5X k)=some v/\DV K H W d v)∨(HB ts k=none/\G5 ks (a5X k)=none)
 | [],ks,h=>by rw[FZ.mp h];exact .inr ⟨rfl,rfl⟩
 | t::ts,ks,h=>by
   obtain⟨u,r,rfl,h1,h2⟩:=CK.mp h
   by_cases e:t.1=k
   · exact .inl ⟨t.2,u,by simp[HB,e],J6 (by rw[e]),h1⟩
   · have e':¬(a5X t.1:Key)=a5X k:=fun q=>e (by injection q)
     rcases JY (k:=k) h2 with ⟨d,v,a1,a2,a3⟩ | ⟨a1,a2⟩
     · exact .inl ⟨d,v,by simp[HB,e,a1],by rw[FP (p:=(a5X t.1,u)) e'];exact a2,a3⟩
     · exact .inr ⟨by simp[HB,e,a1],by rw[FP (p:=(a5X t.1,u)) e'];exact a2⟩
end
section
variable {K:Frg}{M:Own}{Q:DS->Own->Prop}{ρ:List (Option DS)}{H:Hp}{td ty tv:TE}{D:EndsD}
theorem dU (h:DE K td ρ M fun x M1=>DE K ty ρ M1 fun y M2=>∃(a:Addr) (ts:List (Int×PyData)) (k:Int) (d:PyData),x = .loc a/\y = .d (.int k)/\M2 a=some (.d (BK ts))/\HB ts k=some d/\Q (.d d) M2):DE K (gD td ty) ρ M Q:=fun σ H QQ R kk=>
 h σ H _ R fun v H1 x M1 o1 s1 t1 h1=>h1 σ H1 _ (R.step o1 t1) fun u H2 y M2 o2 s2 t2 h2=>by
   obtain⟨a,ts,k,d,rfl,rfl,m,l,q⟩:=h2
   unfold SI at s1
   subst s1
   rw[BF s2]
   obtain⟨ks,e1,e2⟩:=o2 a _ m
   rcases JY (k:=k) e2 with ⟨d',w',a1,a2,a3⟩ | ⟨a1,a2⟩
   · rw[l] at a1
     cases a1
     exact⟨a,w',rfl,.inl ⟨ks,a5X k,.inl e1,rfl,a2.symm⟩,kk _ H2 (.d d) M2 o2 a3 (t1.trans t2) q⟩
   · rw[l] at a1;cases a1
theorem jB (h:DE K ty ρ M fun y M1=>DE K td ρ M1 fun x M2=>∃(a:Addr) (ts:List (Int×PyData)) (k:Int),x = .loc a/\y = .d (.int k)/\M2 a=some (.d (BK ts))/\Q (.d (.bool (HB ts k).isSome)) M2):DE K (sB ty td) ρ M Q:=fun σ H QQ R kk=>
 h σ H _ R fun v H1 x M1 o1 s1 t1 h1=>h1 σ H1 _ (R.step o1 t1) fun u H2 y M2 o2 s2 t2 h2=>by
   obtain⟨a,ts,k,rfl,rfl,m,q⟩:=h2
   unfold SI at s2
   subst s2
   rw[BF s1]
   obtain⟨ks,e1,e2⟩:=o2 a _ m
   refine⟨a,G5 ks (a5X k),rfl,.inl ⟨ks,a5X k,.inl e1,rfl,rfl⟩,kk _ H2 _ M2 o2 ?_ (t1.trans t2) q⟩
   rcases JY (k:=k) e2 with ⟨d',w',a1,a2,a3⟩ | ⟨a1,a2⟩
   · rw[a1,a2];exact AK
   · rw[a1,a2];exact AK
theorem jC (h:DE K tv ρ M fun z M1=>DE K td ρ M1 fun x M2=>DE K ty ρ M2 fun y M3=>∃(a:Addr) (ts:List (Int×PyData)) (k:Int) (d:PyData),z = .d d/\x = .loc a/\y = .d (.int k)/\M3 a=some (.d (BK ts))/\ts.length < sizeLine/\D.nx ρ (M3.put a (.d (BK (J5 ts k d))))):DSt K (gE td ty tv) ρ M D:=fun σ H E R k1 k2 k3 k4=>
 h σ H _ R fun v H1 z M1 o1 s1 t1 h1=>h1 σ H1 _ (R.step o1 t1) fun u H2 x M2 o2 s2 t2 h2=>h2 σ H2 _ (R.step o2 (t1.trans t2)) fun yv H3 y M3 o3 s3 t3 h3=>by
   obtain⟨a,ts,k,d,rfl,rfl,rfl,m,hl,q⟩:=h3
   unfold SI at s2
   subst s2
   rw[BF s3]
   obtain⟨ks,e1,e2⟩:=o3 a _ m
   have hd:DV K H3 M3.W d v:=DV.grow (t2.trans t3).grow s1
   obtain⟨o4,t4⟩:=FR o3 m (WV (k:=k) e2 hd)
   have hlen:ks.length < sizeLine:=by rw[LY e2];unfold BK;rw[zX];exact hl
   have ta:=((t1.trans t2).trans t3).trans t4
   exact⟨a,_,rfl,.inl ⟨ks,a5X k,e1,rfl,hlen,rfl⟩,k1 ρ _ σ _ (R.step o4 ta) ta q⟩
theorem dW (h:DE K ty ρ M fun y M1=>DE K td ρ M1 fun x M2=>∃(a:Addr) (ts:List (Int×PyData)) (k:Int),x = .loc a/\y = .d (.int k)/\M2 a=some (.d (BK ts))/\Q (.d (.bool (!(HB ts k).isSome))) M2):DE K (aO ty td) ρ M Q:=fun σ H QQ R kk=>
 h σ H _ R fun v H1 x M1 o1 s1 t1 h1=>h1 σ H1 _ (R.step o1 t1) fun u H2 y M2 o2 s2 t2 h2=>by
   obtain⟨a,ts,k,rfl,rfl,m,q⟩:=h2
   unfold SI at s2
   subst s2
   rw[BF s1]
   obtain⟨ks,e1,e2⟩:=o2 a _ m
   refine⟨a,G5 ks (a5X k),rfl,.inl ⟨ks,a5X k,.inl e1,rfl,rfl⟩,kk _ H2 _ M2 o2 ?_ (t1.trans t2) q⟩
   rcases JY (k:=k) e2 with ⟨d',w',a1,a2,a3⟩ | ⟨a1,a2⟩
   · rw[a1,a2];exact AK
   · rw[a1,a2];exact AK
end
section
variable {K:Frg}{M:Own}{ρ:List (Option DS)}{wi:TI}{g:TG}{H:Hp}
theorem jD (ts:List (Int×PyData)) (k:Int) (d:PyData):(J5 ts k d).length<=ts.length+1:=by
 unfold J5
 split
 · rw[zX];exact b0Q _
 · rw[yY];exact zR _
theorem WW (f:PyData->Int) (w:PyData->PyData):∀(ds:List PyData) (ts:List (Int×PyData)),(ds.foldl (fun ts d=>J5 ts (f d) (w d)) ts).length<=ts.length+ds.length
 | [],ts=>zR _
 | d::r,ts=>by
   have h1:=WW f w r (J5 ts (f d) (w d))
   have h2:=jD ts (f d) (w d)
   rw[yR]
   show(r.foldl _ (J5 ts (f d) (w d))).length<=_
   omega
theorem dX {fr:List (Option Nat)}{tt:TT}{tk tv:TE}{T:List Nat}{Q:DS->Own->Prop}(ho:PU g T) (hT:∀i∈T,∀j,fr[i]?≠some (some j))
   (h:DI K wi ρ M fun ds M1=>ds.length < sizeLine/\∃(c:PyData->Bool) (f:PyData->Int) (w:PyData->PyData),True /\
     (∀d∈ds,∀M',DG K g d (KG fr ρ) M' fun ρ2 M2=>M2=M'/\DT K tt ρ2 M2 fun b M3=>M3=M'/\b=c d/\(c d=true->DE K tk ρ2 M3 fun y M4=>y = .d (.int (f d))/\M4=M'/\DE K tv ρ2 M4 fun z M5=>z = .d (w d)/\M5=M')) /\
     ∀p,M1 p=none->Q (.loc p) (M1.put p (.d (BK ((ds.filter c).foldl (fun ts d=>J5 ts (f d) (w d)) []))))) :
   DE K (UF fr wi g tt tk tv) ρ M Q:=fun σ H QQ R k=>
 h σ H _ R fun J ds H1 M1 o1 t1 wd ⟨hsz,c,f,w,nd,he,hq⟩=>by
   intro A hA
   obtain⟨oA,sA⟩:=LS (kvs:=[]) (ks:=[]) o1 hA (by unfold DKV;rfl)
   have hM:=o1.none hA
   let acc:Nat->List (Int×PyData):=fun i=>((ds.take i).filter c).foldl (fun ts d=>J5 ts (f d) (w d)) []
   refine⟨fun i m ys H2=>m=ds.length - i/\i<=ds.length/\H2 A=some (.dK ys)/\OA K H2 (M1.put A (.d (BK (acc i))))/\Step K M1 (M1.put A (.d (BK (acc i)))) H1 H2,⟨_,rfl,xT _,AI,oA,sA⟩,?_⟩
   rintro i m ys H2 ⟨rfl,hi,hys,oa,st⟩
   refine⟨hys,?_⟩
   by_cases hlt:i < ds.length
   · refine .inr ⟨wd.go i H2 _ hlt oa st,fun x H3 y=>?_⟩
     obtain⟨oa3,st3,d,e1,e2⟩:=wd.yld i H2 _ x H3 oa st hlt y
     have Rc:Rel K (M1.put A (.d (BK (acc i)))) (KG fr ρ) (L2.capt fr σ) H3:=((R.step o1 t1).step oa3 (st.trans st3)).capt
     have ts:(ds.take (i+1)).filter c=(ds.take i).filter c++(if c d then [d] else []):=take_succ_filter c ds i d e1
     refine ho _ _ _ _ (he d (yN e1) _ (L2.capt fr σ) H3 x _ Rc e2 fun ρ3 M3 σ3 H4 R3 st4 ⟨eM,b3⟩ hext=>⟨fun i' v' hv'=>?_,?_⟩)
     · obtain⟨j,f1,f2⟩:=JU hv'
       rw[hext i' fun hm=>hT i' hm j f1]
       exact hv'
     · subst eM
       refine b3 σ3 H4 _ R3 fun b H5 M5 o5 st5 ⟨eM5,eb,h5⟩=>?_
       subst eM5
       have sx:=((st.trans st3).trans st4).trans st5
       cases hb:c d with
       | false=>
         rw[hb] at eb
         subst eb
         rw[if_neg nft]
         obtain⟨ks,q1,q2⟩:=o5 A _ zU
         have ea:acc (i+1)=acc i:=by show(((ds.take (i+1)).filter c).foldl _ _)=_;rw[ts,hb];simp[acc]
         refine⟨ks,ds.length - (i+1),by omega,rfl,hlt,q1,?_,?_⟩
         · rw[ea];exact o5
         · rw[ea];exact sx
       | true=>
         rw[hb] at eb
         subst eb
         rw[if_pos rfl]
         refine h5 hb σ3 H5 _ (R3.step o5 st5) fun y H6 z M6 o6 s6 st6 ⟨ez,eM6,h6⟩=>?_
         subst ez eM6
         refine h6 σ3 H6 _ ((R3.step o5 st5).step o6 st6) fun y2 H7 z2 M7 o7 s7 st7 ⟨ez2,eM7⟩=>?_
         subst ez2 eM7
         obtain⟨ks,q1,q2⟩:=o7 A _ zU
         obtain⟨w1,w2⟩:=FR o7 zU (WV (k:=f d) q2 s7)
         have ea:acc (i+1)=J5 (acc i) (f d) (w d):=by
           show(((ds.take (i+1)).filter c).foldl _ _)=_
           rw[ts,hb,if_pos rfl,List.foldl_append];rfl
         have hlen:ks.length < sizeLine:=by
           rw[LY q2]
           unfold BK
           rw[zX]
           refine zQ (WW _ _ _ _) ?_
           rw[b2K,b7V]
           exact zQ (zN (yJ _ _) (by rw[a1Q];omega)) hsz
         rw[yI] at w1 w2
         refine⟨ks,a5X (f d),BF s6,q1,hlen,ds.length - (i+1),by omega,rfl,hlt,AI,?_,?_⟩
         · rw[ea];exact w1
         · rw[ea];exact((sx.trans st6).trans st7).trans w2
   · have e:i=ds.length:=by omega
     subst e
     refine .inl ⟨wd.stop H2 _ oa st,k _ H2 (.loc A) _ oa rfl (t1.trans st) ?_⟩
     have:=hq A hM
     have ea:acc ds.length=(ds.filter c).foldl (fun ts d=>J5 ts (f d) (w d)) []:=by show(((ds.take ds.length).filter c).foldl _ _)=_;rw[a6K]
     rw[ea]
     exact this
end
end DL
namespace L2
open PySem PySem.Spec PyProof.Rows PySem.W
section
variable {prog:Program}{w:World}{A:Around}{E:Value->Shared->Prop}{s:Shared}
theorem UM {d:Addr}{kvs:List (Key×Value)}{ss:List Int}{Q:Value->Shared->Prop}(hh:A.handled=none) (hd:(d==sysModules)=false) (dd:s.heap.DictOf (AX prog w) d kvs) (hk:kvs.map (·.1)=ss.map a5X) (h64:ss.length < 64)
   (h:∀(h1 h':Heap) (tk:Nat) (out:List Value) (e:Nat) (ss':List Int),(∀b o,s.heap.get? b=some o->h1.get? b=some o)->(∀b o,h1.get? b=some o->h'.get? b=some o)->h'.get? h1.objs.size=some (seqObj "list" out.toArray e)->IntsAre out ss'->ss'.Perm ss->ss'.Pairwise (·<=·)->Q (.ref h1.objs.size) { s with heap:=h',toks:=tk }) :
   wpAny (model prog w) A (call (.builtin "sorted") [.ref d]) Q E s:=by
 refine b7J kind_sorted plain_sorted entry_sorted (args_sorted1 _) ?_
 obtain⟨ep,hat⟩:=dd.dictAt
 have hlen:kvs.length=ss.length:=by have:=congrArg b9W hk;simpa using this
 unfold Builtin.«sorted»;refine zZ (m:=checkCount "sorted" 1 1 _) (zY (zZ (kdu_collect (A:=A.in1) (kdl_dict (kvs:=kvs) (ep:=ep) hd) hh hat (by rw[hlen,sizeLine_eq];omega) fun h' tk acc hold hacc=>?_)))
 have hl:acc.toList.length=ss.length:=by rw[a4K,hacc.1,hlen]
 have hS:IntsAre acc.toList ss:=by
   have go:∀(vs:List Value) (zs:List Int),vs.length=zs.length->(∀(i:Nat) v x,vs[i]?=some v->zs[i]?=some x->∃t,v=b8J x t)->IntsAre vs zs:=by
     intro vs
     induction vs with
     | nil=>intro zs hz _;cases zs with
       | nil=>exact .nil
       | cons _ _=>simp at hz
     | cons v vs ih=>intro zs hz hv;cases zs with
       | nil=>simp at hz
       | cons x zs=>
         obtain⟨t,rfl⟩:=hv 0 v x rfl rfl
         exact .cons x t (ih zs (by simpa using hz) fun i v x e1 e2=>hv (i+1) v x (by simpa using e1) (by simpa using e2))
   refine go _ _ hl fun i v x e1 e2=>?_
   obtain⟨k,y,g1,g2⟩:=hacc.2 i v (by rw[← a7W];exact e1)
   have e3:(kvs.map (·.1))[i]?=some k:=by rw[zF,g1];rfl
   rw[hk,zF,e2] at e3
   cases e3
   have g2':NU (.inl x) v=true:=g2
   rcases B5 g2' with ⟨i,t,e,e'⟩ | ⟨z,t,e,e'⟩
   · cases e;exact⟨t,e'⟩
   · cases e
 refine zZ (wpAny_newList ?_ (by rw[hl,sizeLine_eq];omega))
 have hoL:(h'.push (seqObj "list" acc.toList.toArray 0)).get? h'.objs.size=some (seqObj "list" acc.toList.toArray 0):=yZ _ rfl
 show wpAny _ _ _ _ _ { s with heap:=h'.push (seqObj "list" acc.toList.toArray 0),toks:=tk }
 refine zZ (wpAny_holding (wpAny_call_entry (s:={ s with heap:=h'.push (seqObj "list" acc.toList.toArray 0),toks:=tk }) slot_list_sort ⟨_,hoL,rfl⟩ entry_list_sort (list_sort_tree hoL hS (by rw[hl];exact h64) fun out ns' a1 a2 a3=>⟨_,rfl,?_⟩) (args_list_sort _)))
 obtain⟨e,he⟩:=sortedHeap_at (out:=out) hoL
 refine zY ⟨_,rfl,h h' _ tk out.toList e ns' hold (fun b o q=>?_) (by rw[Array.toArray_toList];exact he) a1 a2 a3⟩
 have lt:b < h'.objs.size:=zM q
 rw[sortedHeap_old (zC lt) (by rw[size_push'];exact b4J lt)]
 exact zW _ q
end
section
variable {X:Cx}
theorem jE:∀{vs:List Value}{ns:List Int},IntsAre vs ns->Vals (ns.map V.int) vs
 | _,_,.nil=>.nil
 | _,_,.cons n t r=>.cons ⟨t,rfl⟩ (jE r)
theorem bO:∀{ns:List Int}{vs:List Value},Vals (ns.map V.int) vs->IntsAre vs ns
 | [],_,.nil=>.nil
 | n::ns,_,.cons r t=>by obtain⟨u,rfl⟩:=r;exact .cons n u (bO t)
def jF (K:Frg):List V->Hp->VK->Prop:=fun xs H Q=>∃(p:Addr) (ss:List Int),xs=[.ref p]/\SqL K H p (ss.map V.int)/\ss.length < 64/\∀(ss':List Int) (q:Addr),ss'.Perm ss->ss'.Pairwise (·<=·)->H q=none->Q (.ref q) (upd H q (.lst (ss'.map V.int)))
def bP:List V->Hp->VK->Prop:=fun xs H Q=>∃(p:Addr) (kvs:List (Key×V)) (ss:List Int),xs=[.ref p]/\Rd H p (.dK kvs)/\kvs.map (·.1)=ss.map a5X/\ss.length < 64/\∀(ss':List Int) (q:Addr),ss'.Perm ss->ss'.Pairwise (·<=·)->H q=none->Q (.ref q) (upd H q (.lst (ss'.map V.int)))
theorem ZF:BM X (.builtin "sorted") (jF X.K):=by
 intro pins s σ H xs us Q I r h
 obtain⟨p,ss,rfl,hp,h64,q⟩:=h
 obtain⟨u,rfl,ru⟩:=F4 r
 cases ru
 obtain⟨its,rv,pl,hz⟩:=I.list hp
 have hS:=bO rv
 have el:=rv.length
 rw[zX] at el
 refine sorted_ints pl.isList hS (by omega) fun out ss' h1 h2 h3=>?_
 obtain⟨e,he⟩:=sortedAll_at s.heap its out
 have hn:H (s.heap.objs.size+1)=none:=I.hok.fresh (b0Q _)
 have hlen:=h2.length_eq
 refine⟨.ref (s.heap.objs.size+1),_,I.laid (t':=s.toks) (o:=.lst (ss'.map V.int)) (fun b o eb=>sortedAll_old eb) (b0Q _) ?_,rfl,q ss' _ h2 h3 hn⟩
 refine⟨by rw[zX,hlen];exact zN (xR h64) (by decide),out.toList,e,jE h1,?_⟩
 have he':=he
 simpa [seqObj] using he'
theorem WX (hc:X.calm=true):BM X (.builtin "sorted") bP:=by
 intro pins s σ H xs us Q I r h
 obtain⟨p,kvs,ss,rfl,hp,hk,h64,q⟩:=h
 obtain⟨u,rfl,ru⟩:=F4 r
 cases ru
 obtain⟨z,hd,vs,rel,dd⟩:=KC I.hok hp
 have hk':vs.map (·.1)=ss.map a5X:=by
   rw[← hk]
   clear hk dd z hp q
   unfold KV at rel
   induction rel with
   | nil=>rfl
   | cons h t ih=>simp[h.1,ih]
 refine UM (I.ok.hd hc) hd dd hk' h64 fun h1 h' tk out e ss' k1 k2 ho hS hperm hsort=>?_
 have I1:Inv X pins σ H { s with heap:=h1,toks:=tk }:=I.kept k1
 have hn:H h1.objs.size=none:=I1.hok.fresh (zR _)
 refine⟨.ref h1.objs.size,_,I1.laid (t':=tk) (o:=.lst (ss'.map V.int)) (h':=h') k2 (zR _) ?_,rfl,q ss' _ hperm hsort hn⟩
 refine⟨by rw[zX,hperm.length_eq];exact zN (xR h64) (by decide),out,e,jE hS,?_⟩
 simpa [seqObj] using ho
def UN (K:Frg):List V->Hp->VK->Prop:=fun xs H Q=>Q5 K xs H Q∨jF K xs H Q∨bP xs H Q
theorem ZG (hc:X.calm=true):BM X (.builtin "sorted") (UN X.K):=by
 intro pins s σ H xs us Q I r h
 rcases h with h | h | h
 · exact Q6 hc pins s σ H xs us Q I r h
 · exact ZF pins s σ H xs us Q I r h
 · exact WX hc pins s σ H xs us Q I r h
end
end L2
namespace DL
open PySem PySem.Spec L2
theorem jG {X:Cx}{K:Frg}(h:X.K=K) (hc:X.calm=true):BM X (.builtin "sorted") (UN K):=h▸ZG hc
section
variable {K:Frg}{M:Own}{Q:DS->Own->Prop}{H:Hp}
theorem EQ {W:Addr->Prop}:∀{bs:List Int},DVs K H W (bs.map a3Q) (bs.map V.int)
 | []=>DVs.nil
 | b::bs=>DVs.cons (by unfold DV;rfl) EQ
theorem T3 {W:Addr->Prop}:∀{ns:List Int}{vs:List V},DVs K H W (ns.map a3Q) vs->vs=ns.map V.int
 | [],vs,h=>by unfold DVs at h;subst h;rfl
 | n::ns,vs,h=>by
   rw[zI] at h
   unfold DVs at h
   obtain⟨v,r,rfl,h1,h2⟩:=h
   unfold DV at h1
   rw[h1,T3 h2];rfl
theorem jH {ss:List Int}(h64:ss.length < 64) (q:∀ss':List Int,ss'.Perm ss->ss'.Pairwise (·<=·)->Q (.d (.list (ss'.map .int))) M):DR K (UN K) [.d (.list (ss.map .int))] M Q:=fun H vs QQ oa s k=>by
 obtain⟨v,r,rfl,h1,h2⟩:=s
 cases h2
 unfold SI DV at h1
 obtain⟨a,vs,rfl,hl,hd⟩:=h1
 have e:=T3 hd
 subst e
 refine .inr (.inl ⟨a,ss,rfl,hl.sq,h64,fun ss' p hp hs hn=>?_⟩)
 have g:Grow K M.W M.W H (upd H p (.lst (ss'.map V.int))):=AY _ hn
 refine k _ _ (.d (.list (ss'.map .int))) M (oa.new hn) ?_ ⟨g⟩ (q ss' hp hs)
 unfold SI DV
 exact⟨p,_,rfl,.inl ⟨fun w=>w (oa.none hn),.inl AI⟩,EQ⟩
theorem dY {a:Addr}{ts:List (Int×PyData)}(m:M a=some (.d (BK ts))) (h64:ts.length < 64) (q:∀ss:List Int,ss.Perm (ts.map (·.1))->ss.Pairwise (·<=·)->Q (.d (.list (ss.map .int))) M):DR K (UN K) [.loc a] M Q:=fun H vs QQ oa s k=>by
 obtain⟨v,r,rfl,h1,h2⟩:=s
 cases h2
 unfold SI at h1
 subst h1
 obtain⟨ks,e1,e2⟩:=oa a _ m
 refine .inr (.inr ⟨a,ks,ts.map (·.1),rfl,.inl e1,T1 e2,by rw[zX];exact h64,fun ss' p hp hs hn=>?_⟩)
 have g:Grow K M.W M.W H (upd H p (.lst (ss'.map V.int))):=AY _ hn
 refine k _ _ (.d (.list (ss'.map .int))) M (oa.new hn) ?_ ⟨g⟩ (q ss' hp hs)
 unfold SI DV
 exact⟨p,_,rfl,.inl ⟨fun w=>w (oa.none hn),.inl AI⟩,EQ⟩
end
end DL
namespace XC
open PySem PySem.Spec
def NK (h:Heap) (e:Addr) (cls:Value) (dd:Option Addr) (ar:Value) (T:Option Addr) (fl:Value):Prop:=
 ∃oe vs,h.get? e=some oe/\oe.cls=cls/\oe.dict=dd/\oe.data = .fields vs/\vs[0]?=some ar /\
   match T with
   | none=>vs[1]?=some .none
   | some T=>vs[1]?=some (.ref T)/\T≠e/\∃oT ts,h.get? T=some oT/\oT.data = .fields ts/\ts[3]?=some fl
structure Moved (fs ch:List Addr) (h h':Heap):Prop where
 keep:∀b o,h.get? b=some o->b∉fs->b∉ch->h'.get? b=some o
 slot:∀b o,h.get? b=some o->b∉ch->∃sl,h'.get? b=some { o with slots:=sl }
 there:∀b o,h.get? b=some o->∃o',h'.get? b=some o'
theorem Moved.refl (fs ch:List Addr) (h:Heap):Moved fs ch h h:=⟨fun _ _ e _ _=>e,fun _ o e _=>⟨o.slots,e⟩,fun _ o e=>⟨o,e⟩⟩
theorem Moved.trans {fs ch:List Addr}{h h1 h2:Heap}(a:Moved fs ch h h1) (b:Moved fs ch h1 h2):Moved fs ch h h2 where
 keep:=fun c o e n m=>b.keep c o (a.keep c o e n m) n m
 slot:=fun c o e m=>by
   obtain⟨sl,e1⟩:=a.slot c o e m
   obtain⟨sl',e2⟩:=b.slot c _ e1 m
   exact⟨sl',e2⟩
 there:=fun c o e=>by
   obtain⟨o',e1⟩:=a.there c o e
   exact b.there c o' e1
theorem Moved.mono {fs fs' ch ch':List Addr}{h h':Heap}(a:Moved fs ch h h') (f:∀b∈fs,b∈fs') (g:∀b∈ch,b∈ch'):Moved fs' ch' h h':=
 ⟨fun b o e n m=>a.keep b o e (fun z=>n (f b z)) fun z=>m (g b z),fun b o e m=>a.slot b o e fun z=>m (g b z),a.there⟩
theorem Moved.drop {fs ch ch':List Addr}{h h':Heap}(a:Moved fs ch h h') (g:∀b∈ch,b∈ch'∨h.get? b=none):Moved fs ch' h h':=
 ⟨fun b o e n m=>a.keep b o e n fun z=>(g b z).elim m fun q=>by(rw[q] at e;cases e),fun b o e m=>a.slot b o e fun z=>(g b z).elim m fun q=>by(rw[q] at e;cases e),a.there⟩
theorem Moved.frames {fs ch:List Addr}{h h' base:Heap}(a:Moved fs ch h h') {l:List Env}(hl:h.FunFrames base l) (hc:∀b∈ch,b∉l.filterMap (·.frame)):h'.FunFrames base l:=by
 induction l with
 | nil=>trivial
 | cons env rest ih=>
   obtain⟨hk,⟨L,o,hf,hn,ho,hd⟩,hr⟩:=hl
   obtain⟨sl,e⟩:=a.slot L o ho fun z=>hc L z (by rw[a3V,hf];exact .head _)
   exact⟨hk,⟨L,_,hf,hn,e,hd⟩,ih hr fun b z q=>hc b z (by rw[a3V,hf];exact .tail _ q)⟩
theorem GA {o:Obj}{vs:Array Value}(f:Array Value->Array Value) (hd:o.data = .fields vs):(o.mapFields f).isFreed=false:=Obj.isFreed_of_fields (b0K hd f)
theorem jI {o:Obj}{vs:Array Value}(f:Array Value->Array Value) (hd:o.data = .fields vs):o.mapFields f={ o with data:=.fields (f vs) }:=by
 obtain⟨c,d,dt,sl⟩:=o
 cases hd
 rfl
theorem JZ {h:Heap}{a:Addr}{o:Obj}{vs:Array Value}(f:Array Value->Array Value) (ho:h.get? a=some o) (hd:o.data = .fields vs) (fs:List Addr):Moved fs [a] h (h.update a (Obj.mapFields f)):=by
 have k:∀b u,h.get? b=some u->b∉[a]->(h.update a (Obj.mapFields f)).get? b=some u:=fun b u e m=>by
   rw[yC _ _ (fun z=>m (by simp[z]))];exact e
 refine⟨fun b u e _ m=>k b u e m,fun b u e m=>⟨u.slots,k b u e m⟩,fun b u e=>?_⟩
 by_cases q:b=a
 · subst q;exact⟨_,a6Q _ ho (GA f hd)⟩
 · exact⟨u,k b u e (by simp[q])⟩
section
variable {M:Model}{A:Around}{E:Value->Shared->Prop}{s:Shared}{base:Heap}{env:Env}{outer:List Env}{L e:Addr}{cls ar:Value}{dd:Option Addr}{T:Option Addr}
theorem dZ {T:Addr}{fl:Value}{Q:Unit->Shared->Prop}(x:NK s.heap e cls dd ar (some T) fl)
   (h:∀h',NK h' e cls dd ar (some T) .none->Moved [] [T] s.heap h'->Q () { s with heap:=h' }):wpAny M A (setFlight (.ref e) none) Q E s:=by
 obtain⟨oe,vs,he,hc,hdd,hd,h0,h1,hT,oT,ts,hoT,hdT,h3⟩:=x
 unfold setFlight
 refine zZ (wpAny_field he hd h1 ?_)
 rw[if_pos (show(a0Z T != a2Z)=true from by simp)]
 have hsz:3 < ts.size:=(Array.getElem?_eq_some_iff.mp h3).1
 refine wpAny_setField hoT hdT hsz (h _ ⟨oe,vs,?_,hc,hdd,hd,h0,h1,hT,_,_,a6Q _ hoT (GA _ hdT),b0K hdT _,by simp[hsz]⟩ (JZ _ hoT hdT []))
 rw[yC _ _ hT];exact he
theorem WY {oe:Obj}{vs:Array Value}{head:Value}{hadNext:Bool}{Q:Unit->Shared->Prop}(hfr:A.frames=some (env::outer)) (hl:s.heap.FunFrames base (env::outer)) (hf:env.frame=some L)
   (he:s.heap.get? e=some oe) (hd:oe.data = .fields vs) (hsz:1 < vs.size) (h0:vs[0]?=some ar)
   (h:∀h' T',NK h' e oe.cls oe.dict ar (some T') (rawInt L)->s.heap.get? T'=none->s.heap.objs.size<=T'->Moved ((env::outer).filterMap (·.frame)) [e] s.heap h'->Q () { s with heap:=h' }) :
   wpAny M A (do let a ← frameOf env;let pl ← entryPlaceOf L hadNext;let b ← EntryCells.newEntry head a .none (rawInt L) .none pl;setField (.ref e) 1 b) Q E s:=by
 have hene:e∉(env::outer).filterMap (·.frame):=fun hm=>by
   obtain⟨_,o,ho,hnf⟩:=hl.mem hm
   rw[he] at ho;injection ho with ho;subst ho;exact hnf vs hd
 refine zZ (wpAny_frameOf_fun hfr hl hf fun h₁ hs₁=>?_)
 refine zZ (wpAny_entryPlaceOf fun pl hpl=>?_)
 unfold EntryCells.newEntry newFields
 refine zZ (xM ?_ (hpl.sizeOk5 _ _ _ _ _))
 have he₁:h₁.get? e=some oe:=(hs₁.2.1 e hene).trans he
 generalize hob:({ cls:=.type "traceback", dict:=none,data:=.fields ([head,.ref L,.none,rawInt L,.none]++(if pl.isEmpty then a4Z 6 a2Z else pl)).toArray }:Obj)=ob
 have he₂:=zW (h:=h₁) ob he₁
 have hTe:h₁.objs.size≠e:=a8Z (zM he₁)
 refine wpAny_setField he₂ hd hsz (h _ h₁.objs.size ⟨_,_,a6Q _ he₂ (GA _ hd),?_,?_,b0K hd _,?_,?_,hTe,ob,([head,.ref L,.none,rawInt L,.none]++(if pl.isEmpty then a4Z 6 a2Z else pl)).toArray,?_,?_,?_⟩ ?_ ?_ ?_)
 · rw[jI _ hd]
 · rw[jI _ hd]
 · rw[Array.getElem?_setIfInBounds_ne (by decide)];exact h0
 · simp[hsz]
 · rw[yC _ _ (b4K hTe)]
   exact yZ h₁ (by rw[← hob];rfl)
 · rw[← hob]
 · simp
 · rw[hs₁.1];exact Heap.get?_none_of_le (zR _)
 · rw[hs₁.1];exact zR _
 · have k1:Moved ((env::outer).filterMap (·.frame)) [e] s.heap h₁:=⟨fun b o q n _=>(hs₁.2.1 b n).trans q,fun b o q _=>hs₁.2.2 b o q,fun b o q=>let ⟨sl,z⟩:=hs₁.2.2 b o q;⟨_,z⟩⟩
   have k2:Moved ((env::outer).filterMap (·.frame)) [e] h₁ (h₁.push ob):=⟨fun b o q _ _=>zW _ q,fun b o q _=>⟨o.slots,zW _ q⟩,fun b o q=>⟨o,zW _ q⟩⟩
   exact(k1.trans k2).trans (JZ _ he₂ hd _)
theorem nU {Q:Unit->Shared->Prop}(hfr:A.frames=some (env::outer)) (hl:s.heap.FunFrames base (env::outer)) (hf:env.frame=some L) (x:NK s.heap e cls dd ar T .none)
   (h:∀h' T',NK h' e cls dd ar (some T') (rawInt L)->s.heap.get? T'=none->s.heap.objs.size<=T'->Moved ((env::outer).filterMap (·.frame)) (e::T.toList) s.heap h'->Q () { s with heap:=h' }) :
   wpAny M A (noteFrame (.ref e) env) Q E s:=by
 obtain⟨oe,vs,he,hc,hdd,hd,h0,hT⟩:=x
 subst hc hdd
 unfold noteFrame
 simp only[hf]
 cases T with
 | none=>
   refine zZ (wpAny_field he hd hT ?_)
   rw[if_neg (by decide)]
   exact WY hfr hl hf he hd (Array.getElem?_eq_some_iff.mp hT).1 h0 fun h' T' a b c d=>h h' T' a b c d
 | some T=>
   obtain⟨h1,hTe,oT,ts,hoT,hdT,h3⟩:=hT
   refine zZ (wpAny_field he hd h1 ?_)
   rw[if_pos (show(a0Z T != a2Z)=true from by simp)]
   refine zZ (wpAny_field hoT hdT h3 ?_)
   rw[if_neg (show ¬((a2Z==rawInt L)=true) from by simp[rawInt])]
   refine zZ (wpAny_setField hoT hdT (Array.getElem?_eq_some_iff.mp h3).1 ?_)
   have mv:=JZ (h:=s.heap) (·.setIfInBounds 3 a2Z) hoT hdT ((env::outer).filterMap (·.frame))
   have hnT:T∉(env::outer).filterMap (·.frame):=fun hm=>by
     obtain⟨_,o,ho,hnf⟩:=hl.mem hm
     rw[hoT] at ho;injection ho with ho;subst ho;exact hnf ts hdT
   refine WY hfr (mv.frames hl fun b hb=>by(rw[a8X] at hb;subst hb;exact hnT)) hf (by rw[yC _ _ hTe];exact he) hd (Array.getElem?_eq_some_iff.mp h1).1 h0 fun h' T' a b c d=>?_
   have hsz:(s.heap.update T (Obj.mapFields (·.setIfInBounds 3 a2Z))).objs.size=s.heap.objs.size:=Heap.size_after_update ..
   rw[hsz] at c
   refine h h' T' a (Heap.get?_none_of_le c) c ((mv.mono (fun _ z=>z) fun b z=>by simp at z;simp[z]).trans (d.mono (fun _ z=>z) fun b z=>by simp at z;simp[z]))
theorem WZ {fl:Value}{Q:Unit->Shared->Prop}(hfr:A.frames=some (env::outer)) (hl:s.heap.FunFrames base (env::outer)) (hf:env.frame=some L) (x:NK s.heap e cls dd ar T fl) (hfl:fl = .none∨(T≠none/\fl=rawInt L))
   (h:∀h' T',NK h' e cls dd ar (some T') (rawInt L)->(T=some T'∨s.heap.get? T'=none/\s.heap.objs.size<=T')->Moved ((env::outer).filterMap (·.frame)) (e::T.toList) s.heap h'->Q () { s with heap:=h' }) :
   wpAny M A (noteFrame (.ref e) env) Q E s:=by
 rcases hfl with rfl | ⟨hT,rfl⟩
 · exact nU hfr hl hf x fun h' T' a b c d=>h h' T' a (.inr ⟨b,c⟩) d
 · cases T with
   | none=>exact absurd rfl hT
   | some T=>
     obtain⟨oe,vs,he,hc,hdd,hd,h0,h1,hTe,oT,ts,hoT,hdT,h3⟩:=id x
     unfold noteFrame
     simp only[hf]
     refine zZ (wpAny_field he hd h1 ?_)
     rw[if_pos (show(a0Z T != a2Z)=true from by simp)]
     refine zZ (wpAny_field hoT hdT h3 ?_)
     rw[if_pos (show(rawInt L==rawInt L)=true from by simp)]
     exact zY (h s.heap T x (.inl rfl) (Moved.refl ..))
theorem e7 {fl:Value}{Q:Unit->Shared->Prop}(hfr:A.frames=some (env::outer)) (hl:s.heap.FunFrames base (env::outer)) (hf:env.frame=some L) (x:NK s.heap e cls dd ar T fl) (hfl:fl = .none∨(T≠none/\fl=rawInt L))
   (h:∀h' T',NK h' e cls dd ar (some T') .none->(T=some T'∨s.heap.objs.size<=T')->Moved ((env::outer).filterMap (·.frame)) (e::T.toList) s.heap h'->Q () { s with heap:=h' }) :
   wpAny M A (leaving env (.ref e)) Q E s:=by
 unfold leaving
 refine zZ (WZ hfr hl hf x hfl fun h1 T' x1 n1 m1=>?_)
 refine dZ (s:={ s with heap:=h1 }) x1 fun h2 x2 m2=>h h2 T' x2 (n1.imp id fun z=>z.2) ?_
 have m1':Moved ((env::outer).filterMap (·.frame)) (T'::e::T.toList) s.heap h1:=m1.mono (fun _ z=>z) fun b z=>.tail _ z
 have m2':Moved ((env::outer).filterMap (·.frame)) (T'::e::T.toList) h1 h2:=m2.mono (fun _ z=>absurd z (by simp)) fun b z=>by simp at z;simp[z]
 refine(m1'.trans m2').drop fun b z=>(yX.mp z).elim (fun q=>?_) fun q=>.inl q
 rcases n1 with n1 | n1
 · left;rw[q,n1];simp
 · right;rw[q];exact n1.1
theorem ZH {T f:Addr}{fl:Value}{Q:Unit->Shared->Prop}(x:NK s.heap e cls dd ar (some T) fl)
   (h:∀h',NK h' e cls dd ar (some T) (rawInt f)->Moved [] [T] s.heap h'->Q () { s with heap:=h' }):wpAny M A (setFlight (.ref e) (some f)) Q E s:=by
 obtain⟨oe,vs,he,hc,hdd,hd,h0,h1,hT,oT,ts,hoT,hdT,h3⟩:=x
 unfold setFlight
 refine zZ (wpAny_field he hd h1 ?_)
 rw[if_pos (show(a0Z T != a2Z)=true from by simp)]
 have hsz:3 < ts.size:=(Array.getElem?_eq_some_iff.mp h3).1
 refine wpAny_setField hoT hdT hsz (h _ ⟨oe,vs,?_,hc,hdd,hd,h0,h1,hT,_,_,a6Q _ hoT (GA _ hdT),b0K hdT _,by simp[hsz]⟩ (JZ _ hoT hdT []))
 rw[yC _ _ hT];exact he
end
end XC
namespace XC
open PySem PySem.Spec
abbrev jJ (C t:Addr):Obj:={ cls:=.ref C,data:=.fields #[.ref t,.none,.none,.none,.bool false,.none] }
abbrev RT (h:Heap) (C:Addr) (rest:List Value):Heap:=(h.push { cls:=.type "tuple", data:=.seq rest.toArray }).push (jJ C h.objs.size)
theorem HY {h:Heap}{C:Addr}{rest:List Value}:∀b o,h.get? b=some o->(RT h C rest).get? b=some o:=fun b o e=>zW _ (zW _ e)
theorem bQ {h:Heap}{C:Addr}{rest:List Value}:(RT h C rest).get? (h.objs.size+1)=some (jJ C h.objs.size):=by heap_get
section
variable {prog:Program}{w:World}{A:Around}{E:Value->Shared->Prop}{h:Heap}{g:Array GenState}{d:Drawn}{t:Nat}{os:OsState}
variable {nm q:Str}{C N:Addr}{bs bm bmN:List Value}{hdct:Bool}{sn:List Str}{sub:List Value}{ab:Bool}{col:Option Bool}{dd:Option Addr}{k0 k1 k2 k3 k5:Option Value}{B newId initId:String}{init:Value}
theorem X0 {M:Model}(F:ExcBaseFacts B newId initId bmN) (hB:bm.contains (.type B)=true) {rest:List Value}{Q:Unit->Shared->Prop}(hC:h.get? C=some (excClassObj nm q C N bs bm hdct sn sub ab col dd k0 k1 k2 k3 k5 newId))
   (hq:Q () ⟨h,g,d,t,os⟩):wpAny M A (checkBuiltinCall newId ⟨.ref C::rest,[]⟩) Q E ⟨h,g,d,t,os⟩:=by
 have hcont:(a0Z C::bm).contains (.type B)=true:=by rw[a3J,hB,Bool.or_true]
 have hstar:=F.noStar
 simp only[checkBuiltinCall,F.newKind,F.newSplit,F.newRow]
 repeat (first | refine wpAny_loadPart_at hC ?_ | (refine wpAny_isSubtype_exc hC ?_;rw[hcont]) | refine wpAny_staticBase_exc hC ?_ | refine wpAny_madeBy_exc hC ?_ | simp only[bne_self_eq_false,b2W,if_false] | wp_step)
 exact hq
theorem wA {R:Result->Shared->Prop}(F:ExcBaseFacts B newId initId bmN) (hB:bm.contains (.type B)=true) (hA:bm.contains (.type "AttributeError")=false) (hN:bm.contains (.type "NameError")=false) {rest:List Value}
   (hC:h.get? C=some (excClassObj nm q C N bs bm hdct sn sub ab col dd k0 k1 k2 k3 k5 newId))
   (hq:R (.ok (.ret (.ref (h.objs.size+1)))) ⟨RT h C rest,g,d,t,os⟩) (hrest:rest.length<=sizeLine) :
   codeAny (model prog w) A (.builtin newId ⟨.ref C::rest,[]⟩) R ⟨h,g,d,t,os⟩:=by
 have hends:=F.ends
 have hcB:(a0Z C::bm).contains (.type B)=true:=by rw[a3J,hB,Bool.or_true]
 have hcA:(a0Z C::bm).contains (.type "AttributeError")=false:=by rw[a3J,hA];rfl
 have hcN:(a0Z C::bm).contains (.type "NameError")=false:=by rw[a3J,hN];rfl
 refine codeAny_builtinAt F.entry ?_
 unfold Builtin.«BaseException.__new__»
 refine wpAt_bind ?_
 show wpAt _ _ _ (stack >>= _) _ _ _
 refine wpAt_bind (wpAt_stack fun p below=>wpAt_of_wpAny ?_)
 wp_walk
 refine wpAt_of_wpAny ?_
 rw[F.owner]
 repeat (first | with_reducible refine wpAny_madeHere_exc F.canon hC ?_ | with_reducible refine wpAny_loadPart_at hC ?_ | (with_reducible refine wpAny_isSubtype_exc hC ?_;first | rw[hcB] | rw[hcA] | rw[hcN]) | wp_step)
 show R _ _
 rw[a8J]
 exact hq
theorem X1 (F:ExcBaseFacts B newId initId bmN) (hB:bm.contains (.type B)=true) (hA:bm.contains (.type "AttributeError")=false) (hN:bm.contains (.type "NameError")=false) {rest:List Value}{Q:Fin->Shared->Prop}
   (hC:h.get? C=some (excClassObj nm q C N bs bm hdct sn sub ab col dd k0 k1 k2 k3 k5 newId)) (hi:PySem.W.Looks (model prog w) h (typeLookup (.ref C) "__init__") (some init))
   (hb:∀self:Value,PySem.W.Looks (model prog w) h (bindSpecial init self) (init,[self]))
   (hq:codeAny (model prog w) A (.call init ⟨.ref (h.objs.size+1)::rest,[]⟩)
     (fun r s'=>match r with | .ok (.ret v)=>v = .none/\Q (.done (.ret (.ref (h.objs.size+1)))) s' | .ok _=>False | .error e=>E e s') ⟨RT h C rest,g,d,t,os⟩) (hrest:rest.length<=sizeLine) :
   wpAny (model prog w) A (Builtin.«type.__call__» ⟨.ref C::rest,[]⟩) Q E ⟨h,g,d,t,os⟩:=by
 repeat (first | with_reducible refine wpAny_loadPart_at hC ?_ | with_reducible refine wpAny_madeBy_exc hC ?_ | wp_step)
 refine codeAny_call_builtin_code (Code.quiet_builtin _ F.quiet) (X0 F hB hC ?_)
 refine wA F hB hA hN hC ?_ hrest
 show wpAny _ _ _ _ _ _
 have hC₁:(RT h C rest).get? C=_:=HY _ _ hC
 have hget:(RT h C rest).get? (h.objs.size+1)=some (jJ C h.objs.size):=bQ
 have hcC:(a0Z C::bm).contains (.ref C)=true:=by simp
 unfold isInstance
 repeat (first | with_reducible refine wpAny_loadPart_at hget ?_ | (with_reducible refine wpAny_isSubtype_exc hC₁ ?_;rw[hcC]) | wp_step)
 show wpAny _ _ (typeLookup (.ref C) _) _ _ _
 refine(hi.keeps HY).here (s:=⟨RT h C rest,g,d,t,os⟩) ?_
 refine wpAny_holding (zZ (((hb _).keeps HY).here (s:=⟨RT h C rest,g,d,t,os⟩) ?_))
 refine zZ (wpAny_call (xN hq fun r s' z=>?_))
 rcases r with e | (v | _ | _ | _) <;> first | exact z | exact z.elim | skip
 obtain⟨rfl,z⟩:=z
 wp_walk
 exact z
theorem tZ (F:ExcBaseFacts B newId initId bmN) (hB:bm.contains (.type B)=true) (hA:bm.contains (.type "AttributeError")=false) (hN:bm.contains (.type "NameError")=false) {rest:List Value}{Q:Value->Shared->Prop}
   (hC:h.get? C=some (excClassObj nm q C N bs bm hdct sn sub ab col dd k0 k1 k2 k3 k5 newId)) (hi:PySem.W.Looks (model prog w) h (typeLookup (.ref C) "__init__") (some init))
   (hb:∀self:Value,PySem.W.Looks (model prog w) h (bindSpecial init self) (init,[self]))
   (hq:codeAny (model prog w) (A.under (.builtin "type.__call__" ⟨.ref C::rest,[]⟩)) (.call init ⟨.ref (h.objs.size+1)::rest,[]⟩)
     (fun r s'=>match r with | .ok (.ret v)=>v = .none/\Q (.ref (h.objs.size+1)) s' | .ok _=>False | .error e=>E e s') ⟨RT h C rest,g,d,t,os⟩) (hrest:rest.length<=sizeLine) :
   wpAny (model prog w) A (call (.ref C) rest) Q E ⟨h,g,d,t,os⟩:=by
 have f1:=tc_lookup
 have f2:=tc_bind (.ref C)
 have hT:(⟨h,g,d,t,os⟩:Shared).TypeIs (.ref C) "type" := ⟨_,hC,rfl⟩
 refine wpAny_call (codeAny_of_tree ?_)
 show wpAny _ _ (callAny (.ref C) _) _ _ _
 repeat (any_goals (first | assumption | with_reducible refine wpAny_loadPart_at hC ?_ | wp_step))
 refine⟨rfl,?_⟩
 refine codeAny_call_builtin_at (Code.quiet_builtin _ (by decide +kernel)) entry_typeCall (wpAny_check_type_call_sub hC (X1 F hB hA hN hC hi hb (xN hq fun r s' z=>?_) hrest))
 rcases r with e | (v | _ | _ | _) <;> first | exact z | exact z.elim
theorem e8 {s:Shared}{env:Env}{x:Sem Value}{Q:Flow->Shared->Prop}(hbase:bm.contains (.type "BaseException")=true) (hh:A.handled=none)
   (hx:wpAny (model prog w) A x (fun v s₁=>∃e t dx,v = .ref e/\s₁.heap.get? C=some (excClassObj nm q C N bs bm hdct sn sub ab col dd k0 k1 k2 k3 k5 newId) /\
     s₁.heap.get? e=some { cls:=.ref C,dict:=dx,data:=.fields #[.ref t,.none,.none,.none,.bool false,.none] }/\E (.ref e) s₁) E s) :
   wpAny (model prog w) A (raiseStmt env (some x) none) Q E s:=by
 have hcB:(a0Z C::bm).contains (.type "BaseException")=true:=by rw[a3J,hbase,Bool.or_true]
 unfold raiseStmt
 refine zZ (wpAny_mono hx (fun v s₁ h₁=>?_) fun _ _ x=>x)
 obtain⟨e,t,dx,rfl,hC,he,hE⟩:=h₁
 obtain⟨hp,g,d,tk,os⟩:=s₁
 repeat (first | with_reducible refine wpAny_loadPart_at he ?_ | with_reducible refine wpAny_loadPart_at hC ?_ | (with_reducible refine wpAny_isSubtype_exc hC ?_;rw[hcB]) | wp_step)
 exact wpAny_raiseNew_none hh hE
end
end XC
namespace XC
open PySem PySem.Spec PySem.W Builtin Builtin.ObjectAttr
section
variable {prog:Program}{w:World}{A:Around}{E:Value->Shared->Prop}{K:Frag}{C x:Addr}{s:Shared}{o:Obj}{vs:Array Value}{name:Str}{v:Value}{cd:ClassData}
theorem nV {R:Result->Shared->Prop}{tk:Tok}(X:K.In s.heap) (hx:s.heap.get? x=some o) (hc:o.cls = .ref C) (hdn:o.dict=none) (hdt:o.data = .fields vs)
   (hcd:clsIn K C=some cd) (hm:cd.mro.contains (.type "object")=true) (hp:∀self,refuseLoop self "__setattr__" cd.mro=pure ()) (ht:takerIn K C name=some none) (hh:cd.hasDict=true)
   (hq:∀h' tk' dx,s.heap.objs.size<=dx->h'.get? x=some { o with dict:=some dx }->h'.Ns1 dx (fun y=>if y=name then some v else none)->(∀b u,b≠x->s.heap.get? b=some u->h'.get? b=some u) ->
     R (.ok (.ret .none)) { s with heap:=h',toks:=tk' }) :
   codeAny (model prog w) A (.call (.builtin "object.__setattr__") ⟨[.ref x,.str name tk,v],[]⟩) R s:=by
 have SF:=PySem.F.store_object
 have ne:cd.mro.isEmpty=false:=by cases q:cd.mro with | nil=>rw[q] at hm;cases hm | cons _ _=>rfl
 have ty:Looks (model prog w) s.heap (typeOf (.ref x)) (.ref C):=(Looks.ld hx).andThen (by rw[hc];exact .now)
 have sub:Looks (model prog w) s.heap (isInstance (.ref x) (.type "object")) true:=ty.andThen (looks_mroIn X (by unfold mroIn;rw[hcd,Option.bind_some,if_neg (by rw[ne];decide),hm]))
 refine codeAny_call_builtin SF.slot.plain SF.entry (@check_slot (model prog w) _ _ s "object.__setattr__" "object" "__setattr__" (.ref x) [.str name tk,v] [] _ SF.kind SF.split sub (SF.args (.ref x) (.str name tk) v) ?_)
 obtain⟨attr,ha,hr⟩:=Option.bind_eq_some_iff.mp ht
 have hmr:Looks (model prog w) s.heap (mroOf (.ref C)) cd.mro:=(looks_clsIn X hcd).andThen .now
 have L3:Looks (model prog w) s.heap (storeTaker? attr) none:=by
   cases attr with
   | none=>cases hr;exact .now
   | some a=>
     obtain⟨b,hb,e⟩:=Option.map_eq_some_iff.mp hr
     refine(looks_takesIn X hb).andThen ?_
     cases b <;> first | exact .now | cases e
 rw[osa_eq,refuse_eq]
 refine zZ (zZ (ty.here (zZ (hmr.here ?_))))
 rw[hp]
 refine zY (zZ (ty.here (zZ ((looks_findIn X ha).here (zZ (L3.here ?_))))))
 obtain⟨hp0,g,d,t,os⟩:=s
 obtain⟨oc,od,oda,osl⟩:=o
 dsimp only at hc hdn hdt hq
 subst hc hdn hdt
 have hx':hp0.get? x=some ⟨.ref C,none,.fields vs,osl⟩:=hx
 refine zZ (zY (zZ (zZ (wpAny_loadPart hx' (zZ ((looks_clsIn X hcd).here ?_))))))
 rw[hh]
 have hx₁:(hp0.push { cls:=.type "dict", data:=.dict #[] }).get? x=some ⟨.ref C,none,.fields vs,osl⟩:=zW _ hx'
 have hxs:x≠hp0.objs.size:=zC (zM hx')
 refine zZ (wpAny_alloc' ?_)
 refine zZ (wpAny_update' hx₁ ?_)
 refine zY (a:=some hp0.objs.size) ?_
 have hgd:((hp0.push { cls:=.type "dict", data:=.dict #[] }).update x fun o=>{ cls:=o.cls,dict:=some hp0.objs.size,data:=o.data,slots:=o.slots }).get? hp0.objs.size
     = some { cls:=.type "dict", data:=.dict #[] }:=
   (yB _ _ _ _ hxs.symm).trans (Heap.get?_push_at rfl rfl)
 have hnd:((hp0.push { cls:=.type "dict", data:=.dict #[] }).update x fun o=>{ cls:=o.cls,dict:=some hp0.objs.size,data:=o.data,slots:=o.slots }).Ns hp0.objs.size (fun _=>none):=
   ⟨_,#[],_,hgd,rfl,fun e he=>absurd he (by simp),fun _=>rfl⟩
 show wpAny _ _ (storeInDict hp0.objs.size (.str name tk) name v) _ _ _
 unfold storeInDict newKeyGuard
 refine zZ (zY (zZ (wpAny_nsSet1 (Heap.Ns1.of_empty hnd) fun h' hn' hs=>?_)))
 obtain⟨oD,esD,epD,hoD,hdD,hcD⟩:=hn'.count (Within.cons name v Within.nil)
 refine zZ (wpAny_lookBehind hoD (by rw[hdD];exact pastItsLine_dict (zN hcD (by rw[yR,b2K,sizeLine_eq];omega))) ?_)
 refine zY (hq h' _ hp0.objs.size (zR _) ?_ hn' fun b u hbx hb=>?_)
 · exact(hs.2 x hxs).trans (a6Q _ hx₁ rfl)
 · exact(hs.2 b (zC (zM hb))).trans ((yB _ _ _ _ hbx).trans (zW _ hb))
theorem nW {Q:Unit->Shared->Prop}(X:K.In s.heap) (hx:s.heap.get? x=some o) (hc:o.cls = .ref C) (hdn:o.dict=none) (hdt:o.data = .fields vs)
   (hs:findIn K (.ref C) "__setattr__"=some (some (.builtin "object.__setattr__"))) (hcd:clsIn K C=some cd) (hm:cd.mro.contains (.type "object")=true) (hp:∀self,refuseLoop self "__setattr__" cd.mro=pure ())
   (ht:takerIn K C name=some none) (hh:cd.hasDict=true)
   (hq:∀h' tk' dx,s.heap.objs.size<=dx->h'.get? x=some { o with dict:=some dx }->h'.Ns1 dx (fun y=>if y=name then some v else none)->(∀b u,b≠x->s.heap.get? b=some u->h'.get? b=some u) ->
     Q () { s with heap:=h',toks:=tk' }) :
   wpAny (model prog w) A (setAttr (.ref x) name v) Q E s:=by
 have J:InstAt s.heap x o C none:=⟨hx,hc,by obtain⟨_,_,_,_⟩:=o;cases hdt;rfl,by rw[hdn];trivial⟩
 exact set_plain X J hs (nV (s:={ s with toks:=s.toks+1 }) X hx hc hdn hdt hcd hm hp ht hh fun h' tk' dx a b c d=>hq h' tk' dx a b c d)
end
end XC
namespace XC
open PySem PySem.Spec L2
open PyProof.Rows (envOfC AllBare)
abbrev St:=L2.St
theorem T4 {P:Program}{w:World}{H:Hp}{h h':Heap}{fs ch:List Addr}(ok:HOk P w H h) (m:Moved fs ch h h') (f1:∀b∈fs,H b=none) (f2:∀b∈ch,H b=none):HOk P w H h':=fun a o e=>by
 have ne:∀b u,H b=some u->b∉fs/\b∉ch:=fun b u q=>⟨fun z=>(by rw[f1 b z] at q;cases q),fun z=>(by rw[f2 b z] at q;cases q)⟩
 refine(ok a o e).stay (fun b u hb q=>?_) (fun _ q=>q) fun _ _ q=>q
 rcases hb with rfl | hb
 · exact m.keep b u q (ne b o e).1 (ne b o e).2
 · exact m.keep b u q (ne b _ hb).1 (ne b _ hb).2
def CXE (P:Program) (w:World):CXT:=fun outer H s E e s'=>∃(a T:Addr) (cls:Value) (dd:Option Addr) (ar:Value) (H':Hp),e = .ref a/\s'.os=s.os/\AllBare s'.gens/\Un (frs outer) [] H H' s.heap s'.heap/\HOk P w H' s'.heap /\
 NK s'.heap a cls dd ar (some T) .none/\s.heap.objs.size<=a/\s.heap.objs.size<=T/\H' a=none/\H' T=none/\E cls dd H'
structure Loose (X:Cx) (H:Hp) (b:Addr):Prop where
 above:X.s₀.heap.objs.size<=b
 loc:b≠X.env.locals
 cel:∀x c,X.env.cells.lookup x=some c->c≠b
 fre:H b=none
 pn:∀p∈X.pn,p.1≠b
theorem Loose.of {X:Cx}{pins:List (Addr×Obj)}{σ:St}{H H':Hp}{s:Shared}{b:Addr}(I:Inv X pins σ H s) (h:s.heap.objs.size<=b) (f:H' b=none):Loose X H' b:=by
 refine⟨zN I.sz h,fun z=>?_,fun x c e z=>?_,f,fun p hp z=>?_⟩
 · have:=I.lt;rw[← z] at this;exact absurd (zP this h) (yF _)
 · obtain⟨v,o,ho,_⟩:=I.cell x c e
   have:=zM ho
   rw[z] at this
   exact absurd (zP this h) (yF _)
 · have:=zM (I.pin p (zA _ hp)).1
   rw[z] at this
   exact absurd (zP this h) (yF _)
def Fly (X:Cx) (R:St->XK) (e:Value) (s':Shared):Prop:=
 ∃(a:Addr) (T:Option Addr) (cls:Value) (dd:Option Addr) (ar:Value) (σ:St) (H:Hp) (fl:Value),e = .ref a/\Inv X [] σ H s'/\(NK s'.heap a cls dd ar T fl/\(fl = .none∨(T≠none/\fl=rawInt X.env.locals)))/\Loose X H a/\(∀t,T=some t->Loose X H t)/\R σ cls dd H
theorem jK {X:Cx}{pins:List (Addr×Obj)}{σ:St}{H:Hp}{s:Shared}(I:Inv X pins σ H s):Inv X [] σ H s:=I.pins_of fun p hp=>nomatch hp
theorem jL {X:Cx}{R:St->XK}{pins:List (Addr×Obj)}{σ:St}{H:Hp}{s:Shared}{e:Value}{s':Shared}(I:Inv (X.wish (Fly X R)) pins σ H s) (h:CXE X.prog X.w X.stack H s (R σ) e s'):Fly X R e s':=by
 obtain⟨a,T,cls,dd,ar,H',rfl,os,bare,un,hok,x,h1,h2,f1,f2,r⟩:=h
 have I':=I.unwish
 have J:Inv X pins σ H' s':=I'.call' (ch:=[]) os un hok bare fun b z=>absurd z (by simp)
 exact⟨a,some T,cls,dd,ar,σ,H',.none,rfl,jK J,⟨x,.inl rfl⟩,Loose.of I' h1 f1,fun t e=>(by cases e;exact Loose.of I' h2 f2),r⟩
def UO (sp:Sp) (R:St->XK) (t:TA):TE:=fun σ H Q=>t σ H fun vs H1=>sp vs H1 Q (R σ)
theorem jM {X:Cx}{R:St->XK}{k:Nat}{f:Addr}{fd:FuncData}{ps:List Str}{sp:Sp}{x:Str}{p pos:Pos}{e:Expr}{es:List Expr}{t:TA}(F:FnOk X.prog X.w X.K X.mg X.base (CXE X.prog X.w) k f fd ps sp) (hr:Room k X.A) (hg:Gl X x) (hm:X.mg x=some (.ref f)) (hk:a5Q X.K (.ref f)=true) (hb:Binds X.K fd ps [])
   (ha:PA (X.wish (Fly X R)) (e::es) t) (hdb:(x==("__debug__":Str))=false:=by decide) (he:starEach (e::es) X.env=(false,eval e X.env)::starEach es X.env:=by rfl) (hpl:(backTo pos (starEach es X.env)).any (·.1)=false:=by rfl) :
   PE (X.wish (Fly X R)) (.Call (.Name x p) (e::es) [] pos) (UO sp R t):=by
 intro pins s σ H Q I h
 refine wpAny_Call_Name_kw (P0 (X:=X.wish (Fly X R)) I hg hm ?_ hdb)
 refine PySem.W.callWith_K (h₀:=X.base) I.ok.mod.kin hk (thn (ha pos pins s σ H _ I h) fun us s1 ⟨vs,H1,I1,r,q⟩=>⟨I1.kIn,?_⟩) he hpl
 have hl:(us++[]).length=ps.length:=by rw[a2Q,← r.length];exact F.len _ _ _ _ q
 have r2:Vals vs (us++[]):=by rw[a2Q];exact r
 refine wpAny_call (xN (F.run X.A X.stack s1 H1 ⟨us,[]⟩ (us++[]) vs Q (R σ) hr I1.env0 (hb s1 us I1.kIn hl) r2 q) fun r' s' hq=>?_)
 cases r' with
 | error e=>exact jL I1 hq
 | ok fl=>
   cases fl with
   | ret u=>exact I1.after hq
   | next=>exact a8K hq
   | brk=>exact a8K hq
   | cont=>exact a8K hq
theorem T5 {X:Cx}{pins:List (Addr×Obj)}{σ:St}{H:Hp}{s:Shared}{ch:List Addr}{h':Heap}(I:Inv X pins σ H s) (m:Moved (frs X.stack) ch s.heap h') (hch:∀b∈ch,H b=none/\X.s₀.heap.objs.size<=b/\b≠X.env.locals/\(∀x c,X.env.cells.lookup x=some c->c≠b)/\∀p∈X.pn++pins,p.1≠b) :
   Inv X pins σ H { s with heap:=h' }:=by
 refine I.call' (s':={ s with heap:=h' }) (ch:=ch) rfl ⟨fun b o q n f c=>m.keep b o q f c,fun b o q n f c=>m.slot b o q c,fun _ _ _ n _=>n,fun b o q _=>m.there b o q,fun _ _ q=>q,fun _ _ _ q=>q,fun b ps q=>⟨#[],by rw[q];simp⟩⟩
   (T4 I.hok m I.stkFree fun b hb=>(hch b hb).1) I.bare fun b hb=>⟨.inr (hch b hb).2.1,(hch b hb).2.2⟩
theorem Loose.ch {X:Cx}{H:Hp}{b:Addr}(l:Loose X H b):H b=none/\X.s₀.heap.objs.size<=b/\b≠X.env.locals/\(∀x c,X.env.cells.lookup x=some c->c≠b)/\∀p∈X.pn++[],p.1≠b:=⟨l.fre,l.above,l.loc,l.cel,fun p hp=>l.pn p (by simpa using hp)⟩
theorem ZI {X:Cx}{R:St->XK}(hstk:X.stack=X.env::X.outer) (hfr:X.env.frame=some X.env.locals):PassesOwn (model X.prog X.w) X.A X.env (Fly X R):=fun e s' h=>by
 obtain⟨a,T,cls,dd,ar,σ,H,fl,rfl,I,⟨x,hfl⟩,la,lT,r⟩:=h
 have fr:X.A.frames=some (X.env::X.outer):=by rw[← hstk];exact I.ok.frames
 have hl:s'.heap.FunFrames X.base (X.env::X.outer):=by rw[← hstk];exact I.stack
 refine WZ fr hl hfr x hfl fun h2 T' x2 n2 m2=>?_
 have hfs:(X.env::X.outer).filterMap (·.frame)=frs X.stack:=by rw[hstk];rfl
 rw[hfs] at m2
 have I2:Inv X [] σ H { s' with heap:=h2 }:=T5 I m2 fun b hb=>by
   rcases yX.mp hb with q | q
   · rw[q];exact la.ch
   · exact(lT b (by cases T with | none=>simp at q | some t=>simp at q;rw[q])).ch
 have lT':Loose X H T':=n2.elim (fun z=>lT T' z) fun z=>Loose.of I z.2 (I.hok.fresh z.2)
 obtain⟨oe,vs,he,hc,hdd,hd,h0,h1,hTe,_⟩:=id x2
 unfold cameBackBy
 refine zZ (wpAny_field (s:={ s' with heap:=h2 }) he hd h1 ?_)
 rw[if_neg (by simp)]
 rw[hfr]
 refine ZH (s:={ s' with heap:=h2 }) x2 fun h3 x3 m3=>?_
 have I3:Inv X [] σ H { s' with heap:=h3 }:=T5 (s:={ s' with heap:=h2 }) (ch:=[T']) I2 (m3.mono (fun b z=>absurd z (by simp)) fun b z=>z) fun b hb=>by
   have:b=T':=by simpa using hb
   rw[this];exact lT'.ch
 exact⟨a,some T',cls,dd,ar,σ,H,_,rfl,I3,⟨x3,.inr ⟨by simp,rfl⟩⟩,la,fun t e=>(by cases e;exact lT'),r⟩
section
variable {P:Program}{w:World}{K:Frg}{mg:Str->Option Value}{base:Heap}
theorem u0 {N:List Str}{qual:Str}{scope:Scope}{f:Addr}{cd:Value}{A:Around}{outer:List Env}{s:Shared}{H:Hp}{E:XK}{e:Value}{s':Shared}
   (h:Fly (LO (CXE P w) P w K mg base N qual scope f cd A outer s H E) (fun _=>E) e s'):(LO (CXE P w) P w K mg base N qual scope f cd A outer s H E).xe e s':=by
 obtain⟨a,T,cls,dd,ar,σ,H',fl,rfl,I,⟨x,hfl⟩,la,lT,r⟩:=h
 have hst:=I.stack
 have hfre:=I.stkFree
 refine e7 (base:=base) (env:=envOfC qual scope s.heap.objs.size f cd) (outer:=outer) (L:=s.heap.objs.size) I.ok.frames hst rfl x hfl fun h' T' x' z m=>?_
 have hfr:∀b∈(envOfC qual scope s.heap.objs.size f cd::outer).filterMap (·.frame),H' b=none:=hfre
 have hch:∀b∈a::T.toList,Loose (LO (CXE P w) P w K mg base N qual scope f cd A outer s H E) H' b:=fun b hb=>by
   rcases yX.mp hb with q | q
   · rw[q];exact la
   · exact lT b (by cases T with | none=>simp at q | some t=>simp at q;rw[q])
 have nch:∀b o,s.heap.get? b=some o->b∉a::T.toList:=fun b o q hb=>absurd (zP (zM q) (hch b hb).above) (yF _)
 have nfr:∀b o,s.heap.get? b=some o->b∉frs outer->b∉(envOfC qual scope s.heap.objs.size f cd::outer).filterMap (·.frame):=fun b o q n hb=>by
   rcases yX.mp (show b∈s.heap.objs.size::frs outer from hb) with z | z
   · rw[z] at q;exact absurd (zM q) (yF _)
   · exact n z
 have B:=I.base
 have hok:=T4 I.hok m hfr fun b hb=>(hch b hb).fre
 have sz:=I.sz
 have hT2:s.heap.objs.size<=T'/\H' T'=none:=by
   rcases z with z | z
   · exact⟨(lT T' z).above,(lT T' z).fre⟩
   · exact⟨zN sz z,I.hok.fresh z⟩
 refine⟨a,T',cls,dd,ar,H',rfl,I.os,I.bare,⟨fun b o q n hb hx=>?_,fun b o q n hb hx=>?_,B.free,fun b o q hx=>?_,B.tups,B.frzs,B.tbls⟩,hok,x',la.above,hT2.1,la.fre,hT2.2,r⟩
 · exact m.keep b o (B.keep b o q n hb hx) (nfr b o q hb) (nch b o q)
 · obtain⟨sl,q1⟩:=B.slot b o q n hb hx
   obtain⟨sl',q2⟩:=m.slot b _ q1 (nch b o q)
   exact⟨sl',q2⟩
 · obtain⟨o',q1⟩:=B.there b o q hx
   exact m.there b o' q1
theorem jN {X:Cx}{E:Value->Shared->Prop}{st:List Stmt}{t:TS}(h:PSs (X.wish E) st t) (hE:∀e s,E e s->X.xe e s):PSs X st t:=fun pins s σ H D I hw=>
 wpAny_mono (h pins s σ H D (I.wish _) hw) (fun _ _ q=>q.unwish) hE
theorem xL {x qual:Str}{st:Stmt}{f:Addr}{fd:FuncData}{N ps:List Str}{k:Nat}{sp:Sp}(F:Fun K x qual st f fd) (S:FnScope N ps (AB st)) (len:∀vs H Q E,sp vs H Q E->vs.length=ps.length)
   (hbody:∀(cdv:Value) (A:Around) (outer:List Env) (s:Shared) (H:Hp) (vs:List V) (Q:VK) (E:XK),Room k (A.deeper (envOfC qual (AB st) s.heap.objs.size f cdv))->sp vs H Q E ->
     ∃t,PSs ((LO (CXE P w) P w K mg base N qual (AB st) f cdv A outer s H E).wish (Fly (LO (CXE P w) P w K mg base N qual (AB st) f cdv A outer s H E) fun _=>E)) (BZ st) t/\t { nx:=fun _ H'=>Q .non H',rt:=Q } (G6 N vs) H):FnOk P w K mg base (CXE P w) (k+1) f fd ps sp:=by
 obtain⟨oc,od,kV,doc,pm,an,cdv,ct,osl,rfl,lk,hcd⟩:=F.ex
 refine pJ lk hcd S len fun A outer s H vs Q E hr hsp=>?_
 obtain⟨t,h,q⟩:=hbody cdv A outer s H vs Q E hr hsp
 exact⟨t,jN h fun e s' z=>u0 z,q⟩
end
end XC
namespace XC
open PySem PySem.Spec L2
open PyProof.Rows (envOfC AllBare)
abbrev bmV:List Value:=[.type "ValueError", .type "Exception", .type "BaseException", .type "object"]
structure XCls (K:Frg) (C S:Addr) (init:Value):Prop where
 lk:∃(nm q:Str) (N:Addr) (bs:List Value) (sn:List Str) (sub:List Value) (ab:Bool) (col:Option Bool) (dd:Option Addr) (k0 k1 k2 k3 k5:Option Value),K.lookup C=some (excClassObj nm q C N bs (.ref S::bmV) true sn sub ab col dd k0 k1 k2 k3 k5 "ValueError.__new__")
 init:b3J K (.ref C) "__init__"=some (some init)
 kp:a5Q K (.ref C)=true
theorem nX {S:Addr}:(a0Z S::bmV).contains (.type "ValueError")=true:=by rw[a3J];rfl
theorem nY {S:Addr}:(a0Z S::bmV).contains (.type "AttributeError")=false:=by rw[a3J];rfl
theorem nZ {S:Addr}:(a0Z S::bmV).contains (.type "NameError")=false:=by rw[a3J];rfl
theorem jO {S:Addr}:(a0Z S::bmV).contains (.type "BaseException")=true:=by rw[a3J];rfl
end XC
namespace XC
open PySem PySem.Spec L2
open PyProof.Rows (envOfC AllBare)
def xo (e C t:Addr) (dx:Option Addr):HO:=.ext fun h=>h.get? e=some { cls:=.ref C,dict:=dx,data:=.fields #[.ref t,.none,.none,.none,.bool false,.none] }
theorem qC {P:Program}{w:World}{H:Hp}{h:Heap}{e C t:Addr}{dx:Option Addr}(q:h.get? e=some { cls:=.ref C,dict:=dx,data:=.fields #[.ref t,.none,.none,.none,.bool false,.none] }):ObjOk P w H h e (xo e C t dx):=
 ⟨q,⟨_,q⟩,fun _ _ a b=>b _ a⟩
structure XSet (K:Frg) (C:Addr) (fn:Str):Prop where
 sa:b3J K (.ref C) "__setattr__"=some (some (.builtin "object.__setattr__"))
 ta:PySem.W.takerIn K C fn=some none
def sX (C:Addr) (fn:Str) (ta tv:TE):TS:=fun D σ H=>tv σ H fun y H1=>ta σ H1 fun x H2=>∃e t,x = .ref e/\H2 e=some (xo e C t none) /\
 ∀d,H2 d=none->d≠e->D.nx σ (upd (upd H2 d (.xd [(fn,y)])) e (xo e C t (some d)))
section
variable {X:Cx}{pins:List (Addr×Obj)}{σ:St}{H:Hp}{s:Shared}
theorem jP {e C t dx:Addr}{fn:Str}{y:V}{u:Value}{h':Heap}{t':Nat}(I:Inv X pins σ H s) (he:H e=some (xo e C t none)) (ry:RelV y u) (hd:s.heap.objs.size<=dx)
   (q1:h'.get? e=some { cls:=.ref C,dict:=some dx,data:=.fields #[.ref t,.none,.none,.none,.bool false,.none] }) (q2:h'.Ns1 dx (fun z=>if z=fn then some u else none))
   (k:∀b o,b≠e->s.heap.get? b=some o->h'.get? b=some o):Inv X pins σ (upd (upd H dx (.xd [(fn,y)])) e (xo e C t (some dx))) { s with heap:=h',toks:=t' }:=by
 have hdn:H dx=none:=I.hok.fresh hd
 have hne:dx≠e:=fun z=>by rw[z,he] at hdn;cases hdn
 have lo:∀b o,s.heap.get? b=some o->b≠dx:=fun b o q z=>by rw[z] at q;exact absurd (zP (zM q) hd) (yF _)
 have same:∀b,b≠e->b≠dx->upd (upd H dx (.xd [(fn,y)])) e (xo e C t (some dx)) b=H b:=fun b h1 h2=>by rw[AJ h1,AJ h2]
 have tr:∀b o,H b=some o->b≠dx:=fun b o q z=>by rw[z,hdn] at q;cases q
 refine I.un ⟨fun b o q n _ _=>k b o (fun z=>by rw[z,he] at n;cases n) q,fun b o q n _ _=>⟨o.slots,k b o (fun z=>by rw[z,he] at n;cases n) q⟩,fun b o q n _=>?_,fun b o q _=>?_,fun b xs q=>?_,fun b o xs q=>?_,fun b ps q=>⟨#[],?_⟩⟩ fun b o q=>?_
 · rw[same b (fun z=>by rw[z,he] at n;cases n) (lo b o q)];exact n
 · by_cases z:b=e
   · rw[z];exact⟨_,q1⟩
   · exact⟨o,k b o z q⟩
 · rw[same b (fun z=>by rw[z,he] at q;cases q) (tr b _ q)];exact q
 · rw[same b (fun z=>by rw[z,he] at q;cases q) (tr b _ q)];exact q
 · rw[same b (fun z=>by rw[z,he] at q;cases q) (tr b _ q)];rw[q];simp
 · by_cases z:b=e
   · subst z;rw[AI] at q;cases q;exact qC q1
   · by_cases z2:b=dx
     · subst z2
       rw[AJ z,AI] at q
       cases q
       refine⟨_,q2,fun f=>?_⟩
       by_cases hf:f=fn
       · subst hf;simp[List.lookup];exact ry
       · have:(f==fn)=false:=by simp[hf]
         simp[List.lookup,this,hf,RelO]
     · rw[same b z z2] at q
       refine(I.hok b o q).stay (fun c v hc qq=>k c v ?_ qq) (fun c qq=>?_) fun c xs qq=>?_
       · rcases hc with rfl | hc
         · exact z
         · rintro rfl;rw[he] at hc;cases hc
       · rw[same c (fun z=>by rw[z,he] at qq;cases qq) (tr c _ qq)];exact qq
       · rw[same c (fun z=>by rw[z,he] at qq;cases qq) (tr c _ qq)];exact qq
theorem o0 {C S:Addr}{init:Value}{fn:Str}{o value:Expr}{pos pos':Pos}{ta tv:TE}(c:XCls X.K C S init) (cs:XSet X.K C fn) (ha:PE X o ta) (hv:PE X value tv) (hs:swapsWith value (some (.Attribute o fn pos')) pos.line X.env=pure false) :
   PS X (.Assign [.Attribute o fn pos'] value pos) (sX C fn ta tv):=by
 intro pins s σ H D I h
 refine plainObj_wpAny_Assign_Attribute (thn (hv pins s σ H _ I h) fun u s1 ⟨y,H1,I1,ry,q⟩=>thn (ha pins s1 σ H1 _ I1 q) fun ov s2 ⟨x,H2,I2,rx,e,t,ex,ea,q2⟩=>?_) hs
 subst ex
 obtain rfl:ov=a0Z e:=rx
 obtain⟨nm,q,N,bs,sn,sub,ab,col,dd,k0,k1,k2,k3,k5,lk⟩:=c.lk
 have hx:=(I2.hok e _ ea).1
 refine nW (cd:={ name:=nm,bases:=bs,mro:=.ref C::.ref S::bmV,ns:=N,qualname:=q,hasDict:=true,slotNames:=sn,subclasses:=sub,abstract:=ab,collection:=col,hasDel:=false }) I2.kIn hx rfl rfl rfl cs.sa (by unfold PySem.W.clsIn;rw[lk]) (by rw[a3J,a3J];rfl)
   (fun self=>by show refuseLoop self "__setattr__" (.ref C::.ref S::bmV)=pure ();rw[refuseLoop_ref,refuseLoop_ref];exact PySem.F.store_ValueError.passes self) cs.ta rfl fun h' tk' dx z1 z2 z3 z4=>?_
 have hdn:H2 dx=none:=I2.hok.fresh z1
 have hne:dx≠e:=fun z=>by rw[z,ea] at hdn;cases hdn
 exact⟨σ,_,jP (t':=tk') I2 ea ry z1 z2 z3 z4,q2 dx hdn hne⟩
end
def QG (C:Addr) (fn:Str):Sp:=fun vs H Q _=>∃e v t,vs=[.ref e,v]/\H e=some (xo e C t none)/\∀d,H d=none->d≠e->Q .non (upd (upd H d (.xd [(fn,v)])) e (xo e C t (some d)))
theorem ZJ {X:Cx}{pins:List (Addr×Obj)}{σ:St}{H:Hp}{s:Shared}{e C t:Addr}{dx:Option Addr}(I:Inv X pins σ (upd H e (xo e C t dx)) s) (hn:H e=none) (ha:X.s₀.heap.objs.size<=e):Inv X pins σ H s:=by
 have B:=I.base
 have sm:∀b,b≠e->upd H e (xo e C t dx) b=H b:=fun b z=>AJ z
 have ne:∀b o,X.s₀.heap.get? b=some o->b≠e:=fun b o q z=>by rw[z] at q;exact absurd (zP (zM q) ha) (yF _)
 have nn:∀b,upd H e (xo e C t dx) b=none->H b=none:=fun b q=>by
   by_cases z:b=e
   · rw[z];exact hn
   · rw[sm b z] at q;exact q
 have nt:∀{b o},upd H e (xo e C t dx) b=some o->o≠xo e C t dx->H b=some o:=fun {b o} q no=>by
   by_cases z:b=e
   · rw[z,AI] at q;cases q;exact absurd rfl no
   · rw[sm b z] at q;exact q
 refine⟨I.ok,I.os,I.bare,⟨B.keep,B.slot,fun b o q n hx=>nn b (B.free b o q n hx),B.there,fun b xs q=>nt (B.tups b xs q) (by unfold xo;simp),fun b o xs q=>nt (B.frzs b o xs q) (by unfold xo;simp),fun b ps q=>?_⟩,I.loc,I.cell,nn _ I.free,fun x c q=>nn _ (I.freeC x c q),fun p hp=>?_,fun b o q=>?_,I.len⟩
 · obtain⟨m,q'⟩:=B.tbls b ps q
   exact⟨m,nt q' (by unfold xo;simp)⟩
 · obtain⟨a1,a2,a3⟩:=I.pin p hp
   exact⟨a1,nn _ a2,a3⟩
 · have z:b≠e:=fun z=>by rw[z,hn] at q;cases q
   have q':upd H e (xo e C t dx) b=some o:=by rw[sm b z];exact q
   exact(I.hok b o q').stay (fun _ _ _ a=>a) (fun c a=>nt a (by unfold xo;simp)) fun c xs a=>nt a (by unfold xo;simp)
section
variable {X:Cx}{R:St->XK}{C S f:Addr}{x fn:Str}{np cpos pos:Pos}{arg:Expr}{t:TA}{k:Nat}{fd:FuncData}{ps:List Str}
def UP (C:Addr) (fn:Str) (R:St->XK) (t:TA):TS:=fun _ σ H=>t σ H fun vs H1=>∃v,vs=[v]/\∀d,H1 d=none->R σ (.ref C) (some d) (upd H1 d (.xd [(fn,v)]))
theorem e9 (c:XCls X.K C S (.ref f)) (hfn:PySem.W.isFn X.K (.ref f)=true) (F:FnOk X.prog X.w X.K X.mg X.base CX0 k f fd ps (QG C fn)) (hb:Binds X.K fd ps []) (hr:Room (k+1) X.A) (hg:Gl X x) (hm:X.mg x=some (.ref C))
   (ha:PA (X.wish (Fly X R)) [arg] t) (hdb:(x==("__debug__":Str))=false:=by decide) (he:starEach [arg] X.env=[(false,eval arg X.env)]:=by rfl) :
   PS (X.wish (Fly X R)) (.Raise (some (.Call (.Name x np) [arg] [] cpos)) none pos) (UP C fn R t):=by
 intro pins s σ H D I h
 have FB:=PySem.F.excBase_ValueError
 obtain⟨nm,q,N,bs,sn,sub,ab,col,dd,k0,k1,k2,k3,k5,lk⟩:=c.lk
 rw[arm_exec_Raise]
 refine zZ (wpAny_standAt (e8 (C:=C) (hbase:=jO (S:=S)) (hh:=hr.hd) (nm:=nm) (q:=q) (N:=N) (bs:=bs) (hdct:=true) (sn:=sn) (sub:=sub) (ab:=ab) (col:=col) (dd:=dd) (k0:=k0) (k1:=k1) (k2:=k2) (k3:=k3) (k5:=k5) (newId:= "ValueError.__new__") ?_))
 refine zZ (thn (wpAny_Call_Name_kw (P0 I (X:=X.wish (Fly X R)) hg hm (PySem.W.callWith_K (h₀:=X.base) I.ok.mod.kin c.kp (Q:=fun v s₁=>∃e t dx,v = .ref e/\s₁.heap.get? C=some (excClassObj nm q C N bs (.ref S::bmV) true sn sub ab col dd k0 k1 k2 k3 k5 "ValueError.__new__") /\
     s₁.heap.get? e=some { cls:=.ref C,dict:=dx,data:=.fields #[.ref t,.none,.none,.none,.bool false,.none] }/\Fly X R (.ref e) s₁) (thn (ha cpos pins s σ H _ I h) fun us s1 ⟨vs,H1,I1,r,v,ev,q1⟩=>⟨I1.kIn,?_⟩) he rfl) hdb)) fun v s3 h3=>zZ (wpAny_standAt (zY h3)))
 subst ev
 obtain⟨u,rfl,ru⟩:∃u,us=[u]/\RelV v u:=by cases r with | cons a b=>cases b;exact⟨_,rfl,a⟩
 have I0:=I1.unwish
 have hC:=I0.kIn _ _ lk
 obtain⟨hp,g,d,tk,os⟩:=s1
 have kk:=HY (h:=hp) (C:=C) (rest:=[u])
 have hat:=bQ (h:=hp) (C:=C) (rest:=[u])
 have I2:Inv X pins σ (upd H1 (hp.objs.size+1) (xo (hp.objs.size+1) C hp.objs.size none)) ⟨RT hp C [u],g,d,tk,os⟩:=I0.laid (a:=hp.objs.size+1) (t':=tk) kk (b0Q _) (qC hat)
 have hen:H1 (hp.objs.size+1)=none:=I0.hok.fresh (b0Q _)
 have r2:Vals [V.ref (hp.objs.size+1),v] [a0Z (hp.objs.size+1),u]:=.cons rfl (.cons ru .nil)
 have hsp:QG C fn [V.ref (hp.objs.size+1),v] (upd H1 (hp.objs.size+1) (xo (hp.objs.size+1) C hp.objs.size none))
     (fun w H2=>w = .non/\∃d',H1 d'=none/\d'≠hp.objs.size+1/\H2=upd (upd H1 d' (.xd [(fn,v)])) (hp.objs.size+1) (xo (hp.objs.size+1) C hp.objs.size (some d'))) (fun _ _ _=>False):=by
   refine⟨_,v,hp.objs.size,rfl,AI,fun d' hd' hne=>⟨rfl,d',by rw[AJ hne] at hd';exact hd',hne,?_⟩⟩
   funext b
   unfold upd
   by_cases z:b=hp.objs.size+1 <;> simp[z]
 have hl:([a0Z (hp.objs.size+1),u]++[]).length=ps.length:=by
   have:=F.len _ _ _ _ hsp
   simpa using this
 refine tZ FB nX nY nZ hC (PySem.W.looks_findIn I0.kIn c.init) (fun self=>PySem.W.bind_fn I0.kIn self (beq_iff_eq.mp hfn)) (xN (F.run _ X.stack _ _ ⟨[a0Z (hp.objs.size+1),u],[]⟩ ([a0Z (hp.objs.size+1),u]++[]) _ _ _ (hr.make C [u] []) (I2.env0.make C [u] []) (hb _ [a0Z (hp.objs.size+1),u] I2.kIn hl) r2 hsp) fun r' s' hq'=>?_) (by show 1<=sizeLine;decide)
 rcases r' with e | (w | _ | _ | _) <;> first | exact hq'.elim | skip
 obtain⟨w',H2,I3,rw',rfl,d',hd1,hd2,rfl⟩:=I2.after hq'
 have hx:=(I3.hok _ _ AI).1
 have hen':(upd H1 d' (.xd [(fn,v)])) (hp.objs.size+1)=none:=by rw[AJ (b4K hd2)];exact hen
 have ab':X.s₀.heap.objs.size<=hp.objs.size+1:=zN I0.sz (b0Q _)
 have I4:=ZJ I3 hen' ab'
 refine⟨rw',hp.objs.size+1,hp.objs.size,some d',rfl,I3.kIn _ _ lk,hx,hp.objs.size+1,none,.ref C,some d',.ref hp.objs.size,σ,_,.none,rfl,jK I4,⟨⟨_,_,hx,rfl,rfl,rfl,rfl,rfl⟩,.inl rfl⟩,Loose.of I0 (b0Q _) hen',fun t e=>(by cases e),q1 d' hd1⟩
end
end XC
namespace DL
open PySem PySem.Spec L2 XC
open PyProof.Rows (envOfC AllBare)
abbrev Rx:=L2.St->XK
theorem XI.sub {K:Frg}{H:Hp}{M M':Own}(hs:M'.Sub M) {dd:Option Addr}{fs:List (Str×PyData)}(h:XI K H M.W dd fs):XI K H M'.W dd fs:=h.grow (B1 hs)
abbrev DXK:=List (Option DS)->Value->List (Str×PyData)->Own->Prop
def KX (K:Frg) (R:Rx) (M:Own) (H:Hp) (DX:DXK):Prop:=∀(ρ':List (Option DS)) (cls:Value) (fs:List (Str×PyData)) (M':Own) (σ':St) (dd:Option Addr) (H':Hp),Rel K M' ρ' σ' H'->Step K M M' H H'->XI K H' M'.W dd fs->DX ρ' cls fs M'->R σ' cls dd H'
theorem KX.step {K:Frg}{R:Rx}{M M1:Own}{H H1:Hp}{DX:DXK}(k:KX K R M H DX) (t:Step K M M1 H H1):KX K R M1 H1 DX:=fun a b c d e f g h i j l=>k a b c d e f g h (t.trans i) j l
def DXt (K:Frg) (R:Rx) (t:TS) (ρ:List (Option DS)) (M:Own) (D:EndsD) (DX:DXK):Prop:=
 ∀(σ:St) (H:Hp) (E:Ends),Rel K M ρ σ H->(∀ρ' M' σ' H',Rel K M' ρ' σ' H'->Step K M M' H H'->D.nx ρ' M'->E.nx σ' H')->(∀v H' x M',OA K H' M'->SI K H' M' x v->Step K M M' H H'->D.rt x M'->E.rt v H') ->
   (∀ρ' M' σ' H',Rel K M' ρ' σ' H'->Step K M M' H H'->D.bk ρ' M'->E.bk σ' H')->(∀ρ' M' σ' H',Rel K M' ρ' σ' H'->Step K M M' H H'->D.ct ρ' M'->E.ct σ' H')->KX K R M H DX->t E σ H
def DEx (K:Frg) (R:Rx) (t:TE) (ρ:List (Option DS)) (M:Own) (Q:DS->Own->Prop) (DX:DXK):Prop:=
 ∀(σ:St) (H:Hp) (QQ:VK),Rel K M ρ σ H->(∀v H' x M',OA K H' M'->SI K H' M' x v->Step K M M' H H'->Q x M'->QQ v H')->KX K R M H DX->t σ H QQ
structure FSpX where
 pre:List DS->Own->Prop
 post:List DS->Own->DS->Own->Prop
 xpost:List DS->Own->Value->List (Str×PyData)->Own->Prop
def spX (K:Frg) (n:Nat) (S:FSpX):Sp:=fun vs H Q E=>∃xs M,xs.length=n/\OA K H M/\SIs K H M xs vs/\S.pre xs M/\(∀x M' v H',S.post xs M x M'->Step K M M' H H'->OA K H' M'->SI K H' M' x v->Q v H') /\
 ∀cls fs M' dd H',S.xpost xs M cls fs M'->Step K M M' H H'->OA K H' M'->XI K H' M'.W dd fs->E cls dd H'
section
variable {K:Frg}{R:Rx}{ρ:List (Option DS)}{M:Own}{D:EndsD}{DX:DXK}{t u:TS}{ta:TE}{tl:TA}{tA:TT}{Q:DS->Own->Prop}
theorem GC (h:DSt K t ρ M D):DXt K R t ρ M D DX:=fun σ H E Rl k1 k2 k3 k4 _=>h σ H E Rl k1 k2 k3 k4
theorem jQ (h:DXt K R t ρ M { D with nx:=fun ρ1 M1=>DXt K R u ρ1 M1 D DX } DX):DXt K R (fQ t u) ρ M D DX:=fun σ H E Rl k1 k2 k3 k4 k5=>by
 refine h σ H { E with nx:=fun σ' H'=>u E σ' H' } Rl (fun ρ1 M1 σ1 H1 R1 t1 q=>?_) k2 k3 k4 k5
 exact q σ1 H1 E R1 (fun a b c d e f g=>k1 a b c d e (t1.trans f) g) (fun a b c d e f g q=>k2 a b c d e f (t1.trans g) q) (fun a b c d e f g=>k3 a b c d e (t1.trans f) g) (fun a b c d e f g=>k4 a b c d e (t1.trans f) g) (k5.step t1)
theorem o8 {D':EndsD}{DX':DXK}(h:DXt K R t ρ M D DX) (h1:∀ρ' M',D.nx ρ' M'->D'.nx ρ' M') (h2:∀x M',D.rt x M'->D'.rt x M') (h3:∀ρ' M',D.bk ρ' M'->D'.bk ρ' M') (h4:∀ρ' M',D.ct ρ' M'->D'.ct ρ' M') (h5:∀a b c d,DX a b c d->DX' a b c d):DXt K R t ρ M D' DX':=
 fun σ H E Rl k1 k2 k3 k4 k5=>h σ H E Rl (fun a b c d e f g=>k1 a b c d e f (h1 _ _ g)) (fun a b c d e f g q=>k2 a b c d e f g (h2 _ _ q)) (fun a b c d e f g=>k3 a b c d e f (h3 _ _ g)) (fun a b c d e f g=>k4 a b c d e f (h4 _ _ g)) fun a b c d e f g h i j l=>k5 a b c d e f g h i j (h5 _ _ _ _ l)
theorem u4 (P:List (Option DS)->Own->Prop) (h:DXt K R t ρ M { D with nx:=P } DX) (h2:∀ρ1 M1,P ρ1 M1->DXt K R u ρ1 M1 D DX):DXt K R (fQ t u) ρ M D DX:=
 jQ (o8 h (fun ρ' M' p=>h2 ρ' M' p) (fun _ _ q=>q) (fun _ _ q=>q) (fun _ _ q=>q) fun _ _ _ _ q=>q)
theorem wB (h:DT K tA ρ M fun c M1=>if c=true then DXt K R t ρ M1 D DX else DXt K R u ρ M1 D DX):DXt K R (qW tA t u) ρ M D DX:=fun σ H E Rl k1 k2 k3 k4 k5=>
 h σ H _ Rl fun c H1 M1 o1 t1 h1=>by
   have go:∀{w:TS},DXt K R w ρ M1 D DX->w E σ H1:=fun q=>q σ H1 E (Rl.step o1 t1) (fun a b c d e f g=>k1 a b c d e (t1.trans f) g) (fun a b c d e f g q=>k2 a b c d e f (t1.trans g) q) (fun a b c d e f g=>k3 a b c d e (t1.trans f) g) (fun a b c d e f g=>k4 a b c d e (t1.trans f) g) (k5.step t1)
   cases c with
   | true=>rw[if_pos rfl] at h1 ⊢;exact go h1
   | false=>rw[if_neg nft] at h1 ⊢;exact go h1
theorem jR {wi:TI}{g:TG}{tb:TS}(h:DI K wi ρ M fun ds M1=>∃P:Nat->List (Option DS)->Own->Prop,P 0 ρ M1/\(∀k d ρ' M',ds[k]?=some d->P k ρ' M'->DG K g d ρ' M' fun ρ2 M2=>DXt K R tb ρ2 M2 (D.turn (P (k+1))) DX)/\∀ρ' M',P ds.length ρ' M'->D.nx ρ' M') :
   DXt K R (rB wi g tb) ρ M D DX:=fun σ H E Rl k1 k2 k3 k4 k5=>
 h σ H _ Rl fun J ds H1 M1 o1 t1 wd ⟨P,p0,pt,pe⟩=>by
   refine⟨fun i m σ' H'=>m=ds.length - i/\i<=ds.length/\∃ρ' M',Rel K M' ρ' σ' H'/\Step K M1 M' H1 H'/\P i ρ' M',⟨_,rfl,xT _,ρ,M1,Rl.step o1 t1,Step.refl,p0⟩,?_⟩
   rintro i m σ' H' ⟨rfl,hi,ρ',M',R',st,p⟩
   by_cases hlt:i < ds.length
   · refine .inr ⟨wd.go i H' M' hlt R'.own st,fun σ2 H2=>∃ρ2 M2,Rel K M2 ρ2 σ2 H2/\Step K M1 M2 H1 H2/\P (i+1) ρ2 M2,fun σ2 H2 ⟨ρ2,M2,a,b,c⟩=>⟨ds.length - (i+1),by omega,rfl,hlt,ρ2,M2,a,b,c⟩,fun x H2 y=>?_⟩
     obtain⟨oa2,st2,d,e1,e2⟩:=wd.yld i H' M' x H2 R'.own st hlt y
     refine pt i d ρ' M' e1 p σ' H2 x _ (R'.step oa2 st2) e2 fun ρ3 M3 σ3 H3 R3 st3 b3=>?_
     have s3:=(st.trans st2).trans st3
     exact b3 σ3 H3 _ R3 (fun r m s hh R4 st4 q=>⟨r,m,R4,s3.trans st4,q⟩) (fun w hh x m a b c q=>k2 w hh x m a b (t1.trans (s3.trans c)) q)
       (fun r m s hh R4 st4 q=>k1 r m s hh R4 (t1.trans (s3.trans st4)) q) (fun r m s hh R4 st4 q=>⟨r,m,R4,s3.trans st4,q⟩) (k5.step (t1.trans s3))
   · have e:i=ds.length:=by omega
     subst e
     exact .inl ⟨wd.stop H' M' R'.own st,k1 ρ' M' σ' H' R' (t1.trans st) (pe ρ' M' p)⟩
theorem eF {C:Addr}{fn:Str}(h:DA K tl ρ M fun xs M1=>∃d,xs=[.d d]/\DX ρ (.ref C) [(fn,d)] M1):DXt K R (UP C fn R tl) ρ M D DX:=fun σ H E Rl _ _ _ _ k5=>
 h σ H _ Rl fun vs H1 xs M1 o1 s1 t1 ⟨d,ex,q⟩=>by
   subst ex
   obtain⟨v,r,rfl,sv,rfl⟩:=s1
   refine⟨v,rfl,fun p hp=>?_⟩
   have g:Step K M1 M1 H1 (upd H1 p (.xd [(fn,v)])):=⟨AY _ hp⟩
   exact k5 ρ _ [(fn,d)] M1 σ (some p) _ ((Rl.step o1 t1).step (o1.new hp) g) (t1.trans g) ⟨v,fun z=>z (o1.none hp),AI,DV.grow g.grow sv⟩ q
theorem LZ {n:Nat}{S:FSpX}(h:DA K tl ρ M fun xs M1=>xs.length=n/\S.pre xs M1/\(∀x M',S.post xs M1 x M'->Q x M')/\∀cls fs M',S.xpost xs M1 cls fs M'->DX ρ cls fs M'):DEx K R (UO (spX K n S) R tl) ρ M Q DX:=fun σ H QQ Rl k k5=>
 h σ H _ Rl fun vs H1 xs M1 o1 s1 t1 ⟨h0,h1,h2,h3⟩=>
   ⟨xs,M1,h0,o1,s1,h1,fun x M' v H' p st oa si=>k v H' x M' oa si (t1.trans st) (h2 x M' p),fun cls fs M' dd H' p st oa xi=>k5 ρ cls fs M' σ dd H' ((Rl.step o1 t1).step oa st) (t1.trans st) xi (h3 cls fs M' p)⟩
theorem jS (h:DEx K R ta ρ M D.rt DX):DXt K R (qU ta) ρ M D DX:=fun σ H E Rl _ k2 _ _ k5=>h σ H E.rt Rl (fun v H' x M' a b c q=>k2 v H' x M' a b c q) k5
end
section
variable {P:Program}{w:World}{K:Frg}{mg:Str->Option Value}{base:Heap}
theorem o9 {n:Nat}{S:FSpX}:∀vs H Q E,spX K n S vs H Q E->vs.length=n:=fun vs H Q E ⟨xs,M,hl,_,h,_⟩=>by rw[h.length,hl]
theorem wC {x qual:Str}{st:Stmt}{f:Addr}{fd:FuncData}{N ps:List Str}{k:Nat}{S:FSpX}(F:Fun K x qual st f fd) (Sc:FnScope N ps (AB st))
   (hbody:∀(cdv:Value) (A:Around) (outer:List Env) (s:Shared) (H:Hp) (E:XK),Room k (A.deeper (envOfC qual (AB st) s.heap.objs.size f cdv)) ->
     ∃t,PSs ((LO (CXE P w) P w K mg base N qual (AB st) f cdv A outer s H E).wish (Fly (LO (CXE P w) P w K mg base N qual (AB st) f cdv A outer s H E) fun _=>E)) (BZ st) t /\
       ∀xs M,xs.length=ps.length->S.pre xs M->DXt K (fun _=>E) t (PV N xs) M { nx:=fun _ M1=>∃M2:Own,M2.Sub M1/\S.post xs M (.d .none) M2,rt:=fun y M1=>∃M2:Own,M2.Sub M1/\S.post xs M y M2 } fun _ cls fs M1=>∃M2:Own,M2.Sub M1/\S.xpost xs M cls fs M2) :
   FnOk P w K mg base (CXE P w) (k+1) f fd ps (spX K ps.length S):=by
 refine xL F Sc o9 fun cdv A outer s H vs Q E hr h=>?_
 obtain⟨t,ht,hq⟩:=hbody cdv A outer s H E hr
 obtain⟨xs,M,hl,oa,si,pre,post,xpost⟩:=h
 refine⟨t,ht,hq xs M hl pre (L2.G6 N vs) H _ (SV oa si) ?_ ?_ (fun _ _ _ _ _ _ z=>z.elim) (fun _ _ _ _ _ _ z=>z.elim) ?_⟩
 · rintro ρ' M1 σ' H' R st ⟨M2,hs,p⟩
   exact post (.d .none) M2 .non H' p (st.trans ⟨B1 hs⟩) (R.own.sub hs) (by unfold SI DV;rfl)
 · rintro v H' y M1 o s1 st ⟨M2,hs,p⟩
   exact post y M2 v H' p (st.trans ⟨B1 hs⟩) (o.sub hs) (s1.sub hs)
 · rintro ρ' cls fs M1 σ' dd H' R st xi ⟨M2,hs,p⟩
   exact xpost cls fs M2 dd H' p (st.trans ⟨B1 hs⟩) (R.own.sub hs) (xi.sub hs)
structure HasX (P:Program) (w:World) (K:Frg) (mg:Str->Option Value) (base:Heap) (x:Str) (k:Nat) (ps:List Str) (S:FSpX):Prop where
 ex:∃f fd,FnOk P w K mg base (CXE P w) k f fd ps (spX K ps.length S)/\mg x=some (.ref f)/\a5Q K (.ref f)=true/\Binds K fd ps []
theorem eG {X:Cx}{R:Rx}{x:Str}{k:Nat}{ps:List Str}{S:FSpX}{e:Expr}{es:List Expr}{t:TA}{p pos:Pos}(h:HasX X.prog X.w X.K X.mg X.base x k ps S) (hr:Room k X.A) (hg:Gl X x) (ha:PA (X.wish (Fly X R)) (e::es) t)
   (hdb:(x==("__debug__":Str))=false:=by decide) (he:starEach (e::es) X.env=(false,eval e X.env)::starEach es X.env:=by rfl) (hpl:(backTo pos (starEach es X.env)).any (·.1)=false:=by rfl) :
   PE (X.wish (Fly X R)) (.Call (.Name x p) (e::es) [] pos) (UO (spX X.K ps.length S) R t):=by
 obtain⟨f,fd,F,hm,hk,hb⟩:=h.ex
 exact jM F hr hg hm hk hb ha hdb he hpl
end
end DL
namespace DL
open PySem PySem.Spec L2 XC
open PyProof.Rows (envOfC AllBare)
def jT (k:Nat):Stmt->Stmt
 | .ClassDef _ _ _ b _ _ _ _ _ _ _=>b.getD k (.Pass ⟨0,0,0,0⟩)
 | _=>.Pass ⟨0,0,0,0⟩
section
variable {P:Program}{w:World}{K:Frg}{mg:Str->Option Value}{base:Heap}
theorem u5 (X:Cx) (R:Rx) {x:Str}{k:Nat}{ps:List Str}{S:FSpX}{e:Expr}{es:List Expr}{t:TA}{p pos:Pos}(hK:X.K=K) (hP:X.prog=P) (hw:X.w=w) (hmg:X.mg=mg) (hbs:X.base=base)
   (h:HasX P w K mg base x k ps S) (hr:Room k X.A) (hg:Gl X x) (ha:PA (X.wish (Fly X R)) (e::es) t)
   (hdb:(x==("__debug__":Str))=false:=by decide) (he:starEach (e::es) X.env=(false,eval e X.env)::starEach es X.env:=by rfl) (hpl:(backTo pos (starEach es X.env)).any (·.1)=false:=by rfl) :
   PE (X.wish (Fly X R)) (.Call (.Name x p) (e::es) [] pos) (UO (spX K ps.length S) R t):=by
 subst hK hP hw hmg hbs
 exact eG h hr hg ha hdb he hpl
structure HasR (P:Program) (w:World) (K:Frg) (mg:Str->Option Value) (base:Heap) (x fn:Str) (C S:Addr):Prop where
 ex:∃(f:Addr) (fd:FuncData) (ps:List Str),XCls K C S (.ref f)/\PySem.W.isFn K (.ref f)=true/\FnOk P w K mg base CX0 1 f fd ps (QG C fn)/\Binds K fd ps []/\mg x=some (.ref C)
theorem oB (X:Cx) (R:Rx) {x fn:Str}{C S:Addr}{arg:Expr}{t:TA}{np cpos pos:Pos}(hK:X.K=K) (hP:X.prog=P) (hw:X.w=w) (hmg:X.mg=mg) (hbs:X.base=base)
   (h:HasR P w K mg base x fn C S) (hr:Room 2 X.A) (hg:Gl X x) (ha:PA (X.wish (Fly X R)) [arg] t) (hdb:(x==("__debug__":Str))=false:=by decide) (he:starEach [arg] X.env=[(false,eval arg X.env)]:=by rfl) :
   PS (X.wish (Fly X R)) (.Raise (some (.Call (.Name x np) [arg] [] cpos)) none pos) (UP C fn R t):=by
 subst hK hP hw hmg hbs
 obtain⟨f,fd,ps,c,hf,F,hb,hm⟩:=h.ex
 exact e9 c hf F hb hr hg hm ha hdb he
theorem oE {qual fn pn:Str}{st:Stmt}{f C S:Addr}{fd:FuncData}{p1 p2 p3 p4:Pos}(F:Fun K "__init__" qual st f fd) (Sc:FnScope ["self", pn] ["self", pn] (AB st)) (hb:BZ st=[.Assign [.Attribute (.Name "self" p1) fn p2] (.Name pn p3) p4])
   (c:XCls K C S (.ref f)) (cs:XSet K C fn) (nd:(["self", pn]:List Str).Nodup) (hs:∀env:Env,swapsWith (.Name pn p3) (some (.Attribute (.Name "self" p1) fn p2)) p4.line env=pure false)
   (h0:∀X:Cx,X.N=(["self", pn]:List Str)->X.env.scope=AB st->PE X (.Name "self" p1) (cF 0)) (h1:∀X:Cx,X.N=(["self", pn]:List Str)->X.env.scope=AB st->PE X (.Name pn p3) (cF 1)):FnOk P w K mg base CX0 1 f fd ["self", pn] (QG C fn):=by
 refine F.ok Sc (fun vs H Q E ⟨e,v,t,h,_⟩=>by rw[h];rfl) fun cdv A outer s H vs Q E hr ⟨e,v,t,ev,he,hq⟩=>?_
 subst ev
 rw[hb]
 refine⟨_,TL (o0 (C:=C) (S:=S) (fn:=fn) c cs (h0 _ rfl rfl) (h1 _ rfl rfl) (hs _)),?_⟩
 exact⟨v,rfl,.ref e,rfl,e,t,rfl,he,fun d hd hne=>hq d hd hne⟩
end
end DL
namespace L2
open PySem PySem.Spec PyProof.Rows
def Ite (K:Frg) (l:Addr):It:=
 ⟨fun i H=>∃xs,SqL K H l xs/\i < xs.length,
  fun i H x H'=>∃p a,H p=none/\x = .ref p/\H'=upd H p (.tup [.int (i:Nat),a])/\∀xs,SqL K H l xs->xs[i]?=some a,
  fun i H=>∃xs,SqL K H l xs/\xs.length<=i⟩
theorem eI {P:Program}{w:World}{K:Frg}{elts:List Expr}{kk:Nat}{tpos:Pos}(e it l:Addr) (d1:e≠it) :
   Turn P w K (.Tuple elts kk tpos) (Ite K l) [e,it] e (fun i h=>(∃old,IsEnum h e it (i:Nat) old)/\h.IsListIter it l i) where
 mem:=by simp
 obj:=fun i h ⟨⟨old,a1⟩,a2⟩ b hb=>by
   simp only[yX,xX,or_false] at hb
   rcases hb with rfl | rfl
   · exact⟨_,a1,fun v q=>by cases q⟩
   · obtain⟨o,q,c,d⟩:=a2;exact⟨o,q,fun v z=>by rw[d] at z;cases z⟩
 keep:=fun i h h' ⟨⟨old,a1⟩,a2⟩ k=>⟨⟨old,k e (by simp) _ a1⟩,a2.at fun o q=>k it (by simp) o q⟩
 item:=by
   intro X hP hw hK hc i pins s σ H E I hf ⟨⟨old,a1⟩,a2⟩ hg
   subst hP hw hK
   obtain⟨xs,hx,lx⟩:=hg
   obtain⟨its,rx,px,_⟩:=I.list hx
   obtain⟨u,hu,ru⟩:=rx.get (zV lx)
   have hle:l≠e:=pV I (hf e (by simp)) hx
   have hli:l≠it:=pV I (hf it (by simp)) hx
   refine wpAny_pyNext_enum_item a1 a2 px.isList (x:=u) (by simpa using hu) d1 fun h' b1 b2 b3 b4 hk=>?_
   refine⟨_,rfl,wpAny_letOwnedTupleGo_enum (s:={ s with heap:=h',toks:=s.toks+1 }) b1 fun h2 c1 sb=>?_⟩
   have lt:∀{c o},s.heap.get? c=some o->s.heap.objs.size≠c:=fun q=>a8Z (zM q)
   have keep:∀b o,b∉[e,it]->s.heap.get? b=some o->h2.get? b=some o:=fun b o hb q=>by
     simp only[yX,xX,or_false,not_or] at hb
     exact sb.extBut b o hb.1 (hk b o hb.1 hb.2 q)
   have hTe:s.heap.objs.size≠e:=lt a1
   have I1:Inv X pins σ (upd H s.heap.objs.size (.tup [.int (i:Nat),xs[i]])) { s with heap:=h2,toks:=s.toks+1 }:=I.turnedT (t':=s.toks+1) (ch:=[e,it]) keep (fun b hb=>(hf b hb).1)
     (fun b hb=>let q:=hf b hb;⟨q.2.2.2.1,q.2.1,q.2.2.2.2.1,q.2.2.2.2.2⟩) (zR _)
     ⟨by show 2<=sizeLine;decide,[.int (i:Nat) s.toks,u],.cons ⟨_,rfl⟩ (.cons ru .nil),⟨_,sb.extBut _ _ hTe b3,rfl,_,rfl⟩⟩
   refine⟨.ref s.heap.objs.size,_,I1,rfl,⟨s.heap.objs.size,xs[i],I.hok.fresh (zR _),rfl,rfl,fun xs' hx'=>?_⟩,⟨⟨_,c1⟩,b2.extBut sb.extBut (b4K d1)⟩,fun b hb=>?_⟩
   · rw[I.list_inj hx' hx]
     exact zV lx
   · have hlt:s.heap.objs.size≠b:=by
       simp only[yX,xX,or_false] at hb
       rcases hb with rfl | rfl
       · exact lt a1
       · obtain⟨o,q,_⟩:=a2;exact lt q
     rw[AJ (b4K hlt)]
     exact(hf b hb).1
 done:=by
   intro X hP hw hK hc i pins s σ H E I hf ⟨⟨old,a1⟩,a2⟩ hg
   subst hP hw hK
   obtain⟨xs,hx,hend⟩:=hg
   obtain⟨its,rx,px,_⟩:=I.list hx
   have e1:=rx.length
   refine wpAny_pyNext_enum_end (I.ok.hd hc) a1 a2 px.isList (by rw[c0K];simp;omega) fun h' hk=>⟨rfl,I.turnedL (t':=s.toks) (ch:=[e,it]) (fun b o hb q=>?_) (fun b hb=>(hf b hb).1) fun b hb=>let q:=hf b hb;⟨q.2.2.2.1,q.2.1,q.2.2.2.2.1,q.2.2.2.2.2⟩⟩
   simp only[yX,xX,or_false,not_or] at hb
   exact hk b o hb.2 q
 self:=fun _ _ _ _ _ st h=>let ⟨_,q⟩:=st.1;wpAny_pyIter_enum q h
section
variable {X:Cx}{K:Frg}
def jU (K:Frg) (ta:TA):TI:=fun σ H R=>ta σ H fun vs H1=>∃a,vs=[.ref a]/\(∃xs,SqL K H1 a xs)/\R (Ite K a) H1
theorem oF {a:Expr}{ta:TA}{p pos:Pos}{elts:List Expr}{kk:Nat}{tpos:Pos}(hg:Gl X "enumerate") (hm:X.mg "enumerate"=none) (ha:PA X [a] ta) (hs:starEach [a] X.env=[(false,eval a X.env)]:=by rfl) :
   PI X (.Tuple elts kk tpos) (.Call (.Name "enumerate" p) [a] [] pos) (jU X.K ta):=by
 intro pins s σ H R I h
 refine Call_ (HK I hg hm boot_enumerate (xH (thn (ha pos pins s σ H _ I h) fun us s1 ⟨vs,H1,I1,r1,q1⟩=>?_) hs rfl))
 obtain⟨l,e,⟨xs,hx⟩,q⟩:=q1
 subst e
 obtain⟨u,rfl,ru⟩:=F4 r1
 cases ru
 obtain⟨its,rx,px,_⟩:=I1.list hx
 refine call_enumerate_list px.isList fun h' b1 b2 b3 hk=>?_
 refine wpAny_pyIter_enum (s:={ s1 with heap:=h' }) b1 ?_
 refine⟨s1.heap.objs.size+1,[s1.heap.objs.size+1,s1.heap.objs.size],_,_,H1,rfl,I1.kept (t':=s1.toks) hk,eI (s1.heap.objs.size+1) s1.heap.objs.size l (Nat.succ_ne_self _),⟨⟨_,b1⟩,b2⟩,fun b hb=>?_,q⟩
 have hle:s1.heap.objs.size<=b:=by
   simp only[yX,xX,or_false] at hb
   rcases hb with rfl | rfl
   · exact a8Q _ _
   · exact zR _
 exact I1.fpOk hle (I1.hok.fresh hle)
theorem wE {a:Expr}{ta:TA}{p pos:Pos}{elts:List Expr}{kk:Nat}{tpos:Pos}(h:X.K=K) (hg:Gl X "enumerate") (hm:X.mg "enumerate"=none) (ha:PA X [a] ta) (hs:starEach [a] X.env=[(false,eval a X.env)]:=by rfl) :
   PI X (.Tuple elts kk tpos) (.Call (.Name "enumerate" p) [a] [] pos) (jU K ta):=h▸oF hg hm ha hs
end
end L2
namespace DL
open PySem PySem.Spec L2
section
variable {K:Frg}{M:Own}{ρ:List (Option DS)}{QI:List PyData->Own->Prop}
def QH (as:List PyData):List PyData:=as.zipIdx.map fun p=>.tuple [.int (p.2:Nat),p.1]
theorem oG {ta:TA}(h:DA K ta ρ M fun xs M1=>∃as,xs=[.d (.list as)]/\QI (QH as) M1):DI K (jU K ta) ρ M QI:=fun σ H R Rl k=>
 h σ H _ Rl fun vs H1 xs M1 o1 s1 t1 ⟨as,e,q⟩=>by
   subst e
   obtain⟨v,r,rfl,h1,h3⟩:=s1
   cases h3
   unfold SI DV at h1
   obtain⟨a,va,rfl,hl,hd⟩:=h1
   have hlen:(QH as).length=as.length:=by unfold QH;rw[zX,List.length_zipIdx]
   refine⟨a,rfl,⟨va,hl.sq⟩,k _ (QH as) H1 M1 o1 t1 ⟨fun i H' M' hi oa st=>?_,fun H' M' oa st=>?_,fun i H' M' x H2 oa st hi y=>?_⟩ q⟩
   · rw[hlen] at hi
     exact⟨va,(hl.grow st.grow).sq,by rw[hd.length];omega⟩
   · refine⟨va,(hl.grow st.grow).sq,?_⟩
     rw[hlen,hd.length];omega
   · obtain⟨p,xa,hp,rfl,rfl,hy⟩:=y
     have e1:=hy va (hl.grow st.grow).sq
     obtain⟨da,f1,f2⟩:=hd.get e1
     have gg:Grow K M'.W M'.W H' (upd H' p (.tup [.int (i:Nat),xa])):=AY _ hp
     refine⟨oa.new hp,⟨gg⟩,.tuple [.int (i:Nat),da],?_,?_⟩
     · unfold QH
       rw[zF,List.getElem?_zipIdx,f1]
       simp
     · unfold DV
       exact⟨p,_,rfl,.inl ⟨fun w=>w (oa.none hp),.inl AI⟩,DVs.cons (by unfold DV;rfl) (DVs.cons ((f2.grow st.grow).grow gg) DVs.nil)⟩
end
end DL
namespace L2
open PySem PySem.Spec PyProof.Rows
section
variable {X:Cx}
def ZK (K:Frg) (neg:Bool):R2:=fun x y H Q=>∃(W:Addr->Prop) (d:PyData) (ds:List PyData),DV K H W d x/\zH d=true/\((DV K H W (.list ds) y/\zH (.list ds)=true)∨(DV K H W (.tuple ds) y/\zH (.tuple ds)=true)) /\
 Q (.bl (if neg then !(ds.any fun e=>a0X e d) else ds.any fun e=>a0X e d)) H
theorem QJ {A:Around}{d:PyData}{ds:List PyData}(hu:A.units+64 < cLine) (h:a1Z ds+1<=64):A.units+1+min (a1Z ds) d.depth < cLine:=by
 have:=Nat.min_le_left (a1Z ds) d.depth
 omega
theorem u6 (hu:X.A.units+64 < cLine):OpR X (compareOp .In) (ZK X.K false):=by
 intro pins s σ H x y v u Q I rx ry h
 obtain⟨W,d,ds,h1,s1,⟨h2,s2⟩ | ⟨h2,s2⟩,q⟩:=h
 all_goals
   obtain⟨as,r1⟩:=h1.reads I (zG s1) rx
   obtain⟨bs,r2⟩:=h2.reads I (zG s2) ry
   have dep:=b4X s2
 · exact PySem.SeqAt.in_list_reads r2 r1 (zG s2) (zG s1) (QJ hu dep) ⟨.bl _,H,I,rfl,q⟩
 · exact PySem.SeqAt.in_tuple_reads r2 r1 (zG s2) (zG s1) (QJ hu dep) ⟨.bl _,H,I,rfl,q⟩
theorem eJ (hu:X.A.units+64 < cLine):OpR X (compareOp .NotIn) (ZK X.K true):=by
 intro pins s σ H x y v u Q I rx ry h
 obtain⟨W,d,ds,h1,s1,⟨h2,s2⟩ | ⟨h2,s2⟩,q⟩:=h
 all_goals
   obtain⟨as,r1⟩:=h1.reads I (zG s1) rx
   obtain⟨bs,r2⟩:=h2.reads I (zG s2) ry
   have dep:=b4X s2
 · exact PySem.SeqAt.notIn_list_reads r2 r1 (zG s2) (zG s1) (QJ hu dep) ⟨.bl _,H,I,rfl,q⟩
 · exact PySem.SeqAt.notIn_tuple_reads r2 r1 (zG s2) (zG s1) (QJ hu dep) ⟨.bl _,H,I,rfl,q⟩
end
end L2
namespace DL
open PySem PySem.Spec L2
section
variable {X:Cx}{K:Frg}
theorem eL (h:X.K=K) (hu:X.A.units+64 < cLine):OpR X (compareOp .In) (ZK K false):=h▸u6 hu
theorem P7 (h:X.K=K) (hu:X.A.units+64 < cLine):OpR X (compareOp .NotIn) (ZK K true):=h▸eJ hu
end
section
variable {K:Frg}{M:Own}{ρ:List (Option DS)}{g:TG}{wi:TI}{Q:DS->Own->Prop}
theorem UQ {neg:Bool}{d:PyData}{ds:List PyData}(s1:zH d=true) (s2:zH (.list ds)=true) (q:Q (.d (.bool (if neg then !(ds.any fun e=>a0X e d) else ds.any fun e=>a0X e d))) M):D2 K (ZK K neg) (.d d) (.d (.list ds)) M Q:=fun H v u QQ oa h1 h2 k=>
 ⟨M.W,d,ds,h1,s1,.inl ⟨h2,s2⟩,k _ H _ M oa AK Step.refl q⟩
end
end DL
namespace L2
open PySem PySem.Spec PyProof.Rows
def jV (K:Frg):V->List V->Hp->VK->Prop:=fun x xs H Q=>∃(W:Addr->Prop) (d:PyData) (ds:List PyData) (y:V) (j:Nat),xs=[y]/\DV K H W (.list ds) x/\zH (.list ds)=true/\DV K H W d y/\zH d=true/\ds.findIdx? (fun e=>a0X e d)=some j/\j < 1000000/\Q (.int (j:Nat)) H
theorem oH {X:Cx}(hu:X.A.units+64 < cLine):MtR X "list.index" (jV X.K):=by
 intro pins s σ H v vs v' us Q I rx rv h
 obtain⟨W,d,ds,y,j,rfl,h2,s2,h1,s1,hj,hsm,q⟩:=h
 obtain⟨u,rfl,ru⟩:=F4 rv
 obtain⟨as,r1⟩:=h1.reads I (zG s1) ru
 obtain⟨bs,r2⟩:=h2.reads I (zG s2) rx
 have dep:=b4X s2
 have c2:=zG s2
 cases r2 with
 | @list l o items n _ _ g1 g2 g3 g4=>
   obtain⟨cls,dd,data,sl⟩:=o
   simp only at g2 g3
   subst g2 g3
   have hm:=PySem.SeqAt.readsAll_map ds _ _ c2 g4
   obtain⟨hlt,hit,hno⟩:=List.findIdx?_eq_some_iff_getElem.mp hj
   have hsz:items.size=ds.length:=by rw[← hm,zX,a4K]
   have key:∀m (hm':m < items.size),a0X (b1Z s.heap items[m]) d=a0X (ds[m]'(by omega)) d:=fun m hm'=>by
     have:ds[m]'(by omega)=b1Z s.heap items[m]:=by
       simp only[← hm,List.getElem_map,Array.getElem_toList]
     rw[this]
   refine call_meets PySem.F.slot_list_index ⟨_,g1,rfl⟩ PySem.F.entry_list_index (PySem.F.args_list_index_2 _ _)
     (PySem.SeqAt.list_indexAt l items n dd sl u (fun y=>a0X (b1Z s.heap y) d) j (by omega) (by omega) ?_ ?_) ⟨g1,PySem.SeqAt.items_eqAt g4 r1 c2 (zG s1) (QJ hu dep),.int (j:Nat),H,I.tok _,⟨_,rfl⟩,q⟩
   · show a0X (b1Z s.heap items[j]) d=true
     rw[key j (by omega)];exact hit
   · intro m hm' hlt'
     show a0X (b1Z s.heap items[m]) d=false
     rw[key m hm'];simpa using hno m hlt'
end L2
namespace DL
open PySem PySem.Spec L2
theorem wF {X:Cx}{K:Frg}(h:X.K=K) (hu:X.A.units+64 < cLine):MtR X "list.index" (jV K):=h▸oH hu
section
variable {K:Frg}{M:Own}{Q:DS->Own->Prop}{H:Hp}
theorem jW {ds:List PyData}:DTy K "list" (.d (.list ds)) M:=fun H v _ s=>by
 unfold SI DV at s
 obtain⟨a,vs,rfl,hl,hd⟩:=s
 exact .inl ⟨rfl,vs,hl.sq⟩
theorem oI {ds:List PyData}{d:PyData}{j:Nat}(s2:zH (.list ds)=true) (s1:zH d=true) (hj:ds.findIdx? (fun e=>a0X e d)=some j) (hs:j < 1000000) (q:Q (.d (.int (j:Nat))) M):DM K (jV K) (.d (.list ds)) [.d d] M Q:=fun H v vs QQ oa h1 h2 k=>by
 obtain⟨v2,r,rfl,h3,h4⟩:=h2
 cases h4
 exact⟨M.W,d,ds,v2,j,rfl,h1,s2,h3,s1,hj,hs,k _ H _ M oa CI Step.refl q⟩
end
end DL
namespace DL
open PySem PySem.Spec L2 XC
theorem HasX.calm {P:Program}{w:World}{K:Frg}{mg:Str->Option Value}{base:Heap}{x:Str}{k:Nat}{ps:List Str}{S:FSpX}{S':FSp}(h:HasX P w K mg base x k ps S)
   (hp:∀xs M,S'.pre xs M->S.pre xs M/\(∀y M',S.post xs M y M'->S'.post xs M y M')/\∀cls fs M',¬S.xpost xs M cls fs M'):Has P w K mg base x k ps S':=by
 obtain⟨f,fd,F,hm,hk,hb⟩:=h.ex
 refine⟨f,fd,⟨aV,fun A outer s H args us vs Q E hr he hbt hv hs=>?_⟩,hm,hk,hb⟩
 obtain⟨xs,M,h0,oa,si,pre,q⟩:=hs
 obtain⟨g1,g2,g3⟩:=hp xs M pre
 refine xN (F.run A outer s H args us vs Q (fun _ _ _=>False) hr he hbt hv ⟨xs,M,h0,oa,si,g1,fun y M' v H' p1=>q y M' v H' (g2 y M' p1),fun cls fs M' dd H' p1=>absurd p1 (g3 cls fs M')⟩) fun r s' hr'=>?_
 cases r with
 | ok z=>cases z <;> first | exact hr' | exact hr'.elim
 | error e=>
   obtain⟨_,_,_,_,_,_,_,_,_,_,_,_,_,_,_,_,hf⟩:=hr'
   exact hf.elim
end DL
namespace DL
open PySem PySem.Spec L2
def G0:List Str->List Str->List Deed->Prop
 | _,_,[]=>True
 | so,sp,D::r=>GR so D=none/\(∀n,D.made=some n->sp.head?=some n)/\D.real/\G0 (CW so D) (CC sp D) r
def O0:List Str->List Str->List Deed->List Str×List Str
 | so,sp,[]=>(so,sp)
 | so,sp,D::r=>O0 (CW so D) (CC sp D) r
theorem LE:∀{Ds:List Deed}{so sp so' sp':List Str}{D:Deed},G0 so sp Ds->O0 so sp Ds=(so',sp')->GR so' D=none->(∀n,D.made=some n->sp'.head?=some n)->D.real->G0 so sp (Ds++[D])/\O0 so sp (Ds++[D])=(CW so' D,CC sp' D)
 | [],so,sp,so',sp',D,_,e,h1,h2,h3=>by
   cases e
   exact⟨⟨h1,h2,h3,trivial⟩,rfl⟩
 | F::r,so,sp,so',sp',D,h,e,h1,h2,h3=>by
   obtain⟨g1,g2⟩:=LE (Ds:=r) h.2.2.2 e h1 h2 h3
   exact⟨⟨h.1,h.2.1,h.2.2.1,g1⟩,g2⟩
def Deed.must (D:Deed):List Str:=D.names.filter fun n=>decide (¬D.made=some n)
theorem UR (D:Deed):WQ D.d=D.must:=by
 unfold WQ Deed.must
 rw[WO]
 apply b8V
 intro n _
 rw[UL]
 cases h:D.made with
 | none=>rfl
 | some x=>
   show(!a0X (.str n) (.str x))=decide (¬some x=some n)
   rw[CJ]
   by_cases e:n=x
   · subst e;simp
   · have:¬x=n:=fun q=>e q.symm
     simp[e,this]
def mkN (Ds:List Deed) (j:Nat):Option Str:=(Ds[j]?).bind Deed.made
def CZ (Ds:List Deed) (k:Nat):List Str:=match Ds[k]? with | some D=>D.must | none=>[]
structure FreshD (Ds:List Deed):Prop where
 one:∀i j x,mkN Ds i=some x->mkN Ds j=some x->i=j
 bef:∀j k x,mkN Ds j=some x->x∈CZ Ds k->j < k
theorem K0 (sp:List Str) (D:Deed):(CC sp D).Sublist sp:=by
 unfold CC
 split
 · exact List.drop_sublist _ _
 · exact a3K _
theorem NL:∀(Ds:List Deed) (so sp:List Str),G0 so sp Ds->(so++sp).Nodup->(∀j x,mkN Ds j=some x->x∈sp)/\FreshD Ds
 | [],so,sp,_,_=>⟨fun j x h=>by simp[mkN] at h,fun i j x h=>by simp[mkN] at h,fun j k x h=>by simp[mkN] at h⟩
 | D::r,so,sp,h,nd=>by
   obtain⟨h1,h2,_,h3⟩:=h
   have nd2:(CW so D++CC sp D).Nodup:=nd.sublist (H0 h2)
   obtain⟨i1,i2⟩:=NL r _ _ h3 nd2
   have sub:=(K0 sp D).subset
   have m0:∀x,mkN (D::r) 0=some x->D.made=some x:=fun x h=>h
   have in0:∀x,D.made=some x->x∈sp:=fun x e=>List.mem_of_mem_head? (h2 x e)
   have all:∀j x,mkN (D::r) j=some x->x∈sp:=fun j x e=>by
     cases j with
     | zero=>exact in0 x e
     | succ j=>exact sub (i1 j x e)
   have dis:∀x,x∈so->x∈sp->False:=fun x a b=>(List.nodup_append.mp nd).2.2 x a x b rfl
   refine⟨all,fun i j x e1 e2=>?_,fun j k x e1 e2=>?_⟩
   · have two:∀j,D.made=some x->mkN r j=some x->False:=fun j a b=>by
       have q1:=i1 j x b
       have q2:=h2 x a
       unfold CC at q1
       rw[a] at q1
       dsimp only at q1
       have nsp:sp.Nodup:=(List.nodup_append.mp nd).2.1
       cases sp with
       | nil=>simp at q2
       | cons y ys=>
         have:y=x:=by simpa using q2
         subst this
         exact(xV.mp nsp).1 (by simpa using q1)
     cases i with
     | zero=>
       cases j with
       | zero=>rfl
       | succ j=>exact(two j e1 e2).elim
     | succ i=>
       cases j with
       | zero=>exact(two i e2 e1).elim
       | succ j=>rw[i2.one i j x e1 e2]
   · cases k with
     | zero=>
       have hm:x∈D.must:=e2
       obtain⟨a,b⟩:=yL.mp hm
       have b':¬D.made=some x:=of_decide_eq_true b
       exact(dis x (j6 h1 a b') (all j x e1)).elim
     | succ k=>
       cases j with
       | zero=>exact Nat.succ_pos _
       | succ j=>exact Nat.succ_lt_succ (i2.bef j k x e1 e2)
theorem P8:∀{l1 l2:List Int},l1.Pairwise (· < ·)->l2.Pairwise (· < ·)->(∀a,a∈l1↔a∈l2)->l1=l2
 | [],[],_,_,_=>rfl
 | [],b::r,_,_,h=>absurd ((h b).mpr (by simp)) (by simp)
 | a::r,[],_,_,h=>absurd ((h a).mp (by simp)) (by simp)
 | a::r,b::s,h1,h2,h=>by
   rw[List.pairwise_cons] at h1 h2
   have e:a=b:=by
     rcases yX.mp ((h a).mp (by simp)) with q | q
     · exact q
     · rcases yX.mp ((h b).mpr (by simp)) with q2 | q2
       · exact q2.symm
       · have:=h1.1 b q2;have:=h2.1 a q;omega
   subst e
   rw[P8 h1.2 h2.2 fun x=>?_]
   constructor
   · intro hx
     rcases yX.mp ((h x).mp (yV _ hx)) with q | q
     · have:=h1.1 x hx;omega
     · exact q
   · intro hx
     rcases yX.mp ((h x).mpr (yV _ hx)) with q | q
     · have:=h2.1 x hx;omega
     · exact q
theorem jX {l:List Int}(h:l.Pairwise (·<=·)) (nd:l.Nodup):l.Pairwise (· < ·):=by
 have:=h.and nd
 exact this.imp fun {a b} q=>by obtain⟨q1,q2⟩:=q;omega
def EB (l:List Nat):List Int:=l.map fun j:Nat=>(j:Int)
theorem M0 {l:List Nat}(h:l.Pairwise (· < ·)):(EB l).Pairwise (· < ·):=by
 unfold EB;rw[a5V];exact h.imp fun {a b} q=>by omega
theorem BN {l:List Nat}{x:Int}:x∈EB l↔∃j,j∈l/\x=(j:Int):=by
 unfold EB
 rw[zL]
 constructor
 · rintro⟨j,a,b⟩;exact⟨j,a,b.symm⟩
 · rintro⟨j,a,b⟩;exact⟨j,a,b.symm⟩
theorem eO (n:Nat):(a0V n).Pairwise (· < ·):=List.pairwise_lt_range
def NM (Ds:List Deed) (k j:Nat):Bool:=match mkN Ds j with | some x=>decide (x∈CZ Ds k) | none=>false
def BU (Ds:List Deed) (k:Nat):List Nat:=(a0V k).filter fun j=>NM Ds k j
theorem jY (Ds:List Deed) (k:Nat):(BU Ds k).Pairwise (· < ·):=(eO k).filter _
theorem DO {Ds:List Deed}{k j:Nat}(h:j∈BU Ds k):j < k:=List.mem_range.mp (yL.mp h).1
def mkL (Ds:List Deed) (o:Nat):List (Str×PyData):=match Ds with
 | []=>[]
 | D::r=>(match D.made with | some x=>[(x,a3Q (o:Nat))] | none=>[])++mkL r (o+1)
theorem K1:∀(Ds:List Deed) (o:Nat),(∀i j x,mkN Ds i=some x->mkN Ds j=some x->i=j)->∀x,B8 (mkL Ds o) x=none/\(∀j,¬mkN Ds j=some x)∨∃j,mkN Ds j=some x/\B8 (mkL Ds o) x=some (.int ((o+j:Nat):Int))
 | [],o,_,x=>.inl ⟨rfl,fun j=>by simp[mkN]⟩
 | D::r,o,h,x=>by
   have ih:=K1 r (o+1) (fun i j y a b=>Nat.succ.inj (h (i+1) (j+1) y a b)) x
   cases hm:D.made with
   | none=>
     have e:mkL (D::r) o=mkL r (o+1):=by rw[mkL,hm];rfl
     rw[e]
     rcases ih with ⟨a,b⟩ | ⟨j,a,b⟩
     · refine .inl ⟨a,fun j q=>?_⟩
       cases j with
       | zero=>have:D.made=some x:=q;rw[hm] at this;cases this
       | succ j=>exact b j q
     · exact .inr ⟨j+1,a,by rw[b];congr 2;omega⟩
   | some y=>
     have e:mkL (D::r) o=(y,a3Q (o:Nat))::mkL r (o+1):=by rw[mkL,hm];rfl
     rw[e]
     by_cases q:y=x
     · subst q
       exact .inr ⟨0,hm,by simp[B8]⟩
     · rcases ih with ⟨a,b⟩ | ⟨j,a,b⟩
       · refine .inl ⟨by simp[B8,q,a],fun j p=>?_⟩
         cases j with
         | zero=>have:D.made=some x:=p;rw[hm] at this;exact q (Option.some.inj this)
         | succ j=>exact b j p
       · exact .inr ⟨j+1,a,by simp only[B8];rw[if_neg q,b];congr 2;omega⟩
theorem QK:∀(Ds:List Deed) (o:Nat) (x:Str),x∈(mkL Ds o).map (·.1)->∃j,mkN Ds j=some x
 | [],o,x,h=>by simp[mkL] at h
 | D::r,o,x,h=>by
   rw[mkL,xI] at h
   rcases yW.mp h with h | h
   · cases hm:D.made with
     | none=>rw[hm] at h;simp at h
     | some y=>
       rw[hm] at h
       have:x=y:=by simpa using h
       subst this;exact⟨0,hm⟩
   · obtain⟨j,e⟩:=QK r (o+1) x h
     exact⟨j+1,e⟩
theorem T6:∀(Ds:List Deed) (o:Nat),(∀i j x,mkN Ds i=some x->mkN Ds j=some x->i=j)->((mkL Ds o).map (·.1)).Nodup
 | [],o,_=>by simp[mkL]
 | D::r,o,h=>by
   have ih:=T6 r (o+1) fun i j y a b=>Nat.succ.inj (h (i+1) (j+1) y a b)
   cases hm:D.made with
   | none=>rw[mkL,hm];exact ih
   | some y=>
     rw[mkL,hm]
     show(y::(mkL r (o+1)).map (·.1)).Nodup
     rw[xV]
     refine⟨fun hy=>?_,ih⟩
     obtain⟨j,e⟩:=QK r (o+1) y hy
     have:=h 0 (j+1) y hm e
     omega
theorem jZ {Ds:List Deed}(hf:FreshD Ds) {k:Nat}{D:Deed}(hD:Ds[k]?=some D) (nd:D.must.Nodup) {L ss:List Int}(hL:L=(D.must.filter fun n=>(B8 (mkL Ds 0) n).isSome).map fun n=>match B8 (mkL Ds 0) n with | some (.int i)=>i | _=>0) (hp:ss.Perm L) (hs:ss.Pairwise (·<=·)):ss=EB (BU Ds k):=by
 have val:∀n j,mkN Ds j=some n->B8 (mkL Ds 0) n=some (.int (j:Int)):=fun n j e=>by
   rcases K1 Ds 0 hf.one n with ⟨_,b⟩ | ⟨i,a,b⟩
   · exact absurd e (b j)
   · rw[hf.one j i n e a,b,b7V]
 have ex:∀n,(B8 (mkL Ds 0) n).isSome=true->∃j,mkN Ds j=some n:=fun n e=>by
   rcases K1 Ds 0 hf.one n with ⟨a,_⟩ | ⟨i,a,_⟩
   · rw[a] at e;cases e
   · exact⟨i,a⟩
 have hm:CZ Ds k=D.must:=by unfold CZ;rw[hD]
 have memL:∀x,x∈L↔∃j,j∈BU Ds k/\x=(j:Int):=fun x=>by
   rw[hL,zL]
   constructor
   · rintro⟨n,hn,rfl⟩
     obtain⟨h1,h2⟩:=yL.mp hn
     obtain⟨j,e⟩:=ex n h2
     refine⟨j,?_,by rw[val n j e]⟩
     unfold BU
     refine yL.mpr ⟨List.mem_range.mpr (hf.bef j k n e (by rw[hm];exact h1)),?_⟩
     unfold NM
     rw[e,hm];exact decide_eq_true h1
   · rintro⟨j,hj,rfl⟩
     obtain⟨_,h2⟩:=yL.mp hj
     unfold NM at h2
     cases e:mkN Ds j with
     | none=>rw[e] at h2;cases h2
     | some n=>
       rw[e,hm] at h2
       refine⟨n,yL.mpr ⟨of_decide_eq_true h2,by rw[val n j e];rfl⟩,by rw[val n j e]⟩
 have ndL:L.Nodup:=by
   rw[hL]
   have inj:∀a∈D.must.filter (fun n=>(B8 (mkL Ds 0) n).isSome),∀b∈D.must.filter (fun n=>(B8 (mkL Ds 0) n).isSome),(match B8 (mkL Ds 0) a with | some (.int i)=>i | _=>0)=(match B8 (mkL Ds 0) b with | some (.int i)=>i | _=>0)->a=b:=fun a ha b hb e=>by
     obtain⟨i,ei⟩:=ex a (yL.mp ha).2
     obtain⟨j,ej⟩:=ex b (yL.mp hb).2
     rw[val a i ei,val b j ej] at e
     have:(i:Int)=(j:Int):=e
     have:i=j:=by omega
     subst this
     rw[ei] at ej
     exact Option.some.inj ej
   unfold List.Nodup
   rw[a5V]
   exact((nd.sublist a9K).imp_of_mem fun {a b} ha hb q e=>q (inj a ha b hb e))
 refine P8 (jX hs (hp.nodup_iff.mpr ndL)) (M0 (jY Ds k)) fun x=>?_
 rw[hp.mem_iff,memL,BN]
end DL
namespace DL
open PySem PySem.Spec L2
abbrev EL:=List (Nat×List Nat)
def JC (E:EL) (m:Nat) (c:List Nat):EL:=if (E.any fun t=>decide (t.1=m))=true then E.map (fun t=>if t.1=m then (t.1,c) else t) else E++[(m,c)]
def F5:EL->Nat->Option (List Nat)
 | [],_=>none
 | t::r,k=>if t.1=k then some t.2 else F5 r k
def chD (c:List Nat):PyData:=.tuple ((EB c).map .int)
def cvE (E:EL):List (Int×PyData):=E.map fun t=>((t.1:Int),chD t.2)
theorem k6 (m:Nat):∀E:EL,((cvE E).any fun t=>decide (t.1=(m:Int)))=E.any fun t=>decide (t.1=m)
 | []=>rfl
 | t::r=>by
   show(decide ((t.1:Int)=(m:Int))||_)=(decide (t.1=m)||_)
   rw[show decide ((t.1:Int)=(m:Int))=decide (t.1=m) by rw[a6Z,decide_eq_true_iff,decide_eq_true_iff];omega]
   congr 1
   exact k6 m r
theorem k7 (E:EL) (m:Nat) (c:List Nat):J5 (cvE E) (m:Int) (chD c)=cvE (JC E m c):=by
 unfold J5 JC
 rw[k6]
 by_cases h:(E.any fun t=>decide (t.1=m))=true
 · rw[if_pos h,if_pos h]
   unfold cvE
   rw[zD,zD]
   apply yM
   intro t _
   show(if (t.1:Int)=(m:Int) then ((t.1:Int),chD c) else ((t.1:Int),chD t.2))=_
   by_cases e:t.1=m
   · rw[if_pos (by omega)]
     show _=(((if t.1=m then (t.1,c) else t).1:Int),chD (if t.1=m then (t.1,c) else t).2)
     rw[if_pos e]
   · rw[if_neg (by omega)]
     show _=(((if t.1=m then (t.1,c) else t).1:Int),chD (if t.1=m then (t.1,c) else t).2)
     rw[if_neg e]
 · rw[if_neg h,if_neg h]
   unfold cvE
   rw[xI];rfl
theorem P9 (m:Nat):∀E:EL,HB (cvE E) (m:Int)=(F5 E m).map chD
 | []=>rfl
 | t::r=>by
   show(if (t.1:Int)=(m:Int) then some (chD t.2) else HB (cvE r) (m:Int))=(if t.1=m then some t.2 else F5 r m).map chD
   by_cases e:t.1=m
   · rw[if_pos (by omega),if_pos e];rfl
   · rw[if_neg (by omega),if_neg e];exact P9 m r
theorem HC:∀{E:EL}{m:Nat},(F5 E m).isSome=true↔m∈E.map (·.1)
 | [],m=>by simp[F5]
 | t::r,m=>by
   unfold F5
   by_cases e:t.1=m
   · rw[if_pos e];simp[e]
   · rw[if_neg e,HC (E:=r)]
     simp only[zI,yX]
     constructor
     · exact .inr
     · rintro (q | q)
       · exact absurd q.symm e
       · exact q
theorem QM:∀{E:EL}{m:Nat}{c:List Nat},F5 E m=some c->(m,c)∈E
 | t::r,m,c,h=>by
   unfold F5 at h
   by_cases e:t.1=m
   · rw[if_pos e] at h
     have:t.2=c:=Option.some.inj h
     rw[← this,← e];simp
   · rw[if_neg e] at h;exact yV _ (QM h)
theorem bR {E:EL}{m:Nat}:(E.any fun t=>decide (t.1=m))=true↔m∈E.map (·.1):=by
 rw[a3Z,zL]
 constructor
 · rintro⟨t,a,b⟩;exact⟨t,a,of_decide_eq_true b⟩
 · rintro⟨t,a,b⟩;exact⟨t,a,decide_eq_true b⟩
theorem QN (E:EL) (m:Nat) (c:List Nat):(JC E m c).map (·.1)=if m∈E.map (·.1) then E.map (·.1) else E.map (·.1)++[m]:=by
 unfold JC
 by_cases h:m∈E.map (·.1)
 · rw[if_pos (bR.mpr h),if_pos h,zD]
   apply yM
   intro t _
   show(if t.1=m then (t.1,c) else t).1=t.1
   split <;> rfl
 · rw[if_neg fun q=>h (bR.mp q),if_neg h,xI];rfl
structure ChainN (Ds:List Deed) (ns c:List Nat) (m:Nat):Prop where
 last:c.getLast?=some m
 head:∃h,c.head?=some h/\h∈ns
 step:∀i a b,c[i]?=some a->c[i+1]?=some b->a∈BU Ds b
 lt:∀x∈c,x < Ds.length
 two:m∈ns∨2<=c.length
structure GoodE (Ds:List Deed) (ns:List Nat) (E:EL):Prop where
 nd:(E.map (·.1)).Nodup
 ch:∀t∈E,ChainN Ds ns t.2 t.1
theorem X2 {Ds:List Deed}{ns:List Nat}{E:EL}{m:Nat}{c:List Nat}(h:GoodE Ds ns E) (hc:ChainN Ds ns c m):GoodE Ds ns (JC E m c):=by
 refine⟨?_,fun t ht=>?_⟩
 · rw[QN]
   split
   · exact h.nd
   · rename_i hn
     rw[List.nodup_append]
     refine⟨h.nd,by simp,fun a ha b hb e=>?_⟩
     rw[List.mem_singleton.mp hb] at e
     exact hn (e▸ha)
 · unfold JC at ht
   split at ht
   · obtain⟨u,hu,rfl⟩:=zL.mp ht
     split
     · rename_i e
       show ChainN Ds ns c u.1
       rw[e];exact hc
     · exact h.ch u hu
   · rcases yW.mp ht with q | q
     · exact h.ch t q
     · rw[List.mem_singleton.mp q];exact hc
theorem eQ {Ds:List Deed}{ns:List Nat}{m:Nat}(hm:m∈ns) (hl:m < Ds.length):ChainN Ds ns [m] m:=
 ⟨rfl,⟨m,rfl,hm⟩,fun i a b h1 h2=>by simp at h2,fun x hx=>by rw[List.mem_singleton.mp hx];exact hl,.inl hm⟩
theorem ZL {Ds:List Deed}{ns c:List Nat}{g m:Nat}(h:ChainN Ds ns c g) (hg:g∈BU Ds m) (hl:m < Ds.length):ChainN Ds ns (c++[m]) m:=by
 have hne:c≠[]:=by intro e;have:=h.last;rw[e] at this;cases this
 refine⟨List.getLast?_concat,?_,fun i a b h1 h2=>?_,fun x hx=>?_,.inr ?_⟩
 · obtain⟨q,e1,e2⟩:=h.head
   refine⟨q,?_,e2⟩
   cases c with
   | nil=>exact absurd rfl hne
   | cons y ys=>exact e1
 · by_cases hi:i+1 < c.length
   · rw[yQ (by omega)] at h1
     rw[yQ hi] at h2
     exact h.step i a b h1 h2
   · by_cases hj:i+1=c.length
     · rw[yP (by omega),show i+1 - c.length=0 by omega] at h2
       rw[yQ (by omega)] at h1
       have hb:b=m:=by simpa using h2.symm
       subst hb
       have ha:c.getLast?=some a:=by rw[List.getLast?_eq_getElem?,show c.length - 1=i by omega];exact h1
       rw[h.last] at ha
       cases ha
       exact hg
     · rw[a0J (by rw[yY,List.length_singleton];omega)] at h2;cases h2
 · rcases yW.mp hx with q | q
   · exact h.lt x q
   · rw[List.mem_singleton.mp q];exact hl
 · have:=List.length_pos_iff.mpr hne
   rw[yY,List.length_singleton];omega
def e0 (ns:List Nat):EL:=ns.foldl (fun E m=>JC E m [m]) []
def EZ (Ds:List Deed) (E:EL) (m:Nat):List Nat:=(BU Ds m).filter fun j=>(F5 E j).isSome
def IL (Ds:List Deed) (E:EL) (m:Nat):EL:=match EZ Ds E m with
 | g::_=>if (F5 E m).isNone then JC E m ((F5 E g).getD []++[m]) else E
 | []=>E
def BH (Ds:List Deed) (ns:List Nat) (k:Nat):EL:=(a0V k).foldl (IL Ds) (e0 ns)
theorem QO (Ds:List Deed) (ns:List Nat) (k:Nat):BH Ds ns (k+1)=IL Ds (BH Ds ns k) k:=by
 unfold BH;rw[List.range_succ,List.foldl_append];rfl
theorem k8 {Ds:List Deed}{ns:List Nat}(hn:∀m∈ns,m < Ds.length):∀(l:List Nat) (E:EL),(∀m∈l,m∈ns)->GoodE Ds ns E->GoodE Ds ns (l.foldl (fun E m=>JC E m [m]) E)/\∀x,x∈(l.foldl (fun E m=>JC E m [m]) E).map (·.1)↔x∈E.map (·.1)∨x∈l
 | [],E,_,h=>⟨h,fun x=>by simp⟩
 | m::r,E,hl,h=>by
   have hm:=hl m (by simp)
   obtain⟨g1,g2⟩:=k8 hn r (JC E m [m]) (fun x hx=>hl x (yV _ hx)) (X2 h (eQ hm (hn m hm)))
   refine⟨g1,fun x=>?_⟩
   show x∈(r.foldl (fun E m=>JC E m [m]) (JC E m [m])).map (·.1)↔_
   rw[g2,QN]
   by_cases q:m∈E.map (·.1)
   · rw[if_pos q]
     constructor
     · rintro (a | a)
       · exact .inl a
       · exact .inr (yV _ a)
     · rintro (a | a)
       · exact .inl a
       · rcases yX.mp a with rfl | a
         · exact .inl q
         · exact .inr a
   · rw[if_neg q,yW,a8X,yX,or_assoc]
def AG (Ds:List Deed) (ns:List Nat):Nat->List Nat
 | 0=>[]
 | k+1=>if decide (k∈ns)||(BU Ds k).any (fun j=>decide (j∈AG Ds ns k)) then AG Ds ns k++[k] else AG Ds ns k
theorem DQ (Ds:List Deed) (ns:List Nat):∀k,∀x∈AG Ds ns k,x < k
 | 0,x,h=>by simp[AG] at h
 | k+1,x,h=>by
   unfold AG at h
   split at h
   · rcases yW.mp h with q | q
     · have:=DQ Ds ns k x q;omega
     · rw[List.mem_singleton.mp q];exact Nat.lt_succ_self _
   · have:=DQ Ds ns k x h;omega
theorem FI (Ds:List Deed) (ns:List Nat):∀k,(AG Ds ns k).Pairwise (· < ·)
 | 0=>by simp[AG]
 | k+1=>by
   unfold AG
   split
   · rw[List.pairwise_append]
     exact⟨FI Ds ns k,by simp,fun a ha b hb=>by rw[List.mem_singleton.mp hb];exact DQ Ds ns k a ha⟩
   · exact FI Ds ns k
theorem CL {Ds:List Deed}{ns:List Nat}:∀{k x:Nat},x < k->x∈ns->x∈AG Ds ns k
 | k+1,x,h,hx=>by
   unfold AG
   by_cases e:x=k
   · subst e
     rw[decide_eq_true hx,Bool.true_or,if_pos rfl];simp
   · have:=CL (Ds:=Ds) (k:=k) (by omega) hx
     split
     · exact zA _ this
     · exact this
theorem M8 {Ds:List Deed}{ns:List Nat}(hn:∀m∈ns,m < Ds.length):∀k,k<=Ds.length->GoodE Ds ns (BH Ds ns k)/\∀x,x∈(BH Ds ns k).map (·.1)↔x∈ns∨x∈AG Ds ns k
 | 0,_=>by
   obtain⟨g1,g2⟩:=k8 hn ns [] (fun _ h=>h) ⟨by simp,by simp⟩
   refine⟨g1,fun x=>?_⟩
   show x∈(ns.foldl (fun E m=>JC E m [m]) []).map (·.1)↔_
   rw[g2];simp[AG]
 | k+1,hk=>by
   obtain⟨g1,g2⟩:=M8 hn k (by omega)
   rw[QO]
   have hany:(EZ Ds (BH Ds ns k) k≠[])↔(BU Ds k).any (fun j=>decide (j∈AG Ds ns k))=true:=by
     rw[a3Z]
     constructor
     · intro h
       cases hg:EZ Ds (BH Ds ns k) k with
       | nil=>exact absurd hg h
       | cons g r=>
         have hm:g∈EZ Ds (BH Ds ns k) k:=by rw[hg];simp
         obtain⟨a,b⟩:=yL.mp hm
         refine⟨g,a,decide_eq_true ?_⟩
         rcases (g2 g).mp (HC.mp b) with q | q
         · exact CL (DO a) q
         · exact q
     · rintro⟨j,a,b⟩ e
       have:j∈EZ Ds (BH Ds ns k) k:=yL.mpr ⟨a,HC.mpr ((g2 j).mpr (.inr (of_decide_eq_true b)))⟩
       rw[e] at this;cases this
   cases hg:EZ Ds (BH Ds ns k) k with
   | nil=>
     have hna:(BU Ds k).any (fun j=>decide (j∈AG Ds ns k))=false:=by
       cases q:(BU Ds k).any (fun j=>decide (j∈AG Ds ns k)) with
       | false=>rfl
       | true=>exact absurd hg (hany.mpr q)
     have e1:IL Ds (BH Ds ns k) k=BH Ds ns k:=by unfold IL;rw[hg]
     rw[e1]
     refine⟨g1,fun x=>?_⟩
     rw[g2,AG,hna,c0Q]
     by_cases q:k∈ns
     · rw[decide_eq_true q,if_pos rfl,yW,a8X]
       constructor
       · rintro (a | a)
         · exact .inl a
         · exact .inr (.inl a)
       · rintro (a | a | a)
         · exact .inl a
         · exact .inr a
         · rw[a];exact .inl q
     · rw[decide_eq_false q,if_neg nft]
   | cons g r=>
     have hya:(BU Ds k).any (fun j=>decide (j∈AG Ds ns k))=true:=hany.mp (by rw[hg];simp)
     have hgm:g∈EZ Ds (BH Ds ns k) k:=by rw[hg];simp
     obtain⟨ga,gb⟩:=yL.mp hgm
     have e2:AG Ds ns (k+1)=AG Ds ns k++[k]:=by rw[AG,hya,Bool.or_true,if_pos rfl]
     by_cases hk2:(F5 (BH Ds ns k) k).isNone=true
     · have e1:IL Ds (BH Ds ns k) k=JC (BH Ds ns k) k ((F5 (BH Ds ns k) g).getD []++[k]):=by unfold IL;rw[hg];dsimp only;rw[if_pos hk2]
       rw[e1]
       obtain⟨c,hc⟩:=xY.mp gb
       have hch:=g1.ch _ (QM hc)
       rw[hc]
       refine⟨X2 g1 (ZL hch ga (by omega)),fun x=>?_⟩
       rw[QN,e2]
       have nk:¬k∈(BH Ds ns k).map (·.1):=fun q=>by
         have:=HC.mpr q
         rw[Option.isSome_iff_ne_none] at this
         exact this (Option.isNone_iff_eq_none.mp hk2)
       rw[if_neg nk,yW,g2,yW,or_assoc]
     · have e1:IL Ds (BH Ds ns k) k=BH Ds ns k:=by unfold IL;rw[hg];dsimp only;rw[if_neg hk2]
       rw[e1,e2]
       refine⟨g1,fun x=>?_⟩
       rw[g2,yW,a8X]
       have hkk:k∈(BH Ds ns k).map (·.1):=HC.mp (by
         cases q:F5 (BH Ds ns k) k with
         | none=>rw[q] at hk2;exact absurd rfl hk2
         | some _=>rfl)
       constructor
       · rintro (a | a)
         · exact .inl a
         · exact .inr (.inl a)
       · rintro (a | a | a)
         · exact .inl a
         · exact .inr a
         · rw[a];exact(g2 k).mp hkk
theorem X3 {Ds:List Deed}{ns:List Nat}(hn:∀m∈ns,m < Ds.length) {ss:List Int}(hp:ss.Perm ((cvE (BH Ds ns Ds.length)).map (·.1))) (hs:ss.Pairwise (·<=·)):ss=EB (AG Ds ns Ds.length):=by
 obtain⟨g1,g2⟩:=M8 hn Ds.length (zR _)
 have ek:(cvE (BH Ds ns Ds.length)).map (·.1)=EB ((BH Ds ns Ds.length).map (·.1)):=by unfold cvE EB;rw[zD,zD];rfl
 rw[ek] at hp
 have nd:(EB ((BH Ds ns Ds.length).map (·.1))).Nodup:=by
   unfold EB List.Nodup
   rw[a5V]
   exact g1.nd.imp fun {a b} q e=>q (by omega)
 refine P8 (jX hs (hp.nodup_iff.mpr nd)) (M0 (FI Ds ns _)) fun x=>?_
 rw[hp.mem_iff,BN,BN]
 constructor
 · rintro⟨j,a,rfl⟩
   refine⟨j,?_,rfl⟩
   rcases (g2 j).mp a with q | q
   · exact CL (hn j q) q
   · exact q
 · rintro⟨j,a,rfl⟩
   exact⟨j,(g2 j).mpr (.inr a),rfl⟩
end DL
namespace DL
open PySem PySem.Spec L2 XC
def DAx (K:Frg) (R:Rx) (t:TA) (ρ:List (Option DS)) (M:Own) (Q:List DS->Own->Prop) (DX:DXK):Prop:=
 ∀(σ:St) (H:Hp) (QQ:List V->Hp->Prop),Rel K M ρ σ H->(∀vs H' xs M',OA K H' M'->SIs K H' M' xs vs->Step K M M' H H'->Q xs M'->QQ vs H')->KX K R M H DX->t σ H QQ
section
variable {K:Frg}{R:Rx}{ρ:List (Option DS)}{M:Own}{DX:DXK}{ta:TE}{tl:TA}{Q:DS->Own->Prop}{QL:List DS->Own->Prop}
theorem X4 (h:DA K tl ρ M QL):DAx K R tl ρ M QL DX:=fun σ H QQ Rl k _=>h σ H QQ Rl k
theorem X5 (h:DEx K R ta ρ M (fun x M1=>DAx K R tl ρ M1 (fun xs M2=>QL (x::xs) M2) DX) DX):DAx K R (g0 ta tl) ρ M QL DX:=fun σ H QQ Rl k k5=>
 h σ H _ Rl (fun v H1 x M1 o1 s1 t1 h1=>h1 σ H1 _ (Rl.step o1 t1) (fun vs H2 xs M2 o2 s2 t2 q=>k (v::vs) H2 (x::xs) M2 o2 ⟨v,vs,rfl,s1.step t2,s2⟩ (t1.trans t2) q) (k5.step t1)) k5
end
end DL
namespace DL
open PySem PySem.Spec L2 XC
section
variable {K:Frg}{R:Rx}{ρ:List (Option DS)}{M:Own}{DX:DXK}{ta:TE}{tl:TA}{Q:DS->Own->Prop}{QL:List DS->Own->Prop}
theorem k9 {r:List V->Hp->VK->Prop}(h:DAx K R tl ρ M (fun xs M1=>DR K r xs M1 Q) DX):DEx K R (tCB r tl) ρ M Q DX:=fun σ H QQ Rl k k5=>
 h σ H _ Rl (fun vs H1 xs M1 o1 s1 t1 h1=>h1 H1 vs QQ o1 s1 fun v H' x M' a b c q=>k v H' x M' a b (t1.trans c) q) k5
end
end DL
namespace DL
open PySem PySem.Spec L2 XC
theorem D0:∀{ls ls':List (Str×Deed)},ls.map AL=ls'.map AL->ls=ls'
 | [],[],_=>rfl
 | [],_::_,h=>by simp at h
 | _::_,[],h=>by simp at h
 | a::r,b::s,h=>by
   simp only[zI,List.cons.injEq] at h
   obtain⟨h1,h2⟩:=h
   have h1:PyData.tuple [.str a.1,a.2.d] = .tuple [.str b.1,b.2.d]:=h1
   simp only[PyData.tuple.injEq,List.cons.injEq,PyData.str.injEq,and_true] at h1
   rw[D0 h2]
   exact congrArg (·::s) (Prod.ext h1.1 (FX h1.2))
theorem FJ {w w':List Th}{ls ls':List (Str×Deed)}(h:AH w ls=AH w' ls'):ls=ls':=by
 unfold AH at h
 simp only[PyData.tuple.injEq,List.cons.injEq,and_true] at h
 exact D0 h.2
abbrev dsL (ls:List (Str×Deed)):List Deed:=ls.map (·.2)
abbrev AC (ls:List (Str×Deed)):PyData:=.tuple (ls.map AL)
structure goodB (w:List Th) (ls:List (Str×Deed)):Prop where
 fresh:FreshD (dsL ls)
 real:∀l∈ls,l.2.real
 few:ls.length<=50
 hands:∀l∈ls,AO l.1
abbrev AD (ns:List Nat):List PyData:=(EB ns).map .int
def RU (n:Nat) (d:PyData):Bool:=LX d 0 ((n:Int) - 1)
theorem oJ {n:Nat}{d:PyData}(h:RU n d=true):∃m:Nat,d = .int m/\m < n:=by
 cases d <;> first | (exfalso;exact nft h) | skip
 rename_i i
 have h:(decide (0<=i)&&decide (i<=(n:Int) - 1))=true:=h
 simp only[a1J,decide_eq_true_eq] at h
 exact⟨i.toNat,by congr 1;omega,by omega⟩
theorem kA {n m:Nat}(h:m < n):RU n (.int (m:Int))=true:=by
 show(decide ((0:Int)<=(m:Int))&&decide ((m:Int)<=(n:Int) - 1))=true
 simp only[a1J,decide_eq_true_eq];omega
theorem bS {n:Nat}:∀{ds:List PyData},(∀d∈ds,RU n d=true)->∃ns,ds=AD ns/\∀m∈ns,m < n
 | [],_=>⟨[],rfl,by simp⟩
 | d::r,h=>by
   obtain⟨m,rfl,hm⟩:=oJ (h d (by simp))
   obtain⟨ns,rfl,hn⟩:=bS (ds:=r) fun x hx=>h x (yV _ hx)
   exact⟨m::ns,rfl,fun x hx=>by rcases yX.mp hx with rfl | q;exact hm;exact hn x q⟩
theorem AV (ns:List Nat):(AD ns).length=ns.length:=by simp[EB]
theorem G1 {a b:List Nat}(h:AD a=AD b):a=b:=by
 induction a generalizing b with
 | nil=>cases b with
   | nil=>rfl
   | cons y s=>have:=congrArg b9W h;rw[AV,AV] at this;cases this
 | cons x r ih=>cases b with
   | nil=>have:=congrArg b9W h;rw[AV,AV] at this;cases this
   | cons y s=>
     have h:a3Q (x:Int)::AD r = .int (y:Int)::AD s:=h
     simp only[List.cons.injEq,PyData.int.injEq] at h
     rw[ih h.2,show x=y by omega]
theorem kB {n:Nat}{ns:List Nat}(h:∀m∈ns,m < n):∀d∈AD ns,RU n d=true:=fun d hd=>by
 obtain⟨i,hi,rfl⟩:=zL.mp hd
 obtain⟨m,hm,rfl⟩:=BN.mp hi
 exact kA (h m hm)
def QR (n:Nat) (ds:List PyData):Option PyData:=ds.find? fun d=>!RU n d
theorem X6 {n:Nat}{ns:List Nat}(h:∀m∈ns,m < n):QR n (AD ns)=none:=List.find?_eq_none.mpr fun d hd=>by rw[kB h d hd];simp
section
variable {M:Own}{Q:DS->Own->Prop}{w:List Th}{ls:List (Str×Deed)}
def EC:FSp:=⟨fun xs M=>∃(w:List Th) (ls:List (Str×Deed)),xs=[.d (AH w ls)]/\goodB w ls,fun xs M y M'=>∀(w:List Th) (ls:List (Str×Deed)),xs=[.d (AH w ls)]->y = .d (.tuple ((dsL ls).map Deed.d))/\M'=M⟩
theorem QS (hg:goodB w ls) (q:Q (.d (.tuple ((dsL ls).map Deed.d))) M):[DS.d (AH w ls)].length=1/\EC.pre [.d (AH w ls)] M/\∀x M',EC.post [.d (AH w ls)] M x M'->Q x M':=
 ⟨rfl,⟨w,ls,rfl,hg⟩,fun x M' h=>by obtain⟨rfl,rfl⟩:=h w ls rfl;exact q⟩
def JD:FSp:=⟨fun xs M=>∃(w:List Th) (ls:List (Str×Deed)),xs=[.d (AH w ls)]/\goodB w ls,fun xs M y M'=>∀(w:List Th) (ls:List (Str×Deed)),xs=[.d (AH w ls)]->∃p,M p=none/\y = .loc p/\M'=M.put p (.d (BG (mkL (dsL ls) 0)))⟩
theorem X7 (hg:goodB w ls) (q:∀p,M p=none->Q (.loc p) (M.put p (.d (BG (mkL (dsL ls) 0))))):[DS.d (AH w ls)].length=1/\JD.pre [.d (AH w ls)] M/\∀x M',JD.post [.d (AH w ls)] M x M'->Q x M':=
 ⟨rfl,⟨w,ls,rfl,hg⟩,fun x M' h=>by obtain⟨p,hp,rfl,rfl⟩:=h w ls rfl;exact q p hp⟩
def D3:FSp:=⟨fun xs M=>∃(w:List Th) (ls:List (Str×Deed)) (d:PyData),xs=[.d (AH w ls),.d d],fun xs M y M'=>∀(w:List Th) (ls:List (Str×Deed)) (d:PyData),xs=[.d (AH w ls),.d d]->y = .d (.bool (RU ls.length d))/\M'=M⟩
theorem QT {d:PyData}(q:Q (.d (.bool (RU ls.length d))) M):[DS.d (AH w ls),.d d].length=2/\D3.pre [.d (AH w ls),.d d] M/\∀x M',D3.post [.d (AH w ls),.d d] M x M'->Q x M':=
 ⟨rfl,⟨w,ls,d,rfl⟩,fun x M' h=>by obtain⟨rfl,rfl⟩:=h w ls d rfl;exact q⟩
def M9:FSp:=⟨fun xs M=>∃(w:List Th) (ls:List (Str×Deed)) (k:Nat),xs=[.d (AH w ls),.d (.int k)]/\goodB w ls/\k < ls.length,fun xs M y M'=>∀(w:List Th) (ls:List (Str×Deed)) (k:Nat),xs=[.d (AH w ls),.d (.int k)]->y = .d (chD (BU (dsL ls) k))/\M'=M⟩
theorem ZM {k:Nat}(hg:goodB w ls) (hk:k < ls.length) (q:Q (.d (chD (BU (dsL ls) k))) M):[DS.d (AH w ls),.d (.int k)].length=2/\M9.pre [.d (AH w ls),.d (.int k)] M/\∀x M',M9.post [.d (AH w ls),.d (.int k)] M x M'->Q x M':=
 ⟨rfl,⟨w,ls,k,rfl,hg,hk⟩,fun x M' h=>by obtain⟨rfl,rfl⟩:=h w ls k rfl;exact q⟩
abbrev bsX (w:List Th) (ls:List (Str×Deed)) (ds:List PyData):List DS:=[.d (AH w ls),.d (.tuple ds)]
def xO (xs:List DS) (M:Own):Prop:=∃(w:List Th) (ls:List (Str×Deed)) (ds:List PyData),xs=bsX w ls ds/\goodB w ls/\ds.length<=60
def xpB (cN:Addr) (xs:List DS) (M:Own) (cls:Value) (fs:List (Str×PyData)) (M':Own):Prop:=∀(w:List Th) (ls:List (Str×Deed)) (ds:List PyData),xs=bsX w ls ds->∃d,QR ls.length ds=some d/\cls = .ref cN/\fs=[(a0Q "line", d)]/\M'=M
def u7 (ls:List (Str×Deed)) (ns:List Nat):EL:=BH (dsL ls) ns (dsL ls).length
def HZ (ls:List (Str×Deed)) (ns:List Nat):List Nat:=AG (dsL ls) ns (dsL ls).length
def wG (f:List (Str×Deed)->List Nat->DS->Own->Own->Prop) (xs:List DS) (M:Own) (y:DS) (M':Own):Prop:=∀(w:List Th) (ls:List (Str×Deed)) (ds:List PyData),xs=bsX w ls ds->∃ns,ds=AD ns/\(∀m∈ns,m < ls.length)/\f ls ns y M M'
def GB (cN:Addr) (f:List (Str×Deed)->List Nat->DS->Own->Own->Prop):FSpX:=⟨xO,wG f,xpB cN⟩
theorem oK {cN:Addr}{f:List (Str×Deed)->List Nat->DS->Own->Own->Prop}{ds:List PyData}{DX:Value->List (Str×PyData)->Own->Prop}(hg:goodB w ls) (hl:ds.length<=60) (q:∀ns y M',ds=AD ns->(∀m∈ns,m < ls.length)->f ls ns y M M'->Q y M') (q2:∀d,QR ls.length ds=some d->DX (.ref cN) [(a0Q "line", d)] M) :
   (bsX w ls ds).length=2/\(GB cN f).pre (bsX w ls ds) M/\(∀x M',(GB cN f).post (bsX w ls ds) M x M'->Q x M')/\∀cls fs M',(GB cN f).xpost (bsX w ls ds) M cls fs M'->DX cls fs M':=
 ⟨rfl,⟨w,ls,ds,rfl,hg,hl⟩,fun x M' h=>(by obtain⟨ns,a,b,c⟩:=h w ls ds rfl;exact q ns x M' a b c),fun cls fs M' h=>by obtain⟨d,a,rfl,rfl,rfl⟩:=h w ls ds rfl;exact q2 d a⟩
theorem QU {w w':List Th}{ls ls':List (Str×Deed)}{ds ds':List PyData}(e:bsX w ls ds=bsX w' ls' ds'):ls=ls'/\ds=ds':=by
 simp only[List.cons.injEq,DS.d.injEq,PyData.tuple.injEq,and_true] at e
 exact⟨FJ e.1,e.2⟩
def SB (f:List (Str×Deed)->List Nat->DS->Own->Own->Prop):FSp:=⟨fun xs M=>∃(w:List Th) (ls:List (Str×Deed)) (ns:List Nat),xs=bsX w ls (AD ns)/\goodB w ls/\ns.length<=60/\∀m∈ns,m < ls.length,fun xs M y M'=>∀(w:List Th) (ls:List (Str×Deed)) (ns:List Nat),xs=bsX w ls (AD ns)->f ls ns y M M'⟩
theorem u8 {P:Program}{w0:World}{K:Frg}{mg:Str->Option Value}{base:Heap}{x:Str}{k:Nat}{ps:List Str}{cN:Addr}{f:List (Str×Deed)->List Nat->DS->Own->Own->Prop}(h:HasX P w0 K mg base x k ps (GB cN f)):Has P w0 K mg base x k ps (SB f):=
 h.calm fun xs M hp=>by
   obtain⟨w,ls,ns,rfl,hg,hl,hn⟩:=hp
   refine⟨⟨w,ls,AD ns,rfl,hg,by rw[AV];exact hl⟩,fun y M' hq w' ls' ns' e=>?_,fun cls fs M' hx=>?_⟩
   · obtain⟨e1,e2⟩:=QU e
     obtain⟨ns2,a,b,c⟩:=hq w' ls' (AD ns') e
     rw[G1 a];exact c
   · obtain⟨d,a,_⟩:=hx w ls (AD ns) rfl
     rw[X6 hn] at a;cases a
def kC (ls:List (Str×Deed)) (ns:List Nat) (y:DS) (M M':Own):Prop:=∃p,M p=none/\y = .loc p/\M'=M.put p (.d (BK (cvE (u7 ls ns))))
def X8 (ls:List (Str×Deed)) (ns:List Nat) (y:DS) (M M':Own):Prop:=y = .d (chD (HZ ls ns))/\M'=M
theorem oM {f:List (Str×Deed)->List Nat->DS->Own->Own->Prop}{ns:List Nat}(hg:goodB w ls) (hl:ns.length<=60) (hn:∀m∈ns,m < ls.length) (q:∀y M',f ls ns y M M'->Q y M'):(bsX w ls (AD ns)).length=2/\(SB f).pre (bsX w ls (AD ns)) M/\∀x M',(SB f).post (bsX w ls (AD ns)) M x M'->Q x M':=
 ⟨rfl,⟨w,ls,ns,rfl,hg,hl,hn⟩,fun x M' h=>q x M' (h w ls ns rfl)⟩
end
def fEn:PyData->Str | .tuple [_,.str x]=>x | _=>a0Q ""
def wEn:PyData->PyData | .tuple [i,_]=>i | _=>.none
def cEn:PyData->Bool | .tuple [_,.none]=>false | _=>true
theorem bT:∀(Ds:List Deed) (o:Nat),((((Ds.map fun D=>G8 D.d).zipIdx o).map fun p=>PyData.tuple [.int (p.2:Nat),p.1]).filter cEn).map (fun d=>(fEn d,wEn d))=mkL Ds o
 | [],o=>rfl
 | D::r,o=>by
   have ih:=bT r (o+1)
   rw[zI,c0J,zI,List.filter_cons]
   rw[UL]
   cases h:D.made with
   | none=>
     rw[mkL,h]
     show(if cEn (.tuple [.int (o:Nat),.none])=true then _ else _:List PyData).map _=_
     rw[show cEn (.tuple [.int (o:Nat),.none])=false from rfl,if_neg nft]
     exact ih
   | some x=>
     rw[mkL,h]
     show(if cEn (.tuple [.int (o:Nat),.str x])=true then _ else _:List PyData).map _=_
     rw[show cEn (.tuple [.int (o:Nat),.str x])=true from rfl,if_pos rfl,zI,ih]
     rfl
theorem ZN {D:Deed}(h:D.real):D.must.Nodup:=by
 unfold Deed.must
 refine List.Nodup.sublist a9K ?_
 have ha:=h.2.1
 cases D <;> first | (simp[Deed.names];done) | (simp only[Deed.names,xV,a8X,xX,not_false_eq_true,List.nodup_nil,and_true];exact ha)
end DL
namespace DL
open PySem PySem.Spec L2 XC
theorem K2 {K:Frg}{M:Own}{Q:DS->Own->Prop}{neg:Bool}{d:PyData}{ds:List PyData}(s1:zH d=true) (s2:zH (.tuple ds)=true) (q:Q (.d (.bool (if neg then !(ds.any fun e=>a0X e d) else ds.any fun e=>a0X e d))) M):D2 K (ZK K neg) (.d d) (.d (.tuple ds)) M Q:=fun H v u QQ oa h1 h2 k=>
 ⟨M.W,d,ds,h1,s1,.inr ⟨h2,s2⟩,k _ H _ M oa AK Step.refl q⟩
theorem GD (ns:List Nat):zH (.list (AD ns))=true:=by
 refine BD (EY fun d hd=>?_) ?_
 · obtain⟨y,h1,rfl⟩:=zL.mp hd
   rfl
 · have:a1Z (AD ns)<=0:=J9 fun d hd=>by
     obtain⟨y,h1,rfl⟩:=zL.mp hd
     simp[a1V]
   simp only[a1V];omega
theorem BB (ns:List Nat):zH (.tuple (AD ns))=true:=by
 refine BD (EY fun d hd=>?_) ?_
 · obtain⟨y,h1,rfl⟩:=zL.mp hd
   rfl
 · have:a1Z (AD ns)<=0:=J9 fun d hd=>by
     obtain⟨y,h1,rfl⟩:=zL.mp hd
     simp[a1V]
   simp only[a1V];omega
theorem bU (a b:Int):a0X (.int a) (.int b)=decide (a=b):=by
 have:a0X (.int a) (.int b)=(a==b):=by simp[a0X]
 rw[this];rfl
theorem QV (ns:List Nat) (m:Nat):((AD ns).any fun e=>a0X e (.int (m:Int)))=decide (m∈ns):=by
 rw[a6Z,a3Z,decide_eq_true_iff]
 constructor
 · rintro⟨d,hd,he⟩
   obtain⟨i,hi,rfl⟩:=zL.mp hd
   obtain⟨j,hj,rfl⟩:=BN.mp hi
   rw[bU] at he
   have:(j:Int)=(m:Int):=of_decide_eq_true he
   rw[show m=j by omega];exact hj
 · intro h
   exact⟨.int (m:Int),zL.mpr ⟨_,BN.mpr ⟨m,h,rfl⟩,rfl⟩,by rw[bU];simp⟩
def oN:PyData->Int | .int i=>i | _=>0
theorem bV:∀(ns:List Nat) (E:EL),(AD ns).foldl (fun ts d=>J5 ts (oN d) (.tuple [d])) (cvE E)=cvE (ns.foldl (fun E m=>JC E m [m]) E)
 | [],E=>rfl
 | m::r,E=>by
   show(AD r).foldl (fun ts d=>J5 ts (oN d) (.tuple [d])) (J5 (cvE E) (m:Int) (chD [m]))=_
   rw[k7]
   exact bV r (JC E m [m])
def cGo (E:EL):PyData->Bool | .int i=>(HB (cvE E) i).isSome | _=>false
theorem kD (Ds:List Deed) (E:EL) (k:Nat):((AD (BU Ds k)).filter (cGo E)).map id=AD (EZ Ds E k):=by
 rw[a9Z]
 unfold EZ AD EB
 rw[zD,xU,zD]
 congr 1
 apply b8V
 intro j _
 show(HB (cvE E) (j:Int)).isSome=_
 rw[P9]
 cases F5 E j <;> rfl
theorem NN (Ds:List Deed) (ns:List Nat):∀k,(AG Ds ns k).length<=k
 | 0=>by simp[AG]
 | k+1=>by
   unfold AG
   have:=NN Ds ns k
   split
   · rw[yY];simp;exact this
   · omega
theorem X9 {Ds:List Deed}{ns:List Nat}(hn:∀m∈ns,m < Ds.length) (k:Nat) (hk:k<=Ds.length):(BH Ds ns k).length<=Ds.length:=by
 obtain⟨g1,g2⟩:=M8 hn k hk
 have hs:∀x∈(BH Ds ns k).map (·.1),x∈a0V Ds.length:=fun x hx=>by
   rw[List.mem_range]
   rcases (g2 x).mp hx with q | q
   · exact hn x q
   · exact zP (DQ Ds ns k x q) hk
 have hp:((BH Ds ns k).map (·.1)).Perm ((a0V Ds.length).filter fun x=>decide (x∈(BH Ds ns k).map (·.1))):=
   (List.perm_ext_iff_of_nodup g1.nd (List.nodup_range.sublist a9K)).mpr fun x=>by
     rw[yL,decide_eq_true_iff]
     exact⟨fun q=>⟨hs x q,q⟩,fun q=>q.2⟩
 have e1:=hp.length_eq
 rw[zX] at e1
 have e2:=yJ (fun x=>decide (x∈(BH Ds ns k).map (·.1))) (a0V Ds.length)
 rw[xZ] at e2
 omega
theorem eR {Ds:List Deed}{ns c:List Nat}{m:Nat}(h:ChainN Ds ns c m):c.Pairwise (· < ·):=by
 rw[b8Q]
 have key:∀d i (hi:i+d+1 < c.length),c[i]'(by omega) < c[i+d+1]:=by
   intro d
   induction d with
   | zero=>intro i hi;exact DO (h.step i _ _ (zV (by omega)) (zV hi))
   | succ d ih=>
     intro i hi
     have a:=ih i (by omega)
     have b:=DO (h.step (i+d+1) _ _ (zV (by omega)) (zV (show i+d+1+1 < c.length by omega)))
     exact xQ a b
 intro i j hi hj hij
 have:=key (j - i - 1) i (by omega)
 have e:i+(j - i - 1)+1=j:=by omega
 simp only[e] at this
 exact this
theorem eT {Ds:List Deed}{ns c:List Nat}{m:Nat}(h:ChainN Ds ns c m):c.length<=Ds.length:=by
 have hp:c.Perm ((a0V Ds.length).filter fun x=>decide (x∈c)):=
   (List.perm_ext_iff_of_nodup ((eR h).imp fun {a b} q=>zC q) (List.nodup_range.sublist a9K)).mpr fun x=>by
     rw[yL,decide_eq_true_iff,List.mem_range]
     exact⟨fun q=>⟨h.lt x q,q⟩,fun q=>q.2⟩
 have e1:=hp.length_eq
 have e2:=yJ (fun x=>decide (x∈c)) (a0V Ds.length)
 rw[xZ] at e2
 omega
theorem LF:∀{Ds:List Deed}{so sp:List Str},G0 so sp Ds->∀D∈Ds,D.real
 | D::r,so,sp,h,E,hE=>by
   rcases yX.mp hE with rfl | q
   · exact h.2.2.1
   · exact LF h.2.2.2 E q
def cCh (ns:List Nat) (d:PyData):Bool:=!((AD ns).any fun e=>a0X e d)
def cMk (Ds:List Deed):PyData->Bool | .str n=>(B8 (mkL Ds 0) n).isSome | _=>false
def fMk (Ds:List Deed):PyData->PyData | .str n=>(B8 (mkL Ds 0) n).getD .none | _=>.none
def XA (Ds:List Deed) (n:Str):Int:=match B8 (mkL Ds 0) n with | some (.int i)=>i | _=>0
theorem T7 {Ds:List Deed}(hf:FreshD Ds) (ms:List Str):((ms.map a0W).filter (cMk Ds)).map (fMk Ds)=((ms.filter fun n=>(B8 (mkL Ds 0) n).isSome).map (XA Ds)).map .int:=by
 rw[xU,zD,zD]
 apply yM
 intro n hn
 have h2:(B8 (mkL Ds 0) n).isSome=true:=(yL.mp hn).2
 show(B8 (mkL Ds 0) n).getD .none = .int (XA Ds n)
 unfold XA
 rcases K1 Ds 0 hf.one n with ⟨a,_⟩ | ⟨j,_,b⟩
 · rw[a] at h2;cases h2
 · rw[b];rfl
theorem DU {ls:List (Str×Deed)}{k:Nat}(hk:k < ls.length):∃l,ls[k]?=some l/\l∈ls/\(ls.map AL)[k]?=some (.tuple [.str l.1,l.2.d])/\(dsL ls)[k]?=some l.2:=
 ⟨ls[k],zV hk,b1W hk,by rw[zF,zV hk];rfl,by rw[zF,zV hk];rfl⟩
end DL
namespace DL
open PySem PySem.Spec L2
theorem ZO {t:Th}(h:AO t.1):zH (thD t)=true:=by
 refine BD ?_ ?_
 · exact EY (ds:=[.str t.1,.int t.2.1,.int t.2.2]) fun d hd=>by
     simp only[yX,xX,or_false] at hd
     rcases hd with rfl | rfl | rfl
     · exact C6 h
     · rfl
     · rfl
 · simp[thD,a1V,a1Z]
theorem T8 {D:Deed}(h:D.ok):zH D.d=true:=by
 have wk:b7Q (.str D.word)=true:=zG D.word_ok
 have nk:∀x∈D.names,b7Q (.str x)=true:=fun x hx=>C6 (h x hx)
 refine BD ?_ (by cases D <;> simp[Deed.d,a1V,a1Z])
 cases D <;> (refine EY ?_;simp only[List.forall_mem_cons])
 · exact⟨wk,nk _ (by simp[Deed.names]),rfl,rfl,by simp⟩
 · exact⟨wk,nk _ (by simp[Deed.names]),by simp⟩
 · exact⟨wk,nk _ (by simp[Deed.names]),rfl,by simp⟩
 · exact⟨wk,nk _ (by simp[Deed.names]),rfl,by simp⟩
 · exact⟨wk,nk _ (by simp[Deed.names]),nk _ (by simp[Deed.names]),by simp⟩
 · exact⟨wk,nk _ (by simp[Deed.names]),nk _ (by simp[Deed.names]),rfl,rfl,by simp⟩
 · exact⟨wk,nk _ (by simp[Deed.names]),nk _ (by simp[Deed.names]),by simp⟩
theorem JE {d:PyData}(h:zH d=true):a0X d d=true:=PySem.SeqAt.eqv_refl _ (zG h)
end DL
namespace DL
open PySem PySem.Spec L2 XC
theorem u9 {K:Frg}{M:Own}{Q:DS->Own->Prop}{neg:Bool}{d:PyData}{ds:List PyData}{a:Addr}(m:M a=some (.l ds)) (s1:zH d=true) (s2:zH (.list ds)=true) (q:Q (.d (.bool (if neg then !(ds.any fun e=>a0X e d) else ds.any fun e=>a0X e d))) M):D2 K (ZK K neg) (.d d) (.loc a) M Q:=fun H v u QQ oa h1 h2 k=>by
 have hs:(M.del a).Sub M:=fun b o q=>by
   unfold Own.del at q
   by_cases hb:b=a
   · rw[if_pos hb] at q;cases q
   · rw[if_neg hb] at q;exact q
 obtain⟨vs,q1,q2⟩:=oa a _ m
 unfold SI at h2
 subst h2
 have h1':DV K H (M.del a).W d v:=DV.grow (B1 hs) h1
 refine⟨(M.del a).W,d,ds,h1',s1,.inl ⟨?_,s2⟩,k _ H _ M oa AK Step.refl q⟩
 unfold DV
 exact⟨a,vs,rfl,.inl ⟨fun w=>w (by unfold Own.del;rw[if_pos rfl]),.inl q1⟩,q2.grow (B1 hs)⟩
theorem IA {w:List Th}{ls:List (Str×Deed)}(h:goodB w ls):zH (AC ls)=true:=by
 refine BD (EY fun d hd=>?_) ?_
 · obtain⟨l,hl,rfl⟩:=zL.mp hd
   refine EY ?_
   simp only[List.forall_mem_cons]
   exact⟨C6 (h.hands l hl),zG (T8 (h.real l hl).1),by simp⟩
 · have:a1Z (ls.map AL)<=5:=J9 fun d hd=>by
     obtain⟨l,hl,rfl⟩:=zL.mp hd
     have:l.2.d.depth<=3:=by cases l.2 <;> simp[Deed.d,a1V,a1Z]
     simp only[AL,a1V,a1Z];omega
   simp only[a1V];omega
theorem MA (ys:List Str) (z:Str):((ys.map a0W).any fun e=>a0X e (.str z))=decide (z∈ys):=by
 rw[a6Z,a3Z,decide_eq_true_iff]
 constructor
 · rintro⟨d,hd,he⟩
   obtain⟨y,hy,rfl⟩:=zL.mp hd
   rw[CJ] at he
   rw[← eq_of_beq he];exact hy
 · intro h
   exact⟨.str z,zL.mpr ⟨z,h,rfl⟩,by rw[CJ];simp⟩
theorem NO {D:Deed}(h:D.real) {z:Str}(hz:z∈D.must):AO z:=h.1 z (yL.mp hz).1
theorem NP (l:List Nat) (k:Nat):AD l++[.int (k:Int)]=AD (l++[k]):=by
 unfold AD EB;rw[xI,xI];rfl
theorem bW {n k:Nat}{d:PyData}(h:(BJ 0 ((n:Nat):Int).toNat)[k]?=some d):k < n/\d = .int (k:Int):=by
 have hl:k < n:=by have:=(yT.mp h).1;simpa [BJ] using this
 refine⟨hl,?_⟩
 unfold BJ at h
 rw[zF,yA (by omega)] at h
 simp at h;exact h.symm
theorem XB (n:Nat):(BJ 0 ((n:Nat):Int).toNat).length=n:=by simp[BJ]
def kE (l:List Nat) (d:PyData):PyData:=.bool ((AD l).any fun e=>a0X e d)
theorem XD (l ms:List Nat):(AD ms).map (kE l)=(ms.map fun j=>decide (j∈l)).map .bool:=by
 unfold AD EB
 rw[zD,zD,zD]
 apply yM
 intro j _
 show a8V ((AD l).any fun e=>a0X e (.int (j:Int)))=_
 rw[QV];rfl
theorem K3 {α:Type}(l:List α) (g:α->Bool):(l.map g).any id=l.any g:=by rw[List.any_map];rfl
theorem oO {K:Frg}{M:Own}{ρ:List (Option DS)}{QI:List PyData->Own->Prop}{ta:TA}(h:DA K ta ρ M fun xs M1=>∃i j:Int,xs=[.d (.int i),.d (.int j)]/\(-(2 ^ 62)<=i/\i < 2 ^ 62/\-(2 ^ 62)<=j/\j < 2 ^ 62)/\QI (BJ i (j - i).toNat) M1):DI K (pE ta) ρ M QI:=fun σ H R Rl k=>
 h σ H _ Rl fun vs H1 xs M1 o1 s1 t1 ⟨lo,j,e,h1,q⟩=>by
   subst e
   obtain⟨v,r,rfl,h3,v2,r2,rfl,h4,h5⟩:=s1
   cases h5
   rw[show v = .int lo by unfold SI DV at h3;exact h3,show v2 = .int j by unfold SI DV at h4;exact h4]
   have hlen:(BJ lo (j - lo).toNat).length=(j - lo).toNat:=by simp[BJ]
   refine⟨lo,j,rfl,h1,k _ (BJ lo (j - lo).toNat) H1 M1 o1 t1 ⟨fun i H' M' hi oa st=>?_,fun H' M' oa st=>?_,fun i H' M' x H2 oa st hi y=>?_⟩ q⟩
   · show i < (j - lo).toNat;rw[← hlen];exact hi
   · show(j - lo).toNat<=(BJ lo (j - lo).toNat).length;rw[hlen];exact zR _
   · obtain⟨rfl,rfl⟩:=y
     refine⟨oa,Step.refl,.int (lo+i),?_,by unfold DV;rfl⟩
     unfold BJ
     rw[zF]
     rw[hlen] at hi
     simp[hi]
theorem oP {c:List Nat}{i a:Nat}(h:c[i]?=some a):(AD c)[i]?=some (.int (a:Int)):=by
 unfold AD EB
 rw[zF,zF,h];rfl
theorem eU {P:Program}{w0:World}{K:Frg}{mg:Str->Option Value}{base:Heap}{x:Str}{k:Nat}{ps:List Str}{cN:Addr}(h:HasX P w0 K mg base x k ps (GB cN X8)):Has P w0 K mg base x k ps (SB X8):=u8 h
end DL
namespace DL
open PySem PySem.Spec L2
theorem XE {Ds:List Deed}{ns:List Nat}{x:Nat}:∀{k m:Nat},x < k->k<=m->(x∈AG Ds ns m↔x∈AG Ds ns k)
 | k,m,hx,hm=>by
   induction m with
   | zero=>omega
   | succ m ih=>
     by_cases e:k=m+1
     · subst e;exact Iff.rfl
     · have:=ih (by omega)
       rw[← this]
       rw[show AG Ds ns (m+1)=if decide (m∈ns)||(BU Ds m).any (fun j=>decide (j∈AG Ds ns m)) then AG Ds ns m++[m] else AG Ds ns m from rfl]
       split
       · rw[yW,a8X]
         constructor
         · rintro (q | q)
           · exact q
           · omega
         · exact .inl
       · exact Iff.rfl
theorem ED {Ds:List Deed}{ns:List Nat}{n x:Nat}(hx:x < n):x∈AG Ds ns n↔x∈ns∨∃j∈BU Ds x,j∈AG Ds ns n:=by
 rw[XE (k:=x+1) (Nat.lt_succ_self _) hx]
 have hj:∀j∈BU Ds x,(j∈AG Ds ns x↔j∈AG Ds ns n):=fun j hj=>(XE (DO hj) (xR hx)).symm
 rw[show AG Ds ns (x+1)=if decide (x∈ns)||(BU Ds x).any (fun j=>decide (j∈AG Ds ns x)) then AG Ds ns x++[x] else AG Ds ns x from rfl]
 by_cases h:(decide (x∈ns)||(BU Ds x).any (fun j=>decide (j∈AG Ds ns x)))=true
 · rw[if_pos h]
   rw[b6Z,a3Z] at h
   constructor
   · intro _
     rcases h with h | ⟨j,a,b⟩
     · exact .inl (of_decide_eq_true h)
     · exact .inr ⟨j,a,(hj j a).mp (of_decide_eq_true b)⟩
   · intro _;simp
 · rw[if_neg h]
   constructor
   · intro q;exact absurd (DQ Ds ns x x q) (yF _)
   · rintro (q | ⟨j,a,b⟩)
     · exact absurd (by rw[decide_eq_true q,Bool.true_or]) h
     · refine absurd ?_ h
       rw[b6Z,a3Z]
       exact .inr ⟨j,a,decide_eq_true ((hj j a).mpr b)⟩
theorem XF {l1 l2:List Nat}(h1:l1.Pairwise (· < ·)) (h2:l2.Pairwise (· < ·)) (h:∀a,a∈l1↔a∈l2):l1=l2:=by
 have:=P8 (M0 h1) (M0 h2) fun a=>by
   rw[BN,BN]
   constructor
   · rintro⟨j,a,b⟩;exact⟨j,(h j).mp a,b⟩
   · rintro⟨j,a,b⟩;exact⟨j,(h j).mpr a,b⟩
 unfold EB at this
 have inj:Function.Injective (fun j:Nat=>(j:Int)):=fun a b e=>by have:(a:Int)=(b:Int):=e;omega
 exact List.map_inj_right (fun a b e=>inj e) |>.mp this
theorem XG {Ds:List Deed}{as:List Nat}{n:Nat}:AG Ds (AG Ds as n) n=AG Ds as n:=by
 refine XF (FI _ _ _) (FI _ _ _) fun x=>?_
 have key:∀x,x < n->(x∈AG Ds (AG Ds as n) n↔x∈AG Ds as n):=by
   intro x
   induction x using Nat.strongRecOn with
   | _ x ih=>
     intro hx
     rw[ED hx]
     constructor
     · rintro (q | ⟨j,a,b⟩)
       · exact q
       · exact(ED hx).mpr (.inr ⟨j,a,(ih j (DO a) (xQ (DO a) hx)).mp b⟩)
     · exact .inl
 constructor
 · intro h;exact(key x (DQ _ _ _ x h)).mp h
 · intro h;exact(key x (DQ _ _ _ x h)).mpr h
end DL
namespace DL
open PySem PySem.Spec L2
def AS {α:Type}(ls:List α) (κ:List Nat):List α:=κ.filterMap fun k=>ls[k]?
theorem NQ {α:Type}{ls:List α}{k:Nat}{κ:List Nat}{l:α}(h:ls[k]?=some l):AS ls (k::κ)=l::AS ls κ:=by
 unfold AS;rw[a3V,h]
theorem US {α:Type}{ls:List α}:∀{κ:List Nat},(∀k∈κ,k < ls.length)->∀i:Nat,(AS ls κ)[i]?=(κ[i]?).bind fun k=>ls[k]?
 | [],_,i=>by simp[AS]
 | k::κ,h,i=>by
   have hk:=h k (by simp)
   rw[NQ (zV hk)]
   cases i with
   | zero=>simp[zV hk]
   | succ i=>rw[b9V,b9V];exact US (fun x hx=>h x (yV _ hx)) i
theorem QW {α:Type}{ls:List α}:∀{κ:List Nat},(∀k∈κ,k < ls.length)->(AS ls κ).length=κ.length
 | [],_=>rfl
 | k::κ,h=>by
   rw[NQ (zV (h k (by simp))),yR,yR,QW fun x hx=>h x (yV _ hx)]
theorem kF {α β:Type}(f:α->β) (ls:List α) (κ:List Nat):(AS ls κ).map f=AS (ls.map f) κ:=by
 unfold AS
 rw[List.map_filterMap]
 congr 1
 funext k
 rw[zF]
theorem kG {α:Type}{ls:List α}{κ:List Nat}{l:α}(h:l∈AS ls κ):l∈ls:=by
 obtain⟨k,_,e⟩:=List.mem_filterMap.mp h
 exact yN e
theorem kH {κ:List Nat}(h:κ.Pairwise (· < ·)) {i j a b:Nat}(ha:κ[i]?=some a) (hb:κ[j]?=some b):(a < b↔i < j)/\(a=b↔i=j):=by
 obtain⟨hi,rfl⟩:=yT.mp ha
 obtain⟨hj,rfl⟩:=yT.mp hb
 have p:=List.pairwise_iff_getElem.mp h
 rcases b4Z i j with q | q | q
 · have:=p i j hi hj q;exact⟨⟨fun _=>q,fun _=>this⟩,⟨fun e=>by omega,fun e=>by omega⟩⟩
 · subst q;exact⟨by simp,by simp⟩
 · have:=p j i hj hi q;exact⟨⟨fun e=>by omega,fun e=>by omega⟩,⟨fun e=>by omega,fun e=>by omega⟩⟩
end DL
namespace DL
open PySem PySem.Spec L2 XC
section
variable {M:Own}{Q:DS->Own->Prop}{w:List Th}{ls:List (Str×Deed)}
def ER:FSp:=⟨fun xs M=>∃(w:List Th) (ls:List (Str×Deed)) (κ:List Nat),xs=[.d (AH w ls),.d (.list (AD κ))]/\(∀k∈κ,k < ls.length)/\κ.length<=60,fun xs M y M'=>∀(w:List Th) (ls:List (Str×Deed)) (κ:List Nat),xs=[.d (AH w ls),.d (.list (AD κ))]->y = .d (AH w (AS ls κ))/\M'=M⟩
theorem XH {κ:List Nat}(hκ:∀k∈κ,k < ls.length) (hl:κ.length<=60) (q:Q (.d (AH w (AS ls κ))) M):[DS.d (AH w ls),.d (.list (AD κ))].length=2/\ER.pre [.d (AH w ls),.d (.list (AD κ))] M/\∀x M',ER.post [.d (AH w ls),.d (.list (AD κ))] M x M'->Q x M':=
 ⟨rfl,⟨w,ls,κ,rfl,hκ,hl⟩,fun x M' h=>by obtain⟨rfl,rfl⟩:=h w ls κ rfl;exact q⟩
end
theorem D4 {w w':List Th}{ls ls':List (Str×Deed)}(h:AH w ls=AH w' ls'):wD w=wD w'/\ls=ls':=by
 refine⟨?_,FJ h⟩
 unfold AH at h
 simp only[PyData.tuple.injEq,List.cons.injEq,and_true] at h
 exact h.1
def fLn (ls:List (Str×Deed)):PyData->PyData | .int i=>(ls.map AL).getD i.toNat .none | _=>.none
theorem LG {ls:List (Str×Deed)}:∀{κ:List Nat},(∀k∈κ,k < ls.length)->(AD κ).map (fLn ls)=(AS ls κ).map AL
 | [],_=>rfl
 | k::κ,h=>by
   have hk:=h k (by simp)
   rw[NQ (zV hk),zI]
   show fLn ls (.int (k:Int))::(AD κ).map (fLn ls)=_
   rw[LG fun x hx=>h x (yV _ hx)]
   congr 1
   show(ls.map AL).getD ((k:Int)).toNat .none=_
   rw[a2J,yU,zF,zV hk]
   rfl
end DL
namespace DL
open PySem PySem.Spec L2 XC
theorem oQ (ls:List (Str×Deed)) (κ:List Nat):dsL (AS ls κ)=AS (dsL ls) κ:=kF _ _ _
section
variable {M:Own}{Q:DS->Own->Prop}{w:List Th}{ls:List (Str×Deed)}
def okN (w:List Th):Prop:=∀t∈w,AO t.1
end
end DL
namespace L2
open PySem PySem.Spec PyProof.Rows
section
variable {prog:Program}{w:World}{A:Around}{E:Value->Shared->Prop}{s:Shared}
theorem bX {i t:Addr}{k:Nat}{items:Array Value}(hh:A.handled=none) (hx:items[k]?=none):NxE prog w A i (fun h=>h.IsTupleIter i t k/\h.IsTuple t items):=fun s Q E hS hE=>by
 obtain⟨hit,ht⟩:=hS
 obtain⟨o,ho,hc,hd⟩:=id hit
 obtain⟨ol,hol,hcl,nl,hdl⟩:=id ht
 unfold a2X;refine zZ (wpAny_callSpecial?_slot (name:=a0Q "__next__") hit.typeIs b1J (wpAny_call_entry b1J hit.typeIs F.entry_tuple_iterator_next ?_ (F.args_tuple_iterator_next_1 _)))
 show wpAny _ _ (field (.ref i) 0 >>= _) _ _ s
 refine zZ (wpAny_field ho hd (x:=.ref t) rfl ?_);show wpAny _ _ (if (a0Z t==a2Z)=true then _ else _) _ _ s
 rw[if_neg (show ¬((a0Z t==a2Z)=true) from nft)];show wpAny _ _ (field (.ref i) 1 >>= _) _ _ s
 refine zZ (wpAny_field ho hd (x:=.int k 0) rfl ?_);show wpAny _ _ (seqItems? (.ref t) >>= _) _ _ s
 refine zZ (wpAny_seqItems hol hdl ?_);simp only[a2J,hx]
 refine zZ (wpAny_rule (zZ (wpAny_setField ho hd (by simp) (zZ ?_))))
 simp only[newExc,newTuple];refine zZ (xM (zZ (m:=firstArgMember _ _) (wpAny_of_eq (a:=a2Z) (by first | rfl | (simp only[firstArgMember];rfl)) (xM ?_ (by size_fits)))) (by size_fits))
 simp only[raiseNew];refine zZ (wpAny_handled ?_);first | rw[show A.in1.handled=none from hh] | rw[hh]
 exact zZ (zY (wpAny_throw (hE _ _ (((b9K ..).extBut.push _).push _) ⟨_,yZ _ rfl,rfl⟩)))
end
def wH (K:Frg) (l1 l2:Addr):It:=
 ⟨fun i H=>∃xs ys,SqT K H l1 xs/\SqT K H l2 ys/\i < xs.length/\i < ys.length,
  fun i H v H'=>∃p a b,H p=none/\v = .ref p/\H'=upd H p (.tup [a,b])/\(∀xs,SqT K H l1 xs->xs[i]?=some a)/\∀ys,SqT K H l2 ys->ys[i]?=some b,
  fun i H=>∃xs ys,SqT K H l1 xs/\SqT K H l2 ys/\(xs.length<=i∨ys.length<=i)⟩
theorem ZP {P:Program}{w:World}{K:Frg}{elts:List Expr}{kk:Nat}{tpos:Pos}(z TI TO i1 i2:Addr) (l1 l2:Addr) (d1:TI≠z) (d2:TO≠z) (d3:i1≠z) (d4:i2≠z) (d5:TI≠TO) (d6:TI≠i1) (d7:TI≠i2) (d8:TO≠i1) (d9:TO≠i2) (d10:i1≠i2) :
   Turn P w K (.Tuple elts kk tpos) (wH K l1 l2) [z,TI,TO,i1,i2] z (fun i h=>IsZip h z TI TO .none/\IsPair h TI (.ref i1) (.ref i2)/\(∃a b,IsPair h TO a b)/\h.IsTupleIter i1 l1 i/\h.IsTupleIter i2 l2 i) where
 mem:=by simp
 obj:=fun i h ⟨a1,a2,⟨x,y,a3⟩,a4,a5⟩ b hb=>by
   simp only[yX,xX,or_false] at hb
   rcases hb with rfl | rfl | rfl | rfl | rfl
   · exact⟨_,a1,fun v q=>by cases q⟩
   · exact⟨_,a2,fun v q=>by cases q⟩
   · exact⟨_,a3,fun v q=>by cases q⟩
   · obtain⟨o,e,c,d⟩:=a4;exact⟨o,e,fun v q=>by rw[d] at q;cases q⟩
   · obtain⟨o,e,c,d⟩:=a5;exact⟨o,e,fun v q=>by rw[d] at q;cases q⟩
 keep:=fun i h h' ⟨a1,a2,⟨x,y,a3⟩,⟨o4,e4,r4⟩,⟨o5,e5,r5⟩⟩ k=>⟨k z (by simp) _ a1,k TI (by simp) _ a2,⟨x,y,k TO (by simp) _ a3⟩,⟨o4,k i1 (by simp) o4 e4,r4⟩,⟨o5,k i2 (by simp) o5 e5,r5⟩⟩
 item:=by
   intro X hP hw hK hc i pins s σ H E I hf ⟨a1,a2,⟨x0,y0,a3⟩,a4,a5⟩ hg
   subst hP hw hK
   obtain⟨xs,ys,hx,hy,lx,ly⟩:=hg
   obtain⟨its1,rx,px,_⟩:=I.tuple hx
   obtain⟨its2,ry,py,_⟩:=I.tuple hy
   obtain⟨u,hu,ru⟩:=rx.get (zV lx)
   obtain⟨v,hv,rv⟩:=ry.get (zV ly)
   have ne1:∀c∈[z,TI,TO,i1,i2],l1≠c:=fun c hc=>UE I (hf c hc) hx
   have ne2:∀c∈[z,TI,TO,i1,i2],l2≠c:=fun c hc=>UE I (hf c hc) hy
   have D:ZAp z TI TO i1 i2 [i1,l1] [i2,l2]:=⟨d2,d3,d4,d8,d9,d10,fun c hc=>by
       rcases yX.mp hc with rfl | hc
       · exact⟨d3,d8.symm,d10⟩
       · have:c=l1:=by simpa using hc
         subst this;exact⟨ne1 z (by simp),ne1 TO (by simp),ne1 i2 (by simp)⟩,fun c hc=>by
       rcases yX.mp hc with rfl | hc
       · exact⟨d4,d9.symm,d10.symm⟩
       · have:c=l2:=by simpa using hc
         subst this;exact⟨ne2 z (by simp),ne2 TO (by simp),ne2 i1 (by simp)⟩⟩
   have t1:∀k,FT [i1,l1] (fun h=>h.IsTupleIter i1 l1 k/\h.IsTuple l1 its1.toArray):=fun k h h' ⟨⟨o,e,r⟩,⟨o',e',r'⟩⟩ q=>⟨⟨o,q i1 (by simp) o e,r⟩,⟨o',q l1 (by simp) o' e',r'⟩⟩
   have t2:∀k,FT [i2,l2] (fun h=>h.IsTupleIter i2 l2 k/\h.IsTuple l2 its2.toArray):=fun k h h' ⟨⟨o,e,r⟩,⟨o',e',r'⟩⟩ q=>⟨⟨o,q i2 (by simp) o e,r⟩,⟨o',q l2 (by simp) o' e',r'⟩⟩
   refine dI (R1:=fun x=>x=u) (R2:=fun x=>x=v) D (t1 i) (t1 (i+1)) (t2 i) (t2 (i+1)) (fun A=>Z2 (ne1 i1 (by simp)) (by simpa using hu)) (fun A=>Z2 (ne2 i2 (by simp)) (by simpa using hv)) a1 a2 a3 ⟨a4,px⟩ ⟨a5,py⟩
     (fun h ⟨⟨o,e,_⟩,_⟩=>zM e) (fun h ⟨⟨o,e,_⟩,_⟩=>zM e) fun h' tk u1 u2 eu1 eu2 b1 b2 b3 b4 b5 b6 hk=>?_
   subst eu1;subst eu2
   refine⟨_,rfl,wpAny_letOwnedTupleGo_zip (s:={ s with heap:=h',toks:=tk }) b1 fun h2 c1 sb=>?_⟩
   have lt:∀{c o},s.heap.get? c=some o->s.heap.objs.size≠c:=fun e=>a8Z (zM e)
   have keep:∀b o,b∉[z,TO,i1,i2]->s.heap.get? b=some o->h2.get? b=some o:=fun b o hb e=>by
     simp only[yX,xX,or_false,not_or] at hb
     exact sb.extBut b o hb.1 (hk b o hb.1 hb.2.1 hb.2.2.1 hb.2.2.2 e)
   have sub:∀b∈[z,TO,i1,i2],b∈[z,TI,TO,i1,i2]:=fun b hb=>by
     simp only[yX,xX,or_false] at hb ⊢
     rcases hb with h | h | h | h <;> simp[h]
   have hTz:s.heap.objs.size≠z:=lt a1
   have I1:Inv X pins σ (upd H s.heap.objs.size (.tup [xs[i],ys[i]])) { s with heap:=h2,toks:=tk }:=I.turnedT (t':=tk) (ch:=[z,TO,i1,i2]) keep (fun b hb=>(hf b (sub b hb)).1)
     (fun b hb=>let q:=hf b (sub b hb);⟨q.2.2.2.1,q.2.1,q.2.2.2.2.1,q.2.2.2.2.2⟩) (zR _)
     ⟨by show 2<=sizeLine;decide,[u1,u2],.cons ru (.cons rv .nil),⟨_,sb.extBut _ _ hTz b5,rfl,_,rfl⟩⟩
   refine⟨.ref s.heap.objs.size,_,I1,rfl,⟨s.heap.objs.size,xs[i],ys[i],I.hok.fresh (zR _),rfl,rfl,fun xs' hx'=>?_,fun ys' hy'=>?_⟩,
     ⟨c1,keep _ _ ?_ a2,⟨_,_,sb.extBut _ _ d2 b2⟩,b3.1.extBut sb.extBut d3,b4.1.extBut sb.extBut d4⟩,fun b hb=>?_⟩
   · rw[I.tuple_inj hx' hx];exact zV lx
   · rw[I.tuple_inj hy' hy];exact zV ly
   · simp[d1,d5,d6,d7]
   · have hlt:s.heap.objs.size≠b:=by
       simp only[yX,xX,or_false] at hb
       rcases hb with rfl | rfl | rfl | rfl | rfl
       · exact lt a1
       · exact lt a2
       · exact lt a3
       · obtain⟨o,e,_⟩:=a4;exact lt e
       · obtain⟨o,e,_⟩:=a5;exact lt e
     rw[AJ (b4K hlt)]
     exact(hf b hb).1
 done:=by
   intro X hP hw hK hc i pins s σ H E I hf ⟨a1,a2,⟨x0,y0,a3⟩,a4,a5⟩ hg
   subst hP hw hK
   obtain⟨xs,ys,hx,hy,hle⟩:=hg
   obtain⟨its1,rx,px,_⟩:=I.tuple hx
   obtain⟨its2,ry,py,_⟩:=I.tuple hy
   have ne1:∀c∈[z,TI,TO,i1,i2],l1≠c:=fun c hc=>UE I (hf c hc) hx
   have ne2:∀c∈[z,TI,TO,i1,i2],l2≠c:=fun c hc=>UE I (hf c hc) hy
   have D:ZAp z TI TO i1 i2 [i1,l1] [i2,l2]:=⟨d2,d3,d4,d8,d9,d10,fun c hc=>by
       rcases yX.mp hc with rfl | hc
       · exact⟨d3,d8.symm,d10⟩
       · have:c=l1:=by simpa using hc
         subst this;exact⟨ne1 z (by simp),ne1 TO (by simp),ne1 i2 (by simp)⟩,fun c hc=>by
       rcases yX.mp hc with rfl | hc
       · exact⟨d4,d9.symm,d10.symm⟩
       · have:c=l2:=by simpa using hc
         subst this;exact⟨ne2 z (by simp),ne2 TO (by simp),ne2 i1 (by simp)⟩⟩
   have t1:∀k,FT [i1,l1] (fun h=>h.IsTupleIter i1 l1 k/\h.IsTuple l1 its1.toArray):=fun k h h' ⟨⟨o,e,r⟩,⟨o',e',r'⟩⟩ q=>⟨⟨o,q i1 (by simp) o e,r⟩,⟨o',q l1 (by simp) o' e',r'⟩⟩
   have t2:∀k,FT [i2,l2] (fun h=>h.IsTupleIter i2 l2 k/\h.IsTuple l2 its2.toArray):=fun k h h' ⟨⟨o,e,r⟩,⟨o',e',r'⟩⟩ q=>⟨⟨o,q i2 (by simp) o e,r⟩,⟨o',q l2 (by simp) o' e',r'⟩⟩
   have sub:∀b∈[z,TO,i1,i2],b∈[z,TI,TO,i1,i2]:=fun b hb=>by
     simp only[yX,xX,or_false] at hb ⊢
     rcases hb with h | h | h | h <;> simp[h]
   refine dJ (TI:=TI) (TO:=TO) (i1:=i1) (i2:=i2) (I.ok.hd hc) a1 (fun Q' E' hE' A' hA'=>?_) fun h' tk hk=>⟨rfl,I.turnedL (t':=tk) (ch:=[z,TO,i1,i2]) (fun b o hb e=>?_) (fun b hb=>(hf b (sub b hb)).1) fun b hb=>let q:=hf b (sub b hb);⟨q.2.2.2.1,q.2.1,q.2.2.2.2.1,q.2.2.2.2.2⟩⟩
   · by_cases hxl:i < xs.length
     · obtain⟨u,hu,ru⟩:=rx.get (zV hxl)
       have hyl:its2.toArray[i]?=none:=c0K (by have:=ry.length;simp;omega)
       exact dH (R1:=fun x=>x=u) D (t1 i) (t2 i) (Z2 (ne1 i1 (by simp)) (by simpa using hu)) (bX hA' hyl) a1 a2 a3 ⟨a4,px⟩ ⟨a5,py⟩ hE'
     · have hxl':its1.toArray[i]?=none:=c0K (by have:=rx.length;simp;omega)
       exact dG D (t1 i) (bX hA' hxl') a1 a2 a3 ⟨a4,px⟩ hE'
   · simp only[yX,xX,or_false,not_or] at hb
     exact hk b o hb.1 hb.2.1 hb.2.2.1 hb.2.2.2 e
 self:=fun _ _ _ _ _ st h=>wpAny_pyIter_zip st.1 h
section
variable {X:Cx}{K:Frg}
def qE (K:Frg) (ta:TA):TI:=fun σ H R=>ta σ H fun vs H1=>∃a b,vs=[.ref a,.ref b]/\(∃xs,SqT K H1 a xs)/\(∃ys,SqT K H1 b ys)/\R (wH K a b) H1
theorem wI {a b:Expr}{ta:TA}{p pos:Pos}{elts:List Expr}{kk:Nat}{tpos:Pos}(h:X.K=K) (hg:Gl X "zip") (hm:X.mg "zip"=none) (ha:PA X [a,b] ta) (hs:starEach [a,b] X.env=[(false,eval a X.env),(false,eval b X.env)]:=by rfl) (hs2:starEach [b] X.env=[(false,eval b X.env)]:=by rfl) :
   PI X (.Tuple elts kk tpos) (.Call (.Name "zip" p) [a,b] [] pos) (qE K ta):=by
 subst h
 intro pins s σ H R I h
 refine Call_ (HK I hg hm boot_zip (xH (thn (ha pos pins s σ H _ I h) fun us s1 ⟨vs,H1,I1,r1,q1⟩=>?_) (by rw[hs,hs2]) (by rw[hs2];rfl)))
 have ne:∀(m n:Nat),m≠n->s1.heap.objs.size+m≠s1.heap.objs.size+n:=fun m n h e=>h (Nat.add_left_cancel e)
 have fp:∀b∈[s1.heap.objs.size+4,s1.heap.objs.size+2,s1.heap.objs.size+3,s1.heap.objs.size,s1.heap.objs.size+1],L1 X pins H1 b:=fun b hb=>by
   have hle:s1.heap.objs.size<=b:=by
     simp only[yX,xX,or_false] at hb
     rcases hb with rfl | rfl | rfl | rfl | rfl
     · exact a8Q _ _
     · exact a8Q _ _
     · exact a8Q _ _
     · exact zR _
     · exact a8Q _ _
   exact I1.fpOk hle (I1.hok.fresh hle)
 obtain⟨l1,l2,rfl,⟨xs,hx⟩,⟨ys,hy⟩,q⟩:=q1
 cases r1 with
 | cons r rr=>
   cases rr with
   | cons r' rr=>
     cases rr;cases r';cases r
     obtain⟨its1,rx,px,_⟩:=I1.tuple hx
     obtain⟨its2,ry,py,_⟩:=I1.tuple hy
     refine dL (bF (t:=l1) (items:=its1.toArray)) (bF (t:=l2) (items:=its2.toArray)) (fun h o q=>q.push o) rfl rfl px py fun h' b1 b2 b3 b4 b5 hk=>?_
     refine wpAny_pyIter_zip (s:={ s1 with heap:=h' }) b1 ?_
     exact⟨s1.heap.objs.size+4,[s1.heap.objs.size+4,s1.heap.objs.size+2,s1.heap.objs.size+3,s1.heap.objs.size,s1.heap.objs.size+1],_,_,H1,rfl,I1.kept (t':=s1.toks) hk,
       ZP (s1.heap.objs.size+4) (s1.heap.objs.size+2) (s1.heap.objs.size+3) s1.heap.objs.size (s1.heap.objs.size+1) l1 l2 (ne 2 4 (by decide)) (ne 3 4 (by decide)) (ne 0 4 (by decide)) (ne 1 4 (by decide)) (ne 2 3 (by decide)) (ne 2 0 (by decide)) (ne 2 1 (by decide)) (ne 3 0 (by decide)) (ne 3 1 (by decide)) (ne 0 1 (by decide)),
       ⟨b1,b2,⟨_,_,b3⟩,⟨_,b4,rfl,rfl⟩,⟨_,b5,rfl,rfl⟩⟩,fp,q⟩
def wJ (i j:Nat) (te:TE):TS:=fun D σ H=>te σ H fun v H1=>D.nx ((σ.set i (some v)).set j (some v)) H1
theorem uA {i j:Nat}{x y:Str}{e:Expr}{te:TE}{px py pos:Pos}(hN:X.N.Nodup) (hi:X.N[i]?=some x) (hj:X.N[j]?=some y) (hx:Loc X.env.scope x) (hy:Loc X.env.scope y) (he:PE X e te)
   (ht:(assignEach [.Name x px,.Name y py] X.env).map (·.2)=[assign (.Name x px) X.env,assign (.Name y py) X.env]:=by rfl) (hw:swappedStores [.Name x px,.Name y py] e X.env=pure none:=by rfl)
   (hf:X.fn x=true∨X.env.scope.names.lookup x=some .local:=by first | exact .inl rfl | exact .inr rfl | assumption) (hf2:X.fn y=true∨X.env.scope.names.lookup y=some .local:=by first | exact .inl rfl | exact .inr rfl | assumption) :
   PS X (.Assign [.Name x px,.Name y py] e pos) (wJ i j te):=by
 intro pins s σ H D I h
 refine wpAny_Assign_two (thn (he pins s σ H _ I h) fun v s1 ⟨u,H1,I1,r1,q1⟩=>?_) ht hw
 refine wpAny_assign_Name (FO I1 hN hi hx r1 (fun s2 I2=>?_) hf)
 exact wpAny_assign_Name (FO I2 hN hj hy r1 (fun s3 I3=>⟨_,H1,I3,q1⟩) hf2)
end
end L2
namespace DL
open PySem PySem.Spec L2
section
variable {K:Frg}{ρ:List (Option DS)}{M:Own}{QI:List PyData->Own->Prop}
theorem oR {ta:TA}(h:DA K ta ρ M fun xs M1=>∃as bs,xs=[.d (.tuple as),.d (.tuple bs)]/\QI (OI as bs) M1):DI K (qE K ta) ρ M QI:=fun σ H R Rl k=>
 h σ H _ Rl fun vs H1 xs M1 o1 s1 t1 ⟨as,bs,e,q⟩=>by
   subst e
   obtain⟨v,r,rfl,h1,v2,r2,rfl,h2,h3⟩:=s1
   cases h3
   unfold SI DV at h1 h2
   obtain⟨a,va,rfl,hl1,hd1⟩:=h1
   obtain⟨b,vb,rfl,hl2,hd2⟩:=h2
   have hlen:(OI as bs).length=min as.length bs.length:=by unfold OI;rw[zX,List.length_zip]
   refine⟨a,b,rfl,⟨va,hl1.sq⟩,⟨vb,hl2.sq⟩,k _ (OI as bs) H1 M1 o1 t1 ⟨fun i H' M' hi oa st=>?_,fun H' M' oa st=>?_,fun i H' M' x H2 oa st hi y=>?_⟩ q⟩
   · rw[hlen] at hi
     exact⟨va,vb,(hl1.grow st.grow).sq,(hl2.grow st.grow).sq,by rw[hd1.length];omega,by rw[hd2.length];omega⟩
   · refine⟨va,vb,(hl1.grow st.grow).sq,(hl2.grow st.grow).sq,?_⟩
     rw[hlen,hd1.length,hd2.length];omega
   · obtain⟨p,xa,xb,hp,rfl,rfl,hx,hy⟩:=y
     obtain⟨da,f1,f2⟩:=hd1.get (hx va (hl1.grow st.grow).sq)
     obtain⟨db,g1,g2⟩:=hd2.get (hy vb (hl2.grow st.grow).sq)
     have gg:Grow K M'.W M'.W H' (upd H' p (.tup [xa,xb])):=AY _ hp
     refine⟨oa.new hp,⟨gg⟩,.tuple [da,db],?_,?_⟩
     · unfold OI
       rw[zF]
       have:(as.zip bs)[i]?=some (da,db):=by rw[b8X];exact⟨f1,g1⟩
       rw[this];rfl
     · unfold DV
       exact⟨p,_,rfl,.inl ⟨fun w=>w (oa.none hp),.inl AI⟩,DVs.cons ((f2.grow st.grow).grow gg) (DVs.cons ((g2.grow st.grow).grow gg) DVs.nil)⟩
theorem uB {i j:Nat}{te:TE}{D:EndsD}(h:DE K te ρ M fun x M1=>D.nx ((ρ.set i (some x)).set j (some x)) M1):DSt K (wJ i j te) ρ M D:=fun σ H E R k1 _ _ _=>
 h σ H _ R fun v H' x M' a b c q=>k1 _ M' _ H' (((R.step a c).set b i).set b j) c q
end
end DL
namespace L2
open PySem PySem.Spec PyProof.Rows
section
variable {X:Cx}
def ZQ (i j:Int):List V:=(a0V (j - i).toNat).map fun k:Nat=>V.int (i+k)
def bY (te:TA):TE:=fun σ H Q=>te σ H fun vs H1=>∃i j:Int,vs=[.int i,.int j]/\(-(2 ^ 40)<=i/\i < 2 ^ 40/\-(2 ^ 40)<=j/\j < 2 ^ 40)/\(j - i).toNat<=1000/\∀p,H1 p=none->Q (.ref p) (upd H1 p (.lst (ZQ i j)))
theorem T9 {a b:Expr}{te:TA}{np rp pos mp:Pos}(hh:X.A.handled=none) (hg:Gl X "range") (hm:X.mg "range"=none) (hg2:Gl X "list") (hm2:X.mg "list"=none) (he:PA X [a,b] te)
   (hs:starEach [.Call (.Name "range" np) [a,b] [] rp] X.env=[(false,eval (.Call (.Name "range" np) [a,b] [] rp) X.env)]:=by rfl) (hs1:starEach [a,b] X.env=[(false,eval a X.env),(false,eval b X.env)]:=by rfl) (hs2:starEach [b] X.env=[(false,eval b X.env)]:=by rfl) :
   PE X (.Call (.Name "list" mp) [.Call (.Name "range" np) [a,b] [] rp] [] pos) (bY te):=by
 intro pins s σ H Q I h
 refine wpAny_Call_Name_kw (HK I hg2 hm2 b1K ?_)
 refine xH ?_ hs rfl
 rw[hs]
 refine(show wpAny _ _ (spliced ((false,eval (.Call (.Name "range" np) [a,b] [] rp) X.env)::backTo pos (starEach [] X.env))) _ _ _ from xP ?_)
 refine wpAny_Call_Name_kw (HK I hg hm boot_range ?_)
 refine xH (thn (he rp pins s σ H _ I h) fun us s1 ⟨vs,H1,I1,r1,q1⟩=>?_) (by rw[hs1,hs2]) (by rw[hs2];rfl)
 obtain⟨i,j,rfl,⟨b1,b2,b3,b4⟩,hn,q⟩:=q1
 cases r1 with
 | cons r rr=>
   cases rr with
   | cons r' rr=>
     cases rr
     obtain⟨t,rfl⟩:=r
     obtain⟨t',rfl⟩:=r'
     refine call_range_2 ?_
     refine(show wpAny _ _ (spliced []) _ _ _ from zY ?_)
     refine call_list_range (n:=(j - i).toNat) hh (IsRange.new ..) (small_one (by omega) (by omega) (by omega) (by omega)) (by rw[rangeSize_one];split <;> omega) (zN hn (by decide)) fun h' tk acc c hk ho hacc=>?_
     have I2:Inv X pins σ H1 { s1 with heap:=s1.heap.push { cls:=.type "range", data:=.fields #[.int i t,.int j t',.int 1 s1.toks] },toks:=s1.toks+1 }:=I1.kept fun b o e=>zW _ e
     have hv:Vals (ZQ i j) acc.toList:=by
       have go:∀(vs:List Value) (m:Nat) (k:Int),vs.length=m->(∀n,n < m->∃t,vs[n]?=some (b8J (k+(n:Nat)) t))->Vals ((a0V m).map fun n:Nat=>V.int (k+n)) vs:=by
         intro vs
         induction vs with
         | nil=>intro m k e _;cases e;exact .nil
         | cons x r ih=>
           intro m k e hx
           cases e
           rw[yR,List.range_succ_eq_map,zI,zD]
           refine .cons ?_ ?_
           · obtain⟨t,ht⟩:=hx 0 (by simp)
             have:x=b8J (k+((0:Nat):Int)) t:=by simpa using ht
             rw[this];exact⟨t,rfl⟩
           · have:=ih r.length (k+1) rfl fun n hn=>by
               obtain⟨t,ht⟩:=hx (n+1) (by simpa using hn)
               refine⟨t,?_⟩
               rw[b9V] at ht
               rw[ht];congr 2;omega
             have e2:((fun n:Nat=>V.int (k+n))∘Nat.succ)=fun n:Nat=>V.int (k+1+n):=by
               funext n;show V.int _=V.int _;congr 1;simp;omega
             rw[e2];exact this
       refine go acc.toList (j - i).toNat i (by rw[a4K];exact hacc.1) fun n hn=>?_
       have hi2:n < acc.size:=by rw[hacc.1];exact hn
       obtain⟨t,ht⟩:=hacc.2 n acc[n] (Array.getElem?_eq_getElem hi2)
       refine⟨t,?_⟩
       rw[a7W,Array.getElem?_eq_getElem hi2,ht];simp
     have I3:Inv X pins σ (upd H1 (s1.heap.push { cls:=.type "range", data:=.fields #[.int i t,.int j t',.int 1 s1.toks] }).objs.size (.lst (ZQ i j))) { s1 with heap:=h',toks:=tk }:=
       I2.laid (t':=tk) hk (zR _) (show ObjOk X.prog X.w _ _ _ (.lst _) from ⟨by unfold ZQ;rw[zX,xZ];exact zN hn (by decide),acc.toList,c,hv,by simpa using ho⟩)
     exact⟨.ref _,_,I3,rfl,q _ (I2.hok.fresh (zR _))⟩
end
end L2
namespace DL
open PySem PySem.Spec L2 XC
section
variable {K:Frg}{ρ:List (Option DS)}{M:Own}{Q:DS->Own->Prop}
def eV (i j:Int):List PyData:=(a0V (j - i).toNat).map fun k:Nat=>a3Q (i+k)
theorem TB {te:TA}(h:DA K te ρ M fun xs M1=>∃i j:Int,xs=[.d (.int i),.d (.int j)]/\(-(2 ^ 40)<=i/\i < 2 ^ 40/\-(2 ^ 40)<=j/\j < 2 ^ 40)/\(j - i).toNat<=1000/\Q (.d (.list (eV i j))) M1):DE K (bY te) ρ M Q:=fun σ H QQ Rl k=>
 h σ H _ Rl fun vs H1 xs M1 o1 s1 t1 ⟨i,j,ex,hb,hn,q⟩=>by
   subst ex
   obtain⟨v,r,rfl,sv,v2,r2,rfl,sv2,rfl⟩:=s1
   unfold SI DV at sv sv2
   subst sv;subst sv2
   refine⟨i,j,rfl,hb,hn,fun p hp=>?_⟩
   have g:Grow K M1.W M1.W H1 (upd H1 p (.lst (ZQ i j))):=AY _ hp
   refine k _ _ (.d (.list (eV i j))) M1 (o1.new hp) ?_ (t1.trans ⟨g⟩) q
   unfold SI DV
   refine⟨p,_,rfl,.inl ⟨fun w=>w (o1.none hp),.inl AI⟩,?_⟩
   have e1:eV i j=((a0V (j - i).toNat).map fun k:Nat=>i+(k:Int)).map a3Q:=by unfold eV;rw[zD];rfl
   have e2:ZQ i j=((a0V (j - i).toNat).map fun k:Nat=>i+(k:Int)).map V.int:=by unfold ZQ;rw[zD];rfl
   rw[e1,e2]
   exact EQ
end
end DL
namespace L2
open PySem PySem.Spec PyProof.Rows
def wK:List Nat:=[0,1,2,3,4,5,6,7,8,9,10,11,12,13,14,15,16,17,18,19,20,21,22,23]
theorem kI {x:Str}{i:Nat}:∀(l:List Str) (k n:Nat),(l.zip (List.range' k n)).lookup x=some i->k<=i/\l[i - k]?=some x
 | [],_,_,h=>by cases h
 | _::_,_,0,h=>by cases h
 | a::r,k,n+1,h=>by
   rw[List.range'_succ,a6J,a3X] at h
   split at h
   · rename_i e
     have h:=Option.some.inj h
     subst h
     rw[Nat.sub_self]
     exact⟨zR _,by rw[eq_of_beq e];rfl⟩
   · obtain⟨h1,h2⟩:=kI r (k+1) n h
     refine⟨by omega,?_⟩
     rw[show i - k=(i - (k+1))+1 by omega]
     exact h2
theorem UT {l:List Str}{x:Str}{i:Nat}(h:(l.zip wK).lookup x=some i):l[i]?=some x:=(kI l 0 24 h).2
theorem pvx {X:Cx}{i:Nat}{x:Str}{pos:Pos}(h:(X.N.zip wK).lookup x=some i) (hv:Vis X.env.scope x) (hd:(x==("__debug__":Str))=false:=by decide)
   (hcd:(x==("__classdict__":Str))=false:=by decide):PE X (.Name x pos) (cF i):=fM (UT h) hv hd hcd
end L2
namespace DL
open PySem PySem.Spec L2
theorem IB {K:Frg}{M:Own}{Q:DS->Own->Prop}{a b:Str}{t:Bool}(h:(zH (.str a)&&zH (.str b)&&(a0X (.str a) (.str b)==t))=true) (q:Q (.d (.bool t)) M):D2 K (cV K false) (.d (.str a)) (.d (.str b)) M Q:=by
 simp only[a1J,beq_iff_eq] at h
 exact B4 h.1.1 h.1.2 (by rw[if_neg nft,h.2];exact q)
end DL
namespace L2
open PySem PySem.Spec
def wL (scope:Scope) (NC:List Str):Bool:=(NC.all fun x=>(scope.names.lookup x).isSome)&&scope.names.all fun y=>!(y.2==.local||y.2==.free||y.2==.cell)||y.1==a0Q ".0" || NC.contains y.1
theorem DW {X:Cx}{scope:Scope}{NC:List Str}{fr:List (Option Nat)}{osc:Scope}{ON:List Str}(_:wL scope NC=true) (h:gY osc ON scope NC fr=true) (e:X.env.scope=osc) (eN:X.N=ON):CSc X scope NC fr:=CSc.of h e eN
end L2
namespace HT
open PySem PySem.Spec
theorem pick_revL (xs:Array Value):slicePick xs none none (some (-1))=xs.toList.reverse.toArray:=by
 have hb:sliceBounds none none (some (-1)) xs.size=((xs.size:Int) - 1,-1,-1):=rfl
 unfold slicePick
 rw[hb]
 have hr:sliceRange ((xs.size:Int) - 1) (-1) (-1)=(a0V xs.size).map fun(m:Nat)=>((xs.size:Int) - 1+(m:Int)*(-1)).toNat:=by
   unfold sliceRange
   have hc:(if (-1:Int) > 0 then (if (xs.size:Int) - 1 < -1 then ((-1:Int) - ((xs.size:Int) - 1) + -1 - 1) / -1 else 0) else (if (xs.size:Int) - 1 > -1 then ((xs.size:Int) - 1 - -1 - -1 - 1)/(- -1) else 0)).toNat=xs.size:=by
     rw[if_neg (by decide)]
     split
     · rw[show(- -1:Int)=1 from rfl,Int.ediv_one];omega
     · omega
   dsimp only
   rw[hc]
   apply yM
   intro m _
   rw[Int.mul_comm]
 rw[hr,List.filterMap_map]
 exact iD xs
end HT
namespace L2
open PySem PySem.Spec PyProof.Rows
section
variable {X:Cx}{e st:Expr}{te ts:TE}{pos p2:Pos}
def wM (K:Frg):V->Hp->VK->Prop:=fun x H Q=>∃a xs,x = .ref a/\SqL K H a xs/\∀p,H p=none->Q (.ref p) (upd H p (.lst xs.reverse))
def kJ (K:Frg) (te ts:TE):TE:=fun σ H Q=>te σ H fun x H1=>ts σ H1 fun k H2=>k = .int (-1)/\wM K x H2 Q
theorem oS (he:PE X e te) (hst:PE X st ts):PE X (.Subscript e (.Slice none none (some st) p2) pos) (kJ X.K te ts):=by
 intro pins s σ H Q I h
 refine Subscript_ (thn (he pins s σ H _ I h) fun v s1 ⟨x,H1,I1,r1,q1⟩=>?_)
 refine wpAny_Slice ?_
 rw[evalPart_none]
 refine zY (zY ?_)
 rw[evalPart_some]
 refine thn (hst pins s1 σ H1 _ I1 q1) fun u s2 ⟨k,H2,I2,r2,q2⟩=>?_
 obtain⟨rfl,a,xs,rfl,hx,q⟩:=q2
 obtain⟨tk,rfl⟩:=r2
 cases r1
 have I3:Inv X pins σ H2 { s2 with heap:=s2.heap.push { cls:=.type "slice", data:=.fields #[.none,.none,.int (-1) tk] } }:=I2.kept (t':=s2.toks) fun b ob q=>zW _ q
 obtain⟨its,r,pl,hz⟩:=I3.list hx
 have ht:=pl.isList
 have hlen:its.toArray.size=xs.length:=by rw[zJ];exact r.length.symm
 show wpAny (model X.prog X.w) X.A (subscriptTail e (.Slice none none (some st) p2) (.ref a) (.ref s2.heap.objs.size)) (EP X pins σ Q) X.xe { s2 with heap:=s2.heap.push { cls:=.type "slice", data:=.fields #[.none,.none,.int (-1) tk] } }
 refine tail_any (ops:=[.ref a,.ref s2.heap.objs.size]) ht.typeIs slot_list_getitem.lookup ?_ (by with_unfolding_all rfl)
 refine wpAny_getItem_list_slice ht (Heap.IsSliceOf.new ..) .none .none (.int (-1) tk) (by simp) ?_ (by rw[hlen];exact hz)
 rw[HT.pick_revL]
 refine⟨.ref _,_,I3.laid (t':=s2.toks) (o:=.lst xs.reverse) (fun b ob q=>zW _ q) (zR _) ?_,rfl,q _ (I3.hok.fresh (zR _))⟩
 exact⟨by rw[List.length_reverse];exact hz,its.reverse,0,r.reverse,yZ _ rfl⟩
end
end L2
namespace DL
open PySem PySem.Spec L2
theorem wN {X:Cx}{K:Frg}{e st:Expr}{te ts:TE}{pos p2:Pos}(h:X.K=K) (he:PE X e te) (hst:PE X st ts):PE X (.Subscript e (.Slice none none (some st) p2) pos) (kJ K te ts):=h▸oS he hst
section
variable {K:Frg}{ρ:List (Option DS)}{M:Own}{Q:DS->Own->Prop}{te ts:TE}
theorem oU (h:DE K te ρ M fun x M1=>∃ds,x = .d (.list ds)/\DE K ts ρ M1 fun k M2=>k = .d (.int (-1))/\Q (.d (.list ds.reverse)) M2):DE K (kJ K te ts) ρ M Q:=fun σ H QQ R k=>
 h σ H _ R fun v H1 x M1 o1 s1 t1 h1=>by
   obtain⟨ds,rfl,h1⟩:=h1
   refine h1 σ H1 _ (R.step o1 t1) fun u H2 y M2 o2 s2 t2 h2=>?_
   obtain⟨rfl,q⟩:=h2
   have s1':=s1.step t2
   unfold SI DV at s1'
   obtain⟨a,vs,rfl,hl,hd⟩:=s1'
   refine⟨BF s2,a,vs,rfl,hl.sq,fun p hp=>?_⟩
   have g:Grow K M2.W M2.W H2 (upd H2 p (.lst vs.reverse)):=AY _ hp
   refine k _ _ (.d (.list ds.reverse)) M2 (o2.new hp) ?_ ((t1.trans t2).trans ⟨g⟩) q
   unfold SI DV
   exact⟨p,_,rfl,.inl ⟨fun w=>w (o2.none hp),.inl AI⟩,(DVs.reverse hd).grow g⟩
end
end DL
namespace DL
open PySem PySem.Spec L2 XC
mutual
def plD:PyData->Bool
 | .int _=>true
 | .str _=>true
 | .tuple ds=>plAll ds
 | _=>false
def plAll:List PyData->Bool
 | []=>true
 | d::r=>plD d&&plAll r
end
mutual
theorem ZR:∀(a b:PyData),plD a=true->plD b=true->a0X a b=true->a=b
 | .int i,.int j,_,_,h=>by simp only[a0X,beq_iff_eq] at h;rw[h]
 | .str i,.str j,_,_,h=>by simp only[a0X,beq_iff_eq] at h;rw[h]
 | .tuple xs,.tuple ys,h1,h2,h=>by
   simp only[a0X] at h
   rw[eqv_plAll xs ys (by simpa [plD] using h1) (by simpa [plD] using h2) h]
 | .int _,.str _,_,_,h=>by cases h
 | .int _,.tuple _,_,_,h=>by cases h
 | .str _,.int _,_,_,h=>by cases h
 | .str _,.tuple _,_,_,h=>by cases h
 | .tuple _,.int _,_,_,h=>by cases h
 | .tuple _,.str _,_,_,h=>by cases h
 | .none,_,h,_,_=>by cases h
 | .bool _,_,h,_,_=>by cases h
 | .list _,_,h,_,_=>by cases h
 | .dict _,_,h,_,_=>by cases h
 | _,.none,_,h,_=>by cases h
 | _,.bool _,_,h,_=>by cases h
 | _,.list _,_,h,_=>by cases h
 | _,.dict _,_,h,_=>by cases h
theorem eqv_plAll:∀(a b:List PyData),plAll a=true->plAll b=true->PyData.eqvAll a b=true->a=b
 | [],[],_,_,_=>rfl
 | x::xs,y::ys,h1,h2,h=>by
   simp only[plAll,a1J] at h1 h2
   simp only[PyData.eqvAll,a1J] at h
   rw[ZR x y h1.1 h2.1 h.1,eqv_plAll xs ys h1.2 h2.2 h.2]
 | [],_::_,_,_,h=>by cases h
 | _::_,[],_,_,h=>by cases h
end
abbrev Ln:=Str×Deed
theorem bZ (l:Ln):plD (AL l)=true:=by
 obtain⟨h,D⟩:=l
 cases D <;> rfl
theorem O1 {l:Ln}(h1:AO l.1) (h2:l.2.real):zH (AL l)=true:=by
 refine BD (EY ?_) ?_
 · simp only[List.forall_mem_cons]
   exact⟨C6 h1,zG (T8 h2.1),by simp⟩
 · have:l.2.d.depth<=3:=by cases l.2 <;> simp[Deed.d,a1V,a1Z]
   simp only[AL,a1V,a1Z];omega
def eqL (a b:Ln):Bool:=a0X (AL a) (AL b)
theorem uC {a b:Ln}(h:eqL a b=true):a=b:=by
 have:=ZR _ _ (bZ a) (bZ b) h
 exact(List.cons.inj (D0 (ls:=[a]) (ls':=[b]) (by simp[this]))).1
def AN:List Ln->List Ln->Nat
 | a::r,b::s=>if eqL a b then AN r s+1 else 0
 | _,_=>0
theorem K4:∀(A B:List Ln),AN A B<=A.length/\AN A B<=B.length/\A.take (AN A B)=B.take (AN A B)
 | [],_=>by simp[AN]
 | _::_,[]=>by simp[AN]
 | a::r,b::s=>by
   obtain⟨h1,h2,h3⟩:=K4 r s
   unfold AN
   by_cases e:eqL a b=true
   · rw[if_pos e]
     refine⟨by simp;omega,by simp;omega,?_⟩
     rw[b6X,b6X,h3,uC e]
   · rw[if_neg e];simp
def fEq:PyData->PyData
 | .tuple [a,b]=>.bool (a0X a b)
 | _=>.none
theorem ZS (A B:List Ln):((OI (A.map AL) (B.map AL)).map fEq++[a8V false]).findIdx? (fun e=>a0X e (.bool false))=some (AN A B):=by
 unfold OI
 induction A generalizing B with
 | nil=>cases B <;> rfl
 | cons a r ih=>
   cases B with
   | nil=>rfl
   | cons b s=>
     rw[zI,zI,a6J,zI,zI,List.cons_append,List.findIdx?_cons,ih s]
     rw[show AN (a::r) (b::s)=if eqL a b=true then AN r s+1 else 0 from by rw[AN]]
     show(if a0X (.bool (eqL a b)) (.bool false)=true then some 0 else Option.map (fun i=>i+1) (some (AN r s)))=_
     cases e:eqL a b with
     | true=>rfl
     | false=>rfl
theorem XJ (A B:List PyData):∃bs:List Bool,(OI A B).map fEq=bs.map .bool/\bs.length<=A.length:=by
 refine⟨(A.zip B).map fun p=>a0X p.1 p.2,?_,by rw[zX,List.length_zip];omega⟩
 unfold OI
 rw[zD,zD]
 rfl
theorem LH:∀(Ds:List Deed) (so sp so' sp':List Str),G0 so sp Ds->O0 so sp Ds=(so',sp')->(so++sp).Nodup->(∀j x,mkN Ds j=some x->x∉sp')/\(∀k x,x∈CZ Ds k->x∉sp')/\sp'.Sublist sp/\(so'++sp').Nodup
 | [],so,sp,so',sp',_,e,nd=>by cases e;exact⟨fun j x h=>by simp[mkN] at h,fun k x h=>by simp[CZ] at h,a3K _,nd⟩
 | D::r,so,sp,so',sp',h,e,nd=>by
   obtain⟨h1,h2,_,h3⟩:=h
   have nd2:(CW so D++CC sp D).Nodup:=nd.sublist (H0 h2)
   obtain⟨g1,g2,g3,g4⟩:=LH r _ _ _ _ h3 e nd2
   have dis:∀x,x∈so->x∈sp->False:=fun x a b=>(List.nodup_append.mp nd).2.2 x a x b rfl
   refine⟨fun j x ej=>?_,fun k x ek=>?_,g3.trans (K0 sp D),g4⟩
   · cases j with
     | zero=>
       intro hx
       have a:D.made=some x:=ej
       have q1:=g3.subset hx
       have q2:=h2 x a
       unfold CC at q1
       rw[a] at q1
       dsimp only at q1
       have nsp:sp.Nodup:=(List.nodup_append.mp nd).2.1
       cases sp with
       | nil=>simp at q2
       | cons y ys=>
         have:y=x:=by simpa using q2
         subst this
         exact(xV.mp nsp).1 (by simpa using q1)
     | succ j=>exact g1 j x ej
   · cases k with
     | zero=>
       have hm:x∈D.must:=ek
       obtain⟨a,b⟩:=yL.mp hm
       have b':¬D.made=some x:=of_decide_eq_true b
       exact fun q=>dis x (j6 h1 a b') ((K0 sp D).subset (g3.subset q))
     | succ k=>exact g2 k x ek
theorem kK (a b:List Deed) (i:Nat):mkN (a++b) i=if i < a.length then mkN a i else mkN b (i - a.length):=by
 unfold mkN;rw[List.getElem?_append];by_cases c:i < a.length
 · rw[if_pos c,if_pos c]
 · rw[if_neg c,if_neg c]
theorem kL (a b:List Deed) (i:Nat):CZ (a++b) i=if i < a.length then CZ a i else CZ b (i - a.length):=by
 unfold CZ;rw[List.getElem?_append];by_cases c:i < a.length
 · rw[if_pos c,if_pos c]
 · rw[if_neg c,if_neg c]
theorem eY {a b:List Deed}{so sp so' sp' sp2:List Str}(h1:G0 so sp a) (e:O0 so sp a=(so',sp')) (nd:(so++sp).Nodup) (p:sp2.Perm sp') (h2:G0 so' sp2 b):FreshD (a++b):=by
 obtain⟨g1,g2,g3,g4⟩:=LH a so sp so' sp' h1 e nd
 obtain⟨_,fa⟩:=NL a so sp h1 nd
 obtain⟨mb,fb⟩:=NL b so' sp2 h2 ((b9J so' p).nodup_iff.mpr g4)
 refine⟨fun i j x e1 e2=>?_,fun j k x e1 e2=>?_⟩
 · rw[kK] at e1 e2
   split at e1 <;> split at e2
   · exact fa.one i j x e1 e2
   · exact absurd (p.mem_iff.mp (mb _ x e2)) (g1 _ x e1)
   · exact absurd (p.mem_iff.mp (mb _ x e1)) (g1 _ x e2)
   · have:=fb.one _ _ x e1 e2;omega
 · rw[kK] at e1
   rw[kL] at e2
   split at e1 <;> split at e2
   · exact fa.bef j k x e1 e2
   · omega
   · exact absurd (p.mem_iff.mp (mb _ x e1)) (g2 _ x e2)
   · have:=fb.bef _ _ x e1 e2;omega
def E6 (c n:Nat):List Nat:=(a0V (n - c)).map fun k=>c+k
theorem XM (c n:Nat):eV (c:Int) (n:Int)=AD (E6 c n):=by
 unfold eV E6 AD EB
 rw[zD,zD,show((n:Int) - (c:Int)).toNat=n - c by omega]
 apply yM
 intro k _
 show a3Q ((c:Int)+(k:Int)) = .int ((c+k:Nat):Int)
 rw[Int.natCast_add]
theorem BV {c n k:Nat}:k∈E6 c n↔c<=k/\k < n:=by
 unfold E6
 rw[zL]
 constructor
 · rintro⟨i,hi,rfl⟩
   have:=List.mem_range.mp hi;omega
 · rintro⟨h1,h2⟩
   exact⟨k - c,List.mem_range.mpr (by omega),by omega⟩
theorem HD (c n:Nat):(E6 c n).length=n - c:=by simp[E6]
section
variable {M:Own}{Q:DS->Own->Prop}{w:List Th}{A B:List Ln}
def XN (A:List Ln):Prop:=(∀l∈A,AO l.1/\l.2.real)/\A.length<=50
theorem goodB.lns (h:goodB w A):XN A:=⟨fun l hl=>⟨h.hands l hl,h.real l hl⟩,h.few⟩
def DY:FSp:=⟨fun xs M=>∃A B:List Ln,xs=[.d (AC A),.d (AC B)]/\XN A/\XN B,fun xs M y M'=>∀A B:List Ln,xs=[.d (AC A),.d (AC B)]->y = .d (.int (AN A B:Nat))/\M'=M⟩
theorem ZT (ha:XN A) (hb:XN B) (q:Q (.d (.int (AN A B:Nat))) M):[DS.d (AC A),.d (AC B)].length=2/\DY.pre [.d (AC A),.d (AC B)] M/\∀x M',DY.post [.d (AC A),.d (AC B)] M x M'->Q x M':=
 ⟨rfl,⟨A,B,rfl,ha,hb⟩,fun x M' h=>by obtain⟨rfl,rfl⟩:=h A B rfl;exact q⟩
abbrev b2X (w:List Th) (A B:List Ln):List DS:=[.d (AH w A),.d (AH w B)]
def ZU (w:List Th) (A B:List Ln):Prop:=okN w/\goodB w A/\goodB w B
theorem ZV {w':List Th}{A' B':List Ln}(e:b2X w A B=b2X w' A' B'):wD w=wD w'/\A=A'/\B=B':=by
 simp only[List.cons.injEq,DS.d.injEq,and_true] at e
 obtain⟨a,b⟩:=D4 e.1
 exact⟨a,b,(D4 e.2).2⟩
theorem wO {w w':List Th}(e:wD w=wD w') (A:List Ln):AH w A=AH w' A:=by
 show PyData.tuple [wD w,_] = .tuple [wD w',_]
 rw[e]
def CY:FSp:=⟨fun xs M=>∃(w:List Th) (A B:List Ln),xs=b2X w A B/\ZU w A B,fun xs M y M'=>∀(w:List Th) (A B:List Ln),xs=b2X w A B->y = .d (.int (AN A B:Nat))/\M'=M⟩
theorem JF (h:ZU w A B) (q:Q (.d (.int (AN A B:Nat))) M):(b2X w A B).length=2/\CY.pre (b2X w A B) M/\∀x M',CY.post (b2X w A B) M x M'->Q x M':=
 ⟨rfl,⟨w,A,B,rfl,h⟩,fun x M' hh=>by obtain⟨rfl,rfl⟩:=hh w A B rfl;exact q⟩
def IC:FSp:=⟨fun xs M=>∃(w:List Th) (A:List Ln) (c:Nat),xs=[.d (AH w A),.d (.int c)]/\goodB w A/\c<=50,fun xs M y M'=>∀(w:List Th) (A:List Ln) (c:Nat),xs=[.d (AH w A),.d (.int c)]->y = .d (.list (AD (E6 c A.length)))/\M'=M⟩
theorem MB {c:Nat}(h:goodB w A) (hc:c<=50) (q:Q (.d (.list (AD (E6 c A.length)))) M):[DS.d (AH w A),.d (.int c)].length=2/\IC.pre [.d (AH w A),.d (.int c)] M/\∀x M',IC.post [.d (AH w A),.d (.int c)] M x M'->Q x M':=
 ⟨rfl,⟨w,A,c,rfl,h,hc⟩,fun x M' hh=>by obtain⟨rfl,rfl⟩:=hh w A c rfl;exact q⟩
def wP (d:PyData):PyData:=.tuple [.str (a0Q "joined"),d]
abbrev lnX (so sp:List Str) (cs:List Int):List DS:=[.d (AR so),.d (AR sp),.d (.list (cs.map .int))]
def lnQ (so sp:List Str) (cs:List Int) (ls:List Ln) (so' sp':List Str):Prop:=G0 so sp (dsL ls)/\O0 so sp (dsL ls)=(so',sp')/\(∀l∈ls,AO l.1)/\ls.length<=cs.length/\namesOK (so'++sp')
def HE:FSp:=⟨fun xs M=>∃(so sp:List Str) (cs:List Int),xs=lnX so sp cs/\namesOK (so++sp)/\(∀c∈cs,xJ c<=2 ^ 21)/\cs.length<=20,fun xs M y M'=>∀(so sp:List Str) (cs:List Int),xs=lnX so sp cs->M'=M/\∃(ls:List Ln) (so' sp':List Str),y = .d (.tuple [.list (ls.map AL),AR so',AR sp'])/\lnQ so sp cs ls so' sp'⟩
theorem LI {so sp:List Str}{cs:List Int}(h1:namesOK (so++sp)) (h2:∀c∈cs,xJ c<=2 ^ 21) (h3:cs.length<=20) (q:∀(ls:List Ln) (so' sp':List Str),lnQ so sp cs ls so' sp'->Q (.d (.tuple [.list (ls.map AL),AR so',AR sp'])) M):(lnX so sp cs).length=3/\HE.pre (lnX so sp cs) M/\∀x M',HE.post (lnX so sp cs) M x M'->Q x M':=
 ⟨rfl,⟨so,sp,cs,rfl,h1,h2,h3⟩,fun x M' hh=>by obtain⟨rfl,ls,so',sp',rfl,h⟩:=hh so sp cs rfl;exact q ls so' sp' h⟩
theorem QX {so sp so' sp' so2 sp2 sp3:List Str}{cs cs2:List Int}{ls as:List Ln}(hn:namesOK (so++sp)) (h1:lnQ so sp cs ls so' sp') (p:sp3.Perm sp') (h2:lnQ so' sp3 cs2 as so2 sp2) (hl:cs.length+cs2.length<=50):goodB w (ls++as) where
 fresh:=by
   have e:dsL (ls++as)=dsL ls++dsL as:=xI
   rw[e]
   exact eY h1.1 h1.2.1 hn.2.1 p h2.1
 real:=fun l hl=>by
   rcases yW.mp hl with q | q
   · exact LF h1.1 _ (zL.mpr ⟨l,q,rfl⟩)
   · exact LF h2.1 _ (zL.mpr ⟨l,q,rfl⟩)
 few:=by rw[yY];have:=h1.2.2.2.1;have:=h2.2.2.2.1;omega
 hands:=fun l hl=>by
   rcases yW.mp hl with q | q
   · exact h1.2.2.1 l q
   · exact h2.2.2.1 l q
theorem FK (h:okN w):zH (wD w)=true:=by
 refine BD (EY fun d hd=>?_) ?_
 · obtain⟨t,ht,rfl⟩:=zL.mp hd
   exact zG (ZO (h t ht))
 · have:a1Z (w.map thD)<=3:=J9 fun d hd=>by
     obtain⟨t,ht,rfl⟩:=zL.mp hd
     simp[thD,a1V,a1Z]
   simp only[wD,a1V]
   omega
end
end DL
namespace L2
open PySem PySem.Spec PyProof.Rows
theorem LJ:typeLookup (.type "tuple") (dunderI "add")=pure none:=by rw[typeLookup_type,builtinLookup_eq_fast];kernel_rfl
theorem LK {prog:Program}{w:World}{A:Around}{E:Value->Shared->Prop}{s:Shared}{T id:String}{B:Builtin}{a b:Value}{S:PySem.Spec}{Q:Value->Shared->Prop}(ha:s.TypeIs a T) (hb:s.TypeIs b T) (hno:typeLookup (.type T) (dunderI "add")=pure none)
   (hf:fillsNumberSlot (.type T) "add"=pure false) (hs:seqSlot? (.type T) "__add__"=pure (some (.builtin id))) (sl:Slot T "__add__" id) (en:entryFor table id=some B) (ar:argsOk id ⟨[a,b],[]⟩) (g:Meets (B ⟨[a,b],[]⟩) S) (h:S A (wants Q E) s):wpAny (model prog w) A (inplaceOp .Add a b) Q E s:=
 wpAny_inplaceOp_concat ha hb hno hf hs (call_meets sl ha en ar g h)
section
variable {X:Cx}
def uD (K:Frg):R2:=fun x y H Q=>ipI (fun i j=>i+j) x y H Q∨YX K x y H Q
theorem ZW {K:Frg}(hK:X.K=K):PIp X .Add (uD K):=by
 subst hK
 intro pins s σ H x y v u Q I rx ry h
 rcases h with h | h
 · exact rA pins s σ H x y v u Q I rx ry h
 obtain⟨t,b,xs,ys,rfl,rfl,hx,hy,hz,q0,q1,q2⟩:=h
 cases rx
 cases ry
 obtain⟨its,r,ht,_⟩:=I.tuple hx
 obtain⟨its2,r2,hb,_⟩:=I.tuple hy
 have e1:=r.length
 have e2:=r2.length
 obtain⟨⟨cls,dd,data,sl⟩,ho,hc,n,hd⟩:=id ht
 obtain⟨⟨cls2,dd2,data2,sl2⟩,ho2,hc2,n2,hd2⟩:=id hb
 dsimp only at hc hd hc2 hd2
 subst hc hd hc2 hd2
 have e:its.toArray++its2.toArray=(its++its2).toArray:=by simp
 by_cases hv:its=[]
 · have hx0:xs=[]:=by cases r with | nil=>rfl | cons _ _=>cases hv
   exact LK ⟨_,ho,rfl⟩ ⟨_,ho2,rfl⟩ LJ noFill_tuple_add seq_tuple_add a7Q a6V (a6X _ _)
     (tuple_addW0 t b its.toArray its2.toArray n n2 dd dd2 sl sl2 (by simp[hv])) ⟨ho,ho2,⟨.ref b,H,I,rfl,q0 hx0⟩⟩
 · by_cases hw:its2=[]
   · have hy0:ys=[]:=by cases r2 with | nil=>rfl | cons _ _=>cases hw
     exact LK ⟨_,ho,rfl⟩ ⟨_,ho2,rfl⟩ LJ noFill_tuple_add seq_tuple_add a7Q a6V (a6X _ _)
       (tuple_addW1 t b its.toArray its2.toArray n n2 dd dd2 sl sl2 (by simpa using hv) (by simp[hw])) ⟨ho,ho2,⟨.ref t,H,I,rfl,q1 hy0⟩⟩
   · refine LK ⟨_,ho,rfl⟩ ⟨_,ho2,rfl⟩ LJ noFill_tuple_add seq_tuple_add a7Q a6V (a6X _ _)
       (tuple_addW2 t b its.toArray its2.toArray n n2 dd dd2 sl sl2 (by simpa using hv) (by simpa using hw) (by rw[zJ,zJ];omega)) ⟨ho,ho2,?_⟩
     rw[e]
     refine⟨.ref s.heap.objs.size,_,I.laid (t':=s.toks) (o:=.tup (xs++ys)) (fun b ob q=>zW _ q) (zR _) ?_,rfl,q2 _ I.fresh⟩
     exact⟨by rw[yY];exact hz,its++its2,r.append r2,IsTup.new _ _⟩
end
end L2
namespace DL
open PySem PySem.Spec L2
section
variable {K:Frg}{ρ:List (Option DS)}{M:Own}{D:EndsD}
theorem UU {i:Nat}{te:TE}{r:R2}(h:∃x,ρ[i]?=some (some x)/\DE K te ρ M fun y M1=>D2 K r x y M1 fun z M2=>D.nx (ρ.set i (some z)) M2):DSt K (uV i te r) ρ M D:=fun σ H E R k1 _ _ _=>by
 obtain⟨x,e,h⟩:=h
 obtain⟨v,ev,sv⟩:=R.slot i x e
 refine⟨v,ev,h σ H _ R fun u H1 y M1 o1 s1 t1 q=>?_⟩
 exact q H1 v u _ o1 (SI.step t1 sv) s1 fun z H2 w M2 o2 s2 t2 q2=>k1 _ M2 _ H2 (((R.step o1 t1).step o2 t2).set s2 i) (t1.trans t2) q2
theorem c5 {i j:Int}{Q:DS->Own->Prop}(q:Q (.d (.int (i+j))) M):D2 K (uD K) (.d (.int i)) (.d (.int j)) M Q:=fun H v u QQ oa s1 s2 k=>by
 unfold SI DV at s1 s2
 subst s1;subst s2
 exact .inl ⟨i,j,rfl,rfl,k _ H (.d (.int (i+j))) M oa (by unfold SI DV;rfl) Step.refl q⟩
theorem c6 {as bs:List PyData}{Q:DS->Own->Prop}(hz:as.length+bs.length<=sizeLine) (q:Q (.d (.tuple (as++bs))) M):D2 K (uD K) (.d (.tuple as)) (.d (.tuple bs)) M Q:=fun H v u QQ oa s1 s2 k=>by
 have s1':=s1
 have s2':=s2
 unfold SI DV at s1 s2
 obtain⟨a,vs,rfl,hl,hd⟩:=s1
 obtain⟨b,us,rfl,hl2,hd2⟩:=s2
 refine .inr ⟨a,b,vs,us,rfl,rfl,hl.sq,hl2.sq,by rw[hd.length,hd2.length];exact hz,fun e=>?_,fun e=>?_,fun p hp=>?_⟩
 · have:as=[]:=by have:=hd.length;rw[e] at this;exact List.length_eq_zero_iff.mp this.symm
   subst this
   exact k _ H (.d (.tuple ([]++bs))) M oa s2' Step.refl q
 · have:bs=[]:=by have:=hd2.length;rw[e] at this;exact List.length_eq_zero_iff.mp this.symm
   subst this
   rw[a2Q] at q
   exact k _ H (.d (.tuple as)) M oa s1' Step.refl q
 · have g:Grow K M.W M.W H (upd H p (.tup (vs++us))):=AY _ hp
   refine k _ _ (.d (.tuple (as++bs))) M (oa.new hp) ?_ ⟨g⟩ q
   unfold SI DV
   exact⟨p,_,rfl,.inl ⟨fun w=>w (oa.none hp),.inl AI⟩,(hd.append hd2).grow g⟩
theorem kM {tc:TT}{tb:TS}(P:Nat->List (Option DS)->Own->Prop) (p0:∃m,P m ρ M) (pt:∀m ρ' M',P m ρ' M'->DT K tc ρ' M' fun c M1=>if c=true then DSt K tb ρ' M1 (D.turn fun ρ2 M2=>∃m',m' < m/\P m' ρ2 M2) else D.nx ρ' M1):DSt K (fU tc tb) ρ M D:=fun σ H E R k1 k2 k3 k4=>by
 obtain⟨m0,p0⟩:=p0
 refine⟨fun m σ' H'=>∃ρ' M',Rel K M' ρ' σ' H'/\Step K M M' H H'/\P m ρ' M',⟨m0,ρ,M,R,Step.refl,p0⟩,?_⟩
 rintro m σ' H' ⟨ρ',M',R',st,p⟩
 refine pt m ρ' M' p σ' H' _ R' fun c H1 M1 o1 t1 q=>?_
 cases c with
 | false=>
   rw[if_neg nft] at q ⊢
   exact k1 ρ' M1 σ' H1 (R'.step o1 t1) (st.trans t1) q
 | true=>
   rw[if_pos rfl] at q ⊢
   refine⟨fun σ2 H2=>∃ρ2 M2,Rel K M2 ρ2 σ2 H2/\Step K M M2 H H2/\∃m',m' < m/\P m' ρ2 M2,fun σ2 H2 ⟨ρ2,M2,a,b,m',hm,c⟩=>⟨m',hm,ρ2,M2,a,b,c⟩,?_⟩
   have s3:=st.trans t1
   exact q σ' H1 _ (R'.step o1 t1) (fun r m s hh R4 st4 q=>⟨r,m,R4,s3.trans st4,q⟩) (fun w hh x m a b c q=>k2 w hh x m a b (s3.trans c) q)
     (fun r m s hh R4 st4 q=>k1 r m s hh R4 (s3.trans st4) q) (fun r m s hh R4 st4 q=>⟨r,m,R4,s3.trans st4,q⟩)
end
end DL
namespace DL
open PySem PySem.Spec L2 XC
def CM:Deed->Option Str | .take x=>some x | .name x _=>some x | .join _ y=>some y | _=>none
def CU:Option Str->PyData | some x=>.str x | none=>.none
def ZX:Option Nat->PyData | some x=>.int x | none=>.none
theorem PB (D:Deed):UK D.d=CU (CM D):=by cases D <;> rfl
theorem UV (D:Deed):G8 D.d=CU D.made:=by cases D <;> rfl
theorem JG {D:Deed}(hr:D.real) {z:Str}(h:CM D=some z):AO z:=hr.1 z (by cases D <;> simp_all [CM,Deed.names])
theorem JH {D:Deed}(hr:D.real) {z:Str}(h:D.made=some z):AO z:=hr.1 z (by cases D <;> simp_all [Deed.made,Deed.names])
theorem CG {e:Option Str}(h:∀z,e=some z->AO z):zH (CU e)=true:=by
 cases e with
 | none=>rfl
 | some z=>exact AM (h z rfl)
theorem QY (a b:Option Str):a0X (CU a) (CU b)=decide (a=b):=by
 cases a <;> cases b
 · rfl
 · rfl
 · rfl
 · rename_i x y
   show a0X (.str x) (.str y)=_
   rw[CJ,a6Z,beq_iff_eq,decide_eq_true_iff,Option.some.injEq]
def JI (A:List Ln) (e:Option Str) (k:Nat):Bool:=match e with | some x=>decide (x∈CZ (dsL A) k) | none=>false
def qF (A:List Ln) (e:Option Str):PyData->Bool | .int i=>JI A e i.toNat | _=>false
theorem eZ (A:List Ln) (e:Option Str) (κ:List Nat):((AD κ).filter (qF A e)).map id=AD (κ.filter (JI A e)):=by
 rw[a9Z]
 unfold AD EB
 rw[xU,xU,zD,zD]
 congr 1
theorem oV {A:List Ln}{e:Option Str}{k:Nat}{l:Ln}(hl:(dsL A)[k]?=some l.2):((l.2.must.map a0W).any fun d=>a0X d (CU e))=JI A e k:=by
 unfold JI CZ
 rw[hl]
 cases e with
 | none=>show(l.2.must.map a0W).any (fun d=>a0X d .none)=false;rw[List.any_map];exact List.any_eq_false.mpr fun z _=>by simp[a0X]
 | some x=>exact MA _ _
def LL (A:List Ln) (c:Nat) (e:Option Str):Option Nat:=((E6 c A.length).filter (JI A e)).head?
theorem XO {A:List Ln}{c k:Nat}{e:Option Str}(h:LL A c e=some k):c<=k/\∃a x,A[k]?=some a/\e=some x/\x∈a.2.must:=by
 have hm:=List.mem_of_mem_head? h
 obtain⟨h1,h2⟩:=yL.mp hm
 obtain⟨h3,h4⟩:=BV.mp h1
 refine⟨h3,A[k],?_⟩
 unfold JI at h2
 cases e with
 | none=>cases h2
 | some x=>
   refine⟨x,zV h4,rfl,?_⟩
   have:=of_decide_eq_true h2
   unfold CZ at this
   rw[zF,zV h4] at this
   exact this
abbrev qD (s:String) (ns:List Nat):PyData:=.tuple (.str (a0Q s)::AD ns)
def c7 (A B:List Ln) (c:Nat) (d:PyData):Prop:=∃i j a b x,c<=i/\c<=j/\A[i]?=some a/\B[j]?=some b/\(d=qD "made" [i,j]/\a.2.made=some x/\b.2.made=some x∨d=qD "ended" [i,j]/\CM a.2=some x/\CM b.2=some x)
def uE (A B:List Ln) (c:Nat) (d:PyData):Prop:=∃i j k l a b b' a' x y,d=qD "round" [i,j,k,l]/\c<=l/\l<=i/\c<=j/\j<=k/\A[i]?=some a/\B[j]?=some b/\B[k]?=some b'/\A[l]?=some a'/\CM b.2=some x/\x∈a.2.must/\CM a'.2=some y/\y∈b'.2.must
def qG (A B:List Ln) (c:Nat) (d:PyData):Prop:=c7 A B c d∨uE A B c d
theorem O2 {ss:List Str}(h:∀s∈ss,AO s):zH (.tuple (ss.map .str))=true:=by
 refine BD (EY fun d hd=>?_) ?_
 · obtain⟨s,hs,rfl⟩:=zL.mp hd
   exact C6 (h s hs)
 · have:a1Z (ss.map .str)<=2:=J9 fun d hd=>by
     obtain⟨s,hs,rfl⟩:=zL.mp hd
     simp[a1V]
   simp only[a1V]
   omega
section
variable {M:Own}{Q:DS->Own->Prop}{w:List Th}{A B:List Ln}
abbrev kN (w:List Th) (A:List Ln) (κ:List Nat) (e:Option Str):List DS:=[.d (AH w A),.d (.list (AD κ)),.d (CU e)]
def MC:FSp:=⟨fun xs M=>∃(w:List Th) (A:List Ln) (κ:List Nat) (e:Option Str),xs=kN w A κ e/\goodB w A/\(∀k∈κ,k < A.length)/\κ.length<=60/\∀z,e=some z->AO z,fun xs M y M'=>∀(w:List Th) (A:List Ln) (κ:List Nat) (e:Option Str),xs=kN w A κ e->y = .d (.tuple (AD (κ.filter (JI A e))))/\M'=M⟩
theorem kQ {κ:List Nat}{e:Option Str}(h1:goodB w A) (h2:∀k∈κ,k < A.length) (h3:κ.length<=60) (h4:∀z,e=some z->AO z) (q:Q (.d (.tuple (AD (κ.filter (JI A e))))) M):(kN w A κ e).length=3/\MC.pre (kN w A κ e) M/\∀x M',MC.post (kN w A κ e) M x M'->Q x M':=
 ⟨rfl,⟨w,A,κ,e,rfl,h1,h2,h3,h4⟩,fun x M' hh=>by obtain⟨rfl,rfl⟩:=hh w A κ e rfl;exact q⟩
theorem kR {a b:Option Str}(h:CU a=CU b):a=b:=by cases a <;> cases b <;> simp_all [CU]
abbrev NR (w:List Th) (A:List Ln) (c:Nat) (l:Ln):List DS:=[.d (AH w A),.d (.int c),.d (AL l)]
def FL:FSp:=⟨fun xs M=>∃(w:List Th) (A:List Ln) (c:Nat) (l:Ln),xs=NR w A c l/\goodB w A/\c<=50/\l.2.real,fun xs M y M'=>∀(w:List Th) (A:List Ln) (c:Nat) (l:Ln),xs=NR w A c l->y = .d (ZX (LL A c (CM l.2)))/\M'=M⟩
theorem MD {c:Nat}{l:Ln}(h1:goodB w A) (h2:c<=50) (h3:l.2.real) (q:Q (.d (ZX (LL A c (CM l.2)))) M):(NR w A c l).length=3/\FL.pre (NR w A c l) M/\∀x M',FL.post (NR w A c l) M x M'->Q x M':=
 ⟨rfl,⟨w,A,c,l,rfl,h1,h2,h3⟩,fun x M' hh=>by obtain⟨rfl,rfl⟩:=hh w A c l rfl;exact q⟩
def HF:FSp:=⟨fun xs M=>∃(w:List Th) (A B:List Ln) (c:Nat),xs=[.d (AH w A),.d (AH w B),.d (.int c)]/\goodB w A/\goodB w B/\c<=50,fun xs M y M'=>∀(w:List Th) (A B:List Ln) (c:Nat),xs=[.d (AH w A),.d (AH w B),.d (.int c)]->M'=M/\∃d,y = .d d/\(d = .none∨c7 A B c d)⟩
theorem XQ {c:Nat}(ha:goodB w A) (hb:goodB w B) (hc:c<=50) (q:∀d,d = .none∨c7 A B c d->Q (.d d) M):[DS.d (AH w A),.d (AH w B),.d (.int c)].length=3/\HF.pre [.d (AH w A),.d (AH w B),.d (.int c)] M/\∀x M',HF.post [.d (AH w A),.d (AH w B),.d (.int c)] M x M'->Q x M':=
 ⟨rfl,⟨w,A,B,c,rfl,ha,hb,hc⟩,fun x M' hh=>by obtain⟨rfl,d,rfl,h⟩:=hh w A B c rfl;exact q d h⟩
def uF (A B:List Ln) (d:PyData):Prop:=(∃e,d=wP e)∨∃q,d = .tuple [.str (a0Q "quarrel"),q]/\qG A B (AN A B) q
def EE:FSp:=⟨fun xs M=>∃(w:List Th) (A B:List Ln),xs=b2X w A B/\ZU w A B,fun xs M y M'=>∀(w:List Th) (A B:List Ln),xs=b2X w A B->M'=M/\∃d,y = .d d/\uF A B d⟩
theorem RV (h:ZU w A B) (q:∀d,uF A B d->Q (.d d) M):(b2X w A B).length=2/\EE.pre (b2X w A B) M/\∀x M',EE.post (b2X w A B) M x M'->Q x M':=
 ⟨rfl,⟨w,A,B,rfl,h⟩,fun x M' hh=>by obtain⟨rfl,d,rfl,h⟩:=hh w A B rfl;exact q d h⟩
def XR (f:Deed->List Str):FSp:=⟨fun xs M=>∃D:Deed,xs=[.d D.d]/\D.real,fun xs M y M'=>∀D:Deed,xs=[.d D.d]->y = .d (.tuple ((f D).map .str))/\M'=M⟩
theorem G2 {f:Deed->List Str}{D:Deed}(hr:D.real) (q:Q (.d (.tuple ((f D).map .str))) M):[DS.d D.d].length=1/\(XR f).pre [.d D.d] M/\∀x M',(XR f).post [.d D.d] M x M'->Q x M':=
 ⟨rfl,⟨D,rfl,hr⟩,fun x M' hh=>by obtain⟨rfl,rfl⟩:=hh D rfl;exact q⟩
def DZ (D:Deed):List Str:=D.made.toList
def UW (D:Deed):List Str:=(CM D).toList
def ME:FSp:=XR DZ
def NS:FSp:=XR UW
def GE:Deed->List Str | .put _ _ _=>[] | .join x y=>[x,y] | .take x=>[x] | .move x _=>[x] | .count x _=>[x] | .name x _=>[x] | .split x _ _ _=>[x]
theorem MF {D:Deed}(hr:D.real):D.must=GE D:=by
 have hap:=hr.2.1
 cases D <;> first | (simp[Deed.must,Deed.names,Deed.made,GE];done) | (simp[Deed.must,Deed.names,Deed.made,GE,b4K hap];done)
def ID:FSp:=XR GE
theorem kS {K:Frg}{ds:List PyData}(q:Q (.d (.list ds)) M):DR K (U9 K) [.d (.list ds)] M Q:=fun H vs QQ oa s k=>by
 obtain⟨v,r,rfl,h1,h2⟩:=s
 cases h2
 unfold SI DV at h1
 obtain⟨a,vs,rfl,hl,hd⟩:=h1
 refine⟨a,vs,rfl,.inl hl.sq,fun p hp=>?_⟩
 have g:Grow K M.W M.W H (upd H p (.lst vs)):=AY _ hp
 refine k _ _ (.d (.list ds)) M (oa.new hp) ?_ ⟨g⟩ q
 unfold SI DV
 exact⟨p,vs,rfl,.inl ⟨fun w=>w (oa.none hp),.inl AI⟩,hd.grow g⟩
def wQ (ls:List Str) (d:PyData):Bool:=!((ls.map a0W).any fun e=>a0X e d)
theorem kT (ls st:List Str):((st.map a0W).filter (wQ ls)).map id=(st.filter fun z=>!decide (z∈ls)).map .str:=by
 rw[a9Z,xU]
 congr 1
 apply b8V
 intro z _
 show(!((ls.map a0W).any fun e=>a0X e (.str z)))=_
 rw[MA]
end
end DL
namespace DL
open PySem PySem.Spec L2 XC
def enN (Ds:List Deed) (j:Nat):Option Str:=(Ds[j]?).bind CM
def wnN (Ds:List Deed) (j:Nat):List Str:=match Ds[j]? with | some D=>GE D | none=>[]
def BkD (S:List Str) (Ds:List Deed):Prop:=∀k,(∀x,mkN Ds k=some x->x∉S/\∀j,j < k->mkN Ds j≠some x)/\∀x∈wnN Ds k,(x∈S∨∃j,j < k/\mkN Ds j=some x)/\∀j,j < k->enN Ds j≠some x
def UX (st kn:List Str) (D:Deed):Bool:=!((DZ D).any fun x=>decide (x∈kn))&&!((GE D).any fun x=>!decide (x∈st))
def XS (st:List Str) (D:Deed):List Str:=(st.filter fun z=>!decide (z∈UW D))++DZ D
def OM:List Str->List Str->List Deed->Bool
 | _,_,[]=>true
 | st,kn,D::r=>UX st kn D&&OM (XS st D) (kn++DZ D) r
theorem QZ {D:Deed}{x:Str}(h:CM D=some x):x∈GE D:=by cases D <;> simp_all [CM,GE]
theorem D5 {D:Deed}{x:Str}:x∈DZ D↔D.made=some x:=by unfold DZ;cases D.made <;> simp[eq_comm]
theorem R0 {D:Deed}{x:Str}:x∈UW D↔CM D=some x:=by unfold UW;cases CM D <;> simp[eq_comm]
theorem R5 {st kn:List Str}{D:Deed}:UX st kn D=true↔(∀x,D.made=some x->x∉kn)/\∀x∈GE D,x∈st:=by
 unfold UX
 rw[a1J,Bool.not_eq_true',Bool.not_eq_true',b9X,b9X]
 constructor
 · rintro⟨h1,h2⟩
   exact⟨fun x e q=>h1 x (D5.mpr e) (decide_eq_true q),fun x hx=>by have:=h2 x hx;simpa using this⟩
 · rintro⟨h1,h2⟩
   exact⟨fun x e q=>h1 x (D5.mp e) (of_decide_eq_true q),fun x hx=>by have:=h2 x hx;simpa using this⟩
theorem ES {Ds:List Deed}{D:Deed}{k:Nat}:(Ds++[D])[k]?=if k < Ds.length then Ds[k]? else if k=Ds.length then some D else none:=by
 rw[List.getElem?_append]
 split
 · rfl
 · rename_i h
   by_cases e:k=Ds.length
   · subst e;simp
   · rw[if_neg e];rw[a0J];simp;omega
structure StB (S st kn:List Str) (Ds:List Deed):Prop where
 bk:BkD S Ds
 kn_:∀x,x∈kn↔x∈S∨∃j,mkN Ds j=some x
 st_:∀x,x∈st↔x∈kn/\∀j,enN Ds j≠some x
theorem c8 {S:List Str}{Ds:List Deed}{D:Deed}:BkD S (Ds++[D])↔BkD S Ds/\(∀x,D.made=some x->x∉S/\∀j,mkN Ds j≠some x)/\∀x∈GE D,(x∈S∨∃j,mkN Ds j=some x)/\∀j,enN Ds j≠some x:=by
 have lt1:∀j,j < Ds.length->mkN (Ds++[D]) j=mkN Ds j/\enN (Ds++[D]) j=enN Ds j/\wnN (Ds++[D]) j=wnN Ds j:=fun j hj=>by
   unfold mkN enN wnN
   rw[ES,if_pos hj]
   exact⟨rfl,rfl,rfl⟩
 have out:∀j,Ds.length<=j->mkN Ds j=none/\enN Ds j=none:=fun j hj=>by
   unfold mkN enN
   rw[a0J hj];exact⟨rfl,rfl⟩
 have at_:mkN (Ds++[D]) Ds.length=D.made/\wnN (Ds++[D]) Ds.length=GE D:=by
   unfold mkN wnN
   rw[ES,if_neg (yF _),if_pos rfl];exact⟨rfl,rfl⟩
 have inD:∀{j x},mkN Ds j=some x->j < Ds.length:=fun {j x} e=>by
   rcases Nat.lt_or_ge j Ds.length with q | q
   · exact q
   · rw[(out j q).1] at e;cases e
 have inE:∀{j x},enN Ds j=some x->j < Ds.length:=fun {j x} e=>by
   rcases Nat.lt_or_ge j Ds.length with q | q
   · exact q
   · rw[(out j q).2] at e;cases e
 constructor
 · intro h
   refine⟨fun k=>?_,fun x e=>?_,fun x hx=>?_⟩
   · by_cases hk:k < Ds.length
     · obtain⟨a,b⟩:=h k
       rw[(lt1 k hk).1,(lt1 k hk).2.2] at *
       refine⟨fun x e=>⟨(a x e).1,fun j hj=>?_⟩,fun x hx=>⟨(b x hx).1.imp id fun⟨j,hj,e⟩=>⟨j,hj,by rw[← (lt1 j (by omega)).1];exact e⟩,fun j hj=>?_⟩⟩
       · rw[← (lt1 j (by omega)).1];exact(a x e).2 j hj
       · rw[← (lt1 j (by omega)).2.1];exact(b x hx).2 j hj
     · refine⟨fun x e=>absurd (inD e) hk,fun x hx=>?_⟩
       unfold wnN at hx
       rw[a0J (by omega)] at hx;cases hx
   · obtain⟨a,b⟩:=(h Ds.length).1 x (by rw[at_.1];exact e)
     exact⟨a,fun j ej=>b j (inD ej) (by rw[(lt1 j (inD ej)).1];exact ej)⟩
   · obtain⟨a,b⟩:=(h Ds.length).2 x (by rw[at_.2];exact hx)
     exact⟨a.imp id fun⟨j,hj,e⟩=>⟨j,by rw[← (lt1 j hj).1];exact e⟩,fun j ej=>b j (inE ej) (by rw[(lt1 j (inE ej)).2.1];exact ej)⟩
 · rintro⟨h,hm,hw⟩ k
   rcases b4Z k Ds.length with hk | hk | hk
   · obtain⟨a,b⟩:=h k
     rw[(lt1 k hk).1,(lt1 k hk).2.2]
     refine⟨fun x e=>⟨(a x e).1,fun j hj=>?_⟩,fun x hx=>⟨(b x hx).1.imp id fun⟨j,hj,e⟩=>⟨j,hj,by rw[(lt1 j (by omega)).1];exact e⟩,fun j hj=>?_⟩⟩
     · rw[(lt1 j (by omega)).1];exact(a x e).2 j hj
     · rw[(lt1 j (by omega)).2.1];exact(b x hx).2 j hj
   · subst hk
     rw[at_.1,at_.2]
     refine⟨fun x e=>⟨(hm x e).1,fun j hj=>?_⟩,fun x hx=>⟨(hw x hx).1.imp id fun⟨j,e⟩=>⟨j,inD e,by rw[(lt1 j (inD e)).1];exact e⟩,fun j hj=>?_⟩⟩
     · rw[(lt1 j hj).1];exact(hm x e).2 j
     · rw[(lt1 j hj).2.1];exact(hw x hx).2 j
   · have e:(Ds++[D])[k]?=none:=by rw[a0J];simp;omega
     unfold mkN wnN
     rw[e]
     exact⟨fun x q=>(by cases q),fun x q=>(by cases q)⟩
theorem StB.step {S st kn:List Str}{Ds:List Deed}{D:Deed}(h:StB S st kn Ds) (ok:UX st kn D=true):StB S (XS st D) (kn++DZ D) (Ds++[D]):=by
 obtain⟨h1,h2⟩:=R5.mp ok
 have mk:∀x,(∃j,mkN (Ds++[D]) j=some x)↔(∃j,mkN Ds j=some x)∨D.made=some x:=fun x=>by
   constructor
   · rintro⟨j,e⟩
     unfold mkN at e
     rw[ES] at e
     split at e
     · exact .inl ⟨j,e⟩
     · split at e
       · exact .inr e
       · cases e
   · rintro (⟨j,e⟩ | e)
     · refine⟨j,?_⟩
       unfold mkN at e ⊢
       rw[ES]
       split
       · exact e
       · rename_i hj;rw[a0J (by omega)] at e;cases e
     · exact⟨Ds.length,by unfold mkN;rw[ES,if_neg (yF _),if_pos rfl];exact e⟩
 have en:∀x,(∀j,enN (Ds++[D]) j≠some x)↔(∀j,enN Ds j≠some x)/\CM D≠some x:=fun x=>by
   constructor
   · intro h
     refine⟨fun j e=>h j ?_,fun e=>h Ds.length ?_⟩
     · unfold enN at e ⊢
       rw[ES]
       split
       · exact e
       · rename_i hj;rw[a0J (by omega)] at e;cases e
     · unfold enN;rw[ES,if_neg (yF _),if_pos rfl];exact e
   · rintro⟨a,b⟩ j e
     unfold enN at e
     rw[ES] at e
     split at e
     · exact a j e
     · split at e
       · exact b e
       · cases e
 refine⟨c8.mpr ⟨h.bk,fun x e=>?_,fun x hx=>?_⟩,fun x=>?_,fun x=>?_⟩
 · have:=h1 x e
   rw[h.kn_] at this
   exact⟨fun q=>this (.inl q),fun j q=>this (.inr ⟨j,q⟩)⟩
 · obtain⟨a,b⟩:=(h.st_ x).mp (h2 x hx)
   exact⟨(h.kn_ x).mp a,b⟩
 · rw[yW,h.kn_,mk,D5,or_assoc]
 · unfold XS
   rw[yW,yL,yW,en,D5]
   have hne:∀x,D.made=some x->(∀j,enN Ds j≠some x)/\CM D≠some x:=fun x e=>by
     refine⟨fun j ej=>?_,fun e2=>h1 x e ((h.st_ x).mp (h2 x (QZ e2))).1⟩
     have hx:x∈wnN Ds j:=by
       unfold enN at ej;unfold wnN
       cases hD:Ds[j]? with
       | none=>rw[hD] at ej;cases ej
       | some F=>rw[hD] at ej;exact QZ ej
     refine h1 x e ((h.kn_ x).mpr (((h.bk j).2 x hx).1.imp id fun⟨i,_,q⟩=>⟨i,q⟩))
   constructor
   · rintro (⟨a,b⟩ | a)
     · obtain⟨c,d⟩:=(h.st_ x).mp a
       exact⟨.inl c,d,fun q=>by simp[R0.mpr q] at b⟩
     · exact⟨.inr a,hne x a⟩
   · rintro⟨a | a,b,c⟩
     · exact .inl ⟨(h.st_ x).mpr ⟨a,b⟩,by simp[R0,c]⟩
     · exact .inr a
theorem UY {S:List Str}:∀(r Ds:List Deed) (st kn:List Str),StB S st kn Ds->(OM st kn r=true↔BkD S (Ds++r))
 | [],Ds,st,kn,h=>by rw[a2Q];simp[OM,h.bk]
 | D::r,Ds,st,kn,h=>by
   rw[OM,a1J,show Ds++D::r=(Ds++[D])++r by simp]
   constructor
   · rintro⟨a,b⟩
     exact(UY r _ _ _ (h.step a)).mp b
   · intro hb
     have hpre:BkD S (Ds++[D]):=fun k=>by
       have hk:=hb k
       by_cases q:k < (Ds++[D]).length
       · have e:∀j,j<=k->((Ds++[D])++r)[j]?=(Ds++[D])[j]?:=fun j hj=>yQ (by omega)
         unfold mkN wnN enN at *
         rw[e k (zR _)] at hk
         refine⟨fun x ex=>⟨(hk.1 x ex).1,fun j hj=>?_⟩,fun x hx=>⟨(hk.2 x hx).1.imp id fun⟨j,hj,q⟩=>⟨j,hj,by rw[← e j (by omega)];exact q⟩,fun j hj=>?_⟩⟩
         · rw[← e j (by omega)];exact(hk.1 x ex).2 j hj
         · rw[← e j (by omega)];exact(hk.2 x hx).2 j hj
       · unfold mkN wnN
         rw[a0J (by omega)]
         exact⟨fun x q=>(by cases q),fun x q=>(by cases q)⟩
     obtain⟨_,hm,hw⟩:=c8.mp hpre
     have ok:UX st kn D=true:=R5.mpr ⟨fun x e q=>by
       rcases (h.kn_ x).mp q with c | ⟨j,c⟩
       · exact(hm x e).1 c
       · exact(hm x e).2 j c,fun x hx=>(h.st_ x).mpr ⟨(h.kn_ x).mpr (hw x hx).1,(hw x hx).2⟩⟩
     exact⟨ok,(UY r _ _ _ (h.step ok)).mpr hb⟩
theorem R6 {S:List Str}{Ds:List Deed}:OM S S Ds=true↔BkD S Ds:=by
 have:=UY (S:=S) Ds [] S S ⟨fun k=>by unfold mkN wnN;simp,fun x=>by simp[mkN],fun x=>by simp[enN]⟩
 simpa using this
section
variable {S:List Str}{DA DB:List Deed}{c:Nat}{κ:List Nat}
theorem GS {j:Nat}(h:j < DA.length) (X:List Deed):mkN (DA++X) j=mkN DA j/\enN (DA++X) j=enN DA j/\wnN (DA++X) j=wnN DA j:=by
 unfold mkN enN wnN;rw[yQ h];exact⟨rfl,rfl,rfl⟩
theorem LM (hκ:∀k∈κ,k < DB.length) {i b:Nat}(h:κ[i]?=some b):mkN (DA++AS DB κ) (DA.length+i)=mkN DB b/\enN (DA++AS DB κ) (DA.length+i)=enN DB b/\wnN (DA++AS DB κ) (DA.length+i)=wnN DB b:=by
 unfold mkN enN wnN
 rw[yP (a8Q _ _),b3X,US hκ,h]
 exact⟨rfl,rfl,rfl⟩
theorem kU (hκ:∀k∈κ,k < DB.length) {i:Nat}(h:κ[i]?=none):mkN (DA++AS DB κ) (DA.length+i)=none/\enN (DA++AS DB κ) (DA.length+i)=none/\wnN (DA++AS DB κ) (DA.length+i)=[]:=by
 unfold mkN enN wnN
 rw[yP (a8Q _ _),b3X,US hκ,h]
 exact⟨rfl,rfl,rfl⟩
theorem ZY (hp:DA.take c=DB.take c) {j:Nat}(h:j < c):mkN DA j=mkN DB j/\enN DA j=enN DB j:=by
 have:DA[j]?=DB[j]?:=by rw[← b2J h,hp,b2J h]
 unfold mkN enN;rw[this];exact⟨rfl,rfl⟩
theorem oW (hA:BkD S DA) (hB:BkD S DB) (hp:DA.take c=DB.take c) (hc:c<=DA.length) (hi:κ.Pairwise (· < ·)) (hκ:∀k∈κ,c<=k/\k < DB.length)
   (nm:∀b∈κ,∀x,mkN DB b=some x->∀j,c<=j->mkN DA j≠some x) (ne:∀b∈κ,∀x∈wnN DB b,∀j,c<=j->enN DA j≠some x)
   (cl:∀b∈κ,∀x∈wnN DB b,∀j,c<=j->j < b->mkN DB j=some x->j∈κ):BkD S (DA++AS DB κ):=by
 have hκ':∀k∈κ,k < DB.length:=fun k hk=>(hκ k hk).2
 intro k
 by_cases hk:k < DA.length
 · rw[(GS hk _).1,(GS hk _).2.2]
   obtain⟨a,b⟩:=hA k
   refine⟨fun x e=>⟨(a x e).1,fun j hj=>?_⟩,fun x hx=>⟨(b x hx).1.imp id fun⟨j,hj,e⟩=>⟨j,hj,by rw[(GS (by omega) _).1];exact e⟩,fun j hj=>?_⟩⟩
   · rw[(GS (by omega) _).1];exact(a x e).2 j hj
   · rw[(GS (by omega) _).2.1];exact(b x hx).2 j hj
 · obtain⟨i,rfl⟩:∃i,k=DA.length+i:=⟨k - DA.length,by omega⟩
   cases hb:κ[i]? with
   | none=>
     rw[(kU hκ' hb).1,(kU hκ' hb).2.2]
     exact⟨fun x q=>(by cases q),fun x q=>(by cases q)⟩
   | some b=>
     have hbκ:=yN hb
     obtain⟨h1,h2⟩:=hB b
     have hcb:=(hκ b hbκ).1
     rw[(LM hκ' hb).1,(LM hκ' hb).2.2]
     have all:∀(f:List Deed->Nat->Option Str) (x:Str),(∀j,j < DA.length->f (DA++AS DB κ) j=f DA j)->(∀j,j < c->f DA j=f DB j)->(∀i b,κ[i]?=some b->f (DA++AS DB κ) (DA.length+i)=f DB b)->(∀j,j < b->f DB j≠some x)->(∀j,c<=j->f DA j≠some x)->∀j,j < DA.length+i->f (DA++AS DB κ) j≠some x:=by
       intro f x f1 f2 f3 g1 g2 j hj
       by_cases q:j < DA.length
       · rw[f1 j q]
         by_cases q2:j < c
         · rw[f2 j q2];exact g1 j (by omega)
         · exact g2 j (by omega)
       · obtain⟨i',rfl⟩:∃i',j=DA.length+i':=⟨j - DA.length,by omega⟩
         have hil:i < κ.length:=(yT.mp hb).1
         have hb':κ[i']?=some κ[i']:=zV (by omega)
         rw[f3 i' _ hb']
         exact g1 _ ((kH hi hb' hb).1.mpr (by omega))
     refine⟨fun x e=>⟨(h1 x e).1,all mkN x (fun j q=>(GS q _).1) (fun j q=>(ZY hp q).1) (fun i b q=>(LM hκ' q).1) (h1 x e).2 (nm b hbκ x e)⟩,fun x hx=>⟨?_,all enN x (fun j q=>(GS q _).2.1) (fun j q=>(ZY hp q).2) (fun i b q=>(LM hκ' q).2.1) (h2 x hx).2 (ne b hbκ x hx)⟩⟩
     rcases (h2 x hx).1 with q | ⟨j,hj,e⟩
     · exact .inl q
     · by_cases q:j < c
       · exact .inr ⟨j,by omega,by rw[(GS (by omega) _).1,(ZY hp q).1];exact e⟩
       · obtain⟨i',hi'⟩:=b5J (cl b hbκ x hx j (by omega) hj e)
         have:=(kH hi hi' hb).1.mp hj
         exact .inr ⟨DA.length+i',by omega,by rw[(LM hκ' hi').1];exact e⟩
theorem kW (h:BkD S (DA++AS DB κ)) (hκ:∀k∈κ,k < DB.length) {b:Nat}(hb:b∈κ):(∀x,mkN DB b=some x->∀j,mkN DA j≠some x)/\∀x∈wnN DB b,∀j,enN DA j≠some x:=by
 obtain⟨i,hi⟩:=b5J hb
 obtain⟨h1,h2⟩:=h (DA.length+i)
 rw[(LM hκ hi).1] at h1
 rw[(LM hκ hi).2.2] at h2
 refine⟨fun x e j ej=>?_,fun x hx j ej=>?_⟩
 · have hj:j < DA.length:=by
     rcases Nat.lt_or_ge j DA.length with q | q
     · exact q
     · unfold mkN at ej;rw[a0J q] at ej;cases ej
   exact(h1 x e).2 j (by omega) (by rw[(GS hj _).1];exact ej)
 · have hj:j < DA.length:=by
     rcases Nat.lt_or_ge j DA.length with q | q
     · exact q
     · unfold enN at ej;rw[a0J q] at ej;cases ej
   exact(h2 x hx).2 j (by omega) (by rw[(GS hj _).2.1];exact ej)
end
def R7 (row:List Deed) (D:Deed):Bool:=(D.must.any fun x=>row.any fun F=>decide (CM F=some x))||row.any fun F=>decide (D.made≠none/\F.made=D.made)
def OO (A B:List Ln) (c:Nat):List Nat:=(E6 c B.length).filter fun k=>match B[k]? with | some l=>R7 ((dsL A).drop c) l.2 | none=>false
def AU (A B:List Ln):List Nat:=HZ B (OO A B (AN A B))
def BO (A B:List Ln) (out:List Nat):List Nat:=(E6 (AN A B) B.length).filter fun k=>!decide (k∈out)
theorem XT (c n:Nat):(E6 c n).Pairwise (· < ·):=by
 unfold E6
 rw[a5V]
 exact List.pairwise_lt_range.imp fun h=>by omega
theorem CH {A B:List Ln}{out:List Nat}{k:Nat}:k∈BO A B out↔(AN A B<=k/\k < B.length)/\k∉out:=by
 unfold BO;rw[yL,BV];simp
theorem UZ {B:List Ln}(hb:∀l∈B,l.2.real) (k:Nat):wnN (dsL B) k=CZ (dsL B) k:=by
 unfold wnN CZ
 rw[zF]
 cases h:B[k]? with
 | none=>rfl
 | some l=>exact(MF (hb l (yN h))).symm
theorem kX {DA:List Deed}{c:Nat}{p:Deed->Bool}:(DA.drop c).any p=true↔∃j F,c<=j/\DA[j]?=some F/\p F=true:=by
 rw[a3Z]
 constructor
 · rintro⟨F,hF,h⟩
   obtain⟨i,hi⟩:=b5J hF
   rw[b7K] at hi
   exact⟨c+i,F,by omega,hi,h⟩
 · rintro⟨j,F,hj,hF,h⟩
   refine⟨F,yN (i:=j - c) ?_,h⟩
   rw[b7K,show c+(j - c)=j by omega];exact hF
theorem MG {A B:List Ln}{c k:Nat}(hk:c<=k/\k < B.length):k∈OO A B c↔(∃x∈CZ (dsL B) k,∃j,c<=j/\enN (dsL A) j=some x)∨∃x,mkN (dsL B) k=some x/\∃j,c<=j/\mkN (dsL A) j=some x:=by
 unfold OO
 rw[yL,BV,and_iff_right hk,zV hk.2]
 have eB:(dsL B)[k]?=some B[k].2:=by rw[zF,zV hk.2];rfl
 unfold R7 CZ mkN enN
 rw[eB]
 simp only[b6Z,a3Z (l:=B[k].2.must),kX,decide_eq_true_eq,Option.bind_some]
 constructor
 · rintro (⟨x,hx,j,F,hj,hF,h⟩ | ⟨j,F,hj,hF,h1,h2⟩)
   · exact .inl ⟨x,hx,j,hj,by rw[hF];exact h⟩
   · cases hm:B[k].2.made with
     | none=>exact absurd hm h1
     | some x=>exact .inr ⟨x,rfl,j,hj,by rw[hF];exact h2.trans hm⟩
 · rintro (⟨x,hx,j,hj,h⟩ | ⟨x,hm,j,hj,h⟩)
   · cases hF:(dsL A)[j]? with
     | none=>rw[hF] at h;cases h
     | some F=>rw[hF] at h;exact .inl ⟨x,hx,j,F,hj,hF,h⟩
   · cases hF:(dsL A)[j]? with
     | none=>rw[hF] at h;cases h
     | some F=>rw[hF] at h;exact .inr ⟨j,F,hj,hF,by rw[hm];simp,by rw[hm];exact h⟩
section
variable {S:List Str}{A B:List Ln}(hA:BkD S (dsL A)) (hB:BkD S (dsL B)) (hb:∀l∈B,l.2.real)
include hA hB hb
theorem fA:BkD S (dsL A++AS (dsL B) (BO A B (AU A B))):=by
 obtain⟨l1,l2,l3⟩:=K4 A B
 have hlen:(dsL B).length=B.length:=zX _
 have hp:(dsL A).take (AN A B)=(dsL B).take (AN A B):=by rw[← a9X,← a9X,l3]
 refine oW hA hB hp (by rw[zX];exact l1) ((XT _ _).filter _) (fun k hk=>by rw[hlen];exact(CH.mp hk).1) (fun b h x e j hj ej=>?_) (fun b h x hx j hj ej=>?_) (fun b h x hx j hj hjb e=>?_)
 · obtain⟨h1,h2⟩:=CH.mp h
   exact h2 (CL (by rw[hlen];exact h1.2) ((MG h1).mpr (.inr ⟨x,e,j,hj,ej⟩)))
 · obtain⟨h1,h2⟩:=CH.mp h
   rw[UZ hb] at hx
   exact h2 (CL (by rw[hlen];exact h1.2) ((MG h1).mpr (.inl ⟨x,hx,j,hj,ej⟩)))
 · obtain⟨h1,h2⟩:=CH.mp h
   rw[UZ hb] at hx
   refine CH.mpr ⟨⟨hj,by omega⟩,fun q=>h2 ?_⟩
   refine(ED (by rw[hlen];exact h1.2)).mpr (.inr ⟨j,?_,q⟩)
   unfold BU
   exact yL.mpr ⟨List.mem_range.mpr hjb,by unfold NM;rw[e];exact decide_eq_true hx⟩
omit hA hB in
theorem ZZ {out:List Nat}(ho:HZ B out=out) (h:BkD S (dsL A++AS (dsL B) (BO A B out))):∀k∈AU A B,k∈out:=by
 have hlen:(dsL B).length=B.length:=zX _
 have hbar:∀k∈OO A B (AN A B),k∈out:=fun k hk=>by
   have hk2:=BV.mp (yL.mp hk).1
   by_cases q:k∈out
   · exact q
   · obtain⟨a,b⟩:=kW h (fun i hi=>by rw[hlen];exact(CH.mp hi).1.2) (CH.mpr ⟨hk2,q⟩)
     rcases (MG hk2).mp hk with ⟨x,hx,j,_,e⟩ | ⟨x,hx,j,_,e⟩
     · exact absurd e (b x (by rw[UZ hb];exact hx) j)
     · exact absurd e (a x hx j)
 have mono:∀n k,k∈AG (dsL B) (OO A B (AN A B)) n->k∈AG (dsL B) out n:=by
   have key:∀n k,k < n->k∈AG (dsL B) (OO A B (AN A B)) n->k∈AG (dsL B) out n:=by
     intro n k
     induction k using Nat.strongRecOn with
     | _ k ih=>
       intro hk hm
       rcases (ED hk).mp hm with q | ⟨j,a,b⟩
       · exact(ED hk).mpr (.inl (hbar k q))
       · exact(ED hk).mpr (.inr ⟨j,a,ih j (DO a) (xQ (DO a) hk) b⟩)
   exact fun n k hm=>key n k (DQ _ _ _ k hm) hm
 intro k hk
 rw[← ho]
 exact mono _ k hk
omit hA hB hb in
theorem kY {k:Nat}(h:k∈AU A B):AN A B<=k/\k < B.length:=by
 have hlen:(dsL B).length=B.length:=zX _
 have key:∀k,k < (dsL B).length->k∈AG (dsL B) (OO A B (AN A B)) (dsL B).length->AN A B<=k:=by
   intro k
   induction k using Nat.strongRecOn with
   | _ k ih=>
     intro hk hm
     rcases (ED hk).mp hm with q | ⟨j,a,b⟩
     · exact(BV.mp (yL.mp q).1).1
     · exact zN (ih j (DO a) (xQ (DO a) hk) b) (xR (DO a))
 have h2:=DQ _ _ _ k h
 exact⟨key k h2 h,by rw[← hlen];exact h2⟩
omit hA hB in
theorem fB (hg:AU A B=[]) {d:PyData}(h:qG A B (AN A B) d):False:=by
 have hlen:(dsL B).length=B.length:=zX _
 have no:∀k,k∉OO A B (AN A B):=fun k hk=>by
   have hk2:=BV.mp (yL.mp hk).1
   have:k∈AU A B:=CL (by rw[hlen];exact hk2.2) hk
   rw[hg] at this;cases this
 have dsA:∀{i:Nat}{a:Ln},A[i]?=some a->(dsL A)[i]?=some a.2:=fun {i a} e=>by rw[zF,e];rfl
 have dsB:∀{i:Nat}{b:Ln},B[i]?=some b->(dsL B)[i]?=some b.2:=fun {i b} e=>by rw[zF,e];rfl
 have bar1:∀{i j:Nat}{a b:Ln}{x:Str},AN A B<=i->AN A B<=j->A[i]?=some a->B[j]?=some b->CM a.2=some x->x∈b.2.must->False:=fun {i j a b x} h1 h2 h3 h4 h5 h6=>by
   have hj:j < B.length:=(yT.mp h4).1
   refine no j ((MG ⟨h2,hj⟩).mpr (.inl ⟨x,?_,i,h1,?_⟩))
   · unfold CZ;rw[dsB h4];exact h6
   · unfold enN;rw[dsA h3];exact h5
 rcases h with ⟨i,j,a,b,x,ci,cj,ga,gb,⟨_,e1,e2⟩ | ⟨_,e1,e2⟩⟩ | ⟨i,j,k,l,a,b,b',a',x,y,_,cl,li,cj,jk,ga,gb,gb2,ga2,e1,e2,e3,e4⟩
 · have hj:j < B.length:=(yT.mp gb).1
   refine no j ((MG ⟨cj,hj⟩).mpr (.inr ⟨x,?_,i,ci,?_⟩))
   · unfold mkN;rw[dsB gb];exact e2
   · unfold mkN;rw[dsA ga];exact e1
 · exact bar1 ci cj ga gb e1 (by rw[MF (hb b (yN gb))];exact QZ e2)
 · exact bar1 cl (zN cj jk) ga2 gb2 e3 e4
end
end DL
namespace DL
open PySem PySem.Spec L2 XC
theorem kZ {st so:List Str}{D:Deed}(h:∀x,x∈st↔x∈so):∀x,x∈XS st D↔x∈CW so D:=fun x=>by
 unfold XS
 rw[yW,yL,D5,h]
 have he:(!decide (x∈UW D))=true↔CM D≠some x:=by simp[R0]
 rw[he]
 cases D <;> simp[CW,CM,Deed.made,yW,yL] <;> simp[eq_comm]
theorem R8 {S:List Str}:∀(Ds Pre:List Deed) (st kn so sp so' sp':List Str),StB S st kn Pre->(∀x,x∈st↔x∈so)->(∀x∈sp,x∉kn)->(so++sp).Nodup->G0 so sp Ds->O0 so sp Ds=(so',sp')->∃st' kn',StB S st' kn' (Pre++Ds)/\(∀x,x∈st'↔x∈so')/\∀x∈sp',x∉kn'
 | [],Pre,st,kn,so,sp,so',sp',h,h1,h2,_,_,e=>by cases e;exact⟨st,kn,by rw[a2Q];exact h,h1,h2⟩
 | D::r,Pre,st,kn,so,sp,so',sp',h,h1,h2,nd,hf,e=>by
   obtain⟨g1,g2,g3,g4⟩:=hf
   have hin:∀x,D.made=some x->x∈sp:=fun x ex=>List.mem_of_mem_head? (g2 x ex)
   have ok:UX st kn D=true:=R5.mpr ⟨fun x ex=>h2 x (hin x ex),fun x hx=>by
     rw[← MF g3] at hx
     obtain⟨a,b⟩:=yL.mp hx
     exact(h1 x).mpr (j6 g1 a (of_decide_eq_true b))⟩
   obtain⟨st',kn',a,b,c⟩:=R8 r (Pre++[D]) _ _ _ _ so' sp' (h.step ok) (kZ h1) (fun x hx q=>by
     rcases yW.mp q with q | q
     · exact h2 x ((K0 sp D).subset hx) q
     · have ex:=D5.mp q
       have hh:=g2 x ex
       have nsp:sp.Nodup:=(List.nodup_append.mp nd).2.1
       unfold CC at hx
       rw[ex] at hx
       cases sp with
       | nil=>simp at hh
       | cons y ys=>
         have:y=x:=by simpa using hh
         subst this
         exact(xV.mp nsp).1 (by simpa using hx)) (nd.sublist (H0 g2)) g4 e
   exact⟨st',kn',by rw[show Pre++D::r=(Pre++[D])++r by simp];exact a,b,c⟩
theorem XU {S so sp so' sp' so2 sp2 sp3:List Str}{cs cs2:List Int}{ls as:List Ln}(hS:∀x,x∈S↔x∈so) (hn:namesOK (so++sp)) (h1:lnQ so sp cs ls so' sp') (p:sp3.Perm sp') (h2:lnQ so' sp3 cs2 as so2 sp2):BkD S (dsL (ls++as)):=by
 have dis:∀x,x∈so->x∈sp->False:=fun x a b=>(List.nodup_append.mp hn.2.1).2.2 x a x b rfl
 obtain⟨st,kn,a,b,c⟩:=R8 (S:=S) (dsL ls) [] S S so sp so' sp' ⟨fun k=>by unfold mkN wnN;simp,fun x=>by simp[mkN],fun x=>by simp[enN]⟩ hS (fun x hx q=>dis x ((hS x).mp q) hx) hn.2.1 h1.1 h1.2.1
 obtain⟨g1,g2,g3,g4⟩:=LH _ so sp so' sp' h1.1 h1.2.1 hn.2.1
 obtain⟨st2,kn2,a2,_⟩:=R8 (S:=S) (dsL as) _ st kn so' sp3 so2 sp2 a b (fun x hx=>c x (p.mem_iff.mp hx)) ((b9J so' p).nodup_iff.mpr g4) h2.1 h2.2.1
 have:=a2.bk
 rw[List.nil_append] at this
 rw[show dsL (ls++as)=dsL ls++dsL as from xI]
 exact this
def BX (κ:List Nat):List (List Nat):=κ.foldl (fun F n=>F++F.map fun s=>s++[n]) [[]]
theorem K5 (κ:List Nat) (n:Nat):BX (κ++[n])=BX κ++(BX κ).map fun s=>s++[n]:=by unfold BX;rw[List.foldl_append];rfl
theorem l0 (κ:List Nat):(BX κ).length=2 ^ κ.length:=by
 have go:∀(r κ:List Nat),(BX κ).length=2 ^ κ.length->(BX (κ++r)).length=2 ^ (κ++r).length:=fun r=>by
   induction r with
   | nil=>intro κ h;rw[a2Q];exact h
   | cons n r ih=>
     intro κ h
     rw[show κ++n::r=(κ++[n])++r by simp]
     refine ih _ ?_
     rw[K5,yY,zX,h,yY]
     simp[Nat.pow_succ];omega
 simpa using go κ [] rfl
theorem XV (κ:List Nat):∀s∈BX κ,s.Sublist κ:=by
 have go:∀(r κ:List Nat),(∀s∈BX κ,s.Sublist κ)->∀s∈BX (κ++r),s.Sublist (κ++r):=fun r=>by
   induction r with
   | nil=>intro κ h;rw[a2Q];exact h
   | cons n r ih=>
     intro κ h
     rw[show κ++n::r=(κ++[n])++r by simp]
     refine ih _ fun s hs=>?_
     rw[K5] at hs
     rcases yW.mp hs with q | q
     · exact(h s q).trans (List.sublist_append_left _ _)
     · obtain⟨s',h',rfl⟩:=zL.mp q
       exact(h s' h').append (a3K _)
 simpa using go κ [] (fun s hs=>by simp[BX] at hs;subst hs;exact a3K _)
theorem XW (κ:List Nat) (p:Nat->Bool):κ.filter p∈BX κ:=by
 have go:∀(r κ:List Nat),κ.filter p∈BX κ->(κ++r).filter p∈BX (κ++r):=fun r=>by
   induction r with
   | nil=>intro κ h;rw[a2Q];exact h
   | cons n r ih=>
     intro κ h
     rw[show κ++n::r=(κ++[n])++r by simp]
     refine ih _ ?_
     rw[K5,List.filter_append]
     cases hp:p n with
     | true=>exact zB _ (zL.mpr ⟨_,h,by simp[hp]⟩)
     | false=>exact zA _ (by simpa [hp] using h)
 simpa using go κ [] (by simp[BX])
theorem l4 {A B:List Ln}:AU A B∈BX (E6 (AN A B) B.length):=by
 have e:AU A B=(E6 (AN A B) B.length).filter fun k=>decide (k∈AU A B):=by
   refine XF (FI _ _ _) ((XT _ _).filter _) fun x=>?_
   rw[yL,BV,decide_eq_true_iff]
   exact⟨fun h=>⟨kY h,h⟩,fun h=>h.2⟩
 rw[e]
 exact XW _ _
section
variable {M:Own}{Q:DS->Own->Prop}{w:List Th}{A B:List Ln}
abbrev FC (w:List Th):List Str:=w.map (·.1)
def HG:FSp:=⟨fun xs M=>∃h:Int,xs=[.d (.int h)]/\xJ h<=2 ^ 21,fun xs M y M'=>M'=M/\∃(w:List Th) (so sp:List Str),y = .d (.tuple [wD w,AR so,AR sp])/\okN w/\namesOK (so++sp)/\(∀x,x∈FC w↔x∈so)/\w.length<=26⟩
theorem V0 {h:Int}(h1:xJ h<=2 ^ 21) (q:∀(w:List Th) (so sp:List Str),okN w->namesOK (so++sp)->(∀x,x∈FC w↔x∈so)->w.length<=26->Q (.d (.tuple [wD w,AR so,AR sp])) M):[DS.d (.int h)].length=1/\HG.pre [.d (.int h)] M/\∀x M',HG.post [.d (.int h)] M x M'->Q x M':=
 ⟨rfl,⟨h,rfl,h1⟩,fun x M' hh=>by obtain⟨rfl,w,so,sp,rfl,a,b,c,d⟩:=hh;exact q w so sp a b c d⟩
structure two9 (w:List Th) (A B:List Ln):Prop where
 t:ZU w A B
 a:BkD (FC w) (dsL A)
 b:BkD (FC w) (dsL B)
 la:A.length<=12
 lb:B.length<=12
 lw:w.length<=26
def MH:FSp:=⟨fun xs M=>∃ns:List Int,xs=[.d (.list (ns.map .int))]/\∀i∈ns,xJ i<=2 ^ 20,fun xs M y M'=>M'=M/\∃(w:List Th) (A B:List Ln),y = .d (.tuple [AH w A,AH w B])/\two9 w A B⟩
theorem a6 {ns:List Int}(h1:∀i∈ns,xJ i<=2 ^ 20) (q:∀(w:List Th) (A B:List Ln),two9 w A B->Q (.d (.tuple [AH w A,AH w B])) M):[DS.d (.list (ns.map .int))].length=1/\MH.pre [.d (.list (ns.map .int))] M/\∀x M',MH.post [.d (.list (ns.map .int))] M x M'->Q x M':=
 ⟨rfl,⟨ns,rfl,h1⟩,fun x M' hh=>by obtain⟨rfl,w,A,B,rfl,h⟩:=hh;exact q w A B h⟩
abbrev fC (row:List Deed) (D:Deed):List DS:=[.d D.d,.d (.tuple (row.map Deed.d))]
theorem XX:∀{a b:List Deed},a.map Deed.d=b.map Deed.d->a=b
 | [],[],_=>rfl
 | [],_::_,h=>by simp at h
 | _::_,[],h=>by simp at h
 | x::r,y::s,h=>by
   simp only[zI,List.cons.injEq] at h
   rw[FX h.1,XX h.2]
def EF:FSp:=⟨fun xs M=>∃(row:List Deed) (D:Deed),xs=fC row D/\D.real/\(∀F∈row,F.real)/\row.length<=50,fun xs M y M'=>∀(row:List Deed) (D:Deed),xs=fC row D->y = .d (.bool (R7 row D))/\M'=M⟩
theorem RW {row:List Deed}{D:Deed}(h1:D.real) (h2:∀F∈row,F.real) (h3:row.length<=50) (q:Q (.d (.bool (R7 row D))) M):(fC row D).length=2/\EF.pre (fC row D) M/\∀x M',EF.post (fC row D) M x M'->Q x M':=
 ⟨rfl,⟨row,D,rfl,h1,h2,h3⟩,fun x M' hh=>by obtain⟨rfl,rfl⟩:=hh row D rfl;exact q⟩
def ET:FSp:=⟨fun xs M=>∃(w:List Th) (A B:List Ln),xs=b2X w A B/\ZU w A B,fun xs M y M'=>∀(w:List Th) (A B:List Ln),xs=b2X w A B->y = .d (.tuple [AH w (A++AS B (BO A B (AU A B))),chD (AU A B)])/\M'=M⟩
theorem R9 (h:ZU w A B) (q:Q (.d (.tuple [AH w (A++AS B (BO A B (AU A B))),chD (AU A B)])) M):(b2X w A B).length=2/\ET.pre (b2X w A B) M/\∀x M',ET.post (b2X w A B) M x M'->Q x M':=
 ⟨rfl,⟨w,A,B,rfl,h⟩,fun x M' hh=>by obtain⟨rfl,rfl⟩:=hh w A B rfl;exact q⟩
abbrev goX (B:List Ln) (out:List Nat):List DS:=[.d (AC B),.d (.tuple (AD out))]
def HH:FSp:=⟨fun xs M=>∃(B:List Ln) (out:List Nat),xs=goX B out/\goodB [] B/\out.length<=60,fun xs M y M'=>∀(B:List Ln) (out:List Nat),xs=goX B out->y = .d (.list (AD (HZ B out)))/\M'=M⟩
theorem V1 {out:List Nat}(h1:goodB [] B) (h2:out.length<=60) (q:Q (.d (.list (AD (HZ B out)))) M):(goX B out).length=2/\HH.pre (goX B out) M/\∀x M',HH.post (goX B out) M x M'->Q x M':=
 ⟨rfl,⟨B,out,rfl,h1,h2⟩,fun x M' hh=>by obtain⟨rfl,rfl⟩:=hh B out rfl;exact q⟩
abbrev isX (w:List Th) (C:List Ln):List DS:=[.d (wD w),.d (.list (C.map AL))]
def EG:FSp:=⟨fun xs M=>∃(w:List Th) (C:List Ln),xs=isX w C/\okN w/\w.length<=26/\(∀l∈C,l.2.real)/\C.length<=60,fun xs M y M'=>∀(w:List Th) (C:List Ln),xs=isX w C->y = .d (.bool (OM (FC w) (FC w) (dsL C)))/\M'=M⟩
theorem O3 {C:List Ln}(h1:okN w) (h2:w.length<=26) (h3:∀l∈C,l.2.real) (h4:C.length<=60) (q:Q (.d (.bool (OM (FC w) (FC w) (dsL C)))) M):(isX w C).length=2/\EG.pre (isX w C) M/\∀x M',EG.post (isX w C) M x M'->Q x M':=
 ⟨rfl,⟨w,C,rfl,h1,h2,h3,h4⟩,fun x M' hh=>by obtain⟨rfl,rfl⟩:=hh w C rfl;exact q⟩
def JJ:FSp:=⟨fun xs M=>∃κ:List Nat,xs=[.d (.list (AD κ))]/\κ.length<=12,fun xs M y M'=>∀κ:List Nat,xs=[.d (.list (AD κ))]->y = .d (.list ((BX κ).map chD))/\M'=M⟩
theorem fD {κ:List Nat}(h:κ.length<=12) (q:Q (.d (.list ((BX κ).map chD))) M):[DS.d (.list (AD κ))].length=1/\JJ.pre [.d (.list (AD κ))] M/\∀x M',JJ.post [.d (.list (AD κ))] M x M'->Q x M':=
 ⟨rfl,⟨κ,rfl,h⟩,fun x M' hh=>by obtain⟨rfl,rfl⟩:=hh κ rfl;exact q⟩
end
end DL
namespace DL
open PySem PySem.Spec L2 XC
theorem XY:∀(Ds:List Deed) (D:Deed) (o:Nat),mkL (Ds++[D]) o=mkL Ds o++(match D.made with | some x=>[(x,a3Q ((o+Ds.length:Nat):Int))] | none=>[])
 | [],D,o=>by show(match D.made with | some x=>[(x,a3Q (o:Nat))] | none=>[])++[]=_;rw[a2Q];rfl
 | F::r,D,o=>by
   rw[List.cons_append,mkL,mkL,XY r D (o+1),b3V]
   congr 2
   rw[show o+1+r.length=o+(F::r).length by simp;omega]
theorem c9 (es:List (Option Str)) (z:Str):((es.map CU).any fun e=>a0X e (.str z))=es.any fun e=>decide (e=some z):=by
 rw[List.any_map]
 congr 1
 funext e
 exact QY e (some z)
theorem O4 {es:List (Option Str)}(h:∀e∈es,∀z,e=some z->AO z):zH (.list (es.map CU))=true:=by
 refine BD (EY fun d hd=>?_) ?_
 · obtain⟨e,he,rfl⟩:=zL.mp hd
   exact zG (CG (h e he))
 · have:a1Z (es.map CU)<=2:=J9 fun d hd=>by
     obtain⟨e,he,rfl⟩:=zL.mp hd
     cases e <;> simp[CU,a1V]
   simp only[a1V]
   omega
def wR (A B:List Ln) (c:Nat):PyData->Bool | .int i=>(match B[i.toNat]? with | some l=>R7 ((dsL A).drop c) l.2 | none=>false) | _=>false
theorem l5 (A B:List Ln) (c:Nat):((AD (E6 c B.length)).filter (wR A B c)).map id=AD (OO A B c):=by
 rw[a9Z]
 unfold AD EB OO
 rw[xU,xU,zD,zD]
 congr 1
theorem TC (A B:List Ln) (G:List Nat):((AD (E6 (AN A B) B.length)).filter (cCh G)).map id=AD (BO A B G):=by
 rw[a9Z]
 unfold BO
 have go:∀κ:List Nat,(AD κ).filter (cCh G)=AD (κ.filter fun k=>!decide (k∈G)):=fun κ=>by
   induction κ with
   | nil=>rfl
   | cons k r ih=>
     show List.filter (cCh G) (.int (k:Int)::AD r)=_
     have e:cCh G (.int (k:Int)) = !decide (k∈G):=by show(!((AD G).any fun e=>a0X e (.int (k:Int))))=_;rw[QV]
     rw[List.filter_cons,List.filter_cons,e,ih]
     cases h : !decide (k∈G) <;> rfl
 exact go _
theorem fE {Ds:List Deed}(hf:FreshD Ds) {k:Nat}{D:Deed}(hD:Ds[k]?=some D):∃js:List Nat,((D.must.map a0W).filter (cMk Ds)).map (fMk Ds)=AD js/\(∀j,j∈js↔j∈BU Ds k)/\js.length<=D.must.length:=by
 have val:∀n,(B8 (mkL Ds 0) n).isSome=true->∃j:Nat,mkN Ds j=some n/\XA Ds n=(j:Int):=fun n h=>by
   rcases K1 Ds 0 hf.one n with ⟨a,_⟩ | ⟨j,a,b⟩
   · rw[a] at h;cases h
   · exact⟨j,a,by unfold XA;rw[b,b7V]⟩
 have isS:∀n j,mkN Ds j=some n->(B8 (mkL Ds 0) n).isSome=true:=fun n j e=>by
   rcases K1 Ds 0 hf.one n with ⟨_,b⟩ | ⟨i,a,b⟩
   · exact absurd e (b j)
   · rw[b];rfl
 refine⟨(D.must.filter fun n=>(B8 (mkL Ds 0) n).isSome).map fun n=>(XA Ds n).toNat,?_,fun j=>?_,by rw[zX];exact yJ _ _⟩
 · rw[T7 hf]
   unfold AD EB
   rw[zD,zD,zD]
   apply yM
   intro n hn
   obtain⟨j,_,e⟩:=val n (yL.mp hn).2
   show a3Q (XA Ds n) = .int (((XA Ds n).toNat:Nat):Int)
   rw[e,a2J]
 · have hm:CZ Ds k=D.must:=by unfold CZ;rw[hD]
   rw[zL]
   constructor
   · rintro⟨n,hn,rfl⟩
     obtain⟨h1,h2⟩:=yL.mp hn
     obtain⟨j,a,e⟩:=val n h2
     rw[e,a2J]
     unfold BU
     exact yL.mpr ⟨List.mem_range.mpr (hf.bef j k n a (by rw[hm];exact h1)),by unfold NM;rw[a,hm];exact decide_eq_true h1⟩
   · intro hj
     unfold BU at hj
     obtain⟨h1,h2⟩:=yL.mp hj
     unfold NM at h2
     cases e:mkN Ds j with
     | none=>rw[e] at h2;cases h2
     | some n=>
       rw[e] at h2
       have hn:n∈D.must:=by rw[← hm];exact of_decide_eq_true h2
       obtain⟨i,a,e2⟩:=val n (isS n j e)
       exact⟨n,yL.mpr ⟨hn,isS n j e⟩,by rw[e2,a2J];exact hf.one i j n a e⟩
theorem l6 {as bs:List Nat}(h:∀j,j∈as↔j∈bs) (p:Nat->Bool):as.any p=bs.any p:=by
 rw[a6Z,a3Z,a3Z]
 exact⟨fun⟨j,a,b⟩=>⟨j,(h j).mp a,b⟩,fun⟨j,a,b⟩=>⟨j,(h j).mpr a,b⟩⟩
theorem oX (ls kn:List Str):(ls.map a0W).map (fun d=>a8V ((kn.map a0W).any fun e=>a0X e d))=(ls.map fun x=>decide (x∈kn)).map .bool:=by
 rw[zD,zD]
 apply yM
 intro x _
 show a8V ((kn.map a0W).any fun e=>a0X e (.str x)) = .bool (decide (x∈kn))
 rw[MA]
theorem l7 (ls kn:List Str):(ls.map a0W).map (fun d=>a8V (!((kn.map a0W).any fun e=>a0X e d)))=(ls.map fun x=>!decide (x∈kn)).map .bool:=by
 rw[zD,zD]
 apply yM
 intro x _
 show a8V (!((kn.map a0W).any fun e=>a0X e (.str x))) = .bool (!decide (x∈kn))
 rw[MA]
theorem O5 (w:List Th):(w.map thD).map (fun d=>match d with | .tuple (x::_)=>x | d=>d)=(FC w).map .str:=by
 rw[zD,zD];rfl
theorem l8 {K:Frg}{ρ:List (Option DS)}{M:Own}{Q:DS->Own->Prop}(q:∀p,M p=none->Q (.loc p) (M.put p (.d (BG [])))):DE K gF ρ M Q:=fun σ H QQ R k p hp=>by
 obtain⟨oa0,st0⟩:=LS (kvs:=[]) (ks:=[]) R.own hp (by unfold DKV;rfl)
 exact k _ _ (.loc p) _ oa0 (by unfold SI;rfl) st0 (q p (R.own.none hp))
end DL
namespace DL
open PySem PySem.Spec L2 XC
def qH (n:Nat):PyData->PyData | .tuple ds=>.tuple (ds++[.int (n:Int)]) | d=>d
theorem l9 (F:List (List Nat)) (n:Nat):(F.map chD).map (qH n)=(F.map fun s=>s++[n]).map chD:=by
 rw[zD,zD]
 apply yM
 intro s _
 show PyData.tuple (AD s++[.int (n:Int)]) = .tuple (AD (s++[n]))
 rw[NP]
def fTh:PyData->PyData | .tuple (x::_)=>x | d=>d
theorem oY (w:List Th):(w.map thD).map fTh=(FC w).map .str:=by
 rw[zD,zD];rfl
theorem MI:∀a:List Nat,plAll (AD a)=true
 | []=>rfl
 | n::r=>by show(plD (.int (n:Int))&&plAll (AD r))=true;rw[MI r];rfl
theorem lA (a b:List Nat):a0X (chD a) (chD b)=decide (a=b):=by
 by_cases e:a=b
 · subst e
   rw[decide_eq_true rfl]
   exact JE (BB a)
 · rw[decide_eq_false e]
   cases h:a0X (chD a) (chD b) with
   | false=>rfl
   | true=>
     have:=ZR _ _ (show plD (chD a)=true from MI a) (show plD (chD b)=true from MI b) h
     exact absurd (G1 (PyData.tuple.inj this)) e
theorem uG (a b:List Nat):a0X (.list (AD a)) (.list (AD b))=decide (a=b):=by
 by_cases e:a=b
 · subst e
   rw[decide_eq_true rfl]
   exact JE (GD a)
 · rw[decide_eq_false e]
   cases h:a0X (.list (AD a)) (.list (AD b)) with
   | false=>rfl
   | true=>
     simp only[a0X] at h
     exact absurd (G1 (eqv_plAll _ _ (MI a) (MI b) h)) e
theorem lB (c n:Nat):BJ (c:Int) ((n:Int) - (c:Int)).toNat=AD (E6 c n):=by
 unfold BJ AD EB E6
 rw[show((n:Int) - (c:Int)).toNat=n - c by omega,zD,zD]
 apply yM
 intro k _
 show a3Q ((c:Int)+(k:Int)) = .int ((c+k:Nat):Int)
 congr 1
theorem a7 {A B:List Ln}{G:List Nat}:((AD (E6 (AN A B) B.length)).filter (cCh G)).map (fLn B)=(AS B (BO A B G)).map AL:=by
 have e:=TC A B G
 rw[a9Z] at e
 rw[e]
 exact LG fun k hk=>(CH.mp hk).1.2
theorem uH (out G:List Nat) (h:∀k∈G,k∈out):(AD G).map (kE out)=(G.map fun _=>true).map .bool:=by
 rw[XD]
 congr 1
 exact yM fun k hk=>decide_eq_true (h k hk)
theorem a8 {α:Type}(l:List α):(l.map fun _=>true).all id=true:=by
 rw[List.all_map];simp
theorem lC {w w':List Th}{B:List Ln}(h:goodB w B):goodB w' B:=⟨h.fresh,h.real,h.few,h.hands⟩
end DL
namespace DL
open PySem PySem.Spec L2
def FnIn (K:Frg) (n:Str) (st:Stmt):Prop:=∃(f:Addr) (oc:Value) (od:Option Addr) (kV dc pm:Value) (an:Option Addr) (cd ct:Value) (sl:Array (Option Value)),a2W K mainGlobals n=some (some (.ref f)) /\
 K.lookup f=some ⟨oc,od,.func (a7J n n (EH st) (BZ st) (AB st) .none kV dc pm an cd ct),sl⟩/\b3K K cd n=true/\a5Q K (.ref f)=true
theorem oZ {K:Frg}{n:Str}{st:Stmt}{f:Addr}{oc:Value}{od:Option Addr}{kV dc pm:Value}{an:Option Addr}{cd ct:Value}{sl:Array (Option Value)}(a:a2W K mainGlobals n=some (some (.ref f)))
   (l:K.lookup f=some ⟨oc,od,.func (a7J n n (EH st) (BZ st) (AB st) .none kV dc pm an cd ct),sl⟩) (c:b3K K cd n=true) (k:a5Q K (.ref f)=true):FnIn K n st:=⟨f,oc,od,kV,dc,pm,an,cd,ct,sl,a,l,c,k⟩
structure FnAt (K:Frg) (mg:Str->Option Value) (n:Str) (st:Stmt) (f:Addr) (fd:FuncData):Prop where
 fn:Fun K n n st f fd
 mg_:mg n=some (.ref f)
 kp:a5Q K (.ref f)=true
theorem FnIn.at {K:Frg}{n:Str}{st:Stmt}{h:Heap}{mg:Str->Option Value}(b:FnIn K n st) (X:K.In h) (G:h.Ns mainGlobals mg):∃f fd,FnAt K mg n st f fd:=
 let ⟨f,_,_,_,_,_,_,_,_,_,a,l,c,k⟩:=b
 ⟨f,_,gJ l c k,PySem.W.mg_of X G a,k⟩
section
variable {P:Program}{w:World}{K:Frg}{mg:Str->Option Value}{base:Heap}{n:Str}{st:Stmt}{f:Addr}{fd:FuncData}{k:Nat}{ps:List Str}
abbrev lD (n:Str) (st:Stmt) (ps:List Str):Prop:=∀(kV doc pm:Value) (an:Option Addr) (cdv ct:Value) (us:List Value),us.length=ps.length->bindArgs (a7J n n (EH st) (BZ st) (AB st) .none kV doc pm an cdv ct) ⟨us,[]⟩=pure (ps.zip us)
theorem FnAt.has {S:FSp}(a:FnAt K mg n st f fd) (h:FnOk P w K mg base CX0 k f fd ps (spD K ps.length S)) (b:lD n st ps):Has P w K mg base n k ps S:=⟨f,fd,h,a.mg_,a.kp,a.fn.binds b⟩
theorem FnAt.hasX {S:FSpX}(a:FnAt K mg n st f fd) (h:FnOk P w K mg base (XC.CXE P w) k f fd ps (spX K ps.length S)) (b:lD n st ps):HasX P w K mg base n k ps S:=⟨f,fd,h,a.mg_,a.kp,a.fn.binds b⟩
end
end DL
namespace DL
open PySem PySem.Spec L2 XC
abbrev IE:Stmt:=_root_.sT 1
abbrev GF:Stmt:=_root_.sT 2
abbrev K6:Stmt:=_root_.sT 6
abbrev IF:Stmt:=_root_.sT 7
abbrev K7:Stmt:=_root_.sT 8
abbrev IG:Stmt:=_root_.sT 9
abbrev E1:Stmt:=_root_.sT 10
abbrev G3:Stmt:=_root_.sT 17
abbrev GG:Stmt:=_root_.sT 19
abbrev HI:Stmt:=_root_.sT 16
abbrev MJ:Stmt:=_root_.sT 20
abbrev CB:Stmt:=jT 0 (_root_.sT 13)
abbrev BE:Stmt:=_root_.sT 24
abbrev V2:Stmt:=_root_.sT 23
abbrev HJ:Stmt:=_root_.sT 18
abbrev E2:Stmt:=_root_.sT 21
abbrev E3:Stmt:=_root_.sT 3
abbrev MK:Stmt:=_root_.sT 26
abbrev GH:Stmt:=_root_.sT 29
abbrev GI:Stmt:=_root_.sT 28
abbrev CN:Stmt:=_root_.sT 30
abbrev ML:Stmt:=_root_.sT 27
abbrev D6:Stmt:=_root_.sT 32
abbrev FM:Stmt:=_root_.sT 31
abbrev CO:Stmt:=_root_.sT 36
abbrev FD:Stmt:=_root_.sT 34
abbrev GJ:Stmt:=_root_.sT 35
abbrev EU:Stmt:=_root_.sT 37
abbrev CP:Stmt:=_root_.sT 38
abbrev E4:Stmt:=_root_.sT 39
abbrev FE:Stmt:=_root_.sT 40
abbrev FF:Stmt:=_root_.sT 41
abbrev IH:Stmt:=_root_.sT 47
abbrev GK:Stmt:=_root_.sT 42
abbrev FG:Stmt:=_root_.sT 43
abbrev EJ:Stmt:=_root_.sT 44
abbrev CQ:Stmt:=_root_.sT 45
abbrev B7:Stmt:=_root_.sT 46
abbrev EV:Stmt:=_root_.sT 48
abbrev TD:Stmt:=_root_.sT 49
abbrev vS (x:String) (t:Tok):Value:=.str (a0Q x) t
abbrev eS (P:Params) (x:String) (t:Tok) (v:Value):DictEntry:=⟨a9V P (a0Q x),.str (a0Q x) t,v⟩
abbrev hs (i:Nat):Stmt:=PySem.Challenge.pw_struckdeeds_k59_whole_the_least_carried.main.body.getD i (.Pass ⟨0,0,0,0⟩)
abbrev fO (n q:String) (st:Stmt) (doc pm:Value) (c:Nat):Obj:=⟨.type "function", none,.func (a7J (a0Q n) (a0Q q) (EH st) (BZ st) (AB st) .none .none doc pm none (.ref c) .none),#[]⟩
abbrev gO (n q:String) (st:Stmt):Obj:=⟨.none,none,.func (.mk (a0Q n) (a0Q q) (EH st) (.stmts (BZ st)) (AB st) 0 [] .none .none .none .none none .none .none 0),#[]⟩
abbrev tO (vs:Array Value):Obj:=⟨.type "tuple", none,.seq vs 0,#[]⟩
abbrev kO (n q:String) (a b c:Tok) (l k f:Nat) (x1:Value) (t:Nat) (x2 x3 x4 x5:Value) (u l2:Nat) (d:Tok):Obj:=⟨.type "code", none,.fields #[vS n a,vS q b,vS "/claim/cut.py" c,.int l 0,.int k 0,.int 0 0,.int 0 0,.int f 0,x1,.bool true,.int t 0,x2,.none,x3,x4,x5,.int u 0,.int l2 0,vS "/claim/cut.py" d],#[]⟩
abbrev fP (n:String) (st:Stmt) (doc pm:Value) (c:Nat):Obj:=fO n n st doc pm c
abbrev gP (n:String) (st:Stmt):Obj:=gO n n st
abbrev kP (n:String) (a b c:Tok) (l k f:Nat) (x1:Value) (t:Nat) (x2 x3 x4 x5:Value) (u l2:Nat) (d:Tok):Obj:=kO n n a b c l k f x1 t x2 x3 x4 x5 u l2 d
abbrev nF (vs:Array Value):Obj:=⟨.none,none,.fields vs,#[]⟩
abbrev lF (l:List (Nat×Nat×Nat)):Obj:=nF (l.flatMap fun t=>[.int t.1 0,.int t.2.1 0,.ref t.2.2]).toArray
def hV:Program:={ PySem.Challenge.pw_struckdeeds_k59_whole_the_least_carried with main:={ PySem.Challenge.pw_struckdeeds_k59_whole_the_least_carried.main with body:=([1,2,3,5,6,7,8,9,10,12,13,14,16,17,18,19,20,21,23,24,26,27,28,29,30,31,32,34,35,36,37,38,39,40,41,42,43,44,45,46,47,48,49]:List Nat).map hs } }
abbrev hB:List Stmt:=PySem.W.behindTheImports PySem.Challenge.pw_struckdeeds_k59_whole_the_least_carried
def hN:Env:={ scope:=PySem.Challenge.pw_struckdeeds_k59_whole_the_least_carried.main.scope,locals:=mainNs,globals:=mainNs,cells:=[],code:=a0Z 13,frame:=some 14 }
abbrev hC:Code:=.body hB hN
abbrev hF:List Frame:=[PySem.W.topFrame { line:=0,col:=0,endLine:=0,endCol:=0 }]
abbrev hI (t:PySem.W.BT) (l:List (Nat×Obj)):PySem.W.BT:=l.foldl (fun t x=>t.ins x.1 x.2) t
noncomputable def hT0:Params->PySem.W.BT:=fun P=>hI .nil [(0,PySem.W.boot_o_0 P),(1,PySem.W.boot_o_1 P),(2,PySem.W.boot_o_2 P),(3,PySem.W.boot_o_3 P),(4,PySem.W.boot_o_4 P),(5,PySem.W.boot_o_5 P),(6,PySem.W.boot_o_6 P),(7,PySem.W.boot_o_7 P),(8,PySem.W.boot_o_8 P),(9,PySem.W.boot_o_9 P),(10,PySem.W.boot_o_10 P)]
noncomputable def hT1:Params->PySem.W.BT:=fun P=>hI (hT0 P) (
 (11,tO #[]) ::
 (12,nF #[]) ::
 (13,(⟨(.type "code"),none,(.fields #[(vS "<module>" 182),(vS "<module>" 183),(vS "/claim/cut.py" 184),(.int 1 0),(.int 0 0),(.int 0 0),(.int 0 0),(.int 0 0),(.ref 11),(.bool false),(.int 181 0),(.ref 12),.none,.none,.none,.none,(.int 185 0),(.int 1 0),(vS "/claim/cut.py" 186)]),#[]⟩:Obj)) ::
 (14,(⟨(.type "frame"),none,.plain,#[(some (.ref 13)),(some (.ref 3)),(some (.ref 3)),none,(some (vS "__main__" 164)),none,(some (.ref 0))]⟩:Obj))::[])
noncomputable abbrev hX1 (w:World) (os:OsState):PySem.W.SharedT:=⟨hT1 w.params,15,{ },⟨[]⟩,{ },187,os⟩
noncomputable abbrev hX2 (w:World) (os:OsState):PySem.W.SharedT:=⟨hT1 w.params,15,{ },⟨[]⟩,{ },187,os⟩
def hD3:Params->List DictEntry:=fun P=>[eS P "__name__" 165 (vS "struckdeeds.errors" 269),eS P "__doc__" 166 .none,eS P "__package__" 167 .none,eS P "__loader__" 168 (.builtin "__main__.__loader__#opaque"),eS P "__spec__" 169 .none,eS P "__annotations__" 170 (.ref 6),eS P "__builtins__" 171 (.ref 4),eS P "__file__" 173 (vS "/claim/cut.py" 172),eS P "__cached__" 174 .none,eS P "is_whole" 195 (.ref 21),eS P "is_within" 204 (.ref 28),eS P "same_ahead" 210 (.ref 33),eS P "FORMS" 234 (.ref 34),eS P "form_of" 241 (.ref 41),eS P "names_in" 248 (.ref 48),eS P "made_by" 255 (.ref 55),eS P "ended_by" 262 (.ref 62),eS P "must_stand" 268 (.ref 67),eS P "StrikeError" 288 (.ref 77)]
noncomputable def hT3:Params->PySem.W.BT:=fun P=>hI (hT1 P) (
 (3,(⟨.type "dict", none,.dict (hD3 P).toArray 19,#[]⟩:Obj)) ::
 (12,lF [(2,0,20),(4,0,27),(6,0,32),(11,0,40),(13,0,47),(15,0,54),(21,0,61),(27,0,66),(31,0,73)]) ::
 (15,tO #[]) ::
 (16,nF #[]) ::
 (17,tO #[(vS "thing" 192)]) ::
 (18,tO #[]) ::
 (19,gP "is_whole" (hs 1)) ::
 (20,kP "is_whole" 189 190 191 2 1 3 (.ref 15) 181 (.ref 16) (.ref 17) (.ref 18) (.ref 19) 193 2 194) ::
 (21,fP "is_whole" (hs 1) .none (vS "struckdeeds.words" 187) 20) ::
 (22,tO #[]) ::
 (23,nF #[]) ::
 (24,tO #[(vS "thing" 199),(vS "low" 200),(vS "high" 201)]) ::
 (25,tO #[]) ::
 (26,gP "is_within" (hs 2)) ::
 (27,kP "is_within" 196 197 198 4 3 3 (.ref 22) 181 (.ref 23) (.ref 24) (.ref 25) (.ref 26) 202 4 203) ::
 (28,fP "is_within" (hs 2) .none (vS "struckdeeds.words" 187) 27) ::
 (29,tO #[]) ::
 (30,nF #[]) ::
 (31,gP "same_ahead" (hs 3)) ::
 (32,kP "same_ahead" 205 206 207 6 2 3 (.ref 29) 181 (.ref 30) .none .none (.ref 31) 208 6 209) ::
 (33,fP "same_ahead" (hs 3) .none (vS "struckdeeds.words" 187) 32) ::
 (34,(⟨(.type "dict"),none,(.dict #[eS P "put" 213 (vS "npk" 214),eS P "take" 215 (vS "n" 216),eS P "move" 217 (vS "np" 218),eS P "count" 219 (vS "nk" 220),eS P "name" 221 (vS "nn" 222),eS P "split" 223 (vS "nnpk" 224),eS P "join" 225 (vS "nn" 226)] 7),#[]⟩:Obj)) ::
 (35,tO #[]) ::
 (36,nF #[]) ::
 (37,tO #[(vS "word" 238)]) ::
 (38,tO #[]) ::
 (39,gP "form_of" (hs 6)) ::
 (40,kP "form_of" 235 236 237 11 1 3 (.ref 35) 181 (.ref 36) (.ref 37) (.ref 38) (.ref 39) 239 11 240) ::
 (41,fP "form_of" (hs 6) .none (vS "struckdeeds.deeds" 211) 40) ::
 (42,tO #[]) ::
 (43,nF #[]) ::
 (44,tO #[(vS "deed" 245)]) ::
 (45,tO #[]) ::
 (46,gP "names_in" (hs 7)) ::
 (47,kP "names_in" 242 243 244 13 1 3 (.ref 42) 181 (.ref 43) (.ref 44) (.ref 45) (.ref 46) 246 13 247) ::
 (48,fP "names_in" (hs 7) .none (vS "struckdeeds.deeds" 211) 47) ::
 (49,tO #[]) ::
 (50,nF #[]) ::
 (51,tO #[(vS "deed" 252)]) ::
 (52,tO #[]) ::
 (53,gP "made_by" (hs 8)) ::
 (54,kP "made_by" 249 250 251 15 1 3 (.ref 49) 181 (.ref 50) (.ref 51) (.ref 52) (.ref 53) 253 15 254) ::
 (55,fP "made_by" (hs 8) .none (vS "struckdeeds.deeds" 211) 54) ::
 (56,tO #[]) ::
 (57,nF #[]) ::
 (58,tO #[(vS "deed" 259)]) ::
 (59,tO #[]) ::
 (60,gP "ended_by" (hs 9)) ::
 (61,kP "ended_by" 256 257 258 21 1 3 (.ref 56) 181 (.ref 57) (.ref 58) (.ref 59) (.ref 60) 260 21 261) ::
 (62,fP "ended_by" (hs 9) .none (vS "struckdeeds.deeds" 211) 61) ::
 (63,tO #[]) ::
 (64,nF #[]) ::
 (65,gP "must_stand" (hs 10)) ::
 (66,kP "must_stand" 263 264 265 27 1 3 (.ref 63) 181 (.ref 64) .none .none (.ref 65) 266 27 267) ::
 (67,fP "must_stand" (hs 10) .none (vS "struckdeeds.deeds" 211) 66) ::
 (68,tO #[(.type "ValueError")]) ::
 (69,(⟨(.type "builtin_function_or_method"),none,(.fields #[(.builtin "type.__prepare__"),(.type "type")]),#[]⟩:Obj)) ::
 (70,(⟨(.type "dict"),none,(.dict #[eS P "__module__" 278 (vS "struckdeeds.errors" 269),eS P "__qualname__" 280 (vS "StrikeError" 279),eS P "__firstlineno__" 282 (.int 31 281),eS P "__static_attributes__" 283 (.ref 75)] 4),#[]⟩:Obj)) ::
 (71,tO #[]) ::
 (72,nF #[]) ::
 (73,(⟨(.type "code"),none,(.fields #[(vS "StrikeError" 273),(vS "StrikeError" 274),(vS "/claim/cut.py" 275),(.int 31 0),(.int 0 0),(.int 0 0),(.int 0 0),(.int 0 0),(.ref 71),(.bool false),(.int 181 0),(.ref 72),.none,.none,.none,.none,(.int 276 0),(.int 31 0),(vS "/claim/cut.py" 277)]),#[]⟩:Obj)) ::
 (74,(⟨(.type "frame"),none,.plain,#[(some (.ref 73)),(some (.ref 3)),(some (.ref 70)),none,(some (vS "struckdeeds.errors" 269)),none,(some (.ref 0))]⟩:Obj)) ::
 (75,tO #[]) ::
 (76,(⟨(.type "dict"),none,(.dict #[eS P "__module__" 278 (vS "struckdeeds.errors" 269),eS P "__firstlineno__" 282 (.int 31 281),eS P "__static_attributes__" 283 (.ref 75),eS P "__weakref__" 285 (.ref 78),eS P "__doc__" 286 .none] 3),#[]⟩:Obj)) ::
 (77,(⟨(.type "type"),none,(.cls (.mk "StrikeError" [(.type "ValueError")] [(.ref 77),(.type "ValueError"),(.type "Exception"),(.type "BaseException"),(.type "object")] 76 "StrikeError" true [] [] false none false)),#[(some (.ref 68)),none,(some (vS "StrikeError" 271)),(some (vS "StrikeError" 279)),(some (.builtin "ValueError.__new__")),(some (.bool true))]⟩:Obj)) ::
 (78,(⟨(.type "getset_descriptor"),none,(.fields #[(vS "__weakref__" 284),(.ref 77),(.builtin "ExceptionGroup.__weakref__"),.none]),#[]⟩:Obj)) ::
 (79,(⟨(.type "super"),none,(.fields #[(.ref 77),(.ref 77),(.ref 77)]),#[]⟩:Obj)) ::
 (80,(⟨(.type "builtin_function_or_method"),none,(.fields #[(.builtin "object.__init_subclass__"),(.ref 77)]),#[]⟩:Obj))::[])
noncomputable abbrev hX3 (w:World) (os:OsState):PySem.W.SharedT:=⟨hT3 w.params,81,{ },⟨[]⟩,{ },289,os⟩
def hD4:Params->List DictEntry:=fun P=>(hD3 P).set 0 (eS P "__name__" 165 (vS "struckdeeds.joins" 386))++[eS P "NoLine" 313 (.ref 97),eS P "NoJoin" 329 (.ref 109),eS P "makers" 337 (.ref 116),eS P "deeds_of" 343 (.ref 121),eS P "book_of" 349 (.ref 126),eS P "is_number" 357 (.ref 133),eS P "needs" 363 (.ref 138),eS P "asking_for" 369 (.ref 143),eS P "goes" 379 (.ref 150),eS P "chains_by_ends" 385 (.ref 155),eS P "shared" 395 (.ref 162)]
noncomputable def hT4:Params->PySem.W.BT:=fun P=>hI (hT3 P) (
 (3,(⟨.type "dict", none,.dict (hD4 P).toArray 30,#[]⟩:Obj)) ::
 (12,lF [(2,0,20),(4,0,27),(6,0,32),(11,0,40),(13,0,47),(15,0,54),(21,0,61),(27,0,66),(31,0,73),(33,0,86),(37,0,105),(40,0,115),(43,0,120),(45,0,125),(47,0,132),(49,0,137),(54,0,142),(57,0,149),(59,0,154),(70,0,161)]) ::
 (77,(⟨(.type "type"),none,(.cls (.mk "StrikeError" [(.type "ValueError")] [(.ref 77),(.type "ValueError"),(.type "Exception"),(.type "BaseException"),(.type "object")] 76 "StrikeError" true [] [(.ref 97),(.ref 109)] false none false)),#[(some (.ref 68)),none,(some (vS "StrikeError" 271)),(some (vS "StrikeError" 279)),(some (.builtin "ValueError.__new__")),(some (.bool true))]⟩:Obj)) ::
 (81,tO #[(.ref 77)]) ::
 (82,(⟨(.type "builtin_function_or_method"),none,(.fields #[(.builtin "type.__prepare__"),(.type "type")]),#[]⟩:Obj)) ::
 (83,(⟨(.type "dict"),none,(.dict #[eS P "__module__" 296 (vS "struckdeeds.errors" 269),eS P "__qualname__" 298 (vS "NoLine" 297),eS P "__firstlineno__" 300 (.int 33 299),eS P "__init__" 308 (.ref 94),eS P "__static_attributes__" 310 (.ref 95)] 5),#[]⟩:Obj)) ::
 (84,tO #[]) ::
 (85,lF [(35,4,93)]) ::
 (86,(⟨(.type "code"),none,(.fields #[(vS "NoLine" 291),(vS "NoLine" 292),(vS "/claim/cut.py" 293),(.int 33 0),(.int 0 0),(.int 0 0),(.int 0 0),(.int 0 0),(.ref 84),(.bool false),(.int 181 0),(.ref 85),.none,.none,.none,.none,(.int 294 0),(.int 33 0),(vS "/claim/cut.py" 295)]),#[]⟩:Obj)) ::
 (87,(⟨(.type "frame"),none,.plain,#[(some (.ref 86)),(some (.ref 3)),(some (.ref 83)),none,(some (vS "struckdeeds.errors" 269)),none,(some (.ref 0))]⟩:Obj)) ::
 (88,tO #[]) ::
 (89,nF #[]) ::
 (90,tO #[(vS "self" 304),(vS "line" 305)]) ::
 (91,tO #[]) ::
 (92,gO "__init__" "NoLine.__init__" (jT 0 (hs 13))) ::
 (93,kO "__init__" "NoLine.__init__" 301 302 303 35 2 3 (.ref 88) 181 (.ref 89) (.ref 90) (.ref 91) (.ref 92) 306 35 307) ::
 (94,fO "__init__" "NoLine.__init__" (jT 0 (hs 13)) .none (vS "struckdeeds.errors" 269) 93) ::
 (95,tO #[(vS "line" 309)]) ::
 (96,(⟨(.type "dict"),none,(.dict #[eS P "__module__" 296 (vS "struckdeeds.errors" 269),eS P "__firstlineno__" 300 (.int 33 299),eS P "__init__" 308 (.ref 94),eS P "__static_attributes__" 310 (.ref 95),eS P "__doc__" 311 .none] 2),#[]⟩:Obj)) ::
 (97,(⟨(.type "type"),none,(.cls (.mk "NoLine" [(.ref 77)] [(.ref 97),(.ref 77),(.type "ValueError"),(.type "Exception"),(.type "BaseException"),(.type "object")] 96 "NoLine" true [] [] false none false)),#[(some (.ref 81)),none,(some (vS "NoLine" 289)),(some (vS "NoLine" 297)),(some (.builtin "ValueError.__new__")),(some (.bool true))]⟩:Obj)) ::
 (98,(⟨(.type "super"),none,(.fields #[(.ref 97),(.ref 97),(.ref 97)]),#[]⟩:Obj)) ::
 (99,(⟨(.type "builtin_function_or_method"),none,(.fields #[(.builtin "object.__init_subclass__"),(.ref 97)]),#[]⟩:Obj)) ::
 (100,tO #[(.ref 77)]) ::
 (101,(⟨(.type "builtin_function_or_method"),none,(.fields #[(.builtin "type.__prepare__"),(.type "type")]),#[]⟩:Obj)) ::
 (102,(⟨(.type "dict"),none,(.dict #[eS P "__module__" 321 (vS "struckdeeds.errors" 269),eS P "__qualname__" 323 (vS "NoJoin" 322),eS P "__firstlineno__" 325 (.int 37 324),eS P "__static_attributes__" 326 (.ref 107)] 4),#[]⟩:Obj)) ::
 (103,tO #[]) ::
 (104,nF #[]) ::
 (105,(⟨(.type "code"),none,(.fields #[(vS "NoJoin" 316),(vS "NoJoin" 317),(vS "/claim/cut.py" 318),(.int 37 0),(.int 0 0),(.int 0 0),(.int 0 0),(.int 0 0),(.ref 103),(.bool false),(.int 181 0),(.ref 104),.none,.none,.none,.none,(.int 319 0),(.int 37 0),(vS "/claim/cut.py" 320)]),#[]⟩:Obj)) ::
 (106,(⟨(.type "frame"),none,.plain,#[(some (.ref 105)),(some (.ref 3)),(some (.ref 102)),none,(some (vS "struckdeeds.errors" 269)),none,(some (.ref 0))]⟩:Obj)) ::
 (107,tO #[]) ::
 (108,(⟨(.type "dict"),none,(.dict #[eS P "__module__" 321 (vS "struckdeeds.errors" 269),eS P "__firstlineno__" 325 (.int 37 324),eS P "__static_attributes__" 326 (.ref 107),eS P "__doc__" 327 .none] 2),#[]⟩:Obj)) ::
 (109,(⟨(.type "type"),none,(.cls (.mk "NoJoin" [(.ref 77)] [(.ref 109),(.ref 77),(.type "ValueError"),(.type "Exception"),(.type "BaseException"),(.type "object")] 108 "NoJoin" true [] [] false none false)),#[(some (.ref 100)),none,(some (vS "NoJoin" 314)),(some (vS "NoJoin" 322)),(some (.builtin "ValueError.__new__")),(some (.bool true))]⟩:Obj)) ::
 (110,(⟨(.type "super"),none,(.fields #[(.ref 109),(.ref 109),(.ref 109)]),#[]⟩:Obj)) ::
 (111,(⟨(.type "builtin_function_or_method"),none,(.fields #[(.builtin "object.__init_subclass__"),(.ref 109)]),#[]⟩:Obj)) ::
 (112,tO #[]) ::
 (113,nF #[]) ::
 (114,gP "makers" (hs 16)) ::
 (115,kP "makers" 332 333 334 40 1 3 (.ref 112) 181 (.ref 113) .none .none (.ref 114) 335 40 336) ::
 (116,fP "makers" (hs 16) .none (vS "struckdeeds.books" 330) 115) ::
 (117,tO #[]) ::
 (118,nF #[]) ::
 (119,gP "deeds_of" (hs 17)) ::
 (120,kP "deeds_of" 338 339 340 43 1 3 (.ref 117) 181 (.ref 118) .none .none (.ref 119) 341 43 342) ::
 (121,fP "deeds_of" (hs 17) .none (vS "struckdeeds.books" 330) 120) ::
 (122,tO #[]) ::
 (123,nF #[]) ::
 (124,gP "book_of" (hs 18)) ::
 (125,kP "book_of" 344 345 346 45 2 3 (.ref 122) 181 (.ref 123) .none .none (.ref 124) 347 45 348) ::
 (126,fP "book_of" (hs 18) .none (vS "struckdeeds.books" 330) 125) ::
 (127,tO #[]) ::
 (128,nF #[]) ::
 (129,tO #[(vS "book" 353),(vS "thing" 354)]) ::
 (130,tO #[]) ::
 (131,gP "is_number" (hs 19)) ::
 (132,kP "is_number" 350 351 352 47 2 3 (.ref 127) 181 (.ref 128) (.ref 129) (.ref 130) (.ref 131) 355 47 356) ::
 (133,fP "is_number" (hs 19) .none (vS "struckdeeds.books" 330) 132) ::
 (134,tO #[]) ::
 (135,nF #[]) ::
 (136,gP "needs" (hs 20)) ::
 (137,kP "needs" 358 359 360 49 2 3 (.ref 134) 181 (.ref 135) .none .none (.ref 136) 361 49 362) ::
 (138,fP "needs" (hs 20) .none (vS "struckdeeds.books" 330) 137) ::
 (139,tO #[]) ::
 (140,nF #[]) ::
 (141,gP "asking_for" (hs 21)) ::
 (142,kP "asking_for" 364 365 366 54 3 3 (.ref 139) 181 (.ref 140) .none .none (.ref 141) 367 54 368) ::
 (143,fP "asking_for" (hs 21) .none (vS "struckdeeds.books" 330) 142) ::
 (144,tO #[]) ::
 (145,nF #[]) ::
 (146,tO #[(vS "book" 375),(vS "struck" 376)]) ::
 (147,tO #[]) ::
 (148,gP "goes" (hs 23)) ::
 (149,kP "goes" 372 373 374 57 2 3 (.ref 144) 181 (.ref 145) (.ref 146) (.ref 147) (.ref 148) 377 57 378) ::
 (150,fP "goes" (hs 23) .none (vS "struckdeeds.strikes" 370) 149) ::
 (151,tO #[]) ::
 (152,nF #[]) ::
 (153,gP "chains_by_ends" (hs 24)) ::
 (154,kP "chains_by_ends" 380 381 382 59 2 3 (.ref 151) 181 (.ref 152) .none .none (.ref 153) 383 59 384) ::
 (155,fP "chains_by_ends" (hs 24) .none (vS "struckdeeds.strikes" 370) 154) ::
 (156,tO #[]) ::
 (157,nF #[]) ::
 (158,tO #[(vS "one" 391),(vS "other" 392)]) ::
 (159,tO #[]) ::
 (160,gP "shared" (hs 26)) ::
 (161,kP "shared" 388 389 390 70 2 3 (.ref 156) 181 (.ref 157) (.ref 158) (.ref 159) (.ref 160) 393 70 394) ::
 (162,fP "shared" (hs 26) .none (vS "struckdeeds.joins" 386) 161)::[])
noncomputable abbrev hX4 (w:World) (os:OsState):PySem.W.SharedT:=⟨hT4 w.params,163,{ },⟨[]⟩,{ },396,os⟩
def hD5:Params->List DictEntry:=fun P=>(hD4 P).set 0 (eS P "__name__" 165 (vS "law_struckdeeds_k59_whole_the_least_carried" 454))++[eS P "joined" 410 (.ref 169),eS P "same_name" 423 (.ref 176),eS P "own_lines" 431 (.ref 183),eS P "first_ahead_of" 441 (.ref 190),eS P "carried" 447 (.ref 195),eS P "is_barred" 453 (.ref 200),eS P "_law_mixed" 462 (.ref 207),eS P "_law_take" 471 (.ref 214),eS P "_law_names" 477 (.ref 219),eS P "_law_deed" 483 (.ref 224),eS P "_law_after" 489 (.ref 229),eS P "_law_start" 495 (.ref 234),eS P "_law_lines" 509 (.ref 241),eS P "_law_begun" 519 (.ref 248),eS P "_law_made" 526 (.ref 255),eS P "_law_ended" 533 (.ref 262),eS P "_law_wanted" 540 (.ref 269),eS P "_law_going" 546 (.ref 274),eS P "_law_is_book" 552 (.ref 279),eS P "_law_two" 570 (.ref 286),eS P "_law_sets" 576 (.ref 291),eS P "law" 582 (.ref 296)]
noncomputable def hT5:Params->PySem.W.BT:=fun P=>hI (hT4 P) (
 (3,(⟨.type "dict", none,.dict (hD5 P).toArray 52,#[]⟩:Obj)) ::
 (12,lF [(2,0,20),(4,0,27),(6,0,32),(11,0,40),(13,0,47),(15,0,54),(21,0,61),(27,0,66),(31,0,73),(33,0,86),(37,0,105),(40,0,115),(43,0,120),(45,0,125),(47,0,132),(49,0,137),(54,0,142),(57,0,149),(59,0,154),(70,0,161),(74,0,168),(93,0,175),(102,0,182),(104,0,189),(107,0,194),(114,0,199),(121,0,206),(123,0,213),(126,0,218),(137,0,223),(158,0,228),(166,0,233),(169,0,240),(179,0,247),(184,0,254),(186,0,261),(188,0,268),(190,0,273),(201,0,278),(211,0,285),(220,0,290),(225,0,295)]) ::
 (163,tO #[]) ::
 (164,nF #[]) ::
 (165,tO #[(vS "one" 399),(vS "other" 400),(vS "common" 401),(vS "quarrel" 402),(vS "lines" 403),(vS "here" 404),(vS "there" 405),(vS "ahead_of_here" 406),(vS "ahead_of_there" 407)]) ::
 (166,tO #[]) ::
 (167,gP "joined" (hs 27)) ::
 (168,kP "joined" 396 397 398 74 2 3 (.ref 163) 181 (.ref 164) (.ref 165) (.ref 166) (.ref 167) 408 74 409) ::
 (169,fP "joined" (hs 27) .none (vS "struckdeeds.joins" 386) 168) ::
 (170,tO #[]) ::
 (171,nF #[]) ::
 (172,tO #[(vS "one" 414),(vS "other" 415),(vS "common" 416),(vS "i" 417),(vS "j" 418),(vS "made" 419),(vS "ended" 420)]) ::
 (173,tO #[]) ::
 (174,gP "same_name" (hs 28)) ::
 (175,kP "same_name" 411 412 413 93 3 3 (.ref 170) 181 (.ref 171) (.ref 172) (.ref 173) (.ref 174) 421 93 422) ::
 (176,fP "same_name" (hs 28) .none (vS "struckdeeds.joins" 386) 175) ::
 (177,tO #[]) ::
 (178,nF #[]) ::
 (179,tO #[(vS "book" 427),(vS "common" 428)]) ::
 (180,tO #[]) ::
 (181,gP "own_lines" (hs 29)) ::
 (182,kP "own_lines" 424 425 426 102 2 3 (.ref 177) 181 (.ref 178) (.ref 179) (.ref 180) (.ref 181) 429 102 430) ::
 (183,fP "own_lines" (hs 29) .none (vS "struckdeeds.joins" 386) 182) ::
 (184,tO #[]) ::
 (185,nF #[]) ::
 (186,tO #[(vS "book" 435),(vS "number" 436),(vS "line" 437),(vS "ahead" 438)]) ::
 (187,tO #[]) ::
 (188,gP "first_ahead_of" (hs 30)) ::
 (189,kP "first_ahead_of" 432 433 434 104 3 3 (.ref 184) 181 (.ref 185) (.ref 186) (.ref 187) (.ref 188) 439 104 440) ::
 (190,fP "first_ahead_of" (hs 30) .none (vS "struckdeeds.joins" 386) 189) ::
 (191,tO #[]) ::
 (192,nF #[]) ::
 (193,gP "carried" (hs 31)) ::
 (194,kP "carried" 442 443 444 107 2 3 (.ref 191) 181 (.ref 192) .none .none (.ref 193) 445 107 446) ::
 (195,fP "carried" (hs 31) .none (vS "struckdeeds.joins" 386) 194) ::
 (196,tO #[]) ::
 (197,nF #[]) ::
 (198,gP "is_barred" (hs 32)) ::
 (199,kP "is_barred" 448 449 450 114 2 3 (.ref 196) 181 (.ref 197) .none .none (.ref 198) 451 114 452) ::
 (200,fP "is_barred" (hs 32) .none (vS "struckdeeds.joins" 386) 199) ::
 (201,tO #[]) ::
 (202,nF #[]) ::
 (203,tO #[(vS "_law_cell" 459)]) ::
 (204,tO #[]) ::
 (205,gP "_law_mixed" (hs 34)) ::
 (206,kP "_law_mixed" 456 457 458 121 1 3 (.ref 201) 181 (.ref 202) (.ref 203) (.ref 204) (.ref 205) 460 121 461) ::
 (207,fP "_law_mixed" (hs 34) .none (vS "law_struckdeeds_k59_whole_the_least_carried" 454) 206) ::
 (208,tO #[]) ::
 (209,nF #[]) ::
 (210,tO #[(vS "_law_pack" 466),(vS "_law_size" 467),(vS "_law_digit" 468)]) ::
 (211,tO #[]) ::
 (212,gP "_law_take" (hs 35)) ::
 (213,kP "_law_take" 463 464 465 123 2 3 (.ref 208) 181 (.ref 209) (.ref 210) (.ref 211) (.ref 212) 469 123 470) ::
 (214,fP "_law_take" (hs 35) .none (vS "law_struckdeeds_k59_whole_the_least_carried" 454) 213) ::
 (215,tO #[]) ::
 (216,nF #[]) ::
 (217,gP "_law_names" (hs 36)) ::
 (218,kP "_law_names" 472 473 474 126 2 3 (.ref 215) 181 (.ref 216) .none .none (.ref 217) 475 126 476) ::
 (219,fP "_law_names" (hs 36) .none (vS "law_struckdeeds_k59_whole_the_least_carried" 454) 218) ::
 (220,tO #[]) ::
 (221,nF #[]) ::
 (222,gP "_law_deed" (hs 37)) ::
 (223,kP "_law_deed" 478 479 480 137 3 3 (.ref 220) 181 (.ref 221) .none .none (.ref 222) 481 137 482) ::
 (224,fP "_law_deed" (hs 37) .none (vS "law_struckdeeds_k59_whole_the_least_carried" 454) 223) ::
 (225,tO #[]) ::
 (226,nF #[]) ::
 (227,gP "_law_after" (hs 38)) ::
 (228,kP "_law_after" 484 485 486 158 3 3 (.ref 225) 181 (.ref 226) .none .none (.ref 227) 487 158 488) ::
 (229,fP "_law_after" (hs 38) .none (vS "law_struckdeeds_k59_whole_the_least_carried" 454) 228) ::
 (230,tO #[]) ::
 (231,nF #[]) ::
 (232,gP "_law_start" (hs 39)) ::
 (233,kP "_law_start" 490 491 492 166 3 3 (.ref 230) 181 (.ref 231) .none .none (.ref 232) 493 166 494) ::
 (234,fP "_law_start" (hs 39) .none (vS "law_struckdeeds_k59_whole_the_least_carried" 454) 233) ::
 (235,tO #[]) ::
 (236,nF #[]) ::
 (237,tO #[(vS "_law_some" 499),(vS "_law_spare" 500),(vS "_law_cells" 501),(vS "_law_lines_here" 502),(vS "_law_cell" 503),(vS "_law_digits" 504),(vS "_law_hand" 505),(vS "_law_deed_here" 506)]) ::
 (238,tO #[]) ::
 (239,gP "_law_lines" (hs 40)) ::
 (240,kP "_law_lines" 496 497 498 169 3 3 (.ref 235) 181 (.ref 236) (.ref 237) (.ref 238) (.ref 239) 507 169 508) ::
 (241,fP "_law_lines" (hs 40) .none (vS "law_struckdeeds_k59_whole_the_least_carried" 454) 240) ::
 (242,tO #[]) ::
 (243,nF #[]) ::
 (244,tO #[(vS "_law_head" 513),(vS "_law_pack" 514),(vS "_law_spare" 515),(vS "_law_amount" 516)]) ::
 (245,tO #[]) ::
 (246,gP "_law_begun" (hs 41)) ::
 (247,kP "_law_begun" 510 511 512 179 1 3 (.ref 242) 181 (.ref 243) (.ref 244) (.ref 245) (.ref 246) 517 179 518) ::
 (248,fP "_law_begun" (hs 41) .none (vS "law_struckdeeds_k59_whole_the_least_carried" 454) 247) ::
 (249,tO #[]) ::
 (250,nF #[]) ::
 (251,tO #[(vS "_law_deed_here" 523)]) ::
 (252,tO #[]) ::
 (253,gP "_law_made" (hs 42)) ::
 (254,kP "_law_made" 520 521 522 184 1 3 (.ref 249) 181 (.ref 250) (.ref 251) (.ref 252) (.ref 253) 524 184 525) ::
 (255,fP "_law_made" (hs 42) .none (vS "law_struckdeeds_k59_whole_the_least_carried" 454) 254) ::
 (256,tO #[]) ::
 (257,nF #[]) ::
 (258,tO #[(vS "_law_deed_here" 530)]) ::
 (259,tO #[]) ::
 (260,gP "_law_ended" (hs 43)) ::
 (261,kP "_law_ended" 527 528 529 186 1 3 (.ref 256) 181 (.ref 257) (.ref 258) (.ref 259) (.ref 260) 531 186 532) ::
 (262,fP "_law_ended" (hs 43) .none (vS "law_struckdeeds_k59_whole_the_least_carried" 454) 261) ::
 (263,tO #[]) ::
 (264,nF #[]) ::
 (265,tO #[(vS "_law_deed_here" 537)]) ::
 (266,tO #[]) ::
 (267,gP "_law_wanted" (hs 44)) ::
 (268,kP "_law_wanted" 534 535 536 188 1 3 (.ref 263) 181 (.ref 264) (.ref 265) (.ref 266) (.ref 267) 538 188 539) ::
 (269,fP "_law_wanted" (hs 44) .none (vS "law_struckdeeds_k59_whole_the_least_carried" 454) 268) ::
 (270,tO #[]) ::
 (271,nF #[]) ::
 (272,gP "_law_going" (hs 45)) ::
 (273,kP "_law_going" 541 542 543 190 2 3 (.ref 270) 181 (.ref 271) .none .none (.ref 272) 544 190 545) ::
 (274,fP "_law_going" (hs 45) .none (vS "law_struckdeeds_k59_whole_the_least_carried" 454) 273) ::
 (275,tO #[]) ::
 (276,nF #[]) ::
 (277,gP "_law_is_book" (hs 46)) ::
 (278,kP "_law_is_book" 547 548 549 201 2 3 (.ref 275) 181 (.ref 276) .none .none (.ref 277) 550 201 551) ::
 (279,fP "_law_is_book" (hs 46) .none (vS "law_struckdeeds_k59_whole_the_least_carried" 454) 278) ::
 (280,tO #[]) ::
 (281,nF #[]) ::
 (282,tO #[(vS "_law_script" 556),(vS "_law_start_here" 557),(vS "_law_some" 558),(vS "_law_spare" 559),(vS "_law_pack" 560),(vS "_law_lines_here" 561),(vS "_law_stay" 562),(vS "_law_more" 563),(vS "_law_ones" 564),(vS "_law_standing" 565),(vS "_law_rest" 566),(vS "_law_others" 567)]) ::
 (283,tO #[]) ::
 (284,gP "_law_two" (hs 47)) ::
 (285,kP "_law_two" 553 554 555 211 1 3 (.ref 280) 181 (.ref 281) (.ref 282) (.ref 283) (.ref 284) 568 211 569) ::
 (286,fP "_law_two" (hs 47) .none (vS "law_struckdeeds_k59_whole_the_least_carried" 454) 285) ::
 (287,tO #[]) ::
 (288,nF #[]) ::
 (289,gP "_law_sets" (hs 48)) ::
 (290,kP "_law_sets" 571 572 573 220 1 3 (.ref 287) 181 (.ref 288) .none .none (.ref 289) 574 220 575) ::
 (291,fP "_law_sets" (hs 48) .none (vS "law_struckdeeds_k59_whole_the_least_carried" 454) 290) ::
 (292,tO #[]) ::
 (293,nF #[]) ::
 (294,gP "law" (hs 49)) ::
 (295,kP "law" 577 578 579 225 1 3 (.ref 292) 181 (.ref 293) .none .none (.ref 294) 580 225 581) ::
 (296,fP "law" (hs 49) .none (vS "law_struckdeeds_k59_whole_the_least_carried" 454) 295)::[])
noncomputable abbrev hX5 (w:World) (os:OsState):PySem.W.SharedT:=⟨hT5 w.params,297,{ },⟨[]⟩,{ },583,os⟩
noncomputable abbrev hX6 (w:World) (os:OsState):PySem.W.SharedT:=⟨hT5 w.params,297,{ },⟨[]⟩,{ },583,os⟩
noncomputable def hg (P:Params) (a:Nat):Obj:=((hT5 P).get a).getD default
noncomputable def hK:Params->PySem.W.Frag:=fun P=>
 (nat_lit 2,hg P 2) ::
 (nat_lit 3,hg P 3) ::
 (nat_lit 20,hg P 20) ::
 (nat_lit 21,fP "is_whole" IE .none (vS "struckdeeds.words" 187) 20) ::
 (nat_lit 27,hg P 27) ::
 (nat_lit 28,fP "is_within" GF .none (vS "struckdeeds.words" 187) 27) ::
 (nat_lit 32,hg P 32) ::
 (nat_lit 33,fP "same_ahead" E3 .none (vS "struckdeeds.words" 187) 32) ::
 (nat_lit 34,(⟨(.type "dict"),none,(.dict #[eS P "put" 213 (vS "npk" 214),eS P "take" 215 (vS "n" 216),eS P "move" 217 (vS "np" 218),eS P "count" 219 (vS "nk" 220),eS P "name" 221 (vS "nn" 222),eS P "split" 223 (vS "nnpk" 224),eS P "join" 225 (vS "nn" 226)] 7),#[]⟩:Obj)) ::
 (nat_lit 40,hg P 40) ::
 (nat_lit 41,fP "form_of" K6 .none (vS "struckdeeds.deeds" 211) 40) ::
 (nat_lit 47,hg P 47) ::
 (nat_lit 48,fP "names_in" IF .none (vS "struckdeeds.deeds" 211) 47) ::
 (nat_lit 54,hg P 54) ::
 (nat_lit 55,fP "made_by" K7 .none (vS "struckdeeds.deeds" 211) 54) ::
 (nat_lit 61,hg P 61) ::
 (nat_lit 62,fP "ended_by" IG .none (vS "struckdeeds.deeds" 211) 61) ::
 (nat_lit 66,hg P 66) ::
 (nat_lit 67,fP "must_stand" E1 .none (vS "struckdeeds.deeds" 211) 66) ::
 (nat_lit 76,hg P 76) ::
 (nat_lit 77,(⟨(.type "type"),none,(.cls (.mk "StrikeError" [(.type "ValueError")] [(.ref 77),(.type "ValueError"),(.type "Exception"),(.type "BaseException"),(.type "object")] 76 "StrikeError" true [] [(.ref 97),(.ref 109)] false none false)),#[(some (.ref 68)),none,(some (vS "StrikeError" 271)),(some (vS "StrikeError" 279)),(some (.builtin "ValueError.__new__")),(some (.bool true))]⟩:Obj)) ::
 (nat_lit 78,hg P 78) ::
 (nat_lit 93,hg P 93) ::
 (nat_lit 94,fO "__init__" "NoLine.__init__" CB .none (vS "struckdeeds.errors" 269) 93) ::
 (nat_lit 96,hg P 96) ::
 (nat_lit 97,(⟨(.type "type"),none,(.cls (.mk "NoLine" [(.ref 77)] [(.ref 97),(.ref 77),(.type "ValueError"),(.type "Exception"),(.type "BaseException"),(.type "object")] 96 "NoLine" true [] [] false none false)),#[(some (.ref 81)),none,(some (vS "NoLine" 289)),(some (vS "NoLine" 297)),(some (.builtin "ValueError.__new__")),(some (.bool true))]⟩:Obj)) ::
 (nat_lit 108,hg P 108) ::
 (nat_lit 109,hg P 109) ::
 (nat_lit 115,hg P 115) ::
 (nat_lit 116,fP "makers" HI .none (vS "struckdeeds.books" 330) 115) ::
 (nat_lit 120,hg P 120) ::
 (nat_lit 121,fP "deeds_of" G3 .none (vS "struckdeeds.books" 330) 120) ::
 (nat_lit 125,hg P 125) ::
 (nat_lit 126,fP "book_of" HJ .none (vS "struckdeeds.books" 330) 125) ::
 (nat_lit 132,hg P 132) ::
 (nat_lit 133,fP "is_number" GG .none (vS "struckdeeds.books" 330) 132) ::
 (nat_lit 137,hg P 137) ::
 (nat_lit 138,fP "needs" MJ .none (vS "struckdeeds.books" 330) 137) ::
 (nat_lit 142,hg P 142) ::
 (nat_lit 143,fP "asking_for" E2 .none (vS "struckdeeds.books" 330) 142) ::
 (nat_lit 149,hg P 149) ::
 (nat_lit 150,fP "goes" V2 .none (vS "struckdeeds.strikes" 370) 149) ::
 (nat_lit 154,hg P 154) ::
 (nat_lit 155,fP "chains_by_ends" BE .none (vS "struckdeeds.strikes" 370) 154) ::
 (nat_lit 161,hg P 161) ::
 (nat_lit 162,fP "shared" MK .none (vS "struckdeeds.joins" 386) 161) ::
 (nat_lit 168,hg P 168) ::
 (nat_lit 169,fP "joined" ML .none (vS "struckdeeds.joins" 386) 168) ::
 (nat_lit 175,hg P 175) ::
 (nat_lit 176,fP "same_name" GI .none (vS "struckdeeds.joins" 386) 175) ::
 (nat_lit 182,hg P 182) ::
 (nat_lit 183,fP "own_lines" GH .none (vS "struckdeeds.joins" 386) 182) ::
 (nat_lit 189,hg P 189) ::
 (nat_lit 190,fP "first_ahead_of" CN .none (vS "struckdeeds.joins" 386) 189) ::
 (nat_lit 194,hg P 194) ::
 (nat_lit 195,fP "carried" FM .none (vS "struckdeeds.joins" 386) 194) ::
 (nat_lit 199,hg P 199) ::
 (nat_lit 200,fP "is_barred" D6 .none (vS "struckdeeds.joins" 386) 199) ::
 (nat_lit 206,hg P 206) ::
 (nat_lit 207,fP "_law_mixed" FD .none (vS "law_struckdeeds_k59_whole_the_least_carried" 454) 206) ::
 (nat_lit 213,hg P 213) ::
 (nat_lit 214,fP "_law_take" GJ .none (vS "law_struckdeeds_k59_whole_the_least_carried" 454) 213) ::
 (nat_lit 218,hg P 218) ::
 (nat_lit 219,fP "_law_names" CO .none (vS "law_struckdeeds_k59_whole_the_least_carried" 454) 218) ::
 (nat_lit 223,hg P 223) ::
 (nat_lit 224,fP "_law_deed" EU .none (vS "law_struckdeeds_k59_whole_the_least_carried" 454) 223) ::
 (nat_lit 228,hg P 228) ::
 (nat_lit 229,fP "_law_after" CP .none (vS "law_struckdeeds_k59_whole_the_least_carried" 454) 228) ::
 (nat_lit 233,hg P 233) ::
 (nat_lit 234,fP "_law_start" E4 .none (vS "law_struckdeeds_k59_whole_the_least_carried" 454) 233) ::
 (nat_lit 240,hg P 240) ::
 (nat_lit 241,fP "_law_lines" FE .none (vS "law_struckdeeds_k59_whole_the_least_carried" 454) 240) ::
 (nat_lit 247,hg P 247) ::
 (nat_lit 248,fP "_law_begun" FF .none (vS "law_struckdeeds_k59_whole_the_least_carried" 454) 247) ::
 (nat_lit 254,hg P 254) ::
 (nat_lit 255,fP "_law_made" GK .none (vS "law_struckdeeds_k59_whole_the_least_carried" 454) 254) ::
 (nat_lit 261,hg P 261) ::
 (nat_lit 262,fP "_law_ended" FG .none (vS "law_struckdeeds_k59_whole_the_least_carried" 454) 261) ::
 (nat_lit 268,hg P 268) ::
 (nat_lit 269,fP "_law_wanted" EJ .none (vS "law_struckdeeds_k59_whole_the_least_carried" 454) 268) ::
 (nat_lit 273,hg P 273) ::
 (nat_lit 274,fP "_law_going" CQ .none (vS "law_struckdeeds_k59_whole_the_least_carried" 454) 273) ::
 (nat_lit 278,hg P 278) ::
 (nat_lit 279,fP "_law_is_book" B7 .none (vS "law_struckdeeds_k59_whole_the_least_carried" 454) 278) ::
 (nat_lit 285,hg P 285) ::
 (nat_lit 286,fP "_law_two" IH .none (vS "law_struckdeeds_k59_whole_the_least_carried" 454) 285) ::
 (nat_lit 290,hg P 290) ::
 (nat_lit 291,fP "_law_sets" EV .none (vS "law_struckdeeds_k59_whole_the_least_carried" 454) 290) ::
 (nat_lit 295,hg P 295) ::
 (nat_lit 296,fP "law" TD .none (vS "law_struckdeeds_k59_whole_the_least_carried" 454) 295)::[]
def hA:List Addr:=[2,3,20,21,27,28,32,33,34,40,41,47,48,54,55,61,62,66,67,76,77,78,93,94,96,97,108,109,115,116,120,121,125,126,132,133,137,138,142,143,149,150,154,155,161,162,168,169,175,176,182,183,189,190,194,195,199,200,206,207,213,214,218,219,223,224,228,229,233,234,240,241,247,248,254,255,261,262,268,269,273,274,278,279,285,286,290,291,295,296]
theorem hE:∀P,hA=(hK P).map (·.1):=fun _=>by kernel_rfl
theorem hp1 (w:World):(fun os=>PySem.W.topGo treeTable PySem.Challenge.pw_struckdeeds_k59_whole_the_least_carried w 11 (a4J (a0Z 6)) 12 ⟨a5Z w.params,⟨[]⟩,b6Q,b7Z,os⟩ (PySem.W.topStub PySem.Challenge.pw_struckdeeds_k59_whole_the_least_carried))=fun os=>some ((hX1 w os).abs,⟨denote treeTable hC,hC,{ line:=0,col:=0,endLine:=0,endCol:=0 },hF⟩):=by kernel_rfl
theorem hp2 (w:World):(fun os=>b2Z treeTable PySem.Challenge.pw_struckdeeds_k59_whole_the_least_carried w 11 (a4J (a0Z 6)) 1 1 (hX1 w os) (PySem.W.blockOf hB hN hC { line:=0,col:=0,endLine:=0,endCol:=0 } hF))=fun os=>some (.next,hX2 w os,hC,{ line:=0,col:=0,endLine:=0,endCol:=0 }):=by kernel_rfl
def hQ3:List Stmt:=(hB.drop 0).take 13
abbrev xS (w:World):Prop:=(fun os=>b2Z treeTable PySem.Challenge.pw_struckdeeds_k59_whole_the_least_carried w 11 (a4J (a0Z 6)) 1 557 (hX2 w os) (b4Q hQ3 hN hC { line:=0,col:=0,endLine:=0,endCol:=0 } hF))=fun os=>some (.next,hX3 w os,hC,{ line:=31,col:=0,endLine:=32,endCol:=8 })
theorem fF (w:World):(fun os=>b2Z treeTable PySem.Challenge.pw_struckdeeds_k59_whole_the_least_carried (w.withFollow "special-get-raises" false) 11 (a4J (a0Z 6)) 1 557 (hX2 (w.withFollow "special-get-raises" false) os) (b4Q hQ3 hN hC { line:=0,col:=0,endLine:=0,endCol:=0 } hF))=fun os=>some (.next,hX3 (w.withFollow "special-get-raises" false) os,hC,{ line:=31,col:=0,endLine:=32,endCol:=8 }):=by kernel_rfl
theorem lE (w:World):(fun os=>b2Z treeTable PySem.Challenge.pw_struckdeeds_k59_whole_the_least_carried (w.withFollow "special-get-raises" true) 11 (a4J (a0Z 6)) 1 557 (hX2 (w.withFollow "special-get-raises" true) os) (b4Q hQ3 hN hC { line:=0,col:=0,endLine:=0,endCol:=0 } hF))=fun os=>some (.next,hX3 (w.withFollow "special-get-raises" true) os,hC,{ line:=31,col:=0,endLine:=32,endCol:=8 }):=by kernel_rfl
theorem hp3:∀w:World,xS w:=PySem.W.byRow2 "special-get-raises" fF lE
def hQ4:List Stmt:=(hB.drop 13).take 14
theorem hp4 (w:World):(fun os=>b2Z treeTable PySem.Challenge.pw_struckdeeds_k59_whole_the_least_carried w 11 (a4J (a0Z 6)) 1 732 (hX3 w os) (b4Q hQ4 hN hC { line:=31,col:=0,endLine:=32,endCol:=8 } hF))=fun os=>some (.next,hX4 w os,hC,{ line:=70,col:=0,endLine:=73,endCol:=39 }):=by kernel_rfl
def hQ5:List Stmt:=(hB.drop 27).take 23
theorem hp5 (w:World):(fun os=>b2Z treeTable PySem.Challenge.pw_struckdeeds_k59_whole_the_least_carried w 11 (a4J (a0Z 6)) 1 659 (hX4 w os) (b4Q hQ5 hN hC { line:=70,col:=0,endLine:=73,endCol:=39 } hF))=fun os=>some (.next,hX5 w os,hC,{ line:=225,col:=0,endLine:=240,endCol:=20 }):=by kernel_rfl
theorem hp6 (w:World):(fun os=>a9Q treeTable PySem.Challenge.pw_struckdeeds_k59_whole_the_least_carried w 11 (a4J (a0Z 6)) 2 (hX5 w os).abs (b6J [] hN hC { line:=225,col:=0,endLine:=240,endCol:=20 } hF))=fun os=>some (hX6 w os).abs:=by kernel_rfl
theorem hR1:hB=(hQ3++(hQ4++(hQ5++[]))):=by kernel_rfl
theorem hr6 (w:World) (os:OsState):a9Q treeTable PySem.Challenge.pw_struckdeeds_k59_whole_the_least_carried w 11 (a4J (a0Z 6)) 2 (hX5 w os).abs (b6J [] hN hC { line:=225,col:=0,endLine:=240,endCol:=20 } hF)=some (hX6 w os).abs:=congrFun (hp6 w) os
theorem hr5 (w:World) (os:OsState):a9Q treeTable PySem.Challenge.pw_struckdeeds_k59_whole_the_least_carried w 11 (a4J (a0Z 6)) (659+2) (hX4 w os).abs (b6J (hQ5++[]) hN hC { line:=70,col:=0,endLine:=73,endCol:=39 } hF)=some (hX6 w os).abs:=PySem.W.piece_app (n:=659) (N:=2) (s:=(hX4 w os).abs) (s':=(hX5 w os).abs) (r:=(hX6 w os).abs) (l:=hQ5) (rest:=[]) (c:=hC) (pos:={ line:=70,col:=0,endLine:=73,endCol:=39 }) (p':={ line:=225,col:=0,endLine:=240,endCol:=20 }) (env:=hN) (q:={ line:=0,col:=0,endLine:=0,endCol:=0 }) (b7X (congrFun (hp5 w) os)) (hr6 w os)
theorem hr4 (w:World) (os:OsState):a9Q treeTable PySem.Challenge.pw_struckdeeds_k59_whole_the_least_carried w 11 (a4J (a0Z 6)) (732+(659+2)) (hX3 w os).abs (b6J (hQ4++(hQ5++[])) hN hC { line:=31,col:=0,endLine:=32,endCol:=8 } hF)=some (hX6 w os).abs:=PySem.W.piece_app (n:=732) (N:=(659+2)) (s:=(hX3 w os).abs) (s':=(hX4 w os).abs) (r:=(hX6 w os).abs) (l:=hQ4) (rest:=(hQ5++[])) (c:=hC) (pos:={ line:=31,col:=0,endLine:=32,endCol:=8 }) (p':={ line:=70,col:=0,endLine:=73,endCol:=39 }) (env:=hN) (q:={ line:=0,col:=0,endLine:=0,endCol:=0 }) (b7X (congrFun (hp4 w) os)) (hr5 w os)
theorem hr3 (w:World) (os:OsState):a9Q treeTable PySem.Challenge.pw_struckdeeds_k59_whole_the_least_carried w 11 (a4J (a0Z 6)) (557+(732+(659+2))) (hX2 w os).abs (b6J (hQ3++(hQ4++(hQ5++[]))) hN hC { line:=0,col:=0,endLine:=0,endCol:=0 } hF)=some (hX6 w os).abs:=PySem.W.piece_app (n:=557) (N:=(732+(659+2))) (s:=(hX2 w os).abs) (s':=(hX3 w os).abs) (r:=(hX6 w os).abs) (l:=hQ3) (rest:=(hQ4++(hQ5++[]))) (c:=hC) (pos:={ line:=0,col:=0,endLine:=0,endCol:=0 }) (p':={ line:=31,col:=0,endLine:=32,endCol:=8 }) (env:=hN) (q:={ line:=0,col:=0,endLine:=0,endCol:=0 }) (b7X (congrFun (hp3 w) os)) (hr4 w os)
theorem hr2 (w:World) (os:OsState):a9Q treeTable PySem.Challenge.pw_struckdeeds_k59_whole_the_least_carried w 11 (a4J (a0Z 6)) (1+(557+(732+(659+2)))) (hX1 w os).abs ⟨denote treeTable hC,hC,{ line:=0,col:=0,endLine:=0,endCol:=0 },hF⟩=some (hX6 w os).abs:=PySem.W.piece_block (n:=1) (N:=(557+(732+(659+2)))) (s:=(hX1 w os).abs) (s':=(hX2 w os).abs) (r:=(hX6 w os).abs) (b:=hB) (env:=hN) (c:=hC) (pos:={ line:=0,col:=0,endLine:=0,endCol:=0 }) (p':={ line:=0,col:=0,endLine:=0,endCol:=0 }) (q:={ line:=0,col:=0,endLine:=0,endCol:=0 }) (b7X (congrFun (hp2 w) os)) (by rw[hR1];exact hr3 w os)
noncomputable def hH:Params->Heap:=fun P=>PySem.W.absHeap (hT5 P) 297 { }
theorem hr1 (w:World) (os:OsState):a9Q treeTable PySem.Challenge.pw_struckdeeds_k59_whole_the_least_carried w 11 (a4J (a0Z 6)) (12+(1+(557+(732+(659+2))))) ⟨a5Z w.params,⟨[]⟩,b6Q,b7Z,os⟩ (PySem.W.topStub PySem.Challenge.pw_struckdeeds_k59_whole_the_least_carried)=some (hX6 w os).abs:=PySem.W.go_top (n:=12) (N:=(1+(557+(732+(659+2))))) (s':=(hX1 w os).abs) (t':=⟨denote treeTable hC,hC,{ line:=0,col:=0,endLine:=0,endCol:=0 },hF⟩) (congrFun (hp1 w) os) (hr2 w os)
theorem hR (w:World) (os:OsState):a9Q treeTable PySem.Challenge.pw_struckdeeds_k59_whole_the_least_carried w 11 (a4J (a0Z 6)) (12+(1+(557+(732+(659+2))))) ⟨a5Z w.params,⟨[]⟩,b6Q,b7Z,os⟩ (PySem.W.topStub PySem.Challenge.pw_struckdeeds_k59_whole_the_least_carried)=some ⟨hH w.params,⟨[]⟩,{ },583,os⟩:=(hr1 w os).trans (by kernel_rfl)
theorem hZ (w:World):(fun os=>((PySem.W.staticsOk (PySem.importedModules PySem.Challenge.pw_struckdeeds_k59_whole_the_least_carried.main.body) (a5Z w.params) (hH w.params)&&PySem.W.namesBound PySem.Challenge.pw_struckdeeds_k59_whole_the_least_carried (hH w.params)&&PySem.W.gensDone ⟨hH w.params,⟨[]⟩,{ },583,os⟩&&PySem.W.laidKept (a5Z w.params) (hH w.params)),PySem.W.openSeen hV [a0Q "FORMS"] (PySem.importedModules PySem.Challenge.pw_struckdeeds_k59_whole_the_least_carried.main.body) (fun s=>PySem.W.xlAt hV [] s&&PySem.W.recOk (b2V (b1Q (b3Q PySem.Challenge.rw_struckdeeds_k59_whole_the_least_carried))) s) true ⟨hH w.params,⟨[]⟩,{ },583,os⟩,b6W (a6W hK hA hE) ⟨hH w.params,⟨[]⟩,{ },583,os⟩))=fun _=>(true,PySem.W.openGood hV [a0Q "FORMS"],b6K (a6W hK hA hE) w):=by kernel_rfl
theorem hO:PySem.W.opening PySem.Challenge.pw_struckdeeds_k59_whole_the_least_carried=PySem.W.plainProg PySem.Challenge.pw_struckdeeds_k59_whole_the_least_carried.main.scope.names:=by kernel_rfl
theorem hG (w:World):((a5Z w.params).isNs mainGlobals&&(⟨[]⟩:Array GenState).size==0,(a5Z w.params).objs.size,(a5Z w.params).nsMap mainGlobals (a0Q "__annotations__"))=(true,11,a4J (a0Z 6)):=by kernel_rfl
theorem hJ (s:Shared):PySem.fenceModules? PySem.Challenge.pw_struckdeeds_k59_whole_the_least_carried s=some s:=by kernel_rfl
theorem hL:PySem.W.LeftO PySem.Challenge.pw_struckdeeds_k59_whole_the_least_carried hV [a0Q "FORMS"] (fun s=>PySem.W.xlAt hV [] s&&PySem.W.recOk (b2V (b1Q (b3Q PySem.Challenge.rw_struckdeeds_k59_whole_the_least_carried))) s) (b6W (a6W hK hA hE)) (b6K (a6W hK hA hE)) 4016:=
 @PySem.W.LeftO.of_pieces PySem.Challenge.pw_struckdeeds_k59_whole_the_least_carried hV [a0Q "FORMS"] (fun s=>PySem.W.xlAt hV [] s&&PySem.W.recOk (b2V (b1Q (b3Q PySem.Challenge.rw_struckdeeds_k59_whole_the_least_carried))) s) _ (b6W (a6W hK hA hE)) (b6K (a6W hK hA hE)) 4016 true a5Z hH ⟨[]⟩ ⟨[]⟩ b6Q { } b7Z 583 11 (a4J (a0Z 6)) (12+(1+(557+(732+(659+2))))) (PySem.W.boot_open hO (by decide) hJ) hG hR (by decide) hZ
theorem hS:PySem.W.OpenLaw.wellSaid PySem.Challenge.rw_struckdeeds_k59_whole_the_least_carried=true:=by kernel_rfl
set_option hygiene false
local macro_rules | `(tactic| walk_at "lc")=>`(tactic| first | exact Or.inl rfl | exact Or.inr rfl | exact Or.inr (Or.inl rfl) | exact Or.inr (Or.inr rfl))
local macro_rules | `(tactic| walk_at "or")=>`(tactic| first | exact .inl rfl | exact .inr rfl | assumption)
local macro_rules | `(tactic| walk_at "q")=>`(tactic| first | ((with_reducible show PSs _ [] _);exact @lL _) | ((with_reducible show PSs _ [_] _);exact @TL _ _ _ (by walk_at "s")) | ((with_reducible show PSs _ (_::_) _);exact @VO _ _ _ _ _ (by walk_at "s") (by walk_at "q")))
local macro_rules | `(tactic| walk_at "s")=>`(tactic| first | ((with_reducible show PS _ (.Assign [.Name ..] (.ListComp ..) _) _);exact @mF _ _ _ _ _ _ _ _ _ _ _ _ _ _ _ _ _ rfl (by assumption) (UT (by rfl)) (by walk_at "lc") (by walk_at "cs") (by walk_at "n") (fun C s' H' ex' pn'=>⟨(by walk_at "g"),(by walk_at "u"),(by walk_at "e")⟩) rfl (by walk_at "or") (by intro _;rfl)) | ((with_reducible show PS _ (.Assign [.Name ..] ..) _);exact @r8 _ _ _ _ _ _ _ (by assumption) (UT (by rfl)) (by walk_at "lc") (by walk_at "e") (by rfl) (by walk_at "or")) | ((with_reducible show PS _ (.If ..) _);first | walk_at "z" | exact @uR _ _ _ _ _ _ _ _ (by walk_at "t") (by walk_at "q") (by walk_at "q")) | ((with_reducible show PS _ (.Return (some _) _) _);exact @qV _ _ _ _ (by walk_at "e")) | ((with_reducible show PS _ (.For ..) _);first | exact @fW _ _ _ _ _ _ _ _ PassesOwn.never rfl (by walk_at "n") (by walk_at "g") (by walk_at "q") (by intro _;rfl) | exact @fW _ _ _ _ _ _ _ _ (@ZI _ _ rfl rfl) rfl (by walk_at "n") (by walk_at "g") (by walk_at "q") (by intro _;rfl)) | ((with_reducible show PS _ (.Expr ..) _);exact @lM _ _ _ _ (by walk_at "e") (by rfl)) | ((with_reducible show PS _ (.Raise ..) _);first | ((with_reducible show PS _ (.Raise (some (.Call _ [_] ..)) ..) _);exact @oB P w K mg base _ _ _ _ _ _ _ _ _ _ _ rfl rfl rfl rfl rfl (by with_reducible assumption) (hr.mono (by decide)) rfl (by walk_at "a") (by decide) (by rfl)) | exact @fR _ _) | walk_at "x")
local macro_rules | `(tactic| walk_at "e")=>`(tactic| first | ((with_reducible show PE _ (.Name ..) _);first | exact @pvx _ _ _ _ (by rfl) (by walk_at "lc") (by decide) (by decide) | exact @HL _ _ (.ty "int") _ _ (by rfl) (by assumption) PyProof.Rows.boot_int rfl (by decide) (by decide) | exact @HL _ _ (.ty "str") _ _ (by rfl) (by assumption) PyProof.Rows.boot_str rfl (by decide) (by decide) | exact @HL _ _ (.ty "bool") _ _ (by rfl) (by assumption) PyProof.Rows.boot_bool rfl (by decide) (by decide) | exact @HL _ _ (.ty "list") _ _ (by rfl) (by assumption) b1K rfl (by decide) (by decide) | exact @HL _ _ (.ty "tuple") _ _ (by rfl) (by assumption) PyProof.Rows.boot_tuple rfl (by decide) (by decide) | exact @HL _ _ (.ty "dict") _ _ (by rfl) (by assumption) PyProof.Rows.boot_dict rfl (by decide) (by decide) | exact @HL _ _ (.ty "ValueError") _ _ (by rfl) (by assumption) PyProof.Rows.boot_ValueError rfl (by decide) (by decide)) | ((with_reducible show PE _ (.ListComp ..) _);exact @mE _ _ _ _ _ _ _ _ _ _ _ _ _ rfl (by walk_at "cs") (by walk_at "n") (fun C s' H' ex' pn'=>⟨(by walk_at "g"),(by walk_at "u"),(by walk_at "e")⟩) (by intro _;rfl)) | ((with_reducible show PE _ (.DictComp ..) _);exact @iS _ _ _ _ _ _ _ _ _ _ _ _ _ _ _ rfl hu1 (by walk_at "cs") (by walk_at "n") (fun C s' H' ex' pn'=>⟨(by walk_at "g"),(by walk_at "u"),(by walk_at "e"),(by walk_at "e")⟩) (by intro _;rfl)) | ((with_reducible show PE _ (.Constant ..) _);first | ((with_reducible show PE _ (.Constant (.int _) ..) _);exact @qM _ _ _ _) | ((with_reducible show PE _ (.Constant (.str _) ..) _);exact @qO _ _ _ _) | ((with_reducible show PE _ (.Constant (.bool _) ..) _);exact @uM _ _ _ _) | ((with_reducible show PE _ (.Constant .none ..) _);exact @qN _ _ _)) | ((with_reducible show PE _ (.Call ..) _);first | walk_at "y" | ((with_reducible show PE _ (.Call (.Name (a0Q "len") _) ..) _);exact @D8 _ _ _ _ _ _ _ _ _ (@x9 _ K rfl) (by rfl) (by assumption) PySem.boot_len (by walk_at "a") (by decide) (by decide) (by rfl) (by rfl)) | ((with_reducible show PE _ (.Call (.Name (a0Q "isinstance") _) ..) _);exact @D8 _ _ _ _ _ _ _ _ _ (@xC _ K rfl) (by rfl) (by assumption) PyProof.Rows.boot_isinstance (by walk_at "a") (by decide) (by decide) (by rfl) (by rfl)) | ((with_reducible show PE _ (.Call (.Name (a0Q "all") _) ..) _);exact @D8 _ _ _ _ _ _ _ _ _ (@xA _ K rfl rfl) (by rfl) (by assumption) PyProof.Rows.boot_all (by walk_at "a") (by decide) (by decide) (by rfl) (by rfl)) | ((with_reducible show PE _ (.Call (.Name (a0Q "any") _) ..) _);exact @D8 _ _ _ _ _ _ _ _ _ (@xB _ K rfl rfl) (by rfl) (by assumption) PyProof.Rows.boot_any (by walk_at "a") (by decide) (by decide) (by rfl) (by rfl)) | ((with_reducible show PE _ (.Call (.Name (a0Q "sorted") _) ..) _);exact @D8 _ _ _ _ _ _ _ _ _ (@tW _ K rfl rfl) (by rfl) (by assumption) b5K (by walk_at "a") (by decide) (by decide) (by rfl) (by rfl)) | ((with_reducible show PE _ (.Call (.Name (a0Q "divmod") _) ..) _);exact @D8 _ _ _ _ _ _ _ _ _ (@nE _ K rfl) (by rfl) (by assumption) PyProof.Rows.boot_divmod (by walk_at "a") (by decide) (by decide) (by rfl) (by rfl)) | ((with_reducible show PE _ (.Call (.Name (a0Q "sum") _) ..) _);exact @D8 _ _ _ _ _ _ _ _ _ (@xK _ K rfl rfl) (by rfl) (by assumption) PyProof.Rows.boot_sum (by walk_at "a") (by decide) (by decide) (by rfl) (by rfl)) | ((with_reducible show PE _ (.Call (.Name (a0Q "tuple") _) ..) _);exact @JS _ _ _ _ _ _ _ _ _ (@tJ _ K rfl) (by rfl) (by assumption) PyProof.Rows.boot_tuple (by walk_at "a") (by decide) (by decide) (by rfl) (by rfl)) | ((with_reducible show PE _ (.Call (.Name (a0Q "int") _) ..) _);exact @JS _ _ _ _ _ _ _ _ _ (@xG _ K rfl) (by rfl) (by assumption) PyProof.Rows.boot_int (by walk_at "a") (by decide) (by decide) (by rfl) (by rfl)) | ((with_reducible show PE _ (.Call (.Name ..) ..) _);exact @pT _ K P w mg base _ _ _ _ _ _ _ _ _ rfl rfl rfl rfl rfl (by with_reducible assumption) (hr.mono (by decide)) rfl (by walk_at "a") (by decide) (by rfl) (by rfl)) | ((with_reducible show PE _ (.Call (.Name ..) ..) _);exact @u5 P w K mg base _ _ _ _ _ _ _ _ _ _ _ rfl rfl rfl rfl rfl (by with_reducible assumption) (hr.mono (by decide)) rfl (by walk_at "a") (by decide) (by rfl) (by rfl)) | ((with_reducible show PE _ (.Call (.Attribute _ (a0Q "append") _) ..) _);exact @kBm _ K _ _ _ _ _ _ _ _ _ _ _ rfl PySem.F.plainAttrs_list PySem.F.slot_list_append PySem.F.type_list_append (@iH _) (by walk_at "e") (by walk_at "a") (by rfl) (by rfl) (by rfl) (by rfl) (by rfl)) | walk_at "x") | ((with_reducible show PE _ (.BinOp ..) _);first | ((with_reducible show PE _ (.BinOp _ .Add ..) _);exact @PF _ _ _ _ _ _ _ _ (@vW _ K rfl) (by walk_at "e") (by walk_at "e")) | ((with_reducible show PE _ (.BinOp _ .Sub ..) _);exact @PF _ _ _ _ _ _ _ _ (@rF _) (by walk_at "e") (by walk_at "e")) | ((with_reducible show PE _ (.BinOp _ .Mod ..) _);exact @PF _ _ _ _ _ _ _ _ (@rG _) (by walk_at "e") (by walk_at "e")) | ((with_reducible show PE _ (.BinOp _ .FloorDiv ..) _);exact @PF _ _ _ _ _ _ _ _ (@gM _) (by walk_at "e") (by walk_at "e")) | ((with_reducible show PE _ (.BinOp _ .Pow ..) _);exact @PF _ _ _ _ _ _ _ _ (@rH _) (by walk_at "e") (by walk_at "e"))) | ((with_reducible show PE _ (.Compare ..) _);first | walk_at "y" | ((with_reducible show PE _ (.Compare _ [.Eq] ..) _);exact @D7 _ _ _ _ _ _ _ _ (@kEq _ K rfl hu) (by walk_at "e") (by walk_at "e") (@EW _ _ (by decide) (by decide))) | ((with_reducible show PE _ (.Compare _ [.NotEq] ..) _);exact @D7 _ _ _ _ _ _ _ _ (@kNe _ K rfl hu) (by walk_at "e") (by walk_at "e") (@EW _ _ (by decide) (by decide))) | ((with_reducible show PE _ (.Compare _ [.Lt] ..) _);exact @D7 _ _ _ _ _ _ _ _ (@gV _) (by walk_at "e") (by walk_at "e") (@EW _ _ (by decide) (by decide))) | ((with_reducible show PE _ (.Compare _ [.Is] ..) _);exact @D7 _ _ _ _ _ _ _ _ (@iN _) (by walk_at "e") (by walk_at "e") (@EW _ _ (by decide) (by decide))) | ((with_reducible show PE _ (.Compare _ [.IsNot] ..) _);exact @D7 _ _ _ _ _ _ _ _ (@bG _) (by walk_at "e") (by walk_at "e") (@EW _ _ (by decide) (by decide))) | ((with_reducible show PE _ (.Compare _ [.Gt] ..) _);exact @D7 _ _ _ _ _ _ _ _ (@pG _) (by walk_at "e") (by walk_at "e") (@EW _ _ (by decide) (by decide)))) | ((with_reducible show PE _ (.Subscript ..) _);first | ((with_reducible show PE _ (.Subscript _ (.Slice _ _ none _) _) _);exact @g9 _ _ _ _ _ _ _ _ _ _ (@xD _ K rfl) (by walk_at "e") (by walk_at "o") (by walk_at "o")) | walk_at "y" | exact @v9 _ _ _ _ _ _ _ (@kIx _ K rfl) (by walk_at "e") (by walk_at "e") (fun _ _=>rfl)) | ((with_reducible show PE _ (.Tuple ..) _);exact @rN _ _ _ _ _ (by walk_at "a")) | ((with_reducible show PE _ (.List ..) _);exact @rO _ _ _ _ (by walk_at "a")) | ((with_reducible show PE _ (.IfExp ..) _);exact @fN _ _ _ _ _ _ _ _ (by walk_at "t") (by walk_at "e") (by walk_at "e")) | ((with_reducible show PE _ (.BoolOp ..) _);first | ((with_reducible show PE _ (.BoolOp _ [_] _) _);exact @qR _ _ _ _ _ (by walk_at "e")) | ((with_reducible show PE _ (.BoolOp .Or ..) _);exact @uQ _ _ _ _ _ _ _ (by walk_at "e") (by walk_at "e")) | exact @qS _ _ _ _ _ _ _ (by walk_at "e") (by walk_at "e")) | ((with_reducible show PE _ (.UnaryOp ..) _);first | ((with_reducible show PE _ (.UnaryOp .Not ..) _);exact @qT _ _ _ _ (by walk_at "e")) | exact @uW _ _ _ _ _ _ (@rJ _) (by walk_at "e")) | walk_at "x")
local macro_rules | `(tactic| walk_at "t")=>`(tactic| first | ((with_reducible show PT _ (.Compare ..) _);first | walk_at "y" | ((with_reducible show PT _ (.Compare _ [.Eq] ..) _);exact @BY _ _ _ _ _ _ _ _ (@kEq _ K rfl hu) (by walk_at "e") (by walk_at "e") (@EW _ _ (by decide) (by decide))) | ((with_reducible show PT _ (.Compare _ [.NotEq] ..) _);exact @BY _ _ _ _ _ _ _ _ (@kNe _ K rfl hu) (by walk_at "e") (by walk_at "e") (@EW _ _ (by decide) (by decide))) | ((with_reducible show PT _ (.Compare _ [.Lt] ..) _);exact @BY _ _ _ _ _ _ _ _ (@gV _) (by walk_at "e") (by walk_at "e") (@EW _ _ (by decide) (by decide))) | ((with_reducible show PT _ (.Compare _ [.Is] ..) _);exact @BY _ _ _ _ _ _ _ _ (@iN _) (by walk_at "e") (by walk_at "e") (@EW _ _ (by decide) (by decide))) | ((with_reducible show PT _ (.Compare _ [.IsNot] ..) _);exact @BY _ _ _ _ _ _ _ _ (@bG _) (by walk_at "e") (by walk_at "e") (@EW _ _ (by decide) (by decide))) | ((with_reducible show PT _ (.Compare _ [.Gt] ..) _);exact @BY _ _ _ _ _ _ _ _ (@pG _) (by walk_at "e") (by walk_at "e") (@EW _ _ (by decide) (by decide))) | walk_at "x") | ((with_reducible show PT _ (.BoolOp ..) _);exact @L2.PW.pt _ _ _ (by walk_at "w")) | ((with_reducible show PT _ (.UnaryOp .Not ..) _);exact @qQ _ _ _ _ (by walk_at "t")) | exact @qP _ _ _ (by walk_at "e") (by intro _;rfl))
local macro_rules | `(tactic| walk_at "w")=>`(tactic| first | ((with_reducible show PW _ (.BoolOp .Or ..) _);first | ((with_reducible show PW _ (.BoolOp _ [_] _) _);exact @pw_or1 _ _ _ _ (by walk_at "t")) | exact @pw_or _ _ _ _ _ _ _ (by walk_at "t") (by walk_at "w")) | ((with_reducible show PW _ (.BoolOp _ [_] _) _);exact @pw_and1 _ _ _ _ (by walk_at "t")) | exact @pw_and _ _ _ _ _ _ _ (by walk_at "t") (by walk_at "w"))
local macro_rules | `(tactic| walk_at "a")=>`(tactic| first | ((with_reducible show PA _ [] _);exact @rL _) | exact @lU _ _ _ _ _ (by walk_at "e") (by walk_at "a") (by rfl))
local macro_rules | `(tactic| walk_at "o")=>`(tactic| first | ((with_reducible show PO _ none _);exact @lW _) | exact @lX _ _ _ (by walk_at "e"))
local macro_rules | `(tactic| walk_at "u")=>`(tactic| first | ((with_reducible show PTs _ [] _);exact @mB _) | exact @mD _ _ _ (by walk_at "t"))
local macro_rules | `(tactic| walk_at "n")=>`(tactic| first | ((with_reducible show PI _ _ (.Call ..) _);first | ((with_reducible show PI _ _ (.Call (.Name (a0Q "range") _) [_] ..) _);exact @cH _ _ _ _ _ _ rfl (by assumption) (by walk_at "a") (by rfl)) | ((with_reducible show PI _ _ (.Call (.Name (a0Q "range") _) [_,_] ..) _);exact @cI _ _ _ _ _ _ _ rfl (by assumption) (by walk_at "a") (by rfl) (by rfl)) | walk_at "x") | walk_at "y" | exact @vV _ K _ _ _ rfl (by walk_at "e"))
local macro_rules | `(tactic| walk_at "g")=>`(tactic| first | ((with_reducible show PG _ (.Name ..) _);exact @aH _ _ _ _ (by assumption) (UT (by rfl)) (by walk_at "lc") (by walk_at "or")) | walk_at "x")
local macro_rules | `(tactic| walk_at "j")=>`(tactic| first | ((with_reducible show PGs _ [] _);exact @lN _) | exact @fS _ _ _ _ _ (by walk_at "g") (by walk_at "j") (by rfl))
local macro_rules | `(tactic| walk_at "b1")=>`(tactic| exact @TL _ _ _ (by walk_at "s"))
local macro_rules | `(tactic| walk_at "b2")=>`(tactic| exact @VO _ _ _ _ _ (by walk_at "s") (by walk_at "q"))
local macro_rules | `(tactic| walk_at "dl")=>`(tactic| first
 | (with_reducible first | refine gS ?_ | refine jQ ?_ | refine gR ?_ | refine aY ?_ | refine gQ ?_ | refine vP ?_ | refine aX ?_ | refine aW ?_ | refine ds_setitem ?_ | refine iX ?_ | refine wB ?_ | refine eF ?_ | refine dx_raise0 ?_ | refine dx_drop (LZ ?_) | refine dx_set (LZ ?_) | refine jS (LZ ?_) | refine GC (gR ?_) | refine GC (aY ?_) | refine GC (gQ ?_) | refine GC (aX ?_) | refine GC (aW ?_) | refine GC (ds_setitem ?_) | refine GC (iX ?_))
 | ((with_reducible apply sK);exact rfl)
 | (with_reducible first | refine sL ?_ | refine vG ?_ | refine sM ?_ | refine sN ?_ | refine de_cref ?_ | refine vH ?_ | refine vI ?_ | refine vJ ?_ | refine gN ?_ | refine mH ?_ | refine wZ ?_ | refine sO ?_ | refine vK ?_ | refine sP ?_ | refine sQ ?_ | refine sR ?_ | refine vL ?_ | refine sS ?_ | refine vM ?_ | refine YS ?_ | refine mI ?_ | refine vN ?_ | refine sU ?_ | refine vO ?_ | refine mK ?_ | refine mL ?_ | refine mS ?_ | refine i7 ?_ | refine n5 ?_)
 | ((with_reducible refine tL ?_ ?_);exact rfl)
 | ((with_reducible refine nJ ?_ ?_);exact rfl)
 | (with_reducible first | refine vQ ?_ | refine vR ?_ | refine x8 ?_ | refine i9 ?_ | refine mY ?_)
 | ((with_reducible refine vT ?_ ?_);(first
     | ((with_reducible show CMul _ _);first | exact cmul_r (by decide) (by decide) | exact cmul_l (by decide) (by decide) | exact cmul_l (by omega) (by omega))
     | ((with_reducible show pP _ _);first | exact⟨by decide,by decide⟩ | exact⟨by assumption,by assumption⟩)
     | ((with_reducible show uZ _ _);exact⟨by decide,by decide,by decide⟩)
     | (show(0:Int) < _;first | decide | assumption | omega)))
 | ((with_reducible apply mX);(first | assumption | exact zU);exact rfl)
 | ((with_reducible apply xE);(first | assumption | exact zU);exact rfl)
 | ((with_reducible refine iI ?_ ?_);(first | exact CMul.ok (cmul_r (by decide) (by decide)) | exact CMul.ok (cmul_l (by decide) (by decide))))
 | (with_reducible first | refine d2_isB ?_ | refine d2_notB ?_ | refine rd_max ?_ | refine rd_min ?_ | refine nG ?_ | refine iJ ?_ | refine rd_abs ?_)
 | ((with_reducible refine hW (b:=true) ?_ ?_);exact rfl)
 | ((with_reducible refine hW (b:=false) ?_ ?_);exact rfl)
 | with_reducible refine mJ ?_
 | ((with_reducible apply xF);exact rfl;exact yD rfl)
 | (with_reducible refine Exists.intro _ (And.intro rfl ?_))
 | (with_reducible refine L2.m9 ?_)
 | (with_reducible refine L2.m8 ?_)
 | (refine L2.m9 ?_)
 | (refine L2.m8 ?_))
local macro_rules | `(tactic| walk_at "r")=>`(tactic| repeat walk_at "dl")
local macro_rules | `(tactic| walk_at "wkd")=>`(tactic| repeat (first | walk_at "dl" | refine CV ?_ | refine de_dnew ?_))
local macro_rules | `(tactic| walk_at "wks")=>`(tactic| repeat ((fail_if_success (with_reducible show DSt _ _ _ _ _));(first | walk_at "dl" | refine CV ?_ | refine de_dnew ?_)))
section
variable {P:Program}{w:World}{K:Frg}{mg:Str->Option Value}{base:Heap}
def XZ:List Str:=["thing"]
theorem O6:FnScope XZ ["thing"] (AB IE):=⟨rfl,rfl,rfl,by decide +kernel,rfl,by decide +kernel,by decide +kernel⟩
theorem Y0 {f:Addr}{fd:FuncData}(F:Fun K "is_whole" "is_whole" IE f fd) (n_bool:mg "bool"=none) (n_int:mg "int"=none) (n_isinstance:mg "isinstance"=none):FnOk P w K mg base CX0 1 f fd ["thing"] (spD K 1 L7):=by
 refine fnD F O6 fun cdv A outer s H E hr=>?_
 have hu:=hr.units
 have nd:=O6.nd
 refine⟨_,by walk_at "b1", ?_⟩
 clear nd
 rintro xs M hl ⟨d,rfl,-⟩
 walk_at "dl";walk_at "dl";walk_at "dl"
 cases d <;>
 · walk_at "r"
   exact⟨M,zT M,fun d' e=>by cases e;exact⟨rfl,rfl⟩⟩
def V3:List Str:=["thing", "low", "high"]
theorem MM:FnScope V3 ["thing", "low", "high"] (AB GF):=⟨rfl,rfl,rfl,by decide +kernel,rfl,by decide +kernel,by decide +kernel⟩
section
local macro_rules | `(tactic| walk_at "x")=>`(tactic| first | ((with_reducible show PE _ (.Compare _ [_,_] ..) _);exact @fY _ _ _ _ _ _ _ _ _ _ _ _ (@pF _) (@pF _) (by walk_at "e") (by walk_at "e") (by walk_at "e") (by with_unfolding_all rfl)))
theorem V4 {f:Addr}{fd:FuncData}(F:Fun K "is_within" "is_within" GF f fd) (h_is_whole:Has P w K mg base "is_whole" 1 ["thing"] L7):FnOk P w K mg base CX0 2 f fd ["thing", "low", "high"] (spD K 3 EK):=by
 refine fnD F MM fun cdv A outer s H E hr=>?_
 have hu:=hr.units
 have nd:=MM.nd
 refine⟨_,by walk_at "b1", ?_⟩
 clear nd
 rintro xs M hl ⟨d,lo,hi,rfl⟩
 walk_at "r"
 refine B9 trivial ?_
 cases d
 case int i=>
   walk_at "r"
   refine sF (fun h=>?_) (fun h=>?_)
   · walk_at "r"
     exact⟨M,zT M,fun d' lo' hi' e=>by cases e;refine⟨?_,rfl⟩;simp only[LX];rw[h];rfl⟩
   · exact⟨M,zT M,fun d' lo' hi' e=>by cases e;refine⟨?_,rfl⟩;simp only[LX];simp at h;simp;omega⟩
 all_goals
   walk_at "r"
   exact⟨M,zT M,fun d' lo' hi' e=>by cases e;exact⟨rfl,rfl⟩⟩
end
def a9:List Str:=["word"]
theorem RA:FnScope a9 ["word"] (AB K6):=⟨rfl,rfl,rfl,by decide +kernel,rfl,by decide +kernel,by decide +kernel⟩
section
local macro_rules | `(tactic| walk_at "x")=>`(tactic| first | ((with_reducible show PE _ (.Call (.Attribute _ (a0Q "get") _) ..) _);exact @nB _ _ _ _ _ _ _ _ rfl g_FORMS (by walk_at "e") (@L2.M1.mk _ _ _ _ _ _ rfl rfl rfl rfl) (by decide)))
theorem aA {f:Addr}{fd:FuncData}(F:Fun K "form_of" "form_of" K6 f fd) (n_isinstance:mg "isinstance"=none) (n_str:mg "str"=none) (g_FORMS:∃a,mg "FORMS"=some (.ref a)/\GDict w K a NY):FnOk P w K mg base CX0 1 f fd ["word"] (spD K 1 NH):=by
 refine fnD F RA fun cdv A outer s H E hr=>?_
 have hu:=hr.units
 have nd:=RA.nd
 refine⟨_,by walk_at "b1", ?_⟩
 clear nd
 rintro xs M hl ⟨d,rfl,-⟩
 cases d
 case str z=>
   walk_at "r"
   refine nC ?_
   walk_at "r"
   exact⟨M,zT M,fun d' e=>by cases e;exact⟨rfl,rfl⟩⟩
 all_goals
   walk_at "r"
   exact⟨M,zT M,fun d' e=>by cases e;exact⟨rfl,rfl⟩⟩
end
def Y1:List Str:=["deed"]
theorem O7:FnScope Y1 ["deed"] (AB IF):=⟨rfl,rfl,rfl,by decide +kernel,rfl,by decide +kernel,by decide +kernel⟩
section
local macro_rules | `(tactic| walk_at "x")=>`(tactic| first | ((with_reducible show PE _ (.Call (.Attribute _ (a0Q "startswith") _) ..) _);exact @kBm _ K _ _ _ _ _ _ _ _ _ _ _ rfl PySem.F.plainAttrs_str PySem.F.slot_str_startswith PySem.F.type_str_startswith (@W8 _ K rfl) (by walk_at "e") (by walk_at "a") (by rfl) (by rfl) (by rfl) (by rfl) (by rfl)))
theorem Y2 {f:Addr}{fd:FuncData}(F:Fun K "names_in" "names_in" IF f fd) (h_form_of:Has P w K mg base "form_of" 1 ["word"] NH):FnOk P w K mg base CX0 2 f fd ["deed"] (spD K 1 LB):=by
 refine fnD F O7 fun cdv A outer s H E hr=>?_
 have hu:=hr.units
 have nd:=O7.nd
 refine⟨_,by walk_at "b1", ?_⟩
 clear nd
 rintro xs M hl ⟨d,rfl,w,f,r,rfl,hf⟩
 obtain⟨fa,fs,fn,_,_⟩:=ZA hf
 have hform:qA (.str w) = .str f:=by
   show tP (NY.lookup w)=_
   rw[hf];rfl
 walk_at "r"
 refine ST ?_
 walk_at "r"
 refine AA (d:=.str w) (AE (j:=0) rfl) ?_
 walk_at "r"
 refine B9 trivial ?_
 rw[hform]
 refine⟨mQ,?_⟩
 walk_at "r"
 refine dC ?_
 rw[fn]
 cases htw:nL w with
 | true=>
   walk_at "r"
   refine B6 ?_
   rw[show E9 (a0W w::r) (some 1) (some 3)=r.take 2 from JW _ 1 3]
   exact⟨M,zT M,fun d' e=>by cases e;refine⟨?_,rfl⟩;simp only[QA,htw];rfl⟩
 | false=>
   walk_at "r"
   refine B6 ?_
   rw[show E9 (a0W w::r) (some 1) (some 2)=r.take 1 from JW _ 1 2]
   exact⟨M,zT M,fun d' e=>by cases e;refine⟨?_,rfl⟩;simp only[QA,htw];rfl⟩
end
def aB:List Str:=["deed"]
theorem RB:FnScope aB ["deed"] (AB K7):=⟨rfl,rfl,rfl,by decide +kernel,rfl,by decide +kernel,by decide +kernel⟩
section
local macro_rules | `(tactic| walk_at "x")=>`(tactic| first | ((with_reducible show PT _ (.Compare _ [.In] ..) _);exact @BY _ _ _ _ _ _ _ _ (@kIn _ K rfl) (by walk_at "e") (by walk_at "e") (by with_unfolding_all rfl)))
theorem aC {f:Addr}{fd:FuncData}(F:Fun K "made_by" "made_by" K7 f fd):FnOk P w K mg base CX0 1 f fd ["deed"] (spD K 1 FH):=by
 refine fnD F RB fun cdv A outer s H E hr=>?_
 have hu:=hr.units
 have nd:=RB.nd
 refine⟨_,by walk_at "b2", ?_⟩
 clear nd
 rintro xs M hl ⟨d,rfl,D,rfl,hD⟩
 rw[D.d_eq]
 walk_at "r"
 refine AA (d:=.str D.word) (AE (j:=0) rfl) ?_
 walk_at "r"
 refine B4 D.word_ok (by decide +kernel) ?_
 rw[if_neg nft,CJ,j5]
 cases hp:D.isPut with
 | true=>
   walk_at "r"
   refine AA (d:=.str D.fst) (AE (j:=1) rfl) ?_
   refine⟨M,zT M,fun d' e=>?_⟩
   cases e
   refine⟨?_,rfl⟩
   cases D <;> first | rfl | cases hp
 | false=>
   walk_at "r"
   refine AA (d:=.str D.word) (AE (j:=0) rfl) ?_
   walk_at "r"
   refine bC (ys:=[a0Q "name", a0Q "split"]) ?_
   rw[w9,nQ]
   cases hn:D.isNS with
   | true=>
     have h2:∃y t,D.rest = .str y::t:=by cases D <;> first | exact⟨_,_,rfl⟩ | cases hn
     obtain⟨y,t,h2⟩:=h2
     walk_at "r"
     refine AA (d:=.str y) (AE (j:=2) (by rw[h2];rfl)) ?_
     refine⟨M,zT M,fun d' e=>?_⟩
     cases e
     refine⟨?_,rfl⟩
     cases D <;> first | (cases hn;done) | (simp only[Deed.rest] at h2;injection h2 with h3 h4;injection h3 with h3;subst h3;rfl)
   | false=>
     walk_at "r"
     refine⟨M,zT M,fun d' e=>?_⟩
     cases e
     refine⟨?_,rfl⟩
     cases D <;> first | rfl | (cases hn;done) | (cases hp;done)
end
def Y3:List Str:=["deed"]
theorem O8:FnScope Y3 ["deed"] (AB IG):=⟨rfl,rfl,rfl,by decide +kernel,rfl,by decide +kernel,by decide +kernel⟩
section
local macro_rules | `(tactic| walk_at "x")=>`(tactic| first | ((with_reducible show PT _ (.Compare _ [.In] ..) _);exact @BY _ _ _ _ _ _ _ _ (@kIn _ K rfl) (by walk_at "e") (by walk_at "e") (by with_unfolding_all rfl)))
theorem Y4 {f:Addr}{fd:FuncData}(F:Fun K "ended_by" "ended_by" IG f fd):FnOk P w K mg base CX0 1 f fd ["deed"] (spD K 1 FW):=by
 refine fnD F O8 fun cdv A outer s H E hr=>?_
 have hu:=hr.units
 have nd:=O8.nd
 refine⟨_,by walk_at "b2", ?_⟩
 clear nd
 rintro xs M hl ⟨d,rfl,D,rfl,hD⟩
 rw[D.d_eq]
 walk_at "r"
 refine AA (d:=.str D.word) (AE (j:=0) rfl) ?_
 walk_at "r"
 refine bC (ys:=[a0Q "take", a0Q "name"]) ?_
 rw[w9,nR]
 cases hp:D.isTN with
 | true=>
   walk_at "r"
   refine AA (d:=.str D.fst) (AE (j:=1) rfl) ?_
   refine⟨M,zT M,fun d' e=>?_⟩
   cases e
   refine⟨?_,rfl⟩
   cases D <;> first | rfl | cases hp
 | false=>
   walk_at "r"
   refine AA (d:=.str D.word) (AE (j:=0) rfl) ?_
   walk_at "r"
   refine B4 D.word_ok (by decide +kernel) ?_
   rw[if_neg nft,CJ,dQ]
   cases hn:D.isJoin with
   | true=>
     have h2:∃y t,D.rest = .str y::t:=by cases D <;> first | exact⟨_,_,rfl⟩ | cases hn
     obtain⟨y,t,h2⟩:=h2
     walk_at "r"
     refine AA (d:=.str y) (AE (j:=2) (by rw[h2];rfl)) ?_
     refine⟨M,zT M,fun d' e=>?_⟩
     cases e
     refine⟨?_,rfl⟩
     cases D <;> first | (cases hn;done) | (simp only[Deed.rest] at h2;injection h2 with h3 h4;injection h3 with h3;subst h3;rfl)
   | false=>
     walk_at "r"
     refine⟨M,zT M,fun d' e=>?_⟩
     cases e
     refine⟨?_,rfl⟩
     cases D <;> first | rfl | (cases hn;done) | (cases hp;done)
end
def KH:List Str:=["deed", "made"]
def IM:List Str:=["name", "made"]
def IN:List (Option Nat):=[none,some 1]
theorem OP:IM.Nodup:=by decide +kernel
theorem KI:FnScope KH ["deed"] (AB E1):=⟨rfl,rfl,rfl,by decide +kernel,rfl,by decide +kernel,by decide +kernel⟩
section
local macro_rules | `(tactic| walk_at "cs")=>`(tactic| first | exact @DW _ _ IM IN (AB E1) KH (by decide +kernel) (by decide +kernel) rfl rfl)
theorem RX {f:Addr}{fd:FuncData}(F:Fun K "must_stand" "must_stand" E1 f fd) (n_tuple:mg "tuple"=none) (h_made_by:Has P w K mg base "made_by" 1 ["deed"] FH) (h_names_in:Has P w K mg base "names_in" 2 ["deed"] LB):FnOk P w K mg base CX0 3 f fd ["deed"] (spD K 1 DH):=by
 refine fnD F KI fun cdv A outer s H E hr=>?_
 have hu:=hr.units
 have nd:=KI.nd
 have n0:=OP
 refine⟨_,by walk_at "b2", ?_⟩
 clear nd n0
 rintro xs M hl ⟨d,rfl,D,rfl,hD⟩
 have hsz:(D.names.map a0W).length < sizeLine:=by
   rw[zX];exact zQ (show D.names.length<=2 by cases D <;> simp[Deed.names]) (by decide)
 walk_at "r"
 refine B9 ⟨D,rfl,hD⟩ ?_
 walk_at "r"
 refine AF (AQ 0) (by simp[IN]) ?_
 refine C0 ?_
 walk_at "r"
 refine B9 (j1 D) ?_
 rw[WN]
 refine⟨_,rfl,hsz,fun d=>!a0X d (G8 D.d),id,?_,?_⟩
 · intro d hd M'
   obtain⟨n,hn,rfl⟩:=zL.mp hd
   walk_at "dl"
   refine⟨rfl,?_⟩
   walk_at "r"
   refine B4 (AM (hD n hn)) (nS hD) ?_
   rw[if_pos rfl]
   refine⟨_,rfl,rfl,rfl,fun _=>?_⟩
   walk_at "r"
   exact⟨rfl,rfl⟩
 · walk_at "r"
   refine EI ?_
   refine⟨M,zT M,fun d' e=>?_⟩
   cases e
   refine⟨?_,rfl⟩
   show DS.d (.tuple _) = .d (.tuple ((WQ D.d).map .str))
   unfold WQ
   rw[WO,a9Z,xU]
   rfl
end
def O9:List Str:=["book"]
def KJ:List Str:=["hand", "deed"]
def KK:List (Option Nat):=[none,none]
theorem RY:KJ.Nodup:=by decide +kernel
theorem OB:FnScope O9 ["book"] (AB G3):=⟨rfl,rfl,rfl,by decide +kernel,rfl,by decide +kernel,by decide +kernel⟩
section
local macro_rules | `(tactic| walk_at "cs")=>`(tactic| first | exact @DW _ _ KJ KK (AB G3) O9 (by decide +kernel) (by decide +kernel) rfl rfl)
local macro_rules | `(tactic| walk_at "x")=>`(tactic| first | ((with_reducible show PG _ (.Tuple ..) _);exact @nA _ K _ _ _ _ (2) rfl rfl (by walk_at "j") (by rfl) (by rfl)))
theorem Y5 {f:Addr}{fd:FuncData}(F:Fun K "deeds_of" "deeds_of" G3 f fd) (n_tuple:mg "tuple"=none):FnOk P w K mg base CX0 1 f fd ["book"] (spD K 1 EC):=by
 refine fnD F OB fun cdv A outer s H E hr=>?_
 have hu:=hr.units
 have nd:=OB.nd
 have n0:=RY
 refine⟨_,by walk_at "b1", ?_⟩
 clear nd n0
 rintro xs M hl ⟨w,ls,rfl,hg⟩
 walk_at "r"
 refine AF (YW (JV (JV YV))) (by simp[KK]) ?_
 refine C0 ?_
 walk_at "r"
 refine AA (ds:=[wD w,AC ls]) (d:=AC ls) rfl ?_
 walk_at "r"
 refine⟨by rw[zX];exact zQ hg.few (by decide),fun _=>true,fun d=>match d with | .tuple [_,b]=>b | d=>d,?_,?_⟩
 · intro d hd M'
   obtain⟨l,hl,rfl⟩:=zL.mp hd
   rw[show AL l = .tuple [.str l.1,l.2.d] from rfl]
   walk_at "r"
   refine⟨rfl,?_⟩
   walk_at "dl"
   refine⟨rfl,rfl,fun _=>?_⟩
   walk_at "r"
   exact⟨rfl,rfl⟩
 · walk_at "r"
   refine EI ?_
   refine⟨M,zT M,fun w' ls' e=>?_⟩
   simp only[List.cons.injEq,DS.d.injEq,and_true] at e
   have e:=FJ e
   subst e
   refine⟨?_,rfl⟩
   rw[LD,zD,zD]
   rfl
end
def V5:List Str:=["book", "thing"]
theorem MN:FnScope V5 ["book", "thing"] (AB GG):=⟨rfl,rfl,rfl,by decide +kernel,rfl,by decide +kernel,by decide +kernel⟩
theorem V6 {f:Addr}{fd:FuncData}(F:Fun K "is_number" "is_number" GG f fd) (n_len:mg "len"=none) (h_is_within:Has P w K mg base "is_within" 2 ["thing", "low", "high"] EK):FnOk P w K mg base CX0 3 f fd ["book", "thing"] (spD K 2 D3):=by
 refine fnD F MN fun cdv A outer s H E hr=>?_
 have hu:=hr.units
 have nd:=MN.nd
 refine⟨_,by walk_at "b1", ?_⟩
 clear nd
 rintro xs M hl ⟨w,ls,d,rfl⟩
 walk_at "r"
 refine AA (ds:=[wD w,AC ls]) (d:=AC ls) rfl ?_
 walk_at "r"
 refine DC ?_
 walk_at "r"
 refine W4 ?_
 refine⟨M,zT M,fun w' ls' d' e=>?_⟩
 simp only[List.cons.injEq,DS.d.injEq,and_true] at e
 obtain⟨e1,rfl⟩:=e
 have e1:=FJ e1
 subst e1
 rw[zX]
 exact⟨rfl,rfl⟩
def NT:List Str:=["book", "made"]
def OC:List Str:=["deed"]
def OD:List (Option Nat):=[none]
theorem Y6:OC.Nodup:=by decide +kernel
def OE:List Str:=["number", "name"]
def OF:List (Option Nat):=[none,none]
theorem Y7:OE.Nodup:=by decide +kernel
theorem TF:FnScope NT ["book"] (AB HI):=⟨rfl,rfl,rfl,by decide +kernel,rfl,by decide +kernel,by decide +kernel⟩
section
local macro_rules | `(tactic| walk_at "cs")=>`(tactic| first | exact @DW _ _ OC OD (AB HI) NT (by decide +kernel) (by decide +kernel) rfl rfl | exact @DW _ _ OE OF (AB HI) NT (by decide +kernel) (by decide +kernel) rfl rfl)
local macro_rules | `(tactic| walk_at "x")=>`(tactic| first | ((with_reducible show PI _ _ (.Call (.Name (a0Q "enumerate") _) ..) _);exact @wE _ K _ _ _ _ _ _ _ rfl rfl n_enumerate (by walk_at "a") (by rfl)) | ((with_reducible show PG _ (.Tuple ..) _);exact @nA _ K _ _ _ _ (2) rfl rfl (by walk_at "j") (by rfl) (by rfl)))
theorem fG {f:Addr}{fd:FuncData}(F:Fun K "makers" "makers" HI f fd) (n_enumerate:mg "enumerate"=none) (h_deeds_of:Has P w K mg base "deeds_of" 1 ["book"] EC) (h_made_by:Has P w K mg base "made_by" 1 ["deed"] FH):FnOk P w K mg base CX0 2 f fd ["book"] (spD K 1 JD):=by
 refine fnD F TF fun cdv A outer s H E hr=>?_
 have hu:=hr.units
 have hu1:=zQ (a4V (show 1<=64 by decide) _) hu
 have nd:=TF.nd
 have n0:=Y6
 have n1:=Y7
 refine⟨_,by walk_at "b2", ?_⟩
 clear nd n0 n1
 rintro xs M hl ⟨w,ls,rfl,hg⟩
 have hrl:∀D∈dsL ls,D.real:=fun D hD=>by
   obtain⟨l,h1,rfl⟩:=zL.mp hD
   exact hg.real l h1
 have hsz:ls.length < sizeLine:=zQ hg.few (by decide)
 walk_at "r"
 refine AF (AQ 0) (by simp[OD]) ?_
 refine C0 ?_
 walk_at "r"
 refine QS hg ?_
 refine⟨_,rfl,by rw[zX,zX];exact hsz,fun _=>true,G8,?_,?_⟩
 · intro d hd M'
   obtain⟨D,hD,rfl⟩:=zL.mp hd
   walk_at "dl"
   refine⟨rfl,?_⟩
   walk_at "dl"
   refine⟨rfl,rfl,fun _=>?_⟩
   walk_at "r"
   refine B9 (B0 (hrl D hD)) ?_
   exact⟨rfl,rfl⟩
 · rw[LD,zD]
   walk_at "r"
   refine iW (YW (JV (JV YV))) (by simp[OF]) ?_
   refine oG ?_
   walk_at "r"
   have emk:(((QH ((dsL ls).map (G8∘Deed.d))).filter cEn).map fun d=>(fEn d,wEn d))=mkL (dsL ls) 0:=bT (dsL ls) 0
   refine⟨by unfold QH;rw[zX,List.length_zipIdx,zX,zX];exact hsz,cEn,fEn,wEn,?_,?_,fun p hp=>?_⟩
   · have:=T6 (dsL ls) 0 hg.fresh.one
     rw[← emk,zD] at this
     exact this
   · intro d hd M'
     obtain⟨q,hq,rfl⟩:=zL.mp hd
     obtain⟨D,hD,eD⟩:∃D∈dsL ls,G8 D.d=q.1:=by
       obtain⟨D,a,b⟩:=zL.mp (List.fst_mem_of_mem_zipIdx hq)
       exact⟨D,a,b⟩
     rw[← eD]
     rcases (show G8 D.d = .none∨∃x,G8 D.d = .str x by rw[UL];cases D.made with | none=>exact .inl rfl | some x=>exact .inr ⟨x,rfl⟩) with e | ⟨x,e⟩ <;> rw[e]
     · walk_at "r"
       refine⟨rfl,?_⟩
       walk_at "r"
       refine GZ ?_
       exact⟨_,rfl,rfl,rfl,fun h=>absurd h nft⟩
     · walk_at "r"
       refine⟨rfl,?_⟩
       walk_at "r"
       refine GZ ?_
       refine⟨_,rfl,rfl,rfl,fun _=>?_⟩
       walk_at "r"
       refine⟨rfl,rfl,?_⟩
       walk_at "r"
       exact⟨rfl,rfl⟩
   · rw[emk]
     refine⟨_,zT _,fun w' ls' e=>?_⟩
     simp only[List.cons.injEq,DS.d.injEq,and_true] at e
     have e:=FJ e
     subst e
     exact⟨p,hp,rfl,rfl⟩
end
def Y8:List Str:=["book", "number", "made"]
def RC:List Str:=["name", "made"]
def RD:List (Option Nat):=[none,some 2]
theorem aD:RC.Nodup:=by decide +kernel
theorem Y9:FnScope Y8 ["book", "number"] (AB MJ):=⟨rfl,rfl,rfl,by decide +kernel,rfl,by decide +kernel,by decide +kernel⟩
section
local macro_rules | `(tactic| walk_at "cs")=>`(tactic| first | exact @DW _ _ RC RD (AB MJ) Y8 (by decide +kernel) (by decide +kernel) rfl rfl)
local macro_rules | `(tactic| walk_at "x")=>`(tactic| first | ((with_reducible show PT _ (.Compare _ [.In] ..) _);exact @TK _ _ _ _ _ _ (@YR _ _ _ _ _ hu1 (by walk_at "e") (by walk_at "e")) (by with_unfolding_all rfl)))
local macro_rules | `(tactic| walk_at "y")=>`(tactic| first | ((with_reducible show PE _ (.Call (.Name (a0Q "sorted") _) ..) _);exact @D8 _ _ _ _ _ _ _ _ _ (@jG _ K rfl rfl) (by rfl) n_sorted b5K (by walk_at "a") (by decide) (by decide) (by rfl) (by rfl)) | ((with_reducible show PE _ (.Subscript ..) _);exact @TZ _ _ _ _ _ _ hu1 (@pv _ 1 _ _ (by rfl) (by walk_at "lc") (by decide) (by decide)) (@pv _ 0 _ _ (by rfl) (by walk_at "lc") (by decide) (by decide)) (fun _ _=>rfl)))
theorem lG {f:Addr}{fd:FuncData}(F:Fun K "needs" "needs" MJ f fd) (n_sorted:mg "sorted"=none) (n_tuple:mg "tuple"=none) (h_is_number:Has P w K mg base "is_number" 3 ["book", "thing"] D3) (h_makers:Has P w K mg base "makers" 2 ["book"] JD) (h_must_stand:Has P w K mg base "must_stand" 3 ["deed"] DH):FnOk P w K mg base CX0 4 f fd ["book", "number"] (spD K 2 M9):=by
 refine fnD F Y9 fun cdv A outer s H E hr=>?_
 have hu:=hr.units
 have hu1:=zQ (a4V (show 1<=64 by decide) _) hu
 have nd:=Y9.nd
 have n0:=aD
 refine⟨_,by walk_at "b2", ?_⟩
 clear nd n0
 rintro xs M hl ⟨w,ls,k,rfl,hg,hk⟩
 obtain⟨l,hlk,hlm,hll,hld⟩:=DU hk
 have hr:=hg.real l hlm
 walk_at "r"
 refine QT ?_
 rw[kA hk]
 walk_at "r"
 refine X7 hg fun p hp=>?_
 walk_at "r"
 refine FA (AQ 0) (by simp[RD]) ?_
 refine C0 ?_
 walk_at "r"
 refine AA (ds:=[wD w,AC ls]) (d:=AC ls) rfl ?_
 walk_at "r"
 refine AA (ds:=ls.map AL) (AE hll) ?_
 walk_at "r"
 refine AA (ds:=[.str l.1,l.2.d]) (d:=l.2.d) rfl ?_
 walk_at "r"
 refine B9 (B0 hr) ?_
 rw[UR]
 have hml:(l.2.must).length<=2:=zN (yJ _ _) (by cases l.2 <;> simp[Deed.names])
 refine⟨_,rfl,by rw[zX];exact zQ hml (by decide),cMk (dsL ls),fMk (dsL ls),?_,?_⟩
 · rintro d hd A acc M' hA rfl
   obtain⟨n,hn,rfl⟩:=zL.mp hd
   have hpA:p≠A:=by rintro rfl;rw[zU] at hA;cases hA
   walk_at "dl"
   refine⟨rfl,?_⟩
   walk_at "r"
   refine bM ?_
   walk_at "r"
   refine⟨p,mkL (dsL ls) 0,n,rfl,rfl,by rw[yH hpA];exact zU,?_⟩
   refine⟨_,rfl,rfl,rfl,fun hc=>?_⟩
   obtain⟨v,hv⟩:=xY.mp (show(B8 (mkL (dsL ls) 0) n).isSome=true from hc)
   refine WJ ?_
   walk_at "r"
   refine⟨p,mkL (dsL ls) 0,n,v,rfl,rfl,by rw[yH hpA];exact zU,hv,?_,rfl⟩
   show DS.d v = .d ((B8 (mkL (dsL ls) 0) n).getD .none)
   rw[hv];rfl
 · rw[T7 hg.fresh]
   walk_at "r"
   refine jH (by rw[zX];exact zQ (zN (yJ _ _) hml) (by decide)) fun ss hp2 hs=>?_
   walk_at "r"
   refine EI ?_
   refine⟨M,(zT M).put hp,fun w' ls' k' e=>?_⟩
   simp only[List.cons.injEq,DS.d.injEq,PyData.int.injEq,and_true] at e
   obtain⟨e1,e2⟩:=e
   have e1:=FJ e1
   have e2:k=k':=by omega
   subst e1 e2
   rw[jZ hg.fresh hld (ZN hr) rfl hp2 hs]
   exact⟨rfl,rfl⟩
end
theorem YA {f C S:Addr}{fd:FuncData}(F:Fun K "__init__" "NoLine.__init__" CB f fd) (c:XCls K C S (.ref f)) (cs:XSet K C "line"):FnOk P w K mg base CX0 1 f fd ["self", "line"] (QG C "line"):=
 oE F ⟨rfl,rfl,rfl,by decide +kernel,rfl,by decide +kernel,by decide +kernel⟩ rfl c cs (by decide) (fun _=>rfl) (fun X hN hS=>pv 0 (by rw[hN];rfl) (by rw[hS];exact Or.inl rfl)) (fun X hN hS=>pv 1 (by rw[hN];rfl) (by rw[hS];exact Or.inl rfl))
def E5:List Str:=["book", "struck", "thing", "ends", "number", "going"]
def F6:List Str:=["number"]
def F7:List (Option Nat):=[none]
theorem K9:F6.Nodup:=by decide +kernel
def F8:List Str:=["need", "ends"]
def F9:List (Option Nat):=[none,some 3]
theorem KA:F8.Nodup:=by decide +kernel
theorem GL:FnScope E5 ["book", "struck"] (AB BE):=⟨rfl,rfl,rfl,by decide +kernel,rfl,by decide +kernel,by decide +kernel⟩
section
local macro_rules | `(tactic| walk_at "cs")=>`(tactic| first | exact @DW _ _ F6 F7 (AB BE) E5 (by decide +kernel) (by decide +kernel) rfl rfl | exact @DW _ _ F8 F9 (AB BE) E5 (by decide +kernel) (by decide +kernel) rfl rfl)
local macro_rules | `(tactic| walk_at "x")=>`(tactic| first | ((with_reducible show PT _ (.Compare _ [.In] ..) _);exact @TK _ _ _ _ _ _ (@YR _ _ _ _ _ hu1 (by walk_at "e") (by walk_at "e")) (by with_unfolding_all rfl)) | ((with_reducible show PT _ (.Compare _ [.NotIn] ..) _);exact @TK _ _ _ _ _ _ (@cT _ _ _ _ _ hu1 (by walk_at "e") (by walk_at "e")) (by with_unfolding_all rfl)) | ((with_reducible show PS _ (.Assign [.Subscript ..] ..) _);exact @aP _ _ _ _ _ _ _ _ _ hu1 (by walk_at "e") (by walk_at "e") (by walk_at "e") (by rfl)))
local macro_rules | `(tactic| walk_at "y")=>`(tactic| first | ((with_reducible show PE _ (.Subscript ..) _);exact @TZ _ _ _ _ _ _ hu1 (@pv _ 3 _ _ (by rfl) (by walk_at "lc") (by decide) (by decide)) (by walk_at "e") (fun _ _=>rfl)))
theorem MP {f:Addr}{fd:FuncData}{c_S c_NoLine:Addr}(F:Fun K "chains_by_ends" "chains_by_ends" BE f fd) (n_len:mg "len"=none) (n_range:mg "range"=none) (r_NoLine:HasR P w K mg base "NoLine" "line" c_NoLine c_S) (h_is_number:Has P w K mg base "is_number" 3 ["book", "thing"] D3) (h_needs:Has P w K mg base "needs" 4 ["book", "number"] M9):FnOk P w K mg base (CXE P w) 5 f fd ["book", "struck"] (spX K 2 (GB c_NoLine kC)):=by
 refine wC F GL fun cdv A outer s H E hr=>?_
 have hu:=hr.units
 have hu1:=zQ (a4V (show 1<=64 by decide) _) hu
 have nd:=GL.nd
 have n0:=K9
 have n1:=KA
 refine⟨_,by walk_at "b2", ?_⟩
 clear nd n0 n1
 rintro xs M hl ⟨w,ls,ds,rfl,hg,hd⟩
 refine u4 (fun ρ1 M1=>M1=M/\(∀d∈ds,RU ls.length d=true)/\∃x:Option DS,ρ1=[some (.d (AH w ls)),some (.d (.tuple ds)),x,none,none,none]) ?_ ?_
 · refine jR ?_
   refine C0 ?_
   walk_at "r"
   refine⟨fun k ρ1 M1=>M1=M/\(∀d∈ds.take k,RU ls.length d=true)/\∃x:Option DS,ρ1=[some (.d (AH w ls)),some (.d (.tuple ds)),x,none,none,none],⟨rfl,by simp,_,rfl⟩,?_,?_⟩
   · rintro k d ρ1 M1 hk ⟨rfl,ht,x,rfl⟩
     walk_at "r"
     refine QT ?_
     cases hn:RU ls.length d with
     | true=>
       walk_at "r"
       refine⟨rfl,fun d' hd'=>?_,_,rfl⟩
       rw[a5W,hk] at hd'
       rcases yW.mp hd' with q | q
       · exact ht d' q
       · rw[show d'=d by simpa using q];exact hn
     | false=>
       have he:QR ls.length ds=some d:=by
         have hkl:=(yT.mp hk).1
         have e1:ds=ds.take k++d::ds.drop (k+1):=by
           have:=List.take_append_drop k ds
           rw[b8Z hkl,(yT.mp hk).2] at this
           exact this.symm
         unfold QR
         rw[e1,List.find?_append,List.find?_eq_none.mpr (fun x hx=>by rw[ht x hx];simp),Option.none_or,a7X,hn]
         rfl
       walk_at "r"
       exact⟨_,zT _,fun w' ls' ds' e'=>by obtain⟨e1,e2⟩:=QU e';subst e1 e2;exact⟨d,he,rfl,rfl,rfl⟩⟩
   · rintro ρ1 M1 ⟨rfl,ht,x,rfl⟩
     rw[a6K] at ht
     exact⟨rfl,ht,x,rfl⟩
 · rintro ρ1 M1 ⟨rfl,hall,x0,rfl⟩
   obtain⟨ns,rfl,hn⟩:=bS hall
   have hn2:∀m∈ns,m < (dsL ls).length:=fun m hm=>by rw[zX];exact hn m hm
   have hlD:(dsL ls).length=ls.length:=zX _
   have hfew:=hg.few
   rw[AV] at hd
   walk_at "r"
   refine dX (AQ 0) (by simp[F7]) ?_
   refine C0 ?_
   walk_at "r"
   refine⟨by rw[AV];exact zQ hd (by decide),fun _=>true,oN,fun d=>.tuple [d],trivial,?_,fun p hp=>?_⟩
   · intro d hd' M'
     obtain⟨i,hi,rfl⟩:=zL.mp hd'
     walk_at "dl"
     refine⟨rfl,?_⟩
     walk_at "dl"
     refine⟨rfl,rfl,fun _=>?_⟩
     walk_at "r"
     refine⟨rfl,rfl,?_⟩
     walk_at "r"
     exact⟨rfl,rfl⟩
   rw[LD,show(AD ns).foldl (fun ts d=>J5 ts (oN d) (.tuple [d])) []=cvE (BH (dsL ls) ns 0) from bV ns []]
   walk_at "r"
   · refine jR ?_
     refine HN ?_
     walk_at "r"
     refine AA (ds:=[wD w,AC ls]) (d:=AC ls) rfl ?_
     walk_at "r"
     refine DC ?_
     rw[zX]
     walk_at "r"
     refine⟨by omega,by omega,?_⟩
     have hnn:(BJ 0 (ls.length:Int).toNat).length=ls.length:=by simp[BJ]
     refine⟨fun k ρ1 M2=>k<=ls.length/\M2=M1.put p (.d (BK (cvE (BH (dsL ls) ns k))))/\∃(x1 x2 x3:Option DS),ρ1=[some (.d (AH w ls)),some (.d (.tuple (AD ns))),x1,some (.loc p),x2,x3],⟨xT _,rfl,_,_,_,rfl⟩,?_,?_⟩
     · rintro k d ρ1 M2 hd' ⟨hk0,rfl,x1,x2,x3,rfl⟩
       have hk:k < ls.length:=by rw[← hnn];exact(yT.mp hd').1
       have ed:d = .int k:=by
         unfold BJ at hd'
         rw[zF,yA (by omega)] at hd'
         simp at hd';exact hd'.symm
       subst ed
       have hlen:=X9 hn2 k (by omega)
       have hneed:(BU (dsL ls) k).length<=k:=by
         unfold BU
         exact zN (yJ _ _) (by rw[xZ];exact zR _)
       walk_at "r"
       refine FA (AQ 0) (by simp[F9]) ?_
       refine C0 ?_
       walk_at "r"
       refine ZM hg hk ?_
       refine⟨_,rfl,by rw[AV];exact zQ (show _<=50 by omega) (by decide),cGo (BH (dsL ls) ns k),id,?_,?_⟩
       · rintro d hd2 A acc M' hA rfl
         obtain⟨i,hi,rfl⟩:=zL.mp hd2
         have hpA:p≠A:=by rintro rfl;rw[zU] at hA;cases hA
         walk_at "dl"
         refine⟨rfl,?_⟩
         walk_at "r"
         refine jB ?_
         walk_at "r"
         refine⟨p,cvE (BH (dsL ls) ns k),i,rfl,rfl,by rw[yH hpA];exact zU,?_⟩
         refine⟨_,rfl,rfl,rfl,fun _=>?_⟩
         walk_at "r"
         exact⟨rfl,rfl⟩
       rw[kD]
       walk_at "r"
       refine dW ?_
       walk_at "r"
       refine⟨p,cvE (BH (dsL ls) ns k),(k:Int),rfl,rfl,zU,?_⟩
       rw[P9]
       have keep:∀{x1 x2 x3:Option DS},IL (dsL ls) (BH (dsL ls) ns k) k=BH (dsL ls) ns k->(k+1<=ls.length/\M1.put p (.d (BK (cvE (BH (dsL ls) ns k))))=M1.put p (.d (BK (cvE (BH (dsL ls) ns (k+1)))))/\∃(y1 y2 y3:Option DS),[some (DS.d (AH w ls)),some (.d (.tuple (AD ns))),x1,some (.loc p),x2,x3]=[some (.d (AH w ls)),some (.d (.tuple (AD ns))),y1,some (.loc p),y2,y3]):=fun h=>⟨by omega,by rw[QO,h],_,_,_,rfl⟩
       cases hk2:F5 (BH (dsL ls) ns k) k with
       | some c0=>
         walk_at "r"
         refine keep ?_
         unfold IL
         cases EZ (dsL ls) (BH (dsL ls) ns k) k with
         | nil=>rfl
         | cons g r=>dsimp only;rw[hk2];rfl
       | none=>
         walk_at "r"
         refine U7 ?_
         cases hgo:EZ (dsL ls) (BH (dsL ls) ns k) k with
         | nil=>
           walk_at "r"
           refine keep ?_
           unfold IL;rw[hgo]
         | cons g r=>
           have hgm:g∈EZ (dsL ls) (BH (dsL ls) ns k) k:=by rw[hgo];simp
           obtain⟨c,hc⟩:=xY.mp (yL.mp hgm).2
           have hch:=((M8 hn2 k (by omega)).1).ch _ (QM hc)
           walk_at "r"
           rw[if_pos (decide_eq_true (by rw[AV,yR];omega))]
           refine GC (jC ?_)
           walk_at "r"
           refine dU ?_
           walk_at "r"
           refine D9 (ds:=AD (g::r)) (d:=.int (g:Int)) (AE (j:=0) rfl) ?_
           refine⟨p,cvE (BH (dsL ls) ns k),(g:Int),chD c,rfl,rfl,zU,by rw[P9,hc];rfl,?_⟩
           walk_at "r"
           refine FS (as:=AD c) (bs:=[.int (k:Int)]) (by rw[AV];exact zN (show c.length+1<=51 by have hcl:c.length<=_:=eT hch;omega) (by decide)) ?_
           walk_at "r"
           refine⟨p,cvE (BH (dsL ls) ns k),(k:Int),chD (c++[k]),?_,rfl,rfl,zU,by unfold cvE;rw[zX];exact zQ (show _<=50 by omega) (by decide),?_⟩
           · unfold chD EB
             rw[xI,xI]
             rfl
           rw[yI,k7]
           refine⟨by omega,?_,_,_,_,rfl⟩
           rw[QO]
           unfold IL
           rw[hgo]
           dsimp only
           rw[hk2,hc]
           rfl
     · rintro ρ1 M2 ⟨hk0,rfl,x1,x2,x3,rfl⟩
       walk_at "r"
       refine⟨_,zT _,fun w' ls' ds' e'=>?_⟩
       obtain⟨e1,e2⟩:=QU e'
       subst e1 e2
       rw[hnn]
       refine⟨ns,rfl,hn,p,hp,rfl,?_⟩
       unfold u7
       rw[hlD]
end
def p6:List Str:=["book", "struck"]
theorem cA:FnScope p6 ["book", "struck"] (AB V2):=⟨rfl,rfl,rfl,by decide +kernel,rfl,by decide +kernel,by decide +kernel⟩
section
local macro_rules | `(tactic| walk_at "y")=>`(tactic| first | ((with_reducible show PE _ (.Call (.Name (a0Q "sorted") _) ..) _);exact @D8 _ _ _ _ _ _ _ _ _ (@jG _ K rfl rfl) (by rfl) n_sorted b5K (by walk_at "a") (by decide) (by decide) (by rfl) (by rfl)))
theorem p7 {f:Addr}{fd:FuncData}{c_NoLine:Addr}(F:Fun K "goes" "goes" V2 f fd) (n_sorted:mg "sorted"=none) (n_tuple:mg "tuple"=none) (h_chains_by_ends:HasX P w K mg base "chains_by_ends" 5 ["book", "struck"] (GB c_NoLine kC)):FnOk P w K mg base (CXE P w) 6 f fd ["book", "struck"] (spX K 2 (GB c_NoLine X8)):=by
 refine wC F cA fun cdv A outer s H E hr=>?_
 have hu:=hr.units
 have nd:=cA.nd
 refine⟨_,by walk_at "b1", ?_⟩
 clear nd
 rintro xs M hl ⟨w,ls,ds,rfl,hg,hd⟩
 refine jS ?_
 refine k9 (X5 (k9 (X5 (LZ ?_))))
 walk_at "r"
 refine oK hg hd (fun ns y M' e hn hf=>?_) (fun d he=>?_)
 · obtain⟨p,hp,rfl,rfl⟩:=hf
   have hn2:∀m∈ns,m < (dsL ls).length:=fun m hm=>by rw[zX];exact hn m hm
   have hl2:=X9 hn2 _ (zR _)
   have hfew:=hg.few
   rw[zX] at hl2
   refine X4 (YS ?_)
   refine dY zU (by unfold cvE u7;rw[zX,zX];omega) fun ss hpm hs=>?_
   refine X4 (YS ?_)
   refine EI ?_
   refine⟨M,(zT M).put hp,fun w' ls' ds' e'=>?_⟩
   obtain⟨e1,e2⟩:=QU e'
   subst e1 e2
   refine⟨ns,e,hn,?_,rfl⟩
   rw[X3 hn2 hpm hs]
   rfl
 · exact⟨M,zT M,fun w' ls' ds' e'=>by obtain⟨e1,e2⟩:=QU e';subst e1 e2;exact⟨d,he,rfl,rfl,rfl⟩⟩
end
def RE:List Str:=["book", "numbers"]
def MQ:List Str:=["number", "book"]
def MR:List (Option Nat):=[none,some 0]
theorem V7:MQ.Nodup:=by decide +kernel
theorem RF:FnScope RE ["book", "numbers"] (AB HJ):=⟨rfl,rfl,rfl,by decide +kernel,rfl,by decide +kernel,by decide +kernel⟩
section
local macro_rules | `(tactic| walk_at "cs")=>`(tactic| first | exact @DW _ _ MQ MR (AB HJ) RE (by decide +kernel) (by decide +kernel) rfl rfl)
theorem aE {f:Addr}{fd:FuncData}(F:Fun K "book_of" "book_of" HJ f fd) (n_tuple:mg "tuple"=none):FnOk P w K mg base CX0 1 f fd ["book", "numbers"] (spD K 2 ER):=by
 refine fnD F RF fun cdv A outer s H E hr=>?_
 have hu:=hr.units
 have nd:=RF.nd
 have n0:=V7
 refine⟨_,by walk_at "b1", ?_⟩
 clear nd n0
 rintro xs M hl ⟨w,ls,κ,rfl,hκ,hl60⟩
 walk_at "r"
 refine AA (ds:=[wD w,AC ls]) (d:=wD w) rfl ?_
 walk_at "r"
 refine AF (AQ 0) (by simp[MR]) ?_
 refine AW ?_
 walk_at "r"
 refine⟨by rw[AV];exact zQ hl60 (by decide),fun _=>true,fLn ls,?_,?_⟩
 · intro d hd M'
   obtain⟨i,hi,rfl⟩:=zL.mp hd
   obtain⟨k,hk,rfl⟩:=BN.mp hi
   obtain⟨l,hlk,hlm,hll,hld⟩:=DU (hκ k hk)
   walk_at "dl"
   refine⟨rfl,?_⟩
   walk_at "dl"
   refine⟨rfl,rfl,fun _=>?_⟩
   walk_at "r"
   refine AA (ds:=[wD w,AC ls]) (d:=AC ls) rfl ?_
   walk_at "r"
   refine AA (ds:=ls.map AL) (AE hll) ?_
   refine⟨?_,rfl⟩
   show _=DS.d ((ls.map AL).getD ((k:Int)).toNat .none)
   rw[a2J,yU,hll];rfl
 rw[LD,LG hκ]
 walk_at "r"
 refine EI ?_
 walk_at "r"
 refine⟨M,zT M,fun w' ls' κ' e=>?_⟩
 simp only[List.cons.injEq,DS.d.injEq,PyData.list.injEq,and_true] at e
 obtain⟨e1,e2⟩:=e
 obtain⟨e3,e4⟩:=D4 e1
 have e2:=G1 e2
 subst e4 e2
 refine⟨?_,rfl⟩
 show DS.d (.tuple [wD w,_])=DS.d (.tuple [wD w',_])
 rw[e3]
end
def KL:List Str:=["book", "numbers", "name"]
def IO:List Str:=["number", "name", "book"]
def IP:List (Option Nat):=[none,some 2,some 0]
theorem OQ:IO.Nodup:=by decide +kernel
theorem KM:FnScope KL ["book", "numbers", "name"] (AB E2):=⟨rfl,rfl,rfl,by decide +kernel,rfl,by decide +kernel,by decide +kernel⟩
section
local macro_rules | `(tactic| walk_at "cs")=>`(tactic| first | exact @DW _ _ IO IP (AB E2) KL (by decide +kernel) (by decide +kernel) rfl rfl)
local macro_rules | `(tactic| walk_at "x")=>`(tactic| first | ((with_reducible show PT _ (.Compare _ [.In] ..) _);exact @BY _ _ _ _ _ _ _ _ (@eL _ K rfl hu) (by walk_at "e") (by walk_at "e") (by with_unfolding_all rfl)))
theorem RZ {f:Addr}{fd:FuncData}(F:Fun K "asking_for" "asking_for" E2 f fd) (n_tuple:mg "tuple"=none) (h_must_stand:Has P w K mg base "must_stand" 3 ["deed"] DH):FnOk P w K mg base CX0 4 f fd ["book", "numbers", "name"] (spD K 3 MC):=by
 refine fnD F KM fun cdv A outer s H E hr=>?_
 have hu:=hr.units
 have nd:=KM.nd
 have n0:=OQ
 refine⟨_,by walk_at "b1", ?_⟩
 clear nd n0
 rintro xs M hl ⟨w,A,κ,e,rfl,hg,hκ,hl60,he⟩
 walk_at "r"
 refine AF (AQ 0) (by simp[IP]) ?_
 refine AW ?_
 walk_at "r"
 refine⟨by rw[AV];exact zQ hl60 (by decide),qF A e,id,?_,?_⟩
 · intro d hd M'
   obtain⟨i,hi,rfl⟩:=zL.mp hd
   obtain⟨k,hk,rfl⟩:=BN.mp hi
   obtain⟨l,hlk,hlm,hll,hld⟩:=DU (hκ k hk)
   have hr:=hg.real l hlm
   walk_at "dl"
   refine⟨rfl,?_⟩
   walk_at "r"
   refine AA (ds:=[wD w,AC A]) (d:=AC A) rfl ?_
   walk_at "r"
   refine AA (ds:=A.map AL) (AE hll) ?_
   walk_at "r"
   refine AA (ds:=[.str l.1,l.2.d]) (d:=l.2.d) rfl ?_
   walk_at "r"
   refine B9 (B0 hr) ?_
   rw[UR]
   refine K2 (ds:=l.2.must.map .str) (CG he) (O2 fun z hz=>NO hr hz) ?_
   rw[if_neg nft,oV hld]
   refine⟨_,rfl,rfl,?_,fun _=>?_⟩
   · show JI A e k=JI A e ((k:Int)).toNat
     rw[a2J]
   walk_at "r"
   exact⟨rfl,rfl⟩
 rw[eZ]
 walk_at "r"
 refine EI ?_
 refine⟨M,zT M,fun w' A' κ' e' h=>?_⟩
 simp only[List.cons.injEq,DS.d.injEq,PyData.list.injEq,and_true] at h
 obtain⟨h1,h2,h3⟩:=h
 obtain⟨_,rfl⟩:=D4 h1
 obtain rfl:=G1 h2
 obtain rfl:=kR h3
 exact⟨rfl,rfl⟩
end
def KN:List Str:=["things", "others", "alike"]
def IQ:List Str:=["thing", "other"]
def IR:List (Option Nat):=[none,none]
theorem OR:IQ.Nodup:=by decide +kernel
theorem KO:FnScope KN ["things", "others"] (AB E3):=⟨rfl,rfl,rfl,by decide +kernel,rfl,by decide +kernel,by decide +kernel⟩
section
local macro_rules | `(tactic| walk_at "cs")=>`(tactic| first | exact @DW _ _ IQ IR (AB E3) KN (by decide +kernel) (by decide +kernel) rfl rfl)
local macro_rules | `(tactic| walk_at "x")=>`(tactic| first | ((with_reducible show PI _ _ (.Call (.Name (a0Q "zip") _) ..) _);exact @wI _ K _ _ _ _ _ _ _ _ rfl rfl n_zip (by walk_at "a") (by rfl) (by rfl)) | ((with_reducible show PG _ (.Tuple ..) _);exact @nA _ K _ _ _ _ (2) rfl rfl (by walk_at "j") (by rfl) (by rfl)) | ((with_reducible show PE _ (.Call (.Attribute _ (a0Q "index") _) ..) _);exact @kBm _ K _ _ _ _ _ _ _ _ _ _ _ rfl PySem.F.plainAttrs_list PySem.F.slot_list_index PySem.F.type_list_index (@wF _ K rfl hu) (by walk_at "e") (by walk_at "a") (by rfl) (by rfl) (by rfl) (by rfl) (by rfl)))
theorem S0 {f:Addr}{fd:FuncData}(F:Fun K "same_ahead" "same_ahead" E3 f fd) (n_zip:mg "zip"=none):FnOk P w K mg base CX0 1 f fd ["things", "others"] (spD K 2 DY):=by
 refine fnD F KO fun cdv A outer s H E hr=>?_
 have hu:=hr.units
 have nd:=KO.nd
 have n0:=OR
 refine⟨_,by walk_at "b2", ?_⟩
 clear nd n0
 rintro xs M hl ⟨A,B,rfl,ha,hb⟩
 obtain⟨bs,ebs,hbl⟩:=XJ (A.map AL) (B.map AL)
 have hlz:(OI (A.map AL) (B.map AL)).length<=50:=by
   unfold OI
   rw[zX,List.length_zip,zX]
   exact zN (Nat.min_le_left _ _) ha.2
 walk_at "r"
 refine AF (YW (JV (JV YV))) (by simp[IR]) ?_
 refine oR ?_
 walk_at "r"
 refine⟨A.map AL,B.map AL,rfl,?_⟩
 refine⟨zQ hlz (by decide),fun _=>true,fEq,?_,?_⟩
 · intro d hd M'
   unfold OI at hd
   obtain⟨p,hp,rfl⟩:=zL.mp hd
   obtain⟨h1,h2⟩:=List.of_mem_zip hp
   obtain⟨a,ha2,e1⟩:=zL.mp h1
   obtain⟨b,hb2,e2⟩:=zL.mp h2
   rw[← e1,← e2]
   walk_at "r"
   refine⟨rfl,?_⟩
   walk_at "dl"
   refine⟨rfl,rfl,fun _=>?_⟩
   walk_at "r"
   refine B4 (O1 (ha.1 a ha2).1 (ha.1 a ha2).2) (O1 (hb.1 b hb2).1 (hb.1 b hb2).2) ?_
   rw[if_neg nft]
   exact⟨rfl,rfl⟩
 have hidx:=ZS A B
 rw[LD]
 rw[ebs] at hidx ⊢
 walk_at "r"
 refine ST ?_
 walk_at "wkd"
 refine CT (by rw[zX];exact zN (show _<=60 by rw[zX] at hbl;have:=ha.2;simp;omega) (by decide)) ?_
 refine⟨jW,?_⟩
 walk_at "r"
 have hsh:zH (.list (bs.map a8V++[.bool false]))=true:=by
   refine BD (EY fun d hd=>?_) ?_
   · rcases yW.mp hd with q | q
     · obtain⟨b,_,rfl⟩:=zL.mp q;rfl
     · rw[List.mem_singleton.mp q];rfl
   · have:a1Z (bs.map a8V++[.bool false])<=3:=J9 fun d hd=>by
       rcases yW.mp hd with q | q
       · obtain⟨b,_,rfl⟩:=zL.mp q;simp[a1V]
       · rw[List.mem_singleton.mp q];simp[a1V]
     simp only[a1V];omega
 refine oI (ds:=bs.map .bool++[.bool false]) (j:=AN A B) hsh rfl hidx (zQ (K4 A B).1 (zQ ha.2 (by decide))) ?_
 refine⟨M,zT M,fun A' B' e=>?_⟩
 simp only[List.cons.injEq,DS.d.injEq,PyData.tuple.injEq,and_true] at e
 obtain⟨e1,e2⟩:=e
 obtain rfl:=D0 e1
 obtain rfl:=D0 e2
 exact⟨rfl,rfl⟩
end
def fH:List Str:=["one", "other"]
theorem TH:FnScope fH ["one", "other"] (AB MK):=⟨rfl,rfl,rfl,by decide +kernel,rfl,by decide +kernel,by decide +kernel⟩
theorem fI {f:Addr}{fd:FuncData}(F:Fun K "shared" "shared" MK f fd) (h_same_ahead:Has P w K mg base "same_ahead" 1 ["things", "others"] DY):FnOk P w K mg base CX0 2 f fd ["one", "other"] (spD K 2 CY):=by
 refine fnD F TH fun cdv A outer s H E hr=>?_
 have hu:=hr.units
 have nd:=TH.nd
 refine⟨_,by walk_at "b2", ?_⟩
 clear nd
 rintro xs M hl ⟨w,A,B,rfl,hw,ha,hb⟩
 walk_at "r"
 refine AA (ds:=[wD w,AC A]) (d:=wD w) rfl ?_
 walk_at "r"
 refine AA (ds:=[wD w,AC B]) (d:=wD w) rfl ?_
 walk_at "r"
 refine B4 (FK hw) (FK hw) ?_
 rw[if_pos rfl,JE (FK hw)]
 walk_at "r"
 refine AA (ds:=[wD w,AC A]) (d:=AC A) rfl ?_
 walk_at "r"
 refine AA (ds:=[wD w,AC B]) (d:=AC B) rfl ?_
 walk_at "r"
 refine ZT ha.lns hb.lns ?_
 refine⟨M,zT M,fun w' A' B' e=>?_⟩
 obtain⟨_,rfl,rfl⟩:=ZV e
 exact⟨rfl,rfl⟩
def V8:List Str:=["book", "common"]
theorem MS:FnScope V8 ["book", "common"] (AB GH):=⟨rfl,rfl,rfl,by decide +kernel,rfl,by decide +kernel,by decide +kernel⟩
section
local macro_rules | `(tactic| walk_at "y")=>`(tactic| first | ((with_reducible show PE _ (.Call (.Name (a0Q "list") _) [.Call ..] ..) _);exact @T9 _ _ _ _ _ _ _ _ hr.hd rfl n_range rfl n_list (by walk_at "a") (by rfl) (by rfl) (by rfl)))
theorem V9 {f:Addr}{fd:FuncData}(F:Fun K "own_lines" "own_lines" GH f fd) (n_len:mg "len"=none) (n_list:mg "list"=none) (n_range:mg "range"=none):FnOk P w K mg base CX0 1 f fd ["book", "common"] (spD K 2 IC):=by
 refine fnD F MS fun cdv A outer s H E hr=>?_
 have hu:=hr.units
 have nd:=MS.nd
 refine⟨_,by walk_at "b1", ?_⟩
 clear nd
 rintro xs M hl ⟨w,A,c,rfl,hg,hc⟩
 have hfew:=hg.few
 walk_at "r"
 refine TB ?_
 walk_at "r"
 refine AA (ds:=[wD w,AC A]) (d:=AC A) rfl ?_
 walk_at "r"
 refine DC ?_
 rw[zX]
 walk_at "r"
 refine⟨(c:Int),(A.length:Int),rfl,⟨by omega,by omega,by omega,by omega⟩,by omega,?_⟩
 rw[XM]
 refine⟨M,zT M,fun w' A' c' e=>?_⟩
 simp only[List.cons.injEq,DS.d.injEq,PyData.int.injEq,and_true] at e
 obtain⟨e1,e2⟩:=e
 obtain⟨_,rfl⟩:=D4 e1
 have e2:c=c':=by omega
 subst e2
 exact⟨rfl,rfl⟩
end
def VA:List Str:=["one", "other", "common", "i", "j", "made", "ended"]
theorem II:FnScope VA ["one", "other", "common"] (AB GI):=⟨rfl,rfl,rfl,by decide +kernel,rfl,by decide +kernel,by decide +kernel⟩
section
local macro_rules | `(tactic| walk_at "x")=>`(tactic| first | ((with_reducible show PS _ (.Assign [.Tuple ..] (.Tuple ..) _) _);exact @r9 _ _ (5) (6) _ _ _ _ _ _ _ _ _ _ _ rfl II.nd rfl rfl (by decide) rfl rfl (by walk_at "a") rfl (by rfl)))
theorem VB {f:Addr}{fd:FuncData}(F:Fun K "same_name" "same_name" GI f fd) (h_ended_by:Has P w K mg base "ended_by" 1 ["deed"] FW) (h_made_by:Has P w K mg base "made_by" 1 ["deed"] FH) (h_own_lines:Has P w K mg base "own_lines" 1 ["book", "common"] IC):FnOk P w K mg base CX0 2 f fd ["one", "other", "common"] (spD K 3 HF):=by
 refine fnD F II fun cdv A outer s H E hr=>?_
 have hu:=hr.units
 have nd:=II.nd
 refine⟨_,by walk_at "b2", ?_⟩
 clear nd
 rintro xs M hl ⟨w,A,B,c,rfl,ha,hb,hc⟩
 have fin:∀(M1:Own) (y:DS) (d:PyData),M1=M->y = .d d->(d = .none∨c7 A B c d)->∃M2:Own,M2.Sub M1/\HF.post [.d (AH w A),.d (AH w B),.d (.int c)] M y M2:=fun M1 y d e1 e2 h=>⟨M,e1▸zT M,fun w' A' B' c' e=>by
   simp only[List.cons.injEq,DS.d.injEq,PyData.int.injEq,and_true] at e
   obtain⟨g1,g2,g3⟩:=e
   obtain⟨_,rfl⟩:=D4 g1
   obtain⟨_,rfl⟩:=D4 g2
   have g3:c=c':=by omega
   subst g3
   exact⟨rfl,d,e2,h⟩⟩
 walk_at "wks"
 refine L8 (fun ρ1 M1=>M1=M) ?_ ?_
 · refine HP ?_
   refine AW ?_
   walk_at "r"
   refine MB ha hc ?_
   refine⟨_,rfl,fun k ρ1 M1=>M1=M/\∃x y u v:Option DS,ρ1=[some (.d (AH w A)),some (.d (AH w B)),some (.d (.int (c:Nat))),x,y,u,v],⟨rfl,_,_,_,_,rfl⟩,?_,?_⟩
   · rintro k d ρ1 M1 hd ⟨rfl,x,y,u,v,rfl⟩
     obtain⟨i0,hi0,rfl⟩:=zL.mp (yN hd)
     obtain⟨i,hi,rfl⟩:=BN.mp hi0
     have hi:=BV.mp hi
     obtain⟨a,hak,ham,hal,had⟩:=DU hi.2
     have hra:=ha.real a ham
     walk_at "r"
     refine HP ?_
     refine AW ?_
     walk_at "r"
     refine MB hb hc ?_
     refine⟨_,rfl,fun k ρ1 M2=>M2=M1/\∃y u v:Option DS,ρ1=[some (.d (AH w A)),some (.d (AH w B)),some (.d (.int (c:Nat))),some (.d (.int (i:Nat))),y,u,v],⟨rfl,_,_,_,rfl⟩,?_,?_⟩
     · rintro k d ρ1 M2 hd ⟨rfl,y,u,v,rfl⟩
       obtain⟨j0,hj0,rfl⟩:=zL.mp (yN hd)
       obtain⟨j,hj,rfl⟩:=BN.mp hj0
       have hj:=BV.mp hj
       obtain⟨b,hbk,hbm,hbl,hbd⟩:=DU hj.2
       have hrb:=hb.real b hbm
       walk_at "r"
       refine AA (ds:=[wD w,AC A]) (d:=AC A) rfl ?_
       walk_at "r"
       refine AA (ds:=A.map AL) (AE hal) ?_
       walk_at "r"
       refine AA (ds:=[.str a.1,a.2.d]) (d:=a.2.d) rfl ?_
       walk_at "r"
       refine B9 (B0 hra) ?_
       rw[UV]
       walk_at "r"
       refine AA (ds:=[wD w,AC A]) (d:=AC A) rfl ?_
       walk_at "r"
       refine AA (ds:=A.map AL) (AE hal) ?_
       walk_at "r"
       refine AA (ds:=[.str a.1,a.2.d]) (d:=a.2.d) rfl ?_
       walk_at "r"
       refine B9 (B0 hra) ?_
       rw[PB]
       walk_at "r"
       refine⟨_,_,rfl,?_⟩
       walk_at "wks"
       refine L8 (fun ρ1 M3=>M3=M2/\ρ1=[some (.d (AH w A)),some (.d (AH w B)),some (.d (.int (c:Nat))),some (.d (.int (i:Nat))),some (.d (.int (j:Nat))),some (.d (CU a.2.made)),some (.d (CU (CM a.2)))]) ?_ ?_
       · walk_at "r"
         refine GZ ?_
         cases hm:a.2.made with
         | none=>
           rw[show(!BI (CU none))=false from rfl]
           walk_at "r"
           exact⟨rfl,rfl⟩
         | some z=>
           rw[show(!BI (CU (some z)))=true from rfl]
           walk_at "r"
           refine AA (ds:=[wD w,AC B]) (d:=AC B) rfl ?_
           walk_at "r"
           refine AA (ds:=B.map AL) (AE hbl) ?_
           walk_at "r"
           refine AA (ds:=[.str b.1,b.2.d]) (d:=b.2.d) rfl ?_
           walk_at "r"
           refine B9 (B0 hrb) ?_
           rw[UV]
           refine B4 (CG fun y hy=>JH hra (hm.trans hy)) (CG fun y hy=>JH hrb hy) ?_
           rw[if_neg nft,QY]
           by_cases e:some z=b.2.made
           · rw[decide_eq_true e]
             walk_at "r"
             exact fin _ _ _ rfl rfl (.inr ⟨i,j,a,b,z,hi.1,hj.1,hak,hbk,.inl ⟨rfl,hm,e.symm⟩⟩)
           · rw[decide_eq_false e]
             walk_at "r"
             exact⟨rfl,rfl⟩
       · rintro ρ1 M3 ⟨rfl,rfl⟩
         walk_at "r"
         refine GZ ?_
         cases hm:CM a.2 with
         | none=>
           rw[show(!BI (CU none))=false from rfl]
           walk_at "r"
           exact⟨rfl,_,_,_,rfl⟩
         | some z=>
           rw[show(!BI (CU (some z)))=true from rfl]
           walk_at "r"
           refine AA (ds:=[wD w,AC B]) (d:=AC B) rfl ?_
           walk_at "r"
           refine AA (ds:=B.map AL) (AE hbl) ?_
           walk_at "r"
           refine AA (ds:=[.str b.1,b.2.d]) (d:=b.2.d) rfl ?_
           walk_at "r"
           refine B9 (B0 hrb) ?_
           rw[PB]
           refine B4 (CG fun y hy=>JG hra (hm.trans hy)) (CG fun y hy=>JG hrb hy) ?_
           rw[if_neg nft,QY]
           by_cases e:some z=CM b.2
           · rw[decide_eq_true e]
             walk_at "r"
             exact fin _ _ _ rfl rfl (.inr ⟨i,j,a,b,z,hi.1,hj.1,hak,hbk,.inr ⟨rfl,hm,e.symm⟩⟩)
           · rw[decide_eq_false e]
             walk_at "r"
             exact⟨rfl,_,_,_,rfl⟩
     · rintro ρ1 M2 ⟨h,y,u,v,e⟩
       exact⟨h,_,y,u,v,e⟩
   · rintro ρ1 M1 ⟨h,_⟩
     exact h
 · rintro ρ1 M1 rfl
   walk_at "r"
   exact fin _ _ _ rfl rfl (.inl rfl)
end
def MT:List Str:=["book", "number", "line", "ahead"]
theorem GM:FnScope MT ["book", "number", "line"] (AB CN):=⟨rfl,rfl,rfl,by decide +kernel,rfl,by decide +kernel,by decide +kernel⟩
theorem MU {f:Addr}{fd:FuncData}(F:Fun K "first_ahead_of" "first_ahead_of" CN f fd) (n_len:mg "len"=none) (h_asking_for:Has P w K mg base "asking_for" 4 ["book", "numbers", "name"] MC) (h_ended_by:Has P w K mg base "ended_by" 1 ["deed"] FW) (h_own_lines:Has P w K mg base "own_lines" 1 ["book", "common"] IC):FnOk P w K mg base CX0 5 f fd ["book", "number", "line"] (spD K 3 FL):=by
 refine fnD F GM fun cdv A outer s H E hr=>?_
 have hu:=hr.units
 have nd:=GM.nd
 refine⟨_,by walk_at "b2", ?_⟩
 clear nd
 rintro xs M hl ⟨w,A,c,l,rfl,hg,hc,hr⟩
 have hfew:=hg.few
 walk_at "r"
 refine MB hg hc ?_
 walk_at "r"
 refine AA (ds:=[.str l.1,l.2.d]) (d:=l.2.d) rfl ?_
 walk_at "r"
 refine B9 (B0 hr) ?_
 rw[PB]
 walk_at "r"
 refine kQ hg (fun k hk=>(BV.mp hk).2) (by rw[HD];omega) (fun z hz=>JG hr hz) ?_
 walk_at "r"
 refine DC ?_
 rw[AV]
 have fin:∀y:DS,y = .d (ZX (LL A c (CM l.2)))->∃M2:Own,M2.Sub M/\FL.post (NR w A c l) M y M2:=fun y hy=>⟨M,zT M,fun w' A' c' l' e=>by
   simp only[List.cons.injEq,DS.d.injEq,PyData.int.injEq,and_true] at e
   obtain⟨e1,e2,e3⟩:=e
   obtain⟨_,rfl⟩:=D4 e1
   have e2:c=c':=by omega
   subst e2
   have e4:l=l':=(List.cons.inj (D0 (ls:=[l]) (ls':=[l']) (by simp only[zI,a3W];rw[e3]))).1
   subst e4
   exact⟨hy,rfl⟩⟩
 unfold LL at fin
 walk_at "r"
 cases hF:(E6 c A.length).filter (JI A (CM l.2)) with
 | nil=>
   rw[hF] at fin
   walk_at "r"
   exact fin _ rfl
 | cons k r=>
   rw[hF] at fin
   rw[show decide ((0:Int) < ((k::r).length:Nat))=true from decide_eq_true (by simp)]
   walk_at "r"
   refine AA (ds:=AD (k::r)) (d:=.int (k:Int)) (AE (j:=0) (oP (c:=k::r) (i:=0) rfl)) ?_
   exact fin _ rfl
def fJ:List Str:=["one", "other", "common", "quarrel", "lines", "here", "there", "ahead_of_here", "ahead_of_there"]
theorem FN:FnScope fJ ["one", "other"] (AB ML):=⟨rfl,rfl,rfl,by decide +kernel,rfl,by decide +kernel,by decide +kernel⟩
section
local macro_rules | `(tactic| walk_at "x")=>`(tactic| first | ((with_reducible show PS _ (.Assign [.Name ..,.Name ..] ..) _);exact @uA _ (5) (6) _ _ _ _ _ _ _ FN.nd rfl rfl (by walk_at "lc") (by walk_at "lc") (by walk_at "e") (by rfl) (by rfl) (by walk_at "or") (by walk_at "or")) | ((with_reducible show PS _ (.While ..) _);exact @fV _ _ _ _ _ _ PassesOwn.never (by walk_at "t") (by walk_at "q")) | ((with_reducible show PS _ (.AugAssign ..) _);exact @YF _ _ (4) _ _ _ _ _ _ FN.nd rfl (by walk_at "lc") (by walk_at "e") (@ZW _ K rfl) (by walk_at "or")) | ((with_reducible show PS _ (.AugAssign ..) _);exact @YF _ _ (5) _ _ _ _ _ _ FN.nd rfl (by walk_at "lc") (by walk_at "e") (@ZW _ K rfl) (by walk_at "or")) | ((with_reducible show PS _ (.AugAssign ..) _);exact @YF _ _ (6) _ _ _ _ _ _ FN.nd rfl (by walk_at "lc") (by walk_at "e") (@ZW _ K rfl) (by walk_at "or")))
theorem fK {f:Addr}{fd:FuncData}(F:Fun K "joined" "joined" ML f fd) (n_len:mg "len"=none) (h_first_ahead_of:Has P w K mg base "first_ahead_of" 5 ["book", "number", "line"] FL) (h_same_name:Has P w K mg base "same_name" 2 ["one", "other", "common"] HF) (h_shared:Has P w K mg base "shared" 2 ["one", "other"] CY):FnOk P w K mg base CX0 6 f fd ["one", "other"] (spD K 2 EE):=by
 refine fnD F FN fun cdv A outer s H E hr=>?_
 have hu:=hr.units
 have nd:=FN.nd
 refine⟨_,by walk_at "b2", ?_⟩
 clear nd
 rintro xs M hl ⟨w,A,B,rfl,hw,ha,hb⟩
 have hA:=ha.few
 have hB:=hb.few
 obtain⟨l1,l2,l3⟩:=K4 A B
 have fin:∀(M1:Own) (y:DS) (d:PyData),M1=M->y = .d d->uF A B d->∃M2:Own,M2.Sub M1/\EE.post (b2X w A B) M y M2:=fun M1 y d e1 e2 h=>⟨M,e1▸zT M,fun w' A' B' e=>by
   obtain⟨_,rfl,rfl⟩:=ZV e
   exact⟨rfl,d,e2,h⟩⟩
 walk_at "r"
 refine JF ⟨hw,ha,hb⟩ ?_
 walk_at "r"
 refine XQ ha hb (by omega) fun d hd=>?_
 walk_at "r"
 refine GZ ?_
 rcases hd with rfl | hd
 case inr=>
   have hnn:(!BI d)=true:=by obtain⟨i,j,a,b,x,_,_,_,_,⟨rfl,_⟩ | ⟨rfl,_⟩⟩:=hd <;> rfl
   rw[hnn]
   walk_at "r"
   exact fin _ _ _ rfl rfl (.inr ⟨d,rfl,.inl hd⟩)
 rw[show(!BI PyData.none)=false from rfl]
 walk_at "r"
 refine AA (ds:=[wD w,AC A]) (d:=AC A) rfl ?_
 walk_at "r"
 refine B6 ?_
 rw[UA]
 walk_at "r"
 refine uB ?_
 walk_at "r"
 refine kM (fun m ρ1 M1=>∃(h t:Nat) (ds:List PyData) (x y:Option DS),M1=M/\AN A B<=h/\AN A B<=t/\h<=A.length/\t<=B.length/\ds.length<=h+t/\m=(A.length - h)+(B.length - t)/\ρ1=[some (.d (AH w A)),some (.d (AH w B)),some (.d (.int (AN A B:Nat))),some (.d .none),some (.d (.tuple ds)),some (.d (.int (h:Nat))),some (.d (.int (t:Nat))),x,y]) ⟨_,AN A B,AN A B,_,_,_,rfl,zR _,zR _,l1,l2,by rw[a1Q,zX];omega,rfl,rfl⟩ ?_
 rintro m ρ1 M1 ⟨h,t,ds,x,y,rfl,h1,h2,h3,h4,h5,rfl,rfl⟩
 walk_at "r"
 refine AA (ds:=[wD w,AC A]) (d:=AC A) rfl ?_
 walk_at "r"
 refine DC ?_
 rw[zX]
 walk_at "r"
 by_cases hc:h < A.length
 case neg=>
   rw[decide_eq_false (show ¬((h:Nat):Int) < (A.length:Int) by omega),if_neg nft]
   rw[if_neg nft]
   walk_at "r"
   refine AA (ds:=[wD w,AC A]) (d:=wD w) rfl ?_
   walk_at "r"
   refine AA (ds:=[wD w,AC A]) (d:=AC A) rfl ?_
   walk_at "r"
   refine B6 ?_
   rw[DD]
   refine FS (by rw[a0K,zX];exact zN (show _<=200 by omega) (by decide)) ?_
   walk_at "r"
   refine AA (ds:=[wD w,AC B]) (d:=AC B) rfl ?_
   walk_at "r"
   refine B6 ?_
   rw[DD]
   refine FS (by rw[yY,a0K,zX,a0K,zX];exact zN (show _<=300 by omega) (by decide)) ?_
   walk_at "r"
   exact fin _ _ _ rfl rfl (.inl ⟨_,rfl⟩)
 rw[decide_eq_true (show((h:Nat):Int) < (A.length:Int) by omega),if_pos rfl]
 walk_at "r"
 refine AA (ds:=[wD w,AC B]) (d:=AC B) rfl ?_
 walk_at "r"
 refine DC ?_
 rw[zX]
 walk_at "r"
 by_cases hc2:t < B.length
 case neg=>
   rw[decide_eq_false (show ¬((t:Nat):Int) < (B.length:Int) by omega),if_neg nft]
   walk_at "r"
   refine AA (ds:=[wD w,AC A]) (d:=wD w) rfl ?_
   walk_at "r"
   refine AA (ds:=[wD w,AC A]) (d:=AC A) rfl ?_
   walk_at "r"
   refine B6 ?_
   rw[DD]
   refine FS (by rw[a0K,zX];exact zN (show _<=200 by omega) (by decide)) ?_
   walk_at "r"
   refine AA (ds:=[wD w,AC B]) (d:=AC B) rfl ?_
   walk_at "r"
   refine B6 ?_
   rw[DD]
   refine FS (by rw[yY,a0K,zX,a0K,zX];exact zN (show _<=300 by omega) (by decide)) ?_
   walk_at "r"
   exact fin _ _ _ rfl rfl (.inl ⟨_,rfl⟩)
 rw[decide_eq_true (show((t:Nat):Int) < (B.length:Int) by omega),if_pos rfl]
 obtain⟨a,hak,ham,hal,had⟩:=DU hc
 obtain⟨b,hbk,hbm,hbl,hbd⟩:=DU hc2
 walk_at "r"
 refine AA (ds:=[wD w,AC A]) (d:=AC A) rfl ?_
 walk_at "r"
 refine AA (ds:=A.map AL) (AE hal) ?_
 walk_at "r"
 refine MD (l:=a) hb (by omega) (ha.real a ham) ?_
 walk_at "r"
 refine AA (ds:=[wD w,AC B]) (d:=AC B) rfl ?_
 walk_at "r"
 refine AA (ds:=B.map AL) (AE hbl) ?_
 walk_at "r"
 refine MD (l:=b) ha (by omega) (hb.real b hbm) ?_
 walk_at "r"
 refine bH ?_
 cases hB1:LL B t (CM a.2) with
 | none=>
   rw[show BI (ZX none)=true from rfl]
   walk_at "r"
   refine UU ⟨_,rfl,?_⟩
   walk_at "r"
   refine AA (ds:=[wD w,AC A]) (d:=AC A) rfl ?_
   walk_at "r"
   refine AA (ds:=A.map AL) (AE hal) ?_
   walk_at "r"
   refine c6 (by simp;exact zN (show _<=200 by omega) (by decide)) ?_
   walk_at "r"
   refine UU ⟨_,rfl,?_⟩
   walk_at "r"
   refine c5 ?_
   refine⟨_,?_,h+1,t,ds++[AL a],_,_,rfl,by omega,by omega,by omega,by omega,by simp;omega,rfl,rfl⟩
   omega
 | some k=>
   rw[show BI (ZX (some k))=false from rfl]
   walk_at "r"
   refine bH ?_
   cases hA1:LL A h (CM b.2) with
   | none=>
     rw[show BI (ZX none)=true from rfl]
     walk_at "r"
     refine UU ⟨_,rfl,?_⟩
     walk_at "r"
     refine AA (ds:=[wD w,AC B]) (d:=AC B) rfl ?_
     walk_at "r"
     refine AA (ds:=B.map AL) (AE hbl) ?_
     walk_at "r"
     refine c6 (by simp;exact zN (show _<=200 by omega) (by decide)) ?_
     walk_at "r"
     refine UU ⟨_,rfl,?_⟩
     walk_at "r"
     refine c5 ?_
     refine⟨_,?_,h,t+1,ds++[AL b],_,_,rfl,by omega,by omega,by omega,by omega,by simp;omega,rfl,rfl⟩
     omega
   | some i=>
     rw[show BI (ZX (some i))=false from rfl]
     obtain⟨k1,b',y2,k2,k3,k4⟩:=XO hB1
     obtain⟨i1,a',x2,i2,i3,i4⟩:=XO hA1
     walk_at "r"
     exact fin _ _ _ rfl rfl (.inr ⟨_,rfl,.inr ⟨i,t,k,h,a',b,b',a,x2,y2,rfl,h1,i1,h2,k1,i2,hbk,k2,hak,i3,i4,k3,k4⟩⟩)
end
def IJ:List Str:=["deed", "row", "made", "ended"]
def JK:List Str:=["ahead"]
def G4:List (Option Nat):=[none]
theorem RG:JK.Nodup:=by decide +kernel
def JL:List Str:=["name", "ended"]
def JM:List (Option Nat):=[none,some 3]
theorem RH:JL.Nodup:=by decide +kernel
theorem MV:FnScope IJ ["deed", "row"] (AB D6):=⟨rfl,rfl,rfl,by decide +kernel,rfl,by decide +kernel,by decide +kernel⟩
section
local macro_rules | `(tactic| walk_at "cs")=>`(tactic| first | exact @DW _ _ JK G4 (AB D6) IJ (by decide +kernel) (by decide +kernel) rfl rfl | exact @DW _ _ JL JM (AB D6) IJ (by decide +kernel) (by decide +kernel) rfl rfl)
local macro_rules | `(tactic| walk_at "x")=>`(tactic| first | ((with_reducible show PE _ (.Compare _ [.In] ..) _);exact @D7 _ _ _ _ _ _ _ _ (@eL _ K rfl hu) (by walk_at "e") (by walk_at "e") (by with_unfolding_all rfl)))
theorem VC {f:Addr}{fd:FuncData}(F:Fun K "is_barred" "is_barred" D6 f fd) (n_any:mg "any"=none) (h_ended_by:Has P w K mg base "ended_by" 1 ["deed"] FW) (h_made_by:Has P w K mg base "made_by" 1 ["deed"] FH) (h_must_stand:Has P w K mg base "must_stand" 3 ["deed"] DH):FnOk P w K mg base CX0 4 f fd ["deed", "row"] (spD K 2 EF):=by
 refine fnD F MV fun cdv A outer s H E hr=>?_
 have hu:=hr.units
 have nd:=MV.nd
 have n0:=RG
 have n1:=RH
 refine⟨_,by walk_at "b2", ?_⟩
 clear nd n0 n1
 rintro xs M hl ⟨row,D,rfl,hr,hrow,hlen⟩
 have fin:∀b:Bool,R7 row D=b->∃M2:Own,M2.Sub M/\EF.post (fC row D) M (.d (.bool b)) M2:=fun b hb=>⟨M,zT M,fun row' D' e=>by
   simp only[List.cons.injEq,DS.d.injEq,PyData.tuple.injEq,and_true] at e
   obtain⟨e1,e2⟩:=e
   obtain rfl:=FX e1
   obtain rfl:=XX e2
   rw[hb]
   exact⟨rfl,rfl⟩⟩
 have lst:∀(f:PyData->PyData) (g:Deed->Option Str),(∀F:Deed,f F.d=CU (g F))->(row.map Deed.d).map f=(row.map g).map CU:=fun f g h=>by
   rw[zD,zD];exact yM fun F _=>h F
 have hl51:(row.map Deed.d).length < sizeLine:=by rw[zX];exact zQ hlen (by decide)
 walk_at "r"
 refine B9 (B0 hr) ?_
 rw[UV]
 walk_at "r"
 refine AF (AQ 0) (by simp[G4]) ?_
 refine C0 ?_
 walk_at "r"
 refine⟨hl51,fun _=>true,UK,?_,?_⟩
 · intro d hd M'
   obtain⟨F,hF,rfl⟩:=zL.mp hd
   walk_at "dl"
   refine⟨rfl,?_⟩
   walk_at "dl"
   refine⟨rfl,rfl,fun _=>?_⟩
   walk_at "r"
   refine B9 (B0 (hrow F hF)) ?_
   exact⟨rfl,rfl⟩
 rw[LD,lst UK CM PB]
 walk_at "r"
 refine AF (AQ 0) (by simp[JM]) ?_
 refine C0 ?_
 walk_at "r"
 refine B9 (B0 hr) ?_
 rw[UR]
 have hml:(D.must).length<=2:=zN (yJ _ _) (by cases D <;> simp[Deed.names])
 refine⟨_,rfl,by rw[zX];exact zQ hml (by decide),fun _=>true,fun d=>.bool (((row.map CM).map CU).any fun e=>a0X e d),?_,?_⟩
 · intro d hd M'
   obtain⟨z,hz,rfl⟩:=zL.mp hd
   walk_at "dl"
   refine⟨rfl,?_⟩
   walk_at "dl"
   refine⟨rfl,rfl,fun _=>?_⟩
   walk_at "r"
   refine UQ (ds:=(row.map CM).map CU) (AM (NO hr hz)) (O4 fun e he y hy=>by
     obtain⟨F,hF,rfl⟩:=zL.mp he
     exact JG (hrow F hF) hy) ?_
   exact⟨rfl,rfl⟩
 have hgen:∀(es:List (Option Str)) (ms:List Str),(ms.map a0W).map (fun d=>a8V ((es.map CU).any fun e=>a0X e d))=(ms.map fun x=>es.any fun e=>decide (e=some x)).map .bool:=fun es ms=>by
   rw[zD,zD]
   apply yM
   intro x _
   show a8V ((es.map CU).any fun e=>a0X e (.str x)) = .bool (es.any fun e=>decide (e=some x))
   rw[c9]
 have hr2:(D.must.map fun x=>(row.map CM).any fun e=>decide (e=some x))=D.must.map fun x=>row.any fun F=>decide (CM F=some x):=yM fun x _=>by rw[List.any_map];rfl
 rw[LD,hgen,hr2]
 walk_at "r"
 refine U8 ?_
 rw[K3]
 cases hA:D.must.any fun x=>row.any fun F=>decide (CM F=some x) with
 | true=>
   walk_at "r"
   exact fin true (by unfold R7;rw[hA];rfl)
 | false=>
   walk_at "r"
   refine GZ ?_
   cases hm:D.made with
   | none=>
     rw[show(!BI (CU none))=false from rfl]
     walk_at "r"
     exact fin false (by unfold R7;rw[hA,hm];simp)
   | some z=>
     rw[show(!BI (CU (some z)))=true from rfl]
     walk_at "r"
     refine AF (AQ 0) (by simp[G4]) ?_
     refine C0 ?_
     walk_at "r"
     refine⟨hl51,fun _=>true,G8,?_,?_⟩
     · intro d hd M'
       obtain⟨F,hF,rfl⟩:=zL.mp hd
       walk_at "dl"
       refine⟨rfl,?_⟩
       walk_at "dl"
       refine⟨rfl,rfl,fun _=>?_⟩
       walk_at "r"
       refine B9 (B0 (hrow F hF)) ?_
       exact⟨rfl,rfl⟩
     rw[LD,lst G8 Deed.made UV]
     refine UQ (ds:=(row.map Deed.made).map CU) (CG fun y hy=>JH hr (hm.trans hy)) (O4 fun e he y hy=>by
       obtain⟨F,hF,rfl⟩:=zL.mp he
       exact JH (hrow F hF) hy) ?_
     rw[if_neg nft,show(((row.map Deed.made).map CU).any fun e=>a0X e (CU (some z)))=row.any fun F=>decide (F.made=some z) by rw[show CU (some z) = .str z from rfl,c9,List.any_map];rfl]
     exact fin _ (by unfold R7;rw[hA,hm,c0X];congr 1;funext F;simp)
end
def LN:List Str:=["one", "other", "common", "row", "own", "gone", "kept"]
def MW:List Str:=["number", "row", "other"]
def MX:List (Option Nat):=[none,some 3,some 1]
theorem VD:MW.Nodup:=by decide +kernel
def MY:List Str:=["number", "gone"]
def MZ:List (Option Nat):=[none,some 5]
theorem VE:MY.Nodup:=by decide +kernel
theorem RI:FnScope LN ["one", "other"] (AB FM):=⟨rfl,rfl,rfl,by decide +kernel,rfl,by decide +kernel,by decide +kernel⟩
section
local macro_rules | `(tactic| walk_at "cs")=>`(tactic| first | exact @DW _ _ MW MX (AB FM) LN (by decide +kernel) (by decide +kernel) rfl rfl | exact @DW _ _ MY MZ (AB FM) LN (by decide +kernel) (by decide +kernel) rfl rfl)
local macro_rules | `(tactic| walk_at "x")=>`(tactic| first | ((with_reducible show PE _ (.Call (.Name (a0Q "goes") _) ..) _);exact @pT _ K P w mg base _ _ _ _ _ _ _ _ _ rfl rfl rfl rfl rfl (eU h_goes) (hr.mono (by decide)) rfl (by walk_at "a") (by decide) (by rfl) (by rfl)) | ((with_reducible show PT _ (.Compare _ [.NotIn] ..) _);exact @BY _ _ _ _ _ _ _ _ (@P7 _ K rfl hu) (by walk_at "e") (by walk_at "e") (by with_unfolding_all rfl)))
theorem aF {f:Addr}{fd:FuncData}{c_NoLine:Addr}(F:Fun K "carried" "carried" FM f fd) (n_tuple:mg "tuple"=none) (h_goes:HasX P w K mg base "goes" 6 ["book", "struck"] (GB c_NoLine X8)) (h_book_of:Has P w K mg base "book_of" 1 ["book", "numbers"] ER) (h_deeds_of:Has P w K mg base "deeds_of" 1 ["book"] EC) (h_is_barred:Has P w K mg base "is_barred" 4 ["deed", "row"] EF) (h_own_lines:Has P w K mg base "own_lines" 1 ["book", "common"] IC) (h_shared:Has P w K mg base "shared" 2 ["one", "other"] CY):FnOk P w K mg base CX0 7 f fd ["one", "other"] (spD K 2 ET):=by
 refine fnD F RI fun cdv A outer s H E hr=>?_
 have hu:=hr.units
 have nd:=RI.nd
 have n0:=VD
 have n1:=VE
 refine⟨_,by walk_at "b2", ?_⟩
 clear nd n0 n1
 rintro xs M hl ⟨w,A,B,rfl,hw,ha,hb⟩
 have hA:=ha.few
 have hB:=hb.few
 obtain⟨l1,l2,l3⟩:=K4 A B
 have lrng:(E6 (AN A B) B.length).length<=50:=by rw[HD];omega
 walk_at "r"
 refine JF ⟨hw,ha,hb⟩ ?_
 walk_at "r"
 refine QS ha ?_
 walk_at "r"
 refine B6 ?_
 rw[DD,← a9J]
 walk_at "r"
 refine MB hb (by omega) ?_
 walk_at "r"
 refine AF (AQ 0) (by simp[MX]) ?_
 refine AW ?_
 walk_at "r"
 refine⟨by rw[AV];exact zQ lrng (by decide),wR A B (AN A B),id,?_,?_⟩
 · intro d hd M'
   obtain⟨i,hi,rfl⟩:=zL.mp hd
   obtain⟨k,hk,rfl⟩:=BN.mp hi
   have hk:=BV.mp hk
   obtain⟨l,hlk,hlm,hll,hld⟩:=DU hk.2
   walk_at "dl"
   refine⟨rfl,?_⟩
   walk_at "r"
   refine AA (ds:=[wD w,AC B]) (d:=AC B) rfl ?_
   walk_at "r"
   refine AA (ds:=B.map AL) (AE hll) ?_
   walk_at "r"
   refine AA (ds:=[.str l.1,l.2.d]) (d:=l.2.d) rfl ?_
   walk_at "r"
   refine RW (hb.real l hlm) (fun F hF=>by
     obtain⟨l2,h2,rfl⟩:=zL.mp (b1X hF)
     exact ha.real l2 h2) (by rw[a0K,zX];omega) ?_
   refine⟨_,rfl,rfl,?_,fun _=>?_⟩
   · show R7 _ l.2=match B[((k:Int)).toNat]? with | some l=>R7 ((dsL A).drop (AN A B)) l.2 | none=>false
     rw[a2J,hlk]
   walk_at "r"
   exact⟨rfl,rfl⟩
 rw[l5]
 walk_at "r"
 refine EI ?_
 walk_at "r"
 refine oM (ns:=OO A B (AN A B)) hb (zN (yJ _ _) (by omega)) (fun m hm=>(BV.mp (yL.mp hm).1).2) fun y M' hf=>?_
 obtain⟨rfl,rfl⟩:=hf
 rw[show HZ B (OO A B (AN A B))=AU A B from rfl]
 walk_at "r"
 refine AF (AQ 0) (by simp[MZ]) ?_
 refine AW ?_
 walk_at "r"
 refine⟨by rw[AV];exact zQ lrng (by decide),cCh (AU A B),id,?_,?_⟩
 · intro d hd M'
   obtain⟨i,hi,rfl⟩:=zL.mp hd
   walk_at "dl"
   refine⟨rfl,?_⟩
   walk_at "r"
   refine K2 (ds:=AD (AU A B)) rfl (BB _) ?_
   refine⟨_,rfl,rfl,rfl,fun _=>?_⟩
   walk_at "r"
   exact⟨rfl,rfl⟩
 rw[TC]
 walk_at "r"
 have hrl:(BO A B (AU A B)).length<=50:=zN (yJ _ _) lrng
 refine XH (κ:=BO A B (AU A B)) (fun k hk=>(CH.mp hk).1.2) (by omega) ?_
 walk_at "r"
 refine AA (ds:=[wD w,AC A]) (d:=wD w) rfl ?_
 walk_at "r"
 refine AA (ds:=[wD w,AC A]) (d:=AC A) rfl ?_
 walk_at "r"
 refine AA (ds:=[wD w,AC (AS B (BO A B (AU A B)))]) (d:=AC (AS B (BO A B (AU A B)))) rfl ?_
 walk_at "r"
 refine FS (as:=A.map AL) (bs:=(AS B (BO A B (AU A B))).map AL) (by rw[zX,zX,QW fun k hk=>(CH.mp hk).1.2];exact zN (show _<=100 by omega) (by decide)) ?_
 rw[← xI]
 walk_at "r"
 refine⟨_,zT _,fun w' A' B' e=>?_⟩
 obtain⟨e1,rfl,rfl⟩:=ZV e
 refine⟨?_,rfl⟩
 rw[← wO e1]
 rfl
end
def GT:List Str:=["_law_pack", "_law_amount", "_law_letters", "_law_turn", "_law_pick", "_law_size"]
def IS:List Str:=["_law_k", "_law_letters"]
def IT:List (Option Nat):=[none,some 2]
theorem OS:IS.Nodup:=by decide +kernel
def IU:List Str:=["_law_k", "_law_letters", "_law_size"]
def F0:List (Option Nat):=[none,some 2,some 5]
theorem OT:IU.Nodup:=by decide +kernel
theorem KP:FnScope GT ["_law_pack", "_law_amount"] (AB CO):=⟨rfl,rfl,rfl,by decide +kernel,rfl,by decide +kernel,by decide +kernel⟩
section
local macro_rules | `(tactic| walk_at "cs")=>`(tactic| first | exact @DW _ _ IS IT (AB CO) GT (by decide +kernel) (by decide +kernel) rfl rfl | exact @DW _ _ IU F0 (AB CO) GT (by decide +kernel) (by decide +kernel) rfl rfl)
local macro_rules | `(tactic| walk_at "x")=>`(tactic| first | ((with_reducible show PE _ (.BinOp _ .Mult ..) _);exact @PF _ _ _ _ _ _ _ _ (@vY _ K rfl) (by walk_at "e") (by walk_at "e")))
theorem S3 {f:Addr}{fd:FuncData}(F:Fun K "_law_names" "_law_names" CO f fd) (n_range:mg "range"=none) (h__law_take:Has P w K mg base "_law_take" 1 ["_law_pack", "_law_size"] BC):FnOk P w K mg base CX0 2 f fd ["_law_pack", "_law_amount"] (spD K 2 DF):=by
 refine fnD F KP fun cdv A outer s H E hr=>?_
 have hu:=hr.units
 have nd:=KP.nd
 have n0:=OS
 have n1:=OT
 refine⟨_,by walk_at "b2", ?_⟩
 clear nd n0 n1
 rintro xs M hl ⟨p,n,o,rfl,m,ho,hn0,hn1⟩
 obtain⟨N,rfl⟩:∃N:Nat,n=(N:Int):=⟨n.toNat,by omega⟩
 have hlz:((a0Q "abcdefghijklmnopqrstuvwxyz"):Str).length<=sizeLine:=by rw[J8];decide
 walk_at "r"
 refine AZ m ho (by decide) (by decide) fun v1 o1 hv0 hv1 ho1=>?_
 obtain⟨t,rfl⟩:∃t:Nat,v1=(t:Int):=⟨v1.toNat,by omega⟩
 walk_at "r"
 refine LU hlz ?_
 walk_at "r"
 refine LU hlz ?_
 refine PX (zN (Nat.add_le_add (SW _ _ _ (Nat.le_of_eq J8)) (SW _ _ _ (Nat.le_of_eq J8))) (by decide)) ?_
 have hRl:Z1 (a1X (a0Q "abcdefghijklmnopqrstuvwxyz") (some (t:Int)) none++a1X (a0Q "abcdefghijklmnopqrstuvwxyz") none (some (t:Int))):=by
   refine Q2 (fun c hc=>?_) (fun c hc=>?_)
   · rw[HU] at hc;exact PY c (b1X hc)
   · exact PY c (dA hc)
 have hRn:(a1X (a0Q "abcdefghijklmnopqrstuvwxyz") (some (t:Int)) none++a1X (a0Q "abcdefghijklmnopqrstuvwxyz") none (some (t:Int))).cps.toList.length=26:=by
   rw[AT,yY,HU,HR,a0K,a1Q,← NF,iG];exact tS (xR (Int.ofNat_lt.mp hv1))
 have hRd:(a1X (a0Q "abcdefghijklmnopqrstuvwxyz") (some (t:Int)) none++a1X (a0Q "abcdefghijklmnopqrstuvwxyz") none (some (t:Int))).cps.toList.Nodup:=by
   rw[AT,HU,HR];exact dP t
 have hRrun:Run (a1X (a0Q "abcdefghijklmnopqrstuvwxyz") (some (t:Int)) none++a1X (a0Q "abcdefghijklmnopqrstuvwxyz") none (some (t:Int))).cps.toList:=by
   rw[AT,HU,HR];exact tX (j2 t (by omega))
 revert hRl hRn hRd hRrun
 generalize a1X (a0Q "abcdefghijklmnopqrstuvwxyz") (some (t:Int)) none++a1X (a0Q "abcdefghijklmnopqrstuvwxyz") none (some (t:Int))=R
 intro hRl hRn hRd hRrun
 have hRz:R.length<=sizeLine:=by
   have:R.length=R.cps.toList.length:=by simp[Str.length]
   rw[this,hRn];decide
 have hRat:∀k:Nat,k < 26->∃c,atI R.cps.toList (k:Int)=some c/\LV c=true:=fun k hk=>by
   have hk':k < R.cps.toList.length:=by rw[hRn];exact hk
   exact⟨R.cps.toList[k],AE (zV hk'),hRl _ (b1W hk')⟩
 walk_at "r"
 refine AZ zU ho1 (by decide) (by decide) fun v2 o2 _ _ ho2=>?_
 rw[yI]
 walk_at "r"
 refine AZ zU ho2 (by decide) (by decide) fun v3 o3 h30 h31 ho3=>?_
 rw[yI]
 obtain⟨s3,rfl⟩:∃s3:Nat,v3=(s3:Int):=⟨v3.toNat,by omega⟩
 have hmid:Z1 (a1X R (some 3) (some (3+(s3:Int))))/\(a1X R (some 3) (some (3+(s3:Int)))).cps.toList.length<=7/\Run (a1X R (some 3) (some (3+(s3:Int)))).cps.toList:=by
   have e:(a1X R (some 3) (some (3+(s3:Int)))).cps.toList=(R.cps.toList.take (3+s3)).drop 3:=dE R 3 (3+s3)
   refine⟨fun c hc=>?_,?_,?_⟩
   · rw[e] at hc;exact hRl c (b5X (b1X hc))
   · rw[e,a0K,a1Q];exact tT (Nat.le_of_lt_succ (Int.ofNat_lt.mp h31))
   · rw[e];exact(hRrun.take _).drop _
 have hids:(BJ 0 N).length=N:=by simp[BJ]
 have hN:N<=26:=Int.ofNat_le.mp hn1
 have hsz:(BJ 0 N).length < sizeLine:=by rw[hids];exact zQ hN (by decide)
 have fin:∀(g:PyData->PyData),(∀k:Nat,k < N->∃z,g (.int k) = .str z/\AO z/\z∉OL)->(∀i j:Nat,i < N->j < N->g (.int i)=g (.int j)->i=j)->∃ys:List Str,((BJ 0 N).filter fun _=>true).map g=ys.map .str/\ys.length=N/\(∀z∈ys,AO z/\z∉OL)/\ys.Nodup:=fun g hg hi=>by
   rw[flt]
   refine⟨(a0V N).map fun(k:Nat)=>SX (g (.int (k:Int))),?_,by simp,?_,?_⟩
   · unfold BJ
     rw[zD,zD]
     apply yM
     intro k hk
     obtain⟨z,e,_⟩:=hg k (List.mem_range.mp hk)
     show g (.int (0+(k:Int))) = .str (SX (g (.int k)))
     rw[Int.zero_add,e];rfl
   · intro z hz
     obtain⟨k,hk,rfl⟩:=zL.mp hz
     obtain⟨z,e,h⟩:=hg k (List.mem_range.mp hk)
     rw[e];exact h
   · refine nodup_range fun i j h1 h2 e=>hi i j h1 h2 ?_
     obtain⟨z1,e1,_⟩:=hg i h1
     obtain⟨z2,e2,_⟩:=hg j h2
     rw[e1,e2] at e ⊢
     exact congrArg a0W e
 walk_at "r"
 refine B4 rfl rfl ?_
 rw[if_neg nft]
 walk_at "r"
 refine sF (fun h=>?_) (fun h=>?_)
 · walk_at "r"
   refine AF (AQ 0) (by simp[IT]) ?_
   refine HN ?_
   walk_at "r"
   refine⟨by omega,by omega,?_⟩
   rw[a2J]
   have hel:∀k:Nat,k < N->∃c,atI R.cps.toList ((k:Int)/8)=some c/\LV c=true:=fun k hk=>hRat (k/8) (Z0 hk hN)
   refine⟨hsz,fun _=>true,nmA R,?_,?_⟩
   · intro d hd M'
     obtain⟨k,hk,rfl⟩:=zL.mp hd
     obtain⟨c,e1,e2⟩:=hel k (List.mem_range.mp hk)
     rw[Int.zero_add]
     walk_at "dl"
     refine⟨rfl,?_⟩
     walk_at "dl"
     refine⟨rfl,rfl,fun _=>?_⟩
     walk_at "r"
     refine U6 hRz e1 ?_
     walk_at "r"
     refine tR (L9 _).1 (L9 _).2.1 (by show 1<=1000;decide) ?_
     exact⟨by rw[UH e1],rfl⟩
   · have iA:∀i j:Nat,i < N->j < N->(nmA R) (.int i)=(nmA R) (.int j)->i=j:=fun i j h1 h2 e=>by
       obtain⟨c1,q1,_⟩:=hel i h1
       obtain⟨c2,q2,_⟩:=hel j h2
       rw[UH q1,UH q2] at e
       have e':OK ⟨#[c1]⟩ (1+(i:Int) % 8)=OK ⟨#[c2]⟩ (1+(j:Int) % 8):=by injection e
       obtain⟨hcc,hmn⟩:=nP (L9 _).1 (L9 _).1 e'
       subst hcc
       have hq:=QC (i:=i/8) (j:=j/8) hRd q1 q2 (by rw[hRn];exact Z0 h1 hN) (by rw[hRn];exact Z0 h2 hN)
       exact vZ hmn hq
     have hA:∀k:Nat,k < N->∃z,(nmA R) (.int k) = .str z/\AO z/\z∉OL:=fun k hk=>by
       obtain⟨c,q1,q2⟩:=hel k hk
       have hz:=UD (c:=c) (n:=1+(k:Int) % 8) (L9 k).1
       refine⟨OK ⟨#[c]⟩ (1+(k:Int) % 8),UH q1,?_,nM hz⟩
       refine Q1 (fun d hd=>?_) ?_ ?_
       · rw[hz] at hd;rw[b9Q hd];exact q2
       · rw[hz,b0V];exact(L9 k).2.2.1
       · rw[hz,b0V];exact(L9 k).2.2.2
     obtain⟨ys,e1,e2,e3,e4⟩:=fin (nmA R) hA iA
     rw[e1]
     refine⟨_,zT _,fun p' n' e=>?_⟩
     cases e
     exact⟨ys,o3,rfl,by rw[e2],fun z hz=>(e3 z hz).1,fun z hz=>(e3 z hz).2,e4,ho3,rfl⟩
 · walk_at "r"
   refine B4 rfl rfl ?_
   rw[if_neg nft]
   walk_at "r"
   have hel:∀k:Nat,k < N->∃c,atI R.cps.toList (k:Int)=some c/\LV c=true:=fun k hk=>hRat k (zP hk hN)
   have hszs:∀c:Nat,(⟨#[c]⟩:Str).length+(a1X R (some 3) (some (3+(s3:Int)))).length<=sizeLine:=fun c=>by
     have:(a1X R (some 3) (some (3+(s3:Int)))).length=(a1X R (some 3) (some (3+(s3:Int)))).cps.toList.length:=by simp[Str.length]
     rw[this]
     exact zN (Nat.add_le_add (zR 1) hmid.2.1) (by decide)
   refine sF (fun h2=>?_) (fun h2=>?_)
   · walk_at "r"
     refine AF (AQ 0) (by simp[F0]) ?_
     refine HN ?_
     walk_at "r"
     refine⟨by omega,by omega,?_⟩
     rw[a2J]
     refine⟨hsz,fun _=>true,nmB R (a1X R (some 3) (some (3+(s3:Int)))),?_,?_⟩
     · intro d hd M'
       obtain⟨k,hk,rfl⟩:=zL.mp hd
       obtain⟨c,e1,e2⟩:=hel k (List.mem_range.mp hk)
       rw[Int.zero_add]
       walk_at "dl"
       refine⟨rfl,?_⟩
       walk_at "dl"
       refine⟨rfl,rfl,fun _=>?_⟩
       walk_at "r"
       refine U6 hRz e1 ?_
       walk_at "r"
       refine LU hRz ?_
       refine PX (hszs c) ?_
       exact⟨by rw[UI e1],rfl⟩
     · have iB:∀i j:Nat,i < N->j < N->(nmB R (a1X R (some 3) (some (3+(s3:Int))))) (.int i)=(nmB R (a1X R (some 3) (some (3+(s3:Int))))) (.int j)->i=j:=fun i j h1 h2 e=>by
         obtain⟨c1,q1,_⟩:=hel i h1
         obtain⟨c2,q2,_⟩:=hel j h2
         rw[UI q1,UI q2] at e
         have e':(⟨#[c1]⟩:Str)++a1X R (some 3) (some (3+(s3:Int)))=⟨#[c2]⟩++a1X R (some 3) (some (3+(s3:Int))):=by injection e
         have hc:=j3 e'
         subst hc
         exact QC hRd q1 q2 (by rw[hRn];exact zP h1 hN) (by rw[hRn];exact zP h2 hN)
       have hB:∀k:Nat,k < N->∃z,(nmB R (a1X R (some 3) (some (3+(s3:Int))))) (.int k) = .str z/\AO z/\z∉OL:=fun k hk=>by
         obtain⟨c,q1,q2⟩:=hel k hk
         refine⟨_,UI q1,?_,nN (c:=c) (by rw[AT];rfl) hmid.2.2⟩
         refine Q1 (Q2 (W9 q2) hmid.1) ?_ ?_
         · rw[AT,yY];exact a8Q 1 _
         · rw[AT,yY];exact a4V hmid.2.1 1
       obtain⟨ys,e1,e2,e3,e4⟩:=fin (nmB R (a1X R (some 3) (some (3+(s3:Int))))) hB iB
       rw[e1]
       refine⟨_,zT _,fun p' n' e=>?_⟩
       cases e
       exact⟨ys,o3,rfl,by rw[e2],fun z hz=>(e3 z hz).1,fun z hz=>(e3 z hz).2,e4,ho3,rfl⟩
   · walk_at "r"
     refine AF (AQ 0) (by simp[F0]) ?_
     refine HN ?_
     walk_at "r"
     refine⟨by omega,by omega,?_⟩
     rw[a2J]
     refine⟨hsz,fun _=>true,nmC R (a1X R (some 3) (some (3+(s3:Int)))),?_,?_⟩
     · intro d hd M'
       obtain⟨k,hk,rfl⟩:=zL.mp hd
       obtain⟨c,e1,e2⟩:=hel k (List.mem_range.mp hk)
       rw[Int.zero_add]
       walk_at "dl"
       refine⟨rfl,?_⟩
       walk_at "dl"
       refine⟨rfl,rfl,fun _=>?_⟩
       walk_at "r"
       refine LU hRz ?_
       walk_at "r"
       refine U6 hRz e1 ?_
       refine PX (by rw[Nat.add_comm];exact hszs c) ?_
       exact⟨by rw[UJ e1],rfl⟩
     · have iC:∀i j:Nat,i < N->j < N->(nmC R (a1X R (some 3) (some (3+(s3:Int))))) (.int i)=(nmC R (a1X R (some 3) (some (3+(s3:Int))))) (.int j)->i=j:=fun i j h1 h2 e=>by
         obtain⟨c1,q1,_⟩:=hel i h1
         obtain⟨c2,q2,_⟩:=hel j h2
         rw[UJ q1,UJ q2] at e
         have e':a1X R (some 3) (some (3+(s3:Int)))++(⟨#[c1]⟩:Str)=a1X R (some 3) (some (3+(s3:Int)))++⟨#[c2]⟩:=by injection e
         have hc:=j4 e'
         subst hc
         exact QC hRd q1 q2 (by rw[hRn];exact zP h1 hN) (by rw[hRn];exact zP h2 hN)
       have hC:∀k:Nat,k < N->∃z,(nmC R (a1X R (some 3) (some (3+(s3:Int))))) (.int k) = .str z/\AO z/\z∉OL:=fun k hk=>by
         obtain⟨c,q1,q2⟩:=hel k hk
         refine⟨_,UJ q1,?_,nO (c:=c) (by rw[AT]) hmid.2.2⟩
         refine Q1 (Q2 hmid.1 (W9 q2)) ?_ ?_
         · rw[AT,yY];exact Nat.le_add_left 1 _
         · rw[AT,yY];exact b5W hmid.2.1 1
       obtain⟨ys,e1,e2,e3,e4⟩:=fin (nmC R (a1X R (some 3) (some (3+(s3:Int))))) hC iC
       rw[e1]
       refine⟨_,zT _,fun p' n' e=>?_⟩
       cases e
       exact⟨ys,o3,rfl,by rw[e2],fun z hz=>(e3 z hz).1,fun z hz=>(e3 z hz).2,e4,ho3,rfl⟩
end
def S4:List Str:=["_law_cell"]
theorem KQ:FnScope S4 ["_law_cell"] (AB FD):=⟨rfl,rfl,rfl,by decide +kernel,rfl,by decide +kernel,by decide +kernel⟩
section
local macro_rules | `(tactic| walk_at "x")=>`(tactic| first | ((with_reducible show PE _ (.BinOp _ .Mult ..) _);exact @PF _ _ _ _ _ _ _ _ (@vY _ K rfl) (by walk_at "e") (by walk_at "e")))
theorem S5 {f:Addr}{fd:FuncData}(F:Fun K "_law_mixed" "_law_mixed" FD f fd):FnOk P w K mg base CX0 1 f fd ["_law_cell"] (spD K 1 C7):=by
 refine fnD F KQ fun cdv A outer s H E hr=>?_
 have hu:=hr.units
 have nd:=KQ.nd
 refine⟨_,by walk_at "b1", ?_⟩
 clear nd
 rintro xs M hl ⟨c,rfl,hc⟩
 walk_at "r"
 refine iI (nT hc) ?_
 walk_at "r"
 exact⟨M,zT M,rfl,_,rfl⟩
end
def VF:List Str:=["_law_pack", "_law_size", "_law_digit"]
theorem N0:FnScope VF ["_law_pack", "_law_size"] (AB GJ):=⟨rfl,rfl,rfl,by decide +kernel,rfl,by decide +kernel,by decide +kernel⟩
section
local macro_rules | `(tactic| walk_at "x")=>`(tactic| first | ((with_reducible show PS _ (.Assign [.Tuple ..] ..) _);exact @TM _ _ _ _ _ _ (by walk_at "e") (by walk_at "g") (by rfl) (by rfl) (by rfl)) | ((with_reducible show PG _ (.Tuple ..) _);exact @bJ _ K _ _ _ _ (2) rfl rfl (by walk_at "j") (by rfl) (by rfl)) | ((with_reducible show PG _ (.Subscript ..) _);exact @r6 _ _ _ _ _ _ _ (by walk_at "e") (by walk_at "e") (@gA _) (by intro _;rfl)))
theorem VG {f:Addr}{fd:FuncData}(F:Fun K "_law_take" "_law_take" GJ f fd) (n_divmod:mg "divmod"=none):FnOk P w K mg base CX0 1 f fd ["_law_pack", "_law_size"] (spD K 2 BC):=by
 refine fnD F N0 fun cdv A outer s H E hr=>?_
 have hu:=hr.units
 have nd:=N0.nd
 refine⟨_,by walk_at "b2", ?_⟩
 clear nd
 rintro xs M hl ⟨p,size,o,rfl,m,⟨v,rfl⟩,h0,h1⟩
 walk_at "dl"
 refine HS ?_
 walk_at "r"
 refine dD h0 h1 ?_
 walk_at "r"
 refine⟨_,zT _,fun p' size' e=>?_⟩
 cases e
 exact⟨_,_,rfl,Int.emod_nonneg _ (by omega),Int.emod_lt_of_pos _ h0,⟨_,rfl⟩,rfl⟩
end
def N1:List Str:=["_law_pack", "_law_some", "_law_spare", "_law_kind", "_law_place", "_law_number", "_law_one", "_law_others"]
def JN:List Str:=["_law_name", "_law_one"]
def JO:List (Option Nat):=[none,some 6]
theorem RJ:JN.Nodup:=by decide +kernel
theorem N2:FnScope N1 ["_law_pack", "_law_some", "_law_spare"] (AB EU):=⟨rfl,rfl,rfl,by decide +kernel,rfl,by decide +kernel,by decide +kernel⟩
section
local macro_rules | `(tactic| walk_at "cs")=>`(tactic| first | exact @DW _ _ JN JO (AB EU) N1 (by decide +kernel) (by decide +kernel) rfl rfl)
local macro_rules | `(tactic| walk_at "x")=>`(tactic| first | ((with_reducible show PT _ (.Compare _ [.In] ..) _);exact @BY _ _ _ _ _ _ _ _ (@kIn _ K rfl) (by walk_at "e") (by walk_at "e") (by with_unfolding_all rfl)))
theorem VH {f:Addr}{fd:FuncData}(F:Fun K "_law_deed" "_law_deed" EU f fd) (n_int:mg "int"=none) (n_len:mg "len"=none) (h__law_take:Has P w K mg base "_law_take" 1 ["_law_pack", "_law_size"] BC):FnOk P w K mg base CX0 2 f fd ["_law_pack", "_law_some", "_law_spare"] (spD K 3 EO):=by
 refine fnD F N2 fun cdv A outer s H E hr=>?_
 have hu:=hr.units
 have nd:=N2.nd
 have n0:=RJ
 refine⟨_,by walk_at "b2", ?_⟩
 clear nd n0
 rintro xs M hl ⟨p,o,so,sp,rfl,m,ho,hno,hne0⟩
 have nd2:∀{z:Str},z∈so->z∉sp:=fun {z} h1 h2=>(List.nodup_append.mp hno.2.1).2.2 z h1 z h2 rfl
 walk_at "r"
 refine CV ?_
 walk_at "r"
 refine AZ m ho (by decide) (by decide) fun v1 o1 a0 a1 ho1=>?_
 obtain⟨kd,ekd,hkd⟩:=P6 (ys:=HW) a0 a1
 refine D9 (d:=.str kd) ekd ?_
 walk_at "r"
 refine AZ zU ho1 (by decide) (by decide) fun pl o2 p0 p1 ho2=>?_
 rw[yI]
 walk_at "r"
 refine AZ zU ho2 (by decide) (by decide) fun v3 o3 c0 c1 ho3=>?_
 rw[yI]
 walk_at "wks"
 refine L8 (fun ρ1 M1=>∃(kd:Str),kd∈HW/\(kd=a0Q "put" ∨ kd=a0Q "name" ∨ kd=a0Q "split" -> sp≠[])/\(kd≠a0Q "put" -> so≠[])/\M1=M.put p o3/\ρ1=[some (.loc p),some (.d (AR so)),some (.d (AR sp)),some (.d (.str kd)),some (.d (.int pl)),some (.d (.int (v3 - 20))),none,none]) ?_ ?_
 · have hs1:zH (AR so)=true:=DN fun z hz=>hno.1 z (by simp[hz])
   have hs2:zH (AR sp)=true:=DN fun z hz=>hno.1 z (by simp[hz])
   have fin:∀b:Bool,sp.isEmpty=b->∃k2:Str,atI [a0W (a0Q "put"),.str (a0Q "move")] (if b then 1 else 0)=some (.str k2)/\k2∈HW/\((b=false/\k2=a0Q "put")∨(b=true/\k2=a0Q "move")):=fun b _=>by
     cases b with
     | true=>exact⟨"move", rfl,by simp[HW],.inr ⟨rfl,rfl⟩⟩
     | false=>exact⟨"put", rfl,by simp[HW],.inl ⟨rfl,rfl⟩⟩
   walk_at "wkd"
   refine B4 hs1 rfl ?_
   rw[if_neg nft,CF]
   cases hso:so.isEmpty with
   | true=>
     have so0:so=[]:=List.isEmpty_iff.mp hso
     have sp0:sp≠[]:=hne0.resolve_left fun q=>q so0
     have spe:sp.isEmpty=false:=by cases sp with | nil=>exact absurd rfl sp0 | cons _ _=>rfl
     walk_at "r"
     refine CV ?_
     walk_at "wkd"
     refine B4 hs2 rfl ?_
     rw[if_neg nft,CF,spe]
     walk_at "r"
     refine D9 (d:=.str (a0Q "put")) rfl ?_
     exact⟨"put", by simp[HW],fun _=>sp0,fun q=>absurd rfl q,rfl,rfl⟩
   | false=>
     have so1:so≠[]:=fun q=>by rw[q] at hso;cases hso
     walk_at "wkd"
     refine B4 hs2 rfl ?_
     rw[if_neg nft,CF]
     cases hsp:sp.isEmpty with
     | false=>
       have sp1:sp≠[]:=fun q=>by rw[q] at hsp;cases hsp
       walk_at "r"
       exact⟨kd,hkd,fun _=>sp1,fun _=>so1,rfl,rfl⟩
     | true=>
       walk_at "r"
       refine CV ?_
       walk_at "r"
       refine HQ (ys:=["put", "name", "split"]) ?_
       cases hin:decide (kd∈[a0Q "put", "name", "split"]) with
       | false=>
         walk_at "r"
         refine⟨kd,hkd,fun q=>?_,fun _=>so1,rfl,rfl⟩
         have:=of_decide_eq_false hin
         simp only[yX,xX,or_false] at this
         exact absurd q this
       | true=>
         walk_at "r"
         refine CV ?_
         walk_at "wkd"
         refine B4 hs2 rfl ?_
         rw[if_neg nft,CF,hsp]
         walk_at "r"
         refine D9 (d:=.str (a0Q "move")) rfl ?_
         exact⟨"move", by simp[HW],fun q=>by rcases q with q | q | q <;> exact absurd q (by decide +kernel),fun _=>so1,rfl,rfl⟩
 · rintro ρ1 M1 ⟨kd,hkd,k1,k2,rfl,rfl⟩
   generalize v3 - 20=nu
   walk_at "r"
   refine B4 (HA hkd) (by decide +kernel) ?_
   rw[if_neg nft,CJ]
   cases e1:(kd==a0Q "put") with
   | true=>
     have ek:kd=a0Q "put" := eq_of_beq e1
     walk_at "r"
     obtain⟨s0,sr,rfl⟩:∃s0 sr,sp=s0::sr:=by
       cases sp with
       | nil=>exact absurd rfl (k1 (.inl ek))
       | cons a r=>exact⟨a,r,rfl⟩
     refine D9 (ds:=(s0::sr).map .str) (AE (j:=0) rfl) ?_
     walk_at "r"
     refine⟨_,zT _,fun p' so' sp' e=>?_⟩
     obtain⟨rfl,rfl,rfl⟩:=G9 e
     exact⟨.put s0 pl nu,_,rfl,⟨fun z hz=>by simp[Deed.names] at hz;subst hz;exact hno.1 _ (by simp),trivial,⟨p0,by omega⟩⟩,EN fun n hn=>by simp[Deed.names] at hn;subst hn;simp[Deed.made];exact fun q=>nd2 q (by simp),fun n e=>by simp[Deed.made] at e;subst e;rfl,ho3,rfl⟩
   | false=>
     have kne:kd≠a0Q "put" := fun q=>by rw[q] at e1;simp at e1
     have hso:=k2 kne
     have hsl:0 < so.length:=List.length_pos_iff.mpr hso
     have hs26:so.length<=26:=by have:=hno.2.2;rw[yY] at this;omega
     walk_at "r"
     refine U7 ?_
     rw[zX]
     walk_at "r"
     refine AZ zU ho3 (by omega) (by omega) fun v4 o4 d0 d1 ho4=>?_
     rw[yI]
     obtain⟨y1,ey1,my1⟩:=P6 (ys:=so) d0 d1
     have hy1:AO y1:=hno.1 y1 (by simp[my1])
     refine D9 ey1 ?_
     walk_at "r"
     refine AF (AQ 0) (by simp[JO]) ?_
     refine AW ?_
     walk_at "r"
     refine⟨by rw[zX];exact zQ hs26 (by decide),fun d=>!a0X d (.str y1),id,?_,?_⟩
     · intro d hd M'
       obtain⟨z,hz,rfl⟩:=zL.mp hd
       walk_at "r"
       refine⟨rfl,?_⟩
       walk_at "r"
       refine B4 (AM (hno.1 z (by simp[hz]))) (AM hy1) ?_
       rw[if_pos rfl]
       walk_at "r"
       refine⟨rfl,rfl,fun _=>?_⟩
       walk_at "r"
       exact⟨rfl,rfl⟩
     rw[EA]
     walk_at "r"
     refine B4 (HA hkd) (by decide +kernel) ?_
     rw[if_neg nft,CJ]
     cases e2:(kd==a0Q "move") with
     | true=>
       have ek:kd=a0Q "move" := eq_of_beq e2
       walk_at "r"
       refine⟨_,zT _,fun p' so' sp' e=>?_⟩
       obtain⟨rfl,rfl,rfl⟩:=G9 e
       exact⟨.move y1 pl,_,rfl,⟨fun z hz=>by simp[Deed.names] at hz;subst hz;exact hy1,trivial,⟨p0,by omega⟩⟩,EN fun n hn=>by simp[Deed.names] at hn;subst hn;simp[Deed.made,my1],fun n e=>by simp[Deed.made] at e,ho4,rfl⟩
     | false=>
       walk_at "r"
       refine B4 (HA hkd) (by decide +kernel) ?_
       rw[if_neg nft,CJ]
       cases e3:(kd==a0Q "take") with
       | true=>
         have ek:kd=a0Q "take" := eq_of_beq e3
         walk_at "r"
         refine⟨_,zT _,fun p' so' sp' e=>?_⟩
         obtain⟨rfl,rfl,rfl⟩:=G9 e
         exact⟨.take y1,_,rfl,⟨fun z hz=>by simp[Deed.names] at hz;subst hz;exact hy1,trivial,trivial⟩,EN fun n hn=>by simp[Deed.names] at hn;subst hn;simp[Deed.made,my1],fun n e=>by simp[Deed.made] at e,ho4,rfl⟩
       | false=>
         walk_at "r"
         refine B4 (HA hkd) (by decide +kernel) ?_
         rw[if_neg nft,CJ]
         cases e4:(kd==a0Q "name") with
         | true=>
           have ek:kd=a0Q "name" := eq_of_beq e4
           walk_at "r"
           obtain⟨s0,sr,rfl⟩:∃s0 sr,sp=s0::sr:=by
             cases sp with
             | nil=>exact absurd rfl (k1 (.inr (.inl ek)))
             | cons a r=>exact⟨a,r,rfl⟩
           have hne:y1≠s0:=fun q=>nd2 my1 (by rw[q];simp)
           have hs0:AO s0:=hno.1 s0 (by simp)
           refine D9 (ds:=(s0::sr).map .str) (AE (j:=0) rfl) ?_
           walk_at "r"
           refine⟨_,zT _,fun p' so' sp' e=>?_⟩
           obtain⟨rfl,rfl,rfl⟩:=G9 e
           exact⟨.name y1 s0,_,rfl,⟨fun z hz=>by simp[Deed.names] at hz;rcases hz with rfl | rfl;exact hy1;exact hs0,hne,trivial⟩,EN fun n hn=>by simp[Deed.names] at hn;rcases hn with rfl | rfl;(simp[Deed.made,my1];exact fun q=>hne q.symm);(simp[Deed.made];exact fun q=>nd2 q (by simp)),fun n e=>by simp[Deed.made] at e;subst e;rfl,ho4,rfl⟩
         | false=>
           walk_at "r"
           refine B4 (HA hkd) (by decide +kernel) ?_
           rw[if_neg nft,CJ]
           cases e5:(kd==a0Q "split") with
           | true=>
             have ek:kd=a0Q "split" := eq_of_beq e5
             walk_at "r"
             obtain⟨s0,sr,rfl⟩:∃s0 sr,sp=s0::sr:=by
               cases sp with
               | nil=>exact absurd rfl (k1 (.inr (.inr ek)))
               | cons a r=>exact⟨a,r,rfl⟩
             have hne:y1≠s0:=fun q=>nd2 my1 (by rw[q];simp)
             have hs0:AO s0:=hno.1 s0 (by simp)
             refine D9 (ds:=(s0::sr).map .str) (AE (j:=0) rfl) ?_
             walk_at "r"
             refine⟨_,zT _,fun p' so' sp' e=>?_⟩
             obtain⟨rfl,rfl,rfl⟩:=G9 e
             exact⟨.split y1 s0 pl nu,_,rfl,⟨fun z hz=>by simp[Deed.names] at hz;rcases hz with rfl | rfl;exact hy1;exact hs0,hne,⟨p0,by omega⟩⟩,EN fun n hn=>by simp[Deed.names] at hn;rcases hn with rfl | rfl;(simp[Deed.made,my1];exact fun q=>hne q.symm);(simp[Deed.made];exact fun q=>nd2 q (by simp)),fun n e=>by simp[Deed.made] at e;subst e;rfl,ho4,rfl⟩
           | false=>
             walk_at "r"
             refine B4 (HA hkd) (by decide +kernel) ?_
             rw[if_neg nft,CJ]
             cases e6:(kd==a0Q "join") with
             | false=>
               walk_at "r"
               refine⟨_,zT _,fun p' so' sp' e=>?_⟩
               obtain⟨rfl,rfl,rfl⟩:=G9 e
               exact⟨.count y1 nu,_,rfl,⟨fun z hz=>by simp[Deed.names] at hz;subst hz;exact hy1,trivial,trivial⟩,EN fun n hn=>by simp[Deed.names] at hn;subst hn;simp[Deed.made,my1],fun n e=>by simp[Deed.made] at e,ho4,rfl⟩
             | true=>
               walk_at "wkd"
               have hfn:∀z∈so.filter (fun z=>decide (z≠y1)),AO z:=fun z hz=>hno.1 z (by simp[(yL.mp hz).1])
               refine B4 (DN hfn) rfl ?_
               rw[if_pos rfl,show a0X (.list ((so.filter fun z=>decide (z≠y1)).map .str)) (.list [])=(so.filter fun z=>decide (z≠y1)).isEmpty from CF _]
               cases ho:(so.filter fun z=>decide (z≠y1)).isEmpty with
               | true=>
                 walk_at "r"
                 refine⟨_,zT _,fun p' so' sp' e=>?_⟩
                 obtain⟨rfl,rfl,rfl⟩:=G9 e
                 exact⟨.count y1 nu,_,rfl,⟨fun z hz=>by simp[Deed.names] at hz;subst hz;exact hy1,trivial,trivial⟩,EN fun n hn=>by simp[Deed.names] at hn;subst hn;simp[Deed.made,my1],fun n e=>by simp[Deed.made] at e,ho4,rfl⟩
               | false=>
                 have hol:0 < (so.filter fun z=>decide (z≠y1)).length:=by
                   rw[List.length_pos_iff];intro q;rw[q] at ho;cases ho
                 have hol2:(so.filter fun z=>decide (z≠y1)).length<=26:=zN (yJ _ _) hs26
                 walk_at "r"
                 refine U7 ?_
                 rw[zX]
                 walk_at "r"
                 refine AZ zU ho4 (by omega) (by omega) fun v5 o5 f0 f1 ho5=>?_
                 rw[yI]
                 obtain⟨y2,ey2,my2⟩:=P6 (ys:=so.filter fun z=>decide (z≠y1)) f0 f1
                 have hy2:=hfn y2 my2
                 have hne:y1≠y2:=fun e=>by have:=(yL.mp my2).2;simp at this;exact this e.symm
                 refine D9 ey2 ?_
                 walk_at "r"
                 refine⟨_,zT _,fun p' so' sp' e=>?_⟩
                 obtain⟨rfl,rfl,rfl⟩:=G9 e
                 exact⟨.join y1 y2,_,rfl,⟨fun z hz=>by simp[Deed.names] at hz;rcases hz with rfl | rfl;exact hy1;exact hy2,hne,trivial⟩,EN fun n hn=>by simp[Deed.names] at hn;rcases hn with rfl | rfl;(simp[Deed.made,my1]);(simp[Deed.made,(yL.mp my2).1]),fun n e=>by simp[Deed.made] at e,ho5,rfl⟩
end
def GU:List Str:=["_law_deed_here", "_law_some", "_law_spare", "_law_stay", "_law_lost"]
def IV:List Str:=["_law_name", "_law_deed_here"]
def F3:List (Option Nat):=[none,some 0]
theorem OU:IV.Nodup:=by decide +kernel
def IW:List Str:=["_law_name", "_law_lost"]
def C8:List (Option Nat):=[none,some 4]
theorem OV:IW.Nodup:=by decide +kernel
theorem KR:FnScope GU ["_law_deed_here", "_law_some", "_law_spare"] (AB CP):=⟨rfl,rfl,rfl,by decide +kernel,rfl,by decide +kernel,by decide +kernel⟩
section
local macro_rules | `(tactic| walk_at "cs")=>`(tactic| first | exact @DW _ _ IV F3 (AB CP) GU (by decide +kernel) (by decide +kernel) rfl rfl | exact @DW _ _ IW C8 (AB CP) GU (by decide +kernel) (by decide +kernel) rfl rfl)
local macro_rules | `(tactic| walk_at "x")=>`(tactic| first | ((with_reducible show PT _ (.Compare _ [.In] ..) _);exact @BY _ _ _ _ _ _ _ _ (@kIn _ K rfl) (by walk_at "e") (by walk_at "e") (by with_unfolding_all rfl)) | ((with_reducible show PE _ (.Call (.Attribute _ (a0Q "get") _) ..) _);exact @LQ _ _ _ _ _ _ _ _ _ hu1 (by walk_at "e") (by walk_at "e") (by walk_at "e") (@L2.M2.mk _ _ _ _ _ _ _ rfl rfl rfl rfl)) | ((with_reducible show PE _ (.Dict ..) _);exact @P3 _ _ _ _ _ (@CS _ _ _ _ _ _ _ _ _ (by walk_at "e") (by walk_at "e") (@CS _ _ _ _ _ _ _ _ _ (by walk_at "e") (by walk_at "e") (@P2 _ _))) rfl rfl (by simp) (by decide)))
theorem S6 {f:Addr}{fd:FuncData}(F:Fun K "_law_after" "_law_after" CP f fd):FnOk P w K mg base CX0 1 f fd ["_law_deed_here", "_law_some", "_law_spare"] (spD K 3 DJ):=by
 refine fnD F KR fun cdv A outer s H E hr=>?_
 have hu:=hr.units
 have hu1:=zQ (a4V (show 1<=64 by decide) _) hu
 have nd:=KR.nd
 have n0:=OU
 have n1:=OV
 refine⟨_,by walk_at "b2", ?_⟩
 clear nd n0 n1
 rintro xs M hl ⟨D,so,sp,rfl,hr,hno,ha⟩
 have hs26:so.length<=26:=by have:=hno.2.2;rw[yY] at this;omega
 walk_at "r"
 cases D with
 | put x pl k=>
   have hx:AO x:=hr.1 x (by simp[Deed.names])
   rw[show Deed.d (Deed.put x pl k) = .tuple [.str (a0Q "put"),.str x,.int pl,.int k] from rfl]
   refine AA (d:=.str (a0Q "put")) (AE (j:=0) rfl) ?_
   walk_at "r"
   refine IB (t:=true) (by decide +kernel) ?_
   walk_at "r"
   refine CV ?_
   walk_at "r"
   refine AA (d:=.str x) (AE (j:=1) rfl) ?_
   walk_at "r"
   refine CT (by rw[zX];exact zN (b5W hs26 1) (by decide)) ?_
   walk_at "r"
   refine CA ?_
   rw[show E9 (sp.map a0W) (some 1) none=(sp.drop 1).map .str from(DD _ 1).trans (by rw[a9J])]
   walk_at "r"
   refine⟨M,zT M,fun D' so' sp' e=>?_⟩
   obtain⟨rfl,rfl,rfl⟩:=HX (D:=Deed.put x pl k) e
   exact⟨by rw[show(.str x:PyData)=a0W x from rfl];simp[AR,CW,CC,Deed.made],rfl⟩
 | take x=>
   have hx:AO x:=hr.1 x (by simp[Deed.names])
   rw[show Deed.d (Deed.take x) = .tuple [.str (a0Q "take"),.str x] from rfl]
   refine AA (d:=.str (a0Q "take")) (AE (j:=0) rfl) ?_
   walk_at "r"
   refine IB (t:=false) (by decide +kernel) ?_
   walk_at "r"
   refine AA (d:=.str (a0Q "take")) (AE (j:=0) rfl) ?_
   walk_at "r"
   refine CV ?_
   walk_at "r"
   refine HQ (ys:=["name", "split"]) ?_
   rw[show decide (a0Q "take" ∈ [a0Q "name", "split"])=false from by decide +kernel]
   walk_at "r"
   refine FV ?_
   refine FU fun q hq=>?_
   refine BA ?_
   walk_at "r"
   refine AA (d:=.str x) (AE (j:=1) rfl) ?_
   walk_at "r"
   refine BA ?_
   walk_at "r"
   refine AA (d:=.str x) rfl ?_
   walk_at "r"
   refine HV ?_
   refine⟨zU,yD rfl,by simp only[zI,a3W];decide +kernel,?_⟩
   rw[yG hq]
   walk_at "r"
   refine AA (d:=.str (a0Q "take")) (AE (j:=0) rfl) ?_
   walk_at "r"
   rw[show(IK (a0Q "take") (List.map (fun k=>(a0W k.1,k.2)) [(a0Q "take", .str x),(a0Q "join", .str x)])).getD (.str (a0Q "")) = .str x from rfl]
   refine AF (AQ 0) (by simp[C8]) ?_
   refine AW ?_
   walk_at "r"
   refine⟨by rw[zX];exact zQ hs26 (by decide),fun d=>!a0X d (.str x),id,?_,?_⟩
   · intro d hd M'
     obtain⟨z,hz,rfl⟩:=zL.mp hd
     have hzn:AO z:=hno.1 z (by simp[hz])
     walk_at "r"
     refine⟨rfl,?_⟩
     walk_at "r"
     refine B4 (AM hzn) (AM hx) ?_
     rw[if_pos rfl]
     walk_at "r"
     refine⟨rfl,rfl,fun _=>?_⟩
     walk_at "r"
     exact⟨rfl,rfl⟩
   rw[EA]
   walk_at "r"
   refine⟨M,zT M,fun D' so' sp' e=>?_⟩
   obtain⟨rfl,rfl,rfl⟩:=HX (D:=Deed.take x) e
   exact⟨rfl,rfl⟩
 | move x pl=>
   have hx:AO x:=hr.1 x (by simp[Deed.names])
   rw[show Deed.d (Deed.move x pl) = .tuple [.str (a0Q "move"),.str x,.int pl] from rfl]
   refine AA (d:=.str (a0Q "move")) (AE (j:=0) rfl) ?_
   walk_at "r"
   refine IB (t:=false) (by decide +kernel) ?_
   walk_at "r"
   refine AA (d:=.str (a0Q "move")) (AE (j:=0) rfl) ?_
   walk_at "r"
   refine CV ?_
   walk_at "r"
   refine HQ (ys:=["name", "split"]) ?_
   rw[show decide (a0Q "move" ∈ [a0Q "name", "split"])=false from by decide +kernel]
   walk_at "r"
   refine FV ?_
   refine FU fun q hq=>?_
   refine BA ?_
   walk_at "r"
   refine AA (d:=.str x) (AE (j:=1) rfl) ?_
   walk_at "r"
   refine BA ?_
   walk_at "r"
   refine AA (d:=.int pl) rfl ?_
   walk_at "r"
   refine HV ?_
   refine⟨zU,yD rfl,by simp only[zI,a3W];decide +kernel,?_⟩
   rw[yG hq]
   walk_at "r"
   refine AA (d:=.str (a0Q "move")) (AE (j:=0) rfl) ?_
   walk_at "r"
   rw[show(IK (a0Q "move") (List.map (fun k=>(a0W k.1,k.2)) [(a0Q "take", .str x),(a0Q "join", .int pl)])).getD (.str (a0Q "")) = .str (a0Q "") from rfl]
   refine AF (AQ 0) (by simp[C8]) ?_
   refine AW ?_
   walk_at "r"
   refine⟨by rw[zX];exact zQ hs26 (by decide),fun d=>!a0X d (.str (a0Q "")),id,?_,?_⟩
   · intro d hd M'
     obtain⟨z,hz,rfl⟩:=zL.mp hd
     have hzn:AO z:=hno.1 z (by simp[hz])
     walk_at "r"
     refine⟨rfl,?_⟩
     walk_at "r"
     refine B4 (AM hzn) (by decide +kernel) ?_
     rw[if_pos rfl]
     walk_at "r"
     refine⟨rfl,rfl,fun _=>?_⟩
     walk_at "r"
     exact⟨rfl,rfl⟩
   rw[EA]
   walk_at "r"
   refine⟨M,zT M,fun D' so' sp' e=>?_⟩
   obtain⟨rfl,rfl,rfl⟩:=HX (D:=Deed.move x pl) e
   exact⟨by rw[bN fun z hz=>hno.1 z (by simp[hz])];rfl,rfl⟩
 | count x k=>
   have hx:AO x:=hr.1 x (by simp[Deed.names])
   rw[show Deed.d (Deed.count x k) = .tuple [.str (a0Q "count"),.str x,.int k] from rfl]
   refine AA (d:=.str (a0Q "count")) (AE (j:=0) rfl) ?_
   walk_at "r"
   refine IB (t:=false) (by decide +kernel) ?_
   walk_at "r"
   refine AA (d:=.str (a0Q "count")) (AE (j:=0) rfl) ?_
   walk_at "r"
   refine CV ?_
   walk_at "r"
   refine HQ (ys:=["name", "split"]) ?_
   rw[show decide (a0Q "count" ∈ [a0Q "name", "split"])=false from by decide +kernel]
   walk_at "r"
   refine FV ?_
   refine FU fun q hq=>?_
   refine BA ?_
   walk_at "r"
   refine AA (d:=.str x) (AE (j:=1) rfl) ?_
   walk_at "r"
   refine BA ?_
   walk_at "r"
   refine AA (d:=.int k) rfl ?_
   walk_at "r"
   refine HV ?_
   refine⟨zU,yD rfl,by simp only[zI,a3W];decide +kernel,?_⟩
   rw[yG hq]
   walk_at "r"
   refine AA (d:=.str (a0Q "count")) (AE (j:=0) rfl) ?_
   walk_at "r"
   rw[show(IK (a0Q "count") (List.map (fun k=>(a0W k.1,k.2)) [(a0Q "take", .str x),(a0Q "join", .int k)])).getD (.str (a0Q "")) = .str (a0Q "") from rfl]
   refine AF (AQ 0) (by simp[C8]) ?_
   refine AW ?_
   walk_at "r"
   refine⟨by rw[zX];exact zQ hs26 (by decide),fun d=>!a0X d (.str (a0Q "")),id,?_,?_⟩
   · intro d hd M'
     obtain⟨z,hz,rfl⟩:=zL.mp hd
     have hzn:AO z:=hno.1 z (by simp[hz])
     walk_at "r"
     refine⟨rfl,?_⟩
     walk_at "r"
     refine B4 (AM hzn) (by decide +kernel) ?_
     rw[if_pos rfl]
     walk_at "r"
     refine⟨rfl,rfl,fun _=>?_⟩
     walk_at "r"
     exact⟨rfl,rfl⟩
   rw[EA]
   walk_at "r"
   refine⟨M,zT M,fun D' so' sp' e=>?_⟩
   obtain⟨rfl,rfl,rfl⟩:=HX (D:=Deed.count x k) e
   exact⟨by rw[bN fun z hz=>hno.1 z (by simp[hz])];rfl,rfl⟩
 | name x y=>
   have hx:AO x:=hr.1 x (by simp[Deed.names])
   have hy:AO y:=hr.1 y (by simp[Deed.names])
   rw[show Deed.d (Deed.name x y) = .tuple [.str (a0Q "name"),.str x,.str y] from rfl]
   refine AA (d:=.str (a0Q "name")) (AE (j:=0) rfl) ?_
   walk_at "r"
   refine IB (t:=false) (by decide +kernel) ?_
   walk_at "r"
   refine AA (d:=.str (a0Q "name")) (AE (j:=0) rfl) ?_
   walk_at "r"
   refine CV ?_
   walk_at "r"
   refine HQ (ys:=["name", "split"]) ?_
   rw[show decide (a0Q "name" ∈ [a0Q "name", "split"])=true from by decide +kernel]
   walk_at "r"
   refine AF (AQ 0) (by simp[F3]) ?_
   refine AW ?_
   walk_at "r"
   refine⟨by rw[zX];exact zQ hs26 (by decide),fun d=>!a0X d (.str x),id,?_,?_⟩
   · intro d hd M'
     obtain⟨z,hz,rfl⟩:=zL.mp hd
     have hzn:AO z:=hno.1 z (by simp[hz])
     walk_at "r"
     refine⟨rfl,?_⟩
     walk_at "r"
     refine AA (d:=.str x) (AE (j:=1) rfl) ?_
     refine B4 (AM hzn) (AM hx) ?_
     rw[if_pos rfl]
     cases hq:a0X (.str z) (.str x) with
     | false=>
       walk_at "r"
       refine⟨rfl,by show _ = !a0X (.str z) (.str x);rw[hq];rfl,fun _=>?_⟩
       walk_at "r"
       exact⟨rfl,rfl⟩
     | true=>
       walk_at "r"
       refine AA (d:=.str (a0Q "name")) (AE (j:=0) rfl) ?_
       walk_at "r"
       refine IB (t:=false) (by decide +kernel) ?_
       walk_at "r"
       refine⟨rfl,by show _ = !a0X (.str z) (.str x);rw[hq];rfl,fun h=>?_⟩
       have h:(!a0X (.str z) (.str x))=true:=h
       rw[hq] at h;cases h
   rw[EA]
   walk_at "wkd"
   refine AA (d:=.str y) (AE (j:=2) rfl) ?_
   walk_at "r"
   refine CT (by rw[zX];exact zN (b5W (zN (yJ _ _) hs26) 1) (by decide)) ?_
   walk_at "r"
   refine CA ?_
   rw[show E9 (sp.map a0W) (some 1) none=(sp.drop 1).map .str from(DD _ 1).trans (by rw[a9J])]
   walk_at "r"
   refine⟨M,zT M,fun D' so' sp' e=>?_⟩
   obtain⟨rfl,rfl,rfl⟩:=HX (D:=Deed.name x y) e
   exact⟨by simp[AR,CW,CC,Deed.made],rfl⟩
 | split x y pl k=>
   have hx:AO x:=hr.1 x (by simp[Deed.names])
   have hy:AO y:=hr.1 y (by simp[Deed.names])
   rw[show Deed.d (Deed.split x y pl k) = .tuple [.str (a0Q "split"),.str x,.str y,.int pl,.int k] from rfl]
   refine AA (d:=.str (a0Q "split")) (AE (j:=0) rfl) ?_
   walk_at "r"
   refine IB (t:=false) (by decide +kernel) ?_
   walk_at "r"
   refine AA (d:=.str (a0Q "split")) (AE (j:=0) rfl) ?_
   walk_at "r"
   refine CV ?_
   walk_at "r"
   refine HQ (ys:=["name", "split"]) ?_
   rw[show decide (a0Q "split" ∈ [a0Q "name", "split"])=true from by decide +kernel]
   walk_at "r"
   refine AF (AQ 0) (by simp[F3]) ?_
   refine AW ?_
   walk_at "r"
   refine⟨by rw[zX];exact zQ hs26 (by decide),fun _=>true,id,?_,?_⟩
   · intro d hd M'
     obtain⟨z,hz,rfl⟩:=zL.mp hd
     have hzn:AO z:=hno.1 z (by simp[hz])
     walk_at "r"
     refine⟨rfl,?_⟩
     walk_at "r"
     refine AA (d:=.str x) (AE (j:=1) rfl) ?_
     refine B4 (AM hzn) (AM hx) ?_
     rw[if_pos rfl]
     cases hq:a0X (.str z) (.str x) with
     | false=>
       walk_at "r"
       refine⟨rfl,rfl,fun _=>?_⟩
       walk_at "r"
       exact⟨rfl,rfl⟩
     | true=>
       walk_at "r"
       refine AA (d:=.str (a0Q "split")) (AE (j:=0) rfl) ?_
       walk_at "r"
       refine IB (t:=true) (by decide +kernel) ?_
       walk_at "r"
       refine⟨rfl,rfl,fun _=>?_⟩
       walk_at "r"
       exact⟨rfl,rfl⟩
   rw[LD,a9Z]
   walk_at "wkd"
   refine AA (d:=.str y) (AE (j:=2) rfl) ?_
   walk_at "r"
   refine CT (by rw[zX];exact zN (b5W (hs26) 1) (by decide)) ?_
   walk_at "r"
   refine CA ?_
   rw[show E9 (sp.map a0W) (some 1) none=(sp.drop 1).map .str from(DD _ 1).trans (by rw[a9J])]
   walk_at "r"
   refine⟨M,zT M,fun D' so' sp' e=>?_⟩
   obtain⟨rfl,rfl,rfl⟩:=HX (D:=Deed.split x y pl k) e
   exact⟨by simp[AR,CW,CC,Deed.made],rfl⟩
 | join x y=>
   have hx:AO x:=hr.1 x (by simp[Deed.names])
   have hy:AO y:=hr.1 y (by simp[Deed.names])
   rw[show Deed.d (Deed.join x y) = .tuple [.str (a0Q "join"),.str x,.str y] from rfl]
   refine AA (d:=.str (a0Q "join")) (AE (j:=0) rfl) ?_
   walk_at "r"
   refine IB (t:=false) (by decide +kernel) ?_
   walk_at "r"
   refine AA (d:=.str (a0Q "join")) (AE (j:=0) rfl) ?_
   walk_at "r"
   refine CV ?_
   walk_at "r"
   refine HQ (ys:=["name", "split"]) ?_
   rw[show decide (a0Q "join" ∈ [a0Q "name", "split"])=false from by decide +kernel]
   walk_at "r"
   refine FV ?_
   refine FU fun q hq=>?_
   refine BA ?_
   walk_at "r"
   refine AA (d:=.str x) (AE (j:=1) rfl) ?_
   walk_at "r"
   refine BA ?_
   walk_at "r"
   refine AA (d:=.str y) rfl ?_
   walk_at "r"
   refine HV ?_
   refine⟨zU,yD rfl,by simp only[zI,a3W];decide +kernel,?_⟩
   rw[yG hq]
   walk_at "r"
   refine AA (d:=.str (a0Q "join")) (AE (j:=0) rfl) ?_
   walk_at "r"
   rw[show(IK (a0Q "join") (List.map (fun k=>(a0W k.1,k.2)) [(a0Q "take", .str x),(a0Q "join", .str y)])).getD (.str (a0Q "")) = .str y from rfl]
   refine AF (AQ 0) (by simp[C8]) ?_
   refine AW ?_
   walk_at "r"
   refine⟨by rw[zX];exact zQ hs26 (by decide),fun d=>!a0X d (.str y),id,?_,?_⟩
   · intro d hd M'
     obtain⟨z,hz,rfl⟩:=zL.mp hd
     have hzn:AO z:=hno.1 z (by simp[hz])
     walk_at "r"
     refine⟨rfl,?_⟩
     walk_at "r"
     refine B4 (AM hzn) (AM hy) ?_
     rw[if_pos rfl]
     walk_at "r"
     refine⟨rfl,rfl,fun _=>?_⟩
     walk_at "r"
     exact⟨rfl,rfl⟩
   rw[EA]
   walk_at "r"
   refine⟨M,zT M,fun D' so' sp' e=>?_⟩
   obtain⟨rfl,rfl,rfl⟩:=HX (D:=Deed.join x y) e
   exact⟨rfl,rfl⟩
end
def KS:List Str:=["_law_pack", "_law_names_here", "_law_amount", "_law_some"]
def IX:List Str:=["_law_k", "_law_names_here", "_law_pack"]
def IY:List (Option Nat):=[none,some 1,some 0]
theorem OW:IX.Nodup:=by decide +kernel
theorem KU:FnScope KS ["_law_pack", "_law_names_here", "_law_amount"] (AB E4):=⟨rfl,rfl,rfl,by decide +kernel,rfl,by decide +kernel,by decide +kernel⟩
section
local macro_rules | `(tactic| walk_at "cs")=>`(tactic| first | exact @DW _ _ IX IY (AB E4) KS (by decide +kernel) (by decide +kernel) rfl rfl)
theorem S7 {f:Addr}{fd:FuncData}(F:Fun K "_law_start" "_law_start" E4 f fd) (n_range:mg "range"=none) (n_sorted:mg "sorted"=none) (n_tuple:mg "tuple"=none) (h__law_take:Has P w K mg base "_law_take" 1 ["_law_pack", "_law_size"] BC):FnOk P w K mg base CX0 2 f fd ["_law_pack", "_law_names_here", "_law_amount"] (spD K 3 DK):=by
 refine fnD F KU fun cdv A outer s H E hr=>?_
 have hu:=hr.units
 have nd:=KU.nd
 have n0:=OW
 refine⟨_,by walk_at "b2", ?_⟩
 clear nd n0
 rintro xs M hl ⟨p,o,ys,n,rfl,m,ho,hy,hn⟩
 have h26:n<=26:=zN hn hy.2.2
 walk_at "dl";walk_at "dl"
 refine U5 (AQ 0) (by simp[IY]) ?_
 refine HN ?_
 walk_at "r"
 refine⟨by omega,by omega,?_⟩
 have hnn:(BJ 0 (n:Int).toNat).length=n:=by simp[BJ]
 refine⟨by rw[hnn];exact zQ h26 (by decide),fun A hA=>?_⟩
 have hpA:p≠A:=by rintro rfl;rw[m] at hA;cases hA
 refine⟨fun k acc M'=>∃(w:List Th) (o2:MO),acc=w.map thD/\w.length=k/\w.map (·.1)=ys.take k/\(∀t∈w,0<=t.2.1/\t.2.1<=999)/\E7 o2/\M'=(M.put p o2).put A (.l acc),⟨[],o,rfl,rfl,by simp,by simp,ho,by rw[Own.put_self m]⟩,?_,?_,?_⟩
 · rintro k acc M' ⟨w,o2,rfl,hk,-,-,-,rfl⟩
   exact⟨zU,by simp[hk]⟩
 · rintro k d acc M' hd ⟨w,o2,rfl,hk,hw,hb,ho2,rfl⟩
   have hkn:k < n:=by rw[← hnn];exact(yT.mp hd).1
   have ed:d = .int k:=by
     unfold BJ at hd
     rw[zF,yA (by omega)] at hd
     simp at hd;exact hd.symm
   subst ed
   have hky:k < ys.length:=by omega
   have hg:(ys.map a0W)[k]?=some (.str ys[k]):=by rw[zF,zV hky];rfl
   walk_at "r"
   refine D9 (AE hg) ?_
   walk_at "r"
   refine AZ (by rw[yH hpA];exact zU) ho2 (by decide) (by decide) fun v o3 h0 h1 ho3=>?_
   walk_at "r"
   refine AZ zU ho3 (by decide) (by decide) fun v2 o4 _ _ ho4=>?_
   walk_at "r"
   refine⟨by rw[yI,yH hpA.symm];exact zU,w++[(ys[k],v,v2 - 20)],o4,by simp[thD],by simp[hk],by rw[xI,hw,a5W,zV hky];rfl,?_,ho4,?_⟩
   · intro t ht
     rcases yW.mp ht with h | h
     · exact hb t h
     · have:t=(ys[k],v,v2 - 20):=by simpa using h
       subst this;exact⟨h0,by show v<=999;omega⟩
   · rw[yI];exact iF hpA
 · rintro acc M' ⟨w,o2,rfl,hk,hw,hb,ho2,rfl⟩
   rw[hnn] at hk hw
   rw[yG (by rw[yH hpA.symm];exact hA)]
   walk_at "r"
   have ndw:(w.map (·.1)).Nodup:=by rw[hw];exact hy.2.1.sublist (List.take_sublist _ _)
   rw[← j9]
   refine iV (by rw[zD];exact ndw) (by rw[zX];omega) fun ts' hp hlt=>?_
   obtain⟨u1,u2,u3⟩:=jA hp
   rw[u2]
   walk_at "r"
   refine EI ?_
   refine⟨M.put p o2,zT _,fun p' ys' n' e=>?_⟩
   simp only[List.cons.injEq,DS.loc.injEq,DS.d.injEq,PyData.int.injEq,Int.ofNat_inj,and_true] at e
   obtain⟨rfl,e,rfl⟩:=e
   have e:=FY e
   subst e
   refine⟨ts'.map unB,o2,rfl,⟨by rw[u3];exact ZE hlt,fun t ht=>?_⟩,by rw[← hw];exact u1.map _,ho2,rfl⟩
   have ht:=u1.mem_iff.mp ht
   refine⟨hy.1 _ ?_,hb t ht⟩
   have:t.1∈ys.take n:=by rw[← hw];exact zL.mpr ⟨t,ht,rfl⟩
   exact b5X this
end
def S8:List Str:=["_law_some", "_law_spare", "_law_cells", "_law_lines_here", "_law_cell", "_law_digits", "_law_hand", "_law_deed_here"]
theorem KW:FnScope S8 ["_law_some", "_law_spare", "_law_cells"] (AB FE):=⟨rfl,rfl,rfl,by decide +kernel,rfl,by decide +kernel,by decide +kernel⟩
section
local macro_rules | `(tactic| walk_at "x")=>`(tactic| first | ((with_reducible show PS _ (.Assign [.Tuple ..] ..) _);exact @TM _ _ _ _ _ _ (by walk_at "e") (by walk_at "g") (by rfl) (by rfl) (by rfl)) | ((with_reducible show PG _ (.Tuple ..) _);exact @bJ _ K _ _ _ _ (2) rfl rfl (by walk_at "j") (by rfl) (by rfl)))
theorem S9 {f:Addr}{fd:FuncData}(F:Fun K "_law_lines" "_law_lines" FE f fd) (h__law_after:Has P w K mg base "_law_after" 1 ["_law_deed_here", "_law_some", "_law_spare"] DJ) (h__law_deed:Has P w K mg base "_law_deed" 2 ["_law_pack", "_law_some", "_law_spare"] EO) (h__law_mixed:Has P w K mg base "_law_mixed" 1 ["_law_cell"] C7) (h__law_take:Has P w K mg base "_law_take" 1 ["_law_pack", "_law_size"] BC):FnOk P w K mg base CX0 3 f fd ["_law_some", "_law_spare", "_law_cells"] (spD K 3 HE):=by
 refine fnD F KW fun cdv A outer s H E hr=>?_
 have hu:=hr.units
 have nd:=KW.nd
 refine⟨_,by walk_at "b2", ?_⟩
 clear nd
 rintro xs M hl ⟨so0,sp0,cs,rfl,hno0,hcs,hcl⟩
 walk_at "r"
 refine LR ?_
 walk_at "r"
 intro A hMA
 walk_at "wks"
 refine L8 (fun ρ1 M1=>∃(ls:List Ln) (so sp:List Str) (x1 x2 x3 x4:Option DS),M.Sub M1/\M1 A=some (.l (ls.map AL))/\lnQ so0 sp0 cs ls so sp/\ρ1=[some (.d (AR so)),some (.d (AR sp)),some (.d (.list (cs.map .int))),some (.loc A),x1,x2,x3,x4]) ?_ ?_
 · refine HP ?_
   refine AW ?_
   walk_at "r"
   refine⟨fun k ρ1 M1=>k<=cs.length/\∃(ls:List Ln) (so sp:List Str) (x1 x2 x3 x4:Option DS),M.Sub M1/\M1 A=some (.l (ls.map AL))/\(G0 so0 sp0 (ls.map (·.2))/\O0 so0 sp0 (ls.map (·.2))=(so,sp))/\(∀l∈ls,AO l.1)/\ls.length<=k/\namesOK (so++sp)/\ρ1=[some (.d (AR so)),some (.d (AR sp)),some (.d (.list (cs.map .int))),some (.loc A),x1,x2,x3,x4],⟨xT _,[],so0,sp0,_,_,_,_,(zT M).put hMA,zU,⟨trivial,rfl⟩,by simp,by simp,hno0,rfl⟩,?_,?_⟩
   · rintro k d ρ1 M1 hd ⟨hkc,ls,so,sp,x1,x2,x3,x4,hsub,hMa,hb,hnl,hlk,hno,rfl⟩
     have hkl:k < cs.length:=by have:=(yT.mp hd).1;simpa using this
     obtain⟨c,hc,rfl⟩:=zL.mp (yN hd)
     walk_at "r"
     refine LR ?_
     walk_at "r"
     refine LC (hcs c hc) fun v2=>?_
     walk_at "r"
     intro q hq
     have hqA:q≠A:=by rintro rfl;rw[hMa] at hq;cases hq
     have hMq:M q=none:=by
       cases e:M q with
       | none=>rfl
       | some ob=>rw[hsub q ob e] at hq;cases hq
     walk_at "r"
     refine CV ?_
     walk_at "r"
     refine AZ zU ⟨v2,rfl⟩ (by decide) (by decide) fun v3 o4 b0 b1 ho4=>?_
     rw[yI]
     obtain⟨hd',ehd,mhd⟩:=P6 (ys:=[a0Q "me", "you", "abcdefgh"]) b0 b1
     refine D9 (d:=.str hd') ehd ?_
     have hs1:zH (AR so)=true:=DN fun z hz=>hno.1 z (by simp[hz])
     have hs2:zH (AR sp)=true:=DN fun z hz=>hno.1 z (by simp[hz])
     walk_at "wkd"
     refine B4 hs1 rfl ?_
     rw[if_pos rfl,CF]
     have keep:∀ob:MO,M.Sub (M1.put q ob):=fun ob b o e=>by
       rw[yH (by rintro rfl;rw[hMq] at e;cases e)];exact hsub b o e
     cases hso:so.isEmpty with
     | false=>
       have hne:so≠[]∨sp≠[]:=.inl fun q=>by rw[q] at hso;cases hso
       walk_at "r"
       · refine QE zU ho4 hno hne fun D o5 hr ha hm ho5=>?_
         rw[yI]
         walk_at "r"
         refine HS ?_
         walk_at "r"
         refine QF hr hno ha ?_
         walk_at "r"
         refine ST ?_
         walk_at "dl"
         refine⟨P4 (ds:=ls.map AL) (by rw[yH hqA.symm];exact hMa),?_⟩
         walk_at "r"
         refine JT (ds:=ls.map AL) (by rw[yH hqA.symm];exact hMa) (by rw[zX];exact zQ (show _<=50 by omega) (by decide)) ?_
         refine⟨by omega,ls++[(hd',D)],CW so D,CC sp D,_,_,_,_,?_,?_,?_,?_,?_,hno.sub (H0 hm),rfl⟩
         · intro b o e
           rw[yH (by rintro rfl;rw[hMA] at e;cases e)]
           exact keep _ b o e
         · rw[xI];exact zU
         · rw[xI];exact LE hb.1 hb.2 ha hm hr
         · intro l hl'
           rcases yW.mp hl' with q1 | q1
           · exact hnl l q1
           · have:l=(hd',D):=by simpa using q1
             subst this;exact WT _ mhd
         · rw[yY];simp;omega
     | true=>
       walk_at "wkd"
       refine B4 hs2 rfl ?_
       rw[if_pos rfl,CF]
       cases hsp:sp.isEmpty with
       | false=>
         have hne:so≠[]∨sp≠[]:=.inr fun q=>by rw[q] at hsp;cases hsp
         walk_at "r"
         · refine QE zU ho4 hno hne fun D o5 hr ha hm ho5=>?_
           rw[yI]
           walk_at "r"
           refine HS ?_
           walk_at "r"
           refine QF hr hno ha ?_
           walk_at "r"
           refine ST ?_
           walk_at "dl"
           refine⟨P4 (ds:=ls.map AL) (by rw[yH hqA.symm];exact hMa),?_⟩
           walk_at "r"
           refine JT (ds:=ls.map AL) (by rw[yH hqA.symm];exact hMa) (by rw[zX];exact zQ (show _<=50 by omega) (by decide)) ?_
           refine⟨by omega,ls++[(hd',D)],CW so D,CC sp D,_,_,_,_,?_,?_,?_,?_,?_,hno.sub (H0 hm),rfl⟩
           · intro b o e
             rw[yH (by rintro rfl;rw[hMA] at e;cases e)]
             exact keep _ b o e
           · rw[xI];exact zU
           · rw[xI];exact LE hb.1 hb.2 ha hm hr
           · intro l hl'
             rcases yW.mp hl' with q1 | q1
             · exact hnl l q1
             · have:l=(hd',D):=by simpa using q1
               subst this;exact WT _ mhd
           · rw[yY];simp;omega
       | true=>
         walk_at "r"
         exact⟨by omega,ls,so,sp,_,_,_,_,keep _,by rw[yH hqA.symm];exact hMa,hb,hnl,by omega,hno,rfl⟩
   · rintro ρ1 M1 ⟨hkc,ls,so,sp,x1,x2,x3,x4,hsub,hMa,hb,hnl,hlk,hno,rfl⟩
     rw[zX] at hlk
     exact⟨ls,so,sp,x1,x2,x3,x4,hsub,hMa,⟨hb.1,hb.2,hnl,hlk,hno⟩,rfl⟩
 · rintro ρ1 M1 ⟨ls,so,sp,x1,x2,x3,x4,hsub,hMa,hq,rfl⟩
   refine SU (i:=3) (a:=A) rfl hMa ?_
   walk_at "r"
   refine⟨M,fun b o e=>?_,fun so' sp' cs' e=>?_⟩
   · have hne:b≠A:=by rintro rfl;rw[hMA] at e;cases e
     unfold Own.del
     rw[if_neg hne]
     exact hsub b o e
   · simp only[List.cons.injEq,DS.d.injEq,and_true] at e
     obtain⟨e1,e2,e3⟩:=e
     obtain rfl:=FY e1
     obtain rfl:=FY e2
     have e3:cs=cs':=(List.map_inj_right (fun a b h=>PyData.int.inj h)).mp (PyData.list.inj e3)
     subst e3
     exact⟨rfl,ls,so,sp,rfl,hq⟩
end
def SA:List Str:=["_law_head", "_law_pack", "_law_spare", "_law_amount"]
theorem KY:FnScope SA ["_law_head"] (AB FF):=⟨rfl,rfl,rfl,by decide +kernel,rfl,by decide +kernel,by decide +kernel⟩
theorem SD {f:Addr}{fd:FuncData}(F:Fun K "_law_begun" "_law_begun" FF f fd) (h__law_mixed:Has P w K mg base "_law_mixed" 1 ["_law_cell"] C7) (h__law_names:Has P w K mg base "_law_names" 2 ["_law_pack", "_law_amount"] DF) (h__law_start:Has P w K mg base "_law_start" 2 ["_law_pack", "_law_names_here", "_law_amount"] DK) (h__law_take:Has P w K mg base "_law_take" 1 ["_law_pack", "_law_size"] BC):FnOk P w K mg base CX0 3 f fd ["_law_head"] (spD K 1 HG):=by
 refine fnD F KY fun cdv A outer s H E hr=>?_
 have hu:=hr.units
 have nd:=KY.nd
 refine⟨_,by walk_at "b2", ?_⟩
 clear nd
 rintro xs M hl ⟨h,rfl,hh⟩
 walk_at "r"
 refine LR ?_
 walk_at "r"
 refine LC hh fun v=>?_
 walk_at "r"
 intro p hp
 walk_at "r"
 refine ZC zU ⟨v,rfl⟩ (by decide) (by decide) fun ys o1 hyl hy hyb hyn ho1=>?_
 rw[yI]
 walk_at "r"
 refine AZ zU ho1 (by decide) (by decide) fun va o2 a0 a1 ho2=>?_
 rw[yI]
 obtain⟨n,rfl⟩:∃n:Nat,va=(n:Int):=⟨va.toNat,by omega⟩
 have hyok:namesOK ys:=⟨hy,hyn,by omega⟩
 walk_at "r"
 refine ZD zU ho2 hyok (by omega) fun w0 o3 hw0 hpm ho3=>?_
 rw[yI]
 walk_at "r"
 refine CA ?_
 rw[UA,← a9X]
 walk_at "r"
 refine CA ?_
 rw[DD,← a9J]
 walk_at "r"
 exact⟨M,(zT M).put hp,rfl,w0,ys.take n,ys.drop n,rfl,fun t ht=>(hw0.2 t ht).1,by rw[List.take_append_drop];exact hyok,fun x=>hpm.mem_iff,by have:=hpm.length_eq;rw[zX,a1Q] at this;omega⟩
def YB:List Str:=["_law_script", "_law_start_here", "_law_some", "_law_spare", "_law_pack", "_law_lines_here", "_law_stay", "_law_more", "_law_ones", "_law_standing", "_law_rest", "_law_others"]
theorem OG:FnScope YB ["_law_script"] (AB IH):=⟨rfl,rfl,rfl,by decide +kernel,rfl,by decide +kernel,by decide +kernel⟩
section
local macro_rules | `(tactic| walk_at "x")=>`(tactic| first | ((with_reducible show PS _ (.Assign [.Tuple ..] ..) _);exact @TM _ _ _ _ _ _ (by walk_at "e") (by walk_at "g") (by rfl) (by rfl) (by rfl)) | ((with_reducible show PG _ (.Tuple ..) _);exact @bJ _ K _ _ _ _ (3) rfl rfl (by walk_at "j") (by rfl) (by rfl)) | ((with_reducible show PE _ (.Subscript ..) _);exact @wN _ K _ _ _ _ _ _ rfl (by walk_at "e") (by walk_at "e")))
theorem YC {f:Addr}{fd:FuncData}(F:Fun K "_law_two" "_law_two" IH f fd) (n_sum:mg "sum"=none) (n_tuple:mg "tuple"=none) (h__law_begun:Has P w K mg base "_law_begun" 3 ["_law_head"] HG) (h__law_lines:Has P w K mg base "_law_lines" 3 ["_law_some", "_law_spare", "_law_cells"] HE) (h__law_mixed:Has P w K mg base "_law_mixed" 1 ["_law_cell"] C7) (h__law_take:Has P w K mg base "_law_take" 1 ["_law_pack", "_law_size"] BC):FnOk P w K mg base CX0 4 f fd ["_law_script"] (spD K 1 MH):=by
 refine fnD F OG fun cdv A outer s H E hr=>?_
 have hu:=hr.units
 have nd:=OG.nd
 refine⟨_,by walk_at "b2", ?_⟩
 clear nd
 rintro xs M hl ⟨ns,rfl,hbits⟩
 have bits:∀a b:Nat,∀c∈(ns.take a).drop b,xJ c<=2 ^ 21:=fun a b c hc=>zN (hbits c (b5X (b1X hc))) (by decide)
 have one:∀a:Nat,xJ ((ns.take (a+1)).drop a).sum<=2 ^ 21:=fun a=>by
   rw[List.drop_take,b3X]
   have hh:∀c∈ns.drop a,xJ c<=2 ^ 20:=fun c hc=>hbits c (b1X hc)
   match ns.drop a,hh with
   | [],_=>decide
   | a::r,hb=>simp only[b6X,List.take_zero,List.sum_cons,List.sum_nil,Int.add_zero];exact zN (hb a (by simp)) (by decide)
 walk_at "r"
 refine HS ?_
 walk_at "r"
 refine CA ?_
 rw[show E9 (ns.map a3Q) none (some 1)=((ns.take 1).drop 0).map .int from(UA _ 1).trans (by rw[List.drop_zero,a9X])]
 walk_at "r"
 refine j8 ?_
 walk_at "r"
 refine V0 (one 0) fun w so sp hw hno hS hlw=>?_
 walk_at "r"
 refine LR ?_
 walk_at "r"
 refine CA ?_
 rw[show E9 (ns.map a3Q) (some 1) (some 2)=((ns.take 2).drop 1).map .int from(JW _ 1 2).trans (by rw[a9J,a9X])]
 walk_at "r"
 refine j8 ?_
 walk_at "r"
 refine LC (one 1) fun v0=>?_
 walk_at "r"
 intro p hp
 walk_at "r"
 refine HS ?_
 walk_at "r"
 refine AZ zU ⟨v0,rfl⟩ (by decide) (by decide) fun v1 o1 a1 b1 ho1=>?_
 rw[yI]
 obtain⟨n1,rfl⟩:∃n:Nat,v1=(n:Int):=⟨v1.toNat,by omega⟩
 walk_at "r"
 refine CA ?_
 rw[show E9 (ns.map a3Q) (some 2) (some (2+(n1:Int)))=((ns.take (2+n1)).drop 2).map .int from by rw[show(2:Int)+(n1:Int)=((2+n1:Nat):Int) by omega];exact(JW _ 2 (2+n1)).trans (by rw[a9J,a9X])]
 walk_at "r"
 refine LI hno (bits _ _) (by rw[a0K,a1Q];omega) fun ls st mo hq=>?_
 walk_at "r"
 refine HS ?_
 walk_at "r"
 refine AZ zU ho1 (by decide) (by decide) fun v2 o2 a2 b2 ho2=>?_
 rw[yI]
 obtain⟨n2,rfl⟩:∃n:Nat,v2=(n:Int):=⟨v2.toNat,by omega⟩
 walk_at "r"
 refine CA ?_
 rw[show E9 (ns.map a3Q) (some 6) (some (6+(n2:Int)))=((ns.take (6+n2)).drop 6).map .int from by rw[show(6:Int)+(n2:Int)=((6+n2:Nat):Int) by omega];exact(JW _ 6 (6+n2)).trans (by rw[a9J,a9X])]
 walk_at "r"
 refine LI hq.2.2.2.2 (bits _ _) (by rw[a0K,a1Q];omega) fun as so2 sp2 hqa=>?_
 walk_at "wks"
 refine L8 (fun ρ1 M1=>∃(mo2:List Str) (x1:Option DS) (o3:MO),E7 o3/\M1=M.put p o3/\mo2.Perm mo/\ρ1=[some (.d (.list (ns.map .int))),some (.d (wD w)),some (.d (AR so)),some (.d (AR sp)),some (.loc p),some (.d (.list (ls.map AL))),some (.d (AR st)),some (.d (AR mo2)),some (.d (.list (as.map AL))),some (.d (AR so2)),some (.d (AR sp2)),x1]) ?_ ?_
 · walk_at "r"
   refine AZ zU ho2 (by decide) (by decide) fun v3 o3 a3 b3 ho3=>?_
   rw[yI]
   walk_at "r"
   by_cases h3:0 < v3
   · rw[decide_eq_true h3,if_pos rfl]
     walk_at "r"
     refine oU ?_
     walk_at "dl"
     refine⟨mo.map .str,rfl,?_⟩
     walk_at "r"
     refine⟨rfl,?_⟩
     rw[← List.map_reverse]
     exact⟨mo.reverse,_,o3,ho3,rfl,List.reverse_perm _,rfl⟩
   · rw[decide_eq_false h3,if_neg nft]
     walk_at "r"
     exact⟨mo,_,o3,ho3,rfl,.refl _,rfl⟩
 · rintro ρ1 M1 ⟨mo2,x1,o3,ho3,rfl,hpm,rfl⟩
   have hno2:namesOK (st++mo2):=by
     have:=hq.2.2.2.2
     have pp:=b9J st hpm
     exact⟨fun z hz=>this.1 z (pp.mem_iff.mp hz),pp.nodup_iff.mpr this.2.1,by rw[pp.length_eq];exact this.2.2⟩
   walk_at "r"
   refine HS ?_
   walk_at "r"
   refine AZ zU ho3 (by decide) (by decide) fun v4 o4 a4 b4 ho4=>?_
   rw[yI]
   obtain⟨n4,rfl⟩:∃n:Nat,v4=(n:Int):=⟨v4.toNat,by omega⟩
   walk_at "r"
   refine CA ?_
   rw[show E9 (ns.map a3Q) (some 14) (some (14+(n4:Int)))=((ns.take (14+n4)).drop 14).map .int from by rw[show(14:Int)+(n4:Int)=((14+n4:Nat):Int) by omega];exact(JW _ 14 (14+n4)).trans (by rw[a9J,a9X])]
   walk_at "r"
   refine LI hno2 (bits _ _) (by rw[a0K,a1Q];omega) fun bs so4 sp4 hqb=>?_
   have l1:=hq.2.2.2.1
   have l2:=hqa.2.2.2.1
   have l3:=hqb.2.2.2.1
   rw[a0K,a1Q] at l1 l2 l3
   walk_at "r"
   refine CT (by rw[zX,zX];exact zN (show _<=100 by omega) (by decide)) ?_
   rw[← xI]
   walk_at "r"
   refine EI ?_
   walk_at "r"
   refine CT (by rw[zX,zX];exact zN (show _<=100 by omega) (by decide)) ?_
   rw[← xI]
   walk_at "r"
   refine EI ?_
   walk_at "r"
   refine⟨M,(zT M).put hp,rfl,w,ls++as,ls++bs,rfl,⟨hw,QX hno hq (.refl _) hqa (by rw[a0K,a1Q,a0K,a1Q];omega),QX hno hq hpm hqb (by rw[a0K,a1Q,a0K,a1Q];omega)⟩,XU hS hno hq (.refl _) hqa,XU hS hno hq hpm hqb,?_,?_,hlw⟩
   · rw[yY];omega
   · rw[yY];omega
end
def VI:List Str:=["_law_deed_here"]
theorem N3:FnScope VI ["_law_deed_here"] (AB GK):=⟨rfl,rfl,rfl,by decide +kernel,rfl,by decide +kernel,by decide +kernel⟩
section
local macro_rules | `(tactic| walk_at "x")=>`(tactic| first | ((with_reducible show PE _ (.Call (.Attribute _ (a0Q "get") _) ..) _);exact @LQ _ _ _ _ _ _ _ _ _ hu1 (by walk_at "e") (by walk_at "e") (by walk_at "e") (@L2.M2.mk _ _ _ _ _ _ _ rfl rfl rfl rfl)) | ((with_reducible show PE _ (.Dict ..) _);exact @P3 _ _ _ _ _ (@CS _ _ _ _ _ _ _ _ _ (by walk_at "e") (by walk_at "e") (@CS _ _ _ _ _ _ _ _ _ (by walk_at "e") (by walk_at "e") (@CS _ _ _ _ _ _ _ _ _ (by walk_at "e") (by walk_at "e") (@P2 _ _)))) rfl rfl (by simp) (by decide)))
theorem VJ {f:Addr}{fd:FuncData}(F:Fun K "_law_made" "_law_made" GK f fd):FnOk P w K mg base CX0 1 f fd ["_law_deed_here"] (spD K 1 ME):=by
 refine fnD F N3 fun cdv A outer s H E hr=>?_
 have hu:=hr.units
 have hu1:=zQ (a4V (show 1<=64 by decide) _) hu
 have nd:=N3.nd
 refine⟨_,by walk_at "b1", ?_⟩
 clear nd
 rintro xs M hl ⟨D,rfl,hr⟩
 walk_at "r"
 cases D <;> (
   refine FV ?_
   refine FU fun q hq=>?_
   refine BA ?_
   walk_at "r"
   refine B6 ?_
   walk_at "r"
   refine BA ?_
   walk_at "r"
   refine B6 ?_
   walk_at "r"
   refine BA ?_
   walk_at "r"
   refine B6 ?_
   walk_at "r"
   refine HV ?_
   refine⟨zU,yD rfl,by simp only[zI,a3W];decide +kernel,?_⟩
   rw[yG hq]
   walk_at "r"
   refine AA (d:=_) rfl ?_
   walk_at "r"
   refine⟨M,zT M,fun D' e=>?_⟩
   simp only[List.cons.injEq,DS.d.injEq,and_true] at e
   obtain rfl:=FX e
   exact⟨rfl,rfl⟩)
end
def SE:List Str:=["_law_deed_here"]
theorem KZ:FnScope SE ["_law_deed_here"] (AB FG):=⟨rfl,rfl,rfl,by decide +kernel,rfl,by decide +kernel,by decide +kernel⟩
section
local macro_rules | `(tactic| walk_at "x")=>`(tactic| first | ((with_reducible show PE _ (.Call (.Attribute _ (a0Q "get") _) ..) _);exact @LQ _ _ _ _ _ _ _ _ _ hu1 (by walk_at "e") (by walk_at "e") (by walk_at "e") (@L2.M2.mk _ _ _ _ _ _ _ rfl rfl rfl rfl)) | ((with_reducible show PE _ (.Dict ..) _);exact @P3 _ _ _ _ _ (@CS _ _ _ _ _ _ _ _ _ (by walk_at "e") (by walk_at "e") (@CS _ _ _ _ _ _ _ _ _ (by walk_at "e") (by walk_at "e") (@CS _ _ _ _ _ _ _ _ _ (by walk_at "e") (by walk_at "e") (@P2 _ _)))) rfl rfl (by simp) (by decide)))
theorem SG {f:Addr}{fd:FuncData}(F:Fun K "_law_ended" "_law_ended" FG f fd):FnOk P w K mg base CX0 1 f fd ["_law_deed_here"] (spD K 1 NS):=by
 refine fnD F KZ fun cdv A outer s H E hr=>?_
 have hu:=hr.units
 have hu1:=zQ (a4V (show 1<=64 by decide) _) hu
 have nd:=KZ.nd
 refine⟨_,by walk_at "b1", ?_⟩
 clear nd
 rintro xs M hl ⟨D,rfl,hr⟩
 walk_at "r"
 cases D <;> (
   refine FV ?_
   refine FU fun q hq=>?_
   refine BA ?_
   walk_at "r"
   refine B6 ?_
   walk_at "r"
   refine BA ?_
   walk_at "r"
   refine B6 ?_
   walk_at "r"
   refine BA ?_
   walk_at "r"
   refine B6 ?_
   walk_at "r"
   refine HV ?_
   refine⟨zU,yD rfl,by simp only[zI,a3W];decide +kernel,?_⟩
   rw[yG hq]
   walk_at "r"
   refine AA (d:=_) rfl ?_
   walk_at "r"
   refine⟨M,zT M,fun D' e=>?_⟩
   simp only[List.cons.injEq,DS.d.injEq,and_true] at e
   obtain rfl:=FX e
   exact⟨rfl,rfl⟩)
end
def RK:List Str:=["_law_deed_here"]
theorem JP:FnScope RK ["_law_deed_here"] (AB EJ):=⟨rfl,rfl,rfl,by decide +kernel,rfl,by decide +kernel,by decide +kernel⟩
section
local macro_rules | `(tactic| walk_at "x")=>`(tactic| first | ((with_reducible show PE _ (.Call (.Attribute _ (a0Q "get") _) ..) _);exact @LQ _ _ _ _ _ _ _ _ _ hu1 (by walk_at "e") (by walk_at "e") (by walk_at "e") (@L2.M2.mk _ _ _ _ _ _ _ rfl rfl rfl rfl)) | ((with_reducible show PE _ (.Dict ..) _);exact @P3 _ _ _ _ _ (@CS _ _ _ _ _ _ _ _ _ (by walk_at "e") (by walk_at "e") (@CS _ _ _ _ _ _ _ _ _ (by walk_at "e") (by walk_at "e") (@P2 _ _))) rfl rfl (by simp) (by decide)))
theorem RL {f:Addr}{fd:FuncData}(F:Fun K "_law_wanted" "_law_wanted" EJ f fd):FnOk P w K mg base CX0 1 f fd ["_law_deed_here"] (spD K 1 ID):=by
 refine fnD F JP fun cdv A outer s H E hr=>?_
 have hu:=hr.units
 have hu1:=zQ (a4V (show 1<=64 by decide) _) hu
 have nd:=JP.nd
 refine⟨_,by walk_at "b1", ?_⟩
 clear nd
 rintro xs M hl ⟨D,rfl,hr⟩
 walk_at "r"
 cases D <;> (
   refine FV ?_
   refine FU fun q hq=>?_
   refine BA ?_
   walk_at "r"
   refine BA ?_
   walk_at "r"
   refine B6 ?_
   walk_at "r"
   refine HV ?_
   refine⟨zU,yD rfl,by simp only[zI,a3W];decide +kernel,?_⟩
   rw[yG hq]
   walk_at "r"
   refine AA (d:=_) rfl ?_
   walk_at "r"
   refine B6 ?_
   walk_at "r"
   refine⟨M,zT M,fun D' e=>?_⟩
   simp only[List.cons.injEq,DS.d.injEq,and_true] at e
   obtain rfl:=FX e
   exact⟨rfl,rfl⟩)
end
def GV:List Str:=["_law_lines_here", "_law_out", "_law_made_here", "_law_number", "_law_name", "_law_found", "_law_wanted_here"]
def IZ:List Str:=["_law_name", "_law_made_here"]
def J0:List (Option Nat):=[none,some 2]
theorem OX:IZ.Nodup:=by decide +kernel
def J1:List Str:=["_law_one", "_law_found"]
def J2:List (Option Nat):=[none,some 5]
theorem OY:J1.Nodup:=by decide +kernel
theorem L0:FnScope GV ["_law_lines_here", "_law_out"] (AB CQ):=⟨rfl,rfl,rfl,by decide +kernel,rfl,by decide +kernel,by decide +kernel⟩
section
local macro_rules | `(tactic| walk_at "cs")=>`(tactic| first | exact @DW _ _ IZ J0 (AB CQ) GV (by decide +kernel) (by decide +kernel) rfl rfl | exact @DW _ _ J1 J2 (AB CQ) GV (by decide +kernel) (by decide +kernel) rfl rfl)
local macro_rules | `(tactic| walk_at "x")=>`(tactic| first | ((with_reducible show PE _ (.Dict ..) _);exact @gG _ _) | ((with_reducible show PS _ (.Assign [.Subscript ..] ..) _);exact @aP _ _ _ _ _ _ _ _ _ hu1 (by walk_at "e") (by walk_at "e") (by walk_at "e") (by rfl)) | ((with_reducible show PT _ (.Compare _ [.In] ..) _);exact @BY _ _ _ _ _ _ _ _ (@eL _ K rfl hu) (by walk_at "e") (by walk_at "e") (by with_unfolding_all rfl)) | ((with_reducible show PE _ (.Compare _ [.In] ..) _);exact @D7 _ _ _ _ _ _ _ _ (@eL _ K rfl hu) (by walk_at "e") (by walk_at "e") (by with_unfolding_all rfl)))
local macro_rules | `(tactic| walk_at "y")=>`(tactic| first | ((with_reducible show PT _ (.Compare _ [.In] ..) _);exact @TK _ _ _ _ _ _ (@YR _ _ _ _ _ hu1 (@pv _ 0 _ _ (by rfl) (by walk_at "lc") (by decide) (by decide)) (@pv _ 1 _ _ (by rfl) (by walk_at "lc") (by decide) (by decide))) (by with_unfolding_all rfl)) | ((with_reducible show PE _ (.Subscript ..) _);exact @TZ _ _ _ _ _ _ hu1 (@pv _ 1 _ _ (by rfl) (by walk_at "lc") (by decide) (by decide)) (@pv _ 0 _ _ (by rfl) (by walk_at "lc") (by decide) (by decide)) (fun _ _=>rfl)))
theorem SH {f:Addr}{fd:FuncData}(F:Fun K "_law_going" "_law_going" CQ f fd) (n_any:mg "any"=none) (n_len:mg "len"=none) (n_range:mg "range"=none) (h__law_made:Has P w K mg base "_law_made" 1 ["_law_deed_here"] ME) (h__law_wanted:Has P w K mg base "_law_wanted" 1 ["_law_deed_here"] ID):FnOk P w K mg base CX0 2 f fd ["_law_lines_here", "_law_out"] (spD K 2 HH):=by
 refine fnD F L0 fun cdv A outer s H E hr=>?_
 have hu:=hr.units
 have hu1:=zQ (a4V (show 1<=64 by decide) _) hu
 have nd:=L0.nd
 have n0:=OX
 have n1:=OY
 refine⟨_,by walk_at "b2", ?_⟩
 clear nd n0 n1
 rintro xs M hl ⟨B,out,rfl,hg,ho⟩
 have hfew:=hg.few
 have hf:=hg.fresh
 have hmkl:∀(Ds:List Deed) (o:Nat),(mkL Ds o).length<=Ds.length:=fun Ds=>by
   induction Ds with
   | nil=>intro o;exact zR _
   | cons D r ih=>
     intro o
     have:=ih (o+1)
     rw[mkL,yY,yR]
     cases D.made <;> simp <;> omega
 walk_at "r"
 refine l8 fun P hP=>?_
 walk_at "wks"
 refine L8 (fun ρ1 M1=>M1=M.put P (.d (BG (mkL (dsL B) 0)))/\∃x y:Option DS,ρ1=[some (.d (AC B)),some (.d (.tuple (AD out))),some (.loc P),x,y,none,none]) ?_ ?_
 · refine HP ?_
   refine HN ?_
   walk_at "r"
   refine DC ?_
   rw[zX]
   walk_at "r"
   refine⟨by omega,by omega,?_⟩
   refine⟨fun k ρ1 M1=>k<=B.length/\M1=M.put P (.d (BG (mkL ((dsL B).take k) 0)))/\∃x y:Option DS,ρ1=[some (.d (AC B)),some (.d (.tuple (AD out))),some (.loc P),x,y,none,none],⟨xT _,rfl,_,_,rfl⟩,?_,?_⟩
   · rintro k d ρ1 M1 hd ⟨_,rfl,x,y,rfl⟩
     obtain⟨hk,rfl⟩:=bW hd
     obtain⟨l,hlk,hlm,hll,hld⟩:=DU hk
     have hr:=hg.real l hlm
     have htk:(dsL B).take (k+1)=(dsL B).take k++[l.2]:=by rw[a5W,hld];rfl
     have hlt:((dsL B).take k).length=k:=by rw[a1Q,zX];omega
     walk_at "r"
     refine HP ?_
     refine C0 ?_
     walk_at "r"
     refine AA (ds:=B.map AL) (AE hll) ?_
     walk_at "r"
     refine AA (ds:=[.str l.1,l.2.d]) (d:=l.2.d) rfl ?_
     walk_at "r"
     refine G2 hr ?_
     refine⟨_,rfl,fun j ρ1 M1=>j<=(DZ l.2).length/\M1=M.put P (.d (BG (mkL ((dsL B).take k) 0++((DZ l.2).take j).map fun x=>(x,a3Q (k:Int)))))/\∃y:Option DS,ρ1=[some (.d (AC B)),some (.d (.tuple (AD out))),some (.loc P),some (.d (.int (k:Int))),y,none,none],⟨xT _,by rw[List.take_zero,a3W,a2Q],_,rfl⟩,?_,?_⟩
     · rintro j d ρ1 M1 hd ⟨hj0,rfl,y,rfl⟩
       rw[zF] at hd
       obtain⟨z,hz,rfl⟩:=Option.map_eq_some_iff.mp hd
       have hjl:=(yT.mp hz).1
       have hl1:(DZ l.2).length<=1:=by unfold DZ;cases l.2.made <;> simp
       have hj:j=0:=by omega
       subst hj
       have hm:l.2.made=some z:=D5.mp (yN hz)
       have hmz:DZ l.2=[z]:=by unfold DZ;rw[hm];rfl
       rw[List.take_zero,a3W,a2Q]
       walk_at "r"
       refine nK ?_
       walk_at "r"
       refine⟨P,mkL ((dsL B).take k) 0,z,.int (k:Int),rfl,rfl,rfl,zU,zQ (hmkl _ _) (zQ (show _<=50 by omega) (by decide)),?_⟩
       rw[yI,WM (fun q=>by
         obtain⟨i,hi⟩:=QK _ _ _ q
         have hik:i < k:=by
           rcases Nat.lt_or_ge i k with q | q
           · exact q
           · unfold mkN at hi;rw[a0J (by omega)] at hi;cases hi
         have h1:mkN (dsL B) i=some z:=by unfold mkN at hi ⊢;rw[b2J hik] at hi;exact hi
         have h2:mkN (dsL B) k=some z:=by unfold mkN;rw[hld];exact hm
         have:=hf.one i k z h1 h2
         omega)]
       refine⟨by omega,by rw[hmz];rfl,_,rfl⟩
     · rintro ρ1 M1 ⟨_,rfl,y,rfl⟩
       refine⟨by omega,?_,_,y,rfl⟩
       rw[zX,a6K,htk,XY,hlt,b7V]
       unfold DZ
       cases l.2.made <;> rfl
   · rintro ρ1 M1 ⟨_,rfl,x,y,rfl⟩
     rw[XB]
     exact⟨by rw[a5J (by rw[zX];exact zR _)],x,y,rfl⟩
 · rintro ρ1 M1 ⟨rfl,x0,y0,rfl⟩
   walk_at "r"
   refine LR ?_
   walk_at "r"
   intro p hp
   have hPp:P≠p:=by rintro rfl;rw[zU] at hp;cases hp
   walk_at "wks"
   refine L8 (fun ρ1 M1=>M1=(M.put P (.d (BG (mkL (dsL B) 0)))).put p (.l (AD (HZ B out)))/\∃x y z:Option DS,ρ1=[some (.d (AC B)),some (.d (.tuple (AD out))),some (.loc P),x,y,some (.loc p),z]) ?_ ?_
   · refine HP ?_
     refine HN ?_
     walk_at "r"
     refine DC ?_
     rw[zX]
     walk_at "r"
     refine⟨by omega,by omega,?_⟩
     refine⟨fun k ρ1 M1=>k<=B.length/\M1=(M.put P (.d (BG (mkL (dsL B) 0)))).put p (.l (AD (AG (dsL B) out k)))/\∃x y z:Option DS,ρ1=[some (.d (AC B)),some (.d (.tuple (AD out))),some (.loc P),x,y,some (.loc p),z],⟨xT _,rfl,_,_,_,rfl⟩,?_,?_⟩
     · rintro k d ρ1 M1 hd ⟨_,rfl,x,y,z,rfl⟩
       obtain⟨hk,rfl⟩:=bW hd
       obtain⟨l,hlk,hlm,hll,hld⟩:=DU hk
       have hr:=hg.real l hlm
       have hfl:=NN (dsL B) out k
       have hml:(l.2.must).length<=2:=zN (yJ _ _) (by cases l.2 <;> simp[Deed.names])
       walk_at "r"
       refine FA (AQ 0) (by simp[J0]) ?_
       refine C0 ?_
       walk_at "r"
       refine AA (ds:=B.map AL) (AE hll) ?_
       walk_at "r"
       refine AA (ds:=[.str l.1,l.2.d]) (d:=l.2.d) rfl ?_
       walk_at "r"
       refine G2 hr ?_
       rw[← MF hr]
       refine⟨_,rfl,by rw[zX];exact zQ hml (by decide),cMk (dsL B),fMk (dsL B),?_,?_⟩
       · rintro d hd2 A acc M' hA rfl
         obtain⟨n,hn,rfl⟩:=zL.mp hd2
         have hPA:P≠A:=by rintro rfl;rw[yH hPp,zU] at hA;cases hA
         walk_at "dl"
         refine⟨rfl,?_⟩
         walk_at "r"
         refine bM ?_
         walk_at "r"
         refine⟨P,mkL (dsL B) 0,n,rfl,rfl,by rw[yH hPA,yH hPp];exact zU,?_⟩
         refine⟨_,rfl,rfl,rfl,fun hc=>?_⟩
         obtain⟨v,hv⟩:=xY.mp (show(B8 (mkL (dsL B) 0) n).isSome=true from hc)
         refine WJ ?_
         walk_at "r"
         refine⟨P,mkL (dsL B) 0,n,v,rfl,rfl,by rw[yH hPA,yH hPp];exact zU,hv,?_,rfl⟩
         show DS.d v = .d ((B8 (mkL (dsL B) 0) n).getD .none)
         rw[hv];rfl
       obtain⟨js,ej,hj,hjl⟩:=fE hf hld
       rw[ej]
       walk_at "r"
       refine K2 rfl (BB out) ?_
       rw[if_neg nft,QV]
       cases hk1:decide (k∈out) with
       | true=>
         walk_at "r"
         refine ST ?_
         walk_at "dl"
         refine⟨P4 (ds:=AD (AG (dsL B) out k)) zU,?_⟩
         walk_at "r"
         refine JT (ds:=AD (AG (dsL B) out k)) zU (by rw[AV];exact zQ (show _<=50 by omega) (by decide)) ?_
         rw[yI,NP]
         exact⟨by omega,by rw[AG,hk1,Bool.true_or,if_pos rfl],_,_,_,rfl⟩
       | false=>
         walk_at "r"
         refine FA (AQ 0) (by simp[J2]) ?_
         refine AW ?_
         walk_at "r"
         refine⟨by rw[AV];exact zQ (show _<=50 by omega) (by decide),fun _=>true,kE (AG (dsL B) out k),?_,?_⟩
         · rintro d hd2 A acc M' hA rfl
           obtain⟨i,hi,rfl⟩:=zL.mp hd2
           have hpA:p≠A:=by rintro rfl;rw[zU] at hA;cases hA
           walk_at "dl"
           refine⟨rfl,?_⟩
           walk_at "dl"
           refine⟨rfl,rfl,fun _=>?_⟩
           walk_at "r"
           refine u9 (ds:=AD (AG (dsL B) out k)) (by rw[yH hpA];exact zU) rfl (GD _) ?_
           exact⟨rfl,rfl⟩
         rw[LD,XD]
         walk_at "r"
         refine U8 ?_
         rw[K3,l6 hj]
         cases hk2:(BU (dsL B) k).any (fun j=>decide (j∈AG (dsL B) out k)) with
         | true=>
           walk_at "r"
           refine ST ?_
           walk_at "dl"
           refine⟨P4 (ds:=AD (AG (dsL B) out k)) zU,?_⟩
           walk_at "r"
           refine JT (ds:=AD (AG (dsL B) out k)) zU (by rw[AV];exact zQ (show _<=50 by omega) (by decide)) ?_
           rw[yI,NP]
           exact⟨by omega,by rw[AG,hk2,Bool.or_true,if_pos rfl],_,_,_,rfl⟩
         | false=>
           walk_at "r"
           exact⟨by omega,by rw[AG,hk1,hk2,c0Q,if_neg nft],_,_,_,rfl⟩
     · rintro ρ1 M1 ⟨_,rfl,x,y,z,rfl⟩
       rw[XB]
       exact⟨by unfold HZ;rw[zX],x,y,z,rfl⟩
   · rintro ρ1 M1 ⟨rfl,x,y,z,rfl⟩
     refine SU (i:=5) (a:=p) rfl zU ?_
     rw[yG hp]
     walk_at "r"
     refine⟨M,(zT M).put hP,fun B' out' e=>?_⟩
     simp only[List.cons.injEq,DS.d.injEq,PyData.tuple.injEq,and_true] at e
     obtain⟨e1,e2⟩:=e
     obtain rfl:=D0 e1
     obtain rfl:=G1 e2
     exact⟨rfl,rfl⟩
end
def C9:List Str:=["_law_start_here", "_law_lines_here", "_law_standing", "_law_known", "_law_hand", "_law_deed_here", "_law_made_here"]
def GN:List Str:=["_law_thing"]
def BP:List (Option Nat):=[none]
theorem N4:GN.Nodup:=by decide +kernel
def GO:List Str:=["_law_name", "_law_standing"]
def BQ:List (Option Nat):=[none,some 2]
theorem N5:GO.Nodup:=by decide +kernel
def GP:List Str:=["_law_name", "_law_known"]
def BR:List (Option Nat):=[none,some 3]
theorem N6:GP.Nodup:=by decide +kernel
def GQ:List Str:=["_law_name", "_law_deed_here"]
def BS:List (Option Nat):=[none,some 5]
theorem N7:GQ.Nodup:=by decide +kernel
theorem J3:FnScope C9 ["_law_start_here", "_law_lines_here"] (AB B7):=⟨rfl,rfl,rfl,by decide +kernel,rfl,by decide +kernel,by decide +kernel⟩
section
local macro_rules | `(tactic| walk_at "cs")=>`(tactic| first | exact @DW _ _ GN BP (AB B7) C9 (by decide +kernel) (by decide +kernel) rfl rfl | exact @DW _ _ GO BQ (AB B7) C9 (by decide +kernel) (by decide +kernel) rfl rfl | exact @DW _ _ GP BR (AB B7) C9 (by decide +kernel) (by decide +kernel) rfl rfl | exact @DW _ _ GQ BS (AB B7) C9 (by decide +kernel) (by decide +kernel) rfl rfl)
local macro_rules | `(tactic| walk_at "x")=>`(tactic| first | ((with_reducible show PG _ (.Tuple ..) _);exact @nA _ K _ _ _ _ (2) rfl rfl (by walk_at "j") (by rfl) (by rfl)) | ((with_reducible show PE _ (.Compare _ [.In] ..) _);exact @D7 _ _ _ _ _ _ _ _ (@eL _ K rfl hu) (by walk_at "e") (by walk_at "e") (by with_unfolding_all rfl)) | ((with_reducible show PE _ (.Compare _ [.NotIn] ..) _);exact @D7 _ _ _ _ _ _ _ _ (@P7 _ K rfl hu) (by walk_at "e") (by walk_at "e") (by with_unfolding_all rfl)) | ((with_reducible show PT _ (.Compare _ [.NotIn] ..) _);exact @BY _ _ _ _ _ _ _ _ (@P7 _ K rfl hu) (by walk_at "e") (by walk_at "e") (by with_unfolding_all rfl)))
local macro_rules | `(tactic| walk_at "y")=>`(tactic| first | ((with_reducible show PE _ (.Call (.Name (a0Q "list") _) ..) _);exact @JS _ _ _ _ _ _ _ _ _ (@pU _ K rfl) (by rfl) n_list b1K (by walk_at "a") (by decide) (by decide) (by rfl) (by rfl)))
theorem OZ {f:Addr}{fd:FuncData}(F:Fun K "_law_is_book" "_law_is_book" B7 f fd) (n_any:mg "any"=none) (n_list:mg "list"=none) (h__law_ended:Has P w K mg base "_law_ended" 1 ["_law_deed_here"] NS) (h__law_made:Has P w K mg base "_law_made" 1 ["_law_deed_here"] ME) (h__law_wanted:Has P w K mg base "_law_wanted" 1 ["_law_deed_here"] ID):FnOk P w K mg base CX0 2 f fd ["_law_start_here", "_law_lines_here"] (spD K 2 EG):=by
 refine fnD F J3 fun cdv A outer s H E hr=>?_
 have hu:=hr.units
 have nd:=J3.nd
 have n0:=N4
 have n1:=N5
 have n2:=N6
 have n3:=N7
 refine⟨_,by walk_at "b2", ?_⟩
 clear nd n0 n1 n2 n3
 rintro xs M hl ⟨w,C,rfl,hw,hlw,hreal,hC⟩
 have fin:∀(M1:Own) (b:Bool),M1=M->OM (FC w) (FC w) (dsL C)=b->∃M2:Own,M2.Sub M1/\EG.post (isX w C) M (.d (.bool b)) M2:=fun M1 b e1 hb=>⟨M,e1▸zT M,fun w' C' e=>by
   simp only[List.cons.injEq,DS.d.injEq,PyData.list.injEq,PyData.tuple.injEq,and_true] at e
   obtain⟨g1,g2⟩:=e
   obtain rfl:=D0 g2
   have g3:(FC w).map a0W=(FC w').map .str:=by rw[← O5,← O5];injection g1 with g1;rw[g1]
   have g4:FC w=FC w':=(List.map_inj_right (fun a b h=>PyData.str.inj h)).mp g3
   rw[← g4,hb]
   exact⟨rfl,rfl⟩⟩
 walk_at "r"
 refine AF (AQ 0) (by simp[BP,BQ,BR,BS]) ?_
 refine C0 ?_
 walk_at "r"
 refine⟨by rw[zX];exact zQ hlw (by decide),fun _=>true,fTh,?_,?_⟩
 · intro d hd M'
   obtain⟨t,ht,rfl⟩:=zL.mp hd
   walk_at "dl"
   refine⟨rfl,?_⟩
   walk_at "dl"
   refine⟨rfl,rfl,fun _=>?_⟩
   walk_at "r"
   refine AA (ds:=[.str t.1,.int t.2.1,.int t.2.2]) (d:=.str t.1) rfl ?_
   exact⟨rfl,rfl⟩
 rw[LD,oY]
 walk_at "r"
 refine kS ?_
 walk_at "r"
 · refine HP ?_
   refine AW ?_
   walk_at "r"
   refine⟨fun k ρ1 M1=>M1=M/\k<=C.length/\∃(st kn:List Str) (x4 x5 x6:Option DS),st.length<=26+k/\kn.length<=26+k/\(∀z∈st,AO z)/\(∀z∈kn,AO z)/\OM (FC w) (FC w) (dsL C)=OM st kn ((dsL C).drop k)/\ρ1=[some (.d (wD w)),some (.d (.list (C.map AL))),some (.d (AR st)),some (.d (AR kn)),x4,x5,x6],?_,?_,?_⟩
   · have hnz:∀z∈FC w,AO z:=fun z hz=>by obtain⟨t,ht,rfl⟩:=zL.mp hz;exact hw t ht
     have hwl:(FC w).length<=26+0:=by rw[zX];omega
     exact⟨rfl,xT _,FC w,FC w,_,_,_,hwl,hwl,hnz,hnz,rfl,rfl⟩
   · rintro k d ρ1 M1 hd ⟨rfl,hk0,st,kn,x4,x5,x6,q1,q2,hz1,hz2,hI,rfl⟩
     rw[zF] at hd
     obtain⟨l,hlk,rfl⟩:=Option.map_eq_some_iff.mp hd
     have hk:=(yT.mp hlk).1
     have hr:=hreal l (yN hlk)
     have hdrop:(dsL C).drop k=l.2::(dsL C).drop (k+1):=by
       rw[b8Z (by rw[zX];exact hk)]
       congr 1
       rw[List.getElem_map,(yT.mp hlk).2]
     rw[hdrop,OM] at hI
     rw[show AL l = .tuple [.str l.1,l.2.d] from rfl]
     have hl1:(DZ l.2).length<=1:=by unfold DZ;cases l.2.made <;> simp
     have hwl:(GE l.2).length<=2:=by cases l.2 <;> simp[GE]
     have hmz:∀z∈DZ l.2,AO z:=fun z hz=>JH hr (D5.mp hz)
     walk_at "r"
     refine G2 hr ?_
     walk_at "r"
     refine LT ?_
     walk_at "r"
     refine AF (AQ 0) (by simp[BP,BQ,BR,BS]) ?_
     refine AW ?_
     walk_at "r"
     refine⟨by rw[zX];exact zQ hl1 (by decide),fun _=>true,fun d=>.bool ((kn.map a0W).any fun e=>a0X e d),?_,?_⟩
     · intro d hd M'
       obtain⟨z,hz,rfl⟩:=zL.mp hd
       walk_at "dl"
       refine⟨rfl,?_⟩
       walk_at "dl"
       refine⟨rfl,rfl,fun _=>?_⟩
       walk_at "r"
       refine UQ (ds:=kn.map .str) (AM (hmz z hz)) (JB fun z hz=>C6 (hz2 z hz)) ?_
       exact⟨rfl,rfl⟩
     rw[LD,oX]
     walk_at "r"
     refine U8 ?_
     rw[K3]
     cases h1:(DZ l.2).any fun x=>decide (x∈kn) with
     | true=>
       walk_at "r"
       exact fin _ false rfl (by rw[hI];unfold UX;rw[h1];rfl)
     | false=>
       walk_at "r"
       refine AF (AQ 0) (by simp[BP,BQ,BR,BS]) ?_
       refine C0 ?_
       walk_at "r"
       refine G2 hr ?_
       refine⟨_,rfl,by rw[zX];exact zQ hwl (by decide),fun _=>true,fun d=>.bool (!((st.map a0W).any fun e=>a0X e d)),?_,?_⟩
       · intro d hd M'
         obtain⟨z,hz,rfl⟩:=zL.mp hd
         walk_at "dl"
         refine⟨rfl,?_⟩
         walk_at "dl"
         refine⟨rfl,rfl,fun _=>?_⟩
         walk_at "r"
         refine UQ (ds:=st.map .str) (AM (NO hr (by rw[MF hr];exact hz))) (JB fun z hz=>C6 (hz1 z hz)) ?_
         exact⟨rfl,rfl⟩
       rw[LD,l7]
       walk_at "r"
       refine U8 ?_
       rw[K3]
       cases h2:(GE l.2).any fun x=>!decide (x∈st) with
       | true=>
         walk_at "r"
         exact fin _ false rfl (by rw[hI];unfold UX;rw[h1,h2];rfl)
       | false=>
         walk_at "r"
         refine CT (by rw[zX,zX];exact zN (show _<=200 by omega) (by decide)) ?_
         rw[← xI]
         walk_at "r"
         refine AF (AQ 0) (by simp[BP,BQ,BR,BS]) ?_
         refine AW ?_
         walk_at "r"
         refine⟨by rw[zX];exact zQ (show _<=200 by omega) (by decide),wQ (UW l.2),id,?_,?_⟩
         · intro d hd M'
           obtain⟨z,hz,rfl⟩:=zL.mp hd
           walk_at "dl"
           refine⟨rfl,?_⟩
           walk_at "r"
           refine G2 hr ?_
           refine K2 (ds:=(UW l.2).map .str) (AM (hz1 z hz)) (O2 fun y hy=>JG hr (by simpa [UW] using hy)) ?_
           refine⟨_,rfl,rfl,rfl,fun _=>?_⟩
           walk_at "r"
           exact⟨rfl,rfl⟩
         rw[kT]
         walk_at "r"
         have hfl:=yJ (fun z=>!decide (z∈UW l.2)) st
         refine CT (by rw[zX,zX];exact zN (show _<=200 by omega) (by decide)) ?_
         rw[← xI]
         walk_at "r"
         refine⟨rfl,by omega,XS st l.2,kn++DZ l.2,_,_,_,by unfold XS;rw[yY];omega,by rw[yY];omega,fun z hz=>?_,fun z hz=>?_,?_,rfl⟩
         · unfold XS at hz
           rcases yW.mp hz with q | q
           · exact hz1 z (yL.mp q).1
           · exact hmz z q
         · rcases yW.mp hz with q | q
           · exact hz2 z q
           · exact hmz z q
         · rw[hI];unfold UX;rw[h1,h2];rfl
   · rintro ρ1 M1 ⟨rfl,_,st,kn,x4,x5,x6,_,_,_,_,hI,rfl⟩
     rw[zX,List.drop_of_length_le (by rw[zX];exact zR _)] at hI
     walk_at "r"
     exact fin _ true rfl hI
end
def N8:List Str:=["_law_numbers", "_law_found", "_law_number"]
def JQ:List Str:=["_law_some", "_law_number"]
def JR:List (Option Nat):=[none,some 2]
theorem RM:JQ.Nodup:=by decide +kernel
theorem N9:FnScope N8 ["_law_numbers"] (AB EV):=⟨rfl,rfl,rfl,by decide +kernel,rfl,by decide +kernel,by decide +kernel⟩
section
local macro_rules | `(tactic| walk_at "cs")=>`(tactic| first | exact @DW _ _ JQ JR (AB EV) N8 (by decide +kernel) (by decide +kernel) rfl rfl)
theorem VL {f:Addr}{fd:FuncData}(F:Fun K "_law_sets" "_law_sets" EV f fd):FnOk P w K mg base CX0 1 f fd ["_law_numbers"] (spD K 1 JJ):=by
 refine fnD F N9 fun cdv A outer s H E hr=>?_
 have hu:=hr.units
 have nd:=N9.nd
 have n0:=RM
 refine⟨_,by walk_at "b2", ?_⟩
 clear nd n0
 rintro xs M hl ⟨κ,rfl,hκ⟩
 have hn2:AD κ=κ.map fun n:Nat=>a3Q (n:Int):=by unfold AD EB;rw[zD];rfl
 walk_at "r"
 refine CV ?_
 walk_at "r"
 · refine HP ?_
   refine AW ?_
   walk_at "r"
   refine⟨fun k ρ1 M1=>M1=M/\∃x:Option DS,ρ1=[some (.d (.list (AD κ))),some (.d (.list ((BX (κ.take k)).map chD))),x],⟨rfl,_,rfl⟩,?_,?_⟩
   · rintro k d ρ1 M1 hd ⟨rfl,x,rfl⟩
     rw[hn2,zF] at hd
     obtain⟨n,hn,rfl⟩:=Option.map_eq_some_iff.mp hd
     have hk:k < κ.length:=(yT.mp hn).1
     have htk:κ.take (k+1)=κ.take k++[n]:=by rw[a5W,hn];rfl
     have hlk:(BX (κ.take k)).length<=2048:=by
       rw[l0,a1Q,a8W (xR hk)]
       exact Nat.pow_le_pow_right (by decide) (show k<=11 by omega)
     walk_at "r"
     refine AF (AQ 0) (by simp[JR]) ?_
     refine AW ?_
     walk_at "r"
     refine⟨by rw[zX];exact zQ hlk (by decide),fun _=>true,qH n,?_,?_⟩
     · intro d hd M'
       obtain⟨s,hs,rfl⟩:=zL.mp hd
       have hsl:=(XV _ s hs).length_le
       rw[a1Q] at hsl
       walk_at "dl"
       refine⟨rfl,?_⟩
       walk_at "dl"
       refine⟨rfl,rfl,fun _=>?_⟩
       walk_at "r"
       refine FS (as:=AD s) (by rw[AV];exact zN (show _<=50 by simp;omega) (by decide)) ?_
       exact⟨rfl,rfl⟩
     rw[LD,l9]
     walk_at "r"
     refine CT (by rw[zX,zX,zX];exact zN (show _<=4096 by omega) (by decide)) ?_
     rw[← xI,← K5,← htk]
     walk_at "r"
     exact⟨rfl,_,rfl⟩
   · rintro ρ1 M1 ⟨rfl,x,rfl⟩
     rw[AV,a6K]
     walk_at "r"
     refine⟨_,zT _,fun κ' e=>?_⟩
     simp only[List.cons.injEq,DS.d.injEq,PyData.list.injEq,and_true] at e
     obtain rfl:=G1 e
     exact⟨rfl,rfl⟩
end
def aG:List Str:=["_law_script", "_law_one", "_law_other", "_law_first", "_law_told", "_law_going_here", "_law_seen", "_law_out", "_law_rest"]
def YD:List Str:=["_law_k", "_law_other", "_law_out"]
def RN:List (Option Nat):=[none,some 2,some 7]
theorem lH:YD.Nodup:=by decide +kernel
def YE:List Str:=["_law_number", "_law_out"]
def RO:List (Option Nat):=[none,some 7]
theorem lI:YE.Nodup:=by decide +kernel
theorem lJ:FnScope aG ["_law_script"] (AB TD):=⟨rfl,rfl,rfl,by decide +kernel,rfl,by decide +kernel,by decide +kernel⟩
section
local macro_rules | `(tactic| walk_at "cs")=>`(tactic| first | exact @DW _ _ YD RN (AB TD) aG (by decide +kernel) (by decide +kernel) rfl rfl | exact @DW _ _ YE RO (AB TD) aG (by decide +kernel) (by decide +kernel) rfl rfl)
local macro_rules | `(tactic| walk_at "x")=>`(tactic| first | ((with_reducible show PS _ (.Assign [.Tuple ..] ..) _);exact @TM _ _ _ _ _ _ (by walk_at "e") (by walk_at "g") (by rfl) (by rfl) (by rfl)) | ((with_reducible show PG _ (.Tuple ..) _);exact @bJ _ K _ _ _ _ (2) rfl rfl (by walk_at "j") (by rfl) (by rfl)) | ((with_reducible show PT _ (.Compare _ [.NotIn] ..) _);exact @BY _ _ _ _ _ _ _ _ (@P7 _ K rfl hu) (by walk_at "e") (by walk_at "e") (by with_unfolding_all rfl)) | ((with_reducible show PE _ (.Compare _ [.In] ..) _);exact @D7 _ _ _ _ _ _ _ _ (@eL _ K rfl hu) (by walk_at "e") (by walk_at "e") (by with_unfolding_all rfl)))
local macro_rules | `(tactic| walk_at "y")=>`(tactic| first | ((with_reducible show PE _ (.Call (.Name (a0Q "list") _) ..) _);exact @JS _ _ _ _ _ _ _ _ _ (@pU _ K rfl) (by rfl) n_list b1K (by walk_at "a") (by decide) (by decide) (by rfl) (by rfl)) | ((with_reducible show PE _ (.Call (.Name (a0Q "list") _) [.Call ..] ..) _);exact @T9 _ _ _ _ _ _ _ _ hr.hd rfl n_range rfl n_list (by walk_at "a") (by rfl) (by rfl) (by rfl)))
theorem uI {f:Addr}{fd:FuncData}(F:Fun K "law" "law" TD f fd) (n_all:mg "all"=none) (n_len:mg "len"=none) (n_list:mg "list"=none) (n_range:mg "range"=none) (h__law_going:Has P w K mg base "_law_going" 2 ["_law_lines_here", "_law_out"] HH) (h__law_is_book:Has P w K mg base "_law_is_book" 2 ["_law_start_here", "_law_lines_here"] EG) (h__law_sets:Has P w K mg base "_law_sets" 1 ["_law_numbers"] JJ) (h__law_two:Has P w K mg base "_law_two" 4 ["_law_script"] MH) (h_carried:Has P w K mg base "carried" 7 ["one", "other"] ET) (h_joined:Has P w K mg base "joined" 6 ["one", "other"] EE) (h_shared:Has P w K mg base "shared" 2 ["one", "other"] CY):FnOk P w K mg base CX0 8 f fd ["_law_script"] (spD K 1 WP):=by
 refine fnD F lJ fun cdv A outer s H E hr=>?_
 have hu:=hr.units
 have nd:=lJ.nd
 have n0:=lH
 have n1:=lI
 refine⟨_,by walk_at "b2", ?_⟩
 clear nd n0 n1
 rintro xs M hl ⟨ns,rfl,hns,hbits⟩
 walk_at "r"
 refine HS ?_
 walk_at "r"
 refine a6 hbits fun w A B h=>?_
 obtain⟨⟨hw,ha,hb⟩,bA,bB,la,lb,lw⟩:=id h
 obtain⟨l1,l2,l3⟩:=K4 A B
 have hT:=fA bA bB hb.real
 have rl:∀G,(BO A B G).length<=12:=fun G=>zN (yJ _ _) (by rw[HD];omega)
 have pl:∀G,(AS B (BO A B G)).length<=12:=fun G=>by rw[QW fun k hk=>(CH.mp hk).1.2];exact rl G
 have pr:∀G,∀l∈A++AS B (BO A B G),l.2.real:=fun G l hl=>by
   rcases yW.mp hl with q | q
   · exact ha.real l q
   · exact hb.real l (kG q)
 have dsC:∀G,dsL (A++AS B (BO A B G))=dsL A++AS (dsL B) (BO A B G):=fun G=>by rw[← oQ];exact xI
 walk_at "r"
 refine JF ⟨hw,ha,hb⟩ ?_
 walk_at "r"
 refine HS ?_
 walk_at "r"
 refine R9 ⟨hw,ha,hb⟩ ?_
 walk_at "r"
 refine AA (ds:=[wD w,AC (A++AS B (BO A B (AU A B)))]) (d:=wD w) rfl ?_
 walk_at "r"
 refine AA (ds:=[wD w,AC A]) (d:=wD w) rfl ?_
 walk_at "r"
 refine B4 (FK hw) (FK hw) ?_
 rw[if_pos rfl,JE (FK hw)]
 walk_at "r"
 refine AA (ds:=[wD w,AC (A++AS B (BO A B (AU A B)))]) (d:=AC (A++AS B (BO A B (AU A B)))) rfl ?_
 walk_at "r"
 refine AA (ds:=[wD w,AC A]) (d:=AC A) rfl ?_
 walk_at "r"
 refine DC ?_
 rw[zX]
 walk_at "r"
 refine B6 ?_
 rw[UA,← a9X,List.take_left]
 walk_at "r"
 refine AA (ds:=[wD w,AC A]) (d:=AC A) rfl ?_
 walk_at "r"
 refine B4 (IA ha) (IA ha) ?_
 rw[if_pos rfl,JE (IA ha)]
 walk_at "r"
 refine AA (ds:=[wD w,AC (A++AS B (BO A B (AU A B)))]) (d:=wD w) rfl ?_
 walk_at "r"
 refine AA (ds:=[wD w,AC (A++AS B (BO A B (AU A B)))]) (d:=AC (A++AS B (BO A B (AU A B)))) rfl ?_
 walk_at "r"
 refine LT ?_
 walk_at "r"
 refine O3 hw lw (pr _) (by rw[yY];have:=pl (AU A B);omega) ?_
 rw[dsC,R6.mpr hT]
 walk_at "r"
 refine HP ?_
 refine AW ?_
 walk_at "r"
 refine TB ?_
 walk_at "r"
 refine AA (ds:=[wD w,AC B]) (d:=AC B) rfl ?_
 walk_at "r"
 refine DC ?_
 rw[zX]
 walk_at "r"
 refine⟨(AN A B:Int),(B.length:Int),rfl,⟨by omega,by omega,by omega,by omega⟩,by omega,?_⟩
 rw[XM]
 walk_at "r"
 refine fD (by rw[HD];omega) ?_
 refine⟨_,rfl,fun k ρ1 M1=>M1=M/\∃x y:Option DS,ρ1=[some (.d (.list (ns.map .int))),some (.d (AH w A)),some (.d (AH w B)),some (.d (.int (AN A B:Nat))),some (.d (AH w (A++AS B (BO A B (AU A B))))),some (.d (chD (AU A B))),some (.d (.bool (decide (AU A B∈(BX (E6 (AN A B) B.length)).take k)))),x,y],⟨rfl,_,_,by rw[List.take_zero];rfl⟩,?_,?_⟩
 · rintro k d ρ1 M1 hd ⟨rfl,x,y,rfl⟩
   rw[zF] at hd
   obtain⟨s,hs,rfl⟩:=Option.map_eq_some_iff.mp hd
   have hsm:=yN hs
   have hsub:=XV _ s hsm
   have hsl:s.length<=12:=zN hsub.length_le (by rw[HD];omega)
   have htk:(BX (E6 (AN A B) B.length)).take (k+1)=(BX (E6 (AN A B) B.length)).take k++[s]:=by rw[a5W,hs];rfl
   have hmem:decide (AU A B∈(BX (E6 (AN A B) B.length)).take (k+1))=(decide (AU A B∈(BX (E6 (AN A B) B.length)).take k)||decide (s=AU A B)):=by
     rw[htk,a6Z,b6Z,decide_eq_true_iff,decide_eq_true_iff,decide_eq_true_iff,yW,a8X]
     exact or_congr Iff.rfl eq_comm
   walk_at "r"
   refine AF (AQ 0) (by simp[RN,RO]) ?_
   refine oO ?_
   walk_at "r"
   refine AA (ds:=[wD w,AC B]) (d:=AC B) rfl ?_
   walk_at "r"
   refine DC ?_
   rw[zX]
   walk_at "r"
   refine⟨(AN A B:Int),(B.length:Int),rfl,⟨by omega,by omega,by omega,by omega⟩,?_⟩
   rw[lB]
   refine⟨by rw[AV,HD];exact zQ (show _<=50 by omega) (by decide),cCh s,fLn B,?_,?_⟩
   · intro d hd M'
     obtain⟨i,hi,rfl⟩:=zL.mp hd
     obtain⟨k,hk,rfl⟩:=BN.mp hi
     have hk:=BV.mp hk
     obtain⟨l,hlk,hlm,hll,hld⟩:=DU hk.2
     walk_at "dl"
     refine⟨rfl,?_⟩
     walk_at "r"
     refine K2 (ds:=AD s) rfl (BB _) ?_
     refine⟨_,rfl,rfl,rfl,fun _=>?_⟩
     walk_at "r"
     refine AA (ds:=[wD w,AC B]) (d:=AC B) rfl ?_
     walk_at "r"
     refine AA (ds:=B.map AL) (AE hll) ?_
     refine⟨?_,rfl⟩
     show _=DS.d ((B.map AL).getD ((k:Int)).toNat .none)
     rw[a2J,yU,hll];rfl
   rw[a7]
   walk_at "r"
   refine AA (ds:=[wD w,AC B]) (d:=AC B) rfl ?_
   walk_at "r"
   refine V1 (out:=s) (lC hb) (by omega) ?_
   walk_at "r"
   refine LT ?_
   walk_at "r"
   refine B4 (GD _) (GD s) ?_
   rw[if_neg nft,uG]
   by_cases ho:HZ B s=s
   case neg=>
     rw[decide_eq_false ho]
     walk_at "r"
     exact⟨rfl,_,_,by rw[hmem,decide_eq_false (show ¬s=AU A B from fun e=>ho (by rw[e];exact XG)),c0Q];rfl⟩
   rw[decide_eq_true ho]
   walk_at "r"
   refine AA (ds:=[wD w,AC A]) (d:=wD w) rfl ?_
   walk_at "r"
   refine AA (ds:=[wD w,AC A]) (d:=AC A) rfl ?_
   walk_at "r"
   refine LT ?_
   walk_at "r"
   refine CT (a:=A.map AL) (b:=(AS B (BO A B s)).map AL) (by rw[zX,zX];exact zN (show _<=50 by have:=pl s;omega) (by decide)) ?_
   rw[← xI]
   walk_at "r"
   refine O3 (C:=A++AS B (BO A B s)) hw lw (pr s) (by rw[yY];have:=pl s;omega) ?_
   rw[dsC]
   cases hbk:OM (FC w) (FC w) (dsL A++AS (dsL B) (BO A B s)) with
   | false=>
     walk_at "r"
     exact⟨rfl,_,_,by rw[hmem,decide_eq_false (show ¬s=AU A B from fun e=>by rw[e,R6.mpr hT] at hbk;cases hbk),c0Q];rfl⟩
   | true=>
     have least:=ZZ hb.real ho (R6.mp hbk)
     have hgl:(AU A B).length<=50:=zN (NN _ _ _) (by rw[zX];omega)
     walk_at "r"
     refine AF (AQ 0) (by simp[RN,RO]) ?_
     refine C0 ?_
     walk_at "r"
     refine⟨by rw[show((EB (AU A B)).map a3Q).length=(AU A B).length from AV _];exact zQ hgl (by decide),fun _=>true,kE s,?_,?_⟩
     · intro d hd M'
       obtain⟨i,hi,rfl⟩:=zL.mp hd
       walk_at "dl"
       refine⟨rfl,?_⟩
       walk_at "dl"
       refine⟨rfl,rfl,fun _=>?_⟩
       walk_at "r"
       refine K2 (ds:=AD s) rfl (BB _) ?_
       exact⟨rfl,rfl⟩
     rw[LD,show((EB (AU A B)).map a3Q).map (kE s)=_ from uH s (AU A B) least]
     walk_at "r"
     refine tI ?_
     rw[a8]
     cases hseen:decide (AU A B∈(BX (E6 (AN A B) B.length)).take k) with
     | true=>
       walk_at "r"
       exact⟨rfl,_,_,by rw[hmem,hseen,Bool.true_or];rfl⟩
     | false=>
       walk_at "r"
       refine B4 (BB s) (BB _) ?_
       rw[if_neg nft,show a0X (chD s) (chD (AU A B))=_ from lA _ _]
       walk_at "r"
       exact⟨rfl,_,_,by rw[hmem,hseen,c0X];rfl⟩
 · rintro ρ1 M1 ⟨rfl,x,y,rfl⟩
   rw[zX,a6K,decide_eq_true l4]
   walk_at "r"
   refine B4 (BB (AU A B)) (BB []) ?_
   rw[if_neg nft,show a0X (chD (AU A B)) (.tuple [])=decide (AU A B=[]) from lA _ []]
   by_cases hg0:AU A B=[]
   case neg=>
     rw[decide_eq_false hg0]
     walk_at "r"
     exact⟨_,zT _,rfl⟩
   rw[decide_eq_true hg0]
   walk_at "r"
   refine RV ⟨hw,ha,hb⟩ fun d hd=>?_
   rcases hd with ⟨e,rfl⟩ | ⟨q,rfl,hq⟩
   · walk_at "r"
     refine AA (ds:=[.str (a0Q "joined"),e]) (d:=.str (a0Q "joined")) rfl ?_
     walk_at "r"
     refine B4 (by decide +kernel) (by decide +kernel) ?_
     rw[if_pos rfl,show a0X (.str (a0Q "joined")) (.str (a0Q "joined"))=true from by decide +kernel]
     walk_at "r"
     exact⟨_,zT _,rfl⟩
   · exact absurd hq fun q=>fB hb.real hg0 q
end
end
end DL
namespace DL
open PySem PySem.Spec L2 XC
local macro_rules | `(tactic| walk_at "b1")=>`(tactic| exact fun _ _ _ _ _ _ us hl=>match us,hl with | [_],_=>rfl)
local macro_rules | `(tactic| walk_at "b2")=>`(tactic| exact fun _ _ _ _ _ _ us hl=>match us,hl with | [_,_],_=>rfl)
local macro_rules | `(tactic| walk_at "b3")=>`(tactic| exact fun _ _ _ _ _ _ us hl=>match us,hl with | [_,_,_],_=>rfl)
theorem uJ {l:PySem.W.OpenLaw}{w:World}{K:Frg}{h:Heap}{mg:Str->Option Value}{fa:Addr}{C_S:Addr}{a_FORMS:Addr}{ep_FORMS:Nat}{tk_FORMS_0 tv_FORMS_0:Tok}{tk_FORMS_1 tv_FORMS_1:Tok}{tk_FORMS_2 tv_FORMS_2:Tok}{tk_FORMS_3 tv_FORMS_3:Tok}{tk_FORMS_4 tv_FORMS_4:Tok}{tk_FORMS_5 tv_FORMS_5:Tok}{tk_FORMS_6 tv_FORMS_6:Tok}{C_NoLine N_NoLine:Addr}{nm_NoLine q_NoLine:Str}{bs_NoLine sb_NoLine:List Value}{sn_NoLine:List Str}{ab_NoLine:Bool}{co_NoLine:Option Bool}{dd_NoLine:Option Addr}{k0_NoLine k1_NoLine k2_NoLine k3_NoLine k5_NoLine:Option Value}{fc_NoLine:Addr}{odc_NoLine anc_NoLine:Option Addr}{slc_NoLine:Array (Option Value)}{occ_NoLine kVc_NoLine dcc_NoLine pmc_NoLine cdc_NoLine ctc_NoLine:Value}
   (X:K.In h) (G:h.Ns mainGlobals mg) (hfa:mg "law"=some (.ref fa))
   (b0:FnIn K "is_whole" IE)
   (b1:FnIn K "is_within" GF)
   (b2:FnIn K "same_ahead" E3)
   (b3:FnIn K "form_of" K6)
   (b4:FnIn K "names_in" IF)
   (b5:FnIn K "made_by" K7)
   (b6:FnIn K "ended_by" IG)
   (b7:FnIn K "must_stand" E1)
   (b8:FnIn K "deeds_of" G3)
   (b9:FnIn K "makers" HI)
   (b10:FnIn K "book_of" HJ)
   (b11:FnIn K "is_number" GG)
   (b12:FnIn K "needs" MJ)
   (b13:FnIn K "asking_for" E2)
   (b14:FnIn K "chains_by_ends" BE)
   (b15:FnIn K "goes" V2)
   (b16:FnIn K "shared" MK)
   (b17:FnIn K "own_lines" GH)
   (b18:FnIn K "same_name" GI)
   (b19:FnIn K "first_ahead_of" CN)
   (b20:FnIn K "joined" ML)
   (b21:FnIn K "is_barred" D6)
   (b22:FnIn K "carried" FM)
   (b23:FnIn K "_law_mixed" FD)
   (b24:FnIn K "_law_take" GJ)
   (b25:FnIn K "_law_names" CO)
   (b26:FnIn K "_law_deed" EU)
   (b27:FnIn K "_law_after" CP)
   (b28:FnIn K "_law_start" E4)
   (b29:FnIn K "_law_lines" FE)
   (b30:FnIn K "_law_begun" FF)
   (b31:FnIn K "_law_made" GK)
   (b32:FnIn K "_law_ended" FG)
   (b33:FnIn K "_law_wanted" EJ)
   (b34:FnIn K "_law_going" CQ)
   (b35:FnIn K "_law_is_book" B7)
   (b36:FnIn K "_law_two" IH)
   (b37:FnIn K "_law_sets" EV)
   (b38:FnIn K "law" TD)
   (z_all:a2W K mainGlobals "all"=some none)
   (z_any:a2W K mainGlobals "any"=some none)
   (z_bool:a2W K mainGlobals "bool"=some none)
   (z_divmod:a2W K mainGlobals "divmod"=some none)
   (z_enumerate:a2W K mainGlobals "enumerate"=some none)
   (z_int:a2W K mainGlobals "int"=some none)
   (z_isinstance:a2W K mainGlobals "isinstance"=some none)
   (z_len:a2W K mainGlobals "len"=some none)
   (z_list:a2W K mainGlobals "list"=some none)
   (z_range:a2W K mainGlobals "range"=some none)
   (z_sorted:a2W K mainGlobals "sorted"=some none)
   (z_str:a2W K mainGlobals "str"=some none)
   (z_sum:a2W K mainGlobals "sum"=some none)
   (z_tuple:a2W K mainGlobals "tuple"=some none)
   (z_zip:a2W K mainGlobals "zip"=some none)
   (y_FORMS:a2W K mainGlobals "FORMS"=some (some (.ref a_FORMS)))
   (x_FORMS:K.lookup a_FORMS=some { cls:=.type "dict", data:=.dict #[{ hash:=a9V w.params (a0Q "put"),key:=.str (a0Q "put") tk_FORMS_0,val:=.str (a0Q "npk") tv_FORMS_0 },{ hash:=a9V w.params (a0Q "take"),key:=.str (a0Q "take") tk_FORMS_1,val:=.str (a0Q "n") tv_FORMS_1 },{ hash:=a9V w.params (a0Q "move"),key:=.str (a0Q "move") tk_FORMS_2,val:=.str (a0Q "np") tv_FORMS_2 },{ hash:=a9V w.params (a0Q "count"),key:=.str (a0Q "count") tk_FORMS_3,val:=.str (a0Q "nk") tv_FORMS_3 },{ hash:=a9V w.params (a0Q "name"),key:=.str (a0Q "name") tk_FORMS_4,val:=.str (a0Q "nn") tv_FORMS_4 },{ hash:=a9V w.params (a0Q "split"),key:=.str (a0Q "split") tk_FORMS_5,val:=.str (a0Q "nnpk") tv_FORMS_5 },{ hash:=a9V w.params (a0Q "join"),key:=.str (a0Q "join") tk_FORMS_6,val:=.str (a0Q "nn") tv_FORMS_6 }] ep_FORMS })
   (s_FORMS:(a_FORMS==sysModules)=false)
   (ac_NoLine:a2W K mainGlobals "NoLine"=some (some (.ref C_NoLine))) (lc_NoLine:K.lookup C_NoLine=some (excClassObj nm_NoLine q_NoLine C_NoLine N_NoLine bs_NoLine (.ref C_S::XC.bmV) true sn_NoLine sb_NoLine ab_NoLine co_NoLine dd_NoLine k0_NoLine k1_NoLine k2_NoLine k3_NoLine k5_NoLine "ValueError.__new__")) (kc_NoLine:a5Q K (.ref C_NoLine)=true)
   (ic_NoLine:b3J K (.ref C_NoLine) "__init__"=some (some (.ref fc_NoLine)))
   (fl_NoLine:K.lookup fc_NoLine=some ⟨occ_NoLine,odc_NoLine,.func (a7J "__init__" "NoLine.__init__" (EH CB) (BZ CB) (AB CB) .none kVc_NoLine dcc_NoLine pmc_NoLine anc_NoLine cdc_NoLine ctc_NoLine),slc_NoLine⟩)
   (cc_NoLine:b3K K cdc_NoLine "NoLine.__init__"=true) (if_NoLine:PySem.W.isFn K (.ref fc_NoLine)=true) (kf_NoLine:a5Q K (.ref fc_NoLine)=true)
   (sa_NoLine:b3J K (.ref C_NoLine) "__setattr__"=some (some (.builtin "object.__setattr__"))) (ta_NoLine:PySem.W.takerIn K C_NoLine "line"=some none) :
   ∃fd:FuncData,(∀(s:Shared) (v:Value),BindsTo s fd ⟨[v],[]⟩ [("_law_script", v)])/\∀base:Heap,K.In base->base.Ns mainGlobals mg->FnOk l.prog w K mg base CX0 8 fa fd ["_law_script"] (spD K 1 WP):=by
 obtain⟨f0,d0,A0⟩:=b0.at X G
 obtain⟨f1,d1,A1⟩:=b1.at X G
 obtain⟨f2,d2,A2⟩:=b2.at X G
 obtain⟨f3,d3,A3⟩:=b3.at X G
 obtain⟨f4,d4,A4⟩:=b4.at X G
 obtain⟨f5,d5,A5⟩:=b5.at X G
 obtain⟨f6,d6,A6⟩:=b6.at X G
 obtain⟨f7,d7,A7⟩:=b7.at X G
 obtain⟨f8,d8,A8⟩:=b8.at X G
 obtain⟨f9,d9,A9⟩:=b9.at X G
 obtain⟨f10,d10,A10⟩:=b10.at X G
 obtain⟨f11,d11,A11⟩:=b11.at X G
 obtain⟨f12,d12,A12⟩:=b12.at X G
 obtain⟨f13,d13,A13⟩:=b13.at X G
 obtain⟨f14,d14,A14⟩:=b14.at X G
 obtain⟨f15,d15,A15⟩:=b15.at X G
 obtain⟨f16,d16,A16⟩:=b16.at X G
 obtain⟨f17,d17,A17⟩:=b17.at X G
 obtain⟨f18,d18,A18⟩:=b18.at X G
 obtain⟨f19,d19,A19⟩:=b19.at X G
 obtain⟨f20,d20,A20⟩:=b20.at X G
 obtain⟨f21,d21,A21⟩:=b21.at X G
 obtain⟨f22,d22,A22⟩:=b22.at X G
 obtain⟨f23,d23,A23⟩:=b23.at X G
 obtain⟨f24,d24,A24⟩:=b24.at X G
 obtain⟨f25,d25,A25⟩:=b25.at X G
 obtain⟨f26,d26,A26⟩:=b26.at X G
 obtain⟨f27,d27,A27⟩:=b27.at X G
 obtain⟨f28,d28,A28⟩:=b28.at X G
 obtain⟨f29,d29,A29⟩:=b29.at X G
 obtain⟨f30,d30,A30⟩:=b30.at X G
 obtain⟨f31,d31,A31⟩:=b31.at X G
 obtain⟨f32,d32,A32⟩:=b32.at X G
 obtain⟨f33,d33,A33⟩:=b33.at X G
 obtain⟨f34,d34,A34⟩:=b34.at X G
 obtain⟨f35,d35,A35⟩:=b35.at X G
 obtain⟨f36,d36,A36⟩:=b36.at X G
 obtain⟨f37,d37,A37⟩:=b37.at X G
 obtain⟨f38,d38,A38⟩:=b38.at X G
 have e:=hfa.symm.trans A38.mg_
 cases e
 have n_all:=a1W X G z_all
 have n_any:=a1W X G z_any
 have n_bool:=a1W X G z_bool
 have n_divmod:=a1W X G z_divmod
 have n_enumerate:=a1W X G z_enumerate
 have n_int:=a1W X G z_int
 have n_isinstance:=a1W X G z_isinstance
 have n_len:=a1W X G z_len
 have n_list:=a1W X G z_list
 have n_range:=a1W X G z_range
 have n_sorted:=a1W X G z_sorted
 have n_str:=a1W X G z_str
 have n_sum:=a1W X G z_sum
 have n_tuple:=a1W X G z_tuple
 have n_zip:=a1W X G z_zip
 have g_FORMS:∃a,mg "FORMS"=some (.ref a)/\GDict w K a NY:=⟨_,PySem.W.mg_of X G y_FORMS,s_FORMS,by decide +kernel,_,_,x_FORMS,rfl,⟨_,rfl⟩,⟨_,rfl⟩,rfl,⟨_,rfl⟩,⟨_,rfl⟩,rfl,⟨_,rfl⟩,⟨_,rfl⟩,rfl,⟨_,rfl⟩,⟨_,rfl⟩,rfl,⟨_,rfl⟩,⟨_,rfl⟩,rfl,⟨_,rfl⟩,⟨_,rfl⟩,rfl,⟨_,rfl⟩,⟨_,rfl⟩,trivial⟩
 have xc_NoLine:XC.XCls K C_NoLine C_S (.ref fc_NoLine):=⟨⟨_,_,_,_,_,_,_,_,_,_,_,_,_,_,lc_NoLine⟩,ic_NoLine,kc_NoLine⟩
 have Fc_NoLine:=gJ (st:=CB) fl_NoLine cc_NoLine kf_NoLine
 have q_NoLine:=PySem.W.mg_of X G ac_NoLine
 refine⟨d38,fun s v=>?_,fun base _ _=>?_⟩
 · obtain⟨oc,od,kV,doc,pm,an,cdv,ct,osl,e,_,_⟩:=A38.fn.ex
   subst e
   exact .of_eq rfl
 have r_NoLine:HasR l.prog w K mg base "NoLine" "line" C_NoLine C_S:=⟨fc_NoLine,_,["self", "line"],xc_NoLine,if_NoLine,YA Fc_NoLine xc_NoLine ⟨sa_NoLine,ta_NoLine⟩,Fc_NoLine.binds (ps:=["self", "line"]) fun _ _ _ _ _ _ us hl=>match us,hl with | [_,_],_=>rfl,PySem.W.mg_of X G ac_NoLine⟩
 have h_is_whole:Has l.prog w K mg base "is_whole" 1 ["thing"] L7:=A0.has (Y0 A0.fn n_bool n_int n_isinstance) (by walk_at "b1")
 have h_is_within:Has l.prog w K mg base "is_within" 2 ["thing", "low", "high"] EK:=A1.has (V4 A1.fn h_is_whole) (by walk_at "b3")
 have h_same_ahead:Has l.prog w K mg base "same_ahead" 1 ["things", "others"] DY:=A2.has (S0 A2.fn n_zip) (by walk_at "b2")
 have h_form_of:Has l.prog w K mg base "form_of" 1 ["word"] NH:=A3.has (aA A3.fn n_isinstance n_str g_FORMS) (by walk_at "b1")
 have h_names_in:Has l.prog w K mg base "names_in" 2 ["deed"] LB:=A4.has (Y2 A4.fn h_form_of) (by walk_at "b1")
 have h_made_by:Has l.prog w K mg base "made_by" 1 ["deed"] FH:=A5.has (aC A5.fn ) (by walk_at "b1")
 have h_ended_by:Has l.prog w K mg base "ended_by" 1 ["deed"] FW:=A6.has (Y4 A6.fn ) (by walk_at "b1")
 have h_must_stand:Has l.prog w K mg base "must_stand" 3 ["deed"] DH:=A7.has (RX A7.fn n_tuple h_made_by h_names_in) (by walk_at "b1")
 have h_deeds_of:Has l.prog w K mg base "deeds_of" 1 ["book"] EC:=A8.has (Y5 A8.fn n_tuple) (by walk_at "b1")
 have h_makers:Has l.prog w K mg base "makers" 2 ["book"] JD:=A9.has (fG A9.fn n_enumerate h_deeds_of h_made_by) (by walk_at "b1")
 have h_book_of:Has l.prog w K mg base "book_of" 1 ["book", "numbers"] ER:=A10.has (aE A10.fn n_tuple) (by walk_at "b2")
 have h_is_number:Has l.prog w K mg base "is_number" 3 ["book", "thing"] D3:=A11.has (V6 A11.fn n_len h_is_within) (by walk_at "b2")
 have h_needs:Has l.prog w K mg base "needs" 4 ["book", "number"] M9:=A12.has (lG A12.fn n_sorted n_tuple h_is_number h_makers h_must_stand) (by walk_at "b2")
 have h_asking_for:Has l.prog w K mg base "asking_for" 4 ["book", "numbers", "name"] MC:=A13.has (RZ A13.fn n_tuple h_must_stand) (by walk_at "b3")
 have h_chains_by_ends:HasX l.prog w K mg base "chains_by_ends" 5 ["book", "struck"] (GB C_NoLine kC):=A14.hasX (MP A14.fn n_len n_range r_NoLine h_is_number h_needs) (by walk_at "b2")
 have h_goes:HasX l.prog w K mg base "goes" 6 ["book", "struck"] (GB C_NoLine X8):=A15.hasX (p7 A15.fn n_sorted n_tuple h_chains_by_ends) (by walk_at "b2")
 have h_shared:Has l.prog w K mg base "shared" 2 ["one", "other"] CY:=A16.has (fI A16.fn h_same_ahead) (by walk_at "b2")
 have h_own_lines:Has l.prog w K mg base "own_lines" 1 ["book", "common"] IC:=A17.has (V9 A17.fn n_len n_list n_range) (by walk_at "b2")
 have h_same_name:Has l.prog w K mg base "same_name" 2 ["one", "other", "common"] HF:=A18.has (VB A18.fn h_ended_by h_made_by h_own_lines) (by walk_at "b3")
 have h_first_ahead_of:Has l.prog w K mg base "first_ahead_of" 5 ["book", "number", "line"] FL:=A19.has (MU A19.fn n_len h_asking_for h_ended_by h_own_lines) (by walk_at "b3")
 have h_joined:Has l.prog w K mg base "joined" 6 ["one", "other"] EE:=A20.has (fK A20.fn n_len h_first_ahead_of h_same_name h_shared) (by walk_at "b2")
 have h_is_barred:Has l.prog w K mg base "is_barred" 4 ["deed", "row"] EF:=A21.has (VC A21.fn n_any h_ended_by h_made_by h_must_stand) (by walk_at "b2")
 have h_carried:Has l.prog w K mg base "carried" 7 ["one", "other"] ET:=A22.has (aF A22.fn n_tuple h_goes h_book_of h_deeds_of h_is_barred h_own_lines h_shared) (by walk_at "b2")
 have h__law_mixed:Has l.prog w K mg base "_law_mixed" 1 ["_law_cell"] C7:=A23.has (S5 A23.fn ) (by walk_at "b1")
 have h__law_take:Has l.prog w K mg base "_law_take" 1 ["_law_pack", "_law_size"] BC:=A24.has (VG A24.fn n_divmod) (by walk_at "b2")
 have h__law_names:Has l.prog w K mg base "_law_names" 2 ["_law_pack", "_law_amount"] DF:=A25.has (S3 A25.fn n_range h__law_take) (by walk_at "b2")
 have h__law_deed:Has l.prog w K mg base "_law_deed" 2 ["_law_pack", "_law_some", "_law_spare"] EO:=A26.has (VH A26.fn n_int n_len h__law_take) (by walk_at "b3")
 have h__law_after:Has l.prog w K mg base "_law_after" 1 ["_law_deed_here", "_law_some", "_law_spare"] DJ:=A27.has (S6 A27.fn ) (by walk_at "b3")
 have h__law_start:Has l.prog w K mg base "_law_start" 2 ["_law_pack", "_law_names_here", "_law_amount"] DK:=A28.has (S7 A28.fn n_range n_sorted n_tuple h__law_take) (by walk_at "b3")
 have h__law_lines:Has l.prog w K mg base "_law_lines" 3 ["_law_some", "_law_spare", "_law_cells"] HE:=A29.has (S9 A29.fn h__law_after h__law_deed h__law_mixed h__law_take) (by walk_at "b3")
 have h__law_begun:Has l.prog w K mg base "_law_begun" 3 ["_law_head"] HG:=A30.has (SD A30.fn h__law_mixed h__law_names h__law_start h__law_take) (by walk_at "b1")
 have h__law_made:Has l.prog w K mg base "_law_made" 1 ["_law_deed_here"] ME:=A31.has (VJ A31.fn ) (by walk_at "b1")
 have h__law_ended:Has l.prog w K mg base "_law_ended" 1 ["_law_deed_here"] NS:=A32.has (SG A32.fn ) (by walk_at "b1")
 have h__law_wanted:Has l.prog w K mg base "_law_wanted" 1 ["_law_deed_here"] ID:=A33.has (RL A33.fn ) (by walk_at "b1")
 have h__law_going:Has l.prog w K mg base "_law_going" 2 ["_law_lines_here", "_law_out"] HH:=A34.has (SH A34.fn n_any n_len n_range h__law_made h__law_wanted) (by walk_at "b2")
 have h__law_is_book:Has l.prog w K mg base "_law_is_book" 2 ["_law_start_here", "_law_lines_here"] EG:=A35.has (OZ A35.fn n_any n_list h__law_ended h__law_made h__law_wanted) (by walk_at "b2")
 have h__law_two:Has l.prog w K mg base "_law_two" 4 ["_law_script"] MH:=A36.has (YC A36.fn n_sum n_tuple h__law_begun h__law_lines h__law_mixed h__law_take) (by walk_at "b1")
 have h__law_sets:Has l.prog w K mg base "_law_sets" 1 ["_law_numbers"] JJ:=A37.has (VL A37.fn ) (by walk_at "b1")
 exact uI A38.fn n_all n_len n_list n_range h__law_going h__law_is_book h__law_sets h__law_two h_carried h_joined h_shared
theorem uK {K:Frg}{H:Hp}{a:Addr}{ns:List Int}(hl:ns.length<=63) (hb:∀i∈ns,xJ i<=2 ^ 20) (hS:SqL K H a (ns.map V.int)):spD K 1 WP [.ref a] H (fun v _=>v = .bl true) fun _ _ _=>False:=by
 refine⟨[.d (.list (ns.map .int))],fun _=>none,rfl,(fun a o e=>nomatch e),⟨.ref a,[],rfl,?_,rfl⟩,⟨ns,rfl,hl,hb⟩,fun x M' v H' post st oa si=>?_⟩
 · unfold SI DV
   refine⟨a,ns.map V.int,rfl,?_,EQ⟩
   rcases hS with h | h
   · exact .inl ⟨fun w=>w rfl,h⟩
   · exact .inr h
 · have e:x = .d (.bool true):=post
   subst e
   exact pQ si
theorem xW {l:PySem.W.OpenLaw}{q:Program}{loose:List Str}{XP:(Str->Option Value)->Heap->Prop}{YP:World->Heap->Prop}{d:DefRec}{K:Params->Frg}(hn:l.most=some 63) (hdf:d.params.defaults=[])
   (hY:∀(w:World) (h:Heap),YP w h->(K w.params).In h)
   (F:∀(w:World) (mg:Str->Option Value) (fa:Addr) (h:Heap),(K w.params).In h->h.Ns mainGlobals mg->mg d.name=some (.ref fa) ->
     ∃fd:FuncData,(∀(s:Shared) (u:Value),BindsTo s fd ⟨[u],[]⟩ [("_law_script", u)])/\∀base:Heap,(K w.params).In base->base.Ns mainGlobals mg->FnOk l.prog w (K w.params) mg base CX0 8 fa fd ["_law_script"] (spD (K w.params) 1 WP)) :
   PySem.W.WalkO q loose XP YP l.row.toRowW d [] (fun f vs=>PySem.call f vs):=
 L2.iK (n:=63) (k:=8) (x:= "_law_script") (CX:=fun _=>CX0) (sp:=fun w=>spD (K w.params) 1 WP) hn (by decide) hdf ⟨rfl,by decide,by decide⟩ hY F (fun _ _ a ns hl hb _ hS=>uK hl hb hS) fun _ _ _ _ _ z=>z
end DL
open PySem PySem.W PyProof.Rows
set_option maxRecDepth 100000 in
set_option maxHeartbeats 0 in
theorem PySem.Challenge.cw_struckdeeds_k59_whole_the_least_carried_holds : PySem.Challenge.rw_struckdeeds_k59_whole_the_least_carried.Holds := by
 w_on
 refine PySem.W.holds_law DL.hS fun said=>?_
 refine PySem.W.holds_open (q:=DL.hV) (loose:=[a0Q "FORMS"]) (Xt:=(fun s=>PySem.W.xlAt DL.hV [] s&&PySem.W.recOk (b2V (b1Q (b3Q PySem.Challenge.rw_struckdeeds_k59_whole_the_least_carried))) s)) (XP:=PySem.W.XL DL.hV []) (Yf:=b6W (a6W DL.hK DL.hA DL.hE)) (Ya:=b6K (a6W DL.hK DL.hA DL.hE)) (YP:=PySem.W.Hook.says (a6W DL.hK DL.hA DL.hE)) (N:=4016) DL.hL (PySem.W.Hook.of (a6W DL.hK DL.hA DL.hE)) (PySem.W.Hook.keeps (a6W DL.hK DL.hA DL.hE)) (fun s e=>PySem.W.xl_of s (Bool.and_eq_true_iff.mp e).1) PySem.W.XL.keeps (by rfl) (by rfl) (by rfl) (fun s e=>PySem.W.recFacts_of (Bool.and_eq_true_iff.mp e).2) rfl said (by decide +kernel) ⟨rfl,rfl,rfl,rfl,rfl,by decide +kernel⟩ ?hw ?hc
 (case hw=>w_witness2)
 k_fill
 refine DL.xW (l:=PySem.Challenge.rw_struckdeeds_k59_whole_the_least_carried) rfl rfl (fun w h Y=>PySem.W.kIn_of Y) ?F
 case F=>
   intro w mg fa h KX G hmg
   refine' DL.uJ KX G hmg ?b0 ?b1 ?b2 ?b3 ?b4 ?b5 ?b6 ?b7 ?b8 ?b9 ?b10 ?b11 ?b12 ?b13 ?b14 ?b15 ?b16 ?b17 ?b18 ?b19 ?b20 ?b21 ?b22 ?b23 ?b24 ?b25 ?b26 ?b27 ?b28 ?b29 ?b30 ?b31 ?b32 ?b33 ?b34 ?b35 ?b36 ?b37 ?b38 ?z_all ?z_any ?z_bool ?z_divmod ?z_enumerate ?z_int ?z_isinstance ?z_len ?z_list ?z_range ?z_sorted ?z_str ?z_sum ?z_tuple ?z_zip ?y_FORMS ?x_FORMS ?s_FORMS ?ac_NoLine ?lc_NoLine ?kc_NoLine ?ic_NoLine ?fl_NoLine ?cc_NoLine ?if_NoLine ?kf_NoLine ?sa_NoLine ?ta_NoLine
   all_goals (first | (refine' DL.oZ ?fa ?fl ?fc ?fk;(case fa=>k_is);(case fl=>k_is);(case fc=>k_is);(case fk=>k_is)) | skip)
   (case z_all=>k_is)
   (case z_any=>k_is)
   (case z_bool=>k_is)
   (case z_divmod=>k_is)
   (case z_enumerate=>k_is)
   (case z_int=>k_is)
   (case z_isinstance=>k_is)
   (case z_len=>k_is)
   (case z_list=>k_is)
   (case z_range=>k_is)
   (case z_sorted=>k_is)
   (case z_str=>k_is)
   (case z_sum=>k_is)
   (case z_tuple=>k_is)
   (case z_zip=>k_is)
   (case y_FORMS=>k_is)
   (case x_FORMS=>k_is)
   (case s_FORMS=>decide)
   (case ac_NoLine=>k_is)
   (case lc_NoLine=>k_is)
   (case kc_NoLine=>k_is)
   (case ic_NoLine=>k_is)
   (case fl_NoLine=>k_is)
   (case cc_NoLine=>k_is)
   (case if_NoLine=>k_is)
   (case kf_NoLine=>k_is)
   (case sa_NoLine=>k_is)
   (case ta_NoLine=>k_is)
#print axioms PySem.Challenge.cw_struckdeeds_k59_whole_the_least_carried_holds
