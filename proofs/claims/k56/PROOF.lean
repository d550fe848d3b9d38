import PyProof.Rows.All
import Wide.All
import OpenK.AllK
import Wide.FinOn
import Lean
import PyProof.EqAt
import PyProof.EqKinds
import PyProof.TupleCall
import KE.KRevIter
import PyProof.P3In
import PyProof.SumAnyB
import PyProof.NeKinds
import KE.KEqDict
import PyProof.ListRange
import PyProof.TupleOfSeq
import PyProof.Draws
import KE.KIsAll
import PyProof.WalksS
import PyProof.CollectWalk
import PyProof.SetRoads
import PyProof.Rows.SetFrom
import PyProof.RulesAssignMore
import PyProof.Rows.TupDisplay
import PySem.Challenge.RW_struckdeeds_k56_joined_or_a_quarrel
set_option Elab.async false
set_option linter.all false
set_option maxRecDepth 100000
set_option compiler.extract_closed false
set_option maxHeartbeats 4000000
open PySem.Str renaming ofString → a0Q
open PySem.PyData renaming eqv → a0X, str → a0W, depthAll → a1J, depth → a2V, keyHash → a8Q, int → a8V, bool → b1K, canLay0 → b5Z, canLayAll0 → b6Q
open PySem.Value renaming ref → a0Z, none → a3Q, int → b8Q
open List renaming getElem?_eq_none → a0J, length_drop → a0K, length_take → a1Q, range → a1X, lookup_cons → a2X, mem_of_mem_take → a2Z, drop_eq_nil_of_le → a2J, map_drop → a3X, mem_cons_self → a3Z, take_of_length_le → a3J, append_nil → a3K, replicate → a4V, map_nil → a5X, zip_cons_cons → a5Z, mem_of_mem_drop → a5W, map_take → a5V, filterMap_cons → a6X, take_add_one → a7Z, getElem?_take_of_lt → a7J, find?_cons → a7K, any_cons → a7V, getElem?_drop → a8W, length_replicate → a9Z, replicate_succ → b0J, pairwise_map → b1W, ext_getElem? → b1V, append_assoc → b2Q, take_eq_take_iff → b2K, getElem_mem → b2V, getElem?_set_ne → b3Z, take_succ_cons → b4Q, map_id → b4X, forIn_cons → b4Z, map_inj_right → b5V, getElem?_zip_eq_some → b6Z, reverse_cons → b6J, eq_of_mem_replicate → b6K, any_eq_false → b6W, length → b7Z, length_cons → b7K, any_eq_true → b7W
open PySem.Txt renaming slice → a0V
open Bool renaming and_eq_true → a1Z, false_eq_true → b1Q, eq_iff_iff → b4J
open PySem.W renaming mg_none_of → a1K, kia_one → a2Q, nsIn → a2W, boot_heap → a4Z, kHook → a5J, fnOf → a7Q, topRun → a7W, keepIn → a9K, segRunT → b0W, piecesOf → b2Z, boot_drawn → b3V, restOf → b4K, codeIn → b4W, segRun_of → b5K, boot_toks → b5W
open PySem.Builtin.SmallTypes renaming nextOf → a1W, ownedTupleIsFree → a1V, ownedTupleHandOut → b5X
open Sum renaming inr → a2K
open Option renaming some → a3W, none → b3J
open Array renaming length_toList → a3V, getElem?_toList → a6W, getD_eq_getD_getElem? → b3W, getElem?_eq_none → b7V
open PySem.Builtin.Str renaming strSliceIndices → a4Q
open List.Sublist renaming refl → a4X
open PySem renaming mem_of_lookup → a4J, boot_len → a4K
open Int renaming toNat_natCast → a4W, natCast_nonneg → b1J
open PySem.F renaming args_tuple_add_2 → a5Q, entry_tuple_add → a5K, slot_tuple_add → a6Q, slot_dict_get → a8J, slot_tuple_iterator_next → b0X, entry_dict_get → b6V
open Nat renaming add_le_add_left → a6Z, min_eq_left → a9J, ne_of_gt → b0V, min_eq_right → b3Q, le_add_right → b3X, add_le_add_right → b3K, lt_trichotomy → b7Q
open PySem.NameKind renaming free → a6J
open PyProof.Rows renaming slot_tuple_getitem → a6K, boot_list → a7X
open PySem.Obj renaming mapSeq → a6V, data_mapFields → b6X
open True renaming intro → a8X
open PySem.PassesOwn renaming never → a8Z
open PySem.Builtin.Slice renaming slicePlaces → a8K, sliceAdjust → b2W
open PySem.Heap.SameBut renaming update → a9Q
open PySem.Builtin.Tuple renaming tupleExact → a9X
open PySem.W.OpenRow renaming toRowW → a9W
open PySem.SeqAt renaming readOf → a9V, depth_of_shaped → b2J
open PySem.Heap renaming size_push → b0Q
open ForInStep renaming yield → b0Z
open False renaming elim → b0K
open PySem.W.RowW renaming records → b1X
open PySem.W.OpenLaw renaming row → b1Z
open PySem.W.Hook renaming val → b4V, obs → b5Q
open Ne renaming symm → b5J
open List.Perm renaming append_left → b7X
open PySem.Calls renaming callWith_builtin → b7J
open PySem renaming wpAny_bind → zZ, wpAny_pure → zY, wpAny_newObj_type → xL
open List renaming length_map → zX, getElem?_eq_getElem → zV, mem_map → zL, size_toArray → zJ, map_cons → zI, getElem?_map → zF, map_map → zD, mem_append_right → zB, length_append → yY, mem_cons → yX, mem_append → yW, mem_cons_of_mem → yV, getD_eq_getElem?_getD → yU, getElem?_eq_some_iff → yT, getElem?_append_left → yQ, mem_of_getElem? → yN, map_congr_left → yM, mem_filter → yL, length_filter_le → yJ, getElem?_range → xZ, length_range → xY, not_mem_nil → xW, nodup_cons → xU, filter_map → xT, map_append → xH
open PySem.Heap renaming get?_push_of_some → zW, lt_size → zM, get?_push_size → yZ
open Nat renaming le_refl → zR, lt_of_le_of_lt → zQ, lt_of_lt_of_le → zP, le_trans → zN, ne_of_lt → zC, lt_irrefl → yF, le_of_ble_eq_true → yD, zero_le → xR, le_of_lt → xQ
open PySem.SeqAt renaming shaped → zH, canLay_of_shaped → zG
open Option renaming isSome_iff_exists → xX
open PySem.Calls renaming spliced_cons → xN
open PySem.Builtin.Int renaming intBits → xI
open PyProof.Rows renaming callWith_type1 → xG
abbrev sT (n:Nat):PySem.Stmt:=PySem.Challenge.pw_struckdeeds_k56_joined_or_a_quarrel.main.body.getD n (.Pass ⟨0,0,0,0⟩)
abbrev Frg:=PySem.W.Frag
theorem nft:¬(false=true):=Bool.false_ne_true
namespace L2
open PySem PySem.Spec PyProof.Rows
abbrev Key:=Sum Int Str
def LS:Key->Value->Bool
 | .inl k,v=>Value.isInt k v
 | .inr x,v=>Value.isStrOf x v
def m4 (w:World):Key->Int
 | .inl k=>hashInt k
 | .inr x=>hashStr w x
theorem B4:∀{k:Key}{v:Value},LS k v=true->(∃i t,k=Sum.inl i/\v=b8Q i t)∨(∃x t,k=a2K x/\v=Value.str x t)
 | .inl i,v,h=>by
   obtain⟨t,e⟩:=Value.isInt_shape (k:=i) (v:=v) h
   exact .inl ⟨i,t,rfl,e⟩
 | .inr x,v,h=>by
   obtain⟨t,e⟩:=Value.isStrOf_shape (x:=x) (v:=v) h
   exact .inr ⟨x,t,rfl,e⟩
theorem VY (i:Int) (t:Tok):LS (.inl i) (.int i t)=true:=by simp[LS,Value.isInt]
theorem VZ (x:Str) (t:Tok):LS (.inr x) (.str x t)=true:=by simp[LS,Value.isStrOf]
theorem gC (a b:Int):decide ((Sum.inl a:Key)=Sum.inl b)=(a==b):=by
 by_cases e:a=b
 · subst e;simp
 · have h:¬(Sum.inl a:Key)=Sum.inl b:=fun q=>e (Sum.inl.inj q)
   rw[decide_eq_false h]
   exact(beq_eq_false_iff_ne.mpr e).symm
theorem gD (a b:Str):decide ((a2K a:Key)=a2K b)=decide (a=b):=by
 by_cases e:a=b
 · subst e;simp
 · have h:¬(a2K a:Key)=a2K b:=fun q=>e (Sum.inr.inj q)
   rw[decide_eq_false h,decide_eq_false e]
theorem gE (a:Int) (b:Str):decide ((Sum.inl a:Key)=a2K b)=false:=decide_eq_false (fun q=>nomatch q)
theorem gF (a:Str) (b:Int):decide ((a2K a:Key)=Sum.inl b)=false:=decide_eq_false (fun q=>nomatch q)
def AR (prog:Program) (w:World):PySem.KeyKind prog w Key where
 is:=LS
 hash:=m4 w
 inj:=fun v a b ha hb=>by
   rcases B4 ha with ⟨i,t,rfl,rfl⟩ | ⟨x,t,rfl,rfl⟩
   · rcases B4 hb with ⟨j,u,rfl,e⟩ | ⟨y,u,rfl,e⟩
     · injection e with e1 _;rw[e1]
     · exact nomatch e
   · rcases B4 hb with ⟨j,u,rfl,e⟩ | ⟨y,u,rfl,e⟩
     · exact nomatch e
     · injection e with e1 _;rw[e1]
 byValue:=fun k v h=>by
   rcases B4 h with ⟨i,t,rfl,rfl⟩ | ⟨x,t,rfl,rfl⟩ <;> rfl
 pyHash:=fun hv h=>by
   rcases B4 hv with ⟨i,t,rfl,rfl⟩ | ⟨x,t,rfl,rfl⟩
   · exact wpAny_pyHash_int h
   · exact wpAny_pyHash_str h
 eqBool:=fun hu hv h=>by
   rcases B4 hu with ⟨i,t,rfl,rfl⟩ | ⟨x,t,rfl,rfl⟩
   · rcases B4 hv with ⟨j,u,rfl,rfl⟩ | ⟨y,u,rfl,rfl⟩
     · rw[gC] at h;exact wpAny_eqBool_int h
     · rw[gE] at h;exact SeqAt.EqAt.int_str i t y u _ _ _ _ h
   · rcases B4 hv with ⟨j,u,rfl,rfl⟩ | ⟨y,u,rfl,rfl⟩
     · rw[gF] at h;exact SeqAt.EqAt.str_int x t j u _ _ _ _ h
     · rw[gD] at h;exact wpAny_eqBool_str h
 «strs»:=fun k x t v h=>by
   rcases B4 h with ⟨i,u,rfl,e⟩ | ⟨y,u,rfl,e⟩
   · exact nomatch e
   · injection e with e1 _
     subst e1
     cases v <;> rfl
theorem QR (prog:Program) (w:World) (i:Int) (t:Tok):(AR prog w).is (.inl i) (.int i t)=true:=VY i t
theorem KK (prog:Program) (w:World) (x:Str) (t:Tok):(AR prog w).is (.inr x) (.str x t)=true:=VZ x t
inductive V where
 | non | bl (b:Bool) | int (i:Int) | str (x:Str) | byt (b:Array UInt8) | flt (b:UInt64) | ref (a:Addr) | ty (n:String)
 deriving DecidableEq
def RelV:V->Value->Prop
 | .non,u=>u=a3Q
 | .bl b,u=>u=Value.bool b
 | .int i,u=>∃t,u=b8Q i t
 | .str x,u=>∃t,u=Value.str x t
 | .byt b,u=>∃t,u=Value.bytes b t
 | .flt b,u=>∃t,u=Value.float b t
 | .ref a,u=>u=a0Z a
 | .ty n,u=>u=Value.type n
abbrev Vals:List V->List Value->Prop:=Paired RelV
theorem Vals.length {xs:List V}{us:List Value}(r:Vals xs us):xs.length=us.length:=Paired.length r
theorem Vals.get:∀{xs:List V}{us:List Value}{i:Nat}{x:V},Vals xs us->xs[i]?=some x->∃u,us[i]?=some u/\RelV x u
 | _,_,_,_,.nil,e=>by simp at e
 | _,_,0,_,.cons r _,e=>by simp at e;subst e;exact⟨_,rfl,r⟩
 | _,_,i+1,x,.cons _ t,e=>by
   obtain⟨u,h1,h2⟩:=Vals.get (i:=i) (x:=x) t (by simpa using e)
   exact⟨u,by simpa using h1,h2⟩
theorem Vals.set {x:V}{u:Value}(r:RelV x u):∀{xs:List V}{us:List Value}(i:Nat),Vals xs us->Vals (xs.set i x) (us.set i u)
 | _,_,_,.nil=>.nil
 | _,_,0,.cons _ t=>.cons r t
 | _,_,i+1,.cons q t=>.cons q (Vals.set r i t)
theorem Vals.append:∀{xs ys:List V}{us ws:List Value},Vals xs us->Vals ys ws->Vals (xs++ys) (us++ws)
 | _,_,_,_,.nil,s=>s
 | _,_,_,_,.cons r t,s=>.cons r (Vals.append t s)
theorem Vals.take:∀{xs:List V}{us:List Value}(n:Nat),Vals xs us->Vals (xs.take n) (us.take n)
 | _,_,0,_=>.nil
 | _,_,_+1,.nil=>.nil
 | _,_,n+1,.cons r t=>.cons r (Vals.take n t)
theorem Vals.drop:∀{xs:List V}{us:List Value}(n:Nat),Vals xs us->Vals (xs.drop n) (us.drop n)
 | _,_,0,r=>r
 | _,_,_+1,.nil=>.nil
 | _,_,n+1,.cons _ t=>Vals.drop n t
def RelO:Option V->Option Value->Prop
 | some v,some u=>RelV v u
 | none,none=>True
 | _,_=>False
def KV {κ:Type}:List (κ×V)->List (κ×Value)->Prop:=Paired fun(p:κ×V) (q:κ×Value)=>p.1=q.1/\RelV p.2 q.2
def kV:Key->V
 | .inl i=>.int i
 | .inr x=>.str x
inductive HO where
 | lst (xs:List V)
 | tup (xs:List V)
 | dK (kvs:List (Key×V)) | dT (kvs:List (List Key×V))
 | set (S:Int->Bool) (n:Nat)
 | ins (C dx:Addr) (fs:List (Str×V))
 | own (x:Addr)
 | xd (fs:List (Str×V))
 | met (f x:Addr)
 | rng (lo hi:Int)
 | frz (o:Obj) (u:HO)
 | tbl (ps:Array Value)
 | ext (φ:Heap->Prop)
abbrev Hp:=Addr->Option HO
def upd (H:Hp) (a:Addr) (o:HO):Hp:=fun b=>if b=a then some o else H b
theorem AH {H:Hp}{a:Addr}{o:HO}:upd H a o a=some o:=by unfold upd;rw[if_pos rfl]
theorem AG {H:Hp}{a b:Addr}{o:HO}(h:b≠a):upd H a o b=H b:=by unfold upd;rw[if_neg h]
theorem eQ {H:Hp}{a b:Addr}{o u:HO}(h:H a=some o) (h':H b=some u) (d:o≠u):a≠b:=by
 intro e;subst e;rw[h] at h';exact d (Option.some.inj h')
theorem AV {H:Hp}{a b:Addr}{o:HO}(h:H a=some o) (h':H b=none):a≠b:=by
 intro e;subst e;rw[h] at h';cases h'
section
variable (P:Program) (w:World)
def ObjOk (H:Hp) (h:Heap) (a:Addr):HO->Prop
 | .lst xs=>xs.length<=sizeLine/\∃(its:List Value) (n:Nat),Vals xs its/\h.get? a=some { cls:=.type "list", data:=.seq its.toArray n }
 | .tup xs=>xs.length<=sizeLine/\∃its:List Value,Vals xs its/\IsTup h a its.toArray
 | .dK kvs=>kvs.length<=sizeLine/\(a==sysModules)=false/\∃vs,KV kvs vs/\h.DictOf (AR P w) a vs
 | .dT kvs=>kvs.length<=sizeLine/\(a==sysModules)=false/\∃xs:List (List Key×Addr×Value),
     Paired (fun(p:List Key×V) (q:List Key×Addr×Value)=>p.1=q.1/\H q.2.1=some (.tup (p.1.map kV))/\RelV p.2 q.2.2) kvs xs /\
     ∃o es ep,h.get? a=some o/\o.ExactDict/\o.data = .dict es ep/\es.toList=xs.map (entryOfKey (tupleKind (AR P w)))/\(xs.map (·.1)).Nodup
 | .set S n=>h.SetOf (intKind P w) a S n
 | .ins C dx fs=>H dx=some (.own a)/\fs.length<=1000/\dx≠a/\h.get? a=some (PySem.W.instObj C dx) /\
     ∃mA,h.Ns1 dx mA/\(∀f,RelO (fs.lookup f) (mA f))/\PySem.Within mA (fs.map (·.1))
 | .own _=>∃o,h.get? a=some o
 | .xd fs=>∃mA,h.Ns1 a mA/\∀f,RelO (fs.lookup f) (mA f)
 | .rng lo hi=>∃t u v,h.get? a=some { cls:=.type "range", data:=.fields #[.int lo t,.int hi u,.int 1 v] }
 | .frz o u=>h.get? a=some o/\ObjOk H h a u
 | .tbl ps=>h.get? a=some { cls:=.none,data:=.fields ps }
 | .met f x=>h.get? a=some (PySem.W.methodObj (.ref f) (.ref x))
 | .ext φ=>φ h/\(∃o,h.get? a=some o)/\∀h1 h2:Heap,φ h1->(∀o,h1.get? a=some o->h2.get? a=some o)->φ h2
def HOk (H:Hp) (h:Heap):Prop:=∀a o,H a=some o->ObjOk P w H h a o
end
section
variable {P:Program}{w:World}{H H':Hp}{h h':Heap}{a:Addr}{o:HO}
theorem ObjOk.lt (x:ObjOk P w H h a o):a < h.objs.size:=by
 cases o with
 | lst xs=>obtain⟨_,_,_,_,e⟩:=x;exact zM e
 | tup xs=>obtain⟨_,_,_,p⟩:=x;exact p.lt
 | dK kvs=>obtain⟨_,_,_,_,o,_,_,e,_⟩:=x;exact zM e
 | dT kvs=>obtain⟨_,_,_,_,o,_,_,e,_⟩:=x;exact zM e
 | set S n=>obtain⟨o,_,_,_,e,_⟩:=x;exact zM e
 | ins C dx fs=>obtain⟨_,_,_,e,_⟩:=x;exact zM e
 | own y=>obtain⟨_,e⟩:=x;exact zM e
 | xd fs=>obtain⟨_,⟨_,_,_,e,_⟩,_⟩:=x;exact zM e
 | rng lo hi=>obtain⟨_,_,_,e⟩:=x;exact zM e
 | frz ob u=>obtain⟨e,_⟩:=x;exact zM e
 | tbl ps=>exact zM (show h.get? a=some _ from x)
 | met f y=>exact zM (show h.get? a=some _ from x)
 | ext φ=>obtain⟨_,⟨_,e⟩,_⟩:=x;exact zM e
theorem Paired.mapP {α β:Type}{F G:α->β->Prop}:∀{l₁:List α}{l₂:List β},Paired F l₁ l₂->(∀a b,F a b->G a b)->Paired G l₁ l₂
 | _,_,.nil,_=>.nil
 | _,_,.cons r t,f=>.cons (f _ _ r) (Paired.mapP t f)
theorem ObjOk.stay (x:ObjOk P w H h a o) (k:∀b u,(b=a∨H b=some (.own a))->h.get? b=some u->h'.get? b=some u)
   (ho:∀b,H b=some (.own a)->H' b=some (.own a)) (ht:∀b xs,H b=some (.tup xs)->H' b=some (.tup xs)):ObjOk P w H' h' a o:=by
 induction o with
 | lst xs=>obtain⟨z,its,n,r,e⟩:=x;exact⟨z,its,n,r,k _ _ (.inl rfl) e⟩
 | tup xs=>obtain⟨z,its,r,ob,e,c⟩:=x;exact⟨z,its,r,ob,k _ _ (.inl rfl) e,c⟩
 | dK kvs=>obtain⟨z,y,vs,r,ob,es,ep,e,c⟩:=x;exact⟨z,y,vs,r,ob,es,ep,k _ _ (.inl rfl) e,c⟩
 | dT kvs=>
   obtain⟨z,y,xs,r,ob,es,ep,e,c⟩:=x
   exact⟨z,y,xs,Paired.mapP r fun p q z=>⟨z.1,ht _ _ z.2.1,z.2.2⟩,ob,es,ep,k _ _ (.inl rfl) e,c⟩
 | set S n=>obtain⟨ob,es,ep,t,e,c⟩:=x;exact⟨ob,es,ep,t,k _ _ (.inl rfl) e,c⟩
 | ins C dx fs=>
   obtain⟨d,z,ne,e,mA,⟨od,es,ep,e2,c⟩,r⟩:=x
   exact⟨ho _ d,z,ne,k _ _ (.inl rfl) e,mA,⟨od,es,ep,k _ _ (.inr d) e2,c⟩,r⟩
 | own y=>obtain⟨ob,e⟩:=x;exact⟨ob,k _ _ (.inl rfl) e⟩
 | xd fs=>obtain⟨mA,⟨od,es,ep,e,c⟩,r⟩:=x;exact⟨mA,⟨od,es,ep,k _ _ (.inl rfl) e,c⟩,r⟩
 | rng lo hi=>obtain⟨t,u,v,e⟩:=x;exact⟨t,u,v,k _ _ (.inl rfl) e⟩
 | frz ob u ih=>obtain⟨e,q⟩:=x;exact⟨k _ _ (.inl rfl) e,ih q⟩
 | tbl ps=>
   have e:h.get? a=some { cls:=.none,data:=.fields ps }:=x
   show h'.get? a=some { cls:=.none,data:=.fields ps }
   exact k a _ (.inl rfl) e
 | met f y=>
   have e:h.get? a=some (PySem.W.methodObj (.ref f) (.ref y)):=x
   show h'.get? a=some (PySem.W.methodObj (.ref f) (.ref y))
   exact k a _ (.inl rfl) e
 | ext φ=>obtain⟨p,⟨o,e⟩,st⟩:=x;exact⟨st _ _ p fun o q=>k _ _ (.inl rfl) q,⟨o,k _ _ (.inl rfl) e⟩,st⟩
theorem HOk.lt (x:HOk P w H h) (e:H a=some o):a < h.objs.size:=(x a o e).lt
theorem HOk.fresh (x:HOk P w H h) (e:h.objs.size<=a):H a=none:=by
 cases q:H a with
 | none=>rfl
 | some u=>exact absurd (zP (x.lt q) e) (yF _)
theorem HOk.kept (x:HOk P w H h) (k:∀b u,h.get? b=some u->h'.get? b=some u):HOk P w H h':=fun a o e=>
 (x a o e).stay (fun b u _ q=>k b u q) (fun _ q=>q) fun _ _ q=>q
theorem HOk.laid (x:HOk P w H h) (k:∀b u,h.get? b=some u->h'.get? b=some u) (hp:h.objs.size<=a) (new:ObjOk P w (upd H a o) h' a o):HOk P w (upd H a o) h':=fun b u e=>by
 have hn:=x.fresh hp
 by_cases hb:b=a
 · subst hb;rw[AH] at e;cases e;exact new
 · rw[AG hb] at e
   exact(x b u e).stay (fun c v _ q=>k c v q) (fun c q=>by rw[AG (AV q hn)];exact q) fun c xs q=>by rw[AG (AV q hn)];exact q
end
def Rd (H:Hp) (a:Addr) (u:HO):Prop:=H a=some u∨∃o,H a=some (.frz o u)
theorem Rd.ok {P:Program}{w:World}{H:Hp}{h:Heap}{a:Addr}{u:HO}(r:Rd H a u) (x:HOk P w H h):ObjOk P w H h a u:=by
 rcases r with r | ⟨o,r⟩
 · exact x a u r
 · obtain⟨_,q⟩:=x a _ r
   exact q
def Mut:Option HO->Prop
 | some (.lst _)=>True
 | some (.dK _)=>True
 | some (.dT _)=>True
 | some (.set _ _)=>True
 | some (.ins _ _ _)=>True
 | some (.ext _)=>True
 | _=>False
section
variable {P:Program}{w:World}{H:Hp}{h h':Heap}{x e:Addr}{o':HO}
theorem HOk.write (ok:HOk P w H h) (mu:Mut (H x)) (he:e=x∨H e=some (.own x)) (k:∀b u,b≠e->h.get? b=some u->h'.get? b=some u) (heo:∃u,h'.get? e=some u)
   (new:ObjOk P w (upd H x o') h' x o'):HOk P w (upd H x o') h':=fun b u q=>by
 have nown:∀c y,H c=some (.own y)->c≠x:=fun c y r z=>by subst z;rw[r] at mu;exact mu
 have ntup:∀c xs,H c=some (.tup xs)->c≠x:=fun c xs r z=>by subst z;rw[r] at mu;exact mu
 by_cases hb:b=x
 · subst hb;rw[AH] at q;cases q;exact new
 · rw[AG hb] at q
   by_cases hbe:b=e
   · have q':H b=some (.own x):=by
       rcases he with z | z
       · exact absurd (hbe.trans z) hb
       · rw[hbe];exact z
     rw[q] at q';cases q'
     obtain⟨v,hv⟩:=heo
     exact⟨v,by rw[hbe];exact hv⟩
   · refine(ok b u q).stay (fun c v hc r=>k c v ?_ r) (fun c r=>by rw[AG (nown c b r)];exact r) fun c xs r=>by rw[AG (ntup c xs r)];exact r
     rcases hc with rfl | hc
     · exact hbe
     · rintro rfl
       rcases he with z | z
       · exact nown c b hc z
       · rw[hc] at z;cases z;exact hb rfl
end
structure Un (fs ex:List Addr) (H H':Hp) (h h':Heap):Prop where
 keep:∀b o,h.get? b=some o->H b=none->b∉fs->b∉ex->h'.get? b=some o
 slot:∀b o,h.get? b=some o->H b=none->b∈fs->b∉ex->∃sl,h'.get? b=some { o with slots:=sl }
 free:∀b o,h.get? b=some o->H b=none->b∉ex->H' b=none
 there:∀b o,h.get? b=some o->b∉ex->∃o',h'.get? b=some o'
 tups:∀b xs,H b=some (.tup xs)->H' b=some (.tup xs)
 frzs:∀b o u,H b=some (.frz o u)->H' b=some (.frz o u)
 tbls:∀b ps,H b=some (.tbl ps)->∃more,H' b=some (.tbl (ps++more))
section
variable {fs fs' ex ex':List Addr}{H H1 H2:Hp}{h h1 h2 h':Heap}{a x e:Addr}{o:HO}
theorem Un.any (u:Un fs ex H H1 h h1) {b:Addr}{ob:Obj}(q:h.get? b=some ob) (n:H b=none) (hx:b∉ex):∃sl,h1.get? b=some { ob with slots:=sl }:=by
 by_cases hb:b∈fs
 · exact u.slot b ob q n hb hx
 · exact⟨ob.slots,u.keep b ob q n hb hx⟩
theorem Un.kept (k:∀b u,h.get? b=some u->h'.get? b=some u):Un fs ex H H h h':=
 ⟨fun b ob q _ _ _=>k b ob q,fun b ob q _ _ _=>⟨ob.slots,k b ob q⟩,fun _ _ _ n _=>n,fun b ob q _=>⟨ob,k b ob q⟩,fun _ _ q=>q,fun _ _ _ q=>q,fun _ ps q=>⟨#[],by rw[q];simp⟩⟩
theorem Un.refl:Un fs ex H H h h:=Un.kept fun _ _ q=>q
theorem Un.laid (k:∀b u,h.get? b=some u->h'.get? b=some u) (hp:h.objs.size<=a) (hn:H a=none):Un fs ex H (upd H a o) h h' where
 keep:=fun b u q _ _ _=>k b u q
 slot:=fun b u q _ _ _=>⟨u.slots,k b u q⟩
 free:=fun b u q n _=>by rw[AG (zC (zP (zM q) hp))];exact n
 there:=fun b u q _=>⟨u,k b u q⟩
 tups:=fun b xs q=>by rw[AG (AV q hn)];exact q
 frzs:=fun b u xs q=>by rw[AG (AV q hn)];exact q
 tbls:=fun b ps q=>⟨#[],by rw[AG (AV q hn),q];simp⟩
theorem Un.write (mu:Mut (H x)) (he:e=x∨H e=some (.own x)) (k:∀b u,b≠e->h.get? b=some u->h'.get? b=some u) (heo:∃u,h'.get? e=some u):Un fs ex H (upd H x o) h h':=by
 have hx:∀b,H b=none->b≠x:=fun b n z=>by subst z;rw[n] at mu;exact mu
 have hb:∀b,H b=none->b≠e:=fun b n z=>by
   subst z
   rcases he with r | r
   · exact hx b n r
   · rw[n] at r;cases r
 have hm:∀b u,H b=some u->¬Mut (some u)->b≠x:=fun b u q nm z=>by subst z;rw[q] at mu;exact nm mu
 refine⟨fun b u q n _ _=>k b u (hb b n) q,fun b u q n _ _=>⟨u.slots,k b u (hb b n) q⟩,fun b u q n _=>by rw[AG (hx b n)];exact n,fun b u q _=>?_,
   fun b xs q=>by rw[AG (hm b _ q fun z=>z)];exact q,fun b u xs q=>by rw[AG (hm b _ q fun z=>z)];exact q,fun b ps q=>⟨#[],by rw[AG (hm b _ q fun z=>z),q];simp⟩⟩
 by_cases hbe:b=e
 · subst hbe;exact heo
 · exact⟨u,k b u hbe q⟩
end
def trk (h:Heap) (H:Hp):List Addr:=(a1X h.objs.size).filter fun a=>(H a).isSome
def P3 (h:Heap) (H:Hp):Heap:=PySem.W.hideAll h (trk h H)
theorem W0 (h:Heap) (H:Hp):(P3 h H).objs.size=h.objs.size:=PySem.W.hideAll_size _ _
theorem XM {h:Heap}{H:Hp}{b:Addr}{o:Obj}(e:h.get? b=some o) (n:H b=none):(P3 h H).get? b=some o:=
 PySem.W.hideAll_get _ e fun hm=>by
   have q:(H b).isSome=true:=(yL.mp hm).2
   rw[n] at q;simp at q
theorem bC {h:Heap}{H:Hp}{b:Addr}{o:Obj}(e:(P3 h H).get? b=some o):h.get? b=some o/\H b=none:=by
 have e':h.get? b=some o:=PySem.W.of_hideAll (trk h H) e
 refine⟨e',?_⟩
 cases q:H b with
 | none=>rfl
 | some x=>
   have hm:b∈trk h H:=yL.mpr ⟨List.mem_range.mpr (zM e'),by simp[q]⟩
   have z:(P3 h H).get? b=none:=PySem.W.hideAll_none (trk h H) hm
   rw[z] at e;cases e
structure Mod (K:Frg) (mg:Str->Option Value) (base:Heap):Prop where
 kin:K.In base
 glob:base.Ns mainGlobals mg
 blt:∃mb,base.Ns builtinsNs mb/\∀x:Str,x ≠ "__name__" -> mb x=bootBuiltins x
 nolimit:base.NoLimit
structure Cx where
 prog:Program
 w:World
 K:Frg
 mg:Str->Option Value
 base:Heap
 A:Around
 N:List Str
 s₀:Shared
 H₀:Hp
 env:Env
 outer:List Env
 stack:List Env
 ex:List Addr
 fn:Str->Bool
 calm:Bool
 pn:List (Addr×Obj)
 xe:Value->Shared->Prop
def frs (l:List Env):List Addr:=l.filterMap (·.frame)
abbrev Cx.fs (X:Cx):List Addr:=frs X.outer
def Vis (sc:Scope) (x:Str):Prop:=sc.names.lookup x=some .local∨sc.names.lookup x=some .cell∨sc.names.lookup x=some .free
def Loc (sc:Scope) (x:Str):Prop:=sc.names.lookup x=some .local∨sc.names.lookup x=some .cell
def m5 (env:Env) (h:Heap) (m:Str->Option Value) (x:Str) (u:Value):Prop:=
 (env.kindOf x=some .local/\m x=some u)∨((env.kindOf x=some .cell∨env.kindOf x=some .free)/\∃c,env.cells.lookup x=some c/\h.IsCell c (some u))
structure Cx.Ok (X:Cx):Prop where
 mod:Mod X.K X.mg X.base
 kind:X.env.scope.kind = .function
 glob:X.env.globals=mainGlobals
 blt:X.env.builtins=builtinsNs
 above:X.s₀.heap.objs.size<=X.env.locals
 inj:∀x y c,X.env.cells.lookup x=some c->X.env.cells.lookup y=some c->x=y
 has:∀x,(X.env.kindOf x=some .cell∨X.env.kindOf x=some .free)->∃c,X.env.cells.lookup x=some c
 cab:∀x c,X.fn x=true->X.env.cells.lookup x=some c->X.s₀.heap.objs.size<=c
 hd:X.calm=true->X.A.handled=none
 frames:X.A.frames=some X.stack
 stk:X.stack=X.outer∨(X.stack=X.env::X.outer/\X.env.frame=some X.env.locals)
 exf:∀b∈X.ex,b≠X.env.locals/\∀x c,X.env.cells.lookup x=some c->c≠b
 bs:∀b o,X.base.get? b=some o->X.s₀.heap.get? b=some o/\X.H₀ b=none
 bsz:X.base.objs.size<=X.s₀.heap.objs.size
 noex:∀b o,X.base.get? b=some o->b∉X.ex
 exfs:∀b∈X.ex,b∉X.fs
 funs:X.s₀.heap.FunFrames X.base X.outer
 frf:∀b∈X.fs,X.H₀ b=none
structure Inv (X:Cx) (pins:List (Addr×Obj)) (σ:List (Option V)) (H:Hp) (s:Shared):Prop where
 ok:X.Ok
 os:s.os=X.s₀.os
 bare:AllBare s.gens
 base:Un X.fs X.ex X.H₀ H X.s₀.heap s.heap
 loc:∃m,s.heap.Ns X.env.locals m/\∀(i:Nat) (x:Str) (v:V),X.N[i]?=some x->σ[i]?=some (some v)->Vis X.env.scope x->∃u,RelV v u/\m5 X.env s.heap m x u
 cell:∀x c,X.env.cells.lookup x=some c->∃v,s.heap.IsCell c v
 free:H X.env.locals=none
 freeC:∀x c,X.env.cells.lookup x=some c->H c=none
 pin:∀p∈X.pn++pins,s.heap.get? p.1=some p.2/\H p.1=none/\p.1≠X.env.locals/\p.1∉X.fs/\∀v,p.2.data≠.cell v
 hok:HOk X.prog X.w H s.heap
 len:σ.length=X.N.length
section
variable {X:Cx}{pins:List (Addr×Obj)}{σ:List (Option V)}{H H':Hp}{s:Shared}{h':Heap}
theorem Cx.Ok.nofr (ok:X.Ok) {b:Addr}{o:Obj}(e:X.base.get? b=some o):b∉X.fs:=fun hb=>by
 have:=(ok.funs.mem hb).1
 rw[e] at this;cases this
theorem Inv.bs (I:Inv X pins σ H s):∀b o,X.base.get? b=some o->s.heap.get? b=some o/\H b=none:=fun b o e=>
 ⟨I.base.keep b o (I.ok.bs b o e).1 (I.ok.bs b o e).2 (I.ok.nofr e) (I.ok.noex b o e),I.base.free b o (I.ok.bs b o e).1 (I.ok.bs b o e).2 (I.ok.noex b o e)⟩
theorem Inv.bk (I:Inv X pins σ H s):∀b o,X.base.get? b=some o->s.heap.get? b=some o:=fun b o e=>(I.bs b o e).1
theorem Inv.mod (I:Inv X pins σ H s):Mod X.K X.mg X.base:=I.ok.mod
theorem Inv.kIn (I:Inv X pins σ H s):X.K.In s.heap:=I.ok.mod.kin.keeps I.bk
theorem Inv.lt (I:Inv X pins σ H s):X.env.locals < s.heap.objs.size:=let ⟨_,hn,_⟩:=I.loc;hn.lt
theorem Inv.sz (I:Inv X pins σ H s):X.s₀.heap.objs.size<=s.heap.objs.size:=zN I.ok.above (xQ I.lt)
theorem Inv.nofs (I:Inv X pins σ H s) {a:Addr}(h:s.heap.objs.size<=a):a∉X.fs:=fun hb=>by
 obtain⟨_,o,ho,_⟩:=I.ok.funs.mem hb
 exact absurd (zP (zM ho) (zN I.sz h)) (yF _)
theorem Inv.cne (I:Inv X pins σ H s):∀x c,X.env.cells.lookup x=some c->c≠X.env.locals:=fun x c e z=>by
 obtain⟨v,o,ho,hd⟩:=I.cell x c e
 obtain⟨m,⟨o',es,ep,ho',hd',_⟩,_⟩:=I.loc
 rw[z,ho'] at ho;cases ho;rw[hd'] at hd;cases hd
theorem Inv.funs (I:Inv X pins σ H s):s.heap.FunFrames X.base X.outer:=by
 have all:∀(l:List Env),(∀b∈frs l,b∈X.fs)->X.s₀.heap.FunFrames X.base l->s.heap.FunFrames X.base l:=by
   intro l
   induction l with
   | nil=>intro _ _;trivial
   | cons env r ih=>
     intro hs hl
     obtain⟨hk,⟨L,o,hf,hn,ho,hd⟩,hr⟩:=hl
     have hL:L∈X.fs:=hs L (by unfold frs;rw[a6X,hf];exact a3Z)
     obtain⟨sl,e⟩:=I.base.slot L o ho (I.ok.frf L hL) hL fun z=>I.ok.exfs L z hL
     exact⟨hk,⟨L,_,hf,hn,e,hd⟩,ih (fun b hb=>hs b (by unfold frs;rw[a6X,hf];exact yV _ hb)) hr⟩
 exact all X.outer (fun _ hb=>hb) I.ok.funs
theorem Inv.stack (I:Inv X pins σ H s):s.heap.FunFrames X.base X.stack:=by
 rcases I.ok.stk with e | ⟨e,hf⟩
 · rw[e];exact I.funs
 · rw[e]
   obtain⟨m,hn,_⟩:=I.loc
   refine .cons (by rw[I.ok.kind];decide) hf hn ?_ I.funs
   exact Heap.get?_none_of_le (zN I.ok.bsz I.ok.above)
theorem Inv.stkSub (I:Inv X pins σ H s):∀b∈frs X.stack,b∈X.env.locals::X.fs:=fun b hb=>by
 rcases I.ok.stk with e | ⟨e,hf⟩
 · rw[e] at hb;exact yV _ hb
 · rw[e] at hb
   unfold frs at hb
   rw[a6X,hf] at hb
   exact hb
theorem Inv.stkFree (I:Inv X pins σ H s):∀b∈frs X.stack,H b=none:=fun b hb=>by
 rcases yX.mp (I.stkSub b hb) with e | hb
 · rw[e];exact I.free
 · obtain⟨_,o,ho,_⟩:=I.ok.funs.mem hb
   exact I.base.free b o ho (I.ok.frf b hb) fun z=>I.ok.exfs b z hb
theorem Inv.step {g':Array GenState}{t':Nat}{d':Drawn}{ch:List Addr}(I:Inv X pins σ H s)
   (hch:∀b∈ch,(b∈X.ex∨X.s₀.heap.objs.size<=b)/\b≠X.env.locals/\(∀x c,X.env.cells.lookup x=some c->c≠b)/\∀p∈X.pn++pins,p.1≠b)
   (keep:∀b o,b≠X.env.locals->b∉X.fs->b∉ch->s.heap.get? b=some o->H b=none->h'.get? b=some o)
   (slot:∀b o,b≠X.env.locals->b∈X.fs->b∉ch->s.heap.get? b=some o->H b=none->∃sl,h'.get? b=some { o with slots:=sl }) (free:∀b o,b∉ch->s.heap.get? b=some o->H b=none->H' b=none)
   (there:∀b o,b∉ch->s.heap.get? b=some o->∃o',h'.get? b=some o')
   (tups:∀b xs,H b=some (.tup xs)->H' b=some (.tup xs)) (frzs:∀b o u,H b=some (.frz o u)->H' b=some (.frz o u)) (tbls:∀b ps,H b=some (.tbl ps)->∃more,H' b=some (.tbl (ps++more)))
   (ns:∀m,s.heap.Ns X.env.locals m->h'.Ns X.env.locals m) (hok:HOk X.prog X.w H' h') (hg:AllBare g') :
   Inv X pins σ H' { s with heap:=h',gens:=g',drawn:=d',toks:=t' }:=by
 have neL:∀b o,X.s₀.heap.get? b=some o->b≠X.env.locals:=fun b o e=>zC (zP (zM e) I.ok.above)
 have neC:∀b o,X.s₀.heap.get? b=some o->b∉X.ex->b∉ch:=fun b o e hx hb=>by
   rcases (hch b hb).1 with z | z
   · exact hx z
   · exact absurd (zP (zM e) z) (yF _)
 have cellK:∀x c,X.env.cells.lookup x=some c->∀v,s.heap.IsCell c v->h'.IsCell c v:=fun x c e v ⟨o,ho,hd⟩=>by
   have nch:c∉ch:=fun z=>(hch c z).2.2.1 x c e rfl
   by_cases hc:c∈X.fs
   · obtain⟨sl,q⟩:=slot c o (I.cne x c e) hc nch ho (I.freeC x c e)
     exact⟨_,q,hd⟩
   · exact⟨o,keep c o (I.cne x c e) hc nch ho (I.freeC x c e),hd⟩
 refine⟨I.ok,I.os,hg,⟨fun b o e n hb hx=>?_,fun b o e n hb hx=>?_,fun b o e n hx=>?_,fun b o e hx=>?_,fun b xs e=>tups b xs (I.base.tups b xs e),fun b o xs e=>frzs b o xs (I.base.frzs b o xs e),fun b ps e=>?_⟩,?_,fun x c e=>?_,?_,fun x c e=>?_,fun p hp=>?_,hok,I.len⟩
 · exact keep b o (neL b o e) hb (neC b o e hx) (I.base.keep b o e n hb hx) (I.base.free b o e n hx)
 · obtain⟨sl,e1⟩:=I.base.slot b o e n hb hx
   obtain⟨sl',e2⟩:=slot b _ (neL b o e) hb (neC b o e hx) e1 (I.base.free b o e n hx)
   exact⟨sl',e2⟩
 · obtain⟨o',e1⟩:=I.base.there b o e hx
   exact free b o' (neC b o e hx) e1 (I.base.free b o e n hx)
 · obtain⟨o',e1⟩:=I.base.there b o e hx
   exact there b o' (neC b o e hx) e1
 · obtain⟨m1,e1⟩:=I.base.tbls b ps e
   obtain⟨m2,e2⟩:=tbls b _ e1
   exact⟨m1++m2,by rw[e2,Array.append_assoc]⟩
 · obtain⟨m,hn,hl⟩:=I.loc
   refine⟨m,ns m hn,fun i x v e1 e2 e3=>?_⟩
   obtain⟨u,r,l⟩:=hl i x v e1 e2 e3
   refine⟨u,r,?_⟩
   rcases l with l | ⟨k,c,e,z⟩
   · exact .inl l
   · exact .inr ⟨k,c,e,cellK x c e _ z⟩
 · obtain⟨v,z⟩:=I.cell x c e
   exact⟨v,cellK x c e v z⟩
 · obtain⟨m,⟨o,_,_,ho,_⟩,_⟩:=I.loc
   exact free _ o (fun z=>(hch _ z).2.1 rfl) ho I.free
 · obtain⟨v,o,ho,hd⟩:=I.cell x c e
   exact free c o (fun z=>(hch c z).2.2.1 x c e rfl) ho (I.freeC x c e)
 · obtain⟨e,n,ne,nf,d⟩:=I.pin p hp
   have nch:p.1∉ch:=fun z=>(hch p.1 z).2.2.2 p hp rfl
   exact⟨keep p.1 p.2 ne nf nch e n,free p.1 p.2 nch e n,ne,nf,d⟩
theorem Inv.un {t':Nat}(I:Inv X pins σ H s) (u:Un X.fs [] H H' s.heap h') (hok:HOk X.prog X.w H' h'):Inv X pins σ H' { s with heap:=h',toks:=t' }:=by
 obtain⟨m,⟨o,es,ep,ho,r⟩,_⟩:=id I.loc
 obtain⟨sl,hL⟩:=u.any ho I.free (by simp)
 exact I.step (g':=s.gens) (d':=s.drawn) (ch:=[]) (fun _ z=>nomatch z) (fun b o _ hb _ e n=>u.keep b o e n hb (by simp)) (fun b o _ hb _ e n=>u.slot b o e n hb (by simp)) (fun b o _ e n=>u.free b o e n (by simp)) (fun b o _ e=>u.there b o e (by simp)) u.tups u.frzs u.tbls (fun m' hm=>by
   obtain⟨o',es',ep',ho',r'⟩:=hm
   rw[ho] at ho';cases ho'
   exact⟨_,es',ep',hL,r'⟩) hok I.bare
theorem Inv.call {g':Array GenState}{t':Nat}{d':Drawn}{ch:List Addr}(I:Inv X pins σ H s) (u:Un (frs X.stack) ch H H' s.heap h') (hok:HOk X.prog X.w H' h') (hg:AllBare g')
   (hch:∀b∈ch,(b∈X.ex∨X.s₀.heap.objs.size<=b)/\b≠X.env.locals/\(∀x c,X.env.cells.lookup x=some c->c≠b)/\∀p∈X.pn++pins,p.1≠b) :
   Inv X pins σ H' { s with heap:=h',gens:=g',drawn:=d',toks:=t' }:=by
 obtain⟨m,⟨o,es,ep,ho,r⟩,_⟩:=id I.loc
 obtain⟨sl,hL⟩:=u.any ho I.free fun z=>(hch _ z).2.1 rfl
 exact I.step (ch:=ch) hch (fun b o hL hb hc e n=>u.keep b o e n (fun z=>(yX.mp (I.stkSub b z)).elim hL hb) hc) (fun b o _ _ hc e n=>u.any e n hc) (fun b o hc e n=>u.free b o e n hc) (fun b o hc e=>u.there b o e hc) u.tups u.frzs u.tbls (fun m' hm=>by
   obtain⟨o',es',ep',ho',r'⟩:=hm
   rw[ho] at ho';cases ho'
   exact⟨_,es',ep',hL,r'⟩) hok hg
theorem Inv.turned {t':Nat}{it:Addr}(I:Inv X pins σ H s) (k:∀b o,b≠it->s.heap.get? b=some o->h'.get? b=some o) (hn:H it=none) (hL:it≠X.env.locals)
   (h1:it∈X.ex∨X.s₀.heap.objs.size<=it) (h2:∀x c,X.env.cells.lookup x=some c->c≠it) (h3:∀p∈X.pn++pins,p.1≠it):Inv X pins σ H { s with heap:=h',toks:=t' }:=by
 have nit:∀b u,H b=some u->b≠it:=fun b u e z=>by rw[z,hn] at e;cases e
 refine I.step (g':=s.gens) (d':=s.drawn) (ch:=[it]) (fun b hb=>?_) (fun b o _ _ hc e _=>k b o (fun z=>hc (by simp[z])) e) (fun b o _ _ hc e _=>⟨o.slots,k b o (fun z=>hc (by simp[z])) e⟩) (fun _ _ _ _ n=>n)
   (fun b o hc e=>⟨o,k b o (fun z=>hc (by simp[z])) e⟩) (fun _ _ e=>e) (fun _ _ _ e=>e) (fun b ps e=>⟨#[],by rw[e];simp⟩) (fun m hm=>?_) (fun b u e=>?_) I.bare
 · have e:b=it:=by simpa using hb
   subst e
   exact⟨h1,hL,h2,h3⟩
 · obtain⟨o,es,ep,ho,r⟩:=hm
   exact⟨o,es,ep,k _ o (b5J hL) ho,r⟩
 · refine(I.hok b u e).stay (fun c v hc q=>k c v ?_ q) (fun _ q=>q) fun _ _ q=>q
   rcases hc with z | z
   · rw[z];exact nit b u e
   · exact nit c _ z
theorem Inv.tok (I:Inv X pins σ H s) (t:Nat):Inv X pins σ H { s with toks:=t }:=I.un (h':=s.heap) (t':=t) Un.refl I.hok
theorem Inv.kept {t':Nat}(I:Inv X pins σ H s) (k:∀b u,s.heap.get? b=some u->h'.get? b=some u):Inv X pins σ H { s with heap:=h',toks:=t' }:=I.un (Un.kept k) (I.hok.kept k)
theorem Inv.laid {a:Addr}{o:HO}{t':Nat}(I:Inv X pins σ H s) (k:∀b u,s.heap.get? b=some u->h'.get? b=some u) (hp:s.heap.objs.size<=a) (new:ObjOk X.prog X.w (upd H a o) h' a o) :
   Inv X pins σ (upd H a o) { s with heap:=h',toks:=t' }:=I.un (Un.laid k hp (I.hok.fresh hp)) (I.hok.laid k hp new)
theorem Inv.write {x e:Addr}{o:HO}{t':Nat}(I:Inv X pins σ H s) (mu:Mut (H x)) (he:e=x∨H e=some (.own x)) (k:∀b u,b≠e->s.heap.get? b=some u->h'.get? b=some u) (heo:∃u,h'.get? e=some u)
   (new:ObjOk X.prog X.w (upd H x o) h' x o):Inv X pins σ (upd H x o) { s with heap:=h',toks:=t' }:=I.un (Un.write mu he k heo) (I.hok.write mu he k heo new)
theorem Inv.weak {σ':List (Option V)}(I:Inv X pins σ H s) (hl:σ'.length=σ.length) (w:∀(i:Nat) v,σ'[i]?=some (some v)->σ[i]?=some (some v)):Inv X pins σ' H s:=
 ⟨I.ok,I.os,I.bare,I.base,let ⟨m,hn,hl'⟩:=I.loc;⟨m,hn,fun i x v e1 e2 e3=>hl' i x v e1 (w i v e2) e3⟩,I.cell,I.free,I.freeC,I.pin,I.hok,hl.trans I.len⟩
theorem Inv.pins_of {pins':List (Addr×Obj)}(I:Inv X pins σ H s) (h:∀p∈pins',s.heap.get? p.1=some p.2/\H p.1=none/\p.1≠X.env.locals/\p.1∉X.fs/\∀v,p.2.data≠.cell v):Inv X pins' σ H s:=
 ⟨I.ok,I.os,I.bare,I.base,I.loc,I.cell,I.free,I.freeC,fun p hp=>(yW.mp hp).elim (fun z=>I.pin p (List.mem_append_left _ z)) (h p),I.hok,I.len⟩
theorem QS {N:List Str}(hN:N.Nodup) {i j:Nat}{x:Str}(a:N[i]?=some x) (b:N[j]?=some x):i=j:=by
 obtain⟨h1,e1⟩:=yT.mp a
 obtain⟨h2,e2⟩:=yT.mp b
 exact(List.getElem_inj hN).mp (e1.trans e2.symm)
theorem W1 {M:Model}{A:Around}{E:Value->Shared->Prop}{i:Nat}{x:Str}{v:V}{u:Value}{Q:Unit->Shared->Prop}(I:Inv X pins σ H s) (hN:X.N.Nodup) (hi:X.N[i]?=some x) (hx:Loc X.env.scope x) (r:RelV v u)
   (h:∀s',Inv X pins (σ.set i (some v)) H s'->(∃a,Heap.SameBut a s.heap s'.heap/\(a=X.env.locals∨X.env.cells.lookup x=some a))->Q () s') (hf:X.fn x=true∨X.env.scope.names.lookup x=some .local:=by first | exact .inl rfl | exact .inr rfl | assumption):wpAny M A (storeName X.env x u) Q E s:=by
 obtain⟨m,hn,hl⟩:=id I.loc
 have hcls:(X.env.scope.kind==.class||(X.env.scope.kind==.module&&X.env.locals != X.env.globals))=false:=by rw[I.ok.kind];rfl
 have hiσ:i < σ.length:=by rw[I.len];exact(yT.mp hi).1
 have cne:=I.cne
 have tracked:∀{a:Addr}{h':Heap},(∃o,s.heap.get? a=some o/\H a=none)->Heap.SameBut a s.heap h'->HOk X.prog X.w H h':=fun {a h'} ha hs b ob e=>by
   obtain⟨_,_,hfree⟩:=ha
   refine(I.hok b ob e).stay (fun c w' hc q=>(hs.2 c ?_).trans q) (fun _ q=>q) fun _ _ q=>q
   rintro rfl
   rcases hc with rfl | hc
   · rw[hfree] at e;cases e
   · rw[hfree] at hc;cases hc
 rcases hx with hk | hk
 · refine wpAny_storeName_local hk hn (fun h' hn' hs=>?_) hcls
   obtain⟨oL,_,_,hoL,_⟩:=id hn
   refine h _ ⟨I.ok,I.os,I.bare,⟨fun b o e n hb hx=>?_,fun b o e n hb hx=>?_,I.base.free,fun b o e hx=>?_,I.base.tups,I.base.frzs,I.base.tbls⟩,⟨_,hn',fun j y v' e1 e2 e3=>?_⟩,fun y c e=>?_,I.free,I.freeC,fun p hp=>?_,tracked ⟨oL,hoL,I.free⟩ hs,by simpa using I.len⟩ ⟨_,hs,.inl rfl⟩
   · exact(hs.2 b (zC (zP (zM e) I.ok.above))).trans (I.base.keep b o e n hb hx)
   · obtain⟨sl,e1⟩:=I.base.slot b o e n hb hx
     exact⟨sl,(hs.2 b (zC (zP (zM e) I.ok.above))).trans e1⟩
   · obtain⟨o',e1⟩:=I.base.there b o e hx
     exact⟨o',(hs.2 b (zC (zP (zM e) I.ok.above))).trans e1⟩
   · by_cases hj:j=i
     · subst hj
       rw[hi] at e1;cases e1
       rw[List.getElem?_set_self hiσ] at e2
       cases e2
       exact⟨u,r,.inl ⟨hk,by simp⟩⟩
     · rw[b3Z (b5J hj)] at e2
       obtain⟨u',r',q⟩:=hl j y v' e1 e2 e3
       refine⟨u',r',?_⟩
       rcases q with ⟨k,e⟩ | ⟨k,c,e,z⟩
       · refine .inl ⟨k,?_⟩
         have:y≠x:=fun e=>hj (QS hN e1 (e▸hi))
         simp[this,e]
       · exact .inr ⟨k,c,e,z.sameBut hs (cne y c e)⟩
   · obtain⟨w',z⟩:=I.cell y c e
     exact⟨w',z.sameBut hs (cne y c e)⟩
   · obtain⟨e,n,ne,nf,d⟩:=I.pin p hp
     exact⟨(hs.2 p.1 ne).trans e,n,ne,nf,d⟩
 · have hfn:X.fn x=true:=by
     rcases hf with z | z
     · exact z
     · rw[z] at hk;cases hk
   obtain⟨c,hc⟩:=I.ok.has x (.inl hk)
   obtain⟨w',z⟩:=I.cell x c hc
   refine wpAny_storeName_cell I.ok.kind hk hc z (fun h' hc' hs=>?_)
   obtain⟨oc,hoc,hocd⟩:=id z
   refine h { s with heap:=h' } ⟨I.ok,I.os,I.bare,⟨fun b o e n hb hx=>?_,fun b o e n hb hx=>?_,I.base.free,fun b o e hx=>?_,I.base.tups,I.base.frzs,I.base.tbls⟩,⟨m,hn.sameBut hs (b5J (cne x c hc)),fun j y v' e1 e2 e3=>?_⟩,fun y c' e=>?_,I.free,I.freeC,fun p hp=>?_,tracked ⟨oc,hoc,I.freeC x c hc⟩ hs,by simpa using I.len⟩ ⟨c,hs,.inr hc⟩
   · exact(hs.2 b (zC (zP (zM e) (I.ok.cab x c hfn hc)))).trans (I.base.keep b o e n hb hx)
   · obtain⟨sl,e1⟩:=I.base.slot b o e n hb hx
     exact⟨sl,(hs.2 b (zC (zP (zM e) (I.ok.cab x c hfn hc)))).trans e1⟩
   · obtain⟨o',e1⟩:=I.base.there b o e hx
     exact⟨o',(hs.2 b (zC (zP (zM e) (I.ok.cab x c hfn hc)))).trans e1⟩
   · by_cases hj:j=i
     · subst hj
       rw[hi] at e1;cases e1
       rw[List.getElem?_set_self hiσ] at e2
       cases e2
       exact⟨u,r,.inr ⟨.inl hk,c,hc,hc'⟩⟩
     · rw[b3Z (b5J hj)] at e2
       obtain⟨u',r',q⟩:=hl j y v' e1 e2 e3
       refine⟨u',r',?_⟩
       rcases q with q | ⟨k,c',e,z'⟩
       · exact .inl q
       · refine .inr ⟨k,c',e,z'.sameBut hs ?_⟩
         rintro rfl
         exact hj (QS hN e1 (I.ok.inj _ _ _ e hc▸hi))
   · by_cases hcc:c'=c
     · subst hcc;exact⟨_,hc'⟩
     · obtain⟨w2,z2⟩:=I.cell y c' e
       exact⟨w2,z2.sameBut hs hcc⟩
   · obtain⟨e,n,ne,nf,d⟩:=I.pin p hp
     refine⟨(hs.2 p.1 ?_).trans e,n,ne,nf,d⟩
     intro q
     rw[q,hoc] at e
     have q':oc=p.2:=Option.some.inj e
     exact d w' (by rw[← q'];exact hocd)
theorem ED {M:Model}{A:Around}{E:Value->Shared->Prop}{i:Nat}{x:Str}{v:V}{u:Value}{Q:Unit->Shared->Prop}(I:Inv X pins σ H s) (hN:X.N.Nodup) (hi:X.N[i]?=some x) (hx:Loc X.env.scope x) (r:RelV v u)
   (h:∀s',Inv X pins (σ.set i (some v)) H s'->Q () s') (hf:X.fn x=true∨X.env.scope.names.lookup x=some .local:=by first | exact .inl rfl | exact .inr rfl | assumption):wpAny M A (storeName X.env x u) Q E s:=
 W1 I hN hi hx r (fun s' I' _=>h s' I') hf
theorem Inv.call' {s':Shared}{ch:List Addr}(I:Inv X pins σ H s) (ho:s'.os=s.os) (u:Un (frs X.stack) ch H H' s.heap s'.heap) (hok:HOk X.prog X.w H' s'.heap) (hg:AllBare s'.gens)
   (hch:∀b∈ch,(b∈X.ex∨X.s₀.heap.objs.size<=b)/\b≠X.env.locals/\(∀x c,X.env.cells.lookup x=some c->c≠b)/\∀p∈X.pn++pins,p.1≠b):Inv X pins σ H' s':=by
 obtain⟨h',g',d',t',o'⟩:=s'
 have e:o'=s.os:=ho
 subst e
 exact I.call (g':=g') (t':=t') (d':=d') u hok hg hch
end
abbrev XK:=Value->Option Addr->Hp->Prop
abbrev St:=List (Option V)
abbrev VK:=V->Hp->Prop
abbrev TE:=St->Hp->VK->Prop
abbrev TT:=St->Hp->(Bool->Hp->Prop)->Prop
abbrev TA:=St->Hp->(List V->Hp->Prop)->Prop
structure Ends where
 nx:St->Hp->Prop
 rt:VK
 bk:St->Hp->Prop:=fun _ _=>False
 ct:St->Hp->Prop:=fun _ _=>False
abbrev TS:=Ends->St->Hp->Prop
def EP (X:Cx) (pins:List (Addr×Obj)) (σ:St) (Q:VK) (u:Value) (s':Shared):Prop:=∃v H',Inv X pins σ H' s'/\RelV v u/\Q v H'
def TP (X:Cx) (pins:List (Addr×Obj)) (σ:St) (Q:Bool->Hp->Prop) (b:Bool) (s':Shared):Prop:=∃H',Inv X pins σ H' s'/\Q b H'
def AP (X:Cx) (pins:List (Addr×Obj)) (σ:St) (Q:List V->Hp->Prop) (us:List Value) (s':Shared):Prop:=∃vs H',Inv X pins σ H' s'/\Vals vs us/\Q vs H'
def SP (X:Cx) (pins:List (Addr×Obj)) (D:Ends) (f:Flow) (s':Shared):Prop:=
 match f with
 | .next=>∃σ' H',Inv X pins σ' H' s'/\D.nx σ' H'
 | .brk=>∃σ' H',Inv X pins σ' H' s'/\D.bk σ' H'
 | .cont=>∃σ' H',Inv X pins σ' H' s'/\D.ct σ' H'
 | .ret u=>∃v σ' H',Inv X pins σ' H' s'/\RelV v u/\D.rt v H'
def PE (X:Cx) (e:Expr) (t:TE):Prop:=
 ∀(pins:List (Addr×Obj)) (s:Shared) (σ:St) (H:Hp) (Q:VK),Inv X pins σ H s->t σ H Q->wpAny (model X.prog X.w) X.A (eval e X.env) (EP X pins σ Q) X.xe s
def PT (X:Cx) (e:Expr) (t:TT):Prop:=
 ∀(pins:List (Addr×Obj)) (s:Shared) (σ:St) (H:Hp) (Q:Bool->Hp->Prop),Inv X pins σ H s->t σ H Q->wpAny (model X.prog X.w) X.A (isTrue e X.env (eval e X.env)) (TP X pins σ Q) X.xe s
def PW (X:Cx) (e:Expr) (t:TT):Prop:=
 ∀(whole:Sem Value) (pins:List (Addr×Obj)) (s:Shared) (σ:St) (H:Hp) (Q:Bool->Hp->Prop),Inv X pins σ H s->t σ H Q->wpAny (model X.prog X.w) X.A (isTrue e X.env whole) (TP X pins σ Q) X.xe s
theorem PW.pt {X:Cx}{e:Expr}{t:TT}(h:PW X e t):PT X e t:=h _
def PA (X:Cx) (es:List Expr) (t:TA):Prop:=
 ∀(pos:Pos) (pins:List (Addr×Obj)) (s:Shared) (σ:St) (H:Hp) (Q:List V->Hp->Prop),Inv X pins σ H s->t σ H Q->wpAny (model X.prog X.w) X.A (spliced (backTo pos (starEach es X.env))) (AP X pins σ Q) X.xe s
def PS (X:Cx) (st:Stmt) (t:TS):Prop:=
 ∀(pins:List (Addr×Obj)) (s:Shared) (σ:St) (H:Hp) (D:Ends),Inv X pins σ H s->t D σ H->wpAny (model X.prog X.w) X.A (exec st X.env) (SP X pins D) X.xe s
def PSs (X:Cx) (st:List Stmt) (t:TS):Prop:=
 ∀(pins:List (Addr×Obj)) (s:Shared) (σ:St) (H:Hp) (D:Ends),Inv X pins σ H s->t D σ H->wpAny (model X.prog X.w) X.A (execs st X.env) (SP X pins D) X.xe s
theorem thn {α:Type}{t:Sem α}{Q Q':α->Shared->Prop}{M:Model}{A:Around}{E:Value->Shared->Prop}{s:Shared}(h:wpAny M A t Q E s) (hQ:∀a s,Q a s->Q' a s):wpAny M A t Q' E s:=wpAny_mono h hQ fun _ _ x=>x
section
variable {X:Cx}
def bD (i:Nat):TE:=fun σ H Q=>∃v,σ[i]?=some (some v)/\Q v H
def tC (v:V):TE:=fun _ H Q=>Q v H
theorem XN {i:Nat}{x:Str}{pos:Pos}(hN:X.N[i]?=some x) (hv:Vis X.env.scope x) (hd:(x==("__debug__":Str))=false:=by decide) (hcd:(x==("__classdict__":Str))=false:=by decide):PE X (.Name x pos) (bD i):=by
 intro pins s σ H Q I h
 obtain⟨v,e,h⟩:=h
 obtain⟨m,hn,hl⟩:=I.loc
 obtain⟨u,r,l⟩:=hl i x v hN e hv
 have fin:EP X pins σ Q u s:=⟨v,H,I,r,h⟩
 rcases l with ⟨hk,hm⟩ | ⟨hk,c,hc,hcell⟩
 · exact wpAny_Name (wpAny_loadName_local I.ok.kind hk hn hm fin) hd
 · rcases hk with hk | hk
   · exact wpAny_Name (wpAny_loadName_cell I.ok.kind hk hc hcell fin) hd
   · exact wpAny_Name (wpAny_loadName_free I.ok.kind hk hc hcell fin hcd) hd
theorem FK {i j pos}:PE X (.Constant (.int i) j pos) (tC (.int i)):=fun _ _ _ H _ I h=>wpAny_Constant_int ⟨.int i,H,I.tok _,⟨_,rfl⟩,h⟩
theorem UL {b j pos}:PE X (.Constant (.bool b) j pos) (tC (.bl b)):=fun _ _ _ H _ I h=>Constant_bool ⟨.bl b,H,I,rfl,h⟩
theorem gG {j pos}:PE X (.Constant .none j pos) (tC .non):=fun _ _ _ H _ I h=>Constant_none ⟨.non,H,I,rfl,h⟩
theorem gH {x j pos}:PE X (.Constant (.str x) j pos) (tC (.str x)):=fun _ _ _ H _ I h=>Calls.Constant_str ⟨.str x,H,I.tok _,⟨_,rfl⟩,h⟩
def Gl (X:Cx) (x:Str):Prop:=X.env.kindOf x=some .globalImplicit
theorem UM {E:Value->Shared->Prop}{pins:List (Addr×Obj)}{s:Shared}{σ:St}{H:Hp}{x:Str}{u:Value}{pos:Pos}{Q:Value->Shared->Prop}(I:Inv X pins σ H s) (hg:Gl X x) (hm:X.mg x=some u) (h:Q u s)
   (hd:(x==("__debug__":Str))=false:=by decide):wpAny (model X.prog X.w) X.A (eval (.Name x pos) X.env) Q E s:=
 Calls.Name_function_global I.ok.kind hg (Calls.loadGlobal_global (by rw[I.ok.glob];exact I.mod.glob.keeps I.bk) hm h) hd
theorem GP {E:Value->Shared->Prop}{pins:List (Addr×Obj)}{s:Shared}{σ:St}{H:Hp}{x:Str}{u:Value}{pos:Pos}{Q:Value->Shared->Prop}(I:Inv X pins σ H s) (hg:Gl X x) (hm:X.mg x=none) (hv:bootBuiltins x=some u) (h:Q u s)
   (hn:x ≠ "__name__" := by decide) (hd:(x==("__debug__":Str))=false:=by decide):wpAny (model X.prog X.w) X.A (eval (.Name x pos) X.env) Q E s:=by
 obtain⟨mb,h1,h2⟩:=I.mod.blt
 exact Calls.Name_function_global I.ok.kind hg (Calls.loadGlobal_builtin (by rw[I.ok.glob];exact I.mod.glob.keeps I.bk) hm (by rw[I.ok.blt];exact h1.keeps I.bk) ((h2 x hn).trans hv) h) hd
theorem FL {x:Str}{v:V}{u:Value}{pos:Pos}(hg:Gl X x) (hm:X.mg x=none) (hv:bootBuiltins x=some u) (r:RelV v u) (hn:x ≠ "__name__" := by decide) (hd:(x==("__debug__":Str))=false:=by decide):PE X (.Name x pos) (tC v):=
 fun _ _ _ H _ I h=>GP I hg hm hv ⟨v,H,I,r,h⟩ hn hd
variable {a b:Expr}{ta tb:TE}{pos:Pos}
def PC (X:Cx) (op:CmpOp) (a b:Expr) (t:TE):Prop:=
 ∀(pins:List (Addr×Obj)) (s:Shared) (σ:St) (H:Hp) (Q:VK),Inv X pins σ H s->t σ H Q ->
   wpAny (model X.prog X.w) X.A (eval a X.env) (fun v s₁=>wpAny (model X.prog X.w) X.A (eval b X.env) (fun u s₂=>wpAny (model X.prog X.w) X.A (compareOp op v u) (EP X pins σ Q) X.xe s₂) X.xe s₁) X.xe s
def tB (t:TE):TT:=fun σ H Q=>t σ H fun x H1=>∃c,x = .bl c/\Q c H1
theorem XO {op:CmpOp}{t:TE}(h:PC X op a b t) (h1:behindInMarks op b=false:=by first | exact nobehind _ (by decide) (by decide) | rfl):PE X (.Compare a [op] [b] pos) t:=fun pins s σ H Q I hw=>wpAny_Compare1 (h pins s σ H Q I hw) h1
theorem gI {op:CmpOp}{t:TE}(h:PC X op a b t) (h1:behindInMarks op b=false:=by first | exact nobehind _ (by decide) (by decide) | rfl):PT X (.Compare a [op] [b] pos) (tB t):=by
 intro pins s σ H Q I hw
 refine wpAny_isTrue_Compare1 (thn (h pins s σ H _ I hw) fun v s1 h1=>thn h1 fun u s2 h2=>thn h2 fun c s3 ⟨x,H1,I1,r1,q1⟩=>?_) h1
 obtain⟨d,rfl,q⟩:=q1
 cases r1
 exact wpAny_truthy_bool ⟨H1,I1,q⟩
theorem SU {e:Expr}{t:TE}(h:PE X e t) (he:∀whole,isTrue e X.env whole=(do let v ← whole;standAt e.pos;holding [v] (truthy v)):=by intro _;rfl):PT X e (tB t):=by
 intro pins s σ H Q I hw
 refine isTrue_plain (thn (h pins s σ H _ I hw) fun v s1 ⟨x,H1,I1,r1,q1⟩=>?_) (he _)
 obtain⟨d,rfl,q⟩:=q1
 cases r1
 exact wpAny_truthy_bool ⟨H1,I1,q⟩
variable {tA tB':TT}{rest:List Expr}
def kA (t u:TT):TT:=fun σ H Q=>t σ H fun c H1=>if c=true then u σ H1 Q else Q false H1
def tOr (t u:TT):TT:=fun σ H Q=>t σ H fun c H1=>if c=true then Q true H1 else u σ H1 Q
def kB (t:TT):TT:=fun σ H Q=>t σ H fun c H1=>Q (!c) H1
theorem pw_and1 (ha:PT X a tA):PW X (.BoolOp .And [a] pos) tA:=by
 intro wh pins s σ H Q I h
 refine isTrue_and (thn (ha pins s σ H Q I h) fun c s1 e=>?_)
 cases c with
 | true=>exact isTrue_and_nil e
 | false=>exact e
theorem pw_or1 (ha:PT X a tA):PW X (.BoolOp .Or [a] pos) tA:=by
 intro wh pins s σ H Q I h
 refine isTrue_or (thn (ha pins s σ H Q I h) fun c s1 e=>?_)
 cases c with
 | false=>exact isTrue_or_nil e
 | true=>exact e
theorem pw_and (ha:PT X a tA) (hb:PW X (.BoolOp .And (b::rest) pos) tB'):PW X (.BoolOp .And (a::b::rest) pos) (kA tA tB'):=by
 intro wh pins s σ H Q I h
 refine isTrue_and (thn (ha pins s σ H _ I h) fun c s1 ⟨H1,I1,q1⟩=>?_)
 cases c with
 | true=>exact hb wh pins s1 σ H1 Q I1 q1
 | false=>exact⟨H1,I1,q1⟩
theorem pw_or (ha:PT X a tA) (hb:PW X (.BoolOp .Or (b::rest) pos) tB'):PW X (.BoolOp .Or (a::b::rest) pos) (tOr tA tB'):=by
 intro wh pins s σ H Q I h
 refine isTrue_or (thn (ha pins s σ H _ I h) fun c s1 ⟨H1,I1,q1⟩=>?_)
 cases c with
 | true=>exact⟨H1,I1,q1⟩
 | false=>exact hb wh pins s1 σ H1 Q I1 q1
theorem gJ (ha:PT X a tA):PT X (.UnaryOp .Not a pos) (kB tA):=by
 intro pins s σ H Q I h
 exact isTrue_not (ha pins s σ H (fun c H1=>Q (!c) H1) I h)
def eR (ta tb:TE):TE:=fun σ H Q=>ta σ H fun x H1=>∃c,x = .bl c/\if c=true then tb σ H1 Q else Q (.bl false) H1
theorem gK {op} {t:TE}(h:PE X a t):PE X (.BoolOp op [a] pos) t:=fun pins s σ H Q I hw=>BoolOp_one (h pins s σ H Q I hw)
theorem gL (ha:PE X a ta) (hb:PE X (.BoolOp .And (b::rest) pos) tb):PE X (.BoolOp .And (a::b::rest) pos) (eR ta tb):=by
 intro pins s σ H Q I h
 refine BoolOp_and (thn (ha pins s σ H _ I h) fun v s1 ⟨x,H1,I1,r1,q1⟩=>?_)
 obtain⟨c,rfl,q1⟩:=q1
 cases r1
 refine wpAny_truthy_bool ?_
 cases c with
 | true=>exact hb pins s1 σ H1 Q I1 q1
 | false=>exact⟨.bl false,H1,I1,rfl,q1⟩
def tIf (t:TT) (ta tb:TE):TE:=fun σ H Q=>t σ H fun c H1=>if c=true then ta σ H1 Q else tb σ H1 Q
theorem XQ {c:Expr}(hc:PT X c tA) (ha:PE X a ta) (hb:PE X b tb):PE X (.IfExp c a b pos) (tIf tA ta tb):=by
 intro pins s σ H Q I h
 refine wpAny_IfExp (thn (hc pins s σ H _ I h) fun d s1 ⟨H1,I1,q1⟩=>?_)
 cases d with
 | true=>exact ha pins s1 σ H1 Q I1 q1
 | false=>exact hb pins s1 σ H1 Q I1 q1
end
def SqL (K:Frg) (H:Hp) (a:Addr) (xs:List V):Prop:=
 Rd H a (.lst xs) ∨
   ∃(o:Obj) (its:Array Value) (n:Nat),K.lookup a=some o/\o.cls = .type "list" /\ o.dict=none/\o.data = .seq its n/\its.size<=sizeLine/\Vals xs its.toList
def SqT (K:Frg) (H:Hp) (a:Addr) (xs:List V):Prop:=
 Rd H a (.tup xs) ∨
   ∃(o:Obj) (its:Array Value) (n:Nat),K.lookup a=some o/\o.cls = .type "tuple" /\ o.data = .seq its n/\its.size<=sizeLine/\Vals xs its.toList
def m6:Value->Option V
 | .none=>some .non
 | .bool b=>some (.bl b)
 | .int i _=>some (.int i)
 | .str x _=>some (.str x)
 | .bytes b _=>some (.byt b)
 | .float b _=>some (.flt b)
 | .ref a=>some (.ref a)
 | .type n=>some (.ty n)
 | _=>none
theorem RelV.abs {x:V}{u:Value}(r:RelV x u):m6 u=some x:=by
 cases x with
 | non=>cases r;rfl
 | bl _=>cases r;rfl
 | int _=>obtain⟨t,rfl⟩:=r;rfl
 | str _=>obtain⟨t,rfl⟩:=r;rfl
 | byt _=>obtain⟨t,rfl⟩:=r;rfl
 | flt _=>obtain⟨t,rfl⟩:=r;rfl
 | ref _=>cases r;rfl
 | ty _=>cases r;rfl
theorem RelV.inj {x y:V}{u:Value}(r:RelV x u) (q:RelV y u):x=y:=Option.some.inj (r.abs.symm.trans q.abs)
theorem Vals.inj:∀{xs ys:List V}{us:List Value},Vals xs us->Vals ys us->xs=ys
 | _,_,_,.nil,.nil=>rfl
 | _,_,_,.cons r t,.cons r' t'=>by rw[r.inj r',Vals.inj t t']
section
variable {X:Cx}{pins:List (Addr×Obj)}{σ:St}{H:Hp}{s:Shared}{a:Addr}{xs ys:List V}
theorem SqL.of {K:Frg}(h:H a=some (.lst xs)):SqL K H a xs:=.inl (.inl h)
theorem Inv.list (I:Inv X pins σ H s) (h:SqL X.K H a xs):∃its:List Value,Vals xs its/\PlainL s.heap a its.toArray/\xs.length<=sizeLine:=by
 rcases h with h | ⟨o,its,n,hk,hc,hd,hs,hz,r⟩
 · obtain⟨z,its,n,r,e⟩:=h.ok I.hok
   exact⟨its,r,⟨_,n,e,rfl,rfl,rfl⟩,z⟩
 · refine⟨its.toList,r,⟨o,n,I.kIn a o hk,hc,hd,by simpa using hs⟩,?_⟩
   have e:=r.length
   simp only[a3V] at e
   omega
theorem Inv.tuple (I:Inv X pins σ H s) (h:SqT X.K H a xs):∃its:List Value,Vals xs its/\IsTup s.heap a its.toArray/\xs.length<=sizeLine:=by
 rcases h with h | ⟨o,its,n,hk,hc,hs,hz,r⟩
 · obtain⟨z,its,r,p⟩:=h.ok I.hok
   exact⟨its,r,p,z⟩
 · refine⟨its.toList,r,⟨o,I.kIn a o hk,hc,n,by simpa using hs⟩,?_⟩
   have e:=r.length
   simp only[a3V] at e
   omega
theorem Inv.list_inj (I:Inv X pins σ H s) (h:SqL X.K H a xs) (h':SqL X.K H a ys):xs=ys:=by
 obtain⟨its,r,⟨o,n,e,_,_,d⟩,_⟩:=I.list h
 obtain⟨its',r',⟨o',n',e',_,_,d'⟩,_⟩:=I.list h'
 rw[e] at e';cases e'
 rw[d] at d'
 injection d' with d1 _
 have:its=its':=by simpa using congrArg Array.toList d1
 subst this
 exact r.inj r'
theorem Inv.tuple_inj (I:Inv X pins σ H s) (h:SqT X.K H a xs) (h':SqT X.K H a ys):xs=ys:=by
 obtain⟨its,r,⟨o,e,_,n,d⟩,_⟩:=I.tuple h
 obtain⟨its',r',⟨o',e',_,n',d'⟩,_⟩:=I.tuple h'
 rw[e] at e';cases e'
 rw[d] at d'
 injection d' with d1 _
 have:its=its':=by simpa using congrArg Array.toList d1
 subst this
 exact r.inj r'
end
abbrev Cx.wish (X:Cx) (E:Value->Shared->Prop):Cx:={ X with xe:=E }
abbrev Cx.nox (X:Cx):Cx:=X.wish fun _ _=>False
theorem Cx.Ok.wish {X:Cx}(ok:X.Ok) (E:Value->Shared->Prop):(X.wish E).Ok:=
 ⟨ok.mod,ok.kind,ok.glob,ok.blt,ok.above,ok.inj,ok.has,ok.cab,ok.hd,ok.frames,ok.stk,ok.exf,ok.bs,ok.bsz,ok.noex,ok.exfs,ok.funs,ok.frf⟩
theorem Cx.Ok.unwish {X:Cx}{E:Value->Shared->Prop}(ok:(X.wish E).Ok):X.Ok:=
 ⟨ok.mod,ok.kind,ok.glob,ok.blt,ok.above,ok.inj,ok.has,ok.cab,ok.hd,ok.frames,ok.stk,ok.exf,ok.bs,ok.bsz,ok.noex,ok.exfs,ok.funs,ok.frf⟩
section
variable {X:Cx}{pins:List (Addr×Obj)}{σ:St}{H:Hp}{s:Shared}{E:Value->Shared->Prop}
theorem Inv.wish (I:Inv X pins σ H s) (E:Value->Shared->Prop):Inv (X.wish E) pins σ H s:=⟨I.ok.wish E,I.os,I.bare,I.base,I.loc,I.cell,I.free,I.freeC,I.pin,I.hok,I.len⟩
theorem Inv.unwish (I:Inv (X.wish E) pins σ H s):Inv X pins σ H s:=⟨I.ok.unwish,I.os,I.bare,I.base,I.loc,I.cell,I.free,I.freeC,I.pin,I.hok,I.len⟩
theorem SP.unwish {D:Ends}{f:Flow}{s':Shared}(h:SP (X.wish E) pins D f s'):SP X pins D f s':=by
 cases f with
 | next=>obtain⟨σ',H',I,q⟩:=h;exact⟨σ',H',I.unwish,q⟩
 | brk=>obtain⟨σ',H',I,q⟩:=h;exact⟨σ',H',I.unwish,q⟩
 | cont=>obtain⟨σ',H',I,q⟩:=h;exact⟨σ',H',I.unwish,q⟩
 | ret u=>obtain⟨v,σ',H',I,r,q⟩:=h;exact⟨v,σ',H',I.unwish,r,q⟩
theorem PSs.nox {st:List Stmt}{t:TS}(h:PSs X.nox st t):PSs X st t:=fun pins s σ H D I hw=>
 wpAny_mono (h pins s σ H D (I.wish _) hw) (fun _ _ q=>q.unwish) fun _ _ z=>b0K z
end
section
variable {X:Cx}{st:Stmt}{rest:List Stmt}{t u:TS}{e:Expr}{te:TE}{pos:Pos}
def eT:TS:=fun D σ H=>D.nx σ H
def gM (t u:TS):TS:=fun D σ H=>t { D with nx:=u D } σ H
theorem HG:PSs X [] eT:=fun _ _ σ H _ I h=>wpAny_execs_nil ⟨σ,H,I,h⟩
theorem BZ (h1:PS X st t) (h2:PSs X rest u):PSs X (st::rest) (gM t u):=by
 intro pins s σ H D I h
 refine wpAny_execs_cons (thn (h1 pins s σ H { D with nx:=u D } I h) fun f s1 q=>?_)
 cases f with
 | next=>
   obtain⟨σ',H',I',q⟩:=q
   exact h2 pins s1 σ' H' D I' q
 | ret v=>exact q
 | brk=>exact q
 | cont=>exact q
theorem CD (h1:PS X st t):PSs X [st] t:=by
 intro pins s σ H D I h
 refine wpAny_execs_cons (thn (h1 pins s σ H D I h) fun f s1 q=>?_)
 cases f with
 | next=>exact wpAny_execs_nil q
 | ret v=>exact q
 | brk=>exact q
 | cont=>exact q
theorem Inv.quiet {pins:List (Addr×Obj)}{σ:St}{H:Hp}{s:Shared}(I:Inv X pins σ H s):interactive X.env=false:=by simp[interactive,I.ok.kind]
def eU (te:TE):TS:=fun D σ H=>te σ H fun _ H1=>D.nx σ H1
theorem bE (he:PE X e te) (hs:swapsWith e none pos.line X.env=pure false:=by rfl):PS X (.Expr e pos) (eU te):=by
 intro pins s σ H D I h
 exact wpAny_Expr_any (thn (he pins s σ H _ I h) fun v s1 ⟨x,H1,I1,r1,q1⟩=>⟨σ,H1,I1,q1⟩) I.quiet hs
def kC (te:TE):TS:=fun D σ H=>te σ H D.rt
theorem SV (he:PE X e te):PS X (.Return (some e) pos) (kC te):=by
 intro pins s σ H D I h
 exact wpAny_Return_some (thn (he pins s σ H _ I h) fun v s1 ⟨x,H1,I1,r1,q1⟩=>⟨x,σ,H1,I1,r1,q1⟩)
def kD (c:TT) (t u:TS):TS:=fun D σ H=>c σ H fun b H1=>if b=true then t D σ H1 else u D σ H1
theorem OC {c:Expr}{a b:List Stmt}{tc:TT}(hc:PT X c tc) (ha:PSs X a t) (hb:PSs X b u):PS X (.If c a b pos) (kD tc t u):=by
 intro pins s σ H D I h
 refine wpAny_If (thn (hc pins s σ H _ I h) fun d s1 ⟨H1,I1,q1⟩=>?_)
 cases d with
 | true=>exact ha pins s1 σ H1 D I1 q1
 | false=>exact hb pins s1 σ H1 D I1 q1
def gN:TS:=fun _ _ _=>False
theorem XR:PS X st gN:=fun _ _ _ _ _ _ h=>h.elim
end
abbrev TG:=V->St->Hp->(St->Hp->Prop)->Prop
abbrev TGs:=List V->St->Hp->(St->Hp->Prop)->Prop
def PG (X:Cx) (target:Expr) (t:TG):Prop:=
 ∀(pins:List (Addr×Obj)) (s:Shared) (σ:St) (H:Hp) (v:V) (u:Value) (Q:St->Hp->Prop),Inv X pins σ H s->RelV v u->t v σ H Q ->
   wpAny (model X.prog X.w) X.A (assign target X.env u) (fun _ s'=>∃σ' H',Inv X pins σ' H' s'/\Q σ' H') X.xe s
def PGs (X:Cx) (ts:List Expr) (t:TGs):Prop:=
 ∀(pins:List (Addr×Obj)) (s:Shared) (σ:St) (H:Hp) (vs:List V) (us:List Value) (Q:St->Hp->Prop),Inv X pins σ H s->Vals vs us->t vs σ H Q ->
   wpAny (model X.prog X.w) X.A (assignInOrder ((assignEach ts X.env).map (·.2)) us) (fun _ s'=>∃σ' H',Inv X pins σ' H' s'/\Q σ' H') X.xe s
abbrev gQ:=V->V->V->Hp->(Hp->Prop)->Prop
def kE (X:Cx) (t:gQ):Prop:=
 ∀(pins:List (Addr×Obj)) (s:Shared) (σ:St) (H:Hp) (o i v:V) (ov iv u:Value) (Q:Hp->Prop),Inv X pins σ H s->RelV o ov->RelV i iv->RelV v u->t o i v H Q ->
   wpAny (model X.prog X.w) X.A (setItem ov iv u) (fun _ s'=>∃H',Inv X pins σ H' s'/\Q H') X.xe s
abbrev TIp:=V->V->Hp->VK->Prop
def PIp (X:Cx) (op:Operator) (t:TIp):Prop:=
 ∀(pins:List (Addr×Obj)) (s:Shared) (σ:St) (H:Hp) (x y:V) (v u:Value) (Q:VK),Inv X pins σ H s->RelV x v->RelV y u->t x y H Q ->
   wpAny (model X.prog X.w) X.A (inplaceOp op v u) (EP X pins σ Q) X.xe s
section
variable {X:Cx}{pos:Pos}
def LT (i:Nat):TG:=fun v σ H Q=>Q (σ.set i (some v)) H
theorem FM {i:Nat}{x:Str}(hN:X.N.Nodup) (hi:X.N[i]?=some x) (hx:Loc X.env.scope x) (hf:X.fn x=true∨X.env.scope.names.lookup x=some .local:=by first | exact .inl rfl | exact .inr rfl | assumption):PG X (.Name x pos) (LT i):=by
 intro pins s σ H v u Q I r h
 exact wpAny_assign_Name (ED I hN hi hx r (fun s' I'=>⟨_,H,I',h⟩) hf)
def gR:TGs:=fun vs σ H Q=>vs=[]/\Q σ H
def UN (t:TG) (u:TGs):TGs:=fun vs σ H Q=>∃v r,vs=v::r/\t v σ H fun σ' H'=>u r σ' H' Q
theorem UO:PGs X [] gR:=by
 intro pins s σ H vs us Q I r h
 obtain⟨e,h⟩:=h
 subst e
 cases r
 exact assignInOrder_nil ⟨σ,H,I,h⟩
theorem LU {e:Expr}{es:List Expr}{t:TG}{u:TGs}(h1:PG X e t) (h2:PGs X es u)
   (hs:(assignEach (e::es) X.env).map (·.2)=assign e X.env::(assignEach es X.env).map (·.2):=by rfl):PGs X (e::es) (UN t u):=by
 intro pins s σ H vs us Q I r h
 obtain⟨v,vr,e1,h⟩:=h
 subst e1
 cases r with
 | cons r rr=>
   rw[hs]
   refine assignInOrder_cons (thn (h1 pins s σ H _ _ _ I r h) fun _ s1 ⟨σ1,H1,I1,q1⟩=>?_)
   exact h2 pins s1 σ1 H1 _ _ Q I1 rr q1
def bF (K:Frg) (n:Nat) (t:TGs):TG:=fun v σ H Q=>∃a xs,v = .ref a/\SqT K H a xs/\xs.length=n/\t xs σ H Q
theorem XS {es:List Expr}{k:Nat}{t:TGs}{n:Nat}(hc:X.calm=true) (h:PGs X es t)
   (hn:(assignEach es X.env).length=n:=by rfl) (hst:(assignEach es X.env).findIdx? (·.1)=none:=by rfl):PG X (.Tuple es k pos) (bF X.K n t):=by
 intro pins s σ H v u Q I r hw
 obtain⟨a,xs,e1,hq,hl,hw⟩:=hw
 subst e1
 cases r
 obtain⟨its,rv,ht,hz⟩:=I.tuple hq
 refine assign_Tuple_tuple (I.ok.hd hc) ht (by simp[hn,← hl,rv.length]) hst fun h' hx=>?_
 have I1:Inv X pins σ H { s with heap:=h' }:=I.kept (t':=s.toks) fun b o e=>hx b o (zC (zM e)) e
 exact h pins _ σ H xs _ Q I1 (by simpa using rv) hw
def kF (to ti:TE) (t:gQ):TG:=fun v σ H Q=>to σ H fun o H1=>ti σ H1 fun i H2=>t o i v H2 fun H3=>Q σ H3
theorem gS {o i:Expr}{to ti:TE}{t:gQ}(ho:PE X o to) (hi:PE X i ti) (hs:kE X t)
   (ha:∀v,assign (.Subscript o i pos) X.env v=(do
     let ov ← holding [v] (eval o X.env)
     let iv ← holding [v,ov] (eval i X.env)
     standAt pos
     holding [v,ov,iv] (setItem ov iv v)
     release [v,ov,iv] []):=by intro _;rfl):PG X (.Subscript o i pos) (kF to ti t):=by
 intro pins s σ H v u Q I r h
 rw[ha]
 refine zZ (wpAny_holding (thn (ho pins s σ H _ I h) fun ov s1 ⟨x,H1,I1,r1,q1⟩=>?_))
 refine zZ (wpAny_holding (thn (hi pins s1 σ H1 _ I1 q1) fun iv s2 ⟨y,H2,I2,r2,q2⟩=>?_))
 refine zZ (wpAny_standAt (zZ (wpAny_holding (thn (hs pins s2 σ H2 x y v ov iv u _ I2 r1 r2 r q2) fun _ s3 ⟨H3,I3,q3⟩=>?_))))
 exact wpAny_release ⟨σ,H3,I3,q3⟩
def bG (te:TE) (g:TG):TS:=fun D σ H=>te σ H fun x H1=>g x σ H1 D.nx
theorem LV {tg e:Expr}{te:TE}{g:TG}(he:PE X e te) (hg:PG X tg g) (hs:swapsWithSole [tg] e pos.line X.env=pure false:=by rfl) (hw:swappedStores [tg] e X.env=pure none:=by rfl)
   (h1:(assignEach [tg] X.env).map (·.2)=[assign tg X.env]:=by rfl):PS X (.Assign [tg] e pos) (bG te g):=by
 intro pins s σ H D I h
 refine wpAny_Assign_stores (thn (he pins s σ H _ I h) fun v s1 ⟨x,H1,I1,r1,q1⟩=>?_) hs hw
 rw[h1]
 exact thn (hg pins s1 σ H1 x v _ I1 r1 q1) fun _ s2 q=>q
theorem K0 {i:Nat}{x:Str}{e:Expr}{te:TE}{pos':Pos}(hN:X.N.Nodup) (hi:X.N[i]?=some x) (hx:Loc X.env.scope x) (he:PE X e te) (hs:swapsWith e (some (.Name x pos')) pos.line X.env=pure false:=by rfl) (hf:X.fn x=true∨X.env.scope.names.lookup x=some .local:=by first | exact .inl rfl | exact .inr rfl | assumption) :
   PS X (.Assign [.Name x pos'] e pos) (bG te (LT i)):=by
 intro pins s σ H D I h
 refine wpAny_Assign_Name (thn (he pins s σ H _ I h) fun v s1 ⟨y,H1,I1,r1,q1⟩=>?_) hs
 exact ED I1 hN hi hx r1 (fun s2 I2=>⟨_,H1,I2,q1⟩) hf
def kG (i j:Nat) (ta:TA):TS:=fun D σ H=>ta σ H fun vs H1=>∃v w,vs=[v,w]/\D.nx ((σ.set i (some v)).set j (some w)) H1
theorem gT {i j:Nat}{x y:Str}{a b:Expr}{ta:TA}{px py pt:Pos}{kt k2 pt2} (hc:X.calm=true) (hN:X.N.Nodup) (hi:X.N[i]?=some x) (hj:X.N[j]?=some y) (hij:i≠j)
   (hx:X.env.scope.names.lookup x=some .local) (hy:X.env.scope.names.lookup y=some .local) (ha:PA X [a,b] ta)
   (hw:swappedStores [.Tuple [.Name x px,.Name y py] kt pt] (.Tuple [a,b] k2 pt2) X.env=pure (some [x,y]))
   (hs:swapsWithSole [.Tuple [.Name x px,.Name y py] kt pt] (.Tuple [a,b] k2 pt2) pos.line X.env=pure false:=by rfl) :
   PS X (.Assign [.Tuple [.Name x px,.Name y py] kt pt] (.Tuple [a,b] k2 pt2) pos) (kG i j ta):=by
 intro pins s σ H D I h
 rw[exec_Assign_arm]
 refine zZ (wpAny_standAt ?_)
 rw[hs]
 refine zZ (zY ?_)
 rw[if_neg (by decide)]
 refine zZ (Tuple_ (thn (ha _ pins s σ H _ I h) fun us s1 ⟨vs,H1,I1,r1,q1⟩=>?_))
 obtain⟨v,w,e1,q1⟩:=q1
 subst e1
 obtain⟨u1,u2,rfl,rv,rw'⟩:∃u1 u2,us=[u1,u2]/\RelV v u1/\RelV w u2:=by
   cases r1 with
   | cons p q=>
     cases q with
     | cons p' q'=>
       cases q'
       exact⟨_,_,rfl,p,p'⟩
 refine xL ?_ (by show 2<=sizeLine;decide)
 have I2:Inv X pins σ H1 { s1 with heap:=s1.heap.push { cls:=.type "tuple", data:=.seq [u1,u2].toArray } }:=I1.kept (t':=s1.toks) fun b o e=>zW _ e
 rw[hw]
 refine zZ (zY ?_)
 show wpAny (model X.prog X.w) X.A (do rule "assign.swapped-stores";let items ← unpackItems (.ref s1.heap.objs.size) 2 none;assignInOrder [fun v=>bindName X.env y v,fun v=>bindName X.env x v] items.reverse;pure Flow.next) _ _ _
 refine zZ (wpAny_rule (zZ (unpackItems_tuple (items:=#[u1,u2]) (I.ok.hd hc) (IsTup.new s1.heap _) fun h' hx'=>?_)))
 have I3:=I2.kept (h':=h') (t':=s1.toks) fun b o e=>hx' b o (zC (zM e)) e
 show wpAny _ _ (assignInOrder [fun v=>bindName X.env y v,fun v=>bindName X.env x v] [u2,u1] >>= fun _=>pure Flow.next) _ _ _
 refine zZ (assignInOrder_cons (wpAny_bindName (ED I3 hN hj (.inl hy) rw' (fun s2 I4=>?_) (.inr hy))))
 refine assignInOrder_cons (wpAny_bindName (ED I4 hN hi (.inl hx) rv (fun s3 I5=>assignInOrder_nil (zY ?_)) (.inr hx)))
 rw[List.set_comm _ _ (b5J hij)] at I5
 exact⟨_,H1,I5,q1⟩
def kH (i:Nat) (te:TE) (ti:TIp):TS:=fun D σ H=>∃x,σ[i]?=some (some x)/\te σ H fun y H1=>ti x y H1 fun z H2=>D.nx (σ.set i (some z)) H2
theorem SW {i:Nat}{x:Str}{e:Expr}{te:TE}{op:Operator}{ti:TIp}{pos':Pos}(hN:X.N.Nodup) (hi:X.N[i]?=some x) (hx:Loc X.env.scope x) (he:PE X e te) (ho:PIp X op ti) (hf:X.fn x=true∨X.env.scope.names.lookup x=some .local:=by first | exact .inl rfl | exact .inr rfl | assumption) :
   PS X (.AugAssign (.Name x pos') op e pos) (kH i te ti):=by
 intro pins s σ H D I h
 obtain⟨v,e1,h⟩:=h
 obtain⟨m,hn,hl⟩:=I.loc
 have vis:Vis X.env.scope x:=by rcases hx with k | k;exact .inl k;exact .inr (.inl k)
 obtain⟨u,r,l⟩:=hl i x v hi e1 vis
 refine wpAny_AugAssign_Name ?_
 have go:wpAny (model X.prog X.w) X.A (eval e X.env) (fun w s₂=>wpAny (model X.prog X.w) X.A (inplaceOp op u w) (fun r s₃=>wpAny (model X.prog X.w) X.A (storeName X.env x r) (fun _=>SP X pins D .next) X.xe s₃) X.xe s₂) X.xe s:=by
   refine thn (he pins s σ H _ I h) fun w s1 ⟨y,H1,I1,r1,q1⟩=>?_
   refine thn (ho pins s1 σ H1 v y u w _ I1 r r1 q1) fun z s2 ⟨zv,H2,I2,r2,q2⟩=>?_
   exact ED I2 hN hi hx r2 (fun s3 I3=>⟨_,H2,I3,q2⟩) hf
 rcases l with ⟨hk,hm⟩ | ⟨hk,c,hc,hcell⟩
 · exact wpAny_loadName_local I.ok.kind hk hn hm go
 · rcases hk with hk | hk
   · exact wpAny_loadName_cell I.ok.kind hk hc hcell go
   · rcases hx with k | k
     · have:X.env.scope.names.lookup x=some .free:=hk
       rw[k] at this;cases this
     · have:X.env.scope.names.lookup x=some .free:=hk
       rw[k] at this;cases this
def ipI (f:Int->Int->Int):TIp:=fun x y H Q=>∃i j,x = .int i/\y = .int j/\Q (.int (f i j)) H
theorem gU:PIp X .Add (ipI fun i j=>i+j):=by
 intro pins s σ H x y v u Q I r1 r2 h
 obtain⟨i,j,e1,e2,q⟩:=h
 subst e1;subst e2
 obtain⟨t,rfl⟩:=r1
 obtain⟨t',rfl⟩:=r2
 exact iadd_int ⟨.int _,H,I.tok _,⟨_,rfl⟩,q⟩
def XT (c:TT) (tb:TS):TS:=fun D σ H=>∃W:Nat->St->Hp->Prop,(∃m,W m σ H)/\∀m σ H,W m σ H ->
 c σ H fun b H1=>if b=true then ∃N:St->Hp->Prop,(∀σ' H',N σ' H'->∃m',m' < m/\W m' σ' H')/\tb { D with nx:=N,ct:=N,bk:=D.nx } σ H1 else D.nx σ H1
theorem QT {c:Expr}{body:List Stmt}{tc:TT}{tb:TS}(hp:PassesOwn (model X.prog X.w) X.A X.env X.xe) (hc:PT X c tc) (hb:PSs X body tb):PS X (.While c body [] pos) (XT tc tb):=by
 intro pins s σ H D I h
 obtain⟨W,⟨m0,w0⟩,turn⟩:=h
 refine wpAny_While (codeAny_whileLoop (fun n s'=>∃σ' H',Inv X pins σ' H' s'/\W n σ' H') ?_ m0 ⟨σ,H,I,w0⟩)
 rintro n s1 ⟨σ1,H1,I1,w1⟩
 refine wpAny_passesOwn hp (thn (hc pins s1 σ1 H1 _ I1 (turn n σ1 H1 w1)) fun b s2 ⟨H2,I2,q2⟩=>?_)
 cases b with
 | true=>
   obtain⟨N,hN,q2⟩:=q2
   rw[if_pos rfl]
   refine wpAny_passesOwn hp (thn (hb pins s2 σ1 H2 _ I2 q2) fun f s3 q3=>?_)
   cases f with
   | next=>
     obtain⟨σ3,H3,I3,n3⟩:=q3
     obtain⟨m',hm,w3⟩:=hN σ3 H3 n3
     exact⟨m',hm,σ3,H3,I3,w3⟩
   | cont=>
     obtain⟨σ3,H3,I3,n3⟩:=q3
     obtain⟨m',hm,w3⟩:=hN σ3 H3 n3
     exact⟨m',hm,σ3,H3,I3,w3⟩
   | brk=>exact q3
   | ret v=>exact q3
 | false=>
   rw[if_neg nft]
   exact wpAny_execs_nil ⟨σ1,H2,I2,q2⟩
end
structure It where
 go:Nat->Hp->Prop
 yld:Nat->Hp->V->Hp->Prop
 stop:Nat->Hp->Prop
def L1 (X:Cx) (pins:List (Addr×Obj)) (H:Hp) (b:Addr):Prop:=
 H b=none/\b≠X.env.locals/\b∉X.fs/\(b∈X.ex∨X.s₀.heap.objs.size<=b)/\(∀x c,X.env.cells.lookup x=some c->c≠b)/\∀p∈X.pn++pins,p.1≠b
theorem Inv.fpOk {X:Cx}{pins:List (Addr×Obj)}{σ:St}{H H':Hp}{s:Shared}{b:Addr}(I:Inv X pins σ H s) (hb:s.heap.objs.size<=b) (hn:H' b=none):L1 X pins H' b:=by
 refine⟨hn,b0V (zP I.lt hb),I.nofs hb,.inr (zN I.sz hb),fun x c e z=>?_,fun p hp z=>?_⟩
 · obtain⟨v,q⟩:=I.cell x c e
   exact absurd (zP q.lt (by rw[z];exact hb)) (yF _)
 · exact absurd (zP (zM (I.pin p hp).1) (by rw[z];exact hb)) (yF _)
structure Turn (P:Program) (w:World) (K:Frg) (tg:Expr) (J:It) (fp:List Addr) (it:Addr) (tn:Nat->Heap->Prop):Prop where
 mem:it∈fp
 obj:∀i h,tn i h->∀b∈fp,∃o,h.get? b=some o/\∀v,o.data≠.cell v
 keep:∀i h h',tn i h->(∀b∈fp,∀o,h.get? b=some o->h'.get? b=some o)->tn i h'
 item:∀(X:Cx),X.prog=P->X.w=w->X.K=K->X.calm=true->∀(i:Nat) (pins:List (Addr×Obj)) (s:Shared) (σ:St) (H:Hp) (E:Value->Shared->Prop),Inv X pins σ H s->(∀b∈fp,L1 X pins H b)->tn i s.heap->J.go i H ->
   wpAny (model P w) X.A (pyNext (.ref it)) (fun r s1=>∃u,r=some u /\
     wpAny (model P w) X.A (letOwnedTupleGo tg (.ref it) u) (fun _ s2=>∃x H',Inv X pins σ H' s2/\RelV x u/\J.yld i H x H'/\tn (i+1) s2.heap/\∀b∈fp,H' b=none) E s1) E s
 done:∀(X:Cx),X.prog=P->X.w=w->X.K=K->X.calm=true->∀(i:Nat) (pins:List (Addr×Obj)) (s:Shared) (σ:St) (H:Hp) (E:Value->Shared->Prop),Inv X pins σ H s->(∀b∈fp,L1 X pins H b)->tn i s.heap->J.stop i H ->
   wpAny (model P w) X.A (pyNext (.ref it)) (fun r s1=>r=none/\Inv X pins σ H s1) E s
 self:∀(A:Around) (i:Nat) (s:Shared) (Q:Value->Shared->Prop) (E:Value->Shared->Prop),tn i s.heap->Q (.ref it) s->wpAny (model P w) A (pyIter (.ref it)) Q E s
abbrev TI:=St->Hp->(It->Hp->Prop)->Prop
def PIE (X:Cx) (pins:List (Addr×Obj)) (σ:St) (tg:Expr) (R:It->Hp->Prop) (itv:Value) (s2:Shared):Prop:=
 ∃(it:Addr) (fp:List Addr) (tn:Nat->Heap->Prop) (J:It) (H':Hp),itv = .ref it/\Inv X pins σ H' s2/\Turn X.prog X.w X.K tg J fp it tn/\tn 0 s2.heap/\(∀b∈fp,L1 X pins H' b)/\R J H'
def PI (X:Cx) (tg iter:Expr) (wi:TI):Prop:=
 ∀(pins:List (Addr×Obj)) (s:Shared) (σ:St) (H:Hp) (R:It->Hp->Prop),Inv X pins σ H s->wi σ H R ->
   wpAny (model X.prog X.w) X.A (eval iter X.env) (fun v s1=>wpAny (model X.prog X.w) X.A (pyIter v) (PIE X pins σ tg R) X.xe s1) X.xe s
theorem UP {M:Model}{A:Around}{E:Value->Shared->Prop}{s:Shared}{tg:Expr}{it:Addr}{u:Value}{o:Obj}{n:String}{vs:Array Value}{Q:Unit->Shared->Prop}(ho:s.heap.get? it=some o) (hc:o.cls = .type n) (hd:o.data = .fields vs)
   (hn:["enumerate", "zip", "dict_itemiterator", "dict_reverseitemiterator", "odict_iterator", "itertools.zip_longest", "itertools.pairwise"].contains n=false) (hQ:Q () s):wpAny M A (letOwnedTupleGo tg (.ref it) u) Q E s:=by
 unfold letOwnedTupleGo
 cases tg <;> first
   | exact zY hQ
   | (cases u <;> first
       | exact zY hQ
       | (refine zZ (wpAny_load ho ?_)
          rw[hc,hd]
          show wpAny M A (if (["enumerate", "zip", "dict_itemiterator", "dict_reverseitemiterator", "odict_iterator", "itertools.zip_longest", "itertools.pairwise"].contains n&&vs[0]?==some (rawInt _))=true then _ else _) Q E s
          rw[if_neg (by intro h;rw[hn,Bool.false_and] at h;cases h)]
          exact zY hQ))
def Itl (K:Frg) (a:Addr):It:=
 ⟨fun i H=>∃xs x,SqL K H a xs/\xs[i]?=some x,fun i H x H'=>H'=H/\∀xs,SqL K H a xs->xs[i]?=some x,fun i H=>∃xs,SqL K H a xs/\xs.length<=i⟩
def Itt (K:Frg) (a:Addr):It:=
 ⟨fun i H=>∃xs x,SqT K H a xs/\xs[i]?=some x,fun i H x H'=>H'=H/\∀xs,SqT K H a xs->xs[i]?=some x,fun i H=>∃xs,SqT K H a xs/\xs.length<=i⟩
def Itr (lo:Int) (n:Nat):It:=⟨fun i _=>i < n,fun i H x H'=>H'=H/\x = .int (lo+i),fun i _=>n<=i⟩
theorem W3 {P:Program}{w:World}{K:Frg}{tg:Expr}(a it:Addr):Turn P w K tg (Itl K a) [it] it (fun i h=>h.IsListIter it a i) where
 mem:=by simp
 obj:=fun i h st b hb=>by
   have e:b=it:=by simpa using hb
   subst e
   obtain⟨o,e,c,d⟩:=st
   exact⟨o,e,fun v z=>by rw[d] at z;cases z⟩
 keep:=fun i h h' st k=>st.at fun o e=>k it (by simp) o e
 item:=by
   intro X hP hw hK hc i pins s σ H E I hf st hg
   subst hP hw hK
   obtain⟨xs,x,hq,hx⟩:=hg
   obtain⟨its,rv,p,hz⟩:=I.list hq
   obtain⟨u,hu,ru⟩:=rv.get hx
   obtain⟨f0,f1,f2,f3,f4,f5⟩:=hf it (by simp)
   refine wpAny_pyNext_list_item st p.isList (x:=u) (by simpa using hu) fun h' st' sb=>?_
   have I1:Inv X pins σ H { s with heap:=h' }:=I.turned (t':=s.toks) (fun b o hb e=>(sb.2 b hb).trans e) f0 f1 f3 f4 f5
   obtain⟨o,e,c,d⟩:=id st'
   exact⟨u,rfl,UP (s:={ s with heap:=h' }) e c d (by decide) ⟨x,H,I1,ru,⟨rfl,fun ys hy=>by rw[I.list_inj hy hq];exact hx⟩,st',fun b hb=>(hf b hb).1⟩⟩
 done:=by
   intro X hP hw hK hc i pins s σ H E I hf st hg
   subst hP hw hK
   obtain⟨xs,hq,hx⟩:=hg
   obtain⟨its,rv,p,hz⟩:=I.list hq
   obtain⟨f0,f1,f2,f3,f4,f5⟩:=hf it (by simp)
   have hl:=rv.length
   exact wpAny_pyNext_list_end (I.ok.hd hc) st p.isList (by simp;omega) fun h' eb=>⟨rfl,I.turned (t':=s.toks) (fun b o hb e=>eb b o hb e) f0 f1 f3 f4 f5⟩
 self:=fun _ _ _ _ _ st h=>wpAny_pyIter_listiter st h
theorem SX {P:Program}{w:World}{K:Frg}{tg:Expr}(a it:Addr):Turn P w K tg (Itt K a) [it] it (fun i h=>h.IsTupleIter it a i) where
 mem:=by simp
 obj:=fun i h st b hb=>by
   have e:b=it:=by simpa using hb
   subst e
   obtain⟨o,e,c,d⟩:=st
   exact⟨o,e,fun v z=>by rw[d] at z;cases z⟩
 keep:=fun i h h' st k=>st.at fun o e=>k it (by simp) o e
 item:=by
   intro X hP hw hK hc i pins s σ H E I hf st hg
   subst hP hw hK
   obtain⟨xs,x,hq,hx⟩:=hg
   obtain⟨its,rv,p,hz⟩:=I.tuple hq
   obtain⟨u,hu,ru⟩:=rv.get hx
   obtain⟨f0,f1,f2,f3,f4,f5⟩:=hf it (by simp)
   refine wpAny_pyNext_tuple_item st (show s.heap.IsTuple a its.toArray from p) (x:=u) (by simpa using hu) fun h' st' sb=>?_
   have I1:Inv X pins σ H { s with heap:=h' }:=I.turned (t':=s.toks) (fun b o hb e=>(sb.2 b hb).trans e) f0 f1 f3 f4 f5
   obtain⟨o,e,c,d⟩:=id st'
   exact⟨u,rfl,UP (s:={ s with heap:=h' }) e c d (by decide) ⟨x,H,I1,ru,⟨rfl,fun ys hy=>by rw[I.tuple_inj hy hq];exact hx⟩,st',fun b hb=>(hf b hb).1⟩⟩
 done:=by
   intro X hP hw hK hc i pins s σ H E I hf st hg
   subst hP hw hK
   obtain⟨xs,hq,hx⟩:=hg
   obtain⟨its,rv,p,hz⟩:=I.tuple hq
   obtain⟨f0,f1,f2,f3,f4,f5⟩:=hf it (by simp)
   have hl:=rv.length
   exact wpAny_pyNext_tuple_end (I.ok.hd hc) st (show s.heap.IsTuple a its.toArray from p) (by simp;omega) fun h' eb=>⟨rfl,I.turned (t':=s.toks) (fun b o hb e=>eb b o hb e) f0 f1 f3 f4 f5⟩
 self:=fun _ _ _ _ _ st h=>wpAny_pyIter_tupleiter st h
theorem SY {P:Program}{w:World}{K:Frg}{tg:Expr}(it:Addr) (lo:Int) (n:Nat):Turn P w K tg (Itr lo n) [it] it (fun i h=>IsRangeIter h it (lo+(i:Nat)*1) ((n:Int) - (i:Nat)) 1) where
 mem:=by simp
 obj:=fun i h st b hb=>by
   have e:b=it:=by simpa using hb
   subst e
   exact⟨_,st,fun v z=>by
     have z':Data.fields _=Data.cell v:=z
     cases z'⟩
 keep:=fun i h h' st k=>k it (by simp) _ st
 item:=by
   intro X hP hw hK hc i pins s σ H E I hf st hg
   subst hP hw hK
   obtain⟨f0,f1,f2,f3,f4,f5⟩:=hf it (by simp)
   have W:=Walks.range (prog:=X.prog) (w:=X.w) (I.ok.hd hc) it lo 1 n
   refine W.item i s _ _ hg st fun v h' tk hv st' kk=>?_
   obtain⟨t,rfl⟩:=hv
   have I1:Inv X pins σ H { s with heap:=h',toks:=tk }:=I.turned (fun b o hb e=>kk b o (by simpa using hb) e) f0 f1 f3 f4 f5
   refine⟨_,rfl,UP (s:={ s with heap:=h',toks:=tk }) (n:= "range_iterator") st' rfl rfl (by decide) ⟨.int (lo+i),H,I1,⟨t,?_⟩,⟨rfl,rfl⟩,st',fun b hb=>(hf b hb).1⟩⟩
   rw[Int.mul_one]
 done:=by
   intro X hP hw hK hc i pins s σ H E I hf st hg
   subst hP hw hK
   obtain⟨f0,f1,f2,f3,f4,f5⟩:=hf it (by simp)
   exact wpAny_pyNext_range_end (I.ok.hd hc) st (by have:n<=i:=hg;omega) fun h' eb=>⟨rfl,I.turned (t':=s.toks) (fun b o hb e=>eb b o hb e) f0 f1 f3 f4 f5⟩
 self:=fun _ _ _ _ _ st h=>wpAny_pyIter_rangeiter st h
section
variable {X:Cx}{tg:Expr}
theorem QU {pins:List (Addr×Obj)}{σ:St}{H:Hp}{s:Shared}{R:It->Hp->Prop}{E:Value->Shared->Prop}{lo hi:Int}{t u v:Tok}{tk:Nat}(I:Inv X pins σ H s) (h1 : -(2 ^ 62)<=lo) (h2:lo < 2 ^ 62) (h3 : -(2 ^ 62)<=hi) (h4:hi < 2 ^ 62)
   (q:R (Itr lo (hi - lo).toNat) H):wpAny (model X.prog X.w) X.A (pyIter (.ref s.heap.objs.size)) (PIE X pins σ tg R) E { s with heap:=s.heap.push { cls:=.type "range", data:=.fields #[.int lo t,.int hi u,.int 1 v] },toks:=tk }:=by
 refine wpAny_pyIter_range (IsRange.new ..) (small_one h1 h2 h3 h4) ?_
 have I1:Inv X pins σ H { s with heap:=s.heap.push { cls:=.type "range", data:=.fields #[.int lo t,.int hi u,.int 1 v] },toks:=tk }:=I.kept fun b o e=>zW _ e
 refine⟨(s.heap.push { cls:=.type "range", data:=.fields #[.int lo t,.int hi u,.int 1 v] }).objs.size,[(s.heap.push { cls:=.type "range", data:=.fields #[.int lo t,.int hi u,.int 1 v] }).objs.size],_,_,H,rfl,
   I1.kept (t':=tk) fun b o e=>zW _ e,SY _ lo (hi - lo).toNat,?_,fun b hb=>?_,q⟩
 · have e1:lo+((0:Nat):Int)*1=lo:=by simp
   have e2:(((hi - lo).toNat:Nat):Int) - ((0:Nat):Int)=Builtin.Range.rangeSize lo hi 1:=by rw[rangeSize_one];split <;> omega
   show IsRangeIter _ _ (lo+((0:Nat):Int)*1) ((((hi - lo).toNat:Nat):Int) - ((0:Nat):Int)) 1
   rw[e1,e2]
   exact yZ _ rfl
 · have e:b=(s.heap.push { cls:=.type "range", data:=.fields #[.int lo t,.int hi u,.int 1 v] }).objs.size:=by simpa using hb
   subst e
   exact I1.fpOk (zR _) (I1.hok.fresh (zR _))
def eV (ta:TA):TI:=fun σ H R=>ta σ H fun vs H1=>∃j:Int,vs=[.int j]/\-(2 ^ 62)<=j/\j < 2 ^ 62/\R (Itr 0 j.toNat) H1
def eY (ta:TA):TI:=fun σ H R=>ta σ H fun vs H1=>∃i j:Int,vs=[.int i,.int j]/\(-(2 ^ 62)<=i/\i < 2 ^ 62/\-(2 ^ 62)<=j/\j < 2 ^ 62)/\R (Itr i (j - i).toNat) H1
theorem W4 {a:Expr}{ta:TA}{p pos:Pos}(hg:Gl X "range") (hm:X.mg "range"=none) (ha:PA X [a] ta) (hs:starEach [a] X.env=[(false,eval a X.env)]:=by rfl):PI X tg (.Call (.Name "range" p) [a] [] pos) (eV ta):=by
 intro pins s σ H R I h
 refine Call_ (GP I hg hm boot_range (xG (thn (ha pos pins s σ H _ I h) fun us s1 ⟨vs,H1,I1,r1,q1⟩=>?_) hs rfl))
 obtain⟨j,e,q1,q2,q⟩:=q1
 subst e
 cases r1 with
 | cons r rr=>
   cases rr
   obtain⟨t,rfl⟩:=r
   exact call_range_1 (QU I1 (by omega) (by omega) q1 q2 (by simpa using q))
theorem K1 {a b:Expr}{ta:TA}{p pos:Pos}(hg:Gl X "range") (hm:X.mg "range"=none) (ha:PA X [a,b] ta) (hs:starEach [a,b] X.env=[(false,eval a X.env),(false,eval b X.env)]:=by rfl) (hs2:starEach [b] X.env=[(false,eval b X.env)]:=by rfl) :
   PI X tg (.Call (.Name "range" p) [a,b] [] pos) (eY ta):=by
 intro pins s σ H R I h
 refine Call_ (GP I hg hm boot_range (xG (thn (ha pos pins s σ H _ I h) fun us s1 ⟨vs,H1,I1,r1,q1⟩=>?_) (by rw[hs,hs2]) (by rw[hs2];rfl)))
 obtain⟨i,j,e,⟨q1,q2,q3,q4⟩,q⟩:=q1
 subst e
 cases r1 with
 | cons r rr=>
   cases rr with
   | cons r' rr=>
     cases rr
     obtain⟨t,rfl⟩:=r
     obtain⟨t',rfl⟩:=r'
     exact call_range_2 (QU I1 q1 q2 q3 q4 q)
def kI (wi:TI) (g:TG) (tb:TS):TS:=fun D σ H=>wi σ H fun J H1=>∃W:Nat->Nat->St->Hp->Prop,(∃m,W 0 m σ H1)/\∀i m σ H,W i m σ H ->
 (J.stop i H/\D.nx σ H)∨(J.go i H/\∃N:St->Hp->Prop,(∀σ' H',N σ' H'->∃m',m' < m/\W (i+1) m' σ' H')/\∀x H',J.yld i H x H'->g x σ H' fun σ2 H2=>tb { D with nx:=N,ct:=N,bk:=D.nx } σ2 H2)
def LX (fp:List Addr) (h:Heap):List (Addr×Obj):=fp.filterMap fun b=>(h.get? b).map fun o=>(b,o)
theorem FN {fp:List Addr}{h:Heap}{b:Addr}{o:Obj}(hb:b∈fp) (e:h.get? b=some o):(b,o)∈LX fp h:=List.mem_filterMap.mpr ⟨b,hb,by rw[e];rfl⟩
theorem W5 {fp:List Addr}{h:Heap}{p:Addr×Obj}(hp:p∈LX fp h):p.1∈fp/\h.get? p.1=some p.2:=by
 obtain⟨b,hb,e⟩:=List.mem_filterMap.mp hp
 cases q:h.get? b with
 | none=>rw[q] at e;cases e
 | some o=>
   rw[q] at e
   have e':(b,o)=p:=Option.some.inj e
   subst e'
   exact⟨hb,q⟩
theorem Inv.pinned {pins:List (Addr×Obj)}{σ:St}{H:Hp}{s:Shared}{fp:List Addr}(I:Inv X pins σ H s) (hf:∀b∈fp,L1 X pins H b) (ho:∀b∈fp,∃o,s.heap.get? b=some o/\∀v,o.data≠.cell v):Inv X (pins++LX fp s.heap) σ H s:=
 I.pins_of fun p hp=>(yW.mp hp).elim (fun z=>I.pin p (zB _ z)) fun z=>by
   obtain⟨hb,e⟩:=W5 z
   obtain⟨f0,f1,f2,_⟩:=hf p.1 hb
   obtain⟨o,e',d⟩:=ho p.1 hb
   rw[e] at e';cases e'
   exact⟨e,f0,f1,f2,d⟩
theorem Inv.unpinned {pins pl:List (Addr×Obj)}{σ:St}{H:Hp}{s:Shared}(I:Inv X (pins++pl) σ H s):Inv X pins σ H s:=I.pins_of fun p hp=>I.pin p (zB _ (List.mem_append_left _ hp))
theorem LY {iter:Expr}{body:List Stmt}{wi:TI}{g:TG}{tb:TS}{pos:Pos}(hp:PassesOwn (model X.prog X.w) X.A X.env X.xe) (hc:X.calm=true) (hi:PI X tg iter wi) (hg:PG X tg g) (hb:PSs X body tb)
   (hs:∀x,foldedSetIterable iter X.env x=pure x:=by intro _;rfl):PS X (.For tg iter body [] pos) (kI wi g tb):=by
 intro pins s σ H D I h
 refine wpAny_For (thn (hi pins s σ H _ I h) fun v s1 h1=>thn h1 fun itv s2 h2=>?_) hs
 obtain⟨it,fp,tn,J,H2,e,I2,T,st2,f2,W,⟨m0,w0⟩,turn⟩:=h2
 subst e
 have stat:∀{H':Hp},(∀b∈fp,H' b=none)->∀b∈fp,L1 X pins H' b:=fun hn b hb=>⟨hn b hb,(f2 b hb).2⟩
 refine codeAny_forLoop_any (fun n s'=>∃i σ' H',Inv X pins σ' H' s'/\tn i s'.heap/\(∀b∈fp,H' b=none)/\W i n σ' H') ?_ m0 ⟨0,σ,H2,I2,st2,fun b hb=>(f2 b hb).1,w0⟩
 rintro n s3 ⟨i,σ3,H3,I3,st3,fr3,w3⟩
 rcases turn i n σ3 H3 w3 with ⟨stop,qn⟩ | ⟨go,N,hN,step⟩
 · refine wpAny_passesOwn hp (thn (T.done X rfl rfl rfl hc i pins s3 σ3 H3 X.xe I3 (stat fr3) st3 stop) fun r s4 ⟨hr,I4⟩=>?_)
   subst hr
   exact wpAny_execs_nil ⟨σ3,H3,I4,qn⟩
 · refine wpAny_passesOwn hp (thn (T.item X rfl rfl rfl hc i pins s3 σ3 H3 X.xe I3 (stat fr3) st3 go) fun r s4 ⟨u,hr,h4⟩=>?_)
   subst hr
   refine wpAny_passesOwn hp (thn h4 fun _ s5 ⟨x,H5,I5,r5,y5,st5,fr5⟩=>?_)
   have I5':=I5.pinned (stat fr5) (T.obj _ _ st5)
   refine wpAny_passesOwn hp (thn (hg _ s5 σ3 H5 x u _ I5' r5 (step x H5 y5)) fun _ s6 ⟨σ6,H6,I6,q6⟩=>?_)
   refine wpAny_passesOwn hp (thn (hb _ s6 σ6 H6 _ I6 q6) fun f s7 q7=>?_)
   have again:∀{σ7:St}{H7:Hp},Inv X (pins++LX fp s5.heap) σ7 H7 s7->N σ7 H7->∃m,m < n/\∃i σ' H',Inv X pins σ' H' s7/\tn i s7.heap/\(∀b∈fp,H' b=none)/\W i m σ' H':=fun {σ7 H7} I7 n7=>by
     obtain⟨m',hm,w7⟩:=hN σ7 H7 n7
     refine⟨m',hm,i+1,σ7,H7,I7.unpinned,T.keep _ _ _ st5 fun b hb o e=>(I7.pin (b,o) (zB _ (zB _ (FN hb e)))).1,fun b hb=>?_,w7⟩
     obtain⟨o,e,d⟩:=T.obj _ _ st5 b hb
     exact(I7.pin (b,o) (zB _ (zB _ (FN hb e)))).2.1
   cases f with
   | next=>obtain⟨σ7,H7,I7,n7⟩:=q7;exact again I7 n7
   | cont=>obtain⟨σ7,H7,I7,n7⟩:=q7;exact again I7 n7
   | brk=>obtain⟨σ7,H7,I7,q7⟩:=q7;exact⟨σ7,H7,I7.unpinned,q7⟩
   | ret v=>obtain⟨x7,σ7,H7,I7,r7,q7⟩:=q7;exact⟨x7,σ7,H7,I7.unpinned,r7,q7⟩
end
abbrev R2:=V->V->Hp->VK->Prop
def OpR (X:Cx) (f:Value->Value->Sem Value) (r:R2):Prop:=
 ∀(pins:List (Addr×Obj)) (s:Shared) (σ:St) (H:Hp) (x y:V) (v u:Value) (Q:VK),Inv X pins σ H s->RelV x v->RelV y u->r x y H Q ->
   wpAny (model X.prog X.w) X.A (f v u) (EP X pins σ Q) X.xe s
def UnR (X:Cx) (f:Value->Sem Value) (r:V->Hp->VK->Prop):Prop:=
 ∀(pins:List (Addr×Obj)) (s:Shared) (σ:St) (H:Hp) (x:V) (v:Value) (Q:VK),Inv X pins σ H s->RelV x v->r x H Q ->
   wpAny (model X.prog X.w) X.A (f v) (EP X pins σ Q) X.xe s
def BO (X:Cx) (f:Value) (r:List V->Hp->VK->Prop):Prop:=
 ∀(pins:List (Addr×Obj)) (s:Shared) (σ:St) (H:Hp) (xs:List V) (us:List Value) (Q:VK),Inv X pins σ H s->Vals xs us->r xs H Q ->
   wpAny (model X.prog X.w) X.A (call f us) (EP X pins σ Q) X.xe s
def tOp (r:R2) (ta tb:TE):TE:=fun σ H Q=>ta σ H fun x H1=>tb σ H1 fun y H2=>r x y H2 Q
def tUn (r:V->Hp->VK->Prop) (ta:TE):TE:=fun σ H Q=>ta σ H fun x H1=>r x H1 Q
def rI (C:Int->Int->Prop) (g:Int->Int->V):R2:=fun x y H Q=>∃i j,x = .int i/\y = .int j/\C i j/\Q (g i j) H
def rI0 (g:Int->Int->V):R2:=fun x y H Q=>∃i j,x = .int i/\y = .int j/\Q (g i j) H
def rU (g:Int->V):V->Hp->VK->Prop:=fun x H Q=>∃i,x = .int i/\Q (g i) H
section
variable {X:Cx}{a b c:Expr}{ta tb tc:TE}{pos:Pos}
theorem gV (ha:PE X a ta) (hb:PE X b tb) {pins:List (Addr×Obj)}{s:Shared}{σ:St}{H:Hp}{R:V->V->Hp->Prop}(I:Inv X pins σ H s)
   (h:ta σ H fun x H1=>tb σ H1 fun y H2=>R x y H2) {Q:Value->Shared->Prop}{f:Value->Value->Sem Value}
   (hf:∀v u s2 x y H2,Inv X pins σ H2 s2->RelV x v->RelV y u->R x y H2->wpAny (model X.prog X.w) X.A (f v u) Q X.xe s2) :
   wpAny (model X.prog X.w) X.A (eval a X.env) (fun v s₁=>wpAny (model X.prog X.w) X.A (eval b X.env) (fun u s₂=>wpAny (model X.prog X.w) X.A (f v u) Q X.xe s₂) X.xe s₁) X.xe s:=by
 refine thn (ha pins s σ H _ I h) fun v s1 ⟨x,H1,I1,r1,q1⟩=>?_
 refine thn (hb pins s1 σ H1 _ I1 q1) fun u s2 ⟨y,H2,I2,r2,q2⟩=>?_
 exact hf v u s2 x y H2 I2 r1 r2 q2
theorem EE {op:Operator}{r:R2}(ho:OpR X (binaryOp op) r) (ha:PE X a ta) (hb:PE X b tb):PE X (.BinOp a op b pos) (tOp r ta tb):=by
 intro pins s σ H Q I h
 exact wpAny_BinOp (gV ha hb I h fun v u s2 x y H2 I2 rx ry q=>ho pins s2 σ H2 x y v u Q I2 rx ry q)
theorem kJ {op:UnaryOp}{r:V->Hp->VK->Prop}(ho:UnR X (unaryOp op) r) (ha:PE X a ta):PE X (.UnaryOp op a pos) (tUn r ta):=by
 intro pins s σ H Q I h
 exact UnaryOp_ (thn (ha pins s σ H _ I h) fun v s1 ⟨x,H1,I1,r1,q1⟩=>ho pins s1 σ H1 x v Q I1 r1 q1)
theorem opI {f:Value->Value->Sem Value}{C:Int->Int->Prop}{g:Int->Int->Int}
   (rule:∀(i j:Int) (t u:Tok) (s:Shared) (Q:Value->Shared->Prop) (E:Value->Shared->Prop),C i j->Q (.int (g i j) s.toks) { s with toks:=s.toks+1 }->wpAny (model X.prog X.w) X.A (f (.int i t) (.int j u)) Q E s) :
   OpR X f (rI C fun i j=>.int (g i j)):=by
 intro pins s σ H x y v u Q I rx ry h
 obtain⟨i,j,rfl,rfl,hc,q⟩:=h
 obtain⟨t,rfl⟩:=rx
 obtain⟨t',rfl⟩:=ry
 exact rule i j t t' s _ _ hc ⟨.int (g i j),H,I.tok _,⟨_,rfl⟩,q⟩
theorem kK {f:Value->Value->Sem Value}{g:Int->Int->Int}
   (rule:∀(i j:Int) (t u:Tok) (s:Shared) (Q:Value->Shared->Prop) (E:Value->Shared->Prop),Q (.int (g i j) s.toks) { s with toks:=s.toks+1 }->wpAny (model X.prog X.w) X.A (f (.int i t) (.int j u)) Q E s) :
   OpR X f (rI0 fun i j=>.int (g i j)):=by
 intro pins s σ H x y v u Q I rx ry h
 obtain⟨i,j,rfl,rfl,q⟩:=h
 obtain⟨t,rfl⟩:=rx
 obtain⟨t',rfl⟩:=ry
 exact rule i j t t' s _ _ ⟨.int (g i j),H,I.tok _,⟨_,rfl⟩,q⟩
theorem kL {f:Value->Value->Sem Value}{g:Int->Int->Bool}
   (rule:∀(i j:Int) (t u:Tok) (s:Shared) (Q:Value->Shared->Prop) (E:Value->Shared->Prop),Q (.bool (g i j)) s->wpAny (model X.prog X.w) X.A (f (.int i t) (.int j u)) Q E s) :
   OpR X f (rI0 fun i j=>.bl (g i j)):=by
 intro pins s σ H x y v u Q I rx ry h
 obtain⟨i,j,rfl,rfl,q⟩:=h
 obtain⟨t,rfl⟩:=rx
 obtain⟨t',rfl⟩:=ry
 exact rule i j t t' s _ _ ⟨.bl (g i j),H,I,rfl,q⟩
def kM (i j:Int):Prop:=0 < j/\j < 1073741824
def kN (i j:Int):Prop:=0<=j/\j<=1000000/\i.natAbs < 2 ^ 64
theorem gW:OpR X (binaryOp .Add) (rI0 fun i j=>.int (i+j)):=kK fun _ _ _ _ _ _ _ q=>add_int q
theorem gX:OpR X (binaryOp .Sub) (rI0 fun i j=>.int (i - j)):=kK fun _ _ _ _ _ _ _ q=>sub_int q
theorem gY:OpR X (binaryOp .Mod) (rI (fun _ j=>0 < j) fun i j=>.int (i % j)):=opI fun i j _ _ _ _ _ hc q=>by
 have h1:(0:Int) < j:=hc
 exact mod_int' (by omega) (by rw[Int.fmod_eq_emod_of_nonneg i (by omega)];exact q)
theorem gZ:OpR X (binaryOp .Pow) (rI kN fun i j=>.int (i ^ j.toNat)):=opI fun _ _ _ _ _ _ _ hc q=>pow_int_small hc.1 hc.2.1 hc.2.2 q
theorem unI {f:Value->Sem Value}{g:Int->Int}
   (rule:∀(i:Int) (t:Tok) (s:Shared) (Q:Value->Shared->Prop) (E:Value->Shared->Prop),Q (.int (g i) s.toks) { s with toks:=s.toks+1 }->wpAny (model X.prog X.w) X.A (f (.int i t)) Q E s) :
   UnR X f (rU fun i=>.int (g i)):=by
 intro pins s σ H x v Q I rx h
 obtain⟨i,rfl,q⟩:=h
 obtain⟨t,rfl⟩:=rx
 exact rule i t s _ _ ⟨.int (g i),H,I.tok _,⟨_,rfl⟩,q⟩
theorem h7:UnR X (unaryOp .USub) (rU fun i=>.int (-i)):=unI fun _ _ _ _ _ q=>neg_int q
theorem P4 {pins:List (Addr×Obj)}{σ:St}{H:Hp}{s:Shared}{Q:VK}{k k':Bool}(I:Inv X pins σ H s) (q:Q (.bl k) H) (e:k=k'):EP X pins σ Q (.bool k') s:=by
 subst e
 exact⟨.bl k,H,I,rfl,q⟩
theorem kQ:OpR X (compareOp .Lt) (rI0 fun i j=>.bl (decide (i < j))):=kL fun _ _ _ _ _ _ _ q=>lt_int q
theorem eZ:OpR X (compareOp .Gt) (rI0 fun i j=>.bl (decide (j < i))):=kL fun _ _ _ _ _ _ _ q=>gt_int q
theorem W6:OpR X (compareOp .Lt) (fun x y H Q=>∃i j,x = .str i/\y = .str j/\Q (.bl (decide (i.cps.toList < j.cps.toList))) H):=by
 intro pins s σ H x y v u Q I rx ry h
 obtain⟨i,j,rfl,rfl,q⟩:=h
 obtain⟨t,rfl⟩:=rx
 obtain⟨t',rfl⟩:=ry
 exact lt_str (P4 I q rfl)
theorem W7:OpR X (compareOp .In) (fun x y H Q=>∃i j,x = .str i/\y = .str j/\Q (.bl (!(Builtin.Str.occurrences j i 0 j.length 1).isEmpty)) H):=by
 intro pins s σ H x y v u Q I rx ry h
 obtain⟨i,j,rfl,rfl,q⟩:=h
 obtain⟨t,rfl⟩:=rx
 obtain⟨t',rfl⟩:=ry
 exact in_str (P4 I q rfl)
theorem h8:OpR X (compareOp .Is) (fun x y H Q=>y = .non/\Q (.bl (decide (x = .non))) H):=by
 intro pins s σ H x y v u Q I rx ry h
 obtain⟨rfl,q⟩:=h
 cases ry
 refine is_none_gen (P4 I q ?_)
 cases x <;> first
   | (cases rx;rfl)
   | (obtain⟨t,rfl⟩:=rx;rfl)
theorem bH:OpR X (compareOp .IsNot) (fun x y H Q=>y = .non/\Q (.bl (!decide (x = .non))) H):=by
 intro pins s σ H x y v u Q I rx ry h
 obtain⟨rfl,q⟩:=h
 cases ry
 refine isnot_none_gen (P4 I q ?_)
 cases x <;> first
   | (cases rx;rfl)
   | (obtain⟨t,rfl⟩:=rx;rfl)
theorem OpR.or {f:Value->Value->Sem Value}{r r':R2}(h:OpR X f r) (h':OpR X f r'):OpR X f (fun x y H Q=>r x y H Q∨r' x y H Q):=by
 intro pins s σ H x y v u Q I rx ry q
 rcases q with q | q
 · exact h pins s σ H x y v u Q I rx ry q
 · exact h' pins s σ H x y v u Q I rx ry q
theorem BW (b:Expr) {op:CmpOp}(h:op≠.In:=by decide) (h2:op≠.NotIn:=by decide):behindInMarks op b=false:=by
 have e1:(op==CmpOp.In)=false:=by cases op <;> first | rfl | exact absurd rfl h
 have e2:(op==CmpOp.NotIn)=false:=by cases op <;> first | rfl | exact absurd rfl h2
 cases b <;> simp[behindInMarks,e1,e2]
theorem EN {op:CmpOp}{r:R2}(ho:OpR X (compareOp op) r) (ha:PE X a ta) (hb:PE X b tb) (hm:behindInMarks op b=false):PE X (.Compare a [op] [b] pos) (tOp r ta tb):=by
 intro pins s σ H Q I h
 exact wpAny_Compare1 (gV ha hb I h fun v u s2 x y H2 I2 rx ry q=>ho pins s2 σ H2 x y v u Q I2 rx ry q) hm
def fC (t:TE):TT:=fun σ H Q=>t σ H fun x H'=>∃k,x = .bl k/\Q k H'
theorem B9 {op:CmpOp}{r:R2}(ho:OpR X (compareOp op) r) (ha:PE X a ta) (hb:PE X b tb) (hm:behindInMarks op b=false):PT X (.Compare a [op] [b] pos) (fC (tOp r ta tb)):=by
 intro pins s σ H Q I h
 refine wpAny_isTrue_Compare1 (thn (ha pins s σ H _ I h) fun v s1 ⟨x,H1,I1,r1,q1⟩=>thn (hb pins s1 σ H1 _ I1 q1) fun u s2 ⟨y,H2,I2,r2,q2⟩=>
   thn (ho pins s2 σ H2 x y v u _ I2 r1 r2 q2) fun c s3 ⟨z,H3,I3,r3,k,e,q3⟩=>?_) hm
 subst e
 cases r3
 exact wpAny_truthy_bool ⟨H3,I3,q3⟩
theorem LZ:(sizeLine:Nat) < 2 ^ 63:=by rw[sizeLine_eq];decide
theorem SZ:OpR X (binaryOp .Add) (fun x y H Q=>∃i j,x = .str i/\y = .str j/\i.length+j.length<=sizeLine/\Q (.str (i++j)) H):=by
 intro pins s σ H x y v u Q I rx ry h
 obtain⟨i,j,rfl,rfl,hz,q⟩:=h
 obtain⟨t,rfl⟩:=rx
 obtain⟨t',rfl⟩:=ry
 exact add_str (fun t' tk=>⟨.str (i++j),H,I.tok _,⟨_,rfl⟩,q⟩) hz
theorem G6 {x:V}{us:List Value}(r:Vals [x] us):∃u,us=[u]/\RelV x u:=by
 cases r with
 | cons r1 r2=>cases r2;exact⟨_,rfl,r1⟩
theorem XU {x y:V}{us:List Value}(r:Vals [x,y] us):∃u w',us=[u,w']/\RelV x u/\RelV y w':=by
 cases r with
 | cons r1 r2=>
   cases r2 with
   | cons r3 r4=>cases r4;exact⟨_,_,rfl,r1,r3⟩
theorem W8 (hc:X.calm=true):BO X (.builtin "min") (fun xs H Q=>∃i j,xs=[.int i,.int j]/\Q (.int (if j < i then j else i)) H):=by
 intro pins s σ H xs us Q I r h
 obtain⟨i,j,rfl,q⟩:=h
 obtain⟨u,w',rfl,⟨t,rfl⟩,⟨t',rfl⟩⟩:=XU r
 refine min_two_ints (I.ok.hd hc) fun h' tk k=>⟨_,H,I.kept k,?_,q⟩
 by_cases hj:j < i
 · rw[if_pos hj,if_pos hj];exact⟨_,rfl⟩
 · rw[if_neg hj,if_neg hj];exact⟨_,rfl⟩
theorem W9:BO X (.type "int") (fun xs H Q=>(∃i,xs=[.int i]/\Q (.int i) H)∨∃k,xs=[.bl k]/\Q (.int (if k then 1 else 0)) H):=by
 intro pins s σ H xs us Q I r h
 rcases h with ⟨i,rfl,q⟩ | ⟨k,rfl,q⟩
 · obtain⟨u,rfl,t,rfl⟩:=G6 r
   exact call_int_int ⟨.int i,H,I,⟨_,rfl⟩,q⟩
 · obtain⟨u,rfl,r1⟩:=G6 r
   cases r1
   exact call_int_bool ⟨.int (if k then 1 else 0),H,I.tok _,⟨_,rfl⟩,q⟩
def bI (K:Frg) (x:V) (H:Hp) (n:Nat):Prop:=
 match x with
 | .str y=>y.length<=sizeLine/\n=y.length
 | .byt y=>y.size<=sizeLine/\n=y.size
 | .ref p=>(∃xs,SqL K H p xs/\n=xs.length)∨∃xs,SqT K H p xs/\n=xs.length
 | _=>False
theorem XV:BO X (.builtin "len") (fun xs H Q=>∃x n,xs=[x]/\bI X.K x H n/\Q (.int n) H):=by
 intro pins s σ H xs us Q I r h
 obtain⟨x,n,rfl,e,q⟩:=h
 obtain⟨u,rfl,rx⟩:=G6 r
 have hl:=LZ
 have hs:sizeLine=16777216:=sizeLine_eq
 cases x with
 | str y=>
   obtain⟨t,rfl⟩:=rx
   obtain⟨hy,e'⟩:y.length<=sizeLine/\n=y.length:=e
   subst e'
   exact len_str (by omega) ⟨.int _,H,I.tok _,⟨_,rfl⟩,q⟩
 | byt y=>
   obtain⟨t,rfl⟩:=rx
   obtain⟨hy,e'⟩:y.size<=sizeLine/\n=y.size:=e
   subst e'
   exact PySem.W.len_bytes (by omega) ⟨.int _,H,I.tok _,⟨_,rfl⟩,q⟩
 | ref p=>
   cases rx
   have e':(∃xs,SqL X.K H p xs/\n=xs.length)∨∃xs,SqT X.K H p xs/\n=xs.length:=e
   rcases e' with ⟨xs,hx,e'⟩ | ⟨xs,hx,e'⟩
   · subst e'
     obtain⟨its,r',pl,hz⟩:=I.list hx
     have hlen:=r'.length
     exact Calls.call_len_list pl.isList (by simp only[zJ];omega) ⟨.int xs.length,H,I.tok _,⟨_,by simp only[zJ];rw[hlen]⟩,q⟩
   · subst e'
     obtain⟨its,r',pl,hz⟩:=I.tuple hx
     have hlen:=r'.length
     exact len_tuple pl (by simp only[zJ];omega) ⟨.int xs.length,H,I.tok _,⟨_,by simp only[zJ];rw[hlen]⟩,q⟩
 | _=>exact(show False from e).elim
theorem QV:BO X (.builtin "divmod") (fun xs H Q=>∃i j,xs=[.int i,.int j]/\kM i j/\∀p,H p=none->Q (.ref p) (upd H p (.tup [.int (i/j),.int (i % j)]))):=by
 intro pins s σ H xs us Q I r h
 obtain⟨i,j,rfl,⟨h1,h2⟩,q⟩:=h
 obtain⟨u,w',rfl,⟨t,rfl⟩,⟨t',rfl⟩⟩:=XU r
 refine divmod_int (by omega) ?_ (.inl (PyProof.noPylong_small (by omega)))
 rw[Int.fdiv_eq_ediv_of_nonneg i (by omega),Int.fmod_eq_emod_of_nonneg i (by omega)]
 have hn:H s.heap.objs.size=none:=I.hok.fresh (zR _)
 refine⟨.ref s.heap.objs.size,_,?_,rfl,q _ hn⟩
 refine I.laid (fun b o e=>zW _ e) (zR _) ⟨by simp only[b7K,List.length_nil];rw[sizeLine_eq];decide,[.int (i/j) s.toks,.int (i % j) (s.toks+1)],.cons ⟨_,rfl⟩ (.cons ⟨_,rfl⟩ .nil),?_⟩
 exact⟨_,yZ s.heap rfl,rfl,0,rfl⟩
end
structure ObjM (h:Heap) (x dx C:Addr) (mA:Str->Option Value):Prop where
 obj:h.get? x=some (PySem.W.instObj C dx)
 ns:h.Ns1 dx mA
 ne:dx≠x
theorem WA {h:Heap}{dx:Addr}{mA:Str->Option Value}(n:h.Ns1 dx mA):∃od,h.get? dx=some od/\∀name,PySem.W.lookIn name od=some (mA name):=by
 obtain⟨o,es,ep,ho,hd,hk,_,hm⟩:=n
 refine⟨o,ho,fun name=>?_⟩
 have e:=hm name
 unfold nsFind findBy at e
 rw[← Array.find?_toList] at e
 unfold PySem.W.lookIn
 rw[hd]
 dsimp only
 split
 · rename_i y q
   rw[q] at e
   exact congrArg some e
 · rename_i q
   rw[q] at e
   have a:es.toList.any (·.refKey)=false:=by
     rw[b6W]
     intro y hy
     obtain⟨z,t,hkey⟩:=hk y (Array.mem_toList_iff.mp hy)
     simp[DictEntry.refKey,hkey]
   have a':¬es.toList.any (·.refKey)=true:=by rw[a];exact nft
   rw[if_neg a']
   exact congrArg some e
theorem ObjM.look {h:Heap}{x dx C:Addr}{mA:Str->Option Value}(I:ObjM h x dx C mA):∃od,PySem.W.InstAt h x (PySem.W.instObj C dx) C (some od)/\∀name,PySem.W.lookIn name od=some (mA name):=
 let ⟨od,ho,hl⟩:=WA I.ns
 ⟨od,⟨I.obj,rfl,rfl,ho⟩,hl⟩
theorem RelO.some_of {v:V}{o:Option Value}(r:RelO (some v) o):∃u,o=some u/\RelV v u:=by
 cases o with
 | none=>exact(show False from r).elim
 | some u=>exact⟨u,rfl,r⟩
section
variable {P:Program}{w:World}{H H':Hp}{h h':Heap}{a C dx:Addr}{fs fs':List (Str×V)}
theorem bJ (hok:HOk P w H h) (e:H a=some (.ins C dx fs)):∃mA,ObjM h a dx C mA/\(∀f,RelO (fs.lookup f) (mA f))/\PySem.Within mA (fs.map (·.1))/\fs.length<=1000/\H dx=some (.own a):=by
 obtain⟨d,z,ne,ob,mA,n,r,q⟩:=(show ObjOk P w H h a (.ins C dx fs) from hok a _ e)
 exact⟨mA,⟨ob,n,ne⟩,r,q,z,d⟩
end
structure Cls (K:Frg) (C:Addr):Prop where
 pg:PySem.W.plainGet K C Str.empty=true
 hd:PySem.W.hasDictIn K C=true
 po:PySem.W.plainOver K C=true
 sa:PySem.W.findIn K (.ref C) "__setattr__"=some (some (.builtin "object.__setattr__"))
theorem Cls.get {K:Frg}{C:Addr}(c:Cls K C) (f:Str):PySem.W.plainGet K C f=true:=c.pg
section
variable {X:Cx}{pins:List (Addr×Obj)}{σ:St}{H:Hp}{s:Shared}{A:Around}{E:Value->Shared->Prop}{Q:Value->Shared->Prop}{c:Value}{b:Bool}
inductive TyOf (K:Frg) (H:Hp):V->Value->Prop where
 | non:TyOf K H .non (.type "NoneType")
 | bl (x:Bool):TyOf K H (.bl x) (.type "bool")
 | int (i:Int):TyOf K H (.int i) (.type "int")
 | str (x:Str):TyOf K H (.str x) (.type "str")
 | flt (x:UInt64):TyOf K H (.flt x) (.type "float")
 | lst {a:Addr}{xs:List V}(e:H a=some (.lst xs)):TyOf K H (.ref a) (.type "list")
 | frz {a:Addr}{o:Obj}{xs:List V}(e:H a=some (.frz o (.lst xs))):TyOf K H (.ref a) (.type "list")
 | tup {a:Addr}{xs:List V}(e:H a=some (.tup xs)):TyOf K H (.ref a) (.type "tuple")
 | dK {a:Addr}{kvs:List (Key×V)}(e:H a=some (.dK kvs)):TyOf K H (.ref a) (.type "dict")
 | dT {a:Addr}{kvs:List (List Key×V)}(e:H a=some (.dT kvs)):TyOf K H (.ref a) (.type "dict")
 | ins {a C dx:Addr}{fs:List (Str×V)}(e:H a=some (.ins C dx fs)) (cl:Cls K C) (ha:PySem.W.findIn K (.ref C) "__class__"=some (some (.builtin "object.__class__")))
     (hn:PySem.W.specialIn K (.builtin "object.__class__") "__get__"=some (some (.builtin "getset_descriptor.__get__"))) (htk:PySem.W.takesIn K (.builtin "object.__class__")=some true)
     (hm:PySem.W.mroIn K C (.type "object")=some true):TyOf K H (.ref a) (.ref C)
theorem F6 {x:V}{u t:Value}(I:Inv X pins σ H s) (rx:RelV x u) (ty:TyOf X.K H x t) (e:PySem.W.kitOne X.K t c=some b) (h:∀tk,Q (.bool b) { s with toks:=tk }) :
   wpAny (model X.prog X.w) A (call (.builtin "isinstance") [u,c]) Q E s:=by
 cases ty with
 | non=>cases (show u=a3Q from rx);exact a2Q PySem.W.kitx_none I.kIn a8X e (fun z=>nomatch z) h
 | bl y=>cases (show u=Value.bool y from rx);exact a2Q PySem.W.kitx_bool I.kIn a8X e (fun z=>nomatch z) h
 | int i=>obtain⟨t,q⟩:=(show ∃t,u=b8Q i t from rx);cases q;exact a2Q PySem.W.kitx_int I.kIn a8X e (fun z=>nomatch z) h
 | str y=>obtain⟨t,q⟩:=(show ∃t,u=Value.str y t from rx);cases q;exact a2Q PySem.W.kitx_str I.kIn a8X e (fun z=>nomatch z) h
 | flt y=>obtain⟨t,q⟩:=(show ∃t,u=Value.float y t from rx);cases q;exact a2Q PySem.W.kitx_float I.kIn a8X e (fun z=>nomatch z) h
 | @lst a xs ea=>
   cases (show u=a0Z a from rx)
   obtain⟨_,_,n,_,h1⟩:=(show ObjOk X.prog X.w H s.heap a (.lst xs) from I.hok a _ ea)
   exact a2Q PySem.W.kitx_list I.kIn ⟨_,h1,rfl⟩ e (fun z=>nomatch z) h
 | @frz a ob xs ea=>
   cases (show u=a0Z a from rx)
   obtain⟨_,_,_,n,_,h1⟩:=(show ObjOk X.prog X.w H s.heap a (.frz ob (.lst xs)) from I.hok a _ ea)
   exact a2Q PySem.W.kitx_list I.kIn ⟨_,h1,rfl⟩ e (fun z=>nomatch z) h
 | @tup a xs ea=>
   cases (show u=a0Z a from rx)
   obtain⟨_,_,_,p⟩:=(show ObjOk X.prog X.w H s.heap a (.tup xs) from I.hok a _ ea)
   obtain⟨o,h1,h2,_⟩:=p
   exact a2Q PySem.W.kitx_tuple I.kIn ⟨o,h1,h2⟩ e (fun z=>nomatch z) h
 | @dK a kvs ea=>
   cases (show u=a0Z a from rx)
   obtain⟨_,_,vs,_,p⟩:=(show ObjOk X.prog X.w H s.heap a (.dK kvs) from I.hok a _ ea)
   obtain⟨o,es,ep,h1,h2,_⟩:=p
   exact a2Q PySem.W.kitx_dict I.kIn ⟨o,h1,h2.1⟩ e (fun z=>nomatch z) h
 | @dT a kvs ea=>
   cases (show u=a0Z a from rx)
   obtain⟨_,_,xs,_,o,es,ep,h1,h2,_⟩:=(show ObjOk X.prog X.w H s.heap a (.dT kvs) from I.hok a _ ea)
   exact a2Q PySem.W.kitx_dict I.kIn ⟨o,h1,h2.1⟩ e (fun z=>nomatch z) h
 | @ins a C dx fs ea cl ha hn htk hm=>
   cases (show u=a0Z a from rx)
   obtain⟨mA,O,_⟩:=bJ I.hok ea
   obtain⟨od,J,_⟩:=O.look
   exact a2Q (PySem.W.kitx_own (cl.get _) cl.hd ha hn htk hm) I.kIn J e (fun z=>nomatch z) h
end
structure Room (k:Nat) (A:Around):Prop where
 hd:A.handled=none
 dp:A.depth+3*k+5 < recursionLimit
 un:A.units+16*k+200 < cLine
theorem Room.mono {j k:Nat}{A:Around}(r:Room k A) (h:j<=k):Room j A:=⟨r.hd,by have:=r.dp;omega,by have:=r.un;omega⟩
theorem Room.deeper {k:Nat}{A:Around}(r:Room (k+1) A) (env:Env):Room k (A.deeper env):=
 ⟨r.hd,by have:=r.dp;show A.depth+1+3*k+5 < _;omega,by have:=r.un;show A.units+3+16*k+200 < _;omega⟩
theorem Room.depth {k:Nat}{A:Around}(r:Room k A):A.depth < recursionLimit:=by have:=r.dp;omega
theorem Room.units {k:Nat}{A:Around}(r:Room k A):A.units+64 < cLine:=by have:=r.un;omega
def kR:TA:=fun _ H Q=>Q [] H
def fD (ta:TE) (tr:TA):TA:=fun σ H Q=>ta σ H fun x H1=>tr σ H1 fun xs H2=>Q (x::xs) H2
section
variable {X:Cx}{e:Expr}{es:List Expr}{te:TE}{t:TA}{pos:Pos}
theorem AX:PA X [] kR:=fun _ _ _ _ H Q I h=>Calls.spliced_nil ⟨[],H,I,.nil,h⟩
theorem AE (ha:PE X e te) (hr:PA X es t) (hs:starEach (e::es) X.env=(false,eval e X.env)::starEach es X.env:=by rfl):PA X (e::es) (fD te t):=by
 intro pos pins s σ H Q I h
 rw[hs]
 show wpAny _ _ (spliced ((false,eval e X.env)::backTo pos (starEach es X.env))) _ _ s
 refine xN (thn (ha pins s σ H _ I h) fun u s1 ⟨x,H1,I1,r1,q1⟩=>?_)
 exact thn (hr pos pins s1 σ H1 _ I1 q1) fun us s2 ⟨xs,H2,I2,r2,q2⟩=>⟨x::xs,H2,I2,.cons r1 r2,q2⟩
def T0 (t:TA):TE:=fun σ H Q=>t σ H fun xs H1=>xs.length<=sizeLine/\∀p,H1 p=none->Q (.ref p) (upd H1 p (.tup xs))
def h9 (t:TA):TE:=fun σ H Q=>t σ H fun xs H1=>xs.length<=sizeLine/\∀p,H1 p=none->Q (.ref p) (upd H1 p (.lst xs))
theorem EF {x1} (h:PA X es t):PE X (.Tuple es x1 pos) (T0 t):=by
 intro pins s σ H Q I hq
 refine wpAny_Tuple_spliced (thn (h pos pins s σ H _ I hq) fun us s1 ⟨xs,H1,I1,r,z,q⟩=>⟨by rw[← r.length];exact z,?_⟩)
 have hf:H1 s1.heap.objs.size=none:=I1.hok.fresh (zR _)
 refine⟨.ref s1.heap.objs.size,upd H1 s1.heap.objs.size (.tup xs),I1.laid (t':=s1.toks) (fun b u e=>zW _ e) (zR _) ?_,rfl,q _ hf⟩
 exact⟨z,us,r,⟨_,yZ _ rfl,rfl,_,rfl⟩⟩
theorem T1 (h:PA X es t):PE X (.List es pos) (h9 t):=by
 intro pins s σ H Q I hq
 refine wpAny_List_spliced (thn (h pos pins s σ H _ I hq) fun us s1 ⟨xs,H1,I1,r,z,q⟩=>⟨by rw[← r.length];exact z,?_⟩)
 have hf:H1 s1.heap.objs.size=none:=I1.hok.fresh (zR _)
 refine⟨.ref s1.heap.objs.size,upd H1 s1.heap.objs.size (.lst xs),I1.laid (t':=s1.toks) (fun b u e=>zW _ e) (zR _) ?_,rfl,q _ hf⟩
 exact⟨z,us,0,r,yZ _ rfl⟩
end
abbrev Sp:=List V->Hp->VK->XK->Prop
abbrev CXT:=List Env->Hp->Shared->XK->Value->Shared->Prop
structure Env0 (P:Program) (w:World) (K:Frg) (mg:Str->Option Value) (base:Heap) (A:Around) (outer:List Env) (s:Shared) (H:Hp):Prop where
 frames:A.frames=some outer
 mod:Mod K mg base
 bs:∀b o,base.get? b=some o->s.heap.get? b=some o/\H b=none
 bsz:base.objs.size<=s.heap.objs.size
 funs:s.heap.FunFrames base outer
 frf:∀b∈frs outer,H b=none
 hok:HOk P w H s.heap
 bare:AllBare s.gens
def CE (outer:List Env) (P:Program) (w:World) (H:Hp) (s:Shared) (Q:VK) (u:Value) (s':Shared):Prop:=
 ∃v H',s'.os=s.os/\AllBare s'.gens/\Un (frs outer) [] H H' s.heap s'.heap/\HOk P w H' s'.heap/\RelV v u/\Q v H'
def CR (CX:CXT) (outer:List Env) (P:Program) (w:World) (H:Hp) (s:Shared) (Q:VK) (E:XK) (r:Result) (s':Shared):Prop:=
 match r with
 | .ok (.ret u)=>CE outer P w H s Q u s'
 | .ok _=>False
 | .error e=>CX outer H s E e s'
structure FnOk (P:Program) (w:World) (K:Frg) (mg:Str->Option Value) (base:Heap) (CX:CXT) (k:Nat) (f:Addr) (fd:FuncData) (ps:List Str) (sp:Sp):Prop where
 len:∀vs H Q E,sp vs H Q E->vs.length=ps.length
 run:∀(A:Around) (outer:List Env) (s:Shared) (H:Hp) (args:Args) (us:List Value) (vs:List V) (Q:VK) (E:XK),Room k A->Env0 P w K mg base A outer s H->BindsTo s fd args (ps.zip us)->Vals vs us->sp vs H Q E ->
   codeAny (model P w) A (.call (.ref f) args) (CR CX outer P w H s Q E) s
section
variable {X:Cx}{pins:List (Addr×Obj)}{σ:St}{H:Hp}{s s':Shared}
theorem Inv.env0 (I:Inv X pins σ H s):Env0 X.prog X.w X.K X.mg X.base X.A X.stack s H:=
 ⟨I.ok.frames,I.ok.mod,I.bs,zN I.ok.bsz I.sz,I.stack,I.stkFree,I.hok,I.bare⟩
theorem Inv.after {Q:VK}{u:Value}(I:Inv X pins σ H s) (h:CE X.stack X.prog X.w H s Q u s'):EP X pins σ Q u s':=by
 obtain⟨v,H',os,bare,un,hok,r,q⟩:=h
 obtain⟨hh,g,d,t,os'⟩:=s'
 obtain rfl:os'=s.os:=os
 exact⟨v,H',I.call (h':=hh) (g':=g) (d':=d) (t':=t) (ch:=[]) un hok bare (fun b z=>absurd z (by simp)),r,q⟩
end
def UQ (sp:Sp) (dvs:List V) (E:XK) (t:TA):TE:=fun σ H Q=>t σ H fun vs H1=>sp (vs++dvs) H1 Q E
def Binds (K:Frg) (fd:FuncData) (ps:List Str) (ds:List Value):Prop:=
 ∀(s:Shared) (us:List Value),K.In s.heap->(us++ds).length=ps.length->BindsTo s fd ⟨us,[]⟩ (ps.zip (us++ds))
theorem Binds.all {K:Frg}{fd:FuncData}{ps:List Str}(h:∀us:List Value,us.length=ps.length->bindArgs fd ⟨us,[]⟩=pure (ps.zip us)):Binds K fd ps []:=fun s us _ hl=>by
 rw[a3K] at hl ⊢
 exact .of_eq (h us hl)
def T2 (CX:CXT) (X:Cx) (E:XK):Prop:=∀(pins:List (Addr×Obj)) (σ:St) (H:Hp) (s:Shared) (e:Value) (s':Shared),Inv X pins σ H s->CX X.stack H s E e s'->X.xe e s'
section
variable {X:Cx}{CX:CXT}{k:Nat}{f C:Addr}{fd:FuncData}{ps:List Str}{sp:Sp}{dvs:List V}{ds:List Value}{E:XK}{x m:Str}{p pos apos:Pos}{e o:Expr}{es:List Expr}{ta:TE}{t:TA}
theorem hU {pins:List (Addr×Obj)}{σ:St}{H:Hp}{s:Shared}{Q:VK}{us:List Value}{vs:List V}(F:FnOk X.prog X.w X.K X.mg X.base CX k f fd ps sp) (hr:Room k X.A) (hb:Binds X.K fd ps ds) (hd:Vals dvs ds) (hx:T2 CX X E)
   (I:Inv X pins σ H s) (r:Vals vs us) (h:sp (vs++dvs) H Q E):wpAny (model X.prog X.w) X.A (call (.ref f) us) (EP X pins σ Q) X.xe s:=by
 have r2:Vals (vs++dvs) (us++ds):=r.append hd
 have hl:(us++ds).length=ps.length:=by rw[← r2.length];exact F.len _ _ _ _ h
 refine wpAny_call (codeAny_mono (F.run X.A X.stack s H ⟨us,[]⟩ (us++ds) (vs++dvs) Q E hr I.env0 (hb s us I.kIn hl) r2 h) fun r s' hq=>?_)
 cases r with
 | error e=>exact hx pins σ H s e s' I hq
 | ok fl=>
   cases fl with
   | ret u=>exact I.after hq
   | next=>exact b0K hq
   | brk=>exact b0K hq
   | cont=>exact b0K hq
theorem bK (F:FnOk X.prog X.w X.K X.mg X.base CX k f fd ps sp) (hr:Room k X.A) (hg:Gl X x) (hm:X.mg x=some (.ref f)) (hk:a9K X.K (.ref f)=true) (hb:Binds X.K fd ps ds) (hd:Vals dvs ds) (hx:T2 CX X E)
   (ha:PA X (e::es) t) (hdb:(x==("__debug__":Str))=false:=by decide) (he:starEach (e::es) X.env=(false,eval e X.env)::starEach es X.env:=by rfl) (hpl:(backTo pos (starEach es X.env)).any (·.1)=false:=by rfl) :
   PE X (.Call (.Name x p) (e::es) [] pos) (UQ sp dvs E t):=by
 intro pins s σ H Q I h
 refine wpAny_Call_Name_kw (UM I hg hm ?_ hdb)
 refine PySem.W.callWith_K (h₀:=X.base) I.ok.mod.kin hk (thn (ha pos pins s σ H _ I h) fun us s1 ⟨vs,H1,I1,r,q⟩=>⟨I1.kIn,?_⟩) he hpl
 exact hU F hr hb hd hx I1 r q
end
structure FnScope (N P:List Str) (sc:Scope):Prop where
 kind:sc.kind = .function
 co:sc.isCoroutine=false
 gen:sc.isGenerator=false
 nd:N.Nodup
 pre:N.take P.length=P
 par:∀x∈P,sc.names.lookup x=some .local∨sc.names.lookup x=some .cell
 nofree:∀y∈sc.names,y.2≠.free
theorem OD {kindOf:Str->Option NameKind}{x:Str}:∀{binds:List (Str×Value)}{m:Str->Option Value},(∀v,(x,v)∉binds)->bindL kindOf binds m x=m x
 | [],_,_=>rfl
 | (n,v)::r,m,h=>by
   unfold bindL
   rw[OD fun w hw=>h w (yV _ hw)]
   split
   · have:x≠n:=by rintro rfl;exact h v a3Z
     simp[this]
   · rfl
theorem OE {kindOf:Str->Option NameKind}{x:Str}:∀{binds:List (Str×Value)}{m:Str->Option Value},(∀v,(x,v)∉binds)->bindC kindOf binds m x=m x
 | [],_,_=>rfl
 | (n,v)::r,m,h=>by
   unfold bindC
   rw[OE fun w hw=>h w (yV _ hw)]
   split
   · rfl
   · have:x≠n:=by rintro rfl;exact h v a3Z
     simp[this]
theorem OF {kindOf:Str->Option NameKind}{x:Str}{v:Value}:∀{P:List Str}{vs:List Value}{i:Nat}{m:Str->Option Value},P.Nodup->P[i]?=some x->vs[i]?=some v->kindOf x=some .local ->
   bindL kindOf (P.zip vs) m x=some v
 | [],_,_,_,_,h,_,_=>by simp at h
 | _::_,[],_,_,_,_,h,_=>by simp at h
 | p::P,w::vs,0,m,nd,h1,h2,hk=>by
   simp at h1 h2;subst h1;subst h2
   show bindL kindOf ((p,w)::P.zip vs) m p=_
   unfold bindL
   rw[OD fun v hv=>(xU.mp nd).1 (List.of_mem_zip hv).1,if_pos hk]
   simp
 | p::P,w::vs,i+1,m,nd,h1,h2,hk=>by
   show bindL kindOf ((p,w)::P.zip vs) m x=_
   unfold bindL
   exact OF (i:=i) (xU.mp nd).2 (by simpa using h1) (by simpa using h2) hk
theorem OG {kindOf:Str->Option NameKind}{x:Str}{v:Value}:∀{P:List Str}{vs:List Value}{i:Nat}{m:Str->Option Value},P.Nodup->P[i]?=some x->vs[i]?=some v->kindOf x≠some .local ->
   bindC kindOf (P.zip vs) m x=some v
 | [],_,_,_,_,h,_,_=>by simp at h
 | _::_,[],_,_,_,_,h,_=>by simp at h
 | p::P,w::vs,0,m,nd,h1,h2,hk=>by
   simp at h1 h2;subst h1;subst h2
   show bindC kindOf ((p,w)::P.zip vs) m p=_
   unfold bindC
   rw[OE fun v hv=>(xU.mp nd).1 (List.of_mem_zip hv).1,if_neg hk]
   simp
 | p::P,w::vs,i+1,m,nd,h1,h2,hk=>by
   show bindC kindOf ((p,w)::P.zip vs) m x=_
   unfold bindC
   exact OG (i:=i) (xU.mp nd).2 (by simpa using h1) (by simpa using h2) hk
def start (N:List Str) (vs:List V):St:=vs.map some++a4V (N.length - vs.length) none
def T3 (CX:CXT) (P:Program) (w:World) (K:Frg) (mg:Str->Option Value) (base:Heap) (N:List Str) (qual:Str) (scope:Scope) (f:Addr) (cd:Value) (A:Around) (outer:List Env) (s:Shared) (H:Hp) (E:XK):Cx where
 prog:=P
 w:=w
 K:=K
 mg:=mg
 base:=base
 A:=A.deeper (envOfC qual scope s.heap.objs.size f cd)
 N:=N
 s₀:=s
 H₀:=H
 env:=envOfC qual scope s.heap.objs.size f cd
 outer:=outer
 stack:=envOfC qual scope s.heap.objs.size f cd::outer
 ex:=[]
 calm:=true
 fn:=fun _=>true
 pn:=[]
 xe:=fun e s'=>wpAny (model P w) (A.deeper (envOfC qual scope s.heap.objs.size f cd)) (leaving (envOfC qual scope s.heap.objs.size f cd) e) (fun _ s''=>CX outer H s E e s'') (fun e' s''=>CX outer H s E e' s'') s'
theorem QW {sc:Scope}{n:Nat}{x:Str}(h:sc.names.lookup x=some .cell):∃c,(cellsFrom n sc.names []).lookup x=some c:=by
 have q:=PySem.W.cellsFrom_some sc.names n [] (.inl h)
 exact xX.mp q
theorem WB {CX:CXT}{P:Program}{w:World}{K:Frg}{mg:Str->Option Value}{base:Heap}{N ps:List Str}{qual:Str}{scope:Scope}{f:Addr}{cd:Value}{A:Around}{outer:List Env}{s s1:Shared}{H:Hp}{E:XK}{us:List Value}{vs:List V}
   (S:FnScope N ps scope) (hd:A.handled=none) (e0:Env0 P w K mg base A outer s H) (hl:vs.length=ps.length) (r:Vals vs us)
   (x:InCallC s s.heap.objs.size (bindL (envOfC qual scope s.heap.objs.size f cd).kindOf (ps.zip us) fun _=>none) (cellsFrom (s.heap.objs.size+1) scope.names []) (bindC (envOfC qual scope s.heap.objs.size f cd).kindOf (ps.zip us) fun _=>none) s1) :
   Inv (T3 CX P w K mg base N qual scope f cd A outer s H E) [] (start N vs) H s1:=by
 have hpl:ps.length<=N.length:=by have:=congrArg b7Z S.pre;rw[a1Q] at this;omega
 obtain⟨h1,tk,rfl,hk⟩:=x.done
 have noA:∀b:Addr,b∉(T3 CX P w K mg base N qual scope f cd A outer s H E).ex:=fun b z=>absurd (show b∈([]:List Addr) from z) (by simp)
 refine⟨⟨e0.mod,S.kind,rfl,rfl,zR _,fun y z c h1 h2=>?_,fun y hy=>?_,fun y c _ h=>?_,fun _=>hd,Around.frames_deeper e0.frames,.inr ⟨rfl,rfl⟩,fun b z=>absurd z (noA b),e0.bs,e0.bsz,fun b _ _=>noA b,fun b z=>absurd z (noA b),e0.funs,e0.frf⟩,
   rfl,e0.bare,Un.kept hk,⟨_,x.toInCall.ns,fun i y v h1 h2 h3=>?_⟩,fun y c h=>⟨_,x.cell y c h⟩,e0.hok.fresh (zR _),fun y c h=>?_,fun p hp=>absurd (show p∈([]:List (Addr×Obj)) from hp) (by simp),e0.hok.kept hk,?_⟩
 · exact name_of_addr x.apart (a4J h1) (a4J h2)
 · have hy:scope.names.lookup y=some .cell∨scope.names.lookup y=some .free:=hy
   rcases hy with hy | hy
   · exact QW hy
   · exact absurd rfl (S.nofree _ (a4J hy))
 · exact xQ (x.above y c (a4J h))
 · have hi:i < vs.length:=by
     unfold start at h2
     by_cases hi:i < vs.length
     · exact hi
     · rw[List.getElem?_append_right (by simpa using hi)] at h2
       rw[List.getElem?_replicate] at h2
       split at h2 <;> cases h2
   have ha:vs[i]?=some v:=by
     unfold start at h2
     rw[yQ (by simpa using hi),zF] at h2
     cases e:vs[i]? with
     | none=>rw[e] at h2;cases h2
     | some a=>rw[e] at h2;cases h2;rfl
   obtain⟨u,hu,rv⟩:=r.get ha
   have hp:ps[i]?=some y:=by
     rw[← S.pre,a7J (by omega)];exact h1
   have ndP:ps.Nodup:=by rw[← S.pre];exact S.nd.sublist (List.take_sublist _ _)
   refine⟨u,rv,?_⟩
   rcases S.par y (yN hp) with k | k
   · exact .inl ⟨k,OF ndP hp hu k⟩
   · obtain⟨c,e⟩:=QW (n:=s.heap.objs.size+1) k
     refine .inr ⟨.inl k,c,e,?_⟩
     have q:=x.cell y c e
     rw[OG ndP hp hu (by show scope.names.lookup y≠_;rw[k];decide)] at q
     exact q
 · exact e0.hok.fresh (xQ (x.above y c (a4J h)))
 · unfold start
   show _=N.length
   rw[yY,zX,a9Z]
   omega
theorem kS {CX:CXT}{P:Program}{w:World}{K:Frg}{mg:Str->Option Value}{base:Heap}{k:Nat}{f:Addr}{name qual:Str}{params:Arguments}{body:List Stmt}{scope:Scope}{dV kV doc pm cdv ct oc:Value}{an od:Option Addr}
   {osl:Array (Option Value)}{N ps:List Str}{sp:Sp}(lk:K.lookup f=some ⟨oc,od,.func (a7Q name qual params body scope dV kV doc pm an cdv ct),osl⟩) (hcd:b4W K cdv qual=true) (S:FnScope N ps scope)
   (len:∀vs H Q E,sp vs H Q E->vs.length=ps.length)
   (hbody:∀(A:Around) (outer:List Env) (s:Shared) (H:Hp) (vs:List V) (Q:VK) (E:XK),Room k (A.deeper (envOfC qual scope s.heap.objs.size f cdv))->sp vs H Q E ->
     ∃t,PSs (T3 CX P w K mg base N qual scope f cdv A outer s H E) body t/\t { nx:=fun _ H'=>Q .non H',rt:=Q } (start N vs) H) :
   FnOk P w K mg base CX (k+1) f (a7Q name qual params body scope dV kV doc pm an cdv ct) ps sp:=by
 refine⟨len,fun A outer s H args us vs Q E hr e0 hb r hsp=>?_⟩
 have hl:=len _ _ _ _ hsp
 have KX:K.In s.heap:=e0.mod.kin.keeps fun b o e=>(e0.bs b o e).1
 have lim:s.heap.NoLimit:=e0.mod.nolimit.keeps fun b o e=>(e0.bs b o e).1
 have hkind:∀y∈ps.zip us,scope.names.lookup y.1=some .local∨(scope.names.lookup y.1=some .cell/\((cellsFrom (s.heap.objs.size+1) scope.names []).lookup y.1).isSome=true):=fun⟨n,v⟩ hy=>by
   rcases S.par n (List.of_mem_zip hy).1 with q | q
   · exact .inl q
   · exact .inr ⟨q,PySem.W.cellsFrom_some _ _ _ (.inl q)⟩
 refine codeAny_call_function hr.depth (KX _ _ lk) rfl S.co S.gen rfl (PySem.W.codeRec_of KX hcd) (hb _ _ _ _ ?_)
 refine wpAny_newFunctionEnv_cells S.kind hkind fun env he s1 x=>?_
 subst he
 refine⟨lim.keeps x.toInCall.keep,codeAny_func ?_⟩
 obtain⟨t,ht,hq⟩:=hbody A outer s H vs Q E (hr.deeper _) hsp
 have I:Inv (T3 CX P w K mg base N qual scope f cdv A outer s H E) [] (start N vs) H s1:=WB S hr.hd e0 hl r x
 refine wpAny_mono (ht [] s1 (start N vs) H _ I hq) (fun fl s' hs=>?_) fun e s' hs=>hs
 have fin:∀{σ':St}{H':Hp}{v:V}{u:Value},Inv (T3 CX P w K mg base N qual scope f cdv A outer s H E) [] σ' H' s'->RelV v u->Q v H'->CE outer P w H s Q u s':=
   fun {σ' H' v u} J rv q=>⟨v,H',J.os,J.bare,J.base,J.hok,rv,q⟩
 cases fl with
 | ret u=>
   obtain⟨v,σ',H',J,rv,q⟩:=hs
   exact fin J rv q
 | next=>
   obtain⟨σ',H',J,q⟩:=hs
   exact fin (v:=V.non) (u:=a3Q) J rfl q
 | brk=>
   obtain⟨_,_,_,q⟩:=hs
   exact b0K q
 | cont=>
   obtain⟨_,_,_,q⟩:=hs
   exact b0K q
section
variable {X:Cx}{x:Str}{p pos:Pos}{e:Expr}{es:List Expr}{t:TA}{id T:String}{r:List V->Hp->VK->Prop}
def tCB (r:List V->Hp->VK->Prop) (t:TA):TE:=fun σ H Q=>t σ H fun vs H1=>r vs H1 Q
theorem AZ (hc:BO X (.builtin id) r) (hg:Gl X x) (hm:X.mg x=none) (hv:bootBuiltins x=some (.builtin id)) (ha:PA X (e::es) t) (hn:x ≠ "__name__" := by decide) (hdb:(x==("__debug__":Str))=false:=by decide)
   (he:starEach (e::es) X.env=(false,eval e X.env)::starEach es X.env:=by rfl) (hpl:(backTo pos (starEach es X.env)).any (·.1)=false:=by rfl):PE X (.Call (.Name x p) (e::es) [] pos) (tCB r t):=by
 intro pins s σ H Q I h
 refine wpAny_Call_Name_kw (GP I hg hm hv ?_ hn hdb)
 exact PyProof.Rows.callWith_builtin1 (thn (ha pos pins s σ H _ I h) fun us s1 ⟨vs,H1,I1,r1,q1⟩=>hc pins s1 σ H1 vs us Q I1 r1 q1) he hpl
theorem F7 (hc:BO X (.type T) r) (hg:Gl X x) (hm:X.mg x=none) (hv:bootBuiltins x=some (.type T)) (ha:PA X (e::es) t) (hn:x ≠ "__name__" := by decide) (hdb:(x==("__debug__":Str))=false:=by decide)
   (he:starEach (e::es) X.env=(false,eval e X.env)::starEach es X.env:=by rfl) (hpl:(backTo pos (starEach es X.env)).any (·.1)=false:=by rfl):PE X (.Call (.Name x p) (e::es) [] pos) (tCB r t):=by
 intro pins s σ H Q I h
 refine wpAny_Call_Name_kw (GP I hg hm hv ?_ hn hdb)
 exact xG (thn (ha pos pins s σ H _ I h) fun us s1 ⟨vs,H1,I1,r1,q1⟩=>hc pins s1 σ H1 vs us Q I1 r1 q1) he hpl
end
end L2
namespace HT
open PySem PyProof.Rows
section
variable {prog:Program}{w:World}{A:Around}{E:Value->Shared->Prop}{s:Shared}
def sIx (n d:Nat):Option Int->Nat
 | none=>d
 | some v=>if v < 0 then (v+(n:Int)).toNat else min v.toNat n
theorem sIx_nat (n d k:Nat):sIx n d (some (k:Int))=min k n:=by
 show(if (k:Int) < 0 then ((k:Int)+(n:Int)).toNat else min (k:Int).toNat n)=min k n
 rw[if_neg (by omega),a4W]
theorem hW (n d:Nat) (hd:d<=n) (o:Option Int):sIx n d o<=n:=by
 cases o with
 | none=>exact hd
 | some v=>
   show(if v < 0 then (v+(n:Int)).toNat else min v.toNat n)<=n
   by_cases hv:v < 0
   · rw[if_pos hv];omega
   · rw[if_neg hv];exact Nat.min_le_right _ _
theorem UR (v:Int) (n d:Nat):(if v < 0 then max (v+(n:Int)) 0 else min v (n:Int))=((sIx n d (some v):Nat):Int):=by
 show(if v < 0 then max (v+(n:Int)) 0 else min v (n:Int))=(((if v < 0 then (v+(n:Int)).toNat else min v.toNat n):Nat):Int)
 by_cases hv:v < 0
 · simp only[if_pos hv];omega
 · simp only[if_neg hv];omega
theorem T4 (lo hi:Option Int) (n:Nat):b2W lo hi 1 (n:Int)=(((sIx n 0 lo:Nat):Int),((sIx n n hi:Nat):Int)):=by
 have h1:¬((1:Int) < 0):=by omega
 unfold b2W
 simp only[h1,if_false]
 refine Prod.ext ?_ ?_
 · cases lo with
   | none=>rfl
   | some v=>exact UR v n 0
 · cases hi with
   | none=>rfl
   | some v=>exact UR v n n
theorem T5 (i j:Nat):a8K (i:Int) (j:Int) 1=j - i:=by
 unfold a8K
 have h1:(1:Int) > 0:=by omega
 simp only[h1,if_true,Int.ediv_one]
 split <;> omega
theorem M0 {v:Value}{o:Option Int}{Q:Option Int->Shared->Prop}(p:IsPart v o) (h:Q o s):wpAny (model prog w) A (Builtin.Slice.slicePartIndex v) Q E s:=by
 cases p with
 | none=>exact slicePart_none h
 | int i t=>exact slicePart_int h
theorem F8 {sl:Addr}{vl vu:Value}{lo hi:Option Int}{n:Nat}{Q:Int×Int×Nat->Shared->Prop}(hs:s.heap.IsSliceOf sl vl vu .none) (pl:IsPart vl lo) (pu:IsPart vu hi)
   (h:Q (((sIx n 0 lo:Nat):Int),1,sIx n n hi - sIx n 0 lo) s):wpAny (model prog w) A (Builtin.Slice.sliceApplied (.ref sl) (pure (n:Int))) Q E s:=by
 obtain⟨os,hos,hcs,hds⟩:=id hs
 unfold Builtin.Slice.sliceApplied Builtin.Slice.sliceFields
 refine zZ (zZ (wpAny_field hos hds (x:=vl) rfl (zZ (wpAny_field hos hds (x:=vu) rfl (zZ (wpAny_field hos hds (x:=.none) rfl (zY ?_)))))))
 refine zZ (slicePart_none ?_)
 show wpAny _ _ (if ((1:Int)==0)=true then _ else _) _ _ s
 rw[if_neg (by decide)]
 refine zZ (M0 pl (zZ (M0 pu (zZ (zY ?_)))))
 show wpAny _ _ (match b2W lo hi 1 (n:Int) with | (lo,hi)=>pure (lo,(1:Int),a8K lo hi 1)) _ _ s
 rw[T4 lo hi n]
 show wpAny _ _ (pure (((sIx n 0 lo:Nat):Int),(1:Int),a8K ((sIx n 0 lo:Nat):Int) ((sIx n n hi:Nat):Int) 1)) _ _ s
 rw[T5]
 exact zY h
theorem XW (xs:Array Value) (i k:Nat):((a1X k).filterMap fun(m:Nat)=>xs[((i:Int)+(m:Int)*1).toNat]?).toArray=((xs.toList.drop i).take k).toArray:=by
 have e:(fun(m:Nat)=>xs[((i:Int)+(m:Int)*1).toNat]?)=fun m=>xs[i+m]?:=by
   funext m
   have:((i:Int)+(m:Int)*1).toNat=i+m:=by omega
   rw[this]
 rw[e]
 have:=pick_run xs i k
 rw[List.filterMap_map] at this
 have e2:((fun x=>xs[x]?)∘fun x=>i+x)=fun m=>xs[i+m]?:=rfl
 rw[e2] at this
 rw[this]
theorem getItem_tuple_cut {t sl:Addr}{items:Array Value}{vl vu:Value}{lo hi:Option Int}{Q:Value->Shared->Prop}(ht:IsTup s.heap t items) (hs:s.heap.IsSliceOf sl vl vu .none) (pl:IsPart vl lo) (pu:IsPart vu hi)
   (hw:¬(sIx items.size 0 lo=0/\sIx items.size items.size hi=items.size))
   (h:Q (.ref s.heap.objs.size) { s with heap:=s.heap.push { cls:=.type "tuple", data:=.seq ((items.toList.drop (sIx items.size 0 lo)).take (sIx items.size items.size hi - sIx items.size 0 lo)).toArray } })
   (hsz:items.size<=sizeLine):wpAny (model prog w) A (getItem (.ref t) (.ref sl)) Q E s:=by
 have htake:sizeOk (.seq ((items.toList.drop (sIx items.size 0 lo)).take (sIx items.size items.size hi - sIx items.size 0 lo)).toArray):=by
   show((items.toList.drop (sIx items.size 0 lo)).take (sIx items.size items.size hi - sIx items.size 0 lo)).toArray.size<=sizeLine
   rw[zJ,a1Q,a0K,a3V]
   omega
 have hj:sIx items.size items.size hi<=items.size:=hW _ _ (zR _) hi
 obtain⟨os,hos,hcs,hds⟩:=id hs
 have hTs:s.TypeIs (.ref sl) "slice" := ⟨os,hos,hcs⟩
 unfold getItem
 try with_reducible refine wpAny_holding ?_
 first | refine zZ (zY ?_) | skip
 refine zZ (wpAny_sequenceKey ht.typeIs (by decide) ?_)
 refine zZ (wpAny_callSpecial?_slot (name:=a0Q "__getitem__") ht.typeIs a6K
   (wpAny_call_entry a6K ht.typeIs entry_tuple_getitem ?_ (args_tuple_getitem _ _)))
 show wpAny _ _ (Builtin.Tuple.tupleItemsOf (.ref t) >>= _) _ _ s
 refine zZ (tupleItemsOf_ ht ?_)
 refine zZ (wpAny_typeOf hTs ?_)
 rw[if_pos (by decide)]
 refine zZ (F8 hs pl pu ?_)
 have hno:¬((((sIx items.size 0 lo:Nat):Int)==0&&(1:Int)==1&&(sIx items.size items.size hi - sIx items.size 0 lo)==items.size)=true):=by
   intro q
   rw[a1Z,a1Z] at q
   have q1:((sIx items.size 0 lo:Nat):Int)=0:=eq_of_beq q.1.1
   have q2:sIx items.size items.size hi - sIx items.size 0 lo=items.size:=eq_of_beq q.2
   exact hw ⟨by omega,by omega⟩
 show wpAny _ _ (if (((sIx items.size 0 lo:Nat):Int)==0&&(1:Int)==1&&(sIx items.size items.size hi - sIx items.size 0 lo)==items.size)=true then _ else _) _ _ s
 rw[if_neg hno,XW]
 first
   | exact zZ (m:=a9X _) (xL (zY ⟨_,rfl,zY h⟩) htake)
   | exact zZ (m:=a9X _) (xL (zZ (zY (zY ⟨_,rfl,zY h⟩))) htake)
   | exact zZ (zZ (m:=a9X _) (xL (zY (zY ⟨_,rfl,zY h⟩)) htake))
   | exact zZ (zZ (m:=a9X _) (xL (zY ⟨_,rfl,zY h⟩) htake))
end
end HT
namespace L2
open PySem PySem.Spec PyProof.Rows
abbrev TO:=St->Hp->(Option Int->Hp->Prop)->Prop
def PO (X:Cx) (e:Option Expr) (t:TO):Prop:=
 ∀(pins:List (Addr×Obj)) (s:Shared) (σ:St) (H:Hp) (Q:Option Int->Hp->Prop),Inv X pins σ H s->t σ H Q ->
   wpAny (model X.prog X.w) X.A (evalPart e X.env) (fun u s'=>∃o H',Inv X pins σ H' s'/\IsPart u o/\Q o H') X.xe s
def US:TO:=fun _ H Q=>Q none H
def fE (t:TE):TO:=fun σ H Q=>t σ H fun x H1=>∃i,x = .int i/\Q (some i) H1
section
variable {X:Cx}{e:Expr}{te:TE}{lo hi:Option Expr}{tl th:TO}{pos p2:Pos}
theorem UT:PO X none US:=by
 intro pins s σ H Q I h
 rw[evalPart_none]
 exact zY ⟨none,H,I,.none,h⟩
theorem UU (h:PE X e te):PO X (some e) (fE te):=by
 intro pins s σ H Q I hw
 rw[evalPart_some]
 refine thn (h pins s σ H _ I hw) fun u s1 ⟨x,H1,I1,r1,q1⟩=>?_
 obtain⟨i,rfl,q⟩:=q1
 obtain⟨t,rfl⟩:=r1
 exact⟨some i,H1,I1,.int i t,q⟩
def SlR (X:Cx) (r:V->Option Int->Option Int->Hp->VK->Prop):Prop:=
 ∀(pins:List (Addr×Obj)) (s:Shared) (σ:St) (H:Hp) (x:V) (v vl vu:Value) (lo hi:Option Int) (sl:Addr) (Q:VK),Inv X pins σ H s->RelV x v->s.heap.IsSliceOf sl vl vu .none->IsPart vl lo->IsPart vu hi->r x lo hi H Q ->
   ∃T id,typeLookup (.type T) "__getitem__"=pure (some (.builtin id))/\s.TypeIs v T/\wpAny (model X.prog X.w) X.A (getItem v (.ref sl)) (EP X pins σ Q) X.xe s
theorem SlR.or {r r':V->Option Int->Option Int->Hp->VK->Prop}(h:SlR X r) (h':SlR X r'):SlR X (fun x lo hi H Q=>r x lo hi H Q∨r' x lo hi H Q):=by
 intro pins s σ H x v vl vu lo hi sl Q I rx hs pl pu q
 rcases q with q | q
 · exact h pins s σ H x v vl vu lo hi sl Q I rx hs pl pu q
 · exact h' pins s σ H x v vl vu lo hi sl Q I rx hs pl pu q
def tSl (r:V->Option Int->Option Int->Hp->VK->Prop) (te:TE) (tl th:TO):TE:=fun σ H Q=>te σ H fun x H1=>tl σ H1 fun l H2=>th σ H2 fun u H3=>r x l u H3 Q
theorem QX {r:V->Option Int->Option Int->Hp->VK->Prop}(hr:SlR X r) (he:PE X e te) (hl:PO X lo tl) (hu:PO X hi th):PE X (.Subscript e (.Slice lo hi none p2) pos) (tSl r te tl th):=by
 intro pins s σ H Q I h
 refine Subscript_ (thn (he pins s σ H _ I h) fun v s1 ⟨x,H1,I1,r1,q1⟩=>?_)
 refine wpAny_Slice (thn (hl pins s1 σ H1 _ I1 q1) fun vl s2 ⟨l,H2,I2,pl,q2⟩=>thn (hu pins s2 σ H2 _ I2 q2) fun vu s3 ⟨u,H3,I3,pu,q3⟩=>?_)
 rw[evalPart_none]
 refine zY ?_
 have I4:Inv X pins σ H3 { s3 with heap:=s3.heap.push { cls:=.type "slice", data:=.fields #[vl,vu,.none] } }:=I3.kept (t':=s3.toks) fun b ob q=>zW _ q
 obtain⟨T,id,hT,ht,hg⟩:=hr pins { s3 with heap:=s3.heap.push { cls:=.type "slice", data:=.fields #[vl,vu,.none] } } σ H3 x v vl vu l u s3.heap.objs.size Q I4 r1 (Heap.IsSliceOf.new ..) pl pu q3
 show wpAny (model X.prog X.w) X.A (subscriptTail e (.Slice lo hi none p2) v (.ref s3.heap.objs.size)) (EP X pins σ Q) X.xe { s3 with heap:=s3.heap.push { cls:=.type "slice", data:=.fields #[vl,vu,.none] } }
 exact tail_any (ops:=[.ref s3.heap.objs.size,v]) ht hT hg (by with_unfolding_all rfl)
def IL (xs:List V) (lo hi:Option Int):List V:=(xs.drop (HT.sIx xs.length 0 lo)).take (HT.sIx xs.length xs.length hi - HT.sIx xs.length 0 lo)
theorem KL (xs:List V) (lo hi:Option Int):(IL xs lo hi).length<=xs.length:=by
 unfold IL
 rw[a1Q,a0K]
 omega
def m7 (K:Frg):V->Option Int->Option Int->Hp->VK->Prop:=fun x lo hi H Q=>∃a xs,x = .ref a/\SqT K H a xs /\
 ¬(HT.sIx xs.length 0 lo=0/\HT.sIx xs.length xs.length hi=xs.length)/\∀p,H p=none->Q (.ref p) (upd H p (.tup (IL xs lo hi)))
theorem hX:SlR X (m7 X.K):=by
 intro pins s σ H x v vl vu lo hi sl Q I rx hs pl pu h
 obtain⟨a,xs,rfl,hx,hw,q⟩:=h
 cases rx
 obtain⟨its,r,ht,hz⟩:=I.tuple hx
 have hlen:its.toArray.size=xs.length:=by rw[zJ];exact r.length.symm
 refine⟨"tuple", _,PyProof.Rows.slot_tuple_getitem.lookup,ht.typeIs,?_⟩
 refine HT.getItem_tuple_cut ht hs pl pu (by rw[hlen];exact hw) ?_ (by rw[hlen];exact hz)
 rw[hlen]
 refine⟨.ref s.heap.objs.size,_,I.laid (t':=s.toks) (o:=.tup (IL xs lo hi)) (fun b ob q=>zW _ q) (zR _) ?_,rfl,q _ (I.hok.fresh (zR _))⟩
 exact⟨zN (KL xs lo hi) hz,_,(r.drop (HT.sIx xs.length 0 lo)).take (HT.sIx xs.length xs.length hi - HT.sIx xs.length 0 lo),IsTup.new _ _⟩
end
def ixN (n:Nat) (i:Int):Option Nat:=if 0<=i then (if i < n then some i.toNat else none) else if -(n:Int)<=i then some (i+n).toNat else none
def atI {α:Type}(xs:List α) (i:Int):Option α:=(ixN xs.length i).bind fun j=>xs[j]?
theorem UV {n:Nat}{i:Int}{j:Nat}(h:ixN n i=some j):seqIndex? i n=some j/\j < n/\-(n:Int)<=i/\i < n:=by
 unfold ixN at h
 by_cases h0:0<=i
 · rw[if_pos h0] at h
   by_cases h1:i < n
   · rw[if_pos h1] at h
     have e:i.toNat=j:=Option.some.inj h
     exact⟨by rw[seqIndex_of h0 h1,e],by omega,by omega,h1⟩
   · rw[if_neg h1] at h;cases h
 · rw[if_neg h0] at h
   by_cases h1 : -(n:Int)<=i
   · rw[if_pos h1] at h
     have e:(i+n).toNat=j:=Option.some.inj h
     exact⟨by rw[seqIndex_neg (by omega) h1,e],by omega,h1,by omega⟩
   · rw[if_neg h1] at h;cases h
theorem P5 {α:Type}{xs:List α}{i:Int}{v:α}(h:atI xs i=some v):∃j,seqIndex? i xs.length=some j/\xs[j]?=some v/\j < xs.length/\-(xs.length:Int)<=i/\i < xs.length:=by
 unfold atI at h
 cases e:ixN xs.length i with
 | none=>rw[e] at h;cases h
 | some j=>
   rw[e] at h
   obtain⟨h1,h2,h3,h4⟩:=UV e
   exact⟨j,h1,h,h2,h3,h4⟩
theorem AD {α:Type}{xs:List α}{j:Nat}{v:α}(h:xs[j]?=some v):atI xs (j:Int)=some v:=by
 have hj:j < xs.length:=(yT.mp h).1
 have e:ixN xs.length (j:Int)=some j:=by
   unfold ixN
   rw[if_pos (by omega),if_pos (by omega)];simp
 unfold atI;rw[e];exact h
def bL (b:Expr):Prop:=∀o i,subscripted b false o i=operate [o,i] (getItem o i)
def IxR (X:Cx) (r:R2):Prop:=
 ∀(value slice:Expr) (pins:List (Addr×Obj)) (s:Shared) (σ:St) (H:Hp) (x y:V) (v u:Value) (Q:VK),Inv X pins σ H s->RelV x v->RelV y u->r x y H Q ->
   subscripted slice false v u=operate [v,u] (getItem v u)->wpAny (model X.prog X.w) X.A (subscriptTail value slice v u) (EP X pins σ Q) X.xe s
def MtR (X:Cx) (id:String) (r:V->List V->Hp->VK->Prop):Prop:=
 ∀(pins:List (Addr×Obj)) (s:Shared) (σ:St) (H:Hp) (x:V) (xs:List V) (v:Value) (us:List Value) (Q:VK),Inv X pins σ H s->RelV x v->Vals xs us->r x xs H Q ->
   wpAny (model X.prog X.w) X.A (call (.builtin id) (v::us)) (EP X pins σ Q) X.xe s
section
variable {X:Cx}{a b:Expr}{ta tb:TE}{pos:Pos}
theorem IxR.or {r r':R2}(h:IxR X r) (h':IxR X r'):IxR X (fun x y H Q=>r x y H Q∨r' x y H Q):=by
 intro value slice pins s σ H x y v u Q I rx ry q hs
 rcases q with q | q
 · exact h value slice pins s σ H x y v u Q I rx ry q hs
 · exact h' value slice pins s σ H x y v u Q I rx ry q hs
theorem M7 {r:R2}(hr:IxR X r) (ha:PE X a ta) (hb:PE X b tb) (hs:bL b):PE X (.Subscript a b pos) (tOp r ta tb):=by
 intro pins s σ H Q I h
 exact Subscript_ (gV ha hb I h fun v u s2 x y H2 I2 rx ry q=>hr a b pins s2 σ H2 x y v u Q I2 rx ry q (hs _ _))
def bM (K:Frg):R2:=fun x y H Q=>∃p xs i v,x = .ref p/\y = .int i/\SqL K H p xs/\atI xs i=some v/\Q v H
def i0 (K:Frg):R2:=fun x y H Q=>∃p xs i v,x = .ref p/\y = .int i/\SqT K H p xs/\atI xs i=some v/\Q v H
def i5:R2:=fun x y H Q=>∃z i c,x = .str z/\y = .int i/\z.length<=sizeLine/\atI z.cps.toList i=some c/\Q (.str ⟨#[c]⟩) H
theorem bN:IxR X (bM X.K):=by
 intro value slice pins s σ H x y v u Q I rx ry h hs
 obtain⟨p,xs,i,z,rfl,rfl,hq,he,q⟩:=h
 cases rx
 obtain⟨t,rfl⟩:=ry
 obtain⟨its,r,pl,hz⟩:=I.list hq
 obtain⟨j,h1,h2,h3,h4,h5⟩:=P5 he
 obtain⟨w,ew,rw'⟩:=r.get h2
 have hl:=r.length
 have hn:=LZ
 have fin:EP X pins σ Q w s:=⟨z,H,I,rw',q⟩
 by_cases h0:0<=i
 · have hj:i.toNat=j:=by
     rw[seqIndex_of h0 h5] at h1
     exact Option.some.inj h1
   exact item_listR pl.isList h0 (by omega) (by rw[hj];simpa using ew) fin hs
 · have hj:(i+(its.toArray.size:Int)).toNat=j:=by
     rw[seqIndex_neg (by omega) h4] at h1
     rw[zJ,← hl]
     exact Option.some.inj h1
   exact subscriptTail_builtinR (x:=w) pl.isList.typeIs slot_list_getitem.lookup
     (wpAny_getItem_list_neg (Q:=fun r s'=>r=w/\EP X pins σ Q r s') pl.isList (by omega) (by rw[zJ] <;> omega) (by omega) (by rw[hj];simpa using ew) ⟨rfl,fin⟩) hs
theorem i6:IxR X (i0 X.K):=by
 intro value slice pins s σ H x y v u Q I rx ry h hs
 obtain⟨p,xs,i,z,rfl,rfl,hq,he,q⟩:=h
 cases rx
 obtain⟨t,rfl⟩:=ry
 obtain⟨its,r,pl,hz⟩:=I.tuple hq
 obtain⟨j,h1,h2,h3,h4,h5⟩:=P5 he
 obtain⟨w,ew,rw'⟩:=r.get h2
 have hl:=r.length
 have hn:=LZ
 have fin:EP X pins σ Q w s:=⟨z,H,I,rw',q⟩
 exact subscriptTail_builtinR (x:=w) pl.typeIs slot_tuple_getitem.lookup
   (getItem_tuple (j:=j) (Q:=fun r s'=>r=w/\EP X pins σ Q r s') pl (by omega) (by omega) (by rw[zJ,← hl];exact h1) (by simpa using ew) ⟨rfl,fin⟩) hs
theorem i7:IxR X i5:=by
 intro value slice pins s σ H x y v u Q I rx ry h hs
 obtain⟨z,i,c,rfl,rfl,hz,he,q⟩:=h
 obtain⟨t,rfl⟩:=rx
 obtain⟨t',rfl⟩:=ry
 obtain⟨j,h1,h2,h3,h4,h5⟩:=P5 he
 have hl:z.cps.toList.length=z.length:=by simp[Str.length]
 rw[hl] at h1 h4 h5
 have hn:=LZ
 exact tail_any (typeIs_str s z t) slot_str_getitem.lookup (getItem_str (c:=c) (by
   have e1:decide (i < -(2 ^ 63:Int))=false:=decide_eq_false (by omega)
   have e2:decide (i≥2 ^ 63)=false:=decide_eq_false (by omega)
   rw[e1,e2,Bool.or_false]) (by rw[h1];simpa using h2) ⟨.str ⟨#[c]⟩,H,I.tok _,⟨_,rfl⟩,q⟩) hs
theorem T6 (its:List Value) (n j:Nat) (u:Value):a6V (·.setIfInBounds j u) { cls:=.type "list", data:=.seq its.toArray n }={ cls:=.type "list", data:=.seq (its.set j u).toArray n }:=by
 simp[a6V]
theorem Inv.lst {pins:List (Addr×Obj)}{σ:St}{H:Hp}{s:Shared}{p:Addr}{xs:List V}(I:Inv X pins σ H s) (h:H p=some (.lst xs)) :
   ∃(its:List Value) (n:Nat),Vals xs its/\s.heap.get? p=some { cls:=.type "list", data:=.seq its.toArray n }/\xs.length<=sizeLine:=by
 obtain⟨z,its,n,r,e⟩:=I.hok p _ h
 exact⟨its,n,r,e,z⟩
theorem Inv.lstUpd {pins:List (Addr×Obj)}{σ:St}{H:Hp}{s:Shared}{p:Addr}{xs ys:List V}{its its':List Value}{n n':Nat}{f:Obj->Obj}(I:Inv X pins σ H s) (h:H p=some (.lst xs))
   (ho:s.heap.get? p=some { cls:=.type "list", data:=.seq its.toArray n }) (hf:f { cls:=.type "list", data:=.seq its.toArray n }={ cls:=.type "list", data:=.seq its'.toArray n' }) (r:Vals ys its') (hz:ys.length<=sizeLine) (t:Nat) :
   Inv X pins σ (upd H p (.lst ys)) { s with heap:=s.heap.update p f,toks:=t }:=by
 have e:(s.heap.update p f).get? p=some { cls:=.type "list", data:=.seq its'.toArray n' }:=by
   rw[Heap.get?_update_self f ho (by rw[hf] <;> rfl),hf]
 refine I.write (x:=p) (e:=p) (by rw[h];trivial) (.inl rfl) (fun b u hb q=>(Heap.get?_update_other _ _ (b5J hb)).trans q) ⟨_,e⟩ ?_
 exact⟨hz,its',n',r,e⟩
def fF:V->V->V->Hp->(Hp->Prop)->Prop:=fun o i v H Q=>∃p xs k j,o = .ref p/\i = .int k/\H p=some (.lst xs)/\ixN xs.length k=some j/\Q (upd H p (.lst (xs.set j v)))
theorem XX:kE X fF:=by
 intro pins s σ H o i v ov iv u Q I ro ri rv h
 obtain⟨p,xs,k,j,rfl,rfl,hp,hj,q⟩:=h
 cases ro
 obtain⟨t,rfl⟩:=ri
 obtain⟨its,n,r,ho,hz⟩:=I.lst hp
 obtain⟨h1,h2,h3,h4⟩:=UV hj
 have hl:=r.length
 have hn:=LZ
 have I':Inv X pins σ (upd H p (.lst (xs.set j v))) { s with heap:=s.heap.update p (a6V (·.setIfInBounds j u)) }:=
   I.lstUpd hp ho (T6 its n j u) (r.set rv j) (by rw[List.length_set];exact hz) s.toks
 by_cases h0:0<=k
 · have hk:k.toNat=j:=by
     rw[seqIndex_of h0 h4] at h1
     exact Option.some.inj h1
   exact PySem.W.ki_setAt ho h0 (by omega) (by rw[zJ,← hl];exact h4) (by rw[hk];exact⟨_,I',q⟩)
 · have hk:(k+(its.toArray.size:Int)).toNat=j:=by
     rw[seqIndex_neg (by omega) h3] at h1
     rw[zJ,← hl]
     exact Option.some.inj h1
   exact PySem.W.ki_setBack ho (by omega) (by rw[zJ,← hl];exact h3) (by omega) (by rw[hk];exact⟨_,I',q⟩)
theorem P6 (lo hi:Option Int) (n:Nat):(sliceBounds lo hi none n).1=((HT.sIx n 0 lo:Nat):Int)/\(sliceBounds lo hi none n).2.1=((HT.sIx n n hi:Nat):Int)/\(sliceBounds lo hi none n).2.2=1:=by
 refine⟨?_,?_,rfl⟩
 · cases lo with
   | none=>simp[sliceBounds,HT.sIx]
   | some i=>
     simp only[sliceBounds,HT.sIx,Option.getD_none,show(1:Int) > 0 by decide,if_true]
     by_cases h:i < 0
     · simp only[h,if_true] <;> omega
     · simp only[h,if_false] <;> omega
 · cases hi with
   | none=>simp[sliceBounds,HT.sIx]
   | some i=>
     simp only[sliceBounds,HT.sIx,Option.getD_none,show(1:Int) > 0 by decide,if_true]
     by_cases h:i < 0
     · simp only[h,if_true] <;> omega
     · simp only[h,if_false] <;> omega
theorem NQ (its:List Value) (lo hi:Option Int):slicePick its.toArray lo hi none=((its.drop (HT.sIx its.length 0 lo)).take (HT.sIx its.length its.length hi - HT.sIx its.length 0 lo)).toArray:=by
 obtain⟨h1,h2,h3⟩:=P6 lo hi its.toArray.size
 unfold slicePick
 rw[h1,h2,h3]
 simp only[sliceRange_one,pick_run,zJ] <;> rfl
def i8 (K:Frg):V->Option Int->Option Int->Hp->VK->Prop:=fun x lo hi H Q=>∃a xs,x = .ref a/\SqL K H a xs/\∀p,H p=none->Q (.ref p) (upd H p (.lst (IL xs lo hi)))
theorem bO:SlR X (i8 X.K):=by
 intro pins s σ H x v vl vu lo hi sl Q I rx hs pl pu h
 obtain⟨a,xs,rfl,hx,q⟩:=h
 cases rx
 obtain⟨its,r,ht,hz⟩:=I.list hx
 have hlen:=r.length
 refine⟨"list", _,slot_list_getitem.lookup,ht.isList.typeIs,?_⟩
 refine wpAny_getItem_list_slice ht.isList hs pl pu .none (by simp) ?_ (by rw[zJ] <;> omega)
 rw[NQ,← hlen]
 refine⟨.ref s.heap.objs.size,_,I.laid (t':=s.toks) (o:=.lst (IL xs lo hi)) (fun b ob q=>zW _ q) (zR _) ?_,rfl,q _ (I.hok.fresh (zR _))⟩
 exact⟨zN (KL xs lo hi) hz,_,0,(r.drop (HT.sIx xs.length 0 lo)).take (HT.sIx xs.length xs.length hi - HT.sIx xs.length 0 lo),yZ _ rfl⟩
def HS:V->Bool
 | .non=>true
 | .bl _=>true
 | .int _=>true
 | .str _=>true
 | _=>false
def eqV:V->V->Bool
 | .non,.non=>true
 | .bl a,.bl b=>a==b
 | .bl a,.int b=>(if a then 1 else 0)==b
 | .int a,.bl b=>a==(if b then 1 else 0)
 | .int a,.int b=>a==b
 | .str a,.str b=>a==b
 | _,_=>false
theorem i9 {A:Around}{s:Shared}{y x:V}{u v:Value}(ry:RelV y u) (rx:RelV x v) (fy:HS y=true) (fx:HS x=true):SeqAt.EqAt A s u v (eqV y x):=by
 cases y with
 | non=>
   cases ry
   cases x with
   | non=>cases rx;exact SeqAt.EqAt.same _
   | bl b=>cases rx;exact SeqAt.EqAt.none_bool b
   | int b=>obtain⟨t,rfl⟩:=rx;exact SeqAt.EqAt.none_int b t
   | str b=>obtain⟨t,rfl⟩:=rx;exact SeqAt.EqAt.none_str b t
   | _=>exact absurd (show false=true from fx) nft
 | bl a=>
   cases ry
   cases x with
   | non=>cases rx;exact SeqAt.EqAt.bool_none a
   | bl b=>cases rx;exact SeqAt.EqAt.bool_bool a b
   | int b=>obtain⟨t,rfl⟩:=rx;exact SeqAt.EqAt.bool_int a b t
   | str b=>obtain⟨t,rfl⟩:=rx;exact SeqAt.EqAt.bool_str a b t
   | _=>exact absurd (show false=true from fx) nft
 | int a=>
   obtain⟨t',rfl⟩:=ry
   cases x with
   | non=>cases rx;exact SeqAt.EqAt.int_none a t'
   | bl b=>cases rx;exact SeqAt.EqAt.int_bool a t' b
   | int b=>obtain⟨t,rfl⟩:=rx;exact SeqAt.EqAt.int_int a t' b t
   | str b=>obtain⟨t,rfl⟩:=rx;exact SeqAt.EqAt.int_str a t' b t
   | _=>exact absurd (show false=true from fx) nft
 | str a=>
   obtain⟨t',rfl⟩:=ry
   cases x with
   | non=>cases rx;exact SeqAt.EqAt.str_none a t'
   | bl b=>cases rx;exact SeqAt.EqAt.str_bool a t' b
   | int b=>obtain⟨t,rfl⟩:=rx;exact SeqAt.EqAt.str_int a t' b t
   | str b=>obtain⟨t,rfl⟩:=rx;exact SeqAt.EqAt.str_str a t' b t
   | _=>exact absurd (show false=true from fx) nft
 | _=>exact absurd (show false=true from fy) nft
def eqU (x:V) (u:Value):Bool:=match u with
 | .none=>eqV .non x
 | .bool b=>eqV (.bl b) x
 | .int i _=>eqV (.int i) x
 | .str z _=>eqV (.str z) x
 | _=>false
theorem XY {x y:V}{u:Value}(r:RelV y u) (f:HS y=true):eqU x u=eqV y x:=by
 cases y with
 | non=>cases r;rfl
 | bl b=>cases r;rfl
 | int i=>obtain⟨t,rfl⟩:=r;rfl
 | str z=>obtain⟨t,rfl⟩:=r;rfl
 | _=>exact absurd (show false=true from f) nft
theorem P7 {x:V}:∀{xs:List V}{us:List Value},Vals xs us->xs.all HS=true->us.any (eqU x)=xs.any fun y=>eqV y x
 | _,_,.nil,_=>rfl
 | y::xs,u::us,.cons r t,f=>by
   rw[List.all_cons,a1Z] at f
   rw[a7V,a7V,XY r f.1,P7 t f.2]
theorem M8 {A:Around}{s:Shared}{x:V}{v:Value}(rx:RelV x v) (fx:HS x=true):∀{xs:List V}{us:List Value},Vals xs us->xs.all HS=true->∀u∈us,SeqAt.EqAt A s u v (eqU x u)
 | _,_,.nil,_=>fun u hu=>by cases hu
 | y::xs,u::us,.cons r t,f=>fun u' hu=>by
   rw[List.all_cons,a1Z] at f
   rcases yX.mp hu with rfl | hu
   · rw[XY r f.1];exact i9 r rx f.1 fx
   · exact M8 rx fx t f.2 u' hu
def inV (x:V) (xs:List V):Bool:=xs.any fun y=>eqV y x
def rIn (K:Frg) (neg:Bool):R2:=fun x y H Q=>∃p xs,y = .ref p/\(SqL K H p xs∨SqT K H p xs)/\HS x=true/\xs.all HS=true/\Q (.bl (if neg then !inV x xs else inV x xs)) H
theorem WC:OpR X (compareOp .In) (rIn X.K false):=by
 intro pins s σ H x y v u Q I rx ry h
 obtain⟨p,xs,rfl,hq,fx,fs,q⟩:=h
 cases ry
 rcases hq with hq | hq
 · obtain⟨its,r,pl,hz⟩:=I.list hq
   refine SeqAt.in_listAt (eqU x) pl.isList (fun w hw=>M8 rx fx r fs w (by simpa using hw)) ⟨.bl _,H,I,rfl,?_⟩
   rw[show its.toArray.any (eqU x)=its.any (eqU x) by simp,P7 r fs]
   exact q
 · obtain⟨its,r,pl,hz⟩:=I.tuple hq
   refine SeqAt.in_tupleAt (eqU x) pl (fun w hw=>M8 rx fx r fs w (by simpa using hw)) ⟨.bl _,H,I,rfl,?_⟩
   rw[show its.toArray.any (eqU x)=its.any (eqU x) by simp,P7 r fs]
   exact q
theorem P8:BO X (.type "list") (fun xs H Q=>∃p ys,xs=[.ref p]/\(SqL X.K H p ys∨SqT X.K H p ys)/\∀l,H l=none->Q (.ref l) (upd H l (.lst ys))):=by
 intro pins s σ H xs us Q I r h
 obtain⟨p,ys,rfl,hq,q⟩:=h
 obtain⟨u,rfl,rx⟩:=G6 r
 cases rx
 have fin:∀(its:List Value),Vals ys its->ys.length<=sizeLine->∀(h':Heap) (c':Nat),(∀b o',s.heap.get? b=some o'->h'.get? b=some o') ->
     h'.get? s.heap.objs.size=some { cls:=.type "list", dict:=none,data:=.seq its.toArray c',slots:=#[] }->EP X pins σ Q (.ref s.heap.objs.size) { s with heap:=h' }:=fun its r' hz h' c' kp e=>
   ⟨.ref s.heap.objs.size,_,I.laid (t':=s.toks) kp (zR _) (show ObjOk X.prog X.w _ h' _ (.lst ys) from ⟨hz,its,c',r',e⟩),rfl,q _ (I.hok.fresh (zR _))⟩
 rcases hq with hq | hq
 · obtain⟨its,r',pl,hz⟩:=I.list hq
   have hlen:=r'.length
   obtain⟨o,ho,hc,n,hd⟩:=pl.isList
   exact call_list_seq p (.inl rfl) ho hc hd (fun h' c' kp e=>fin its r' hz h' c' kp e) (by simp only[zJ] <;> omega)
 · obtain⟨its,r',pl,hz⟩:=I.tuple hq
   have hlen:=r'.length
   obtain⟨o,ho,hc,n,hd⟩:=pl
   exact call_list_seq p (.inr rfl) ho hc hd (fun h' c' kp e=>fin its r' hz h' c' kp e) (by simp only[zJ] <;> omega)
theorem NR:BO X (.type "tuple") (fun xs H Q=>∃p ys,xs=[.ref p]/\((SqL X.K H p ys/\∀l,H l=none->Q (.ref l) (upd H l (.tup ys)))∨(SqT X.K H p ys/\Q (.ref p) H))):=by
 intro pins s σ H xs us Q I r h
 obtain⟨p,ys,rfl,h⟩:=h
 obtain⟨u,rfl,rx⟩:=G6 r
 cases rx
 rcases h with ⟨hq,q⟩ | ⟨hq,q⟩
 · obtain⟨its,r',pl,hz⟩:=I.list hq
   have hlen:=r'.length
   refine call_tuple_list pl.isList (fun h' kp=>?_) (by simp only[zJ] <;> omega)
   have I1:Inv X pins σ H { s with heap:=h' }:=I.kept (t':=s.toks) kp
   have I2:Inv X pins σ (upd H h'.objs.size (.tup ys)) { s with heap:=h'.push { cls:=.type "tuple", data:=.seq its.toArray } }:=
     I1.laid (t':=s.toks) (fun b o e=>zW _ e) (zR _) (show ObjOk X.prog X.w _ _ _ (.tup ys) from ⟨hz,its,r',IsTup.new _ _⟩)
   exact⟨.ref h'.objs.size,_,I2,rfl,q _ (I1.hok.fresh (zR _))⟩
 · obtain⟨its,r',pl,hz⟩:=I.tuple hq
   exact call_tuple_same pl ⟨.ref p,H,I,rfl,q⟩
def tyV (K:Frg) (T:String) (x:V) (H:Hp):Prop:=match x with
 | .str _=>T = "str"
 | .int _=>T = "int"
 | .ref p=>(T = "list" /\ ∃xs,SqL K H p xs)∨(T = "tuple" /\ ∃o,K.lookup p=some o/\o.cls = .type "tuple" /\ o.dict=none) ∨
     (T = "dict" /\ ((∃kvs,H p=some (.dK kvs))∨∃kvs,H p=some (.dT kvs)))∨(T = "set" /\ ∃S n,H p=some (.set S n))
 | _=>False
theorem iD {pins:List (Addr×Obj)}{σ:St}{H:Hp}{s:Shared}{T:String}{x:V}{v:Value}(I:Inv X pins σ H s) (r:RelV x v) (ty:tyV X.K T x H) :
   s.TypeIs v T/\∀a,v = .ref a->∃ob,s.heap.get? a=some ob/\ob.dict=none:=by
 cases x with
 | str z=>
   obtain⟨t,rfl⟩:=r
   cases (show T = "str" from ty)
   exact⟨typeIs_str s z t,fun _ e=>nomatch e⟩
 | int i=>
   obtain⟨t,rfl⟩:=r
   cases (show T = "int" from ty)
   exact⟨typeIs_int s i t,fun _ e=>nomatch e⟩
 | ref p=>
   cases r
   rcases ty with ⟨rfl,xs,hq⟩ | ⟨rfl,o,hk,hc,hd⟩ | ⟨rfl,hk⟩ | ⟨rfl,S,n,hk⟩
   · obtain⟨its,_,pl,_⟩:=I.list hq
     refine⟨pl.isList.typeIs,fun a e=>?_⟩
     cases e
     obtain⟨o,n,e,c,hd,_⟩:=pl
     exact⟨o,e,hd⟩
   · refine⟨⟨o,I.kIn p o hk,hc⟩,fun a e=>?_⟩
     cases e
     exact⟨o,I.kIn _ o hk,hd⟩
   · have z:∃o,s.heap.get? p=some o/\o.ExactDict:=by
       rcases hk with ⟨kvs,hk⟩ | ⟨kvs,hk⟩
       · obtain⟨_,_,_,_,o,_,_,e,ex,_⟩:=I.hok p _ hk
         exact⟨o,e,ex⟩
       · obtain⟨_,_,_,_,o,_,_,e,ex,_⟩:=I.hok p _ hk
         exact⟨o,e,ex⟩
     obtain⟨o,e,ex⟩:=z
     refine⟨⟨o,e,ex.1⟩,fun a e2=>?_⟩
     cases e2
     exact⟨o,e,ex.2.1⟩
   · obtain⟨o,_,_,_,e,ex,_⟩:=I.hok p _ hk
     refine⟨⟨o,e,ex.1⟩,fun a e2=>?_⟩
     cases e2
     exact⟨o,e,ex.2.1⟩
 | _=>exact b0K ty
def tBM (K:Frg) (T:String) (r:V->List V->Hp->VK->Prop) (to:TE) (t:TA):TE:=fun σ H Q=>to σ H fun x H1=>tyV K T x H1/\t σ H1 fun xs H2=>r x xs H2 Q
variable {o e:Expr}{es:List Expr}{to:TE}{t:TA}{name:Str}{apos cpos:Pos}{T id:String}{r:V->List V->Hp->VK->Prop}
theorem kT (pa:PlainAttrs T) (slot:Slot T name id) (hty:typeOf (.builtin id)=pure (.type "method_descriptor")) (hm:MtR X id r) (ho:PE X o to) (ha:PA X (e::es) t)
   (hbase:attributeBase o name X.env (eval o X.env)=eval o X.env:=by rfl)
   (hfew:((backTo cpos (starEach (e::es) X.env)).all (fun x=>!x.1)&&(backToKw cpos (keywordEach [] X.env)).all (fun x=>x.1.isSome)
     && decide ((e::es).length+([]:List Keyword).length+(if ([]:List Keyword).isEmpty then 0 else 1) < 30))=true:=by rfl)
   (hline:(apos.endLine==cpos.line)=true:=by rfl) (hs:starEach (e::es) X.env=(false,eval e X.env)::starEach es X.env:=by rfl) (hplain:(backTo cpos (starEach es X.env)).any (·.1)=false:=by rfl) :
   PE X (.Call (.Attribute o name apos) (e::es) [] cpos) (tBM X.K T r to t):=by
 intro pins s σ H Q I h
 refine wpAny_Call_method_late hbase hfew hline rfl (thn (ho pins s σ H _ I h) fun v s1 ⟨x,H1,I1,r1,ty,q1⟩=>?_)
 obtain⟨h1,h2⟩:=iD I1 r1 ty
 refine⟨T,id,pa,slot,hty,h1,h2,?_⟩
 have hA:=ha cpos pins s1 σ H1 _ I1 q1
 rw[hs] at hA ⊢
 refine b7J (by show(false||(backTo cpos (starEach es X.env)).any (·.1))=false;rw[hplain] <;> rfl) (Calls.evalArgs_plain ?_)
 exact thn hA fun us s2 ⟨vs,H2,I2,r2,q2⟩=>hm pins s2 σ H2 x vs v us Q I2 r1 r2 q2
end
def MtM (X:Cx) (id:String) (r:V->List V->Hp->VK->Prop):Prop:=
 ∀(pins:List (Addr×Obj)) (s:Shared) (σ:St) (H:Hp) (x:V) (xs:List V) (v:Value) (us:List Value) (Q:VK),Inv X pins σ H s->RelV x v->Vals xs us->r x xs H Q ->
   wpAny (model X.prog X.w) X.A (call (.builtin id) (v::us)) (EP X pins σ Q) X.xe s
theorem Vals.one:∀{x:V}{us:List Value},Vals [x] us->∃u,us=[u]/\RelV x u
 | _,_,.cons r .nil=>⟨_,rfl,r⟩
theorem Vals.reverse {xs:List V}{us:List Value}(h:Vals xs us):Vals xs.reverse us.reverse:=by
 induction h with
 | nil=>exact .nil
 | cons r t ih=>rw[b6J,b6J];exact Vals.append ih (.cons r .nil)
section
variable {X:Cx}{pins:List (Addr×Obj)}{σ:St}{H:Hp}{s:Shared}{l b:Addr}{xs ys zs:List V}
theorem Inv.lset {its its':List Value}{n:Nat}{f:Array Value->Array Value}{t':Nat}(I:Inv X pins σ H s) (hH:H l=some (.lst xs))
   (e:s.heap.get? l=some { cls:=.type "list", data:=.seq its.toArray n }) (hf:f its.toArray=its'.toArray) (hv:Vals ys its') (hz:ys.length<=sizeLine) :
   Inv X pins σ (upd H l (.lst ys)) { s with heap:=s.heap.update l (a6V f),toks:=t' }:=by
 have q:=PySem.IsL.update e f
 rw[hf] at q
 refine I.write (x:=l) (e:=l) (by rw[hH];exact trivial) (.inl rfl) (fun b' u hb hu=>(Heap.get?_update_other s.heap (a6V f) (b5J hb)).trans hu) ⟨_,q⟩ ?_
 exact⟨hz,its',_,hv,q⟩
theorem Inv.lnew {its:List Value}{t':Nat}(I:Inv X pins σ H s) (hv:Vals ys its) (hz:ys.length<=sizeLine) :
   Inv X pins σ (upd H s.heap.objs.size (.lst ys)) { s with heap:=s.heap.push { cls:=.type "list", data:=.seq its.toArray },toks:=t' }:=
 I.laid (fun _ _ q=>zW _ q) (zR _) ⟨hz,its,0,hv,yZ _ rfl⟩
theorem Inv.fresh (I:Inv X pins σ H s):H s.heap.objs.size=none:=I.hok.fresh (zR _)
theorem Inv.lstM (I:Inv X pins σ H s) (hH:H l=some (.lst xs)):xs.length<=sizeLine/\∃(its:List Value) (n:Nat),Vals xs its/\xs.length=its.length/\s.heap.get? l=some { cls:=.type "list", data:=.seq its.toArray n }:=by
 obtain⟨z,its,n,r,e⟩:=I.hok l _ hH
 exact⟨z,its,n,r,r.length,e⟩
end
section
variable {X:Cx}
def P9:V->List V->Hp->VK->Prop:=fun x vs H Q=>∃l xs y,x = .ref l/\vs=[y]/\H l=some (.lst xs)/\xs.length < sizeLine/\Q .non (upd H l (.lst (xs++[y])))
theorem OH:MtM X "list.append" P9:=by
 intro pins s σ H x vs v us Q I rx rv h
 obtain⟨l,xs,y,rfl,rfl,hH,hz,q⟩:=h
 cases rx
 obtain⟨u,rfl,ru⟩:=rv.one
 obtain⟨z,its,n,r,hl,e⟩:=I.lstM hH
 refine call_meets F.slot_list_append ⟨_,e,rfl⟩ F.entry_list_append (F.args_list_append_2 _ _) (PySem.list_append l its.toArray n u (by rw[zJ];omega)) ⟨e,?_⟩
 refine⟨.non,_,I.lset (its':=its++[u]) hH e (by simp) (r.append (.cons ru .nil)) ?_,rfl,q⟩
 rw[yY,List.length_singleton]
 omega
end
section
variable {κ:Type}[DecidableEq κ]
def GO (kvs:List (κ×V)) (k:κ):Option V:=(kvs.find? fun kv=>decide (kv.1=k)).map (·.2)
def F9 (kvs:List (κ×V)) (k:κ) (v:V):List (κ×V):=
 if (kvs.any fun kv=>decide (kv.1=k))=true then kvs.map (fun kv=>if kv.1=k then (kv.1,v) else kv) else kvs++[(k,v)]
theorem IZ {p:κ×V}{r:List (κ×V)}{k:κ}(e:p.1=k):GO (p::r) k=some p.2:=by simp[GO,a7K,e]
theorem J0 {p:κ×V}{r:List (κ×V)}{k:κ}(e:¬p.1=k):GO (p::r) k=GO r k:=by simp[GO,a7K,e]
theorem QY (k:κ):∀kvs:List (κ×V),(kvs.any fun kv=>decide (kv.1=k))=(GO kvs k).isSome
 | []=>rfl
 | p::r=>by
   rw[a7V]
   by_cases e:p.1=k
   · simp only[IZ e,decide_eq_true e,Bool.true_or,Option.isSome_some]
   · rw[J0 e,decide_eq_false e,Bool.false_or];exact QY k r
theorem GQ (kvs:List (κ×V)) (k:κ) (v:V):(F9 kvs k v).length<=kvs.length+1:=by
 unfold F9
 split
 · rw[zX];omega
 · rw[yY,b7K,List.length_nil];omega
theorem RelO.isSome_eq {o:Option V}{u:Option Value}(r:RelO o u):o.isSome=u.isSome:=by
 cases o with
 | none=>cases u with
   | none=>rfl
   | some _=>exact(show False from r).elim
 | some _=>cases u with
   | none=>exact(show False from r).elim
   | some _=>rfl
theorem RelO.getD {o:Option V}{u:Option Value}{d:V}{d':Value}(r:RelO o u) (rd:RelV d d'):RelV (o.getD d) (u.getD d'):=by
 cases o with
 | none=>cases u with
   | none=>exact rd
   | some _=>exact(show False from r).elim
 | some _=>cases u with
   | none=>exact(show False from r).elim
   | some _=>exact r
theorem KV.val {kvs:List (κ×V)}{vs:List (κ×Value)}(r:KV kvs vs) (k:κ):RelO (GO kvs k) (valueAt vs k):=by
 unfold KV at r
 induction r with
 | nil=>exact a8X
 | @cons p q ps qs h t ih=>
   obtain⟨h1,h2⟩:=h
   by_cases e:p.1=k
   · have e':q.1=k:=h1.symm.trans e
     have b:valueAt (q::qs) k=some q.2:=by simp[valueAt,a7K,e']
     rw[IZ e,b];exact h2
   · have e':¬q.1=k:=fun z=>e (h1.trans z)
     have b:valueAt (q::qs) k=valueAt qs k:=by simp[valueAt,a7K,e']
     rw[J0 e,b];exact ih
theorem KV.any {kvs:List (κ×V)}{vs:List (κ×Value)}(r:KV kvs vs) (k:κ):(kvs.any fun kv=>decide (kv.1=k))=vs.any fun kv=>decide (kv.1=k):=by
 unfold KV at r
 induction r with
 | nil=>rfl
 | cons h t ih=>rw[a7V,a7V,ih,h.1]
theorem KV.repl {kvs:List (κ×V)}{vs:List (κ×Value)}(r:KV kvs vs) (k:κ) {y:V}{u:Value}(ry:RelV y u) :
   KV (kvs.map fun kv=>if kv.1=k then (kv.1,y) else kv) (vs.map fun kv=>if kv.1=k then (kv.1,u) else kv):=by
 unfold KV at r ⊢
 induction r with
 | nil=>exact .nil
 | @cons p q ps qs h t ih=>
   rw[zI,zI]
   refine .cons ?_ ih
   obtain⟨h1,h2⟩:=h
   by_cases e:p.1=k
   · rw[if_pos e,if_pos (h1.symm.trans e)];exact⟨h1,ry⟩
   · rw[if_neg e,if_neg (fun z=>e (h1.trans z))];exact⟨h1,h2⟩
theorem KV.put {kvs:List (κ×V)}{vs:List (κ×Value)}(r:KV kvs vs) (k:κ) {y:V}{u:Value}(ry:RelV y u):KV (F9 kvs k y) (stored vs k u):=by
 unfold F9 stored
 rw[r.any k]
 by_cases e:(vs.any fun kv=>decide (kv.1=k))=true
 · rw[if_pos e,if_pos e];exact r.repl k ry
 · rw[if_neg e,if_neg e];exact Paired.snoc r ⟨rfl,ry⟩
theorem KV.length {kvs:List (κ×V)}{vs:List (κ×Value)}(r:KV kvs vs):kvs.length=vs.length:=Paired.length r
end
theorem M9 {P:Program}{w:World}{k:Key}{u:Value}(r:RelV (kV k) u):(AR P w).is k u=true:=by
 cases k with
 | inl i=>obtain⟨t,e⟩:=(show ∃t,u=b8Q i t from r);subst e;exact QR P w i t
 | inr x=>obtain⟨t,e⟩:=(show ∃t,u=Value.str x t from r);subst e;exact KK P w x t
theorem OI {P:Program}{w:World}:∀{ks:List Key}{us:List Value},Vals (ks.map kV) us->ItemsAre (AR P w) ks us
 | [],_,r=>by rw[a5X] at r;cases r;exact .nil
 | k::ks,_,r=>by
   rw[zI] at r
   cases r with
   | cons h t=>exact .cons (M9 h) (OI t)
abbrev KT (H:Hp):List (List Key×V)->List (List Key×Addr×Value)->Prop:=Paired fun p q=>p.1=q.1/\H q.2.1=some (.tup (p.1.map kV))/\RelV p.2 q.2.2
theorem KT.val {H:Hp}{kvs:List (List Key×V)}{xs:List (List Key×Addr×Value)}(r:KT H kvs xs) (k:List Key):RelO (GO kvs k) ((atKey xs k).map (·.2)):=by
 induction r with
 | nil=>exact a8X
 | @cons p q ps qs h t ih=>
   obtain⟨h1,_,h2⟩:=h
   by_cases e:p.1=k
   · have e':q.1=k:=h1.symm.trans e
     have b:atKey (q::qs) k=some q.2:=by simp[atKey,a7K,e']
     rw[IZ e,b];exact h2
   · have e':¬q.1=k:=fun z=>e (h1.trans z)
     have b:atKey (q::qs) k=atKey qs k:=by simp[atKey,a7K,e']
     rw[J0 e,b];exact ih
theorem KT.repl {H:Hp}{kvs:List (List Key×V)}{xs:List (List Key×Addr×Value)}(r:KT H kvs xs) (k:List Key) {y:V}{u:Value}(ry:RelV y u) :
   KT H (kvs.map fun kv=>if kv.1=k then (kv.1,y) else kv) (xs.map (putAt k u)):=by
 induction r with
 | nil=>exact .nil
 | @cons p q ps qs h t ih=>
   rw[zI,zI]
   refine .cons ?_ ih
   obtain⟨h1,h2,h3⟩:=h
   unfold putAt
   by_cases e:p.1=k
   · rw[if_pos e,if_pos (h1.symm.trans e)];exact⟨h1,h2,ry⟩
   · rw[if_neg e,if_neg (fun z=>e (h1.trans z))];exact⟨h1,h2,h3⟩
theorem KT.put {H:Hp}{kvs:List (List Key×V)}{xs:List (List Key×Addr×Value)}(r:KT H kvs xs) (k:List Key) {b:Addr}{y:V}{u:Value}(hb:H b=some (.tup (k.map kV))) (ry:RelV y u) :
   KT H (F9 kvs k y) (storedH xs k b u):=by
 have e:(kvs.any fun kv=>decide (kv.1=k))=(atKey xs k).isSome:=by
   rw[QY,(r.val k).isSome_eq,Option.isSome_map]
 unfold F9 storedH
 rw[e]
 by_cases q:(atKey xs k).isSome=true
 · rw[if_pos q,if_pos q];exact r.repl k ry
 · rw[if_neg q,if_neg q];exact Paired.snoc r ⟨rfl,hb,ry⟩
theorem KT.keeps {H H':Hp}{kvs:List (List Key×V)}{xs:List (List Key×Addr×Value)}(r:KT H kvs xs) (ht:∀b ys,H b=some (.tup ys)->H' b=some (.tup ys)):KT H' kvs xs:=
 Paired.mapP r fun _ _ z=>⟨z.1,ht _ _ z.2.1,z.2.2⟩
section
variable {P:Program}{w:World}{H:Hp}{h:Heap}{a:Addr}
theorem fG {u:HO}(ok:HOk P w H h) (e:Rd H a u):ObjOk P w H h a u:=e.ok ok
theorem KM {kvs:List (Key×V)}(ok:HOk P w H h) (e:Rd H a (.dK kvs)):kvs.length<=sizeLine/\(a==sysModules)=false/\∃vs,KV kvs vs/\h.DictOf (AR P w) a vs:=
 show ObjOk P w H h a (.dK kvs) from fG ok e
theorem fH {kvs:List (Key×V)}(ok:HOk P w H h) (e:H a=some (.dK kvs)):kvs.length<=sizeLine/\(a==sysModules)=false/\∃vs,KV kvs vs/\h.DictOf (AR P w) a vs:=KM ok (.inl e)
theorem K2 {ks:List Key}(ok:HOk P w H h) (e:H a=some (.tup (ks.map kV))):(tupleKind (AR P w)).is h ks a:=by
 obtain⟨_,its,r,o,h1,h2,n,h3⟩:=(show ObjOk P w H h a (.tup (ks.map kV)) from ok a _ e)
 exact⟨o,its.toArray,n,h1,h2,h3,by simpa using OI r⟩
theorem OJ {kvs:List (List Key×V)}(ok:HOk P w H h) (e:Rd H a (.dT kvs)):kvs.length<=sizeLine/\(a==sysModules)=false /\
   ∃xs,KT H kvs xs/\h.DictOfH (tupleKind (AR P w)) a xs:=by
 obtain⟨z,y,xs,r,o,es,ep,h1,h2,h3,h4,h5⟩:=(show ObjOk P w H h a (.dT kvs) from fG ok e)
 refine⟨z,y,xs,r,o,es,ep,h1,h2,h3,h4,fun x hx=>?_,h5⟩
 have all:∀{l:List (List Key×V)}{m:List (List Key×Addr×Value)},KT H l m->∀x∈m,(tupleKind (AR P w)).is h x.1 x.2.1:=by
   intro l m q
   induction q with
   | nil=>intro x hx;exact nomatch hx
   | @cons p q ps qs hq t ih=>
     intro x hx
     rcases yX.mp hx with e | hx
     · subst e
       exact K2 ok (by rw[← hq.1];exact hq.2.1)
     · exact ih x hx
 exact all r x hx
theorem fI {kvs:List (List Key×V)}(ok:HOk P w H h) (e:H a=some (.dT kvs)):kvs.length<=sizeLine/\(a==sysModules)=false /\
   ∃xs,KT H kvs xs/\h.DictOfH (tupleKind (AR P w)) a xs:=OJ ok (.inl e)
end
def DGet (H:Hp) (a:Addr) (y:V) (r:Option V):Prop:=
 (∃kvs k,Rd H a (.dK kvs)/\y=kV k/\r=GO kvs k)∨∃kvs k b,Rd H a (.dT kvs)/\y = .ref b/\H b=some (.tup (k.map kV))/\r=GO kvs k
def DPut (H:Hp) (a:Addr) (y v:V) (H':Hp):Prop:=
 (∃kvs k,H a=some (.dK kvs)/\y=kV k/\kvs.length < sizeLine/\H'=upd H a (.dK (F9 kvs k v))) ∨
 ∃kvs k b,H a=some (.dT kvs)/\y = .ref b/\H b=some (.tup (k.map kV))/\kvs.length < sizeLine/\H'=upd H a (.dT (F9 kvs k v))
theorem DGet.t {H:Hp}{a b:Addr}{kvs:List (List Key×V)}{k:List Key}(e:H a=some (.dT kvs)) (eb:H b=some (.tup (k.map kV))):DGet H a (.ref b) (GO kvs k):=.inr ⟨kvs,k,b,.inl e,rfl,eb,rfl⟩
theorem DPut.t {H:Hp}{a b:Addr}{kvs:List (List Key×V)}{k:List Key}{v:V}(e:H a=some (.dT kvs)) (eb:H b=some (.tup (k.map kV))) (hl:kvs.length < sizeLine) :
   DPut H a (.ref b) v (upd H a (.dT (F9 kvs k v))):=.inr ⟨kvs,k,b,e,rfl,eb,hl,rfl⟩
section
variable {X:Cx}{pins:List (Addr×Obj)}{σ:St}{H:Hp}{s:Shared}{a:Addr}{y v:V}{u r:Value}{o:Option V}{A:Around}{E:Value->Shared->Prop}
theorem Inv.big (I:Inv X pins σ H s):sysModules < s.heap.objs.size:=by
 have h:mainGlobals < s.heap.objs.size:=(I.mod.glob.keeps I.bk).lt
 exact Nat.lt_trans (by decide) h
theorem WE {Q:Value->Shared->Prop}(hu:A.units+1 < cLine) (I:Inv X pins σ H s) (g:DGet H a y (some v)) (ry:RelV y u) (h:∀w' s',Inv X pins σ H s'->RelV v w'->Q w' s') :
   wpAny (model X.prog X.w) A (getItem (.ref a) u) Q E s:=by
 rcases g with ⟨kvs,k,e,ey,l⟩ | ⟨kvs,k,b,e,ey,eb,l⟩
 · subst ey
   obtain⟨z,hd,vs,rel,dd⟩:=KM I.hok e
   obtain⟨w',hw,rw'⟩:=RelO.some_of (v:=v) (o:=valueAt vs k) (by rw[l];exact rel.val k)
   exact wpAny_getItem_of (M9 ry) dd.mapOf hw (h w' _ (I.tok _) rw')
 · subst ey
   cases (show u=a0Z b from ry)
   obtain⟨z,hd,xs,rel,dd⟩:=OJ I.hok e
   obtain⟨w',hw,rw'⟩:=RelO.some_of (v:=v) (o:=(atKey xs k).map (·.2)) (by rw[l];exact rel.val k)
   obtain⟨p,hp,hp2⟩:=Option.map_eq_some_iff.mp hw
   refine wpAny_getItem_heap (tupleKind_room_in1 hu) (K2 I.hok eb) dd hp ?_
   rw[hp2]
   exact h w' _ (I.tok _) rw'
theorem m8 {Q:Value->Shared->Prop}(hu:A.units+1 < cLine) (I:Inv X pins σ H s) (g:DGet H a y o) (ry:RelV y u) (h:∀s',Inv X pins σ H s'->Q (.bool o.isSome) s') :
   wpAny (model X.prog X.w) A (compareOp .In u (.ref a)) Q E s:=by
 rcases g with ⟨kvs,k,e,ey,l⟩ | ⟨kvs,k,b,e,ey,eb,l⟩
 · subst ey
   obtain⟨z,hd,vs,rel,dd⟩:=KM I.hok e
   refine wpAny_in_of (M9 ry) hd dd.mapOf ?_
   rw[← (rel.val k).isSome_eq,← l]
   exact h _ (I.tok _)
 · subst ey
   cases (show u=a0Z b from ry)
   obtain⟨z,hd,xs,rel,dd⟩:=OJ I.hok e
   refine wpAny_in_heap (tupleKind_room_in1 hu) (K2 I.hok eb) hd dd ?_
   have q:=(rel.val k).isSome_eq
   rw[Option.isSome_map] at q
   rw[← q,← l]
   exact h _ (I.tok _)
theorem LJ {h':Heap}{t':Nat}{ob:HO}(I:Inv X pins σ H s) (mu:Mut (H a)) (hs:Heap.SameBut a s.heap h') (he:∃q,h'.get? a=some q) (new:ObjOk X.prog X.w (upd H a ob) h' a ob) :
   Inv X pins σ (upd H a ob) { s with heap:=h',toks:=t' }:=
 I.write (x:=a) (e:=a) mu (.inl rfl) (fun b q hb z=>(hs.2 b hb).trans z) he new
theorem XZ {P:Program}{w:World}{H':Hp}{h':Heap}{kvs:List (Key×V)}{vs:List (Key×Value)}(z:kvs.length<=sizeLine) (hd:(a==sysModules)=false) (rel:KV kvs vs) (dd:h'.DictOf (AR P w) a vs) :
   ObjOk P w H' h' a (.dK kvs):=⟨z,hd,vs,rel,dd⟩
theorem WF {H':Hp}{Q:Unit->Shared->Prop}(hu:A.units+1 < cLine) (I:Inv X pins σ H s) (g:DPut H a y v H') (ry:RelV y u) (rv:RelV v r) (h:∀s',Inv X pins σ H' s'->Q () s') :
   wpAny (model X.prog X.w) A (setItem (.ref a) u r) Q E s:=by
 rcases g with ⟨kvs,k,e,ey,l,eH⟩ | ⟨kvs,k,b,e,ey,eb,l,eH⟩
 · subst ey eH
   obtain⟨z,hd,vs,rel,dd⟩:=fH I.hok e
   have hz:vs.length<=sizeLine:=by rw[← rel.length];exact z
   have hl:(F9 kvs k v).length<=sizeLine:=by have:=GQ kvs k v;omega
   refine wpAny_setItem_pairs (hsz:=hz) (M9 ry) dd fun h' dd' hs=>h _ ?_
   have he:∃q,h'.get? a=some q:=let ⟨q,_,_,hq,_⟩:=dd';⟨q,hq⟩
   exact LJ I (by rw[e];exact a8X) hs he (XZ hl hd (rel.put k rv) dd')
 · subst ey eH
   cases (show u=a0Z b from ry)
   obtain⟨z,hd,xs,rel,dd⟩:=fI I.hok e
   have hz:xs.length<=sizeLine:=by rw[← Paired.length rel];exact z
   have hl:(F9 kvs k v).length<=sizeLine:=by have:=GQ kvs k v;omega
   refine wpAny_setItem_heap (hsz:=hz) (tupleKind_room_in1 hu) (K2 I.hok eb) dd fun h' dd' hs=>h _ ?_
   obtain⟨q,es,ep,hq,h2,h3,h4,_,h5⟩:=dd'
   refine LJ I (by rw[e];exact a8X) hs ⟨q,hq⟩ ⟨hl,hd,_,(rel.put k eb rv).keeps fun c ys ec=>?_,q,es,ep,hq,h2,h3,h4,h5⟩
   rw[AG (eQ ec e (fun z=>nomatch z))]
   exact ec
end
def kU (i:Expr):Prop:=∀ov iv,subscripted i false ov iv=operate [ov,iv] (getItem ov iv)
theorem bP {prog:Program}{w:World}{A:Around}{E:Value->Shared->Prop}{s:Shared}{env:Env}{value slice:Expr}{pos:Pos}{T id:String}{Q:Value->Shared->Prop}
   (hl:typeLookup (.type T) "__getitem__"=pure (some (.builtin id))) (hs:kU slice)
   (h:wpAny (model prog w) A (eval value env) (fun o s₁=>wpAny (model prog w) A (eval slice env) (fun i s₂=>s₂.TypeIs o T/\wpAny (model prog w) A (getItem o i) Q E s₂) E s₁) E s) :
   wpAny (model prog w) A (eval (.Subscript value slice pos) env) Q E s:=by
 refine Subscript_ (wpAny_mono h (fun o s₁ h₁=>wpAny_mono h₁ (fun i s₂ h₂=>?_) fun _ _ x=>x) fun _ _ x=>x)
 obtain⟨hT,h₂⟩:=h₂
 unfold subscriptTail
 refine zZ ?_
 rw[getitemInPython_of_ne hT.not_modules]
 refine zZ (wpAny_specialOf hT hl ?_)
 have fin:wpAny (model prog w) A (subscripted slice false o i) (fun r s₃=>wpAny (model prog w) A (letTemporaryGo value o r >>= fun _=>pure r) Q E s₃) E s₂:=by
   rw[hs o i]
   exact wpAny_operating (wpAny_mono h₂ (fun r s₃ h₃=>zZ (wpAny_letTemporaryGo (zY h₃))) fun _ _ x=>x)
 first
   | exact zY (zZ fin)
   | exact zZ (zY (zZ fin))
   | exact zZ fin
theorem QZ {X:Cx}{pins:List (Addr×Obj)}{σ:St}{H:Hp}{s:Shared}{a:Addr}{y:V}{o:Option V}(I:Inv X pins σ H s) (g:DGet H a y o):s.TypeIs (.ref a) "dict" := by
 rcases g with ⟨kvs,k,e,_,_⟩ | ⟨kvs,k,b,e,_,_,_⟩
 · obtain⟨_,_,vs,_,dd⟩:=KM I.hok e
   exact dd.typeIs
 · obtain⟨_,_,xs,_,dd⟩:=OJ I.hok e
   exact dd.typeIs
def fJ (td ty:TE):TE:=fun σ H Q=>td σ H fun x H1=>ty σ H1 fun y H2=>∃a v,x = .ref a/\DGet H2 a y (some v)/\Q v H2
def kW (ty td:TE):TE:=fun σ H Q=>ty σ H fun y H1=>td σ H1 fun x H2=>∃a o,x = .ref a/\DGet H2 a y o/\Q (.bl o.isSome) H2
def fK (td ty tv:TE):TS:=fun D σ H=>tv σ H fun v H1=>td σ H1 fun x H2=>ty σ H2 fun y H3=>∃a H4,x = .ref a/\DPut H3 a y v H4/\D.nx σ H4
section
variable {X:Cx}{o i e value:Expr}{pos pos' tpos:Pos}{td ty tv:TE}
theorem bQ (hu:X.A.units+1 < cLine) (ho:PE X o td) (hi:PE X i ty) (hs:kU i):PE X (.Subscript o i pos) (fJ td ty):=by
 intro pins s σ H Q I h
 refine bP PySem.F.slot_dict_getitem.lookup hs (thn (ho pins s σ H _ I h) fun u s1 ⟨x,H1,I1,rx,q1⟩=>thn (hi pins s1 σ H1 _ I1 q1) fun iv s2 ⟨y,H2,I2,ry,a,v,ex,g,q2⟩=>?_)
 subst ex
 obtain rfl:u=a0Z a:=rx
 exact⟨QZ I2 g,WE hu I2 g ry fun w' s3 I3 rw'=>⟨v,H2,I3,rw',q2⟩⟩
theorem T7 (hu:X.A.units+1 < cLine) (hi:PE X i ty) (ho:PE X o td):PC X .In i o (kW ty td):=by
 intro pins s σ H Q I h
 refine thn (hi pins s σ H _ I h) fun iv s1 ⟨y,H1,I1,ry,q1⟩=>thn (ho pins s1 σ H1 _ I1 q1) fun u s2 ⟨x,H2,I2,rx,a,ov,ex,g,q2⟩=>?_
 subst ex
 obtain rfl:u=a0Z a:=rx
 exact m8 hu I2 g ry fun s3 I3=>⟨.bl ov.isSome,H2,I3,rfl,q2⟩
theorem LK (hu:X.A.units+1 < cLine) (ho:PE X o td) (hi:PE X i ty) (hv:PE X value tv) (hs:swapsWith value (some (.Subscript o i pos')) pos.line X.env=pure false) :
   PS X (.Assign [.Subscript o i pos'] value pos) (fK td ty tv):=by
 intro pins s σ H D I h
 refine wpAny_Assign_Subscript (thn (hv pins s σ H _ I h) fun r s1 ⟨v,H1,I1,rv,q1⟩=>thn (ho pins s1 σ H1 _ I1 q1) fun u s2 ⟨x,H2,I2,rx,q2⟩=>thn (hi pins s2 σ H2 _ I2 q2) fun iv s3 ⟨y,H3,I3,ry,a,H4,ex,g,q3⟩=>?_) hs
 subst ex
 obtain rfl:u=a0Z a:=rx
 exact WF hu I3 g ry rv fun s4 I4=>⟨σ,H4,I4,q3⟩
end
theorem Y0 {P:Program}{w:World}{H:Hp}(h:Heap) (hb:sysModules < h.objs.size):ObjOk P w H (h.push { cls:=.type "dict", data:=.dict #[] }) h.objs.size (.dK []):=
 ⟨xR _,beq_eq_false_iff_ne.mpr (b5J (zC hb)),[],.nil,Heap.DictOf.new h⟩
theorem R0 {P:Program}{w:World}{H:Hp}(h:Heap) (hb:sysModules < h.objs.size):ObjOk P w H (h.push { cls:=.type "dict", data:=.dict #[] }) h.objs.size (.dT []):=
 ⟨xR _,beq_eq_false_iff_ne.mpr (b5J (zC hb)),[],.nil,_,#[],0,yZ _ rfl,⟨rfl,rfl,rfl⟩,rfl,rfl,List.nodup_nil⟩
def Y1:TE:=fun _ H Q=>∀p,H p=none->Q (.ref p) (upd H p (.dT []))
section
variable {X:Cx}{pos:Pos}
theorem Y2:PE X (.Dict [] [] pos) Y1:=fun pins s σ H Q I h=>
 wpAny_Dict_empty ⟨.ref s.heap.objs.size,_,I.laid (a:=s.heap.objs.size) (o:=.dT []) (t':=s.toks) (fun _ _ q=>zW _ q) (zR _) (R0 s.heap I.big),rfl,h _ (I.hok.fresh (zR _))⟩
end
def PB:List (TE×TE)->St->Hp->(List (V×V)->Hp->Prop)->Prop
 | [],_,H,Q=>Q [] H
 | (tk,tv)::r,σ,H,Q=>tk σ H fun x H1=>tv σ H1 fun y H2=>PB r σ H2 fun ps H3=>Q ((x,y)::ps) H3
abbrev VV:List (V×V)->List (Value×Value)->Prop:=Paired fun p q=>RelV p.1 q.1/\RelV p.2 q.2
def PPs (X:Cx) (pos:Pos) (keys:List (Option Expr)) (values:List Expr) (trs:List (TE×TE)):Prop:=
 ∀(pins:List (Addr×Obj)) (s:Shared) (σ:St) (H:Hp) (Q:List (V×V)->Hp->Prop),Inv X pins σ H s->PB trs σ H Q ->
   wpAny (model X.prog X.w) X.A (evalPairs (pairTrees keys values X.env pos)) (fun vs s'=>∃ps H',Inv X pins σ H' s'/\VV ps vs/\Q ps H') X.xe s
theorem J1 {X:Cx}{pos:Pos}:PPs X pos [] [] []:=fun pins s σ H Q I h=>pairTrees_nil_walk ⟨[],H,I,.nil,h⟩
theorem C0 {X:Cx}{pos:Pos}{k v:Expr}{ks:List (Option Expr)}{vs:List Expr}{tk tv:TE}{trs:List (TE×TE)}(hk:PE X k tk) (hv:PE X v tv) (hr:PPs X pos ks vs trs) :
   PPs X pos (some k::ks) (v::vs) ((tk,tv)::trs):=fun pins s σ H Q I h=>
 pairTrees_cons_walk (thn (hk pins s σ H _ I h) fun u s1 ⟨x,H1,I1,rx,q1⟩=>thn (hv pins s1 σ H1 _ I1 q1) fun w2 s2 ⟨y,H2,I2,ry,q2⟩=>
   thn (hr pins s2 σ H2 _ I2 q2) fun ws s3 ⟨ps,H3,I3,rel,q3⟩=>⟨(x,y)::ps,H3,I3,.cons ⟨rx,ry⟩ rel,q3⟩)
def GR (kvs more:List (Key×V)):List (Key×V):=more.foldl (fun acc kv=>F9 acc kv.1 kv.2) kvs
theorem KV.merge:∀{more:List (Key×V)}{rs:List (Key×Value)}{kvs:List (Key×V)}{vs:List (Key×Value)},KV more rs->KV kvs vs->KV (GR kvs more) (merged vs rs):=by
 intro more rs kvs vs r
 unfold KV at r
 induction r generalizing kvs vs with
 | nil=>intro q;exact q
 | @cons p q ps qs h t ih=>
   intro r0
   have e:KV (F9 kvs p.1 p.2) (stored vs q.1 q.2):=by
     have:=r0.put p.1 h.2
     rw[← h.1];exact this
   exact ih e
theorem HU:∀(more kvs:List (Key×V)),(GR kvs more).length<=kvs.length+more.length
 | [],kvs=>by show kvs.length<=kvs.length+0;omega
 | p::r,kvs=>by
   have h1:=HU r (F9 kvs p.1 p.2)
   have h2:=GQ kvs p.1 p.2
   show(GR (F9 kvs p.1 p.2) r).length<=_
   rw[b7K];omega
theorem MA {P:Program}{w:World}:∀{kvs:List (Key×V)}{ws:List (Value×Value)},VV (kvs.map fun kv=>(kV kv.1,kv.2)) ws->∃rs,Carries (AR P w) ws rs/\KV kvs rs
 | [],_,r=>by rw[a5X] at r;cases r;exact⟨[],a8X,.nil⟩
 | p::kvs,_,r=>by
   rw[zI] at r
   cases r with
   | @cons a b as bs h t=>
     obtain⟨rs,c,q⟩:=MA (P:=P) (w:=w) t
     obtain⟨b1,b2⟩:=b
     exact⟨(p.1,b2)::rs,⟨M9 h.1,rfl,c⟩,.cons ⟨rfl,h.2⟩ q⟩
def fL (trs:List (TE×TE)):TE:=fun σ H Q=>∀p,H p=none->PB trs σ (upd H p (.dK [])) fun ps H2=>H2 p=some (.dK [])/\∃kvs:List (Key×V),ps=kvs.map (fun kv=>(kV kv.1,kv.2))/\kvs.length<=15/\Q (.ref p) (upd H2 p (.dK (GR [] kvs)))
theorem LL {X:Cx}{pos:Pos}{keys:List (Option Expr)}{values:List Expr}{trs:List (TE×TE)}(h:PPs X pos keys values trs) (hall:keys.all (·.isSome)=true) (hl:keys.length=values.length) (h0:keys≠[])
   (h15:keys.length<=15):PE X (.Dict keys values pos) (fL trs):=by
 intro pins s σ H Q I q
 have hn:=I.hok.fresh (zR s.heap.objs.size)
 have I1:=I.laid (a:=s.heap.objs.size) (o:=.dK []) (h':=s.heap.push { cls:=.type "dict", data:=.dict #[] }) (t':=s.toks) (fun _ _ q=>zW _ q) (zR _) (Y0 s.heap I.big)
 refine wpAny_Dict_walk (knd:=AR X.prog X.w) hall hl h0 h15 (thn (h pins _ σ _ _ I1 (q _ hn)) fun ws s2 ⟨ps,H2,I2,rel,e,kvs,ep,lk,q2⟩=>?_)
 subst ep
 obtain⟨rs,c,rk⟩:=MA (P:=X.prog) (w:=X.w) rel
 obtain⟨z,hd,vs0,r0,dd⟩:=fH I2.hok e
 cases r0
 refine⟨rs,c,dd,fun h' dd' hs=>⟨.ref s.heap.objs.size,_,?_,rfl,q2⟩⟩
 have hz:(GR [] kvs).length<=sizeLine:=by
   have h1:=HU kvs []
   rw[List.length_nil] at h1
   rw[sizeLine_eq];omega
 have he:∃q,h'.get? s.heap.objs.size=some q:=let ⟨q,_,_,hq,_⟩:=dd';⟨q,hq⟩
 exact LJ I2 (by rw[e];exact a8X) hs he (XZ hz hd (rk.merge .nil) dd')
structure M1 (X:Cx) (o:Expr) (m:Str) (apos:Pos) (e:Expr) (cpos:Pos):Prop where
 base:attributeBase o m X.env (eval o X.env)=eval o X.env
 few:((backTo cpos (starEach [e] X.env)).all (fun x=>!x.1)&&(backToKw cpos (keywordEach [] X.env)).all (fun x=>x.1.isSome)
   && decide (([e]:List Expr).length+([]:List Keyword).length+(if ([]:List Keyword).isEmpty then 0 else 1) < 30))=true
 line:(apos.endLine==cpos.line)=true
 trees:backTo cpos (starEach [e] X.env)=[(false,eval e X.env)]
structure M2 (X:Cx) (o:Expr) (m:Str) (apos:Pos) (e f:Expr) (cpos:Pos):Prop where
 base:attributeBase o m X.env (eval o X.env)=eval o X.env
 few:((backTo cpos (starEach [e,f] X.env)).all (fun x=>!x.1)&&(backToKw cpos (keywordEach [] X.env)).all (fun x=>x.1.isSome)
   && decide (([e,f]:List Expr).length+([]:List Keyword).length+(if ([]:List Keyword).isEmpty then 0 else 1) < 30))=true
 line:(apos.endLine==cpos.line)=true
 trees:backTo cpos (starEach [e,f] X.env)=[(false,eval e X.env),(false,eval f X.env)]
def IsD (H:Hp) (a:Addr):Prop:=(∃kvs,Rd H a (.dK kvs))∨∃kvs,Rd H a (.dT kvs)
theorem iE {X:Cx}{pins:List (Addr×Obj)}{σ:St}{H:Hp}{s:Shared}{a:Addr}(I:Inv X pins σ H s) (d:IsD H a) :
   s.TypeIs (.ref a) "dict" /\ (∀b,a0Z a = .ref b->∃ob,s.heap.get? b=some ob/\ob.dict=none)/\(a==sysModules)=false:=by
 rcases d with ⟨kvs,e⟩ | ⟨kvs,e⟩
 · obtain⟨_,hd,vs,_,dd⟩:=KM I.hok e
   refine⟨dd.typeIs,fun b q=>?_,hd⟩
   cases q
   obtain⟨ob,_,_,h1,h2,_⟩:=dd
   exact⟨ob,h1,h2.2.1⟩
 · obtain⟨_,hd,xs,_,dd⟩:=OJ I.hok e
   refine⟨dd.typeIs,fun b q=>?_,hd⟩
   cases q
   obtain⟨ob,_,_,h1,h2,_⟩:=dd
   exact⟨ob,h1,h2.2.1⟩
section
variable {X:Cx}{pins:List (Addr×Obj)}{σ:St}{H:Hp}{s:Shared}{a:Addr}{y d:V}{u r:Value}{o:Option V}{A:Around}{E:Value->Shared->Prop}
theorem iF {Q:Value->Shared->Prop}(hu:A.units+1 < cLine) (I:Inv X pins σ H s) (g:DGet H a y o) (ry:RelV y u) (rd:RelV d r) (h:∀w' s',Inv X pins σ H s'->RelV (o.getD d) w'->Q w' s') :
   wpAny (model X.prog X.w) A (call (.builtin "dict.get") [.ref a,u,r]) Q E s:=by
 rcases g with ⟨kvs,k,e,ey,l⟩ | ⟨kvs,k,b,e,ey,eb,l⟩
 · subst ey
   obtain⟨z,hd,vs,rel,dd⟩:=KM I.hok e
   refine call_meetsIn a8J dd.typeIs b6V (PySem.F.args_dict_get_3 _ _ _) (meets_dict_get_default (AR X.prog X.w) a (M9 ry) hd r) ⟨_,dd.mapOf,h _ _ (I.tok _) ?_⟩
   rw[l]
   exact(rel.val k).getD rd
 · subst ey
   cases (show u=a0Z b from ry)
   obtain⟨z,hd,xs,rel,dd⟩:=OJ I.hok e
   refine call_meetsIn a8J dd.typeIs b6V (PySem.F.args_dict_get_3 _ _ _) (meetsH_dict_get_default (tupleKind (AR X.prog X.w)) a b hd r) ⟨tupleKind_room_in1 hu,k,xs,K2 I.hok eb,dd,h _ _ (I.tok _) ?_⟩
   rw[l]
   exact(rel.val k).getD rd
end
def Y3 (td ty tx:TE):TE:=fun σ H Q=>td σ H fun x H1=>∃a,x = .ref a/\IsD H1 a/\ty σ H1 fun y H2=>tx σ H2 fun z H3=>∃o,DGet H3 a y o/\Q (o.getD z) H3
section
variable {X:Cx}{o e f:Expr}{apos cpos:Pos}{td ty tx:TE}
theorem J2 (hu:X.A.units+1 < cLine) (ho:PE X o td) (he:PE X e ty) (hf:PE X f tx) (m:M2 X o "get" apos e f cpos):PE X (.Call (.Attribute o "get" apos) [e,f] [] cpos) (Y3 td ty tx):=by
 intro pins s σ H Q I h
 refine wpAny_Call_method m.base m.few m.line PySem.F.plainAttrs_dict a8J PySem.F.type_dict_get (thn (ho pins s σ H _ I h) fun u s1 ⟨x,H1,I1,rx,a,ex,d,q1⟩=>?_)
 subst ex
 obtain rfl:u=a0Z a:=rx
 obtain⟨t1,t2,_⟩:=iE I1 d
 refine⟨t1,t2,?_⟩
 rw[m.trees]
 refine b7J rfl (Calls.evalArgs_plain (xN (thn (he pins s1 σ H1 _ I1 q1) fun iv s2 ⟨y,H2,I2,ry,q2⟩=>
   xN (thn (hf pins s2 σ H2 _ I2 q2) fun fv s3 ⟨z,H3,I3,rz,ov,g,q3⟩=>Calls.spliced_nil ?_))))
 exact iF hu I3 g ry rz fun w' s4 I4 rw'=>⟨_,H3,I4,rw',q3⟩
end
end L2
namespace Att
open PySem PySem.W PySem.Calls PyProof.Rows
theorem L3 {P:Params}{h:Heap}:∀(ns:List Int) (vs:List Value),WellAll P h vs (ns.map WData.int)->IntsAre vs ns:=by
 intro ns
 induction ns with
 | nil=>
   intro vs w
   rw[a5X] at w
   cases w
   exact .nil
 | cons n ns ih=>
   intro vs w
   rw[zI] at w
   cases w with
   | cons a b=>
     cases a
     exact .cons _ _ (ih _ b)
theorem script_of {l:OpenLaw}{n:Nat}(hn:l.most=some n) {P:Params}{h:Heap}{args:List WData}{vals:List Value}
   (hpre:l.row.toRowW.claim.pre args=true) (hwl:WellAll P h vals args) :
   ∃a vs ns,vals=[a0Z a]/\args=[WData.list (ns.map WData.int)]/\h.get? a=some { cls:=.type "list", data:=.seq vs.toArray }/\IntsAre vs ns/\ns.length<=n:=by
 have hsh:WShape.hasAll [] args [.list .int]=true:=(pre_splitW hpre).1
 have hc:l.pre.holds [] { args:=args }=true:=(pre_splitW hpre).2
 obtain⟨d,r,rfl,h1,h2⟩:=hasAllW_cons hsh
 obtain rfl:=hasAllW_nil h2
 obtain⟨xs,rfl,h3⟩:=hasW_list h1
 obtain⟨ns,rfl⟩:=items_int h3
 have hlen:ns.length<=n:=by
   unfold OpenLaw.pre at hc
   have h4:(WTm.not (.lt (.lit (.int (n:Int))) (.len (.arg 0)))).holds [] { args:=[.list (ns.map .int)] }=true:=by
     have h4:=(holds_andW hc).1
     rw[hn] at h4
     exact h4
   have h5:=condW_of h4 (w_not (w_lt w_lit (w_len_list (w_arg rfl))))
   rw[zX] at h5
   refine Nat.le_of_not_lt fun q=>?_
   have q':(n:Int) < ((ns.length:Nat):Int):=by omega
   first
     | (rw[decide_eq_true q'] at h5;exact absurd h5 (by decide))
     | (simp at h5;omega)
 cases hwl with
 | cons w1 w2=>
   cases w2
   cases w1 with
   | list ho hall=>exact⟨_,_,ns,rfl,rfl,ho,L3 ns _ hall,hlen⟩
theorem post_true (l:OpenLaw) (args:List WData):l.row.toRowW.claim.post args (.bool true) args=true:=
 postW_of (r:=l.row.toRowW) (X:=(true==true))
   (show WShape.has [] (.bool true) .bool=true by first | rfl | decide | simp[WShape.has,WShape.arms,WShape.armsAll])
   (show(WTm.eq .res (.lit (.bool true))).value [] { args:=args,res:=some (.bool true),after:=args }=some (.bool (true==true)) from w_eq_bool (w_res rfl) w_lit) rfl
end Att
namespace L2
open PySem PySem.Spec PyProof.Rows
theorem OK:∀{vs:List Value}{ns:List Int},IntsAre vs ns->Vals (ns.map V.int) vs
 | _,_,.nil=>.nil
 | _,_,.cons n t h=>.cons ⟨t,rfl⟩ (OK h)
def iG (H:Hp):Prop:=∀b,H b=none∨∃o xs,H b=some (.frz o (.lst xs))
theorem Y4 {P:Program}{w:World}{K:Frg}{mg mb:Str->Option Value}{CX:CXT}{k:Nat}{fa a:Addr}{fd:FuncData}{x:Str}{sp:Sp}{s₁:Shared}{vs:List Value}{ns:List Int}
   (KX:K.In s₁.heap) (hns:s₁.heap.Ns mainGlobals mg) (hb:s₁.heap.Ns builtinsNs mb) (hbb:∀x:Str,x ≠ "__name__" -> mb x=bootBuiltins x) (hlim:s₁.heap.NoLimit) (hg:s₁.gens=#[])
   (ha:s₁.heap.get? a=some { cls:=.type "list", data:=.seq vs.toArray }) (hi:IntsAre vs ns) (hl:ns.length<=sizeLine) (hr:Room k callerA)
   (F:∀base:Heap,K.In base->base.Ns mainGlobals mg->FnOk P w K mg base CX k fa fd [x] sp) (hbind:∀(s:Shared) (u:Value),BindsTo s fd ⟨[u],[]⟩ [(x,u)])
   (hsp:∀H:Hp,iG H->SqL K H a (ns.map V.int)->sp [.ref a] H (fun v _=>v = .bl true) fun _ _ _=>False)
   (hCX:∀H e s',CX [] H s₁ (fun _ _ _=>False) e s'->False) :
   codeAny (model P w) callerA (.call (.ref fa) ⟨[.ref a],[]⟩) (fun r s'=>r = .ok (.ret (.bool true))/\OldK s₁.heap s'.heap/\s'.os=s₁.os/\AllBare s'.gens) s₁:=by
 have rv:=OK hi
 have lenV:=hi.length
 have core:∀H:Hp,iG H->SqL K H a (ns.map V.int)->HOk P w H s₁.heap->(∀b,H b≠none->b=a)->(H a≠none->K.lookup a=none) ->
     codeAny (model P w) callerA (.call (.ref fa) ⟨[.ref a],[]⟩) (fun r s'=>r = .ok (.ret (.bool true))/\OldK s₁.heap s'.heap/\s'.os=s₁.os/\AllBare s'.gens) s₁:=by
   intro H hO hS hok hA hK
   have base_of:∀{b:Addr}{o:Obj},s₁.heap.get? b=some o->H b=none->(P3 s₁.heap H).get? b=some o:=fun e n=>XM e n
   have noA:∀{b:Addr}{o:Obj}{es:Array DictEntry}{ep:Nat},s₁.heap.get? b=some o->o.data = .dict es ep->H b=none:=fun {b o es ep} e d=>by
     cases q:H b with
     | none=>rfl
     | some u=>
       have e':b=a:=hA b (by rw[q];simp)
       subst e'
       rw[ha] at e;cases e
       have d':Data.seq vs.toArray _=Data.dict es ep:=d
       cases d'
   have nsK:∀{b:Addr}{m:Str->Option Value},s₁.heap.Ns b m->(P3 s₁.heap H).Ns b m:=fun {b m} ⟨o,es,ep,e,d,r⟩=>⟨o,es,ep,base_of e (noA e d),d,r⟩
   have hKb:K.In (P3 s₁.heap H):=fun b o e=>base_of (KX b o e) (by
     cases q:H b with
     | none=>rfl
     | some u=>
       have e':b=a:=hA b (by rw[q];simp)
       subst e'
       rw[hK (by rw[q];simp)] at e;cases e)
   have hM:Mod K mg (P3 s₁.heap H):=⟨hKb,nsK hns,⟨mb,nsK hb,hbb⟩,let ⟨mc,h1,h2⟩:=hlim;⟨mc,nsK h1,h2⟩⟩
   have e0:Env0 P w K mg (P3 s₁.heap H) callerA [] s₁ H:=⟨rfl,hM,fun b o e=>bC e,Nat.le_of_eq (W0 _ _),trivial,fun b hb=>absurd (show b∈([]:List Addr) from hb) (by simp),hok,.of_eq hg⟩
   refine codeAny_mono ((F _ hKb (nsK hns)).run callerA [] s₁ H ⟨[.ref a],[]⟩ [.ref a] [.ref a] _ _ hr e0 (hbind s₁ (.ref a)) (.cons rfl .nil) (hsp H hO hS)) fun r s' h=>?_
   cases r with
   | error e=>exact(hCX H e s' h).elim
   | ok fl=>
     cases fl with
     | next=>exact b0K h
     | brk=>exact b0K h
     | cont=>exact b0K h
     | ret u=>
       obtain⟨v,H',os,bare,un,hok',r',q⟩:=h
       have q':v = .bl true:=q
       subst q'
       obtain rfl:u=Value.bool true:=r'
       refine⟨rfl,OldK.of_keep fun b o e=>?_,os,bare⟩
       cases q:H b with
       | none=>exact un.keep b o e q (by intro z;exact absurd (show b∈([]:List Addr) from z) (by simp)) (by simp)
       | some u=>
         rcases hO b with z | ⟨ob,xs,z⟩
         · rw[q] at z;cases z
         · have z2:=un.frzs b ob _ z
           obtain⟨e1,_⟩:=hok b _ z
           obtain⟨e2,_⟩:=hok' b _ z2
           rw[e] at e1;cases e1
           exact e2
 cases hk:K.lookup a with
 | some o=>
   have e:=KX a o hk
   rw[ha] at e
   cases e
   refine core (fun _=>none) (fun _=>.inl rfl) (.inr ⟨_,vs.toArray,_,hk,rfl,rfl,rfl,by rw[zJ,lenV];exact hl,by simpa using rv⟩) (fun b u z=>by have z':(none:Option HO)=some u:=z;cases z') (fun b z=>absurd rfl z) fun z=>absurd rfl z
 | none=>
   refine core (fun b=>if b=a then some (.frz { cls:=.type "list", data:=.seq vs.toArray } (.lst (ns.map V.int))) else none) (fun b=>?_) (.inl (.inr ⟨{ cls:=.type "list", data:=.seq vs.toArray },if_pos rfl⟩)) (fun b u z=>?_) (fun b z=>?_) fun _=>hk
   · by_cases hb:b=a
     · exact .inr ⟨_,_,if_pos hb⟩
     · exact .inl (if_neg hb)
   · by_cases hb:b=a
     · have z':=(if_pos hb).symm.trans z
       cases z'
       subst hb
       exact⟨ha,by rw[zX];exact hl,vs,_,rv,ha⟩
     · have z':=(if_neg hb).symm.trans z
       cases z'
   · by_cases hb:b=a
     · exact hb
     · exact absurd (if_neg hb) z
def E3 (s:Stmt):Arguments:=match s with
 | .FunctionDef _ a _ _ _ _ _ _ _ _=>a
 | _=>{ posonlyargs:=[],args:=[],vararg:=none,kwonlyargs:=[],kw_defaults:=[],kwarg:=none,defaults:=[] }
def CP (s:Stmt):List Stmt:=match s with
 | .FunctionDef _ _ b _ _ _ _ _ _ _=>b
 | _=>[]
def AC (s:Stmt):Scope:=match s with
 | .FunctionDef _ _ _ _ _ _ sc _ _ _=>sc
 | _=>{ kind:=.function,names:=[],isGenerator:=false,isCoroutine:=false }
abbrev CX0:CXT:=fun _ _ _ _ _ _=>False
abbrev E0:XK:=fun _ _ _=>False
theorem kX {X:Cx}:T2 CX0 X E0:=fun _ _ _ _ _ _ _ h=>h.elim
structure Fun (K:Frg) (x qual:Str) (st:Stmt) (f:Addr) (fd:FuncData):Prop where
 ex:∃(oc:Value) (od:Option Addr) (kV doc pm:Value) (an:Option Addr) (cdv ct:Value) (osl:Array (Option Value)),
   fd=a7Q x qual (E3 st) (CP st) (AC st) .none kV doc pm an cdv ct/\K.lookup f=some ⟨oc,od,.func fd,osl⟩/\b4W K cdv qual=true
 kp:a9K K (.ref f)=true
section
variable {P:Program}{w:World}{K:Frg}{mg:Str->Option Value}{base:Heap}
theorem Fun.ok {x qual:Str}{st:Stmt}{f:Addr}{fd:FuncData}{N ps:List Str}{k:Nat}{sp:Sp}(F:Fun K x qual st f fd) (S:FnScope N ps (AC st)) (len:∀vs H Q E,sp vs H Q E->vs.length=ps.length)
   (hbody:∀(cdv:Value) (A:Around) (outer:List Env) (s:Shared) (H:Hp) (vs:List V) (Q:VK) (E:XK),Room k (A.deeper (envOfC qual (AC st) s.heap.objs.size f cdv))->sp vs H Q E ->
     ∃t,PSs (T3 CX0 P w K mg base N qual (AC st) f cdv A outer s H E).nox (CP st) t/\t { nx:=fun _ H'=>Q .non H',rt:=Q } (start N vs) H):FnOk P w K mg base CX0 (k+1) f fd ps sp:=by
 obtain⟨oc,od,kV,doc,pm,an,cdv,ct,osl,rfl,lk,hcd⟩:=F.ex
 refine kS lk hcd S len fun A outer s H vs Q E hr hsp=>?_
 obtain⟨t,h,q⟩:=hbody cdv A outer s H vs Q E hr hsp
 exact⟨t,h.nox,q⟩
theorem Fun.binds {x qual:Str}{st:Stmt}{f:Addr}{fd:FuncData}{ps:List Str}(F:Fun K x qual st f fd)
   (h:∀(kV doc pm:Value) (an:Option Addr) (cdv ct:Value) (us:List Value),us.length=ps.length->bindArgs (a7Q x qual (E3 st) (CP st) (AC st) .none kV doc pm an cdv ct) ⟨us,[]⟩=pure (ps.zip us)):Binds K fd ps []:=by
 obtain⟨oc,od,kV,doc,pm,an,cdv,ct,osl,rfl,lk,hcd⟩:=F.ex
 exact .all (h kV doc pm an cdv ct)
theorem iH {x qual:Str}{st:Stmt}{f:Addr}{oc:Value}{od an:Option Addr}{osl:Array (Option Value)}{kV doc pm cdv ct:Value}(l:K.lookup f=some ⟨oc,od,.func (a7Q x qual (E3 st) (CP st) (AC st) .none kV doc pm an cdv ct),osl⟩)
   (c:b4W K cdv qual=true) (k:a9K K (.ref f)=true):Fun K x qual st f (a7Q x qual (E3 st) (CP st) (AC st) .none kV doc pm an cdv ct):=⟨⟨oc,od,kV,doc,pm,an,cdv,ct,osl,rfl,l,c⟩,k⟩
end
section
variable {X:Cx}
theorem pv (i:Nat) {x:Str}{pos:Pos}(hN:X.N[i]?=some x:=by rfl) (hv:Vis X.env.scope x:=by first | exact Or.inl rfl | exact Or.inr (Or.inl rfl) | exact Or.inr (Or.inr rfl)) (hd:(x==("__debug__":Str))=false:=by decide)
   (hcd:(x==("__classdict__":Str))=false:=by decide):PE X (.Name x pos) (bD i):=XN hN hv hd hcd
end
theorem iI {A B:Prop}(h:B):if false=true then A else B:=by
 rw[if_neg nft]
 exact h
theorem iJ {A B:Prop}(h:A):if true=true then A else B:=by
 rw[if_pos rfl]
 exact h
theorem kY {c A B:Prop}[Decidable c] (h1:c->A) (h2:¬c->B):if c then A else B:=by
 by_cases h:c
 · rw[if_pos h]
   exact h1 h
 · rw[if_neg h]
   exact h2 h
end L2
namespace L2
open PySem PySem.Spec PyProof.Rows
def K3 (cells:List (Str×Addr)):List (Str×NameKind)->List (Str×Addr)->List (Str×Addr)
 | [],cs=>cs
 | (n,k)::r,cs=>K3 cells r (if k==.free then (match cells.lookup n with | some c=>(n,c)::cs | none=>cs) else cs)
theorem PD (env:Env):∀(names:List (Str×NameKind)) (cs:List (Str×Addr)),(∀y∈names,y.2 = .free->∃c,env.cells.lookup y.1=some c) ->
   (forIn (m:=Sem) names cs fun x r=>do
     let (name,kind):=x
     if (kind==.free)=true then do let c ← cellOf env name;pure (b0Z ((name,c)::r)) else pure (b0Z r))=pure (K3 env.cells names cs)
 | [],cs,_=>rfl
 | (n,k)::r,cs,h=>by
   have hr:∀y∈r,y.2 = .free->∃c,env.cells.lookup y.1=some c:=fun y hy=>h y (yV _ hy)
   rw[b4Z]
   by_cases hk:(k==a6J)=true
   · obtain⟨c,hc⟩:=h (n,k) a3Z (by simpa using hk)
     have hc':env.cells.lookup n=some c:=hc
     simp only[hk,if_true,cellOf,hc',K3]
     exact PD env r _ hr
   · simp only[hk,if_false,K3]
     exact PD env r _ hr
theorem bR {scope:Scope}{env:Env}(h:∀y∈scope.names,y.2 = .free->∃c,env.cells.lookup y.1=some c):closureFor scope env=pure (K3 env.cells scope.names []):=by
 have e:=PD env scope.names [] h
 have e2:closureFor scope env=((forIn (m:=Sem) scope.names ([]:List (Str×Addr)) fun x r=>do
     let (name,kind):=x
     if (kind==.free)=true then do let c ← cellOf env name;pure (b0Z ((name,c)::r)) else pure (b0Z r)) >>= fun r=>pure r):=rfl
 rw[e2,e]
 rfl
theorem R5 {cells:List (Str×Addr)}:∀{names:List (Str×NameKind)}{cs:List (Str×Addr)},(∀p∈cs,cells.lookup p.1=some p.2)->∀p∈K3 cells names cs,cells.lookup p.1=some p.2
 | [],_,h=>h
 | (n,k)::r,cs,h=>by
   refine R5 (names:=r) ?_
   split
   · cases e:cells.lookup n with
     | none=>exact h
     | some c=>
       intro p hp
       rcases yX.mp hp with rfl | hp
       · exact e
       · exact h p hp
   · exact h
theorem OL {cells:List (Str×Addr)}:∀{names:List (Str×NameKind)}{cs:List (Str×Addr)}{p:Str×Addr},p∈cs->p∈K3 cells names cs
 | [],_,_,h=>h
 | (n,k)::r,cs,p,h=>by
   refine OL (names:=r) ?_
   split
   · cases e:cells.lookup n with
     | none=>exact h
     | some c=>exact yV _ h
   · exact h
theorem R6 {cells:List (Str×Addr)}{x:Str}{c:Addr}(hc:cells.lookup x=some c):∀{names:List (Str×NameKind)}{cs:List (Str×Addr)},(x,a6J)∈names->(x,c)∈K3 cells names cs
 | [],_,h=>absurd h (by simp)
 | (n,k)::r,cs,h=>by
   rcases yX.mp h with e | h
   · cases e
     refine OL (names:=r) ?_
     simp[hc]
   · exact R6 hc (names:=r) h
theorem MB {α:Type}:∀{l:List (Str×α)}{x:Str}{c:α},(x,c)∈l->∃c',l.lookup x=some c'
 | [],_,_,h=>absurd h (by simp)
 | (n,k)::r,x,c,h=>by
   rw[a2X]
   cases e:x==n with
   | true=>exact⟨k,rfl⟩
   | false=>
     rcases yX.mp h with e' | h
     · cases e';simp at e
     · exact MB h
theorem C6 {cells:List (Str×Addr)}{names:List (Str×NameKind)}{x:Str}{c:Addr}(h:(K3 cells names []).lookup x=some c):cells.lookup x=some c:=
 R5 (names:=names) (cs:=[]) (by simp) (x,c) (a4J h)
structure CSc (X:Cx) (scope:Scope) (NC:List Str) (fr:List (Option Nat)):Prop where
 kind:scope.kind = .function
 nocell:∀y∈scope.names,y.2≠.cell
 names:∀y∈scope.names,y.2 = .local->scope.names.lookup y.1=some .local
 free:∀y∈scope.names,y.2 = .free->X.env.kindOf y.1=some .cell∨X.env.kindOf y.1=some .free
 len:fr.length=NC.length
 slot:∀(i j:Nat) (x:Str),NC[i]?=some x->fr[i]?=some (some j)->X.N[j]?=some x/\scope.names.lookup x=some .free/\Vis X.env.scope x/\X.env.kindOf x≠some .local
def capt (fr:List (Option Nat)) (σ:St):St:=fr.map fun o=>o.bind fun j=>(σ[j]?).join
def C7 (X:Cx) (scope:Scope) (NC:List Str) (C:Addr) (s:Shared) (H:Hp) (ex:List Addr) (pn:List (Addr×Obj)):Cx where
 prog:=X.prog
 w:=X.w
 K:=X.K
 mg:=X.mg
 base:=X.base
 A:=X.A
 N:=NC
 s₀:=s
 H₀:=H
 env:=compEnvC scope (K3 X.env.cells scope.names []) C X.env
 outer:=X.stack
 stack:=X.stack
 ex:=ex
 fn:=fun _=>false
 calm:=X.calm
 pn:=pn
 xe:=fun _ _=>False
theorem HV {scope:Scope}{env:Env}{x:Str}:∀{names:List (Str×NameKind)},
   ((names.map fun(n,k)=>if (k==a6J&&env.scope.kind==.function&&env.kindOf n==some .cell) then (n,NameKind.cell) else (n,k)).lookup x=some .cell ∨
    (names.map fun(n,k)=>if (k==a6J&&env.scope.kind==.function&&env.kindOf n==some .cell) then (n,NameKind.cell) else (n,k)).lookup x=some .free) ->
   (∀y∈names,y.2≠.cell)->(x,a6J)∈names
 | [],h,_=>by simp at h
 | (n,k)::r,h,hn=>by
   have ih:=@HV scope env x r
   have hn':∀y∈r,y.2≠.cell:=fun y hy=>hn y (yV _ hy)
   have hk:=hn (n,k) a3Z
   simp only[zI] at h
   by_cases hc:(k==a6J&&env.scope.kind==.function&&env.kindOf n==some .cell)=true
   · simp only[hc,if_true,a2X] at h
     cases hx:x==n with
     | true=>
       have e:x=n:=by simpa using hx
       have e2:k = .free:=by simp at hc;exact hc.1.1
       subst e e2
       exact a3Z
     | false=>
       simp only[hx] at h
       exact yV _ (ih h hn')
   · simp only[hc,a2X] at h
     cases hx:x==n with
     | true=>
       have e:x=n:=by simpa using hx
       subst e
       simp[a2X] at h
       rcases h with h | h
       · exact absurd h hk
       · subst h;exact a3Z
     | false=>
       simp[a2X,hx] at h
       exact yV _ (ih (by simpa using h) hn')
section
variable {X:Cx}{scope:Scope}{NC:List Str}{fr:List (Option Nat)}{pins:List (Addr×Obj)}{σ:St}{H:Hp}{s:Shared}
theorem CSc.has (S:CSc X scope NC fr) (ok:X.Ok):∀y∈scope.names,y.2 = .free->∃c,X.env.cells.lookup y.1=some c:=fun y hy hf=>ok.has y.1 (S.free y hy hf)
theorem CSc.cells (S:CSc X scope NC fr) (ok:X.Ok) {x:Str}(h:(x,a6J)∈scope.names):∃c,(K3 X.env.cells scope.names []).lookup x=some c/\X.env.cells.lookup x=some c:=by
 obtain⟨c,hc⟩:=S.has ok _ h rfl
 have hc':X.env.cells.lookup x=some c:=hc
 obtain⟨c',h'⟩:=MB (R6 hc' h (cs:=[]))
 have:=C6 h'
 rw[hc'] at this;cases this
 exact⟨_,h',hc'⟩
theorem PF {env:Env}{x:Str}{scope:Scope}(hn:∀y∈scope.names,y.2 = .local->scope.names.lookup y.1=some .local) (h:(x,a6J)∈scope.names) (hl:scope.names.lookup x≠some .free->False):(relabel scope env).names.lookup x=some .cell∨(relabel scope env).names.lookup x=some .free:=by
 have hf:scope.names.lookup x=some .free:=by
   cases e:scope.names.lookup x with
   | none=>exact(hl (by rw[e];intro z;cases z)).elim
   | some k=>
     cases k <;> first
       | rfl
       | exact(hl (by rw[e];intro z;cases z)).elim
 have go:∀(names:List (Str×NameKind)),names.lookup x=some .free ->
   ((names.map fun(n,k)=>if (k==a6J&&env.scope.kind==.function&&env.kindOf n==some .cell) then (n,NameKind.cell) else (n,k)).lookup x=some .cell ∨
    (names.map fun(n,k)=>if (k==a6J&&env.scope.kind==.function&&env.kindOf n==some .cell) then (n,NameKind.cell) else (n,k)).lookup x=some .free):=by
   intro names
   induction names with
   | nil=>intro h;simp at h
   | cons y r ih=>
     obtain⟨n,k⟩:=y
     intro h
     rw[a2X] at h
     simp only[zI]
     cases hx:x==n with
     | true=>
       simp only[hx] at h
       cases h
       split
       · left;simp[a2X,hx]
       · right;simp[a2X,hx]
     | false=>
       simp only[hx] at h
       have:=ih h
       split
       · simpa [a2X,hx] using this
       · simpa [a2X,hx] using this
 exact go scope.names hf
end
end L2
namespace L2
open PySem PySem.Spec PyProof.Rows
theorem D7 {α:Type}{t:Sem α}{Q:α->Shared->Prop}{M:Model}{A:Around}{E:Value->Shared->Prop}{s:Shared}(h:wpAny M A t Q (fun _ _=>False) s):wpAny M A t Q E s:=
 wpAny_mono h (fun _ _ q=>q) fun _ _ f=>f.elim
def MC (ifs:List Expr) (env:Env):Sem Bool:=forIn ifs true fun c r=>if r=true then do let ok ← isTrue c env (eval c env);pure (b0Z ok) else pure (b0Z r)
def Y5 (prog:Program) (w:World) (A:Around) (cE target:Expr) (ifs:List Expr) (tl:Env->Addr->(Shared->Prop)->Shared->Prop):Prop:=
 ∀(it D:Addr) (env:Env) (R:Result->Shared->Prop) (I:Nat->Shared->Prop),(∀n s,I n s->wpAny (model prog w) A (pyNext (.ref it)) (fun r s₁=>match r with
     | none=>R (.ok .next) s₁
     | some v=>wpAny (model prog w) A (letOwnedTupleGo target (.ref it) v) (fun _ s₀=>wpAny (model prog w) A (assign target env v) (fun _ s₂=>
         wpAny (model prog w) A (MC ifs env) (fun ok s₃=>if ok=true then tl env D (fun s'=>∃m,m < n/\I m s') s₃ else ∃m,m < n/\I m s₃) (fun _ _=>False) s₂) (fun _ _=>False) s₀) (fun _ _=>False) s₁) (fun _ _=>False) s) ->
   ∀n s,I n s->codeAny (model prog w) A (.compLoop cE 0 (.ref it) (.ref D) env) R s
def tlL (prog:Program) (w:World) (A:Around) (elt:Expr):Env->Addr->(Shared->Prop)->Shared->Prop:=fun env D P s=>wpAny (model prog w) A (eval elt env) (fun x s₄=>wpAny (model prog w) A (call (.builtin "list.append") [.ref D,x]) (fun _ s₅=>P s₅) (fun _ _=>False) s₄) (fun _ _=>False) s
theorem bS {prog:Program}{w:World}{A:Around}{elt target iter:Expr}{ifs:List Expr}{scope:Scope}{pos:Pos}:Y5 prog w A (.ListComp elt [⟨target,iter,ifs,0⟩] scope pos) target ifs (tlL prog w A elt):=by
 intro it D env R I turn n s h
 refine codeAny_loop rfl I (fun n s hI=>?_) n h
 show wpAny _ A ((compTurn (.ListComp elt [⟨target,iter,ifs,0⟩] scope pos) 0 (.ref it) (.ref D) env).onRaise (fun x=>do noteFrame x env;theTreesLotGoes x)) _ _ s
 refine wpAny_noted ?_
 rw[compTurn_list]
 refine zZ (wpAny_standAt (zZ (wpAny_mono (D7 (turn n s hI)) (fun r s₁ h₁=>?_) fun _ _ h'=>h')))
 cases r with
 | none=>exact zY h₁
 | some v=>
   refine zZ (wpAny_mono (D7 h₁) (fun _ s₀ h₀=>?_) fun _ _ h'=>h')
   refine zZ (wpAny_mono (D7 h₀) (fun _ s₂ h₂=>zZ (wpAny_mono (D7 h₂) (fun ok s₃ h₃=>?_) fun _ _ h'=>h')) fun _ _ h'=>h')
   cases ok with
   | false=>exact zY ⟨rfl,h₃⟩
   | true=>
     exact zZ (zZ (wpAny_mono (D7 h₃) (fun x s₄ h₄=>zZ (wpAny_mono (D7 h₄) (fun _ s₅ h₅=>zY (zY ⟨rfl,h₅⟩)) fun _ _ h'=>h')) fun _ _ h'=>h'))
def PTs (X:Cx) (ifs:List Expr) (t:TT):Prop:=
 ∀(pins:List (Addr×Obj)) (s:Shared) (σ:St) (H:Hp) (Q:Bool->Hp->Prop),Inv X pins σ H s->t σ H Q->wpAny (model X.prog X.w) X.A (MC ifs X.env) (TP X pins σ Q) X.xe s
def kZ:TT:=fun _ H Q=>Q true H
theorem bT {X:Cx}:PTs X [] kZ:=fun _ _ _ H _ I h=>wpAny_tests_nil ⟨H,I,h⟩
theorem bU {X:Cx}{c:Expr}{t:TT}(h:PT X c t):PTs X [c] t:=fun pins s σ H Q I q=>wpAny_tests_one (h pins s σ H Q I q)
def R7 (fr:List (Option Nat)) (wi:TI) (g:TG) (tt:TT) (te:TE):TE:=fun σ H Q=>wi σ H fun J H1=>∀D,H1 D=none->∃W:Nat->Nat->List V->Hp->Prop,(∃m,W 0 m [] (upd H1 D (.lst []))) /\
 ∀i m ys H2,W i m ys H2->H2 D=some (.lst ys)/\((J.stop i H2/\Q (.ref D) H2)∨(J.go i H2/\∀x H3,J.yld i H2 x H3->g x (capt fr σ) H3 fun σ2 H4=>
   (∀(i:Nat) v,(capt fr σ)[i]?=some (some v)->σ2[i]?=some (some v))/\tt σ2 H4 fun c H5=>if c=true then te σ2 H5 fun y H6=>∃ys',H6 D=some (.lst ys')/\ys'.length < sizeLine/\∃m',m' < m/\W (i+1) m' (ys'++[y]) (upd H6 D (.lst (ys'++[y])))
     else ∃ys' m',m' < m/\W (i+1) m' ys' H5))
section
variable {X:Cx}{scope:Scope}{NC:List Str}{fr:List (Option Nat)}{pins:List (Addr×Obj)}{σ:St}{H:Hp}{s:Shared}
theorem T8 {fp:List Addr}{h1:Heap}{m:Str->Option Value}{tk:Nat}(S:CSc X scope NC fr) (I:Inv X pins σ H s) (hfp:∀b∈fp,L1 X pins H b) (hlt:∀b∈fp,b < s.heap.objs.size)
   (hns:h1.Ns s.heap.objs.size m) (hk:∀b o,s.heap.get? b=some o->h1.get? b=some o) :
   Inv (C7 X scope NC s.heap.objs.size s H fp (X.pn++pins)) [] (capt fr σ) H { s with heap:=h1,toks:=tk }:=by
 have I4:Inv X pins σ H { s with heap:=h1,toks:=tk }:=I.kept hk
 have nstk:∀b,b≠X.env.locals->b∉X.fs->b∉frs X.stack:=fun b h1 h2 z=>(yX.mp (I.stkSub b z)).elim h1 h2
 refine⟨⟨I.ok.mod,S.kind,I.ok.glob,I.ok.blt,zR _,fun x y c h1 h2=>I.ok.inj x y c (C6 h1) (C6 h2),fun x hx=>?_,fun x c h=>absurd h (by intro z;cases z),I.ok.hd,I.ok.frames,.inl rfl,fun b hb=>?_,I.bs,zN I.ok.bsz I.sz,fun b o e hb=>?_,fun b hb=>?_,I.stack,I.stkFree⟩,
   rfl,I.bare,Un.kept hk,⟨m,hns,fun i x v e1 e2 e3=>?_⟩,fun x c e=>I4.cell x c (C6 e),I.hok.fresh (zR _),fun x c e=>I4.freeC x c (C6 e),fun p hp=>?_,I4.hok,?_⟩
 · have hx':=HV (scope:=scope) (env:=X.env) (x:=x) (names:=scope.names) hx S.nocell
   obtain⟨c,h,_⟩:=S.cells I.ok hx'
   exact⟨c,h⟩
 · exact⟨zC (hlt b hb),fun x c e=>(hfp b hb).2.2.2.2.1 x c (C6 e)⟩
 · rcases (hfp b hb).2.2.2.1 with z | z
   · exact I.ok.noex b o e z
   · exact absurd (zP (zM e) (zN I.ok.bsz z)) (yF _)
 · exact nstk b (hfp b hb).2.1 (hfp b hb).2.2.1
 · have e2':∃j,fr[i]?=some (some j)/\σ[j]?=some (some v):=by
     unfold capt at e2
     rw[zF] at e2
     cases hf:fr[i]? with
     | none=>rw[hf] at e2;cases e2
     | some o=>
       rw[hf] at e2
       cases o with
       | none=>cases e2
       | some j=>
         refine⟨j,rfl,?_⟩
         have e2:((σ[j]?).join)=some v:=Option.some.inj e2
         cases hs:σ[j]? with
         | none=>rw[hs] at e2;cases e2
         | some q=>rw[hs] at e2;cases q with
           | none=>cases e2
           | some v'=>cases e2;rfl
   obtain⟨j,f1,f2⟩:=e2'
   obtain⟨g1,g2,g3,g4⟩:=S.slot i j x e1 f1
   obtain⟨m',hn',hl'⟩:=I4.loc
   obtain⟨u,r,l⟩:=hl' j x v g1 f2 g3
   rcases l with ⟨k,_⟩ | ⟨k,c,hc,hcell⟩
   · exact absurd k g4
   · obtain⟨c',q1,q2⟩:=S.cells I.ok (a4J g2)
     rw[hc] at q2;cases q2
     exact⟨u,r,.inr ⟨PF S.names (a4J g2) (fun z=>z g2),c,q1,hcell⟩⟩
 · have hp':p∈X.pn++pins:=by rw[a3K] at hp;exact hp
   obtain⟨p1,p2,p3,p4,p5⟩:=I4.pin p hp'
   exact⟨p1,p2,zC (zM (I.pin p hp').1),nstk _ p3 p4,p5⟩
 · unfold capt
   rw[zX]
   exact S.len
def l0 (fr:List (Option Nat)) (wi:TI) (g:TG) (tt:TT) {Y:Type}(y0:Y) (at_:Y->HO) (el:Addr->Nat->(Nat->Y->Hp->Prop)->St->Hp->Prop):TE:=fun σ H Q=>wi σ H fun J H1=>∀D,H1 D=none->∃W:Nat->Nat->Y->Hp->Prop,(∃m,W 0 m y0 (upd H1 D (at_ y0))) /\
 ∀i m ys H2,W i m ys H2->H2 D=some (at_ ys)/\((J.stop i H2/\Q (.ref D) H2)∨(J.go i H2/\∀x H3,J.yld i H2 x H3->g x (capt fr σ) H3 fun σ2 H4=>
   (∀(i:Nat) v,(capt fr σ)[i]?=some (some v)->σ2[i]?=some (some v))/\tt σ2 H4 fun c H5=>if c=true then el D m (W (i+1)) σ2 H5 else ∃ys' m',m' < m/\W (i+1) m' ys' H5))
def l4 (X:Cx) (pins:List (Addr×Obj)) (σ:St) (use:Option (Value->Sem Unit)) (Q:VK) (QQ:Value->Shared->Prop):Prop:=
 ∀(D C:Addr) (H':Hp) (s':Shared) (m:Str->Option Value) (oC:Obj),Inv X (pins++[(C,oC)]) σ H' s'->s'.heap.Ns C m->Q (.ref D) H' ->
     (∀(pins':List (Addr×Obj)) (σ2:St) (H2:Hp) (s2:Shared) (h2:Heap),Inv X (pins++[(C,oC)]) σ2 H2 s2->Heap.SameBut C s2.heap h2->Inv X pins σ2 H2 { s2 with heap:=h2 }) ->
     s'.heap.get? C=some oC ->
     match use with
     | none=>∀h',Heap.SameBut C s'.heap h'->QQ (.ref D) { s' with heap:=h' }
     | some u=>wpAny (model X.prog X.w) X.A (u (.ref D)) (fun _ s''=>∃m,s''.heap.Ns C m/\∀h',Heap.SameBut C s''.heap h'->QQ .none { s'' with heap:=h' }) X.xe s'
theorem WG {cE iter tg:Expr}{ifs:List Expr}{cpos:Pos}{wi:TI}{g:TG}{tt:TT}{Y:Type}{y0:Y}{at_:Y->HO}{Ty:String}{dt:Data}{mk:Sem Value}{tl:Env->Addr->(Shared->Prop)->Shared->Prop}{el:Addr->Nat->(Nat->Y->Hp->Prop)->St->Hp->Prop}{use:Option (Value->Sem Unit)}{Q:VK}{QQ:Value->Shared->Prop}
   (hcl:clausesOf cE=[⟨tg,iter,ifs,0⟩]) (hmk:mk=newObj (.type Ty) dt none) (hsz:sizeOk dt)
   (hob:∀(H:Hp) (h:Heap),sysModules < h.objs.size->ObjOk X.prog X.w H (h.push { cls:=.type Ty,dict:=none,data:=dt }) h.objs.size (at_ y0)) (hgo:Y5 X.prog X.w X.A cE tg ifs tl)
   (hst:∀{it acc:Value}{env:Env}{R:Result->Shared->Prop}{s:Shared},codeAny (model X.prog X.w) X.A (.compLoop cE 0 it acc env) R s->wpAny (model X.prog X.w) X.A (pyIter it) (fun it' s'=>codeAny (model X.prog X.w) X.A (.compLoop cE 0 it' acc env) R s') (notedBy (model X.prog X.w) X.A env fun x s'=>R (.error x) s') s->codeAny (model X.prog X.w) X.A (.compStart cE 0 it acc env) R s)
   (hc:X.calm=true) (S:CSc X scope NC fr) (hi:PI X tg iter wi)
   (hb:∀(C:Addr) (s:Shared) (H:Hp) (ex:List Addr) (pn:List (Addr×Obj)),PG (C7 X scope NC C s H ex pn) tg g/\PTs (C7 X scope NC C s H ex pn) ifs tt/\∀(pn':List (Addr×Obj)) (s':Shared) (σ:St) (H':Hp) (D:Addr) (n:Nat) (W:Nat->Y->Hp->Prop) (P:Shared->Prop),Inv (C7 X scope NC C s H ex pn) pn' σ H' s'->el D n W σ H'->(∀m y H2 s2,m < n->W m y H2->Inv (C7 X scope NC C s H ex pn) pn' σ H2 s2->P s2)->tl (C7 X scope NC C s H ex pn).env D P s')
   (I:Inv X pins σ H s) (h:l0 fr wi g tt y0 at_ el σ H Q) (fin:l4 X pins σ use Q QQ) (hs:∀x,foldedSetIterable iter X.env x=pure x) :
   wpAny (model X.prog X.w) X.A (comprehension cE scope X.env cpos mk false (eval iter X.env) use) QQ X.xe s:=by
 refine wpAny_comprehension_free (use:=use) hcl hs (bR (S.has I.ok)) S.kind S.names (thn (hi pins s σ H _ I h) fun v s1 h1=>thn h1 fun itv s2 h2=>?_)
 obtain⟨it,fp,tn,J,H2,e,I2,T,st2,f2,hq⟩:=h2
 subst e
 have hDn:H2 s2.heap.objs.size=none:=I2.hok.fresh (zR _)
 obtain⟨W,⟨m0,w0⟩,turn⟩:=hq s2.heap.objs.size hDn
 rw[hmk]
 refine xL (hd:=hsz) (wpAny_newFunctionEnv S.nocell (by intro y hy;simp at hy) (fun h₁ hns₁ hsb₁=>?_) S.kind)
 dsimp only at hns₁ hsb₁ ⊢
 generalize hs3:({ s2 with heap:=s2.heap.push { cls:=.type Ty,dict:=none,data:=dt } }:Shared)=s3
 have hh3:s2.heap.push { cls:=.type Ty,dict:=none,data:=dt }=s3.heap:=by rw[← hs3]
 have I3:Inv X pins σ (upd H2 s2.heap.objs.size (at_ y0)) s3:=by
   rw[← hs3]
   refine I2.laid (t':=s2.toks) (fun b u e=>zW _ e) (zR _) ?_
   exact hob _ _ I2.big
 rw[hh3] at hns₁ hsb₁ ⊢
 have sz3:s3.heap.objs.size=s2.heap.objs.size+1:=by rw[← hh3,b0Q]
 have lt2:∀b∈fp,b < s2.heap.objs.size:=fun b hb=>by
   obtain⟨o,e,_⟩:=T.obj _ _ st2 b hb
   exact zM e
 have lt3:∀b∈fp,b < s3.heap.objs.size:=fun b hb=>by rw[sz3];exact Nat.lt_succ_of_lt (lt2 b hb)
 have f3:∀b∈fp,L1 X pins (upd H2 s2.heap.objs.size (at_ y0)) b:=fun b hb=>⟨by rw[AG (zC (lt2 b hb))];exact(f2 b hb).1,(f2 b hb).2⟩
 have keep1:∀b o,s3.heap.get? b=some o->h₁.get? b=some o:=fun b o e=>hsb₁.extBut b o (zC (zM e)) (zW _ e)
 generalize hC:s3.heap.objs.size=C at hns₁ hsb₁ ⊢
 have I0:Inv (C7 X scope NC C s3 (upd H2 s2.heap.objs.size (at_ y0)) fp (X.pn++pins)) [] (capt fr σ) (upd H2 s2.heap.objs.size (at_ y0)) { s2 with heap:=h₁,toks:=s2.toks+([]:List (Str×Value)).length }:=by
   have:=T8 (tk:=s2.toks+([]:List (Str×Value)).length) (h1:=h₁) S I3 f3 lt3 (hC▸hns₁) keep1
   rw[hC] at this
   rw[← hs3] at this
   rw[← hs3]
   exact this
 obtain⟨hbg,hbt,hbl⟩:=hb C s3 (upd H2 s2.heap.objs.size (at_ y0)) fp (X.pn++pins)
 generalize hX':C7 X scope NC C s3 (upd H2 s2.heap.objs.size (at_ y0)) fp (X.pn++pins)=X' at I0 hbg hbt hbl
 have eP:X'.prog=X.prog:=by rw[← hX'];rfl
 have eW:X'.w=X.w:=by rw[← hX'];rfl
 have eK:X'.K=X.K:=by rw[← hX'];rfl
 have eA:X'.A=X.A:=by rw[← hX'];rfl
 have eE:X'.env=compEnvC scope (K3 X.env.cells scope.names []) C X.env:=by rw[← hX'];rfl
 have eX:X'.xe=fun _ _=>False:=by rw[← hX'];rfl
 have ec:X'.calm=true:=by rw[← hX'];exact hc
 have stat:∀{H':Hp},(∀b∈fp,H' b=none)->∀b∈fp,L1 X' [] H' b:=fun {H'} hn b hb=>by
   obtain⟨q1,q2,q3,q4,q5,q6⟩:=f3 b hb
   rw[← hX']
   exact⟨hn b hb,by show b≠C;rw[← hC];exact zC (lt3 b hb),fun z=>(yX.mp (I3.stkSub b z)).elim q2 q3,.inl hb,fun x c e=>q5 x c (C6 e),fun p hp=>q6 p (by rw[a3K] at hp;exact hp)⟩
 have ends:∀(i m:Nat) (ys:Y) (H':Hp) (s':Shared),Inv X' [] (capt fr σ) H' s'->Q (.ref s2.heap.objs.size) H' ->
     compPost (model X.prog X.w) X.A X.xe use QQ (.ref s2.heap.objs.size) C (.ok .next) s':=by
   intro i m ys H' s' I' q'
   have eC:X'.env.locals=C:=by rw[eE];rfl
   obtain⟨mC,hnC,_⟩:=I'.loc
   rw[eC] at hnC
   have hCn:H' C=none:=by have:=I'.free;rw[eC] at this;exact this
   have un:Un (frs X.stack) fp (upd H2 s2.heap.objs.size (at_ y0)) H' s3.heap s'.heap:=by
     have:=I'.base
     rw[← hX'] at this
     exact this
   have os':s'.os=s3.os:=by have:=I'.os;rw[← hX'] at this;exact this
   have hok':HOk X.prog X.w H' s'.heap:=by have:=I'.hok;rw[eP,eW] at this;exact this
   have Iout:Inv X pins σ H' s':=I3.call' (ch:=fp) os' un hok' I'.bare fun b hb=>⟨(f3 b hb).2.2.2.1,(f3 b hb).2.1,(f3 b hb).2.2.2.2.1,(f3 b hb).2.2.2.2.2⟩
   have C1:C≠X.env.locals:=by rw[← hC];exact b0V I3.lt
   have C2:C∉X.fs:=by rw[← hC];exact I3.nofs (zR _)
   have C3:X.s₀.heap.objs.size<=C:=by rw[← hC];exact I3.sz
   have C4:∀x c,X.env.cells.lookup x=some c->c≠C:=fun x c e z=>by
     obtain⟨v,q⟩:=I3.cell x c e
     rw[z,← hC] at q
     exact absurd q.lt (yF _)
   have C5:∀p∈X.pn++pins,p.1≠C:=fun p hp z=>by
     have:=zM (I3.pin p hp).1
     rw[z,← hC] at this
     exact absurd this (yF _)
   obtain⟨oC,esC,epC,hoC,hdC,hrC⟩:=id hnC
   have Ipin:Inv X (pins++[(C,oC)]) σ H' s':=Iout.pins_of fun p hp=>(yW.mp hp).elim (fun z=>Iout.pin p (zB _ z)) fun z=>by
     have e:p=(C,oC):=by simpa using z
     subst e
     exact⟨hoC,hCn,C1,C2,fun v z=>by rw[hdC] at z;cases z⟩
   have res:=fin s2.heap.objs.size C H' s' mC oC Ipin hnC q' (fun _ σ2 H3 s4 h4 I4 sb=>by
     have J4:Inv X pins σ2 H3 s4:=I4.unpinned
     have hn4:H3 C=none:=(I4.pin (C,oC) (zB _ (zB _ (by simp)))).2.1
     exact J4.turned (t':=s4.toks) (it:=C) (fun b o hb e=>sb.extBut b o hb e) hn4 C1 (.inr C3) C4 C5) hoC
   cases use with
   | none=>exact⟨mC,hnC,res⟩
   | some u=>exact res
 have loop:∀s':Shared,s'={ s2 with heap:=h₁,toks:=s2.toks+([]:List (Str×Value)).length } ->
     codeAny (model X.prog X.w) X.A (.compLoop cE 0 (.ref it) (.ref s2.heap.objs.size) (compEnvC scope (K3 X.env.cells scope.names []) C X.env))
       (compPost (model X.prog X.w) X.A X.xe use QQ (.ref s2.heap.objs.size) C) s':=by
   rintro s' rfl
   refine hgo _ _ _ _ (fun n s'=>∃i ys H',Inv X' [] (capt fr σ) H' s'/\tn i s'.heap/\(∀b∈fp,H' b=none)/\W i n ys H') ?_ m0 _
     ⟨0,y0,_,I0,T.keep _ _ _ st2 (fun b hb o e=>keep1 b o (by rw[← hh3];exact zW _ e)),fun b hb=>(f3 b hb).1,w0⟩
   rintro n s5 ⟨i,ys,H5,I5,st5,fr5,w5⟩
   obtain⟨hD5,hturn⟩:=turn i n ys H5 w5
   rcases hturn with ⟨stop,qn⟩ | ⟨go,step⟩
   · have:=T.done X' eP eW eK ec i [] s5 (capt fr σ) H5 (fun _ _=>False) I5 (stat fr5) st5 stop
     rw[eA] at this
     refine thn this fun r s6 ⟨hr,I6⟩=>?_
     subst hr
     exact ends i n ys H5 s6 I6 qn
   · have:=T.item X' eP eW eK ec i [] s5 (capt fr σ) H5 (fun _ _=>False) I5 (stat fr5) st5 go
     rw[eA] at this
     refine thn this fun r s6 ⟨u,hr,h6⟩=>?_
     subst hr
     refine thn h6 fun _ s7 ⟨x,H7,I7,r7,y7,st7,fr7⟩=>?_
     have I7':=I7.pinned (stat fr7) (T.obj _ _ st7)
     have hg1:=hbg _ s7 (capt fr σ) H7 x u _ I7' r7 (step x H7 y7)
     rw[eP,eW,eA,eE,eX] at hg1
     refine thn hg1 fun _ s8 ⟨σ8,H8,I8,ext8,q8⟩=>?_
     have ht1:=hbt _ s8 σ8 H8 _ I8 q8
     rw[eP,eW,eA,eE,eX] at ht1
     refine thn ht1 fun ok s9 ⟨H9,I9,q9⟩=>?_
     have weak:∀{H':Hp}{s':Shared},Inv X' ([]++LX fp s7.heap) σ8 H' s'->Inv X' [] (capt fr σ) H' s'/\tn (i+1) s'.heap/\∀b∈fp,H' b=none:=fun {H' s'} I'=>by
       refine⟨I'.unpinned.weak (by rw[I'.len];rw[I0.len]) ext8,T.keep _ _ _ st7 fun b hb o e=>(I'.pin (b,o) (zB _ (zB _ (FN hb e)))).1,fun b hb=>?_⟩
       obtain⟨o,e,d⟩:=T.obj _ _ st7 b hb
       exact(I'.pin (b,o) (zB _ (zB _ (FN hb e)))).2.1
     cases ok with
     | false=>
       rw[if_neg nft] at q9
       obtain⟨ys',m',hm',w'⟩:=q9
       obtain⟨a1,a2,a3⟩:=weak I9
       exact⟨m',hm',i+1,ys',H9,a1,a2,a3,w'⟩
     | true=>
       rw[if_pos rfl] at q9
       have ht2:=hbl _ s9 σ8 H9 _ n (W (i+1)) (fun s'=>∃m'',m'' < n/\∃i ys H',Inv X' [] (capt fr σ) H' s'/\tn i s'.heap/\(∀b∈fp,H' b=none)/\W i m'' ys H') I9 q9 fun m y H2 s2 hm w' I'=>by
         obtain⟨a1,a2,a3⟩:=weak I'
         exact⟨m,hm,i+1,y,H2,a1,a2,a3,w'⟩
       rw[eE] at ht2
       exact ht2
 refine hst (loop _ rfl) (T.self _ 0 _ _ _ ?_ (loop _ rfl))
 exact T.keep _ _ _ st2 (fun b hb o e=>keep1 b o (by rw[← hh3];exact zW _ e))
theorem R8 {elt iter tg:Expr}{ifs:List Expr}{pos cpos:Pos}{wi:TI}{g:TG}{tt:TT}{te:TE}{use:Option (Value->Sem Unit)}{Q:VK}{QQ:Value->Shared->Prop}(hc:X.calm=true) (S:CSc X scope NC fr) (hi:PI X tg iter wi)
   (hb:∀(C:Addr) (s:Shared) (H:Hp) (ex:List Addr) (pn:List (Addr×Obj)),PG (C7 X scope NC C s H ex pn) tg g/\PTs (C7 X scope NC C s H ex pn) ifs tt/\PE (C7 X scope NC C s H ex pn) elt te)
   (I:Inv X pins σ H s) (h:R7 fr wi g tt te σ H Q) (fin:l4 X pins σ use Q QQ) (hs:∀x,foldedSetIterable iter X.env x=pure x) :
   wpAny (model X.prog X.w) X.A (comprehension (.ListComp elt [⟨tg,iter,ifs,0⟩] scope pos) scope X.env cpos (newList []) false (eval iter X.env) use) QQ X.xe s:=by
 refine WG (y0:=[]) (at_:=.lst) (Ty:= "list") (dt:=.seq #[]) (tl:=tlL X.prog X.w X.A elt) (el:=fun D m W σ2 H5=>te σ2 H5 fun y H6=>∃ys',H6 D=some (.lst ys')/\ys'.length < sizeLine/\∃m',m' < m/\W m' (ys'++[y]) (upd H6 D (.lst (ys'++[y])))) rfl rfl (by size_fits) (fun H h _=>⟨xR _,[],0,.nil,yZ _ rfl⟩) bS codeAny_compStart_list hc S hi (fun C s H ex pn=>⟨(hb C s H ex pn).1,(hb C s H ex pn).2.1,fun pn' s' σ H' D n W P I q k=>?_⟩) I h fin hs
 refine thn ((hb C s H ex pn).2.2 _ s' σ H' _ I q) fun y s10 ⟨yv,H10,I10,r10,ys',hD,hsz,m',hm',w'⟩=>?_
 exact thn (OH _ s10 σ H10 (.ref D) [yv] (.ref D) [y] (fun _ H'=>∃m',m' < n/\W m' (ys'++[yv]) H') I10 rfl (.cons r10 .nil) ⟨_,ys',yv,rfl,rfl,hD,hsz,m',hm',w'⟩) fun _ s11 ⟨_,H11,I11,_,m'',hm'',w''⟩=>k _ _ _ _ hm'' w'' I11
end
end L2
namespace L2
open PySem PySem.Spec PyProof.Rows
section
variable {X:Cx}{scope:Scope}{NC:List Str}{fr:List (Option Nat)}{elt iter tg:Expr}{ifs:List Expr}{pos:Pos}{wi:TI}{g:TG}{tt:TT}{te:TE}
theorem bV (hc:X.calm=true) (S:CSc X scope NC fr) (hi:PI X tg iter wi)
   (hb:∀(C:Addr) (s:Shared) (H:Hp) (ex:List Addr) (pn:List (Addr×Obj)),PG (C7 X scope NC C s H ex pn) tg g/\PTs (C7 X scope NC C s H ex pn) ifs tt/\PE (C7 X scope NC C s H ex pn) elt te)
   (hs:∀x,foldedSetIterable iter X.env x=pure x:=by intro _;rfl):PE X (.ListComp elt [⟨tg,iter,ifs,0⟩] scope pos) (R7 fr wi g tt te):=by
 intro pins s σ H Q I h
 rw[eval_ListComp]
 refine R8 (use:=none) (Q:=Q) hc S hi hb I h (fun D C H' s' m oC I' hn q back _ h' sb=>?_) hs
 exact⟨.ref D,H',back pins σ H' s' h' I' sb,rfl,q⟩
theorem bW {i:Nat}{x:Str}{py spos:Pos}(hc:X.calm=true) (hN:X.N.Nodup) (hix:X.N[i]?=some x) (hx:Loc X.env.scope x) (S:CSc X scope NC fr) (hi:PI X tg iter wi)
   (hb:∀(C:Addr) (s:Shared) (H:Hp) (ex:List Addr) (pn:List (Addr×Obj)),PG (C7 X scope NC C s H ex pn) tg g/\PTs (C7 X scope NC C s H ex pn) ifs tt/\PE (C7 X scope NC C s H ex pn) elt te)
   (hsw:swapsWith (.ListComp elt [⟨tg,iter,ifs,0⟩] scope pos) (some (.Name x py)) spos.line X.env=pure true)
   (hf:X.fn x=true∨X.env.scope.names.lookup x=some .local:=by first | exact .inl rfl | exact .inr rfl | assumption)
   (hs:∀x,foldedSetIterable iter X.env x=pure x:=by intro _;rfl) :
   PS X (.Assign [.Name x py] (.ListComp elt [⟨tg,iter,ifs,0⟩] scope pos) spos) (fun D σ H=>R7 fr wi g tt te σ H fun v H'=>D.nx (σ.set i (some v)) H'):=by
 intro pins s σ H D I h
 rw[exec_Assign_Name_used _ _ _ _ hsw]
 refine zZ (wpAny_standAt (zZ ?_))
 show wpAny _ X.A (do let _ ← comprehension (.ListComp elt [⟨tg,iter,ifs,0⟩] scope pos) scope X.env _ (newList []) false (eval iter X.env) (some (assign (.Name x py) X.env))) _ _ s
 refine zZ (thn (R8 (use:=some (assign (.Name x py) X.env)) (Q:=fun v H'=>D.nx (σ.set i (some v)) H') (QQ:=fun _ s'=>∃σ' H',Inv X pins σ' H' s'/\D.nx σ' H') hc S hi hb I h (fun A C H' s' m oC I' hn q back hoC=>?_) hs) fun _ s' hq=>zY (zY hq))
 have hst:=FM (X:=X) (pos:=py) hN hix hx hf (pins++[(C,oC)]) s' σ H' (.ref A) (.ref A) (fun σ' H'=>D.nx σ' H') I' rfl q
 refine thn hst fun _ s2 ⟨σ2,H2,I2,q2⟩=>?_
 have hC2:s2.heap.get? C=some oC:=(I2.pin (C,oC) (zB _ (zB _ (by simp)))).1
 obtain⟨o',es,ep,ho',hd',hr'⟩:=hn
 rw[hoC] at ho';cases ho'
 exact⟨m,⟨_,es,ep,hC2,hd',hr'⟩,fun h' sb=>⟨σ2,H2,back pins σ2 H2 s2 h' I2 sb,q2⟩⟩
end
def Its (x:Str):It:=⟨fun i _=>i < x.cps.size,fun i H v H'=>H'=H/\∃c,x.cps[i]?=some c/\v = .str ⟨#[c]⟩,fun i _=>i=x.cps.size⟩
theorem R9 {P:Program}{w:World}{K:Frg}{tg:Expr}(it:Addr) (ty:String) (x:Str) (t:Tok) (hty:["enumerate", "zip", "dict_itemiterator", "dict_reverseitemiterator", "odict_iterator", "itertools.zip_longest", "itertools.pairwise"].contains ty=false)
   (W:∀A:Around,A.handled=none->Walks P w A it [it] [it] x.cps.size (SignAt x) (fun i h=>h.IsStrIter it ty x t i))
   (hself:∀(A:Around) (i:Nat) (s:Shared) (Q:Value->Shared->Prop) (E:Value->Shared->Prop),s.heap.IsStrIter it ty x t i->Q (.ref it) s->wpAny (model P w) A (pyIter (.ref it)) Q E s) :
   Turn P w K tg (Its x) [it] it (fun i h=>h.IsStrIter it ty x t i) where
 mem:=by simp
 obj:=fun i h st b hb=>by
   have e:b=it:=by simpa using hb
   subst e
   obtain⟨o,e,c,d⟩:=st
   exact⟨o,e,fun v z=>by rw[d] at z;cases z⟩
 keep:=fun i h h' st k=>by
   obtain⟨o,e,r⟩:=st
   exact⟨o,k it (by simp) o e,r⟩
 item:=by
   intro X hP hw hK hc i pins s σ H E I hf st hg
   subst hP hw hK
   obtain⟨f0,f1,f2,f3,f4,f5⟩:=hf it (by simp)
   refine(W X.A (I.ok.hd hc)).item i s _ _ hg st fun v h' tk hv st' kk=>?_
   obtain⟨c,u,hcx,rfl⟩:=hv
   have I1:Inv X pins σ H { s with heap:=h',toks:=tk }:=I.turned (fun b o hb e=>kk b o (by simpa using hb) e) f0 f1 f3 f4 f5
   obtain⟨o,e,c',d⟩:=id st'
   exact⟨_,rfl,UP (s:={ s with heap:=h',toks:=tk }) e c' d hty ⟨.str ⟨#[c]⟩,H,I1,⟨u,rfl⟩,⟨rfl,c,hcx,rfl⟩,st',fun b hb=>(hf b hb).1⟩⟩
 done:=by
   intro X hP hw hK hc i pins s σ H E I hf st hg
   subst hP hw hK
   obtain⟨f0,f1,f2,f3,f4,f5⟩:=hf it (by simp)
   have hi:i=x.cps.size:=hg
   subst hi
   refine(W X.A (I.ok.hd hc)).done s _ _ st fun h' tk kk=>⟨rfl,I.turned (fun b o hb e=>kk b o (by simpa using hb) e) f0 f1 f3 f4 f5⟩
 self:=hself
theorem PH (bs:List Bool):(a1X bs.length).any (fun i=>(bs[i]?).getD false)=bs.any id:=by
 rw[b4J,b7W,b7W]
 constructor
 · rintro⟨i,hi,h⟩
   have hi:i < bs.length:=by simpa using hi
   exact⟨bs[i],b2V hi,by simpa [hi] using h⟩
 · rintro⟨b,hb,h⟩
   obtain⟨i,hi,rfl⟩:=List.mem_iff_getElem.mp hb
   exact⟨i,by simpa using hi,by simpa [hi] using h⟩
section
variable {X:Cx}
theorem bX {bs:List Bool}{its:List Value}(r:Vals (bs.map V.bl) its) {i:Nat}{v:Value}(h:its.toArray[i]?=some v):v = .bool ((bs[i]?).getD false):=by
 have h':its[i]?=some v:=by simpa using h
 have hl:i < its.length:=(yT.mp h').1
 have e:=r.length
 rw[zX] at e
 have hb:(bs.map V.bl)[i]?=some (V.bl bs[i]):=by rw[zF];simp[show i < bs.length by omega]
 obtain⟨u,hu,ru⟩:=r.get hb
 rw[h'] at hu;cases hu
 simp[show i < bs.length by omega]
 exact ru
def m9 (X:Cx):List V->Hp->VK->Prop:=fun xs H Q=>∃(p:Addr) (bs:List Bool),xs=[.ref p]/\SqL X.K H p (bs.map V.bl)/\Q (.bl (bs.any id)) H
theorem Y6 (hc:X.calm=true):BO X (.builtin "any") (m9 X):=by
 intro pins s σ H xs us Q I r h
 obtain⟨p,bs,rfl,hp,q⟩:=h
 obtain⟨u,rfl,ru⟩:=G6 r
 cases ru
 obtain⟨its,rv,pl,hz⟩:=I.list hp
 have hne:p≠s.heap.objs.size:=by obtain⟨o,n,e,_⟩:=pl;exact zC (zM e)
 have el:=rv.length
 rw[zX] at el
 refine call_any_walk (wpAny_pyIter_list pl.isList ?_)
 refine⟨s.heap.objs.size,_,_,_,_,_,fun i=>(bs[i]?).getD false,rfl,Walks.list (show X.A.in1.handled=none from I.ok.hd hc) s.heap.objs.size p hne its.toArray,⟨⟨_,yZ _ rfl,rfl,rfl⟩,?_⟩,fun i v s' Q' E' hv hq=>?_,fun h' tk hk=>?_⟩
 · obtain⟨o,n,e,c,d,dd⟩:=pl
   exact⟨o,zW _ e,c,n,dd⟩
 · rw[bX rv hv]
   exact wpAny_truthy_bool hq
 · refine⟨.bl (bs.any id),H,?_,?_,q⟩
   · exact I.kept (t':=tk) fun b o e=>hk b o (by simp;exact zC (zM e)) (zW _ e)
   · rw[zJ,← el,PH];rfl
def iK:V->Option Int->Option Int->Hp->VK->Prop:=fun x lo hi H Q=>∃y,x = .str y/\y.length<=sizeLine/\Q (.str (a0V y lo hi)) H
theorem iL:SlR X iK:=by
 intro pins s σ H x v vl vu lo hi sl Q I rx hs pl pu h
 obtain⟨y,rfl,hz,q⟩:=h
 obtain⟨t,rfl⟩:=rx
 refine⟨"str", _,F.slot_str_getitem.lookup,typeIs_str _ _ _,?_⟩
 cases pl with
 | none=>
   cases pu with
   | none=>exact wpAny_getItem_str_slice (l:=none) (u:=none) (st:=none) hs rfl (post_val_or_str ⟨zN (Txt.slice_le y _ _) hz,fun t' k=>⟨.str _,H,I.tok _,⟨_,rfl⟩,q⟩⟩)
   | int j tj=>exact wpAny_getItem_str_slice (l:=none) (u:=some (j,tj)) (st:=none) hs rfl (post_val_or_str ⟨zN (Txt.slice_le y _ _) hz,fun t' k=>⟨.str _,H,I.tok _,⟨_,rfl⟩,q⟩⟩)
 | int i ti=>
   cases pu with
   | none=>exact wpAny_getItem_str_slice (l:=some (i,ti)) (u:=none) (st:=none) hs rfl (post_val_or_str ⟨zN (Txt.slice_le y _ _) hz,fun t' k=>⟨.str _,H,I.tok _,⟨_,rfl⟩,q⟩⟩)
   | int j tj=>exact wpAny_getItem_str_slice (l:=some (i,ti)) (u:=some (j,tj)) (st:=none) hs rfl (post_val_or_str ⟨zN (Txt.slice_le y _ _) hz,fun t' k=>⟨.str _,H,I.tok _,⟨_,rfl⟩,q⟩⟩)
theorem UW:∀{ys:List Str}{its:List Value},Vals (ys.map V.str) its->StrsAre its ys
 | [],_,.nil=>.nil
 | y::r,_,.cons h t=>by
   obtain⟨tk,rfl⟩:=h
   exact .cons y tk (UW t)
def fM (K:Frg):R2:=fun x y H Q=>∃a b xs ys,x = .ref a/\y = .ref b/\SqL K H a xs/\SqL K H b ys/\xs.length+ys.length<=sizeLine/\∀p,H p=none->Q (.ref p) (upd H p (.lst (xs++ys)))
theorem bY:OpR X (binaryOp .Add) (fM X.K):=by
 intro pins s σ H x y v u Q I rx ry h
 obtain⟨l,b,xs,zs,rfl,rfl,hH,hB,hz,q⟩:=h
 cases rx
 cases ry
 obtain⟨its,r,pl,hl⟩:=I.list hH
 obtain⟨its2,r2,pl2,hl2⟩:=I.list hB
 have e1:=r.length
 have e2:=r2.length
 obtain⟨⟨cls,dd,data,sl⟩,n,ho,hc,_,hd⟩:=pl
 obtain⟨⟨cls2,dd2,data2,sl2⟩,n2,ho2,hc2,_,hd2⟩:=pl2
 dsimp only at hc hd hc2 hd2
 subst hc hd hc2 hd2
 have ea:its.toArray++its2.toArray=(its++its2).toArray:=by simp
 have fin:EP X pins σ Q (.ref s.heap.objs.size) { s with heap:=s.heap.push { cls:=.type "list", data:=.seq (its.toArray++its2.toArray) } }:=by
   rw[ea]
   exact⟨.ref _,_,I.lnew (t':=s.toks) (r.append r2) (by rw[yY];omega),rfl,q _ I.fresh⟩
 exact concat_meets ⟨_,ho,rfl⟩ ⟨_,ho2,rfl⟩ noFill_list_add seq_list_add PySem.F.slot_list_add PySem.F.entry_list_add (PySem.F.args_list_add_2 _ _) (list_addW l b its.toArray its2.toArray n n2 dd dd2 sl sl2 (by rw[zJ,zJ];omega)) ⟨ho,ho2,fin⟩
def fN (i j:Int):Prop:=0 < j/\j < 2 ^ 64
theorem Y7:OpR X (binaryOp .FloorDiv) (rI fN fun i j=>.int (i/j)):=opI fun i j _ _ _ _ _ hc q=>by
 have h1:(0:Int) < j:=hc.1
 have h2:j.natAbs.log2 < 9000:=by
   have h0:j.natAbs≠0:=by omega
   have:j.natAbs < 2 ^ 64:=by have:=hc.2;omega
   exact zP ((Nat.log2_lt h0).mpr this) (by decide)
 exact floordiv_int (by omega) (by rw[Int.fdiv_eq_ediv_of_nonneg i (by omega)];exact q) (.inl (PyProof.noPylong_of_log2 h2))
end
end L2
namespace L2
open PySem PySem.Spec PyProof.Rows
def bZ:Key->PyData
 | .inl i=>.int i
 | .inr x=>.str x
def LW (K:Frg) (H:Hp) (W:Addr->Prop) (a:Addr) (xs:List V):Prop:=
 (¬W a/\Rd H a (.lst xs))∨∃(o:Obj) (its:Array Value) (n:Nat),K.lookup a=some o/\o.cls = .type "list" /\ o.dict=none/\o.data = .seq its n/\its.size<=sizeLine/\Vals xs its.toList
def TW (K:Frg) (H:Hp) (W:Addr->Prop) (a:Addr) (xs:List V):Prop:=
 (¬W a/\Rd H a (.tup xs))∨∃(o:Obj) (its:Array Value) (n:Nat),K.lookup a=some o/\o.cls = .type "tuple" /\ o.data = .seq its n/\its.size<=sizeLine/\Vals xs its.toList
theorem LW.sq {K:Frg}{H:Hp}{W:Addr->Prop}{a:Addr}{xs:List V}(h:LW K H W a xs):SqL K H a xs:=h.elim (fun z=>.inl z.2) .inr
theorem TW.sq {K:Frg}{H:Hp}{W:Addr->Prop}{a:Addr}{xs:List V}(h:TW K H W a xs):SqT K H a xs:=h.elim (fun z=>.inl z.2) .inr
mutual
def DV (K:Frg) (H:Hp) (W:Addr->Prop):PyData->V->Prop
 | .none,v=>v = .non
 | .bool b,v=>v = .bl b
 | .int i,v=>v = .int i
 | .str x,v=>v = .str x
 | .list ds,v=>∃a vs,v = .ref a/\LW K H W a vs/\DVs K H W ds vs
 | .tuple ds,v=>∃a vs,v = .ref a/\TW K H W a vs/\DVs K H W ds vs
 | .dict kvs,v=>∃a kvs',v = .ref a/\¬W a/\Rd H a (.dK kvs')/\DKV K H W kvs kvs'
def DVs (K:Frg) (H:Hp) (W:Addr->Prop):List PyData->List V->Prop
 | [],vs=>vs=[]
 | d::ds,vs=>∃v r,vs=v::r/\DV K H W d v/\DVs K H W ds r
def DKV (K:Frg) (H:Hp) (W:Addr->Prop):List (PyData×PyData)->List (Key×V)->Prop
 | [],vs=>vs=[]
 | (k,d)::ds,vs=>∃k' v r,vs=(k',v)::r/\k=bZ k'/\DV K H W d v/\DKV K H W ds r
end
structure Grow (K:Frg) (W W':Addr->Prop) (H H':Hp):Prop where
 keep:∀b o,H b=some o->¬W b->H' b=some o∨∃ks ob,o = .dK ks/\H' b=some (.frz ob o)
 new:∀b,W' b->W b∨H b=none
theorem Grow.refl {K:Frg}{W:Addr->Prop}{H:Hp}:Grow K W W H H:=⟨fun _ _ h _=>.inl h,fun _ h=>.inl h⟩
section
variable {K:Frg}{W W' W2:Addr->Prop}{H H' H2:Hp}
theorem Rd.grow (g:Grow K W W' H H') {a:Addr}{o:HO}(nw:¬W a) (h:Rd H a o):Rd H' a o:=by
 rcases h with h | ⟨o',h⟩
 · rcases g.keep _ _ h nw with e | ⟨ks,ob,_,e⟩
   · exact .inl e
   · exact .inr ⟨ob,e⟩
 · rcases g.keep _ _ h nw with e | ⟨ks,ob,e,_⟩
   · exact .inr ⟨o',e⟩
   · cases e
theorem Grow.kept (g:Grow K W W' H H') {a:Addr}{o:HO}(h:H a=some o) (nw:¬W a) (n:∀ks,o≠.dK ks):H' a=some o:=(g.keep a o h nw).elim id fun⟨ks,_,e,_⟩=>absurd e (n ks)
theorem Rd.ne_none {H:Hp}{a:Addr}{o:HO}(h:Rd H a o):H a≠none:=by
 rcases h with h | ⟨o',h⟩ <;> rw[h] <;> simp
theorem Rd.nw (g:Grow K W W' H H') {a:Addr}{o:HO}(nw:¬W a) (h:Rd H a o):¬W' a:=fun w=>by
 rcases g.new a w with z | z
 · exact nw z
 · exact Rd.ne_none h z
theorem LW.grow (g:Grow K W W' H H') {a:Addr}{xs:List V}(h:LW K H W a xs):LW K H' W' a xs:=h.elim (fun z=>.inl ⟨z.2.nw g z.1,z.2.grow g z.1⟩) .inr
theorem TW.grow (g:Grow K W W' H H') {a:Addr}{xs:List V}(h:TW K H W a xs):TW K H' W' a xs:=h.elim (fun z=>.inl ⟨z.2.nw g z.1,z.2.grow g z.1⟩) .inr
mutual
theorem DV.grow (g:Grow K W W' H H'):∀{d:PyData}{v:V},DV K H W d v->DV K H' W' d v
 | .none,v,h=>by unfold DV at h ⊢;exact h
 | .bool b,v,h=>by unfold DV at h ⊢;exact h
 | .int i,v,h=>by unfold DV at h ⊢;exact h
 | .str x,v,h=>by unfold DV at h ⊢;exact h
 | .list ds,v,h=>by
   unfold DV at h ⊢
   obtain⟨a,vs,e,hs,hd⟩:=h
   exact⟨a,vs,e,hs.grow g,DVs.grow g hd⟩
 | .tuple ds,v,h=>by
   unfold DV at h ⊢
   obtain⟨a,vs,e,hs,hd⟩:=h
   exact⟨a,vs,e,hs.grow g,DVs.grow g hd⟩
 | .dict kvs,v,h=>by
   unfold DV at h ⊢
   obtain⟨a,vs,e,nw,hs,hd⟩:=h
   exact⟨a,vs,e,hs.nw g nw,hs.grow g nw,DKV.grow g hd⟩
theorem DVs.grow (g:Grow K W W' H H'):∀{ds:List PyData}{vs:List V},DVs K H W ds vs->DVs K H' W' ds vs
 | [],vs,h=>by unfold DVs at h ⊢;exact h
 | d::ds,vs,h=>by
   unfold DVs at h ⊢
   obtain⟨v,r,e,h1,h2⟩:=h
   exact⟨v,r,e,DV.grow g h1,DVs.grow g h2⟩
theorem DKV.grow (g:Grow K W W' H H'):∀{ds:List (PyData×PyData)}{vs:List (Key×V)},DKV K H W ds vs->DKV K H' W' ds vs
 | [],vs,h=>by unfold DKV at h ⊢;exact h
 | (k,d)::ds,vs,h=>by
   unfold DKV at h ⊢
   obtain⟨k',v,r,e,e2,h1,h2⟩:=h
   exact⟨k',v,r,e,e2,DV.grow g h1,DKV.grow g h2⟩
end
theorem Grow.trans (a:Grow K W W' H H') (b:Grow K W' W2 H' H2):Grow K W W2 H H2:=by
 refine⟨fun x o h nw=>?_,fun x w=>?_⟩
 · have nw':¬W' x:=fun w=>by
     rcases a.new x w with z | z
     · exact nw z
     · rw[h] at z;cases z
   rcases a.keep x o h nw with e | ⟨ks,ob,e1,e2⟩
   · exact b.keep x o e nw'
   · exact .inr ⟨ks,ob,e1,b.kept e2 nw' fun _ z=>nomatch z⟩
 · rcases b.new x w with z | z1
   · exact a.new x z
   · by_cases hx:W x
     · exact .inl hx
     · refine .inr ?_
       cases e:H x with
       | none=>rfl
       | some o=>
         rcases a.keep x o e hx with q | ⟨_,_,_,q⟩ <;> (rw[q] at z1;cases z1)
theorem DVs.length:∀{ds:List PyData}{vs:List V},DVs K H W ds vs->vs.length=ds.length
 | [],vs,h=>by unfold DVs at h;subst h;rfl
 | d::ds,vs,h=>by
   unfold DVs at h
   obtain⟨v,r,e,h1,h2⟩:=h
   subst e
   simp[DVs.length h2]
theorem DVs.get:∀{ds:List PyData}{vs:List V}{i:Nat}{v:V},DVs K H W ds vs->vs[i]?=some v->∃d,ds[i]?=some d/\DV K H W d v
 | [],vs,i,v,h,e=>by unfold DVs at h;subst h;simp at e
 | d::ds,vs,i,v,h,e=>by
   unfold DVs at h
   obtain⟨u,r,e',h1,h2⟩:=h
   subst e'
   cases i with
   | zero=>simp at e;subst e;exact⟨d,rfl,h1⟩
   | succ i=>simpa using DVs.get h2 (by simpa using e)
theorem DVs.get':∀{ds:List PyData}{vs:List V}{i:Nat}{d:PyData},DVs K H W ds vs->ds[i]?=some d->∃v,vs[i]?=some v/\DV K H W d v
 | [],vs,i,v,h,e=>by simp at e
 | d::ds,vs,i,v,h,e=>by
   unfold DVs at h
   obtain⟨u,r,e',h1,h2⟩:=h
   subst e'
   cases i with
   | zero=>simp at e;subst e;exact⟨u,rfl,h1⟩
   | succ i=>simpa using DVs.get' h2 (by simpa using e)
theorem DVs.nil:DVs K H W [] []:=by unfold DVs;rfl
theorem DVs.cons {d:PyData}{v:V}{ds:List PyData}{vs:List V}(h:DV K H W d v) (t:DVs K H W ds vs):DVs K H W (d::ds) (v::vs):=by unfold DVs;exact⟨v,vs,rfl,h,t⟩
theorem DVs.append:∀{ds es:List PyData}{vs us:List V},DVs K H W ds vs->DVs K H W es us->DVs K H W (ds++es) (vs++us)
 | [],es,vs,us,h,t=>by unfold DVs at h;subst h;exact t
 | d::ds,es,vs,us,h,t=>by
   unfold DVs at h
   obtain⟨u,r,e',h1,h2⟩:=h
   subst e'
   exact DVs.cons h1 (DVs.append h2 t)
theorem DVs.set:∀{ds:List PyData}{vs:List V}{d:PyData}{v:V}(i:Nat),DVs K H W ds vs->DV K H W d v->DVs K H W (ds.set i d) (vs.set i v)
 | [],vs,d,v,i,h,t=>by unfold DVs at h;subst h;exact DVs.nil
 | e::ds,vs,d,v,i,h,t=>by
   unfold DVs at h
   obtain⟨u,r,e',h1,h2⟩:=h
   subst e'
   cases i with
   | zero=>exact DVs.cons t h2
   | succ i=>exact DVs.cons h1 (DVs.set i h2 t)
theorem DVs.drop:∀{ds:List PyData}{vs:List V}(i:Nat),DVs K H W ds vs->DVs K H W (ds.drop i) (vs.drop i)
 | ds,vs,0,h=>h
 | [],vs,i+1,h=>by unfold DVs at h;subst h;exact DVs.nil
 | e::ds,vs,i+1,h=>by
   unfold DVs at h
   obtain⟨u,r,e',h1,h2⟩:=h
   subst e'
   exact DVs.drop i h2
theorem DVs.take:∀{ds:List PyData}{vs:List V}(i:Nat),DVs K H W ds vs->DVs K H W (ds.take i) (vs.take i)
 | ds,vs,0,h=>DVs.nil
 | [],vs,i+1,h=>by unfold DVs at h;subst h;exact DVs.nil
 | e::ds,vs,i+1,h=>by
   unfold DVs at h
   obtain⟨u,r,e',h1,h2⟩:=h
   subst e'
   exact DVs.cons h1 (DVs.take i h2)
theorem OM:∀{bs:List Bool}{vs:List V},DVs K H W (bs.map b1K) vs->vs=bs.map V.bl
 | [],vs,h=>by unfold DVs at h;exact h
 | b::bs,vs,h=>by
   simp only[zI] at h
   unfold DVs at h
   obtain⟨u,r,e',h1,h2⟩:=h
   unfold DV at h1
   subst e' h1
   rw[OM h2];rfl
theorem MD:∀{bs:List Str}{vs:List V},DVs K H W (bs.map a0W) vs->vs=bs.map V.str
 | [],vs,h=>by unfold DVs at h;exact h
 | b::bs,vs,h=>by
   simp only[zI] at h
   unfold DVs at h
   obtain⟨u,r,e',h1,h2⟩:=h
   unfold DV at h1
   subst e' h1
   rw[MD h2];rfl
end
section
variable {X:Cx}{pins:List (Addr×Obj)}{σ:St}{H:Hp}{s:Shared}{W:Addr->Prop}
mutual
theorem DV.reads (I:Inv X pins σ H s):∀{d:PyData}{v:V}{u:Value},d.canLay0=true->DV X.K H W d v->RelV v u->∃as,PySem.Reads s.heap u d as
 | .none,v,u,c,h,r=>by unfold DV at h;subst h;cases r;exact⟨_,.none⟩
 | .bool b,v,u,c,h,r=>by unfold DV at h;subst h;cases r;exact⟨_,.bool b⟩
 | .int i,v,u,c,h,r=>by unfold DV at h;subst h;obtain⟨t,rfl⟩:=r;exact⟨_,.int i t⟩
 | .str x,v,u,c,h,r=>by unfold DV at h;subst h;obtain⟨t,rfl⟩:=r;exact⟨_,.str x t⟩
 | .list ds,v,u,c,h,r=>by
   unfold DV at h
   obtain⟨a,vs,rfl,hs,hd⟩:=h
   cases r
   obtain⟨its,rv,⟨o,n,e,hc,_,dd⟩,_⟩:=I.list hs.sq
   obtain⟨as,q⟩:=DVs.reads I (by simpa [b5Z] using c) hd rv
   exact⟨_,.list e hc dd (by simpa using q)⟩
 | .tuple ds,v,u,c,h,r=>by
   unfold DV at h
   obtain⟨a,vs,rfl,hs,hd⟩:=h
   cases r
   obtain⟨its,rv,⟨o,e,hc,n,dd⟩,_⟩:=I.tuple hs.sq
   obtain⟨as,q⟩:=DVs.reads I (by simpa [b5Z] using c) hd rv
   exact⟨_,.tuple e hc dd (by simpa using q)⟩
 | .dict kvs,v,u,c,h,r=>by simp[b5Z] at c
theorem DVs.reads (I:Inv X pins σ H s):∀{ds:List PyData}{vs:List V}{us:List Value},b6Q ds=true->DVs X.K H W ds vs->Vals vs us->∃as,PySem.ReadsAll s.heap us ds as
 | [],vs,us,c,h,r=>by unfold DVs at h;subst h;cases r;exact⟨_,.nil⟩
 | d::ds,vs,us,c,h,r=>by
   unfold DVs at h
   obtain⟨v,q,rfl,h1,h2⟩:=h
   cases r with
   | cons r1 r2=>
     simp[b6Q] at c
     obtain⟨as,q1⟩:=DV.reads I c.1 h1 r1
     obtain⟨bs,q2⟩:=DVs.reads I c.2 h2 r2
     exact⟨_,.cons q1 q2⟩
end
def WH (K:Frg) (neg:Bool):R2:=fun x y H Q=>∃(W:Addr->Prop) (da db:PyData),DV K H W da x/\DV K H W db y/\zH da=true/\zH db=true/\Q (.bl (if neg then !a0X da db else a0X da db)) H
theorem iM (hu:X.A.units+64 < cLine):OpR X (compareOp .Eq) (WH X.K false):=by
 intro pins s σ H x y v u Q I rx ry h
 obtain⟨W,da,db,h1,h2,s1,s2,q⟩:=h
 obtain⟨as,r1⟩:=h1.reads I (zG s1) rx
 obtain⟨bs,r2⟩:=h2.reads I (zG s2) ry
 exact PySem.SeqAt.compareEq_shaped r1 r2 s1 s2 hu ⟨.bl _,H,I,rfl,q⟩
theorem iN (hu:X.A.units+64 < cLine):OpR X (compareOp .NotEq) (WH X.K true):=by
 intro pins s σ H x y v u Q I rx ry h
 obtain⟨W,da,db,h1,h2,s1,s2,q⟩:=h
 obtain⟨as,r1⟩:=h1.reads I (zG s1) rx
 obtain⟨bs,r2⟩:=h2.reads I (zG s2) ry
 exact PySem.SeqAt.compareNe_shaped r1 r2 s1 s2 hu ⟨.bl _,H,I,rfl,q⟩
end
end L2
namespace DL
open PySem PySem.Spec L2
abbrev St:=L2.St
inductive MO where
 | l (ds:List PyData)
 | d (kvs:List (PyData×PyData))
 | t (kvs:List (List Key×PyData))
 | x (C:Addr) (fs:List (Str×PyData))
abbrev Own:=Addr->Option MO
def Own.W (M:Own):Addr->Prop:=fun a=>M a≠none
def Own.put (M:Own) (a:Addr) (o:MO):Own:=fun b=>if b=a then some o else M b
def Own.del (M:Own) (a:Addr):Own:=fun b=>if b=a then none else M b
def Own.Sub (M N:Own):Prop:=∀a o,M a=some o->N a=some o
theorem zU {M:Own}{a:Addr}{o:MO}:M.put a o a=some o:=by unfold Own.put;rw[if_pos rfl]
theorem yH {M:Own}{a b:Addr}{o:MO}(h:b≠a):M.put a o b=M b:=by unfold Own.put;rw[if_neg h]
theorem yI {M:Own}{a:Addr}{o o':MO}:(M.put a o).put a o'=M.put a o':=by
 funext b;unfold Own.put;by_cases h:b=a <;> simp[h]
theorem yG {M:Own}{a:Addr}{o:MO}(h:M a=none):(M.put a o).del a=M:=by
 funext b;unfold Own.put Own.del
 by_cases e:b=a
 · subst e;simp[h]
 · simp[e]
theorem Own.put_self {M:Own}{a:Addr}{o:MO}(h:M a=some o):M.put a o=M:=by
 funext b;unfold Own.put
 by_cases e:b=a
 · subst e;simp[h]
 · simp[e]
theorem Own.del_put_ne {M:Own}{a b:Addr}{o:MO}(h:a≠b):(M.put a o).del b=(M.del b).put a o:=by
 funext c;unfold Own.put Own.del
 by_cases h1:c=b
 · subst h1;simp[b5J h]
 · simp[h1]
theorem zT (M:Own):M.Sub M:=fun _ _ h=>h
theorem Own.Sub.put {M N:Own}{a:Addr}{o:MO}(h:M.Sub N) (n:M a=none):M.Sub (N.put a o):=fun b x e=>by
 rw[yH (by rintro rfl;rw[n] at e;cases e)];exact h b x e
inductive DS where
 | d (x:PyData)
 | loc (a:Addr)
 | ty (n:String)
 | tl (ds:List PyData) (a:Addr)
def SI (K:Frg) (H:Hp) (M:Own):DS->V->Prop
 | .d x,v=>DV K H M.W x v
 | .loc a,v=>v = .ref a
 | .ty n,v=>v = .ty n
 | .tl ds a,v=>∃b vs,v = .ref b/\TW K H M.W b (vs++[.ref a])/\DVs K H M.W ds vs
def SIs (K:Frg) (H:Hp) (M:Own):List DS->List V->Prop
 | [],vs=>vs=[]
 | d::ds,vs=>∃v r,vs=v::r/\SI K H M d v/\SIs K H M ds r
def XI (K:Frg) (H:Hp) (W:Addr->Prop):Option Addr->List (Str×PyData)->Prop
 | none,[]=>True
 | some d,[(n,x)]=>∃v,¬W d/\H d=some (.xd [(n,v)])/\DV K H W x v
 | _,_=>False
theorem XI.grow {K:Frg}{W W':Addr->Prop}{H H':Hp}(g:Grow K W W' H H') {dd:Option Addr}{fs:List (Str×PyData)}(h:XI K H W dd fs):XI K H' W' dd fs:=by
 unfold XI at h ⊢
 split at h
 · trivial
 · obtain⟨v,nw,a,b⟩:=h
   exact⟨v,fun z=>(g.new _ z).elim nw fun q=>by(rw[a] at q;cases q),g.kept a nw (fun _ z=>nomatch z),b.grow g⟩
 · exact h.elim
def exK (a C:Addr) (dd:Option Addr):HO:=.ext fun h=>∃o vs,h.get? a=some o/\o.cls = .ref C/\o.dict=dd/\o.data = .fields vs
def DTV (K:Frg) (H:Hp) (W:Addr->Prop) (kvs:List (List Key×PyData)) (ks:List (List Key×V)):Prop:=ks.map (·.1)=kvs.map (·.1)/\DVs K H W (kvs.map (·.2)) (ks.map (·.2))
theorem DTV.grow {K:Frg}{W W':Addr->Prop}{H H':Hp}(g:Grow K W W' H H') {kvs:List (List Key×PyData)}{ks:List (List Key×V)}(h:DTV K H W kvs ks):DTV K H' W' kvs ks:=⟨h.1,h.2.grow g⟩
def OA1 (K:Frg) (H:Hp) (M:Own) (a:Addr):MO->Prop
 | .x C fs=>∃dd,H a=some (exK a C dd)/\XI K H M.W dd fs
 | .l ds=>∃vs,H a=some (.lst vs)/\DVs K H M.W ds vs
 | .d kvs=>∃ks,H a=some (.dK ks)/\DKV K H M.W kvs ks
 | .t kvs=>∃ks,H a=some (.dT ks)/\DTV K H M.W kvs ks
def OA (K:Frg) (H:Hp) (M:Own):Prop:=∀a o,M a=some o->OA1 K H M a o
structure Step (K:Frg) (M M':Own) (H H':Hp):Prop where
 grow:Grow K M.W M'.W H H'
structure Rel (K:Frg) (M:Own) (ρ:List (Option DS)) (σ:St) (H:Hp):Prop where
 own:OA K H M
 len:ρ.length=σ.length
 slot:∀(i:Nat) x,ρ[i]?=some (some x)->∃v,σ[i]?=some (some v)/\SI K H M x v
section
variable {K:Frg}{M M' M2:Own}{H H' H2:Hp}{ρ:List (Option DS)}{σ:St}
theorem Step.refl:Step K M M H H:=⟨Grow.refl⟩
theorem Step.trans (a:Step K M M' H H') (b:Step K M' M2 H' H2):Step K M M2 H H2:=⟨a.grow.trans b.grow⟩
theorem SI.step (st:Step K M M' H H'):∀{x:DS}{v:V},SI K H M x v->SI K H' M' x v
 | .d _,_,h=>DV.grow st.grow h
 | .loc _,_,h=>h
 | .ty _,_,h=>h
 | .tl _ _,_,⟨b,vs,e,h1,h2⟩=>⟨b,vs,e,h1.grow st.grow,h2.grow st.grow⟩
theorem Rel.step (R:Rel K M ρ σ H) (oa:OA K H' M') (st:Step K M M' H H'):Rel K M' ρ σ H':=
 ⟨oa,R.len,fun i x e=>let ⟨v,h1,h2⟩:=R.slot i x e;⟨v,h1,h2.step st⟩⟩
theorem Rel.set (R:Rel K M ρ σ H) {x:DS}{v:V}(h:SI K H M x v) (i:Nat):Rel K M (ρ.set i (some x)) (σ.set i (some v)) H:=by
 refine⟨R.own,by rw[List.length_set,List.length_set];exact R.len,fun j y e=>?_⟩
 rw[List.getElem?_set] at e ⊢
 by_cases hij:i=j
 · rw[if_pos hij] at e ⊢
   subst hij
   by_cases hl:i < ρ.length
   · rw[if_pos hl] at e
     cases e
     rw[if_pos (by rw[← R.len];exact hl)]
     exact⟨v,rfl,h⟩
   · rw[if_neg hl] at e;cases e
 · rw[if_neg hij] at e ⊢
   exact R.slot j y e
theorem OA.none (oa:OA K H M) {p:Addr}(h:H p=b3J):M p=b3J:=by
 cases e:M p with
 | none=>rfl
 | some o=>
   have:=oa p o e
   cases o <;> (obtain⟨vs,q,_⟩:=this;rw[h] at q;cases q)
theorem B0 {p:Addr}{o:HO}(W:Addr->Prop) (h:H p=b3J):Grow K W W H (upd H p o):=
 ⟨fun b u e _=>.inl (by rw[AG (AV e h)];exact e),fun _ w=>.inl w⟩
theorem OA.grow (oa:OA K H M) (g:Grow K M.W M.W H H') (hk:∀a o,M a=some o->H' a=H a):OA K H' M:=fun a o e=>by
 have q:=oa a o e
 cases o <;> (obtain⟨vs,q1,q2⟩:=q;exact⟨vs,by rw[hk a _ e];exact q1,q2.grow g⟩)
theorem OA.new {p:Addr}{o:HO}(oa:OA K H M) (h:H p=b3J):OA K (upd H p o) M:=oa.grow (B0 _ h) fun a x e=>by
 rw[AG (by rintro rfl;rw[oa.none h] at e;cases e)]
theorem UX {p:Addr}{vs:List V}{ds:List PyData}(oa:OA K H M) (h:H p=b3J) (hd:DVs K H M.W ds vs) :
   OA K (upd H p (.lst vs)) (M.put p (.l ds))/\Step K M (M.put p (.l ds)) H (upd H p (.lst vs)):=by
 have hM:=oa.none h
 have g:Grow K M.W (M.put p (.l ds)).W H (upd H p (.lst vs)):=⟨fun b u e _=>.inl (by rw[AG (AV e h)];exact e),fun b w=>by
   by_cases hb:b=p
   · subst hb;exact .inr h
   · left;unfold Own.W at w ⊢;rw[yH hb] at w;exact w⟩
 refine⟨fun a o e=>?_,⟨g⟩⟩
 · by_cases ha:a=p
   · subst ha;rw[zU] at e;cases e;exact⟨vs,AH,hd.grow g⟩
   · rw[yH ha] at e
     have q:=oa a o e
     cases o <;> (obtain⟨vs,q1,q2⟩:=q;exact⟨vs,by rw[AG ha];exact q1,q2.grow g⟩)
theorem K4 {p:Addr}{vs':List V}{ds':List PyData}{o:MO}(oa:OA K H M) (h:M p=some o) (hd:DVs K H M.W ds' vs') :
   OA K (upd H p (.lst vs')) (M.put p (.l ds'))/\Step K M (M.put p (.l ds')) H (upd H p (.lst vs')):=by
 have hw:∀b,(M.put p (.l ds')).W b->M.W b:=fun b w=>by
   unfold Own.W at w ⊢
   by_cases hb:b=p
   · subst hb;rw[h];simp
   · rw[yH hb] at w;exact w
 have g:Grow K M.W (M.put p (.l ds')).W H (upd H p (.lst vs')):=⟨fun b u e nw=>.inl (by
   rw[AG (by rintro rfl;exact nw (by unfold Own.W;rw[h];simp))];exact e),fun b w=>.inl (hw b w)⟩
 refine⟨fun a o e=>?_,⟨g⟩⟩
 · by_cases ha:a=p
   · subst ha;rw[zU] at e;cases e;exact⟨vs',AH,hd.grow g⟩
   · rw[yH ha] at e
     have q:=oa a o e
     cases o <;> (obtain⟨vs,q1,q2⟩:=q;exact⟨vs,by rw[AG ha];exact q1,q2.grow g⟩)
theorem BJ (hs:M'.Sub M):Grow K M.W M'.W H H:=⟨fun _ _ e _=>.inl e,fun b w=>.inl (by
 unfold Own.W at w ⊢
 cases e:M' b with
 | none=>exact absurd e w
 | some o=>rw[hs b o e];simp)⟩
theorem OA.sub (oa:OA K H M) (hs:M'.Sub M):OA K H M':=fun a o e=>by
 have q:=oa a o (hs a o e)
 cases o <;> (obtain⟨vs,q1,q2⟩:=q;exact⟨vs,q1,q2.grow (BJ hs)⟩)
theorem SI.sub (hs:M'.Sub M):∀{x:DS}{v:V},SI K H M x v->SI K H M' x v
 | .d _,_,h=>DV.grow (BJ hs) h
 | .loc _,_,h=>h
 | .ty _,_,h=>h
 | .tl _ _,_,⟨b,vs,e,h1,h2⟩=>⟨b,vs,e,h1.grow (BJ hs),h2.grow (BJ hs)⟩
end
def DE (K:Frg) (t:TE) (ρ:List (Option DS)) (M:Own) (Q:DS->Own->Prop):Prop:=
 ∀(σ:St) (H:Hp) (QQ:VK),Rel K M ρ σ H->(∀v H' x M',OA K H' M'->SI K H' M' x v->Step K M M' H H'->Q x M'->QQ v H')->t σ H QQ
def DT (K:Frg) (t:TT) (ρ:List (Option DS)) (M:Own) (Q:Bool->Own->Prop):Prop:=
 ∀(σ:St) (H:Hp) (QQ:Bool->Hp->Prop),Rel K M ρ σ H->(∀b H' M',OA K H' M'->Step K M M' H H'->Q b M'->QQ b H')->t σ H QQ
def DA (K:Frg) (t:TA) (ρ:List (Option DS)) (M:Own) (Q:List DS->Own->Prop):Prop:=
 ∀(σ:St) (H:Hp) (QQ:List V->Hp->Prop),Rel K M ρ σ H->(∀vs H' xs M',OA K H' M'->SIs K H' M' xs vs->Step K M M' H H'->Q xs M'->QQ vs H')->t σ H QQ
def DP (K:Frg) (t:TO) (ρ:List (Option DS)) (M:Own) (Q:Option Int->Own->Prop):Prop:=
 ∀(σ:St) (H:Hp) (QQ:Option Int->Hp->Prop),Rel K M ρ σ H->(∀b H' M',OA K H' M'->Step K M M' H H'->Q b M'->QQ b H')->t σ H QQ
structure EndsD where
 nx:List (Option DS)->Own->Prop
 rt:DS->Own->Prop
 bk:List (Option DS)->Own->Prop:=fun _ _=>False
 ct:List (Option DS)->Own->Prop:=fun _ _=>False
def DSt (K:Frg) (t:TS) (ρ:List (Option DS)) (M:Own) (D:EndsD):Prop:=
 ∀(σ:St) (H:Hp) (E:Ends),Rel K M ρ σ H->(∀ρ' M' σ' H',Rel K M' ρ' σ' H'->Step K M M' H H'->D.nx ρ' M'->E.nx σ' H')->(∀v H' x M',OA K H' M'->SI K H' M' x v->Step K M M' H H'->D.rt x M'->E.rt v H') ->
   (∀ρ' M' σ' H',Rel K M' ρ' σ' H'->Step K M M' H H'->D.bk ρ' M'->E.bk σ' H')->(∀ρ' M' σ' H',Rel K M' ρ' σ' H'->Step K M M' H H'->D.ct ρ' M'->E.ct σ' H')->t E σ H
def D1 (K:Frg) (r:V->Hp->VK->Prop) (x:DS) (M:Own) (Q:DS->Own->Prop):Prop:=
 ∀(H:Hp) (v:V) (QQ:VK),OA K H M->SI K H M x v->(∀w H' z M',OA K H' M'->SI K H' M' z w->Step K M M' H H'->Q z M'->QQ w H')->r v H QQ
def D2 (K:Frg) (r:R2) (x y:DS) (M:Own) (Q:DS->Own->Prop):Prop:=
 ∀(H:Hp) (v u:V) (QQ:VK),OA K H M->SI K H M x v->SI K H M y u->(∀w H' z M',OA K H' M'->SI K H' M' z w->Step K M M' H H'->Q z M'->QQ w H')->r v u H QQ
def DR (K:Frg) (r:List V->Hp->VK->Prop) (xs:List DS) (M:Own) (Q:DS->Own->Prop):Prop:=
 ∀(H:Hp) (vs:List V) (QQ:VK),OA K H M->SIs K H M xs vs->(∀w H' z M',OA K H' M'->SI K H' M' z w->Step K M M' H H'->Q z M'->QQ w H')->r vs H QQ
def DM (K:Frg) (r:V->List V->Hp->VK->Prop) (x:DS) (xs:List DS) (M:Own) (Q:DS->Own->Prop):Prop:=
 ∀(H:Hp) (v:V) (vs:List V) (QQ:VK),OA K H M->SI K H M x v->SIs K H M xs vs->(∀w H' z M',OA K H' M'->SI K H' M' z w->Step K M M' H H'->Q z M'->QQ w H')->r v vs H QQ
def DSl (K:Frg) (r:V->Option Int->Option Int->Hp->VK->Prop) (x:DS) (lo hi:Option Int) (M:Own) (Q:DS->Own->Prop):Prop:=
 ∀(H:Hp) (v:V) (QQ:VK),OA K H M->SI K H M x v->(∀w H' z M',OA K H' M'->SI K H' M' z w->Step K M M' H H'->Q z M'->QQ w H')->r v lo hi H QQ
def DTy (K:Frg) (T:String) (x:DS) (M:Own):Prop:=∀(H:Hp) (v:V),OA K H M->SI K H M x v->tyV K T v H
section
variable {K:Frg}{ρ:List (Option DS)}{M:Own}{Q:DS->Own->Prop}{QB:Bool->Own->Prop}{ta tb tc:TE}{tA tB':TT}{r r':R2}
theorem c5 {t:TE}{Q':DS->Own->Prop}(h:DE K t ρ M Q) (hq:∀x M',Q x M'->Q' x M'):DE K t ρ M Q':=fun σ H QQ R k=>h σ H QQ R fun v H' x M' a b c q=>k v H' x M' a b c (hq x M' q)
theorem iO {i:Nat}{x:DS}(e:ρ[i]?=some (some x)) (h:Q x M):DE K (bD i) ρ M Q:=fun σ H QQ R k=>by
 obtain⟨v,h1,h2⟩:=R.slot i x e
 exact⟨v,h1,k v H x M R.own h2 Step.refl h⟩
theorem iP {i:Int}(h:Q (.d (.int i)) M):DE K (tC (.int i)) ρ M Q:=fun σ H QQ R k=>k _ H (.d (.int i)) M R.own (by unfold SI DV;rfl) Step.refl h
theorem l5 {i:Bool}(h:Q (.d (.bool i)) M):DE K (tC (.bl i)) ρ M Q:=fun σ H QQ R k=>k _ H (.d (.bool i)) M R.own (by unfold SI DV;rfl) Step.refl h
theorem iQ {i:Str}(h:Q (.d (.str i)) M):DE K (tC (.str i)) ρ M Q:=fun σ H QQ R k=>k _ H (.d (.str i)) M R.own (by unfold SI DV;rfl) Step.refl h
theorem iR (h:Q (.d .none) M):DE K (tC .non) ρ M Q:=fun σ H QQ R k=>k _ H (.d .none) M R.own (by unfold SI DV;rfl) Step.refl h
theorem l6 {n:String}(h:Q (.ty n) M):DE K (tC (.ty n)) ρ M Q:=fun σ H QQ R k=>k _ H (.ty n) M R.own rfl Step.refl h
theorem l7 (h:DE K ta ρ M fun x M1=>DE K tb ρ M1 fun y M2=>D2 K r x y M2 Q):DE K (tOp r ta tb) ρ M Q:=fun σ H QQ R k=>
 h σ H _ R fun v H1 x M1 o1 s1 t1 h1=>h1 σ H1 _ (R.step o1 t1) fun u H2 y M2 o2 s2 t2 h2=>h2 H2 v u QQ o2 (s1.step t2) s2 fun w H3 z M3 o3 s3 t3 q=>k w H3 z M3 o3 s3 ((t1.trans t2).trans t3) q
theorem l8 {r:V->Hp->VK->Prop}(h:DE K ta ρ M fun x M1=>D1 K r x M1 Q):DE K (tUn r ta) ρ M Q:=fun σ H QQ R k=>
 h σ H _ R fun v H1 x M1 o1 s1 t1 h1=>h1 H1 v QQ o1 s1 fun w H3 z M3 o3 s3 t3 q=>k w H3 z M3 o3 s3 (t1.trans t3) q
theorem c6 (h:DE K ta ρ M fun x M1=>∃c,x = .d (.bool c)/\QB c M1):DT K (fC ta) ρ M QB:=fun σ H QQ R k=>
 h σ H _ R fun v H1 x M1 o1 s1 t1 h1=>by
   obtain⟨c,rfl,q⟩:=h1
   unfold SI DV at s1
   exact⟨c,s1,k c H1 M1 o1 t1 q⟩
theorem mB (h:DE K ta ρ M fun x M1=>∃c,x = .d (.bool c)/\QB c M1):DT K (L2.tB ta) ρ M QB:=fun σ H QQ R k=>
 h σ H _ R fun v H1 x M1 o1 s1 t1 h1=>by
   obtain⟨c,rfl,q⟩:=h1
   unfold SI DV at s1
   exact⟨c,s1,k c H1 M1 o1 t1 q⟩
theorem iS (h:DT K tA ρ M fun c M1=>if c=true then DT K tB' ρ M1 QB else QB false M1):DT K (kA tA tB') ρ M QB:=fun σ H QQ R k=>
 h σ H _ R fun c H1 M1 o1 t1 h1=>by
   cases c with
   | false=>rw[if_neg nft] at h1 ⊢;exact k _ H1 M1 o1 t1 h1
   | true=>rw[if_pos rfl] at h1 ⊢;exact h1 σ H1 QQ (R.step o1 t1) fun b H2 M2 o2 t2 q=>k b H2 M2 o2 (t1.trans t2) q
theorem l9 (h:DT K tA ρ M fun c M1=>if c=true then QB true M1 else DT K tB' ρ M1 QB):DT K (tOr tA tB') ρ M QB:=fun σ H QQ R k=>
 h σ H _ R fun c H1 M1 o1 t1 h1=>by
   cases c with
   | true=>rw[if_pos rfl] at h1 ⊢;exact k _ H1 M1 o1 t1 h1
   | false=>rw[if_neg nft] at h1 ⊢;exact h1 σ H1 QQ (R.step o1 t1) fun b H2 M2 o2 t2 q=>k b H2 M2 o2 (t1.trans t2) q
theorem iT (h:DT K tA ρ M fun c M1=>QB (!c) M1):DT K (kB tA) ρ M QB:=fun σ H QQ R k=>h σ H _ R fun c H1 M1 o1 t1 h1=>k _ H1 M1 o1 t1 h1
theorem iU (h:QB true M):DT K kZ ρ M QB:=fun σ H QQ R k=>k true H M R.own Step.refl h
theorem iV (h:DE K ta ρ M fun x M1=>∃c,x = .d (.bool c)/\if c=true then DE K tb ρ M1 Q else Q (.d (.bool false)) M1):DE K (eR ta tb) ρ M Q:=fun σ H QQ R k=>
 h σ H _ R fun v H1 x M1 o1 s1 t1 h1=>by
   obtain⟨c,rfl,q⟩:=h1
   unfold SI DV at s1
   refine⟨c,s1,?_⟩
   cases c with
   | false=>rw[if_neg nft] at q ⊢;exact k _ H1 _ M1 o1 (by unfold SI DV;rfl) t1 q
   | true=>rw[if_pos rfl] at q ⊢;exact q σ H1 QQ (R.step o1 t1) fun w H2 z M2 o2 s2 t2 q=>k w H2 z M2 o2 s2 (t1.trans t2) q
theorem lA (h:DT K tA ρ M fun c M1=>if c=true then DE K ta ρ M1 Q else DE K tb ρ M1 Q):DE K (tIf tA ta tb) ρ M Q:=fun σ H QQ R k=>
 h σ H _ R fun c H1 M1 o1 t1 h1=>by
   cases c with
   | true=>rw[if_pos rfl] at h1 ⊢;exact h1 σ H1 QQ (R.step o1 t1) fun w H2 z M2 o2 s2 t2 q=>k w H2 z M2 o2 s2 (t1.trans t2) q
   | false=>rw[if_neg nft] at h1 ⊢;exact h1 σ H1 QQ (R.step o1 t1) fun w H2 z M2 o2 s2 t2 q=>k w H2 z M2 o2 s2 (t1.trans t2) q
variable {QL:List DS->Own->Prop}{tl:TA}
theorem iW (h:QL [] M):DA K kR ρ M QL:=fun σ H QQ R k=>k [] H [] M R.own rfl Step.refl h
theorem c7 (h:DE K ta ρ M fun x M1=>DA K tl ρ M1 fun xs M2=>QL (x::xs) M2):DA K (fD ta tl) ρ M QL:=fun σ H QQ R k=>
 h σ H _ R fun v H1 x M1 o1 s1 t1 h1=>h1 σ H1 _ (R.step o1 t1) fun vs H2 xs M2 o2 s2 t2 q=>k (v::vs) H2 (x::xs) M2 o2 ⟨v,vs,rfl,s1.step t2,s2⟩ (t1.trans t2) q
def NS:List DS->Option (List PyData)
 | []=>some []
 | .d x::r=>match NS r with
   | some l=>some (x::l)
   | none=>none
 | .loc _::_=>none
 | .ty _::_=>none
 | .tl _ _::_=>none
theorem SIs.data {H:Hp}:∀{xs:List DS}{ds:List PyData}{vs:List V},NS xs=some ds->SIs K H M xs vs->DVs K H M.W ds vs
 | [],ds,vs,e,h=>by cases e;cases h;exact DVs.nil
 | .d x::r,ds,vs,e,⟨v,q,e2,h1,h2⟩=>by
   cases e3:NS r with
   | none=>rw[NS,e3] at e;cases e
   | some es=>
     rw[NS,e3] at e;cases e
     subst e2
     exact DVs.cons h1 (SIs.data e3 h2)
 | .loc _::_,ds,vs,e,_=>by cases e
 | .ty _::_,ds,vs,e,_=>by cases e
 | .tl _ _::_,ds,vs,e,_=>by cases e
theorem SIs.length {H:Hp}:∀{xs:List DS}{vs:List V},SIs K H M xs vs->vs.length=xs.length
 | [],vs,h=>by cases h;rfl
 | _::r,vs,⟨v,q,e2,h1,h2⟩=>by subst e2;simp[SIs.length h2]
theorem iX (h:DA K tl ρ M fun xs M1=>∃ds,NS xs=some ds/\ds.length<=sizeLine/\Q (.d (.tuple ds)) M1):DE K (T0 tl) ρ M Q:=fun σ H QQ R k=>
 h σ H _ R fun vs H1 xs M1 o1 s1 t1 h1=>by
   obtain⟨ds,e,hz,q⟩:=h1
   have hd:=s1.data e
   refine⟨by rw[hd.length];exact hz,fun p hp=>?_⟩
   have g:Grow K M1.W M1.W H1 (upd H1 p (.tup vs)):=B0 _ hp
   refine k _ _ (.d (.tuple ds)) M1 (o1.new hp) ?_ (t1.trans ⟨g⟩) q
   unfold SI DV
   exact⟨p,vs,rfl,.inl ⟨fun w=>w (o1.none hp),.inl AH⟩,hd.grow g⟩
theorem C8 (h:DA K tl ρ M fun xs M1=>∃ds,NS xs=some ds/\ds.length<=sizeLine/\Q (.d (.list ds)) M1):DE K (h9 tl) ρ M Q:=fun σ H QQ R k=>
 h σ H _ R fun vs H1 xs M1 o1 s1 t1 h1=>by
   obtain⟨ds,e,hz,q⟩:=h1
   have hd:=s1.data e
   refine⟨by rw[hd.length];exact hz,fun p hp=>?_⟩
   have g:Grow K M1.W M1.W H1 (upd H1 p (.lst vs)):=B0 _ hp
   refine k _ _ (.d (.list ds)) M1 (o1.new hp) ?_ (t1.trans ⟨g⟩) q
   unfold SI DV
   exact⟨p,vs,rfl,.inl ⟨fun w=>w (o1.none hp),.inl AH⟩,hd.grow g⟩
theorem LM (h:DA K tl ρ M fun xs M1=>∃ds,NS xs=some ds/\ds.length<=sizeLine/\∀p,M1 p=none->Q (.loc p) (M1.put p (.l ds))):DE K (h9 tl) ρ M Q:=fun σ H QQ R k=>
 h σ H _ R fun vs H1 xs M1 o1 s1 t1 h1=>by
   obtain⟨ds,e,hz,q⟩:=h1
   have hd:=s1.data e
   refine⟨by rw[hd.length];exact hz,fun p hp=>?_⟩
   obtain⟨a,b⟩:=UX o1 hp hd
   exact k _ _ (.loc p) _ a rfl (t1.trans b) (q p (o1.none hp))
theorem lB {r:List V->Hp->VK->Prop}(h:DA K tl ρ M fun xs M1=>DR K r xs M1 Q):DE K (tCB r tl) ρ M Q:=fun σ H QQ R k=>
 h σ H _ R fun vs H1 xs M1 o1 s1 t1 h1=>h1 H1 vs QQ o1 s1 fun w H2 z M2 o2 s2 t2 q=>k w H2 z M2 o2 s2 (t1.trans t2) q
structure FSp where
 pre:List DS->Own->Prop
 post:List DS->Own->DS->Own->Prop
def spD (K:Frg) (n:Nat) (S:FSp):Sp:=fun vs H Q _=>∃xs M,xs.length=n/\OA K H M/\SIs K H M xs vs/\S.pre xs M/\∀x M' v H',S.post xs M x M'->Step K M M' H H'->OA K H' M'->SI K H' M' x v->Q v H'
theorem c8 {n:Nat}{S:FSp}:∀vs H Q E,spD K n S vs H Q E->vs.length=n:=fun vs H Q E ⟨xs,M,hl,_,h,_⟩=>by rw[h.length,hl]
theorem c9 {n:Nat}{S:FSp}{E:XK}(h:DA K tl ρ M fun xs M1=>xs.length=n/\S.pre xs M1/\∀x M',S.post xs M1 x M'->Q x M'):DE K (UQ (spD K n S) [] E tl) ρ M Q:=fun σ H QQ R k=>
 h σ H _ R fun vs H1 xs M1 o1 s1 t1 ⟨h0,h1,h2⟩=>by
   show spD K n S (vs++[]) H1 QQ E
   rw[a3K]
   exact⟨xs,M1,h0,o1,s1,h1,fun x M' v H' p st oa si=>k v H' x M' oa si (t1.trans st) (h2 x M' p)⟩
theorem UY {T:String}{r:V->List V->Hp->VK->Prop}(h:DE K ta ρ M fun x M1=>DTy K T x M1/\DA K tl ρ M1 fun xs M2=>DM K r x xs M2 Q):DE K (tBM K T r ta tl) ρ M Q:=fun σ H QQ R k=>
 h σ H _ R fun v H1 x M1 o1 s1 t1 ⟨h0,h1⟩=>⟨h0 H1 v o1 s1,h1 σ H1 _ (R.step o1 t1) fun vs H2 xs M2 o2 s2 t2 h2=>h2 H2 v vs QQ o2 (s1.step t2) s2 fun w H3 z M3 o3 s3 t3 q=>k w H3 z M3 o3 s3 ((t1.trans t2).trans t3) q⟩
theorem cA {QP:Option Int->Own->Prop}(h:QP none M):DP K US ρ M QP:=fun σ H QQ R k=>k _ H M R.own Step.refl h
theorem cB {QP:Option Int->Own->Prop}(h:DE K ta ρ M fun x M1=>∃i,x = .d (.int i)/\QP (some i) M1):DP K (fE ta) ρ M QP:=fun σ H QQ R k=>
 h σ H _ R fun v H1 x M1 o1 s1 t1 h1=>by
   obtain⟨i,rfl,q⟩:=h1
   unfold SI DV at s1
   exact⟨i,s1,k _ H1 M1 o1 t1 q⟩
theorem lC {r:V->Option Int->Option Int->Hp->VK->Prop}{tl th:TO}(h:DE K ta ρ M fun x M1=>DP K tl ρ M1 fun lo M2=>DP K th ρ M2 fun hi M3=>DSl K r x lo hi M3 Q):DE K (tSl r ta tl th) ρ M Q:=fun σ H QQ R k=>
 h σ H _ R fun v H1 x M1 o1 s1 t1 h1=>h1 σ H1 _ (R.step o1 t1) fun lo H2 M2 o2 t2 h2=>h2 σ H2 _ (R.step o2 (t1.trans t2)) fun hi H3 M3 o3 t3 h3=>h3 H3 v QQ o3 (s1.step (t2.trans t3)) fun w H4 z M4 o4 s4 t4 q=>k w H4 z M4 o4 s4 (((t1.trans t2).trans t3).trans t4) q
variable {D:EndsD}{t u:TS}
theorem UZ (h:D.nx ρ M):DSt K eT ρ M D:=fun σ H E R k1 _ _ _=>k1 ρ M σ H R Step.refl h
theorem Y8 (h:DE K ta ρ M D.rt):DSt K (kC ta) ρ M D:=fun σ H E R _ k2 _ _=>h σ H E.rt R fun v H' x M' a b c q=>k2 v H' x M' a b c q
theorem V0 (h:DE K ta ρ M fun _ M1=>D.nx ρ M1):DSt K (eU ta) ρ M D:=fun σ H E R k1 _ _ _=>h σ H _ R fun v H' x M' a b c q=>k1 ρ M' σ H' (R.step a c) c q
theorem Y9 {i:Nat}(h:DE K ta ρ M fun x M1=>D.nx (ρ.set i (some x)) M1):DSt K (bG ta (LT i)) ρ M D:=fun σ H E R k1 _ _ _=>
 h σ H _ R fun v H' x M' a b c q=>k1 _ M' _ H' ((R.step a c).set b i) c q
theorem V1 {i:Nat}(h:DE K ta ρ M fun x M1=>D.nx (ρ.set i (some x)) M1):DSt K (fun D σ H=>ta σ H fun v H'=>D.nx (σ.set i (some v)) H') ρ M D:=fun σ H E R k1 _ _ _=>
 h σ H _ R fun v H' x M' a b c q=>k1 _ M' _ H' ((R.step a c).set b i) c q
theorem YA (h:DSt K t ρ M { D with nx:=fun ρ1 M1=>DSt K u ρ1 M1 D }):DSt K (gM t u) ρ M D:=fun σ H E R k1 k2 k3 k4=>by
 refine h σ H { E with nx:=fun σ' H'=>u E σ' H' } R (fun ρ1 M1 σ1 H1 R1 t1 q=>?_) k2 k3 k4
 exact q σ1 H1 E R1 (fun a b c d e f g=>k1 a b c d e (t1.trans f) g) (fun a b c d e f g q=>k2 a b c d e f (t1.trans g) q) (fun a b c d e f g=>k3 a b c d e (t1.trans f) g) (fun a b c d e f g=>k4 a b c d e (t1.trans f) g)
theorem lD (h:DT K tA ρ M fun c M1=>if c=true then DSt K t ρ M1 D else DSt K u ρ M1 D):DSt K (kD tA t u) ρ M D:=fun σ H E R k1 k2 k3 k4=>
 h σ H _ R fun c H1 M1 o1 t1 h1=>by
   have go:∀{w:TS},DSt K w ρ M1 D->w E σ H1:=fun q=>q σ H1 E (R.step o1 t1) (fun a b c d e f g=>k1 a b c d e (t1.trans f) g) (fun a b c d e f g q=>k2 a b c d e f (t1.trans g) q) (fun a b c d e f g=>k3 a b c d e (t1.trans f) g) (fun a b c d e f g=>k4 a b c d e (t1.trans f) g)
   cases c with
   | true=>rw[if_pos rfl] at h1 ⊢;exact go h1
   | false=>rw[if_neg nft] at h1 ⊢;exact go h1
theorem cC {D':EndsD}(h:DSt K t ρ M D) (h1:∀ρ' M',D.nx ρ' M'->D'.nx ρ' M') (h2:∀x M',D.rt x M'->D'.rt x M') (h3:∀ρ' M',D.bk ρ' M'->D'.bk ρ' M') (h4:∀ρ' M',D.ct ρ' M'->D'.ct ρ' M'):DSt K t ρ M D':=
 fun σ H E R k1 k2 k3 k4=>h σ H E R (fun a b c d e f g=>k1 a b c d e f (h1 _ _ g)) (fun a b c d e f g q=>k2 a b c d e f g (h2 _ _ q)) (fun a b c d e f g=>k3 a b c d e f (h3 _ _ g)) (fun a b c d e f g=>k4 a b c d e f (h4 _ _ g))
theorem WI {i:Nat}{a:Addr}{ds:List PyData}(e:ρ[i]?=some (some (.loc a))) (m:M a=some (.l ds)) (h:DSt K t (ρ.set i (some (.d (.list ds)))) (M.del a) D):DSt K t ρ M D:=fun σ H E R k1 k2 k3 k4=>by
 have hs:(M.del a).Sub M:=fun b o q=>by
   unfold Own.del at q
   by_cases hb:b=a
   · rw[if_pos hb] at q;cases q
   · rw[if_neg hb] at q;exact q
 have st:Step K M (M.del a) H H:=⟨BJ hs⟩
 obtain⟨v,e1,e2⟩:=R.slot i _ e
 obtain⟨vs,q1,q2⟩:=R.own a _ m
 have R1:Rel K (M.del a) ρ σ H:=R.step (R.own.sub hs) st
 have R2:=R1.set (x:=.d (.list ds)) (v:=v) (by
   unfold SI DV
   refine⟨a,vs,e2,.inl ⟨fun w=>w (by unfold Own.del;rw[if_pos rfl]),.inl q1⟩,q2.grow (BJ hs)⟩) i
 have e3:σ.set i (some v)=σ:=by
   apply b1V
   intro j
   rw[List.getElem?_set]
   by_cases hij:i=j
   · subst hij
     rw[if_pos rfl,e1]
     split
     · rfl
     · rename_i hl
       rw[a0J (by omega)] at e1;cases e1
   · rw[if_neg hij]
 rw[e3] at R2
 exact h σ H E R2 (fun a b c d e f g=>k1 a b c d e (st.trans f) g) (fun a b c d e f g q=>k2 a b c d e f (st.trans g) q) (fun a b c d e f g=>k3 a b c d e (st.trans f) g) (fun a b c d e f g=>k4 a b c d e (st.trans f) g)
end
end DL
namespace DL
open PySem PySem.Spec L2
section
variable {K:Frg}{ρ:List (Option DS)}{M:Own}{Q:DS->Own->Prop}{H:Hp}
theorem BA {i:Int}{v:V}(h:SI K H M (.d (.int i)) v):v = .int i:=by unfold SI DV at h;exact h
theorem fQ {i:Bool}{v:V}(h:SI K H M (.d (.bool i)) v):v = .bl i:=by unfold SI DV at h;exact h
theorem D8 {i:Str}{v:V}(h:SI K H M (.d (.str i)) v):v = .str i:=by unfold SI DV at h;exact h
theorem YB {v:V}(h:SI K H M (.d .none) v):v = .non:=by unfold SI DV at h;exact h
theorem BS {i:Int}:SI K H M (.d (.int i)) (.int i):=by unfold SI DV;rfl
theorem AM {i:Bool}:SI K H M (.d (.bool i)) (.bl i):=by unfold SI DV;rfl
theorem FA {i:Str}:SI K H M (.d (.str i)) (.str i):=by unfold SI DV;rfl
theorem lE {g:Int->Int->Int}{i j:Int}(q:Q (.d (.int (g i j))) M):D2 K (rI0 fun i j=>.int (g i j)) (.d (.int i)) (.d (.int j)) M Q:=fun H v u QQ oa s1 s2 k=>by
 rw[BA s1,BA s2];exact⟨i,j,rfl,rfl,k _ H _ M oa BS Step.refl q⟩
theorem lG {g:Int->Int->Bool}{i j:Int}(q:Q (.d (.bool (g i j))) M):D2 K (rI0 fun i j=>.bl (g i j)) (.d (.int i)) (.d (.int j)) M Q:=fun H v u QQ oa s1 s2 k=>by
 rw[BA s1,BA s2];exact⟨i,j,rfl,rfl,k _ H _ M oa AM Step.refl q⟩
theorem lH {C:Int->Int->Prop}{g:Int->Int->Int}{i j:Int}(c:C i j) (q:Q (.d (.int (g i j))) M):D2 K (rI C fun i j=>.int (g i j)) (.d (.int i)) (.d (.int j)) M Q:=fun H v u QQ oa s1 s2 k=>by
 rw[BA s1,BA s2];exact⟨i,j,rfl,rfl,c,k _ H _ M oa BS Step.refl q⟩
theorem mD {g:Int->Int}{i:Int}(q:Q (.d (.int (g i))) M):D1 K (rU fun i=>.int (g i)) (.d (.int i)) M Q:=fun H v QQ oa s1 k=>by
 rw[BA s1];exact⟨i,rfl,k _ H _ M oa BS Step.refl q⟩
theorem cD {i j:Str}(hz:i.length+j.length<=sizeLine) (q:Q (.d (.str (i++j))) M) :
   D2 K (fun x y H Q=>∃i j,x = .str i/\y = .str j/\i.length+j.length<=sizeLine/\Q (.str (i++j)) H) (.d (.str i)) (.d (.str j)) M Q:=fun H v u QQ oa s1 s2 k=>by
 rw[D8 s1,D8 s2];exact⟨i,j,rfl,rfl,hz,k _ H _ M oa FA Step.refl q⟩
theorem AT {neg:Bool}{a b:PyData}(ha:zH a=true) (hb:zH b=true) (q:Q (.d (.bool (if neg then !a0X a b else a0X a b))) M):D2 K (WH K neg) (.d a) (.d b) M Q:=fun H v u QQ oa s1 s2 k=>
 ⟨M.W,a,b,s1,s2,ha,hb,k _ H _ M oa AM Step.refl q⟩
theorem RA (x:Str) (ys:List Str):inV (.str x) (ys.map V.str)=decide (x∈ys):=by
 unfold inV
 rw[b4J,b7W,decide_eq_true_iff]
 constructor
 · rintro⟨y,hy,e⟩
   obtain⟨z,hz,rfl⟩:=zL.mp hy
   have:z=x:=by simpa [eqV] using e
   subst this;exact hz
 · intro h
   exact⟨.str x,zL.mpr ⟨x,h,rfl⟩,by simp[eqV]⟩
theorem iY {neg:Bool}{x:Str}{ys:List Str}(q:Q (.d (.bool (if neg then !decide (x∈ys) else decide (x∈ys)))) M):D2 K (rIn K neg) (.d (.str x)) (.d (.list (ys.map .str))) M Q:=fun H v u QQ oa s1 s2 k=>by
 rw[D8 s1]
 unfold SI DV at s2
 obtain⟨a,vs,rfl,hl,hd⟩:=s2
 have e:=MD hd
 subst e
 exact⟨a,_,rfl,.inl hl.sq,rfl,by simp[HS],k _ H (.d (.bool (if neg then !decide (x∈ys) else decide (x∈ys)))) M oa (by rw[RA];exact AM) Step.refl q⟩
theorem T9 {W:Addr->Prop}{ds:List PyData}{vs:List V}{i:Int}{d:PyData}(h:DVs K H W ds vs) (e:atI ds i=some d):∃v,atI vs i=some v/\DV K H W d v:=by
 unfold atI at e ⊢
 rw[h.length]
 cases hx:ixN ds.length i with
 | none=>rw[hx] at e;cases e
 | some j=>rw[hx] at e;simpa using h.get' (by simpa using e)
theorem iZ {ds:List PyData}{i:Int}{d:PyData}(e:atI ds i=some d) (q:Q (.d d) M):D2 K (bM K) (.d (.list ds)) (.d (.int i)) M Q:=fun H v u QQ oa s1 s2 k=>by
 rw[BA s2]
 unfold SI DV at s1
 obtain⟨a,vs,rfl,hl,hd⟩:=s1
 obtain⟨w,h1,h2⟩:=T9 hd e
 exact⟨a,vs,i,w,rfl,rfl,hl.sq,h1,k _ H (.d d) M oa h2 Step.refl q⟩
theorem j0 {ds:List PyData}{i:Int}{d:PyData}(e:atI ds i=some d) (q:Q (.d d) M):D2 K (i0 K) (.d (.tuple ds)) (.d (.int i)) M Q:=fun H v u QQ oa s1 s2 k=>by
 rw[BA s2]
 unfold SI DV at s1
 obtain⟨a,vs,rfl,hl,hd⟩:=s1
 obtain⟨w,h1,h2⟩:=T9 hd e
 exact⟨a,vs,i,w,rfl,rfl,hl.sq,h1,k _ H (.d d) M oa h2 Step.refl q⟩
theorem j1 {a:Addr}{ds:List PyData}{i:Int}{d:PyData}(m:M a=some (.l ds)) (e:atI ds i=some d) (q:Q (.d d) M):D2 K (bM K) (.loc a) (.d (.int i)) M Q:=fun H v u QQ oa s1 s2 k=>by
 rw[BA s2]
 unfold SI at s1
 subst s1
 obtain⟨vs,h0,hd⟩:=oa a _ m
 obtain⟨w,h1,h2⟩:=T9 hd e
 exact⟨a,vs,i,w,rfl,rfl,SqL.of h0,h1,k _ H (.d d) M oa h2 Step.refl q⟩
theorem j3 {z:Str}{i:Int}{c:Nat}(hz:z.length<=sizeLine) (e:atI z.cps.toList i=some c) (q:Q (.d (.str ⟨#[c]⟩)) M):D2 K i5 (.d (.str z)) (.d (.int i)) M Q:=fun H v u QQ oa s1 s2 k=>by
 rw[BA s2,D8 s1]
 exact⟨z,i,c,rfl,rfl,hz,e,k _ H _ M oa FA Step.refl q⟩
theorem EG {r r':R2}{x y:DS}(h:D2 K r x y M Q):D2 K (fun x y H Q=>r x y H Q∨r' x y H Q) x y M Q:=fun H v u QQ oa s1 s2 k=>.inl (h H v u QQ oa s1 s2 k)
theorem FO {r r':R2}{x y:DS}(h:D2 K r' x y M Q):D2 K (fun x y H Q=>r x y H Q∨r' x y H Q) x y M Q:=fun H v u QQ oa s1 s2 k=>.inr (h H v u QQ oa s1 s2 k)
theorem j4 {as bs:List PyData}(hz:as.length+bs.length<=sizeLine) (q:Q (.d (.list (as++bs))) M):D2 K (fun x y H Q=>∃a b xs ys,x = .ref a/\y = .ref b/\SqL K H a xs/\SqL K H b ys/\xs.length+ys.length<=sizeLine/\∀p,H p=none->Q (.ref p) (upd H p (.lst (xs++ys)))) (.d (.list as)) (.d (.list bs)) M Q:=fun H v u QQ oa s1 s2 k=>by
 unfold SI DV at s1 s2
 obtain⟨a,vs,rfl,hl,hd⟩:=s1
 obtain⟨b,us,rfl,hl2,hd2⟩:=s2
 refine⟨a,b,vs,us,rfl,rfl,hl.sq,hl2.sq,by rw[hd.length,hd2.length];exact hz,fun p hp=>?_⟩
 have g:Grow K M.W M.W H (upd H p (.lst (vs++us))):=B0 _ hp
 refine k _ _ (.d (.list (as++bs))) M (oa.new hp) ?_ ⟨g⟩ q
 unfold SI DV
 exact⟨p,_,rfl,.inl ⟨fun w=>w (oa.none hp),.inl AH⟩,(hd.append hd2).grow g⟩
theorem cF {ds:List PyData}(q:Q (.d (.int ds.length)) M):DR K (fun xs H Q=>∃x n,xs=[x]/\bI K x H n/\Q (.int (n:Nat)) H) [.d (.list ds)] M Q:=fun H vs QQ oa s k=>by
 obtain⟨v,r,rfl,h1,h2⟩:=s
 cases h2
 unfold SI DV at h1
 obtain⟨a,vs,rfl,hl,hd⟩:=h1
 exact⟨_,_,rfl,.inl ⟨vs,hl.sq,rfl⟩,k _ H (.d (.int ds.length)) M oa (by rw[hd.length];exact BS) Step.refl q⟩
theorem cG {ds:List PyData}(q:Q (.d (.int ds.length)) M):DR K (fun xs H Q=>∃x n,xs=[x]/\bI K x H n/\Q (.int (n:Nat)) H) [.d (.tuple ds)] M Q:=fun H vs QQ oa s k=>by
 obtain⟨v,r,rfl,h1,h2⟩:=s
 cases h2
 unfold SI DV at h1
 obtain⟨a,vs,rfl,hl,hd⟩:=h1
 exact⟨_,_,rfl,.inr ⟨vs,hl.sq,rfl⟩,k _ H (.d (.int ds.length)) M oa (by rw[hd.length];exact BS) Step.refl q⟩
theorem j5 {bs:List Bool}(q:Q (.d (.bool (bs.any id))) M):DR K (fun xs H Q=>∃(p:Addr) (bs:List Bool),xs=[.ref p]/\SqL K H p (bs.map V.bl)/\Q (.bl (bs.any id)) H) [.d (.list (bs.map .bool))] M Q:=fun H vs QQ oa s k=>by
 obtain⟨v,r,rfl,h1,h2⟩:=s
 cases h2
 unfold SI DV at h1
 obtain⟨a,vs,rfl,hl,hd⟩:=h1
 rw[OM hd] at hl
 exact⟨a,bs,rfl,hl.sq,k _ H _ M oa AM Step.refl q⟩
theorem cH {z:Str}:DTy K "str" (.d (.str z)) M:=fun H v _ s=>by rw[D8 s];exact rfl
theorem V2 {a:Addr}{ds:List PyData}(m:M a=some (.l ds)):DTy K "list" (.loc a) M:=fun H v oa s=>by
 unfold SI at s
 subst s
 obtain⟨vs,h0,hd⟩:=oa a _ m
 exact .inl ⟨rfl,vs,SqL.of h0⟩
theorem OO {a:Addr}{ds:List PyData}{d:PyData}(m:M a=some (.l ds)) (hz:ds.length < sizeLine) (q:Q (.d .none) (M.put a (.l (ds++[d])))):DM K P9 (.loc a) [.d d] M Q:=fun H v vs QQ oa s1 s2 k=>by
 obtain⟨u,r,rfl,h1,h2⟩:=s2
 cases h2
 unfold SI at s1
 subst s1
 obtain⟨us,h0,hd⟩:=oa a _ m
 obtain⟨x,y⟩:=K4 oa m (hd.append (DVs.cons h1 DVs.nil))
 exact⟨a,us,u,rfl,rfl,h0,by rw[hd.length];exact hz,k _ _ (.d .none) _ x (by unfold SI DV;rfl) y q⟩
theorem cI {z:Str}{lo hi:Option Int}(hz:z.length<=sizeLine) (q:Q (.d (.str (a0V z lo hi))) M):DSl K iK (.d (.str z)) lo hi M Q:=fun H v QQ oa s1 k=>by
 rw[D8 s1]
 exact⟨z,rfl,hz,k _ H _ M oa FA Step.refl q⟩
def D9 (xs:List PyData) (lo hi:Option Int):List PyData:=(xs.drop (HT.sIx xs.length 0 lo)).take (HT.sIx xs.length xs.length hi - HT.sIx xs.length 0 lo)
theorem YC {ds:List PyData}{lo hi:Option Int}(q:Q (.d (.list (D9 ds lo hi))) M):DSl K (i8 K) (.d (.list ds)) lo hi M Q:=fun H v QQ oa s1 k=>by
 unfold SI DV at s1
 obtain⟨a,vs,rfl,hl,hd⟩:=s1
 refine⟨a,vs,rfl,hl.sq,fun p hp=>?_⟩
 have g:Grow K M.W M.W H (upd H p (.lst (IL vs lo hi))):=B0 _ hp
 have key:DVs K H M.W (D9 ds lo hi) (IL vs lo hi):=by
   unfold D9 IL
   rw[hd.length]
   exact(hd.drop _).take _
 refine k _ _ (.d (.list (D9 ds lo hi))) M (oa.new hp) ?_ ⟨g⟩ q
 unfold SI DV
 exact⟨p,_,rfl,.inl ⟨fun w=>w (oa.none hp),.inl AH⟩,key.grow g⟩
end
end DL
namespace DL
open PySem PySem.Spec L2
structure WD (K:Frg) (J:It) (ds:List PyData) (H1:Hp) (M1:Own):Prop where
 go:∀(i:Nat) H' M',i < ds.length->OA K H' M'->Step K M1 M' H1 H'->J.go i H'
 stop:∀H' M',OA K H' M'->Step K M1 M' H1 H'->J.stop ds.length H'
 yld:∀(i:Nat) H' M' x H2,OA K H' M'->Step K M1 M' H1 H'->i < ds.length->J.yld i H' x H2->OA K H2 M'/\Step K M' M' H' H2/\∃d,ds[i]?=some d/\DV K H2 M'.W d x
def DI (K:Frg) (wi:TI) (ρ:List (Option DS)) (M:Own) (Q:List PyData->Own->Prop):Prop:=
 ∀(σ:St) (H:Hp) (R:It->Hp->Prop),Rel K M ρ σ H->(∀J ds H1 M1,OA K H1 M1->Step K M M1 H H1->WD K J ds H1 M1->Q ds M1->R J H1)->wi σ H R
def DG (K:Frg) (g:TG) (d:PyData) (ρ:List (Option DS)) (M:Own) (P:List (Option DS)->Own->Prop):Prop:=
 ∀(σ:St) (H:Hp) (v:V) (QQ:St->Hp->Prop),Rel K M ρ σ H->DV K H M.W d v->(∀ρ' M' σ' H',Rel K M' ρ' σ' H'->Step K M M' H H'->P ρ' M'->QQ σ' H')->g v σ H QQ
def V3 (g:TG) (T:List Nat):Prop:=∀(v:V) (σ:St) (H:Hp) (QQ:St->Hp->Prop),g v σ H (fun σ2 H2=>(∀i,i∉T->σ2[i]?=σ[i]?)->QQ σ2 H2)->g v σ H QQ
section
variable {K:Frg}{ρ:List (Option DS)}{M:Own}{D:EndsD}{tl:TE}{tb:TS}{i:Nat}{QI:List PyData->Own->Prop}{g:TG}{wi:TI}
def BK (lo:Int) (n:Nat):List PyData:=(a1X n).map fun(i:Nat)=>.int (lo+i)
theorem LN {ta:TA}(h:DA K ta ρ M fun xs M1=>∃j:Int,xs=[.d (.int j)]/\-(2 ^ 62)<=j/\j < 2 ^ 62/\QI (BK 0 j.toNat) M1):DI K (eV ta) ρ M QI:=fun σ H R Rl k=>
 h σ H _ Rl fun vs H1 xs M1 o1 s1 t1 ⟨j,e,h1,h2,q⟩=>by
   subst e
   obtain⟨v,r,rfl,h3,h4⟩:=s1
   cases h4
   rw[show v = .int j by unfold SI DV at h3;exact h3]
   have hlen:(BK 0 j.toNat).length=j.toNat:=by simp[BK]
   refine⟨j,rfl,h1,h2,k _ (BK 0 j.toNat) H1 M1 o1 t1 ⟨fun i H' M' hi oa st=>?_,fun H' M' oa st=>?_,fun i H' M' x H2 oa st hi y=>?_⟩ q⟩
   · show i < j.toNat;rw[← hlen];exact hi
   · show j.toNat<=(BK 0 j.toNat).length;rw[hlen];exact zR _
   · obtain⟨rfl,rfl⟩:=y
     refine⟨oa,Step.refl,.int (0+i),?_,by unfold DV;rfl⟩
     unfold BK
     rw[zF]
     rw[hlen] at hi
     simp[hi]
theorem cJ {d:PyData}{P:List (Option DS)->Own->Prop}(h:P (ρ.set i (some (.d d))) M):DG K (LT i) d ρ M P:=fun σ H v QQ R dv k=>k _ M _ H (R.set (x:=.d d) dv i) Step.refl h
theorem BB (i:Nat):V3 (LT i) [i]:=fun v σ H QQ h=>h fun j hj=>by
 rw[b3Z (by rintro rfl;exact hj (by simp))]
abbrev EndsD.turn (D:EndsD) (P:List (Option DS)->Own->Prop):EndsD:={ nx:=P,ct:=P,bk:=D.nx,rt:=D.rt }
theorem GS (h:DI K wi ρ M fun ds M1=>∃P:Nat->List (Option DS)->Own->Prop,P 0 ρ M1/\(∀k d ρ' M',ds[k]?=some d->P k ρ' M'->DG K g d ρ' M' fun ρ2 M2=>DSt K tb ρ2 M2 (D.turn (P (k+1))))/\∀ρ' M',P ds.length ρ' M'->D.nx ρ' M') :
   DSt K (kI wi g tb) ρ M D:=fun σ H E R k1 k2 k3 k4=>
 h σ H _ R fun J ds H1 M1 o1 t1 wd ⟨P,p0,pt,pe⟩=>by
   refine⟨fun i m σ' H'=>m=ds.length - i/\i<=ds.length/\∃ρ' M',Rel K M' ρ' σ' H'/\Step K M1 M' H1 H'/\P i ρ' M',⟨_,rfl,xR _,ρ,M1,R.step o1 t1,Step.refl,p0⟩,?_⟩
   rintro i m σ' H' ⟨rfl,hi,ρ',M',R',st,p⟩
   by_cases hlt:i < ds.length
   · refine .inr ⟨wd.go i H' M' hlt R'.own st,fun σ2 H2=>∃ρ2 M2,Rel K M2 ρ2 σ2 H2/\Step K M1 M2 H1 H2/\P (i+1) ρ2 M2,fun σ2 H2 ⟨ρ2,M2,a,b,c⟩=>⟨ds.length - (i+1),by omega,rfl,hlt,ρ2,M2,a,b,c⟩,fun x H2 y=>?_⟩
     obtain⟨oa2,st2,d,e1,e2⟩:=wd.yld i H' M' x H2 R'.own st hlt y
     refine pt i d ρ' M' e1 p σ' H2 x _ (R'.step oa2 st2) e2 fun ρ3 M3 σ3 H3 R3 st3 b3=>?_
     have s3:=(st.trans st2).trans st3
     exact b3 σ3 H3 _ R3 (fun r m s hh R4 st4 q=>⟨r,m,R4,s3.trans st4,q⟩) (fun w hh x m a b c q=>k2 w hh x m a b (t1.trans (s3.trans c)) q)
       (fun r m s hh R4 st4 q=>k1 r m s hh R4 (t1.trans (s3.trans st4)) q) (fun r m s hh R4 st4 q=>⟨r,m,R4,s3.trans st4,q⟩)
   · have e:i=ds.length:=by omega
     subst e
     exact .inl ⟨wd.stop H' M' R'.own st,k1 ρ' M' σ' H' R' (t1.trans st) (pe ρ' M' p)⟩
def RB (fr:List (Option Nat)) (ρ:List (Option DS)):List (Option DS):=fr.map fun o=>o.bind fun j=>(ρ[j]?).join
theorem OP {fr:List (Option Nat)}{α:Type}{ρ:List (Option α)}{i:Nat}{x:α}(h:(fr.map fun o=>o.bind fun j=>(ρ[j]?).join)[i]?=some (some x)):∃j,fr[i]?=some (some j)/\ρ[j]?=some (some x):=by
 rw[zF] at h
 cases hf:fr[i]? with
 | none=>rw[hf] at h;cases h
 | some o=>
   rw[hf] at h
   cases o with
   | none=>cases h
   | some j=>
     refine⟨j,rfl,?_⟩
     have e2:((ρ[j]?).join)=some x:=Option.some.inj h
     cases hs:ρ[j]? with
     | none=>rw[hs] at e2;cases e2
     | some q=>rw[hs] at e2;cases q with
       | none=>cases e2
       | some v'=>cases e2;rfl
theorem Rel.capt {fr:List (Option Nat)}{σ:St}{H:Hp}(R:Rel K M ρ σ H):Rel K M (RB fr ρ) (L2.capt fr σ) H:=by
 refine⟨R.own,by unfold RB L2.capt;rw[zX,zX],fun i x e=>?_⟩
 obtain⟨j,e1,e2⟩:=OP e
 obtain⟨v,h1,h2⟩:=R.slot j x e2
 refine⟨v,?_,h2⟩
 unfold L2.capt
 rw[zF,e1]
 simp[h1]
theorem V4 {fr:List (Option Nat)}{tt:TT}{te:TE}{T:List Nat}{Q:DS->Own->Prop}(ho:V3 g T) (hT:∀i∈T,∀j,fr[i]?≠some (some j))
   (h:DI K wi ρ M fun ds M1=>ds.length < sizeLine/\∀D,M1 D=none->∃P:Nat->List PyData->Own->Prop,P 0 [] (M1.put D (.l []))/\(∀k acc M',P k acc M'->M' D=some (.l acc)/\acc.length<=k) /\
     (∀k d acc M',ds[k]?=some d->P k acc M'->DG K g d (RB fr ρ) M' fun ρ2 M2=>DT K tt ρ2 M2 fun c M3=>if c=true then DE K te ρ2 M3 fun y M4=>∃r,y = .d r/\M4 D=some (.l acc)/\P (k+1) (acc++[r]) (M4.put D (.l (acc++[r]))) else P (k+1) acc M3) /\
     ∀acc M',P ds.length acc M'->Q (.d (.list acc)) (M'.del D)) :
   DE K (R7 fr wi g tt te) ρ M Q:=fun σ H QQ R k=>
 h σ H _ R fun J ds H1 M1 o1 t1 wd ⟨hsz,hq⟩=>by
   intro A hA
   obtain⟨P,p0,pa,pt,pe⟩:=hq A (o1.none hA)
   obtain⟨oA,sA⟩:=UX o1 hA (DVs.nil (K:=K) (H:=H1) (W:=M1.W))
   refine⟨fun i m ys H2=>m=ds.length - i/\i<=ds.length/\H2 A=some (.lst ys)/\∃acc M',OA K H2 M'/\Step K M1 M' H1 H2/\P i acc M',⟨_,rfl,xR _,AH,[],_,oA,sA,p0⟩,?_⟩
   rintro i m ys H2 ⟨rfl,hi,hys,acc,M',oa,st,p⟩
   refine⟨hys,?_⟩
   have hs0:∀{N:Own},(N.del A).Sub N:=fun {N} b o q=>by
     unfold Own.del at q
     by_cases hb:b=A
     · rw[if_pos hb] at q;cases q
     · rw[if_neg hb] at q;exact q
   by_cases hlt:i < ds.length
   · refine .inr ⟨wd.go i H2 M' hlt oa st,fun x H3 y=>?_⟩
     obtain⟨oa3,st3,d,e1,e2⟩:=wd.yld i H2 M' x H3 oa st hlt y
     have Rc:Rel K M' (RB fr ρ) (L2.capt fr σ) H3:=((R.step o1 t1).step oa3 (st.trans st3)).capt
     refine ho _ _ _ _ (pt i d acc M' e1 p (L2.capt fr σ) H3 x _ Rc e2 fun ρ3 M3 σ3 H4 R3 st4 b3 hext=>⟨fun i' v' hv'=>?_,?_⟩)
     · obtain⟨j,f1,f2⟩:=OP hv'
       rw[hext i' fun hm=>hT i' hm j f1]
       exact hv'
     · refine b3 σ3 H4 _ R3 fun c H5 M5 o5 st5 h5=>?_
       have sx:=((st.trans st3).trans st4).trans st5
       cases c with
       | false=>
         rw[if_neg nft] at h5 ⊢
         obtain⟨hm,_⟩:=pa _ _ _ h5
         obtain⟨vs,q1,q2⟩:=o5 A _ hm
         exact⟨vs,ds.length - (i+1),by omega,rfl,hlt,q1,acc,M5,o5,sx,h5⟩
       | true=>
         rw[if_pos rfl] at h5 ⊢
         refine h5 σ3 H5 _ (R3.step o5 st5) fun y H6 z M6 o6 s6 st6 h6=>?_
         obtain⟨r,rfl,hm,p'⟩:=h6
         obtain⟨vs,q1,q2⟩:=o6 A _ hm
         obtain⟨w1,w2⟩:=K4 o6 hm (q2.append (DVs.cons s6 DVs.nil))
         have hlen:acc.length<=i:=(pa _ _ _ p).2
         exact⟨vs,q1,by rw[q2.length];omega,ds.length - (i+1),by omega,rfl,hlt,AH,_,_,w1,(sx.trans st6).trans w2,p'⟩
   · have e:i=ds.length:=by omega
     subst e
     refine .inl ⟨wd.stop H2 M' oa st,?_⟩
     obtain⟨hm,_⟩:=pa _ _ _ p
     obtain⟨vs,q1,q2⟩:=oa A _ hm
     have hst:Step K M' (M'.del A) H2 H2:=⟨BJ hs0⟩
     refine k _ H2 (.d (.list acc)) (M'.del A) (oa.sub hs0) ?_ ((t1.trans st).trans hst) (pe acc M' p)
     unfold SI DV
     exact⟨A,vs,rfl,.inl ⟨fun w=>w (by unfold Own.del;rw[if_pos rfl]),.inl q1⟩,q2.grow (BJ hs0)⟩
theorem AI {fr:List (Option Nat)}{tt:TT}{te:TE}{T:List Nat}{Q:DS->Own->Prop}(ho:V3 g T) (hT:∀i∈T,∀j,fr[i]?≠some (some j))
   (h:DI K wi ρ M fun ds M1=>ds.length < sizeLine/\∃(c:PyData->Bool) (f:PyData->PyData),(∀d∈ds,∀M',DG K g d (RB fr ρ) M' fun ρ2 M2=>M2=M'/\DT K tt ρ2 M2 fun b M3=>M3=M'/\b=c d/\(c d=true->DE K te ρ2 M3 fun y M4=>y = .d (f d)/\M4=M'))/\Q (.d (.list ((ds.filter c).map f))) M1) :
   DE K (R7 fr wi g tt te) ρ M Q:=by
 refine V4 ho hT fun σ H R Rl k=>h σ H R Rl fun J ds H1 M1 o1 t1 wd q=>k J ds H1 M1 o1 t1 wd ?_
 obtain⟨hsz,c,f,he,q⟩:=q
 refine⟨hsz,fun A hA=>⟨fun k acc M'=>acc=((ds.take k).filter c).map f/\M'=M1.put A (.l acc),⟨by simp,rfl⟩,fun k acc M' ⟨e1,e2⟩=>⟨by rw[e2];exact zU,?_⟩,fun k d acc M' hd ⟨e1,e2⟩=>?_,fun acc M' ⟨e1,e2⟩=>?_⟩⟩
 · rw[e1,zX]
   exact zN (yJ _ _) (by rw[a1Q];omega)
 · have hm:d∈ds:=yN hd
   intro σ H v QQ R dv kk
   refine he d hm M' σ H v QQ R dv fun ρ' M2 σ' H' R' st ⟨eM,q2⟩=>kk ρ' M2 σ' H' R' st fun σ2 H2 QQ2 R2 k2=>?_
   refine q2 σ2 H2 QQ2 R2 fun b H3 M3 o3 st3 ⟨eM3,eb,q3⟩=>k2 b H3 M3 o3 st3 ?_
   have ts:(ds.take (k+1)).filter c=(ds.take k).filter c++(if c d then [d] else []):=take_succ_filter c ds k d hd
   cases hb:c d with
   | false=>
     rw[hb] at eb
     subst eb
     refine L2.iI ⟨?_,by rw[eM3,e2]⟩
     rw[ts,hb,e1];simp
   | true=>
     rw[hb] at eb
     subst eb
     refine L2.iJ ?_
     refine c5 (q3 hb) fun y M4 ⟨ey,e4⟩=>⟨f d,ey,by rw[e4,e2];exact zU,?_,by rw[e4,e2,yI]⟩
     rw[ts,hb,e1];simp
 · rw[e2,yG hA,e1,List.take_length]
   exact q
end
def PJ (N:List Str) (xs:List DS):List (Option DS):=xs.map some++a4V (N.length - xs.length) none
section
variable {P:Program}{w:World}{K:Frg}{mg:Str->Option Value}{base:Heap}
theorem SIs.get {M:Own}{H:Hp}:∀{xs:List DS}{vs:List V}{i:Nat}{x:DS},SIs K H M xs vs->xs[i]?=some x->∃v,vs[i]?=some v/\SI K H M x v
 | [],_,_,_,_,e=>by simp at e
 | d::ds,vs,i,x,⟨v,r,e',h1,h2⟩,e=>by
   subst e'
   cases i with
   | zero=>simp at e;subst e;exact⟨v,rfl,h1⟩
   | succ i=>simpa using SIs.get h2 (by simpa using e)
theorem WJ {M:Own}{H:Hp}{N:List Str}{xs:List DS}{vs:List V}(oa:OA K H M) (h:SIs K H M xs vs):Rel K M (PJ N xs) (L2.start N vs) H:=by
 have hl:=h.length
 refine⟨oa,by unfold PJ L2.start;simp[hl],fun i x e=>?_⟩
 unfold PJ at e
 by_cases hi:i < xs.length
 · rw[yQ (by simpa using hi),zF] at e
   cases q:xs[i]? with
   | none=>rw[q] at e;cases e
   | some y=>
     rw[q] at e
     cases e
     obtain⟨v,h1,h2⟩:=h.get q
     refine⟨v,?_,h2⟩
     unfold L2.start
     rw[yQ (by rw[zX,hl];exact hi),zF,h1]
     rfl
 · rw[List.getElem?_append_right (by simpa using hi),List.getElem?_replicate] at e
   split at e <;> cases e
theorem fnD {x qual:Str}{st:Stmt}{f:Addr}{fd:FuncData}{N ps:List Str}{k:Nat}{S:FSp}(F:Fun K x qual st f fd) (Sc:FnScope N ps (AC st))
   (hbody:∀(cdv:Value) (A:Around) (outer:List Env) (s:Shared) (H:Hp) (E:XK),Room k (A.deeper (PyProof.Rows.envOfC qual (AC st) s.heap.objs.size f cdv)) ->
     ∃t,PSs (T3 CX0 P w K mg base N qual (AC st) f cdv A outer s H E).nox (CP st) t/\∀xs M,xs.length=ps.length->S.pre xs M->DSt K t (PJ N xs) M { nx:=fun _ M1=>∃M2:Own,M2.Sub M1/\S.post xs M (.d .none) M2,rt:=fun y M1=>∃M2:Own,M2.Sub M1/\S.post xs M y M2 }) :
   FnOk P w K mg base CX0 (k+1) f fd ps (spD K ps.length S):=by
 refine F.ok Sc c8 fun cdv A outer s H vs Q E hr h=>?_
 obtain⟨t,ht,hq⟩:=hbody cdv A outer s H E hr
 obtain⟨xs,M,hl,oa,si,pre,post⟩:=h
 refine⟨t,ht,hq xs M hl pre (L2.start N vs) H _ (WJ oa si) ?_ ?_ (fun _ _ _ _ _ _ z=>z.elim) (fun _ _ _ _ _ _ z=>z.elim)⟩
 · rintro ρ' M1 σ' H' R st ⟨M2,hs,p⟩
   exact post (.d .none) M2 .non H' p (st.trans ⟨BJ hs⟩) (R.own.sub hs) (by unfold SI DV;rfl)
 · rintro v H' y M1 o s1 st ⟨M2,hs,p⟩
   exact post y M2 v H' p (st.trans ⟨BJ hs⟩) (o.sub hs) (s1.sub hs)
end
end DL
namespace L2
open PySem PySem.Spec PyProof.Rows
section
variable {X:Cx}{tg:Expr}
def RC (K:Frg):R2:=fun x y H Q=>(rI0 fun i j=>.int (i+j)) x y H Q∨((∃i j,x = .str i/\y = .str j/\i.length+j.length<=sizeLine/\Q (.str (i++j)) H)∨fM K x y H Q)
theorem cK:OpR X (binaryOp .Add) (RC X.K):=gW.or (SZ.or bY)
def WK (K:Frg):R2:=fun x y H Q=>bM K x y H Q∨(i0 K x y H Q∨i5 x y H Q)
theorem j6:IxR X (WK X.K):=bN.or (i6.or i7)
def cL (K:Frg):V->Option Int->Option Int->Hp->VK->Prop:=fun x lo hi H Q=>i8 K x lo hi H Q∨iK x lo hi H Q
theorem j7:SlR X (cL X.K):=bO.or iL
def lI:R2:=fun x y H Q=>(rI0 fun i j=>.bl (decide (i < j))) x y H Q∨∃i j,x = .str i/\y = .str j/\Q (.bl (decide (i.cps.toList < j.cps.toList))) H
theorem K5:OpR X (compareOp .Lt) lI:=kQ.or W6
def cM (K:Frg):R2:=fun x y H Q=>(∃i j,x = .str i/\y = .str j/\Q (.bl (!(Builtin.Str.occurrences j i 0 j.length 1).isEmpty)) H)∨rIn K false x y H Q
theorem j8:OpR X (compareOp .In) (cM X.K):=W7.or WC
def cN (K:Frg) (tl:TE):TI:=fun σ H R=>tl σ H fun x H1=>(∃a,x = .ref a/\(∃xs,SqL K H1 a xs)/\R (Itl K a) H1)∨(∃a,x = .ref a/\(∃xs,SqT K H1 a xs)/\R (Itt K a) H1)∨∃y,x = .str y/\R (Its y) H1
theorem j9 {l:Expr}{tl:TE}(hl:PE X l tl):PI X tg l (cN X.K tl):=by
 intro pins s σ H R I h
 refine thn (hl pins s σ H _ I h) fun v s1 ⟨x,H1,I1,r1,q1⟩=>?_
 have fp:∀b∈[s1.heap.objs.size],L1 X pins H1 b:=fun b hb=>by
   have e:b=s1.heap.objs.size:=by simpa using hb
   subst e
   exact I1.fpOk (zR _) (I1.hok.fresh (zR _))
 rcases q1 with ⟨a,e,⟨xs,hq⟩,q⟩ | ⟨a,e,⟨xs,hq⟩,q⟩ | ⟨y,e,q⟩
 · subst e
   cases r1
   obtain⟨its,rv,p,hz⟩:=I1.list hq
   refine wpAny_pyIter_list p.isList ?_
   exact⟨s1.heap.objs.size,[s1.heap.objs.size],_,_,H1,rfl,I1.kept (t':=s1.toks) fun b o e=>zW _ e,W3 a _,⟨_,yZ _ rfl,rfl,rfl⟩,fp,q⟩
 · subst e
   cases r1
   obtain⟨its,rv,p,hz⟩:=I1.tuple hq
   refine wpAny_pyIter_tuple (show s1.heap.IsTuple a its.toArray from p) ?_
   exact⟨s1.heap.objs.size,[s1.heap.objs.size],_,_,H1,rfl,I1.kept (t':=s1.toks) fun b o e=>zW _ e,SX a _,⟨_,yZ _ rfl,rfl,rfl⟩,fp,q⟩
 · subst e
   obtain⟨t,rfl⟩:=r1
   cases ha:y.cps.all (· < 128)
   · exact wpAny_pyIter_wide ha ⟨s1.heap.objs.size,[s1.heap.objs.size],_,_,H1,rfl,I1.kept (t':=s1.toks) fun b o e=>zW _ e,
       R9 s1.heap.objs.size "str_iterator" y t (by decide) (fun A hA=>Walks.strWide hA _ y t) (fun _ _ _ _ _ st h=>wpAny_pyIter_striter_wide st h),⟨_,yZ _ rfl,rfl,rfl⟩,fp,q⟩
   · exact wpAny_pyIter_ascii ha ⟨s1.heap.objs.size,[s1.heap.objs.size],_,_,H1,rfl,I1.kept (t':=s1.toks) fun b o e=>zW _ e,
       R9 s1.heap.objs.size "str_ascii_iterator" y t (by decide) (fun A hA=>Walks.strAscii hA _ y t) (fun _ _ _ _ _ st h=>wpAny_pyIter_striter_ascii st h),⟨_,yZ _ rfl,rfl,rfl⟩,fp,q⟩
end
def YD:NameKind->Bool | .free=>true | _=>false
def YE:NameKind->Bool | .cell=>true | _=>false
def V5:NameKind->Bool | .local=>true | _=>false
def YF (osc:Scope) (ON:List Str) (scope:Scope) (NC:List Str) (fr:List (Option Nat)):Bool:=
 (match scope.kind with | .function=>true | _=>false)&&scope.names.all (fun y=>!YE y.2) &&
 scope.names.all (fun y=>!V5 y.2||(match scope.names.lookup y.1 with | some .local=>true | _=>false)) &&
 scope.names.all (fun y=>!YD y.2||(match osc.names.lookup y.1 with | some .cell=>true | some .free=>true | _=>false)) &&
 fr.length==NC.length &&
 (a1X NC.length).all fun i=>match fr[i]?,NC[i]? with
   | some (some j),some x=>ON[j]?==some x&&(match scope.names.lookup x with | some .free=>true | _=>false)&&(match osc.names.lookup x with | some .cell=>true | some .free=>true | _=>false)
   | _,_=>true
theorem CSc.of {X:Cx}{scope:Scope}{NC:List Str}{fr:List (Option Nat)}{osc:Scope}{ON:List Str}(h:YF osc ON scope NC fr=true) (e:X.env.scope=osc) (eN:X.N=ON):CSc X scope NC fr:=by
 subst e eN
 unfold YF at h
 simp only[a1Z,List.all_eq_true,List.mem_range,beq_iff_eq] at h
 obtain⟨⟨⟨⟨⟨h1,h2⟩,h3⟩,h4⟩,h5⟩,h6⟩:=h
 refine⟨?_,fun y hy e=>?_,fun y hy e=>?_,fun y hy e=>?_,h5,fun i j x e1 e2=>?_⟩
 · cases hk:scope.kind <;> rw[hk] at h1 <;> simp at h1 ⊢
 · have:=h2 y hy;rw[e] at this;simp[YE] at this
 · have:=h3 y hy
   rw[e] at this
   simp only[V5,Bool.not_true,Bool.false_or] at this
   cases hl:scope.names.lookup y.1 with
   | none=>rw[hl] at this;cases this
   | some k=>rw[hl] at this;cases k <;> first | rfl | cases this
 · have:=h4 y hy
   rw[e] at this
   simp only[YD,Bool.not_true,Bool.false_or] at this
   cases hl:X.env.scope.names.lookup y.1 with
   | none=>rw[hl] at this;cases this
   | some k=>
     rw[hl] at this
     cases k <;> first
       | exact .inl hl
       | exact .inr hl
       | cases this
 · have hi:i < NC.length:=(yT.mp e1).1
   have:=h6 i hi
   rw[e1,e2] at this
   simp only[a1Z,beq_iff_eq] at this
   obtain⟨⟨q1,q2⟩,q3⟩:=this
   refine⟨q1,?_,?_⟩
   · cases hl:scope.names.lookup x with
     | none=>rw[hl] at q2;cases q2
     | some k=>rw[hl] at q2;cases k <;> first | rfl | cases q2
   · cases hl:X.env.scope.names.lookup x with
     | none=>rw[hl] at q3;cases q3
     | some k=>
       rw[hl] at q3
       cases k <;> first
         | exact⟨.inr (.inl hl),fun z=>by have z':X.env.scope.names.lookup x=some .local:=z;rw[hl] at z';cases z'⟩
         | exact⟨.inr (.inr hl),fun z=>by have z':X.env.scope.names.lookup x=some .local:=z;rw[hl] at z';cases z'⟩
         | cases q3
end L2
namespace DL
open PySem PySem.Spec L2
section
variable {K:Frg}{ρ:List (Option DS)}{M:Own}{Q:DS->Own->Prop}{H:Hp}{QI:List PyData->Own->Prop}{tl ta tb:TE}
theorem YG {i j:Int}(q:Q (.d (.int (i+j))) M):D2 K (RC K) (.d (.int i)) (.d (.int j)) M Q:=EG (lE q)
theorem YH {i j:Str}(hz:i.length+j.length<=sizeLine) (q:Q (.d (.str (i++j))) M):D2 K (RC K) (.d (.str i)) (.d (.str j)) M Q:=FO (EG (cD hz q))
theorem YI {a b:List PyData}(hz:a.length+b.length<=sizeLine) (q:Q (.d (.list (a++b))) M):D2 K (RC K) (.d (.list a)) (.d (.list b)) M Q:=FO (FO (j4 hz q))
theorem DJ {ds:List PyData}{i:Int}{d:PyData}(e:atI ds i=some d) (q:Q (.d d) M):D2 K (WK K) (.d (.list ds)) (.d (.int i)) M Q:=EG (iZ e q)
theorem cO {a:Addr}{ds:List PyData}{i:Int}{d:PyData}(m:M a=some (.l ds)) (e:atI ds i=some d) (q:Q (.d d) M):D2 K (WK K) (.loc a) (.d (.int i)) M Q:=EG (j1 m e q)
theorem AA {ds:List PyData}{i:Int}{d:PyData}(e:atI ds i=some d) (q:Q (.d d) M):D2 K (WK K) (.d (.tuple ds)) (.d (.int i)) M Q:=FO (EG (j0 e q))
theorem PK {z:Str}{i:Int}{c:Nat}(hz:z.length<=sizeLine) (e:atI z.cps.toList i=some c) (q:Q (.d (.str ⟨#[c]⟩)) M):D2 K (WK K) (.d (.str z)) (.d (.int i)) M Q:=FO (FO (j3 hz e q))
theorem YJ {z:Str}{lo hi:Option Int}(hz:z.length<=sizeLine) (q:Q (.d (.str (a0V z lo hi))) M):DSl K (cL K) (.d (.str z)) lo hi M Q:=fun H v QQ oa s1 k=>.inr (cI hz q H v QQ oa s1 k)
theorem WL {ds:List PyData}{lo hi:Option Int}(q:Q (.d (.list (D9 ds lo hi))) M):DSl K (cL K) (.d (.list ds)) lo hi M Q:=fun H v QQ oa s1 k=>.inl (YC q H v QQ oa s1 k)
theorem cP {i j:Int}(q:Q (.d (.bool (decide (i < j)))) M):D2 K lI (.d (.int i)) (.d (.int j)) M Q:=EG (lG q)
theorem FP {x:Str}{ys:List Str}(q:Q (.d (.bool (decide (x∈ys)))) M):D2 K (cM K) (.d (.str x)) (.d (.list (ys.map .str))) M Q:=FO (iY (neg:=false) q)
theorem BC (h:DE K tl ρ M fun x M1=>∃ds,x = .d (.list ds)/\QI ds M1):DI K (cN K tl) ρ M QI:=fun σ H R Rl k=>
 h σ H _ Rl fun v H1 x M1 o1 s1 t1 ⟨ds,e,q⟩=>by
   subst e
   unfold SI DV at s1
   obtain⟨a,vs,rfl,hl,hd⟩:=s1
   refine .inl ⟨a,rfl,⟨vs,hl.sq⟩,k _ ds H1 M1 o1 t1 ⟨fun i H' M' hi oa st=>?_,fun H' M' oa st=>?_,fun i H' M' x H2 oa st hi y=>?_⟩ q⟩
   · exact⟨vs,vs[i]'(by rw[hd.length];exact hi),(hl.grow st.grow).sq,by simp[hd.length,hi]⟩
   · exact⟨vs,(hl.grow st.grow).sq,by rw[hd.length];exact zR _⟩
   · obtain⟨rfl,y⟩:=y
     obtain⟨d,e1,e2⟩:=hd.get (y vs (hl.grow st.grow).sq)
     exact⟨oa,Step.refl,d,e1,e2.grow st.grow⟩
theorem LO (h:DE K tl ρ M fun x M1=>∃ds,x = .d (.tuple ds)/\QI ds M1):DI K (cN K tl) ρ M QI:=fun σ H R Rl k=>
 h σ H _ Rl fun v H1 x M1 o1 s1 t1 ⟨ds,e,q⟩=>by
   subst e
   unfold SI DV at s1
   obtain⟨a,vs,rfl,hl,hd⟩:=s1
   refine .inr (.inl ⟨a,rfl,⟨vs,hl.sq⟩,k _ ds H1 M1 o1 t1 ⟨fun i H' M' hi oa st=>?_,fun H' M' oa st=>?_,fun i H' M' x H2 oa st hi y=>?_⟩ q⟩)
   · exact⟨vs,vs[i]'(by rw[hd.length];exact hi),(hl.grow st.grow).sq,by simp[hd.length,hi]⟩
   · exact⟨vs,(hl.grow st.grow).sq,by rw[hd.length];exact zR _⟩
   · obtain⟨rfl,y⟩:=y
     obtain⟨d,e1,e2⟩:=hd.get (y vs (hl.grow st.grow).sq)
     exact⟨oa,Step.refl,d,e1,e2.grow st.grow⟩
def tyD:PyData->String
 | .none => "NoneType"
 | .bool _ => "bool"
 | .int _ => "int"
 | .str _ => "str"
 | .list _ => "list"
 | .tuple _ => "tuple"
 | .dict _ => "dict"
end
end DL
namespace L2
open PySem PySem.Spec PyProof.Rows
section
variable {X:Cx}
def YK (K:Frg):List V->Hp->VK->Prop:=fun xs H Q=>∃(x:V) (T:String) (d:PyData) (W:Addr->Prop) (b:Bool),xs=[x,.ty T]/\DV K H W d x/\PySem.W.kitOne K (.type (DL.tyD d)) (.type T)=some b/\Q (.bl b) H
theorem WM:BO X (.builtin "isinstance") (YK X.K):=by
 intro pins s σ H xs us Q I r h
 obtain⟨x,T,d,W,b,rfl,dv,e,q⟩:=h
 obtain⟨u,u',rfl,ru,ru'⟩:=XU r
 cases ru'
 have fin:∀tk,EP X pins σ Q (.bool b) { s with toks:=tk }:=fun tk=>⟨.bl b,H,I.tok _,rfl,q⟩
 cases d with
 | none=>unfold DV at dv;subst dv;exact F6 I ru (TyOf.non) e fin
 | bool y=>unfold DV at dv;subst dv;exact F6 I ru (TyOf.bl _) e fin
 | int i=>unfold DV at dv;subst dv;exact F6 I ru (TyOf.int _) e fin
 | str y=>unfold DV at dv;subst dv;exact F6 I ru (TyOf.str _) e fin
 | list ds=>
   unfold DV at dv
   obtain⟨a,vs,rfl,hl,_⟩:=dv
   cases ru
   obtain⟨its,rv,⟨o,n,h1,h2,_,_⟩,_⟩:=I.list hl.sq
   exact a2Q PySem.W.kitx_list I.kIn ⟨o,h1,h2⟩ e (fun z=>nomatch z) fin
 | tuple ds=>
   unfold DV at dv
   obtain⟨a,vs,rfl,hl,_⟩:=dv
   cases ru
   obtain⟨its,rv,⟨o,h1,h2,_⟩,_⟩:=I.tuple hl.sq
   exact a2Q PySem.W.kitx_tuple I.kIn ⟨o,h1,h2⟩ e (fun z=>nomatch z) fin
 | dict kvs=>
   unfold DV at dv
   obtain⟨a,vs,rfl,_,hl,_⟩:=dv
   rcases hl with hl | ⟨o',hl⟩
   · exact F6 I ru (TyOf.dK hl) e fin
   · cases ru
     obtain⟨_,_,vs',_,dd⟩:=KM I.hok (.inr ⟨o',hl⟩)
     exact a2Q PySem.W.kitx_dict I.kIn dd.typeIs e (fun z=>nomatch z) fin
end
end L2
namespace DL
open PySem PySem.Spec L2
section
variable {K:Frg}{ρ:List (Option DS)}{M:Own}{Q:DS->Own->Prop}{H:Hp}{ta tb:TE}
theorem YL {d:PyData}{T:String}{b:Bool}(e:PySem.W.kitOne K (.type (tyD d)) (.type T)=some b) (q:Q (.d (.bool b)) M):DR K (YK K) [.d d,.ty T] M Q:=fun H vs QQ oa s k=>by
 obtain⟨v,r,rfl,h1,v2,r2,rfl,h2,h3⟩:=s
 cases h3
 rw[show v2 = .ty T from h2]
 exact⟨v,T,d,M.W,b,rfl,h1,e,k _ H _ M oa AM Step.refl q⟩
theorem YM {p:Addr}{ks:List (Key×V)}{kvs:List (PyData×PyData)}(oa:OA K H M) (h:H p=b3J) (hd:DKV K H M.W kvs ks) :
   OA K (upd H p (.dK ks)) (M.put p (.d kvs))/\Step K M (M.put p (.d kvs)) H (upd H p (.dK ks)):=by
 have hM:=oa.none h
 have g:Grow K M.W (M.put p (.d kvs)).W H (upd H p (.dK ks)):=⟨fun b u e _=>.inl (by rw[AG (AV e h)];exact e),fun b w=>by
   by_cases hb:b=p
   · subst hb;exact .inr h
   · left;unfold Own.W at w ⊢;rw[yH hb] at w;exact w⟩
 refine⟨fun a o e=>?_,⟨g⟩⟩
 by_cases ha:a=p
 · subst ha;rw[zU] at e;cases e;exact⟨ks,AH,hd.grow g⟩
 · rw[yH ha] at e
   have q:=oa a o e
   cases o <;> (obtain⟨vs,q1,q2⟩:=q;exact⟨vs,by rw[AG ha];exact q1,q2.grow g⟩)
theorem TB {p:Addr}{ks:List (Key×V)}{kvs:List (PyData×PyData)}{o:MO}(oa:OA K H M) (h:M p=some o) (hd:DKV K H M.W kvs ks) :
   OA K (upd H p (.dK ks)) (M.put p (.d kvs))/\Step K M (M.put p (.d kvs)) H (upd H p (.dK ks)):=by
 have hw:∀b,(M.put p (.d kvs)).W b->M.W b:=fun b w=>by
   unfold Own.W at w ⊢
   by_cases hb:b=p
   · subst hb;rw[h];simp
   · rw[yH hb] at w;exact w
 have g:Grow K M.W (M.put p (.d kvs)).W H (upd H p (.dK ks)):=⟨fun b u e nw=>.inl (by
   rw[AG (by rintro rfl;exact nw (by unfold Own.W;rw[h];simp))];exact e),fun b w=>.inl (hw b w)⟩
 refine⟨fun a o e=>?_,⟨g⟩⟩
 by_cases ha:a=p
 · subst ha;rw[zU] at e;cases e;exact⟨ks,AH,hd.grow g⟩
 · rw[yH ha] at e
   have q:=oa a o e
   cases o <;> (obtain⟨vs,q1,q2⟩:=q;exact⟨vs,by rw[AG ha];exact q1,q2.grow g⟩)
end
structure Has (P:Program) (w:World) (K:Frg) (mg:Str->Option Value) (base:Heap) (x:Str) (k:Nat) (ps:List Str) (S:FSp):Prop where
 ex:∃f fd,FnOk P w K mg base CX0 k f fd ps (spD K ps.length S)/\mg x=some (.ref f)/\a9K K (.ref f)=true/\Binds K fd ps []
theorem YN {X:Cx}{x:Str}{k:Nat}{ps:List Str}{S:FSp}{e:Expr}{es:List Expr}{t:TA}{p pos:Pos}(h:Has X.prog X.w X.K X.mg X.base x k ps S) (hr:Room k X.A) (hg:Gl X x) (ha:PA X (e::es) t)
   (hdb:(x==("__debug__":Str))=false:=by decide) (he:starEach (e::es) X.env=(false,eval e X.env)::starEach es X.env:=by rfl) (hpl:(backTo pos (starEach es X.env)).any (·.1)=false:=by rfl) :
   PE X (.Call (.Name x p) (e::es) [] pos) (UQ (spD X.K ps.length S) [] E0 t):=by
 obtain⟨f,fd,F,hm,hk,hb⟩:=h.ex
 exact bK F hr hg hm hk hb .nil kX ha hdb he hpl
section
variable {X:Cx}{K:Frg}
theorem kIx (h:X.K=K):IxR X (WK K):=h▸j6
theorem kIn (h:X.K=K):OpR X (compareOp .In) (cM K):=h▸j8
theorem kEq (h:X.K=K) (hu:X.A.units+64 < cLine):OpR X (compareOp .Eq) (WH K false):=h▸iM hu
theorem kNe (h:X.K=K) (hu:X.A.units+64 < cLine):OpR X (compareOp .NotEq) (WH K true):=h▸iN hu
def jA (K:Frg):List V->Hp->VK->Prop:=fun xs H Q=>∃x n,xs=[x]/\bI K x H n/\Q (.int (n:Nat)) H
def fR (K:Frg):List V->Hp->VK->Prop:=fun xs H Q=>∃(p:Addr) (bs:List Bool),xs=[.ref p]/\SqL K H p (bs.map V.bl)/\Q (.bl (bs.any id)) H
theorem ME (h:X.K=K):BO X (.builtin "len") (jA K):=h▸XV
theorem mE (h:X.K=K) (hc:X.calm=true):BO X (.builtin "any") (fR K):=h▸Y6 hc
theorem mF (h:X.K=K):BO X (.builtin "isinstance") (YK K):=h▸WM
theorem fS {tg l:Expr}{tl:TE}(h:X.K=K) (hl:PE X l tl):PI X tg l (cN K tl):=h▸j9 hl
theorem YO {P:Program}{w:World}{mg:Str->Option Value}{base:Heap}{x:Str}{k:Nat}{ps:List Str}{S:FSp}{e:Expr}{es:List Expr}{t:TA}{p pos:Pos}(hK:X.K=K) (hP:X.prog=P) (hw:X.w=w) (hmg:X.mg=mg) (hbs:X.base=base)
   (h:Has P w K mg base x k ps S) (hr:Room k X.A) (hg:Gl X x) (ha:PA X (e::es) t)
   (hdb:(x==("__debug__":Str))=false:=by decide) (he:starEach (e::es) X.env=(false,eval e X.env)::starEach es X.env:=by rfl) (hpl:(backTo pos (starEach es X.env)).any (·.1)=false:=by rfl) :
   PE X (.Call (.Name x p) (e::es) [] pos) (UQ (spD K ps.length S) [] E0 t):=by
 subst hK hP hw hmg hbs
 exact YN h hr hg ha hdb he hpl
variable {o e:Expr}{es:List Expr}{to:TE}{t:TA}{name:Str}{apos cpos:Pos}{T id:String}{r:V->List V->Hp->VK->Prop}
theorem kBm (h:X.K=K) (pa:PlainAttrs T) (slot:Slot T name id) (hty:typeOf (.builtin id)=pure (.type "method_descriptor")) (hm:MtR X id r) (ho:PE X o to) (ha:PA X (e::es) t)
   (hbase:attributeBase o name X.env (eval o X.env)=eval o X.env:=by rfl)
   (hfew:((backTo cpos (starEach (e::es) X.env)).all (fun x=>!x.1)&&(backToKw cpos (keywordEach [] X.env)).all (fun x=>x.1.isSome)
     && decide ((e::es).length+([]:List Keyword).length+(if ([]:List Keyword).isEmpty then 0 else 1) < 30))=true:=by rfl)
   (hline:(apos.endLine==cpos.line)=true:=by rfl) (hs:starEach (e::es) X.env=(false,eval e X.env)::starEach es X.env:=by rfl) (hplain:(backTo cpos (starEach es X.env)).any (·.1)=false:=by rfl) :
   PE X (.Call (.Attribute o name apos) (e::es) [] cpos) (tBM K T r to t):=h▸kT pa slot hty hm ho ha hbase hfew hline hs hplain
end
section
variable {K:Frg}{M:Own}{Q:DS->Own->Prop}
theorem V6 {ds:List PyData}(q:Q (.d (.int ds.length)) M):DR K (jA K) [.d (.list ds)] M Q:=cF q
theorem B3 {ds:List PyData}(q:Q (.d (.int ds.length)) M):DR K (jA K) [.d (.tuple ds)] M Q:=cG q
theorem YQ {bs:List Bool}(q:Q (.d (.bool (bs.any id))) M):DR K (fR K) [.d (.list (bs.map .bool))] M Q:=j5 q
end
end DL
namespace L2
open PySem PySem.Spec PyProof.Rows
section
variable {X:Cx}
theorem YR:∀{its:List Value}{ss:List Str},StrsAre its ss->Vals (ss.map V.str) its
 | _,_,.nil=>.nil
 | _,_,.cons y t r=>.cons ⟨t,rfl⟩ (YR r)
def YS (K:Frg):List V->Hp->VK->Prop:=fun xs H Q=>∃(p:Addr) (ss:List Str),xs=[.ref p]/\SqL K H p (ss.map V.str)/\ss.length < 64/\∀(ss':List Str) (q:Addr),ss'.Perm ss->sortedS ss'=true->H q=none->Q (.ref q) (upd H q (.lst (ss'.map V.str)))
theorem TC:BO X (.builtin "sorted") (YS X.K):=by
 intro pins s σ H xs us Q I r h
 obtain⟨p,ss,rfl,hp,h64,q⟩:=h
 obtain⟨u,rfl,ru⟩:=G6 r
 cases ru
 obtain⟨its,rv,pl,hz⟩:=I.list hp
 have hS:=UW rv
 have el:=rv.length
 rw[zX] at el
 refine sorted_strs pl.isList hS (by omega) fun out ss' h1 h2 h3=>?_
 obtain⟨e,he⟩:=sortedAll_at s.heap its out
 have hn:H (s.heap.objs.size+1)=none:=I.hok.fresh (Nat.le_succ _)
 have hlen:=h2.length_eq
 refine⟨.ref (s.heap.objs.size+1),_,I.laid (t':=s.toks) (o:=.lst (ss'.map V.str)) (fun b o eb=>sortedAll_old eb) (Nat.le_succ _) ?_,rfl,q ss' _ h2 h3 hn⟩
 refine⟨by rw[zX,hlen];exact zN (xQ h64) (by decide),out.toList,e,YR h1,?_⟩
 have he':=he
 simpa [seqObj] using he'
end
end L2
namespace DL
open PySem PySem.Spec L2
section
variable {X:Cx}{K:Frg}
def RD (K:Frg):List V->Hp->VK->Prop:=fun xs H Q=>∃p ys,xs=[.ref p]/\((SqL K H p ys/\∀l,H l=none->Q (.ref l) (upd H l (.tup ys)))∨(SqT K H p ys/\Q (.ref p) H))
theorem jB (h:X.K=K):BO X (.type "tuple") (RD K):=h▸NR
def PL (K:Frg):List V->Hp->VK->Prop:=fun xs H Q=>∃p ys,xs=[.ref p]/\(SqL K H p ys∨SqT K H p ys)/\∀l,H l=none->Q (.ref l) (upd H l (.lst ys))
theorem YT (h:X.K=K):BO X (.type "list") (PL K):=h▸P8
end
section
variable {K:Frg}{M:Own}{Q:DS->Own->Prop}{ρ:List (Option DS)}{H:Hp}
theorem J3 {ds:List PyData}(q:Q (.d (.tuple ds)) M):DR K (RD K) [.d (.list ds)] M Q:=fun H vs QQ oa s k=>by
 obtain⟨v,r,rfl,h1,h2⟩:=s
 cases h2
 unfold SI DV at h1
 obtain⟨a,vs,rfl,hl,hd⟩:=h1
 refine⟨a,vs,rfl,.inl ⟨hl.sq,fun p hp=>?_⟩⟩
 have g:Grow K M.W M.W H (upd H p (.tup vs)):=B0 _ hp
 refine k _ _ (.d (.tuple ds)) M (oa.new hp) ?_ ⟨g⟩ q
 unfold SI DV
 exact⟨p,vs,rfl,.inl ⟨fun w=>w (oa.none hp),.inl AH⟩,hd.grow g⟩
theorem MF {ds:List PyData}(q:Q (.d (.list ds)) M):DR K (PL K) [.d (.tuple ds)] M Q:=fun H vs QQ oa s k=>by
 obtain⟨v,r,rfl,h1,h2⟩:=s
 cases h2
 unfold SI DV at h1
 obtain⟨a,vs,rfl,hl,hd⟩:=h1
 refine⟨a,vs,rfl,.inr hl.sq,fun p hp=>?_⟩
 have g:Grow K M.W M.W H (upd H p (.lst vs)):=B0 _ hp
 refine k _ _ (.d (.list ds)) M (oa.new hp) ?_ ⟨g⟩ q
 unfold SI DV
 exact⟨p,vs,rfl,.inl ⟨fun w=>w (oa.none hp),.inl AH⟩,hd.grow g⟩
def BI:PyData->Bool | .none=>true | _=>false
theorem jC {d:PyData}(q:Q (.d (.bool (BI d))) M):D2 K (fun x y H Q=>y = .non/\Q (.bl (decide (x = .non))) H) (.d d) (.d .none) M Q:=fun H v u QQ oa s1 s2 k=>by
 refine⟨YB s2,k _ H (.d (.bool (BI d))) M oa ?_ Step.refl q⟩
 cases d <;> unfold SI DV at s1
 · rw[s1];exact AM
 · rw[s1];exact AM
 · rw[s1];exact AM
 · rw[s1];exact AM
 · obtain⟨a,_,rfl,_⟩:=s1;exact AM
 · obtain⟨a,_,rfl,_⟩:=s1;exact AM
 · obtain⟨a,_,rfl,_⟩:=s1;exact AM
theorem cQ {d:PyData}(q:Q (.d (.bool (!BI d))) M):D2 K (fun x y H Q=>y = .non/\Q (.bl (!decide (x = .non))) H) (.d d) (.d .none) M Q:=fun H v u QQ oa s1 s2 k=>by
 refine⟨YB s2,k _ H (.d (.bool (!BI d))) M oa ?_ Step.refl q⟩
 cases d <;> unfold SI DV at s1
 · rw[s1];exact AM
 · rw[s1];exact AM
 · rw[s1];exact AM
 · rw[s1];exact AM
 · obtain⟨a,_,rfl,_⟩:=s1;exact AM
 · obtain⟨a,_,rfl,_⟩:=s1;exact AM
 · obtain⟨a,_,rfl,_⟩:=s1;exact AM
end
def DGs (K:Frg) (g:TGs) (ds:List PyData) (ρ:List (Option DS)) (M:Own) (P:List (Option DS)->Own->Prop):Prop:=
 ∀(σ:St) (H:Hp) (vs:List V) (QQ:St->Hp->Prop),Rel K M ρ σ H->DVs K H M.W ds vs->(∀ρ' M' σ' H',Rel K M' ρ' σ' H'->Step K M M' H H'->P ρ' M'->QQ σ' H')->g vs σ H QQ
section
variable {K:Frg}{M:Own}{ρ:List (Option DS)}{P:List (Option DS)->Own->Prop}
theorem cR (h:P ρ M):DGs K gR [] ρ M P:=fun σ H vs QQ R hd k=>by
 unfold DVs at hd
 subst hd
 exact⟨rfl,k ρ M σ H R Step.refl h⟩
theorem YU {i:Nat}{g:TGs}{d:PyData}{ds:List PyData}(h:DGs K g ds (ρ.set i (some (.d d))) M P):DGs K (UN (LT i) g) (d::ds) ρ M P:=fun σ H vs QQ R hd k=>by
 unfold DVs at hd
 obtain⟨v,r,rfl,h1,h2⟩:=hd
 exact⟨v,r,rfl,h (σ.set i (some v)) H r QQ (R.set (x:=.d d) h1 i) h2 k⟩
theorem YV {n:Nat}{g:TGs}{ds:List PyData}(hn:ds.length=n) (h:DGs K g ds ρ M P):DG K (bF K n g) (.tuple ds) ρ M P:=fun σ H v QQ R dv k=>by
 unfold DV at dv
 obtain⟨a,vs,rfl,hl,hd⟩:=dv
 exact⟨a,vs,rfl,hl.sq,by rw[hd.length];exact hn,h σ H vs QQ R hd k⟩
def cS (g:TGs) (T:List Nat):Prop:=(∀(vs:List V) (σ:St) (H:Hp) (Q Q':St->Hp->Prop),(∀a b,Q a b->Q' a b)->g vs σ H Q->g vs σ H Q') /\
 (∀(vs:List V) (σ:St) (H:Hp) (QQ:St->Hp->Prop),g vs σ H QQ->g vs σ H fun σ2 H2=>(∀i,i∉T->σ2[i]?=σ[i]?)/\QQ σ2 H2)
theorem jD:cS gR []:=⟨fun vs σ H Q Q' m ⟨e,h⟩=>⟨e,m _ _ h⟩,fun vs σ H QQ ⟨e,h⟩=>⟨e,fun _ _=>rfl,h⟩⟩
theorem V7 {i:Nat}{g:TGs}{T:List Nat}(hg:cS g T):cS (UN (LT i) g) (i::T):=by
 refine⟨fun vs σ H Q Q' m ⟨v,r,e,h⟩=>⟨v,r,e,hg.1 r _ H Q Q' m h⟩,fun vs σ H QQ ⟨v,r,e,h⟩=>⟨v,r,e,?_⟩⟩
 refine hg.1 r _ H _ _ (fun σ2 H2 ⟨h1,h2⟩=>⟨fun j hj=>?_,h2⟩) (hg.2 r (σ.set i (some v)) H QQ h)
 rw[h1 j fun z=>hj (yV _ z),b3Z (by rintro rfl;exact hj a3Z)]
theorem jE {n:Nat}{g:TGs}{T:List Nat}(hg:cS g T):V3 (bF K n g) T:=fun v σ H QQ ⟨a,xs,e,hs,hl,h⟩=>
 ⟨a,xs,e,hs,hl,hg.1 xs σ H _ _ (fun σ2 H2 ⟨h1,h2⟩=>h2 h1) (hg.2 xs σ H _ h)⟩
end
end DL
namespace L2
open PySem PySem.Spec PyProof.Rows
section
variable {X:Cx}{pins:List (Addr×Obj)}{σ:St}{H:Hp}{s:Shared}{h':Heap}
theorem Inv.turnedT {ch:List Addr}{T:Addr}{ys:List V}{t':Nat}(I:Inv X pins σ H s) (k:∀b o,b∉ch->s.heap.get? b=some o->h'.get? b=some o) (hn:∀b∈ch,H b=none)
   (hch:∀b∈ch,(b∈X.ex∨X.s₀.heap.objs.size<=b)/\b≠X.env.locals/\(∀x c,X.env.cells.lookup x=some c->c≠b)/\∀p∈X.pn++pins,p.1≠b)
   (hT:s.heap.objs.size<=T) (new:ObjOk X.prog X.w (upd H T (.tup ys)) h' T (.tup ys)):Inv X pins σ (upd H T (.tup ys)) { s with heap:=h',toks:=t' }:=by
 have hTn:H T=none:=I.hok.fresh hT
 have nch:∀b u,H b=some u->b∉ch:=fun b u e z=>by rw[hn b z] at e;cases e
 refine I.step (g':=s.gens) (d':=s.drawn) (ch:=ch) hch (fun b o _ _ hc e _=>k b o hc e) (fun b o _ _ hc e _=>⟨o.slots,k b o hc e⟩) (fun b o hc e n=>?_)
   (fun b o hc e=>⟨o,k b o hc e⟩) (fun b xs e=>?_) (fun b o u e=>?_) (fun b ps e=>⟨#[],?_⟩) (fun m hm=>?_) (fun b u e=>?_) I.bare
 · rw[AG (zC (zP (zM e) hT))];exact n
 · rw[AG (AV e hTn)];exact e
 · rw[AG (AV e hTn)];exact e
 · rw[AG (AV e hTn),e];simp
 · obtain⟨o,es,ep,ho,r⟩:=hm
   exact⟨o,es,ep,k _ o (fun z=>(hch _ z).2.1 rfl) ho,r⟩
 · by_cases hb:b=T
   · subst hb;rw[AH] at e;cases e;exact new
   · rw[AG hb] at e
     refine(I.hok b u e).stay (fun c v hc q=>k c v ?_ q) (fun c q=>by rw[AG (AV q hTn)];exact q) fun c xs q=>by rw[AG (AV q hTn)];exact q
     rcases hc with z | z
     · rw[z];exact nch b u e
     · exact nch c _ z
theorem Inv.turnedL {ch:List Addr}{t':Nat}(I:Inv X pins σ H s) (k:∀b o,b∉ch->s.heap.get? b=some o->h'.get? b=some o) (hn:∀b∈ch,H b=none)
   (hch:∀b∈ch,(b∈X.ex∨X.s₀.heap.objs.size<=b)/\b≠X.env.locals/\(∀x c,X.env.cells.lookup x=some c->c≠b)/\∀p∈X.pn++pins,p.1≠b):Inv X pins σ H { s with heap:=h',toks:=t' }:=by
 have nch:∀b u,H b=some u->b∉ch:=fun b u e z=>by rw[hn b z] at e;cases e
 refine I.step (g':=s.gens) (d':=s.drawn) (ch:=ch) hch (fun b o _ _ hc e _=>k b o hc e) (fun b o _ _ hc e _=>⟨o.slots,k b o hc e⟩) (fun b o hc e n=>n)
   (fun b o hc e=>⟨o,k b o hc e⟩) (fun b xs e=>e) (fun b o u e=>e) (fun b ps e=>⟨#[],by rw[e];simp⟩) (fun m hm=>?_) (fun b u e=>?_) I.bare
 · obtain⟨o,es,ep,ho,r⟩:=hm
   exact⟨o,es,ep,k _ o (fun z=>(hch _ z).2.1 rfl) ho,r⟩
 · refine(I.hok b u e).stay (fun c v hc q=>k c v ?_ q) (fun c q=>q) fun c xs q=>q
   rcases hc with z | z
   · rw[z];exact nch b u e
   · exact nch c _ z
end
end L2
namespace DL
open PySem PySem.Spec L2
section
variable {K:Frg}{M:Own}{ρ:List (Option DS)}{QI:List PyData->Own->Prop}
def L4 (as bs:List PyData):List PyData:=(as.zip bs).map fun p=>.tuple [p.1,p.2]
end
end DL
namespace HT
open PySem PySem.Spec PyProof.Rows
section
variable {prog:Program}{w:World}{A:Around}{E:Value->Shared->Prop}{s:Shared}
theorem getItem_tuple_whole {t sl:Addr}{items:Array Value}{vl vu:Value}{lo hi:Option Int}{Q:Value->Shared->Prop}(ht:IsTup s.heap t items) (hs:s.heap.IsSliceOf sl vl vu .none) (pl:IsPart vl lo) (pu:IsPart vu hi)
   (hw:sIx items.size 0 lo=0/\sIx items.size items.size hi=items.size) (h:Q (.ref t) s):wpAny (model prog w) A (getItem (.ref t) (.ref sl)) Q E s:=by
 obtain⟨os,hos,hcs,hds⟩:=id hs
 have hTs:s.TypeIs (.ref sl) "slice" := ⟨os,hos,hcs⟩
 unfold getItem
 try with_reducible refine wpAny_holding ?_
 first | refine zZ (zY ?_) | skip
 refine zZ (wpAny_sequenceKey ht.typeIs (by decide) ?_)
 refine zZ (wpAny_callSpecial?_slot (name:=a0Q "__getitem__") ht.typeIs a6K
   (wpAny_call_entry a6K ht.typeIs entry_tuple_getitem ?_ (args_tuple_getitem _ _)))
 show wpAny _ _ (Builtin.Tuple.tupleItemsOf (.ref t) >>= _) _ _ s
 refine zZ (tupleItemsOf_ ht ?_)
 refine zZ (wpAny_typeOf hTs ?_)
 rw[if_pos (by decide)]
 refine zZ (F8 hs pl pu ?_)
 have hno:((((sIx items.size 0 lo:Nat):Int)==0&&(1:Int)==1&&(sIx items.size items.size hi - sIx items.size 0 lo)==items.size)=true):=by
   rw[hw.1,hw.2];simp
 show wpAny _ _ (if (((sIx items.size 0 lo:Nat):Int)==0&&(1:Int)==1&&(sIx items.size items.size hi - sIx items.size 0 lo)==items.size)=true then _ else _) _ _ s
 rw[if_pos hno]
 refine zZ (m:=Builtin.Tuple.tupleIsExact _) (zZ (wpAny_typeOf ht.typeIs (zY ?_)))
 show wpAny _ _ (if true=true then _ else _) _ _ s
 rw[if_pos rfl]
 first
   | exact zZ (wpAny_rule (zZ (zY ⟨_,rfl,zY h⟩)))
   | exact zZ (wpAny_rule (zY ⟨_,rfl,zY h⟩))
   | exact zZ (wpAny_rule (zZ (zY (zY ⟨_,rfl,zY h⟩))))
end
end HT
namespace L2
open PySem PySem.Spec PyProof.Rows
section
variable {X:Cx}
def fT (K:Frg):V->Option Int->Option Int->Hp->VK->Prop:=fun x lo hi H Q=>∃a xs,x = .ref a/\SqT K H a xs/\(IL xs lo hi=xs->Q (.ref a) H)/\∀p,H p=none->Q (.ref p) (upd H p (.tup (IL xs lo hi)))
theorem cT:SlR X (fT X.K):=by
 intro pins s σ H x v vl vu lo hi sl Q I rx hs pl pu h
 obtain⟨a,xs,rfl,hx,q1,q2⟩:=h
 cases rx
 obtain⟨its,r,ht,hz⟩:=I.tuple hx
 have hlen:its.toArray.size=xs.length:=by rw[zJ];exact r.length.symm
 by_cases hw:HT.sIx xs.length 0 lo=0/\HT.sIx xs.length xs.length hi=xs.length
 · refine⟨"tuple", _,PyProof.Rows.slot_tuple_getitem.lookup,ht.typeIs,?_⟩
   refine HT.getItem_tuple_whole ht hs pl pu (by rw[hlen];exact hw) ⟨.ref a,H,I,rfl,q1 ?_⟩
   unfold IL
   rw[hw.1,hw.2];simp
 · exact hX pins s σ H (.ref a) (.ref a) vl vu lo hi sl Q I rfl hs pl pu ⟨a,xs,rfl,hx,hw,q2⟩
def TD (K:Frg):R2:=fun x y H Q=>∃a b xs ys,x = .ref a/\y = .ref b/\SqT K H a xs/\SqT K H b ys/\xs.length+ys.length<=sizeLine /\
 (xs=[]->Q (.ref b) H)/\(ys=[]->Q (.ref a) H)/\(∀p,H p=none->Q (.ref p) (upd H p (.tup (xs++ys))))
theorem YW:OpR X (binaryOp .Add) (TD X.K):=by
 intro pins s σ H x y v u Q I rx ry h
 obtain⟨t,b,xs,ys,rfl,rfl,hx,hy,hz,q0,q1,q2⟩:=h
 cases rx
 cases ry
 obtain⟨its,r,ht,_⟩:=I.tuple hx
 obtain⟨its2,r2,hb,_⟩:=I.tuple hy
 have e1:=r.length
 have e2:=r2.length
 obtain⟨⟨cls,dd,data,sl⟩,ho,hc,n,hd⟩:=id ht
 obtain⟨⟨cls2,dd2,data2,sl2⟩,ho2,hc2,n2,hd2⟩:=id hb
 dsimp only at hc hd hc2 hd2
 subst hc hd hc2 hd2
 have e:its.toArray++its2.toArray=(its++its2).toArray:=by simp
 by_cases hv:its=[]
 · have hx0:xs=[]:=by cases r with | nil=>rfl | cons _ _=>cases hv
   exact concat_meets ⟨_,ho,rfl⟩ ⟨_,ho2,rfl⟩ noFill_tuple_add seq_tuple_add a6Q a5K (a5Q _ _)
     (tuple_addW0 t b its.toArray its2.toArray n n2 dd dd2 sl sl2 (by simp[hv])) ⟨ho,ho2,⟨.ref b,H,I,rfl,q0 hx0⟩⟩
 · by_cases hw:its2=[]
   · have hy0:ys=[]:=by cases r2 with | nil=>rfl | cons _ _=>cases hw
     exact concat_meets ⟨_,ho,rfl⟩ ⟨_,ho2,rfl⟩ noFill_tuple_add seq_tuple_add a6Q a5K (a5Q _ _)
       (tuple_addW1 t b its.toArray its2.toArray n n2 dd dd2 sl sl2 (by simpa using hv) (by simp[hw])) ⟨ho,ho2,⟨.ref t,H,I,rfl,q1 hy0⟩⟩
   · refine concat_meets ⟨_,ho,rfl⟩ ⟨_,ho2,rfl⟩ noFill_tuple_add seq_tuple_add a6Q a5K (a5Q _ _)
       (tuple_addW2 t b its.toArray its2.toArray n n2 dd dd2 sl sl2 (by simpa using hv) (by simpa using hw) (by rw[zJ,zJ];omega)) ⟨ho,ho2,?_⟩
     rw[e]
     refine⟨.ref s.heap.objs.size,_,I.laid (t':=s.toks) (o:=.tup (xs++ys)) (fun b ob q=>zW _ q) (zR _) ?_,rfl,q2 _ I.fresh⟩
     exact⟨by rw[yY];exact hz,its++its2,r.append r2,IsTup.new _ _⟩
end
end L2
namespace DL
open PySem PySem.Spec L2
section
variable {X:Cx}{K:Frg}
def RE (K:Frg):R2:=fun x y H Q=>RC K x y H Q∨TD K x y H Q
theorem J5 (h:X.K=K):OpR X (binaryOp .Add) (RE K):=h▸cK.or YW
def cU (K:Frg):V->Option Int->Option Int->Hp->VK->Prop:=fun x lo hi H Q=>cL K x lo hi H Q∨fT K x lo hi H Q
theorem lJ (h:X.K=K):SlR X (cU K):=h▸j7.or cT
end
section
variable {K:Frg}{M:Own}{Q:DS->Own->Prop}
theorem YX {i j:Int}(q:Q (.d (.int (i+j))) M):D2 K (RE K) (.d (.int i)) (.d (.int j)) M Q:=EG (YG q)
theorem MG {i j:Str}(hz:i.length+j.length<=sizeLine) (q:Q (.d (.str (i++j))) M):D2 K (RE K) (.d (.str i)) (.d (.str j)) M Q:=EG (YH hz q)
theorem C9 {a b:List PyData}(hz:a.length+b.length<=sizeLine) (q:Q (.d (.list (a++b))) M):D2 K (RE K) (.d (.list a)) (.d (.list b)) M Q:=EG (YI hz q)
theorem J6 {as bs:List PyData}(hz:as.length+bs.length<=sizeLine) (q:Q (.d (.tuple (as++bs))) M):D2 K (RE K) (.d (.tuple as)) (.d (.tuple bs)) M Q:=FO fun H v u QQ oa s1 s2 k=>by
 have s1':=s1
 have s2':=s2
 unfold SI DV at s1 s2
 obtain⟨a,vs,rfl,hl,hd⟩:=s1
 obtain⟨b,us,rfl,hl2,hd2⟩:=s2
 refine⟨a,b,vs,us,rfl,rfl,hl.sq,hl2.sq,by rw[hd.length,hd2.length];exact hz,fun e=>?_,fun e=>?_,fun p hp=>?_⟩
 · have:as=[]:=by have:=hd.length;rw[e] at this;exact List.length_eq_zero_iff.mp this.symm
   subst this
   exact k _ H (.d (.tuple ([]++bs))) M oa s2' Step.refl q
 · have:bs=[]:=by have:=hd2.length;rw[e] at this;exact List.length_eq_zero_iff.mp this.symm
   subst this
   rw[a3K] at q
   exact k _ H (.d (.tuple as)) M oa s1' Step.refl q
 · have g:Grow K M.W M.W H (upd H p (.tup (vs++us))):=B0 _ hp
   refine k _ _ (.d (.tuple (as++bs))) M (oa.new hp) ?_ ⟨g⟩ q
   unfold SI DV
   exact⟨p,_,rfl,.inl ⟨fun w=>w (oa.none hp),.inl AH⟩,(hd.append hd2).grow g⟩
theorem J7 {z:Str}{lo hi:Option Int}(hz:z.length<=sizeLine) (q:Q (.d (.str (a0V z lo hi))) M):DSl K (cU K) (.d (.str z)) lo hi M Q:=fun H v QQ oa s1 k=>.inl (YJ hz q H v QQ oa s1 k)
theorem BU {ds:List PyData}{lo hi:Option Int}(q:Q (.d (.list (D9 ds lo hi))) M):DSl K (cU K) (.d (.list ds)) lo hi M Q:=fun H v QQ oa s1 k=>.inl (WL q H v QQ oa s1 k)
theorem AS {ds:List PyData}{lo hi:Option Int}(q:Q (.d (.tuple (D9 ds lo hi))) M):DSl K (cU K) (.d (.tuple ds)) lo hi M Q:=fun H v QQ oa s1 k=>.inr (by
 have s1':=s1
 unfold SI DV at s1
 obtain⟨a,vs,rfl,hl,hd⟩:=s1
 have key:DVs K H M.W (D9 ds lo hi) (IL vs lo hi):=by
   unfold D9 IL
   rw[hd.length]
   exact(hd.drop _).take _
 refine⟨a,vs,rfl,hl.sq,fun e=>?_,fun p hp=>?_⟩
 · refine k _ H (.d (.tuple (D9 ds lo hi))) M oa ?_ Step.refl q
   unfold SI DV
   exact⟨a,vs,rfl,hl,by rw[← e];rw[e] at key;rw[e];exact key⟩
 · have g:Grow K M.W M.W H (upd H p (.tup (IL vs lo hi))):=B0 _ hp
   refine k _ _ (.d (.tuple (D9 ds lo hi))) M (oa.new hp) ?_ ⟨g⟩ q
   unfold SI DV
   exact⟨p,_,rfl,.inl ⟨fun w=>w (oa.none hp),.inl AH⟩,key.grow g⟩)
end
theorem jF {X:Cx}{K:Frg}{pos:Pos}{es:List Expr}{k:Nat}{t:TGs}{n:Nat}(hK:X.K=K) (hc:X.calm=true) (h:PGs X es t)
   (hn:(assignEach es X.env).length=n:=by rfl) (hst:(assignEach es X.env).findIdx? (·.1)=none:=by rfl):PG X (.Tuple es k pos) (bF K n t):=hK▸XS hc h hn hst
end DL
namespace HT
open PySem PySem.Spec PyProof.Rows
section
variable {prog:Program}{w:World}{A:Around}{E:Value->Shared->Prop}{s:Shared}
theorem YY (xs:Array Value):((a1X xs.size).filterMap fun(m:Nat)=>xs[((xs.size:Int) - 1+(m:Int)*(-1)).toNat]?).toArray=xs.toList.reverse.toArray:=by
 congr 1
 apply b1V
 intro i
 have key:∀k,k<=xs.size->((a1X k).filterMap fun(m:Nat)=>xs[((xs.size:Int) - 1+(m:Int)*(-1)).toNat]?)=xs.toList.reverse.take k:=by
   intro k
   induction k with
   | zero=>intro _;simp
   | succ k ih=>
     intro hk
     rw[List.range_succ,List.filterMap_append,ih (by omega),a7Z]
     have e1:((xs.size:Int) - 1+(k:Int)*(-1)).toNat=xs.size - 1 - k:=by omega
     have e2:xs.toList.reverse[k]?=xs[xs.size - 1 - k]?:=by
       rw[List.getElem?_reverse (by simp;omega)]
       simp
     simp only[a6X,List.filterMap_nil,e1,e2]
     cases xs[xs.size - 1 - k]? <;> simp
 rw[key xs.size (zR _),a3J (by simp)]
end
end HT
namespace DL
open PySem PySem.Spec L2
section
variable {K:Frg}{ρ:List (Option DS)}{M:Own}{Q:DS->Own->Prop}{te ts:TE}
theorem DVs.reverse {H:Hp}{W:Addr->Prop}:∀{ds:List PyData}{vs:List V},DVs K H W ds vs->DVs K H W ds.reverse vs.reverse
 | [],vs,h=>by unfold DVs at h;subst h;exact DVs.nil
 | d::ds,vs,h=>by
   unfold DVs at h
   obtain⟨v,r,rfl,h1,h2⟩:=h
   rw[b6J,b6J]
   exact(DVs.reverse h2).append (DVs.cons h1 DVs.nil)
end
end DL
namespace DL
open PySem PySem.Spec L2
def fn1 (pre:PyData->Prop) (f:PyData->PyData):FSp:=⟨fun xs _=>∃d,xs=[.d d]/\pre d,fun xs M y M'=>∀d,xs=[.d d]->y = .d (f d)/\M'=M⟩
theorem CQ {pre:PyData->Prop}{f:PyData->PyData}{d:PyData}{M:Own}{Q:DS->Own->Prop}(p:pre d) (q:Q (.d (f d)) M):[DS.d d].length=1/\(fn1 pre f).pre [.d d] M/\∀x M',(fn1 pre f).post [.d d] M x M'->Q x M':=
 ⟨rfl,⟨d,rfl,p⟩,fun x M' h=>by obtain⟨rfl,rfl⟩:=h d rfl;exact q⟩
def J8 (c:Nat):Bool:=decide (97<=c)&&decide (c<=122)
section
variable {K:Frg}{ρ:List (Option DS)}{M:Own}{D:EndsD}{t u:TS}
theorem IM (P:List (Option DS)->Own->Prop) (h:DSt K t ρ M { D with nx:=P }) (h2:∀ρ1 M1,P ρ1 M1->DSt K u ρ1 M1 D):DSt K (gM t u) ρ M D:=
 YA (cC h (fun ρ' M' p=>h2 ρ' M' p) (fun _ _ q=>q) (fun _ _ q=>q) (fun _ _ q=>q))
end
def AJ (z:Str):Prop:=1<=z.cps.size/\z.cps.size<=8/\∀c∈z.cps.toList,J8 c=true
theorem mG {M:Own}{a:Addr}{ds:List PyData}{k:Int}{j:Nat}{F:Addr->List PyData->Nat->Prop}(m:M a=some (.l ds)) (e:ixN ds.length k=some j) (q:F a ds j) :
   ∃a' ds' k' j',DS.loc a = .loc a'/\DS.d (.int k) = .d (.int k')/\M a'=some (.l ds')/\ixN ds'.length k'=some j'/\F a' ds' j':=⟨a,ds,k,j,rfl,rfl,m,e,q⟩
theorem mH {xs:List DS}{ds:List PyData}{Q:List PyData->Prop}(e:NS xs=some ds) (h:ds.length<=sizeLine) (q:Q ds):∃ds,NS xs=some ds/\ds.length<=sizeLine/\Q ds:=⟨ds,e,h,q⟩
theorem YZ (n len:Nat):a4Q none (some (n:Int)) 1 len=a1X (min n len):=by
 unfold a4Q sliceRange
 have h1:¬((n:Int) < 0):=by omega
 have h2:max 0 (min (n:Int) (len:Int))=((min n len:Nat):Int):=by omega
 simp only[show(1:Int) > 0 by decide,if_true,h1,if_false,h2]
 have h3:(if (0:Int) < ((min n len:Nat):Int) then (((min n len:Nat):Int) - 0+1 - 1)/1 else 0).toNat=min n len:=by
   split
   · rw[Int.ediv_one];omega
   · omega
 rw[h3]
 apply b1V
 intro i
 rw[zF]
 by_cases h:i < min n len
 · simp[xZ h]
 · simp[a0J (show(a1X (min n len)).length<=i by simp;omega)]
theorem WN (l:List Nat) (a:Array Nat) (m:Nat) (h:a.toList=l):(a1X m).filterMap (fun i=>a[i]?)=l.take m:=by
 induction m with
 | zero=>simp
 | succ m ih=>
   rw[List.range_succ,List.filterMap_append,ih,a7Z]
   have e:a[m]?=l[m]?:=by rw[← h];simp
   simp only[a6X,List.filterMap_nil,e]
   cases l[m]? <;> simp
theorem FQ (z:Str) (n:Nat):(a0V z none (some (n:Int))).cps.toList=z.cps.toList.take n:=by
 unfold a0V
 rw[YZ]
 have hl:z.length=z.cps.toList.length:=by simp[Str.length]
 split
 · rename_i h
   simp only[xY,beq_self_eq_true,Bool.true_and,beq_iff_eq] at h
   rw[a3J (by rw[← hl];omega)]
 · show(List.filterMap _ _).toArray.toList=_
   rw[WN z.cps.toList z.cps _ rfl,List.toList_toArray,hl,b2K]
   omega
theorem WO {z:Str}{n:Nat}{c:Nat}(h:c∈(a0V z none (some (n:Int))).cps.toList):c∈z.cps.toList:=by
 rw[FQ] at h;exact a2Z h
theorem AQ (x y:Str):(x++y).cps.toList=x.cps.toList++y.cps.toList:=by
 show(x.cps++y.cps).toList=_
 simp
theorem GT:(a0Q "abcdefghijklmnopqrstuvwxyz").length=26:=by decide +kernel
theorem Z0 {M:Own}{p A:Addr}{o o' x y:MO}(h:p≠A):(((M.put p o).put A x).put p o').put A y=(M.put p o').put A y:=by
 funext b
 unfold Own.put
 by_cases h1:b=A
 · simp[h1]
 · by_cases h2:b=p
   · simp[h2,h1,h]
   · simp[h1,h2]
theorem flt (l:List PyData):l.filter (fun _=>true)=l:=List.filter_eq_self.mpr (by simp)
theorem Z1:(a0Q "abcdefghijklmnopqrstuvwxyz").cps.size=26:=by decide +kernel
theorem OQ (z:Str) (l u:Option Int) {n:Nat}(h:z.length<=n):(a0V z l u).length<=n:=zN (Txt.slice_le z l u) h
theorem jG {c:Nat}(h:J8 c=true):c < 128:=by
 unfold J8 at h;simp at h;omega
theorem K6 (s:Str):s.cps.size=s.cps.toList.length:=by simp
end DL
namespace DL
open PySem PySem.Spec L2
def sl (a b:Str):Bool:=Spec.ltCps a.cps.toList b.cps.toList
theorem lK (a b:Str):decide (a.cps.toList < b.cps.toList)=sl a b:=PyProof.Rows.lt_meets a b
def Ris (ss:List Str):Prop:=ss.Pairwise fun a b=>sl a b=true
theorem BV {d:PyData}(h1:d.canLay0=true) (h2:d.depth<=64):zH d=true:=by
 unfold zH;rw[h1,decide_eq_true h2];rfl
theorem FR {ds:List PyData}(h:∀d∈ds,d.canLay0=true):b6Q ds=true:=by
 induction ds with
 | nil=>rfl
 | cons d r ih=>rw[b6Q,h d a3Z,ih fun x hx=>h x (yV _ hx)];rfl
theorem MH {ds:List PyData}{n:Nat}(h:∀d∈ds,d.depth<=n):a1J ds<=n:=by
 induction ds with
 | nil=>simp[a1J]
 | cons d r ih=>
   have h1:=h d a3Z
   have h2:=ih fun x hx=>h x (yV _ hx)
   simp only[a1J];omega
theorem BL {z:Str}(h:AJ z):PyData.strOk z=true:=by
 unfold PyData.strOk
 rw[Array.all_eq_true']
 intro c hc
 have:=jG (h.2.2 c (by simpa using hc))
 simp;omega
theorem L5 (ys:List Str):a0X (.list (ys.map .str)) (.list [])=ys.isEmpty:=by
 cases ys with
 | nil=>rfl
 | cons y r=>simp[a0X,PyData.eqvAll]
theorem MJ:∀c∈(a0Q "abcdefghijklmnopqrstuvwxyz").cps.toList,J8 c=true:=by decide +kernel
theorem TF:(a0Q "abcdefghijklmnopqrstuvwxyz").cps.toList.Nodup:=by decide +kernel
end DL
namespace DL
open PySem PySem.Spec L2
theorem sIx_nat (n d k:Nat):HT.sIx n d (some (k:Int))=min k n:=HT.sIx_nat n d k
theorem CA (xs:List PyData) (k:Nat):D9 xs (some (k:Int)) none=xs.drop k:=by
 unfold D9
 rw[sIx_nat]
 show(xs.drop (min k xs.length)).take (xs.length - min k xs.length)=_
 rw[a3J (by rw[a0K];omega)]
 by_cases h:k<=xs.length
 · rw[a9J h]
 · rw[b3Q (by omega),a2J (zR _),a2J (by omega)]
theorem K7 (xs:List PyData) (k:Nat):D9 xs none (some (k:Int))=xs.take k:=by
 unfold D9
 rw[sIx_nat]
 show(xs.drop 0).take (min k xs.length - 0)=_
 rw[List.drop_zero,Nat.sub_zero,b2K];omega
theorem HH (xs:List PyData) (a b:Nat):D9 xs (some (a:Int)) (some (b:Int))=(xs.take b).drop a:=by
 unfold D9
 rw[sIx_nat,sIx_nat,List.drop_take]
 by_cases h:a<=xs.length
 · rw[a9J h,b2K,a0K];omega
 · rw[a2J (show xs.length<=min a xs.length by omega),a2J (show xs.length<=a by omega)];simp
def OR:PyData->Str | .str z=>z | _=>⟨#[]⟩
abbrev Th:=Str×Int×Int
def thD (t:Th):PyData:=.tuple [.str t.1,.int t.2.1,.int t.2.2]
def wD (w:List Th):PyData:=.tuple (w.map thD)
end DL
namespace DL
open PySem PySem.Spec L2
theorem RF {as bs:List Str}(h:as.map a0W=bs.map a0W):as=bs:=by
 have:=congrArg (List.map OR) h
 rw[zD,zD] at this
 simpa [show(OR∘a0W)=id from rfl] using this
theorem FS {K:Frg}{ρ:List (Option DS)}{M:Own}{D:EndsD}{te:TE}{g:TG}(h:DE K te ρ M fun x M1=>∃d,x = .d d/\DG K g d ρ M1 D.nx):DSt K (bG te g) ρ M D:=fun σ H E R k1 _ _ _=>
 h σ H _ R fun v H' x M' a b c q=>by
   obtain⟨d,rfl,q⟩:=q
   exact q σ H' v _ (R.step a c) b fun ρ2 M2 σ2 H2 R2 st2 p=>k1 ρ2 M2 σ2 H2 R2 (c.trans st2) p
theorem Z2 {X:Cx}:MtR X "list.append" P9:=OH
end DL
namespace L2
open PySem PySem.Spec PyProof.Rows
def EntS (w:World):List DictEntry->List (Str×Str)->Prop
 | [],[]=>True
 | e::es,kv::r=>e.hash=hashStr w kv.1/\(∃t,e.key = .str kv.1 t)/\(∃t,e.val = .str kv.2 t)/\EntS w es r
 | _,_=>False
def GDict (w:World) (K:Frg) (a:Addr) (kvs:List (Str×Str)):Prop:=
 (a==sysModules)=false/\(kvs.map (·.1)).Nodup/\∃es ep,K.lookup a=some { cls:=.type "dict", data:=.dict es ep }/\EntS w es.toList kvs
theorem EntS.pairs {P:Program}{w:World}:∀{es:List DictEntry}{kvs:List (Str×Str)},EntS w es kvs->∃vs:List (Key×Value),Pairs (AR P w) es vs/\KV (kvs.map fun kv=>((a2K kv.1:Key),V.str kv.2)) vs/\vs.map (·.1)=kvs.map (fun kv=>(a2K kv.1:Key))/\∀e∈es,∃k,(AR P w).is k e.key=true/\e.hash=(AR P w).hash k
 | [],[],_=>⟨[],.nil,.nil,rfl,by simp⟩
 | e::es,kv::r,⟨h1,⟨t,h2⟩,⟨t',h3⟩,h4⟩=>by
   obtain⟨vs,a,b,c,d⟩:=EntS.pairs (P:=P) h4
   have hk:(AR P w).is (a2K kv.1) e.key=true:=by rw[h2];exact KK P w kv.1 t
   refine⟨(a2K kv.1,e.val)::vs,.cons hk rfl a,.cons ⟨rfl,⟨t',h3⟩⟩ b,by rw[zI,zI,c],fun x hx=>?_⟩
   rcases yX.mp hx with rfl | hx
   · exact⟨_,hk,h1⟩
   · exact d x hx
section
variable {X:Cx}{pins:List (Addr×Obj)}{σ:St}{H:Hp}{s:Shared}
theorem GDict.at {a:Addr}{kvs:List (Str×Str)}(g:GDict X.w X.K a kvs) (I:Inv X pins σ H s):∃vs,KV (kvs.map fun kv=>((a2K kv.1:Key),V.str kv.2)) vs/\s.heap.DictOf (AR X.prog X.w) a vs:=by
 obtain⟨_,nd,es,ep,hk,he⟩:=g
 obtain⟨vs,p1,p2,p3,p4⟩:=he.pairs (P:=X.prog)
 refine⟨vs,p2,_,es,ep,I.kIn a _ hk,⟨rfl,rfl,rfl⟩,rfl,fun e he=>p4 e (by simpa using he),p1,?_⟩
 rw[p3]
 have:kvs.map (fun kv=>(a2K kv.1:Key))=(kvs.map (·.1)).map a2K:=by rw[zD];rfl
 rw[this]
 unfold List.Nodup
 rw[b1W]
 exact nd.imp fun {a b} q e=>q (by injection e)
def fU (kvs:List (Str×Str)) (ty:TE):TE:=fun σ H Q=>ty σ H fun y H1=>∃k:Str,y = .str k/\Q (((kvs.lookup k).map V.str).getD .non) H1
theorem RG (kvs:List (Str×Str)) (k:Str):GO (kvs.map fun kv=>((a2K kv.1:Key),V.str kv.2)) (a2K k)=(kvs.lookup k).map V.str:=by
 induction kvs with
 | nil=>rfl
 | cons kv r ih=>
   obtain⟨a,b⟩:=kv
   unfold GO at ih ⊢
   rw[zI,a7K,a2X]
   by_cases h:a=k
   · subst h;simp
   · have h1:decide ((a2K a:Key)=a2K k)=false:=decide_eq_false fun e=>h (by injection e)
     have h2:(k==a)=false:=by simpa using fun e=>h e.symm
     simp only[h1,h2]
     exact ih
theorem cV {x:Str}{p apos cpos:Pos}{e:Expr}{ty:TE}{kvs:List (Str×Str)}(hg:Gl X x) (hm:∃a,X.mg x=some (.ref a)/\GDict X.w X.K a kvs) (he:PE X e ty) (m:M1 X (.Name x p) "get" apos e cpos) (hd:(x==("__debug__":Str))=false:=by decide) :
   PE X (.Call (.Attribute (.Name x p) "get" apos) [e] [] cpos) (fU kvs ty):=by
 obtain⟨a,hm,g⟩:=hm
 intro pins s σ H Q I h
 refine wpAny_Call_method m.base m.few m.line PySem.F.plainAttrs_dict a8J PySem.F.type_dict_get (UM I hg hm ?_ hd)
 obtain⟨vs,rel,dd⟩:=g.at I
 refine⟨dd.typeIs,fun b q=>?_,?_⟩
 · cases q
   obtain⟨ob,_,_,h1,h2,_⟩:=dd
   exact⟨ob,h1,h2.2.1⟩
 rw[m.trees]
 refine b7J rfl (Calls.evalArgs_plain (xN (thn (he pins s σ H _ I h) fun iv s2 ⟨y,H2,I2,ry,k,ey,q2⟩=>Calls.spliced_nil ?_)))
 subst ey
 obtain⟨vs',rel',dd'⟩:=g.at I2
 refine call_meetsIn a8J dd'.typeIs b6V (PySem.F.args_dict_get_2 _ _) (meets_dict_get (AR X.prog X.w) a (M9 (k:=a2K k) ry) g.1) ⟨_,dd'.mapOf,?_⟩
 refine⟨_,H2,I2.tok _,?_,q2⟩
 have:=(rel'.val (a2K k)).getD (show RelV .non .none from rfl)
 rw[RG] at this
 exact this
end
end L2
namespace DL
open PySem PySem.Spec L2
section
variable {K:Frg}{ρ:List (Option DS)}{M:Own}{Q:DS->Own->Prop}{ty:TE}
def jH:Option Str->PyData | some z=>.str z | none=>.none
theorem cW {kvs:List (Str×Str)}(h:DE K ty ρ M fun y M1=>∃k,y = .d (.str k)/\Q (.d (jH (kvs.lookup k))) M1):DE K (fU kvs ty) ρ M Q:=fun σ H QQ R k=>
 h σ H _ R fun v H1 x M1 o1 s1 t1 h1=>by
   obtain⟨z,rfl,q⟩:=h1
   refine⟨z,D8 s1,?_⟩
   cases e:kvs.lookup z with
   | none=>rw[e] at q;exact k _ H1 (.d .none) M1 o1 (by unfold SI DV;rfl) t1 q
   | some y=>rw[e] at q;exact k _ H1 (.d (.str y)) M1 o1 FA t1 q
theorem jI {neg:Bool}{x:Str}{ys:List Str}(q:Q (.d (.bool (if neg then !decide (x∈ys) else decide (x∈ys)))) M):D2 K (rIn K neg) (.d (.str x)) (.d (.tuple (ys.map .str))) M Q:=fun H v u QQ oa s1 s2 k=>by
 rw[D8 s1]
 unfold SI DV at s2
 obtain⟨a,vs,rfl,hl,hd⟩:=s2
 have e:=MD hd
 subst e
 exact⟨a,_,rfl,.inr hl.sq,rfl,by simp[HS],k _ H (.d (.bool (if neg then !decide (x∈ys) else decide (x∈ys)))) M oa (by rw[RA];exact AM) Step.refl q⟩
theorem V8 {x:Str}{ys:List Str}(q:Q (.d (.bool (decide (x∈ys)))) M):D2 K (cM K) (.d (.str x)) (.d (.tuple (ys.map .str))) M Q:=FO (jI (neg:=false) q)
end
end DL
namespace L2
open PySem PySem.Spec PyProof.Rows
section
variable {X:Cx}
def PM:V->List V->Hp->VK->Prop:=fun v vs H Q=>∃x y,v = .str x/\vs=[.str y]/\Q (.bl (Txt.startswith x y)) H
theorem WP:MtR X "str.startswith" PM:=by
 intro pins s σ H x xs v us Q I rx rv h
 obtain⟨y,z,rfl,rfl,q⟩:=h
 obtain⟨t,rfl⟩:=rx
 obtain⟨u,rfl,t',rfl⟩:=G6 rv
 exact SC.startswith ⟨.bl _,H,I,rfl,q⟩
def L6 (z:Str) (n:Int):Str:=if (n==1||z.length==0)=true then z else ⟨(a4V n.toNat z.cps).foldl (·++·) #[]⟩
def V9:R2:=fun x y H Q=>(rI (fun i j=>IntMulOk i j) fun i j=>.int (i*j)) x y H Q∨∃z n,x = .str z/\y = .int n/\1<=n/\n<=8/\z.length<=1000/\Q (.str (L6 z n)) H
theorem RH (a:Array Nat):∀(n:Nat) (b:Array Nat),(List.foldl (fun x1 x2=>x1++x2) b (a4V n a)).size=b.size+n*a.size
 | 0,b=>by simp
 | n+1,b=>by
   rw[b0J,List.foldl_cons,RH a n,Array.size_append,Nat.succ_mul];omega
theorem MK (a:Array Nat):∀(n:Nat) (b:Array Nat),(List.foldl (fun x1 x2=>x1++x2) b (a4V n a)).toList=b.toList++(a4V n a.toList).flatten
 | 0,b=>by simp
 | n+1,b=>by
   rw[b0J,List.foldl_cons,MK a n,b0J];simp
theorem cX:OpR X (binaryOp .Mult) V9:=by
 intro pins s σ H x y v u Q I rx ry h
 rcases h with h | ⟨z,n,rfl,rfl,h1,h2,h3,q⟩
 · exact(opI (C:=fun i j=>IntMulOk i j) fun _ _ _ _ _ _ _ hc q=>mul_int q hc) pins s σ H x y v u Q I rx ry h
 · obtain⟨t,rfl⟩:=rx
   obtain⟨t',rfl⟩:=ry
   have hp:(2:Int) ^ 63=9223372036854775808:=by decide
   refine P.mul_str ?_ (fun _ _=>?_) (fun _ _=>?_) ?_
   · rw[decide_eq_false (Int.not_lt.mpr (Int.le_trans (by decide) h1)),decide_eq_false (Int.not_le.mpr (Int.lt_of_le_of_lt h2 (by decide)))];rfl
   · rw[hp]
     have h5:(1000:Int)<=(9223372036854775808 - 1)/n:=Int.le_ediv_of_mul_le (Int.lt_of_lt_of_le (by decide) h1) (Int.le_trans (Int.mul_le_mul_of_nonneg_left h2 (by decide)) (by decide))
     exact fun hc=>absurd (Int.lt_of_le_of_lt h5 hc) (Int.not_lt.mpr (Int.ofNat_le.mpr h3))
   · have hm:z.length*n.toNat<=1000*1000:=Nat.mul_le_mul h3 (by omega)
     unfold Builtin.Str.tooLong
     rw[decide_eq_false]
     exact fun hc=>absurd (zP hc hm) (by decide)
   · rw[if_neg (by omega)]
     have q':=q
     unfold L6 at q'
     split
     · rename_i e
       rw[if_pos e] at q'
       exact⟨.str z,H,I,⟨_,rfl⟩,q'⟩
     · rename_i e
       rw[if_neg e] at q'
       refine⟨?_,⟨.str _,H,I.tok _,⟨_,rfl⟩,q'⟩⟩
       show(List.foldl (fun x1 x2=>x1++x2) #[] (a4V n.toNat z.cps)).size<=sizeLine
       rw[RH]
       have hm:(#[]:Array Nat).size+n.toNat*z.cps.size<=8*1000:=by
         rw[show(#[]:Array Nat).size=0 from rfl,Nat.zero_add]
         exact Nat.mul_le_mul (by omega) h3
       exact zN hm (by decide)
end
end L2
namespace DL
open PySem PySem.Spec L2
section
variable {X:Cx}{K:Frg}
theorem RI (_:X.K=K):MtR X "str.startswith" PM:=WP
theorem lL (_:X.K=K):OpR X (binaryOp .Mult) V9:=cX
def lM:List V->Hp->VK->Prop:=fun xs H Q=>∃i j,xs=[.int i,.int j]/\Q (.int (if j < i then j else i)) H
def fV:List V->Hp->VK->Prop:=fun xs H Q=>(∃i,xs=[.int i]/\Q (.int i) H)∨∃k,xs=[.bl k]/\Q (.int (if k then 1 else 0)) H
def VA:List V->Hp->VK->Prop:=fun xs H Q=>∃i j,xs=[.int i,.int j]/\kM i j/\∀p,H p=none->Q (.ref p) (upd H p (.tup [.int (i/j),.int (i % j)]))
theorem mI (_:X.K=K) (hc:X.calm=true):BO X (.builtin "min") lM:=W8 hc
theorem mJ (_:X.K=K):BO X (.type "int") fV:=W9
theorem cY (_:X.K=K):BO X (.builtin "divmod") VA:=QV
end
section
variable {K:Frg}{ρ:List (Option DS)}{M:Own}{Q:DS->Own->Prop}
theorem WQ {x y:Str}(q:Q (.d (.bool (Txt.startswith x y))) M):DM K PM (.d (.str x)) [.d (.str y)] M Q:=fun H v vs QQ oa s1 s2 k=>by
 obtain⟨u,r,rfl,h1,h2⟩:=s2
 cases h2
 rw[D8 s1,D8 h1]
 exact⟨x,y,rfl,rfl,k _ H _ M oa AM Step.refl q⟩
theorem Z3 {i j:Int}(c:IntMulOk i j) (q:Q (.d (.int (i*j))) M):D2 K V9 (.d (.int i)) (.d (.int j)) M Q:=fun H v u QQ oa s1 s2 k=>by
 rw[BA s1,BA s2]
 exact .inl ⟨i,j,rfl,rfl,c,k _ H _ M oa BS Step.refl q⟩
theorem jJ {z:Str}{n:Int}(h1:1<=n) (h2:n<=8) (h3:z.length<=1000) (q:Q (.d (.str (L6 z n))) M):D2 K V9 (.d (.str z)) (.d (.int n)) M Q:=fun H v u QQ oa s1 s2 k=>by
 rw[D8 s1,BA s2]
 exact .inr ⟨z,n,rfl,rfl,h1,h2,h3,k _ H _ M oa FA Step.refl q⟩
theorem jK {i j:Int}(q:Q (.d (.int (if j < i then j else i))) M):DR K lM [.d (.int i),.d (.int j)] M Q:=fun H vs QQ oa s k=>by
 obtain⟨v,r,rfl,h1,v2,r2,rfl,h2,h3⟩:=s
 cases h3
 rw[BA h1,BA h2]
 exact⟨i,j,rfl,k _ H _ M oa BS Step.refl q⟩
theorem cZ {b:Bool}(q:Q (.d (.int (if b then 1 else 0))) M):DR K fV [.d (.bool b)] M Q:=fun H vs QQ oa s k=>by
 obtain⟨v,r,rfl,h1,h2⟩:=s
 cases h2
 rw[fQ h1]
 exact .inr ⟨b,rfl,k _ H _ M oa BS Step.refl q⟩
theorem WR {i j:Int}(h0:0 < j) (hj:j < 1073741824) (q:Q (.d (.tuple [.int (i/j),.int (i % j)])) M):DR K VA [.d (.int i),.d (.int j)] M Q:=fun H vs QQ oa s k=>by
 obtain⟨v,r,rfl,h1,v2,r2,rfl,h2,h3⟩:=s
 cases h3
 rw[BA h1,BA h2]
 refine⟨i,j,rfl,⟨h0,hj⟩,fun p hp=>?_⟩
 have g:Grow K M.W M.W H (upd H p (.tup [.int (i/j),.int (i % j)])):=B0 _ hp
 refine k _ _ (.d (.tuple [.int (i/j),.int (i % j)])) M (oa.new hp) ?_ ⟨g⟩ q
 unfold SI DV
 exact⟨p,_,rfl,.inl ⟨fun w=>w (oa.none hp),.inl AH⟩,DVs.cons (by unfold DV;rfl) (DVs.cons (by unfold DV;rfl) DVs.nil)⟩
theorem Z4 {g:TGs}{to ti:TE}{d:PyData}{ds:List PyData}{P:List (Option DS)->Own->Prop}
   (h:DE K to ρ M fun o M1=>DE K ti ρ M1 fun i M2=>∃a xs k j,o = .loc a/\i = .d (.int k)/\M2 a=some (.l xs)/\ixN xs.length k=some j/\DGs K g ds ρ (M2.put a (.l (xs.set j d))) P) :
   DGs K (UN (kF to ti fF) g) (d::ds) ρ M P:=fun σ H vs QQ R hd kk=>by
 unfold DVs at hd
 obtain⟨v,r,rfl,h1,h2⟩:=hd
 refine⟨v,r,rfl,h σ H _ R fun w H2 y M2 o2 s2 t2 h3=>h3 σ H2 _ (R.step o2 t2) fun u H3 z M3 o3 s3 t3 h4=>?_⟩
 obtain⟨a,xs,k,j,rfl,rfl,m,hj,q⟩:=h4
 rw[BA s3]
 have e:=s2.step t3
 unfold SI at e
 subst e
 obtain⟨vs,h0,hd'⟩:=o3 a _ m
 have t23:=t2.trans t3
 obtain⟨p1,p2⟩:=K4 o3 m (hd'.set j (DV.grow t23.grow h1))
 have st:=t23.trans p2
 exact⟨a,vs,k,j,rfl,rfl,h0,by rw[hd'.length];exact hj,q σ _ r _ (R.step p1 st) (DVs.grow st.grow h2) fun ρ' M' σ' H' R' st' p=>kk ρ' M' σ' H' R' (st.trans st') p⟩
end
end DL
namespace L2
open PySem PySem.Spec PyProof.Rows PySem.W
theorem PN {ns:List Int}(h:WData.layableAll [WData.list (ns.map WData.int)]=true):∀i∈ns,xI i<=2 ^ 20:=by
 have h1:WData.weightAll (ns.map WData.int)<=2 ^ 20:=by
   have h0:WData.layable (WData.list (ns.map WData.int))=true:=by
     unfold WData.layableAll at h
     simpa using h
   unfold WData.layable at h0
   rw[a1Z] at h0
   exact of_decide_eq_true h0.2
 intro i hi
 refine zN ?_ h1
 clear h h1
 induction ns with
 | nil=>cases hi
 | cons n r ih=>
   rw[zI]
   show _<=WData.weight (.int n)+1+WData.weightAll (r.map WData.int)
   rcases yX.mp hi with rfl | hi
   · have:WData.weight (.int i)=xI i:=rfl
     omega
   · have:=ih hi
     omega
theorem Z5 {l:PySem.W.OpenLaw}{n k:Nat}{q:Program}{loose:List Str}{XP:(Str->Option Value)->Heap->Prop}{YP:World->Heap->Prop}{d:DefRec}{K:Params->Frg}{CX:World->CXT}{sp:World->Sp}{x:Str}
   (hn:l.most=some n) (hn2:n<=sizeLine) (hdf:d.params.defaults=[]) (hr:Room k callerA)
   (hY:∀(w:World) (h:Heap),YP w h->(K w.params).In h)
   (F:∀(w:World) (mg:Str->Option Value) (fa:Addr) (h:Heap),(K w.params).In h->h.Ns mainGlobals mg->mg d.name=some (.ref fa) ->
     ∃fd:FuncData,(∀(s:Shared) (u:Value),BindsTo s fd ⟨[u],[]⟩ [(x,u)]) /\
       ∀base:Heap,(K w.params).In base->base.Ns mainGlobals mg->FnOk l.prog w (K w.params) mg base (CX w) k fa fd [x] (sp w))
   (hsp:∀(w:World) (H:Hp) (a:Addr) (ns:List Int),ns.length<=n->(∀i∈ns,xI i<=2 ^ 20)->iG H->SqL (K w.params) H a (ns.map V.int)->sp w [.ref a] H (fun v _=>v = .bl true) fun _ _ _=>False)
   (hCX:∀(w:World) (H:Hp) (s:Shared) (e:Value) (s':Shared),CX w [] H s (fun _ _ _=>False) e s'->False) :
   PySem.W.WalkO q loose XP YP l.row.toRowW d [] (fun f vs=>PySem.call f vs):=by
 intro w s₀ s₁ mg mb G Y fa o pm cd doc dV kV ho hd hcd hD hmg hg args vals as hpre hlay hrd hwl hlo
 have e1:dV = .none:=Dflts.none hD hdf
 subst e1
 have e2:kV = .none:=Dflts.noKw hD
 subst e2
 obtain⟨a,vs,ns,rfl,rfl,hobj,hints,hlen⟩:=Att.script_of hn hpre hwl
 have hbits:=PN hlay
 refine enter_call (codeAny_mono (R:=fun r s'=>r = .ok (.ret (.bool true))/\OldK s₁.heap s'.heap/\s'.os=s₁.os/\AllBare s'.gens) ?_ fun r s' hq=>?_)
 · have KX:=hY w _ Y
   obtain⟨fd,hb,hF⟩:=F w mg fa _ KX G.T.g hmg
   exact Y4 KX G.T.g G.T.b G.T.builtins G.T.nolimit hg hobj hints (zN hlen hn2) hr hF hb (fun H hO hS=>hsp w H a ns hlen hbits hO hS) fun H e s'=>hCX w H s₁ e s'
 · have h1:=hq.1
   subst h1
   exact⟨.inl ⟨.bool true,.bool true,[],rfl,fun _=>rfl,.bool true,Att.post_true l _,fun _=>⟨List.Pairwise.nil,fun _ hm=>(nomatch hm)⟩⟩,hq.2.1,hq.2.2.1,hq.2.2.2⟩
end L2
namespace DL
open PySem PySem.Spec L2
theorem ML (i m:Nat) (a:Array Nat):((a1X m).map (i+·)).filterMap (fun j=>a[j]?)=(a.toList.drop i).take m:=by
 induction m with
 | zero=>simp
 | succ m ih=>
   rw[List.range_succ,xH,List.filterMap_append,ih,a7Z]
   have e:a[i+m]?=(a.toList.drop i)[m]?:=by rw[a8W];simp
   simp only[zI,a5X,a6X,List.filterMap_nil,e]
   cases (a.toList.drop i)[m]? <;> simp
theorem TH (n len:Nat):max 0 (min (n:Int) (len:Int))=((min n len:Nat):Int):=by
 rcases Nat.le_total n len with h | h
 · rw[a9J h,Int.min_eq_left (Int.ofNat_le.mpr h),Int.max_eq_right (b1J _)]
 · rw[b3Q h,Int.min_eq_right (Int.ofNat_le.mpr h),Int.max_eq_right (b1J _)]
theorem Z6 (a b:Nat):(if (a:Int) < (b:Int) then ((b:Int) - (a:Int)+1 - 1)/1 else 0).toNat=b - a:=by
 split
 · rw[Int.ediv_one];omega
 · omega
theorem Z7 (n len:Nat):a4Q (some (n:Int)) none 1 len=(a1X (len - min n len)).map (min n len+·):=by
 unfold a4Q sliceRange
 have h1:¬((n:Int) < 0):=Int.not_lt.mpr (b1J n)
 have h2:=TH n len
 simp only[show(1:Int) > 0 by decide,if_true,h1,if_false,h2]
 have h3:(if ((min n len:Nat):Int) < (len:Int) then ((len:Int) - ((min n len:Nat):Int)+1 - 1)/1 else 0).toNat=len - min n len:=Z6 _ _
 rw[h3]
 apply yM
 intro i hi
 omega
theorem dA (n k len:Nat):a4Q (some (n:Int)) (some (k:Int)) 1 len=(a1X (min k len - min n len)).map (min n len+·):=by
 unfold a4Q sliceRange
 have h1:¬((n:Int) < 0):=Int.not_lt.mpr (b1J n)
 have h1':¬((k:Int) < 0):=Int.not_lt.mpr (b1J k)
 have h2:=TH n len
 have h2':=TH k len
 simp only[show(1:Int) > 0 by decide,if_true,h1,h1',if_false,h2,h2']
 have h3:(if ((min n len:Nat):Int) < ((min k len:Nat):Int) then (((min k len:Nat):Int) - ((min n len:Nat):Int)+1 - 1)/1 else 0).toNat=min k len - min n len:=Z6 _ _
 rw[h3]
 apply yM
 intro i hi
 omega
theorem FT (z:Str) (n:Nat):(a0V z (some (n:Int)) none).cps.toList=z.cps.toList.drop n:=by
 unfold a0V
 rw[Z7]
 have hl:z.length=z.cps.toList.length:=by simp[Str.length]
 split
 · rename_i h
   rw[a1Z] at h
   have h:=eq_of_beq h.2
   rw[zX,xY] at h
   have h0:n=0∨z.cps.toList.length=0:=by rw[hl] at h;omega
   rcases h0 with rfl | h0
   · simp
   · rw[List.length_eq_zero_iff.mp h0];simp
 · show(List.filterMap _ _).toArray.toList=_
   rw[ML,List.toList_toArray,hl]
   by_cases h:n<=z.cps.toList.length
   · rw[a9J h,a3J (by rw[a0K];exact zR _)]
   · rw[b3Q (by omega),a2J (zR _),a2J (by omega)];simp
theorem WS (z:Str) (n k:Nat):(a0V z (some (n:Int)) (some (k:Int))).cps.toList=(z.cps.toList.take k).drop n:=by
 unfold a0V
 rw[dA]
 have hl:z.length=z.cps.toList.length:=by simp[Str.length]
 have key:(z.cps.toList.drop (min n z.length)).take (min k z.length - min n z.length)=(z.cps.toList.take k).drop n:=by
   rw[hl,List.drop_take]
   by_cases h:n<=z.cps.toList.length
   · rw[a9J h,b2K,a0K]
     rcases Nat.le_total k z.cps.toList.length with h' | h'
     · rw[a9J h']
     · rw[b3Q h',Nat.min_self,b3Q (Nat.sub_le_sub_right h' n)]
   · rw[a2J (show z.cps.toList.length<=min n z.cps.toList.length by omega),a2J (show z.cps.toList.length<=n by omega)];simp
 split
 · rename_i h
   rw[a1Z] at h
   have h:=eq_of_beq h.2
   rw[zX,xY] at h
   rw[← key]
   have h5:=Nat.min_le_right k z.length
   have h0:min n z.length=0∨z.cps.toList.length=0:=by
     rw[← hl]
     revert h h5
     generalize min k z.length=a
     generalize min n z.length=b
     omega
   rcases h0 with h0 | h0
   · have h6:z.cps.toList.length<=min k z.length - 0:=by rw[← hl];rw[h0] at h;exact Nat.le_of_eq h.symm
     rw[h0,List.drop_zero,a3J h6]
   · rw[List.length_eq_zero_iff.mp h0];simp
 · show(List.filterMap _ _).toArray.toList=_
   rw[ML,List.toList_toArray,key]
theorem TJ {i N:Nat}(h:i < N) (hN:N<=26):i/8 < 26:=zQ (Nat.div_le_self i 8) (zP h hN)
theorem IN (k:Nat):(1:Int)<=1+(k:Int) % 8/\1+(k:Int) % 8<=8/\1<=(1+(k:Int) % 8).toNat/\(1+(k:Int) % 8).toNat<=8:=by
 have e:(k:Int) % 8=((k % 8:Nat):Int):=rfl
 rw[e]
 have:=Nat.mod_lt k (show 8 > 0 by decide)
 clear e
 generalize k % 8=r at *
 omega
theorem lN {i j:Nat}(h1:(1:Int)+(i:Int) % 8=1+(j:Int) % 8) (h2:i/8=j/8):i=j:=by
 have a:=Nat.div_add_mod i 8
 have b:=Nat.div_add_mod j 8
 have c:i % 8=j % 8:=by
   have:=Int.add_left_cancel h1
   exact Int.ofNat.inj this
 rw[← a,← b,h2,c]
theorem jL {t:Nat}(h:t<=26):26 - t+min t 26=26:=by rw[a9J h,Nat.sub_add_cancel h]
theorem jM {s L:Nat}(h:s<=7):min (3+s) L - 3<=7:=zN (Nat.sub_le_sub_right (Nat.min_le_left _ _) 3) (by rw[Nat.add_sub_cancel_left];exact h)
def TK (z:Str):Prop:=∀c∈z.cps.toList,J8 c=true
theorem MM {z:Str}(h:TK z) (h1:1<=z.cps.toList.length) (h2:z.cps.toList.length<=8):AJ z:=⟨by rw[K6];exact h1,by rw[K6];exact h2,h⟩
theorem MN {a b:Str}(h1:TK a) (h2:TK b):TK (a++b):=fun c hc=>by
 rw[AQ] at hc
 exact(yW.mp hc).elim (h1 c) (h2 c)
theorem RJ {c:Nat}(h:J8 c=true):TK ⟨#[c]⟩:=fun d hd=>by
 have:d=c:=by simpa using hd
 subst this;exact h
theorem PP {c:Nat}{n:Int}(h1:1<=n):(L6 ⟨#[c]⟩ n).cps.toList=a4V n.toNat c:=by
 unfold L6
 split
 · rename_i h
   have:n=1:=by
     rw[Bool.or_eq_true,beq_iff_eq,beq_iff_eq] at h
     rcases h with h | h
     · exact h
     · exact absurd h (show ¬(1=0) by decide)
   subst this;rfl
 · show(List.foldl _ _ _:Array Nat).toList=_
   rw[MK]
   show []++(a4V n.toNat [c]).flatten=_
   rw[List.nil_append]
   induction n.toNat with
   | zero=>rfl
   | succ m ih=>rw[b0J,List.flatten_cons,ih,b0J];rfl
end DL
namespace L2
open PySem PySem.Spec PyProof.Rows
abbrev EH (F:List Addr) (S:Heap->Prop):Prop:=∀h h':Heap,S h->(∀c∈F,∀o,h.get? c=some o->h'.get? c=some o)->S h'
abbrev NxI (P:Program) (w:World) (A:Around) (i:Addr) (S S':Heap->Prop) (R:Value->Prop):Prop:=
 ∀(s:Shared) (Q:Value->Shared->Prop) (E:Value->Shared->Prop),S s.heap->(∀h' tk x,R x->S' h'->Heap.SameBut i s.heap h'->Q x { s with heap:=h',toks:=tk })->wpAny (model P w) A (a1W (.ref i)) Q E s
abbrev NxE (P:Program) (w:World) (A:Around) (i:Addr) (S:Heap->Prop):Prop:=
 ∀(s:Shared) (Q:Value->Shared->Prop) (E:Value->Shared->Prop),S s.heap->(∀h' e,Heap.ExtBut i s.heap h'->(∃o,h'.get? e=some o/\o.cls = .type "StopIteration")->E (.ref e) { s with heap:=h' })->wpAny (model P w) A (a1W (.ref i)) Q E s
structure ZAp (z TI TO i1 i2:Addr) (F1 F2:List Addr):Prop where
 tz:TO≠z
 az:i1≠z
 bz:i2≠z
 ta:TO≠i1
 tb:TO≠i2
 ab:i1≠i2
 f1:∀c∈F1,c≠z/\c≠TO/\c≠i2
 f2:∀c∈F2,c≠z/\c≠TO/\c≠i1
section
variable {prog:Program}{w:World}{A:Around}{E:Value->Shared->Prop}{s:Shared}{z TI TO i1 i2:Addr}{F1 F2:List Addr}{S1 S1' S2 S2':Heap->Prop}{R1 R2:Value->Prop}{a b:Value}
theorem WT {Q:Value->Shared->Prop}(D:ZAp z TI TO i1 i2 F1 F2) (t1:EH F1 S1) (t1':EH F1 S1') (t2:EH F2 S2) (t2':EH F2 S2') (n1:NxI prog w A i1 S1 S1' R1) (n2:NxI prog w A i2 S2 S2' R2)
   (hz:IsZip s.heap z TI TO .none) (hTI:IsPair s.heap TI (.ref i1) (.ref i2)) (hTO:IsPair s.heap TO a b) (h1:S1 s.heap) (h2:S2 s.heap)
   (l1:∀h,S1' h->i1 < h.objs.size) (l2:∀h,S2' h->i2 < h.objs.size)
   (hQ:∀h' tk x y,R1 x->R2 y->IsZip h' z TI TO (rawInt s.heap.objs.size)->IsPair h' TO x y->S1' h'->S2' h'->IsPair h' s.heap.objs.size x y->h'.objs.size=s.heap.objs.size+1 ->
     (∀c o,c≠z->c≠TO->c≠i1->c≠i2->s.heap.get? c=some o->h'.get? c=some o)->Q (.ref s.heap.objs.size) { s with heap:=h',toks:=tk }) :
   wpAny (model prog w) A (Builtin.«zip.__next__» ⟨[.ref z],[]⟩) (fun fin s'=>∃v,fin = .done (.ret v)/\Q v s') E s:=by
 show wpAny _ _ (field (.ref z) 2 >>= _) _ _ _
 refine zZ (wpAny_field hz rfl (x:=.bool false) rfl ?_);show wpAny _ _ (field (.ref z) 3 >>= _) _ _ _
 refine zZ (wpAny_field hz rfl (x:=.ref TI) rfl ?_);refine zZ (wpAny_seqItems hTI rfl ?_)
 show wpAny _ _ (a1V (.ref z) >>= _) _ _ _;refine zZ ?_;unfold a1V
 refine zZ (wpAny_field hz rfl (x:=.none) rfl (zY ?_));simp only[if_true];refine zZ (wpAny_rule ?_)
 refine zZ (wpAny_field hz rfl (x:=.ref TO) rfl ?_);refine zZ (wpAny_setField_rec hz (by simp) fun g1 y1 q1=>?_)
 replace y1:IsZip g1 z TI TO .ellipsis:=y1
 refine zZ ?_;simp only[b4Z,List.forIn_nil,List.zipIdx_cons,List.zipIdx_nil]
 refine zZ (zZ (wpAny_onRaise ?_));show wpAny _ _ (a1W (.ref i1) >>= _) _ _ _
 refine zZ (n1 _ _ _ (t1 _ _ h1 fun c hc o e=>q1.extBut _ _ (D.f1 c hc).1 e) fun g2 k2 x rx x2 q2=>zY ?_)
 have p2:IsPair g2 TO a b:=q2.extBut _ _ D.ta (q1.extBut _ _ D.tz hTO)
 refine zZ (wpAny_seqItems p2 rfl ?_);refine zZ (wpAny_updateSeq_pair p2 fun g3 p3 q3=>?_)
 replace p3:IsPair g3 TO x b:=p3
 refine zZ (wpAny_letGo (zY ?_));refine zZ (zZ (wpAny_onRaise ?_));show wpAny _ _ (a1W (.ref i2) >>= _) _ _ _
 refine zZ (n2 _ _ _ (t2 _ _ h2 fun c hc o e=>q3.extBut _ _ (D.f2 c hc).2.1 (q2.extBut _ _ (D.f2 c hc).2.2 (q1.extBut _ _ (D.f2 c hc).1 e))) fun g4 k4 y ry x4 q4=>zY ?_)
 have p4:IsPair g4 TO x b:=q4.extBut _ _ D.tb p3
 refine zZ (wpAny_seqItems p4 rfl ?_);refine zZ (wpAny_updateSeq_pair p4 fun g5 p5 q5=>?_)
 replace p5:IsPair g5 TO x y:=p5
 refine zZ (wpAny_letGo (zY (zY ?_)));refine zZ (wpAny_seqItems p5 rfl ?_);refine zZ (wpAny_newTuple ?_)
 have hsz:g5.objs.size=s.heap.objs.size:=by rw[q5.1,q4.1,q3.1,q2.1,q1.1]
 have y5:IsZip g5 z TI TO .ellipsis:=q5.extBut _ _ D.tz.symm (q4.extBut _ _ D.bz.symm (q3.extBut _ _ D.tz.symm (q2.extBut _ _ D.az.symm y1)))
 have k5:∀c o,c≠z->c≠TO->c≠i1->c≠i2->s.heap.get? c=some o->g5.get? c=some o:=fun c o c1 c2 c3 c4 e=>q5.extBut _ _ c2 (q4.extBut _ _ c4 (q3.extBut _ _ c2 (q2.extBut _ _ c3 (q1.extBut _ _ c1 e))))
 have x25:S1' g5:=t1' _ _ x2 fun c hc o e=>q5.extBut _ _ (D.f1 c hc).2.1 (q4.extBut _ _ (D.f1 c hc).2.2 (q3.extBut _ _ (D.f1 c hc).2.1 e))
 have x45:S2' g5:=t2' _ _ x4 fun c hc o e=>q5.extBut _ _ (D.f2 c hc).2.1 e
 have ltz:z < g5.objs.size:=zM y5
 show wpAny _ _ (b5X (.ref z) (.ref g5.objs.size) >>= _) _ _ _;refine zZ ?_;unfold b5X
 have y6:IsZip (g5.push { cls:=.type "tuple", data:=.seq #[x,y] }) z TI TO .ellipsis:=zW _ y5
 refine zZ (wpAny_setField_rec y6 (by simp) fun g7 y7 q7=>?_)
 replace y7:IsZip g7 z TI TO (rawInt g5.objs.size):=y7
 refine wpAny_setField_rec y7 (by simp) fun g8 y8 q8=>?_
 replace y8:IsZip g8 z TI TO (rawInt g5.objs.size):=y8
 have up:∀c o,c≠z->g5.get? c=some o->g8.get? c=some o:=fun c o c1 e=>q8.extBut _ _ c1 (q7.extBut _ _ c1 (zW _ e))
 have p8:IsPair g8 g5.objs.size x y:=q8.extBut _ _ (b0V ltz) (q7.extBut _ _ (b0V ltz) (yZ _ rfl))
 have s8:g8.objs.size=g5.objs.size+1:=by rw[q8.1,q7.1,b0Q]
 rw[hsz] at y8 p8 s8
 refine zY ⟨_,rfl,?_⟩;show Q (.ref g5.objs.size) _;rw[hsz]
 exact hQ g8 _ x y rx ry y8 (up _ _ D.tz p5) (t1' _ _ x25 fun c hc o e=>up c o (D.f1 c hc).1 e) (t2' _ _ x45 fun c hc o e=>up c o (D.f2 c hc).1 e) p8 s8 fun c o c1 c2 c3 c4 e=>up c o c1 (k5 c o c1 c2 c3 c4 e)
theorem WU {Q:Fin->Shared->Prop}(D:ZAp z TI TO i1 i2 F1 F2) (t1:EH F1 S1) (n1:NxE prog w A i1 S1)
   (hz:IsZip s.heap z TI TO .none) (hTI:IsPair s.heap TI (.ref i1) (.ref i2)) (hTO:IsPair s.heap TO a b) (h1:S1 s.heap)
   (hE:∀h' e tk,(∀c o,c≠z->c≠TO->c≠i1->c≠i2->s.heap.get? c=some o->h'.get? c=some o)->(∃o,h'.get? e=some o/\o.cls = .type "StopIteration")->E (.ref e) { s with heap:=h',toks:=tk }) :
   wpAny (model prog w) A (Builtin.«zip.__next__» ⟨[.ref z],[]⟩) Q E s:=by
 show wpAny _ _ (field (.ref z) 2 >>= _) _ _ _
 refine zZ (wpAny_field hz rfl (x:=.bool false) rfl ?_);show wpAny _ _ (field (.ref z) 3 >>= _) _ _ _
 refine zZ (wpAny_field hz rfl (x:=.ref TI) rfl ?_);refine zZ (wpAny_seqItems hTI rfl ?_)
 show wpAny _ _ (a1V (.ref z) >>= _) _ _ _;refine zZ ?_;unfold a1V
 refine zZ (wpAny_field hz rfl (x:=.none) rfl (zY ?_));simp only[if_true];refine zZ (wpAny_rule ?_)
 refine zZ (wpAny_field hz rfl (x:=.ref TO) rfl ?_);refine zZ (wpAny_setField_rec hz (by simp) fun g1 y1 q1=>?_)
 replace y1:IsZip g1 z TI TO .ellipsis:=y1
 refine zZ ?_;simp only[b4Z,List.forIn_nil,List.zipIdx_cons,List.zipIdx_nil]
 refine zZ (zZ (wpAny_onRaise ?_));show wpAny _ _ (a1W (.ref i1) >>= _) _ _ _
 refine zZ (n1 _ _ _ (t1 _ _ h1 fun c hc o e=>q1.extBut _ _ (D.f1 c hc).1 e) fun g2 e q2 he=>?_)
 obtain⟨oe,hoe,hce⟩:=he
 have y2:IsZip g2 z TI TO .ellipsis:=q2 _ _ D.az.symm y1
 have ez:e≠z:=fun x=>by subst x;rw[y2] at hoe;cases hoe;simp at hce
 exact wpAny_setField_rec y2 (by simp) fun g3 _ q3=>hE g3 e _ (fun c o c1 _ c3 _ x=>q3.extBut _ _ c1 (q2 _ _ c3 (q1.extBut _ _ c1 x))) ⟨oe,q3.extBut _ _ ez hoe,hce⟩
theorem WV {Q:Fin->Shared->Prop}(D:ZAp z TI TO i1 i2 F1 F2) (t1:EH F1 S1) (t2:EH F2 S2) (n1:NxI prog w A i1 S1 S1' R1) (n2:NxE prog w A i2 S2)
   (hz:IsZip s.heap z TI TO .none) (hTI:IsPair s.heap TI (.ref i1) (.ref i2)) (hTO:IsPair s.heap TO a b) (h1:S1 s.heap) (h2:S2 s.heap)
   (hE:∀h' e tk,(∀c o,c≠z->c≠TO->c≠i1->c≠i2->s.heap.get? c=some o->h'.get? c=some o)->(∃o,h'.get? e=some o/\o.cls = .type "StopIteration")->E (.ref e) { s with heap:=h',toks:=tk }) :
   wpAny (model prog w) A (Builtin.«zip.__next__» ⟨[.ref z],[]⟩) Q E s:=by
 show wpAny _ _ (field (.ref z) 2 >>= _) _ _ _
 refine zZ (wpAny_field hz rfl (x:=.bool false) rfl ?_);show wpAny _ _ (field (.ref z) 3 >>= _) _ _ _
 refine zZ (wpAny_field hz rfl (x:=.ref TI) rfl ?_);refine zZ (wpAny_seqItems hTI rfl ?_)
 show wpAny _ _ (a1V (.ref z) >>= _) _ _ _;refine zZ ?_;unfold a1V
 refine zZ (wpAny_field hz rfl (x:=.none) rfl (zY ?_));simp only[if_true];refine zZ (wpAny_rule ?_)
 refine zZ (wpAny_field hz rfl (x:=.ref TO) rfl ?_);refine zZ (wpAny_setField_rec hz (by simp) fun g1 y1 q1=>?_)
 replace y1:IsZip g1 z TI TO .ellipsis:=y1
 refine zZ ?_;simp only[b4Z,List.forIn_nil,List.zipIdx_cons,List.zipIdx_nil]
 refine zZ (zZ (wpAny_onRaise ?_));show wpAny _ _ (a1W (.ref i1) >>= _) _ _ _
 refine zZ (n1 _ _ _ (t1 _ _ h1 fun c hc o e=>q1.extBut _ _ (D.f1 c hc).1 e) fun g2 k2 x rx x2 q2=>zY ?_)
 have p2:IsPair g2 TO a b:=q2.extBut _ _ D.ta (q1.extBut _ _ D.tz hTO)
 refine zZ (wpAny_seqItems p2 rfl ?_);refine zZ (wpAny_updateSeq_pair p2 fun g3 p3 q3=>?_)
 refine zZ (wpAny_letGo (zY ?_));refine zZ (zZ (wpAny_onRaise ?_));show wpAny _ _ (a1W (.ref i2) >>= _) _ _ _
 refine zZ (n2 _ _ _ (t2 _ _ h2 fun c hc o e=>q3.extBut _ _ (D.f2 c hc).2.1 (q2.extBut _ _ (D.f2 c hc).2.2 (q1.extBut _ _ (D.f2 c hc).1 e))) fun g4 e q4 he=>?_)
 obtain⟨oe,hoe,hce⟩:=he
 have y4:IsZip g4 z TI TO .ellipsis:=q4 _ _ D.bz.symm (q3.extBut _ _ D.tz.symm (q2.extBut _ _ D.az.symm y1))
 have ez:e≠z:=fun x=>by subst x;rw[y4] at hoe;cases hoe;simp at hce
 exact wpAny_setField_rec y4 (by simp) fun g5 _ q5=>hE g5 e _ (fun c o c1 c2 c3 c4 x=>q5.extBut _ _ c1 (q4 _ _ c4 (q3.extBut _ _ c2 (q2.extBut _ _ c3 (q1.extBut _ _ c1 x))))) ⟨oe,q5.extBut _ _ ez hoe,hce⟩
theorem WW {Q:Option Value->Shared->Prop}(D:ZAp z TI TO i1 i2 F1 F2) (t1:EH F1 S1) (t1':EH F1 S1') (t2:EH F2 S2) (t2':EH F2 S2') (n1:∀A:Around,NxI prog w A i1 S1 S1' R1) (n2:∀A:Around,NxI prog w A i2 S2 S2' R2)
   (hz:IsZip s.heap z TI TO .none) (hTI:IsPair s.heap TI (.ref i1) (.ref i2)) (hTO:IsPair s.heap TO a b) (h1:S1 s.heap) (h2:S2 s.heap)
   (l1:∀h,S1' h->i1 < h.objs.size) (l2:∀h,S2' h->i2 < h.objs.size)
   (hQ:∀h' tk x y,R1 x->R2 y->IsZip h' z TI TO (rawInt s.heap.objs.size)->IsPair h' TO x y->S1' h'->S2' h'->IsPair h' s.heap.objs.size x y->h'.objs.size=s.heap.objs.size+1 ->
     (∀c o,c≠z->c≠TO->c≠i1->c≠i2->s.heap.get? c=some o->h'.get? c=some o)->Q (some (.ref s.heap.objs.size)) { s with heap:=h',toks:=tk }) :
   wpAny (model prog w) A (pyNext (.ref z)) Q E s:=by
 have hT:s.TypeIs (.ref z) "zip" := ⟨_,hz,rfl⟩
 unfold pyNext
 exact zZ (wpAny_attempt (wpAny_callSpecial?_slot (name:=a0Q "__next__") hT F.slot_zip_next (wpAny_call_entry F.slot_zip_next hT F.entry_zip_next
   (WT D t1 t1' t2 t2' (n1 _) (n2 _) hz hTI hTO h1 h2 l1 l2 fun h' tk x y b1 b2 b3 b4 b5 b6 b7 b8 b9=>zY (hQ h' tk x y b1 b2 b3 b4 b5 b6 b7 b8 b9)) (F.args_zip_next_1 _))))
theorem WX {Q:Option Value->Shared->Prop}(hh:A.handled=none) (hz:IsZip s.heap z TI TO .none)
   (h:∀(Q':Fin->Shared->Prop) (E':Value->Shared->Prop),(∀h' e tk,(∀c o,c≠z->c≠TO->c≠i1->c≠i2->s.heap.get? c=some o->h'.get? c=some o)->(∃o,h'.get? e=some o/\o.cls = .type "StopIteration")->E' (.ref e) { s with heap:=h',toks:=tk }) ->
     ∀A':Around,A'.handled=none->wpAny (model prog w) A' (Builtin.«zip.__next__» ⟨[.ref z],[]⟩) Q' E' s)
   (hQ:∀h' tk,(∀c o,c≠z->c≠TO->c≠i1->c≠i2->s.heap.get? c=some o->h'.get? c=some o)->Q none { s with heap:=h',toks:=tk }):wpAny (model prog w) A (pyNext (.ref z)) Q E s:=by
 have hT:s.TypeIs (.ref z) "zip" := ⟨_,hz,rfl⟩
 unfold pyNext
 refine zZ (wpAny_attempt (wpAny_callSpecial?_slot (name:=a0Q "__next__") hT F.slot_zip_next (wpAny_call_entry F.slot_zip_next hT F.entry_zip_next (h _ _ (fun h' e tk hk he=>?_) _ ?_) (F.args_zip_next_1 _))))
 · obtain⟨o,ho,hc⟩:=he
   refine zZ (wpAny_isInstance (T:= "StopIteration") (b:=true) ⟨o,ho,hc⟩ isSubtype_stop ?_)
   exact zY (hQ _ _ hk)
 · exact hh
end
end L2
namespace L2
open PySem PySem.Spec PyProof.Rows
section
variable {prog:Program}{w:World}{A:Around}{E:Value->Shared->Prop}{s:Shared}
theorem TL {i t:Addr}{k:Nat}{items:Array Value}{y:Value}(hne:t≠i) (hx:items[k]?=some y):NxI prog w A i (fun h=>h.IsTupleIter i t k/\h.IsTuple t items) (fun h=>h.IsTupleIter i t (k+1)/\h.IsTuple t items) (fun v=>v=y):=fun s Q E hS hQ=>by
 obtain⟨hit,ht⟩:=hS
 obtain⟨o,ho,hc,hd⟩:=id hit
 obtain⟨ol,hol,hcl,nl,hdl⟩:=id ht
 unfold a1W;refine zZ (wpAny_callSpecial?_slot (name:=a0Q "__next__") hit.typeIs b0X (wpAny_call_entry b0X hit.typeIs F.entry_tuple_iterator_next ?_ (F.args_tuple_iterator_next_1 _)))
 show wpAny _ _ (field (.ref i) 0 >>= _) _ _ s
 refine zZ (wpAny_field ho hd (x:=.ref t) rfl ?_);show wpAny _ _ (if (a0Z t==a3Q)=true then _ else _) _ _ s
 rw[if_neg (show ¬((a0Z t==a3Q)=true) from nft)];show wpAny _ _ (field (.ref i) 1 >>= _) _ _ s
 refine zZ (wpAny_field ho hd (x:=.int k 0) rfl ?_);show wpAny _ _ (seqItems? (.ref t) >>= _) _ _ s
 refine zZ (wpAny_seqItems hol hdl ?_);simp only[a4W,hx]
 refine zZ (wpAny_setField ho hd (by simp) (zY ⟨y,rfl,zY (hQ _ s.toks y rfl ⟨?_,ht.extBut (a9Q ..).extBut hne⟩ (a9Q ..))⟩))
 exact⟨_,Heap.get?_update_self _ ho (Obj.isFreed_of_fields (b6X hd _)),(Obj.cls_mapFields ..).trans hc,by rw[b6X hd];simp[rawInt]⟩
abbrev RK (v:Value) (o:Obj) (Pre:Heap->Prop):Prop:=∀(prog:Program) (w:World) (A:Around) (E:Value->Shared->Prop) (s:Shared) (Q:Value->Shared->Prop),Pre s.heap->Q (.ref s.heap.objs.size) { s with heap:=s.heap.push o }->wpAny (model prog w) A (pyIter v) Q E s
theorem VB {t:Addr}{items:Array Value}:RK (.ref t) { cls:=.type "tuple_iterator", data:=.fields #[.ref t,.int 0 0] } (fun h=>h.IsTuple t items):=fun prog w A E s Q ht hQ=>wpAny_pyIter_tuple ht hQ
abbrev zH1 (h:Heap) (o1:Obj):Heap:=h.push o1
abbrev zH2 (h:Heap) (o1 o2:Obj):Heap:=(zH1 h o1).push o2
abbrev zH3 (h:Heap) (o1 o2:Obj):Heap:=(zH2 h o1 o2).push { cls:=.type "tuple", data:=.seq #[.ref h.objs.size,.ref (zH1 h o1).objs.size] }
abbrev zH4 (h:Heap) (o1 o2:Obj):Heap:=(zH3 h o1 o2).push { cls:=.type "tuple", data:=.seq #[.none,.none] }
abbrev zH5 (h:Heap) (o1 o2:Obj):Heap:=(zH4 h o1 o2).push { cls:=.type "zip", data:=.fields #[.none,.bool false,.bool false,.ref (zH2 h o1 o2).objs.size,.ref (zH3 h o1 o2).objs.size] }
theorem TM {v1 v2:Value}{o1 o2:Obj}{Pre1 Pre2:Heap->Prop}(n1:RK v1 o1 Pre1) (n2:RK v2 o2 Pre2) (st2:∀h o,Pre2 h->Pre2 (h.push o)) :
   Meets (Builtin.«zip.__new__» ⟨[.type "zip", v1,v2],[]⟩) (fun _ R s=>Pre1 s.heap/\Pre2 s.heap/\R (.ok (.ret (.ref (zH4 s.heap o1 o2).objs.size))) { s with heap:=zH5 s.heap o1 o2 }):=
 .of_wp fun prog w A R s h=>by
   obtain⟨hp,g,d,tk,os⟩:=s
   obtain⟨p1,p2,h⟩:=h
   have hsub:=sub_zip
   have p2':Pre2 (hp.push o1):=st2 _ _ p2
   wp_walk using n1 _ _ _ _ _ _ p1,n2 _ _ _ _ _ _ p2'
   exact⟨_,rfl,h⟩
theorem WY {v1 v2:Value}{o1 o2:Obj}{Pre1 Pre2:Heap->Prop}{Q:Value->Shared->Prop}(n1:RK v1 o1 Pre1) (n2:RK v2 o2 Pre2) (st2:∀h o,Pre2 h->Pre2 (h.push o)) (f1:o1.isFreed=false) (f2:o2.isFreed=false) (h1:Pre1 s.heap) (h2:Pre2 s.heap)
   (h:∀h',IsZip h' (s.heap.objs.size+4) (s.heap.objs.size+2) (s.heap.objs.size+3) .none->IsPair h' (s.heap.objs.size+2) (.ref s.heap.objs.size) (.ref (s.heap.objs.size+1)) ->
     IsPair h' (s.heap.objs.size+3) .none .none->h'.get? s.heap.objs.size=some o1->h'.get? (s.heap.objs.size+1)=some o2->(∀c o,s.heap.get? c=some o->h'.get? c=some o)->Q (.ref (s.heap.objs.size+4)) { s with heap:=h' }) :
   wpAny (model prog w) A (call (.type "zip") [v1,v2]) Q E s:=by
 refine callType_new F.called_zip (by decide) (F.typeCall_zip_2 _ _) (F.newCall_zip_2 _ _) (fun obj=>F.args_object_init_3 obj _ _) F.entry_zip_new (TM n1 n2 st2) ⟨h1,h2,?_⟩
 have z1:(zH1 s.heap o1).objs.size=s.heap.objs.size+1:=b0Q ..
 have z2:(zH2 s.heap o1 o2).objs.size=s.heap.objs.size+2:=by rw[b0Q,z1]
 have z3:(zH3 s.heap o1 o2).objs.size=s.heap.objs.size+3:=by rw[b0Q,z2]
 have z4:(zH4 s.heap o1 o2).objs.size=s.heap.objs.size+4:=by rw[b0Q,z3]
 have e5:(zH5 s.heap o1 o2).get? (zH4 s.heap o1 o2).objs.size=some _:=yZ _ rfl
 have e4:(zH5 s.heap o1 o2).get? (zH3 s.heap o1 o2).objs.size=some _:=zW _ (yZ _ rfl)
 have e3:(zH5 s.heap o1 o2).get? (zH2 s.heap o1 o2).objs.size=some _:=zW _ (zW _ (yZ _ rfl))
 have e2:(zH5 s.heap o1 o2).get? (zH1 s.heap o1).objs.size=some o2:=zW _ (zW _ (zW _ (yZ _ f2)))
 have e1:(zH5 s.heap o1 o2).get? s.heap.objs.size=some o1:=zW _ (zW _ (zW _ (zW _ (yZ _ f1))))
 show _/\_
 rw[z2,z3,z4] at e5
 rw[z1,z2] at e3
 rw[z3] at e4
 rw[z1] at e2
 rw[z4]
 exact⟨⟨_,e5,rfl⟩,h _ e5 e3 e4 e1 e2 fun c o x=>zW _ (zW _ (zW _ (zW _ (zW _ x))))⟩
end
section
variable {X:Cx}{pins:List (Addr×Obj)}{σ:St}{H:Hp}{s:Shared}
theorem PQ {a z:Addr}{xs:List V}(I:Inv X pins σ H s) (hf:L1 X pins H z) (h:SqT X.K H a xs):a≠z:=by
 rintro rfl
 rcases h with h | ⟨o,its,n,hk,_⟩
 · rcases h with h | ⟨o',h⟩ <;> rw[hf.1] at h <;> cases h
 · have e:=I.ok.mod.kin a o hk
   rcases hf.2.2.2.1 with z | z
   · exact I.ok.noex a o e z
   · exact absurd (zP (zM e) (zN I.ok.bsz z)) (yF _)
end
end L2
namespace L2
open PySem PySem.Spec PyProof.Rows
section
variable {X:Cx}
def lO:R2:=fun x y H Q=>(y = .non/\Q (.bl (decide (x = .non))) H)∨∃a b:Bool,x = .bl a/\y = .bl b/\Q (.bl (a==b)) H
theorem Z8:OpR X (compareOp .Is) lO:=by
 intro pins s σ H x y v u Q I rx ry h
 rcases h with h | ⟨a,b,rfl,rfl,q⟩
 · exact h8 pins s σ H x y v u Q I rx ry h
 · cases rx;cases ry
   refine wpAny_is_plain rfl ⟨.bl (a==b),H,I,?_,q⟩
   cases a <;> cases b <;> rfl
def fW:R2:=fun x y H Q=>(y = .non/\Q (.bl (!decide (x = .non))) H)∨∃a b:Bool,x = .bl a/\y = .bl b/\Q (.bl (!(a==b))) H
theorem VC:OpR X (compareOp .IsNot) fW:=by
 intro pins s σ H x y v u Q I rx ry h
 rcases h with h | ⟨a,b,rfl,rfl,q⟩
 · exact bH pins s σ H x y v u Q I rx ry h
 · cases rx;cases ry
   refine wpAny_isNot_plain rfl ⟨.bl (!(a==b)),H,I,?_,q⟩
   cases a <;> cases b <;> rfl
end
end L2
namespace DL
open PySem PySem.Spec L2
section
variable {K:Frg}{ρ:List (Option DS)}{M:Own}{Q:DS->Own->Prop}{QI:List PyData->Own->Prop}
theorem VD {d:PyData}(q:Q (.d (.bool (BI d))) M):D2 K lO (.d d) (.d .none) M Q:=EG (jC q)
theorem MP {d:PyData}(q:Q (.d (.bool (!BI d))) M):D2 K fW (.d d) (.d .none) M Q:=EG (cQ q)
def DPs (K:Frg) (trs:List (TE×TE)) (ρ:List (Option DS)) (M:Own) (Q:List (Str×PyData)->Own->Prop):Prop:=
 ∀(σ:St) (H:Hp) (QQ:List (V×V)->Hp->Prop),Rel K M ρ σ H->(∀ps H' kds M',OA K H' M'->(∃vs,DVs K H' M'.W (kds.map (·.2)) vs/\ps=(kds.map fun k=>V.str k.1).zip vs)->Step K M M' H H'->Q kds M'->QQ ps H')->PB trs σ H QQ
theorem FU {Q:List (Str×PyData)->Own->Prop}(h:Q [] M):DPs K [] ρ M Q:=fun σ H QQ R k=>k [] H [] M R.own ⟨[],DVs.nil,rfl⟩ Step.refl h
theorem B2 {tk tv:TE}{trs:List (TE×TE)}{Q:List (Str×PyData)->Own->Prop}(h:DE K tk ρ M fun x M1=>∃k,x = .d (.str k)/\DE K tv ρ M1 fun y M2=>∃d,y = .d d/\DPs K trs ρ M2 fun kds M3=>Q ((k,d)::kds) M3):DPs K ((tk,tv)::trs) ρ M Q:=fun σ H QQ R kk=>
 h σ H _ R fun v H1 x M1 o1 s1 t1 h1=>by
   obtain⟨k,rfl,h1⟩:=h1
   refine h1 σ H1 _ (R.step o1 t1) fun u H2 y M2 o2 s2 t2 h2=>?_
   obtain⟨d,rfl,h2⟩:=h2
   refine h2 σ H2 _ (R.step o2 (t1.trans t2)) fun ps H3 kds M3 o3 ⟨vs,s3,e3⟩ t3 q=>?_
   refine kk _ H3 ((k,d)::kds) M3 o3 ⟨u::vs,DVs.cons (DV.grow t3.grow s2) s3,?_⟩ ((t1.trans t2).trans t3) q
   rw[D8 s1,e3];rfl
theorem KN:∀(kvs acc:List (Key×V)),((acc++kvs).map (·.1)).Nodup->GR acc kvs=acc++kvs
 | [],acc,_=>by simp[GR]
 | kv::r,acc,h=>by
   have h1:(acc.any fun x=>decide (x.1=kv.1))=false:=by
     rw[b6W]
     intro x hx
     rw[xH,List.nodup_append] at h
     have:=h.2.2 x.1 (zL.mpr ⟨x,hx,rfl⟩) kv.1 (by simp)
     simpa using this
   show GR (F9 acc kv.1 kv.2) r=_
   have e:F9 acc kv.1 kv.2=acc++[kv]:=by
     unfold F9
     rw[h1];rfl
   rw[e,KN r (acc++[kv]) (by rw[b2Q];exact h)]
   simp
theorem Z9 {H:Hp}{W:Addr->Prop}:∀{kds:List (Str×PyData)}{vs:List V},DVs K H W (kds.map (·.2)) vs->DKV K H W (kds.map fun k=>(.str k.1,k.2)) ((kds.map fun k=>(a2K k.1:Key)).zip vs)
 | [],vs,h=>by unfold DKV;rfl
 | (k,d)::r,vs,h=>by
   rw[zI] at h
   unfold DVs at h
   obtain⟨v,r',rfl,h1,h2⟩:=h
   rw[zI]
   unfold DKV
   exact⟨a2K k,v,_,rfl,rfl,h1,Z9 h2⟩
theorem RL:∀(kds:List (Str×PyData)) (vs:List V),vs.length=kds.length->(kds.map fun k=>V.str k.1).zip vs=((kds.map fun k=>(a2K k.1:Key)).zip vs).map fun kv=>(kV kv.1,kv.2)
 | [],vs,_=>by simp
 | a::r,[],h=>by cases h
 | a::r,v::vs,h=>by
   rw[zI,zI,a5Z,a5Z,zI,RL r vs (by simpa using h)];rfl
theorem EI {trs:List (TE×TE)}(h:∀p,M p=none->DPs K trs ρ (M.put p (.d [])) fun kds M1=>M1 p=some (.d [])/\kds.length<=15/\(kds.map (·.1)).Nodup/\Q (.d (.dict (kds.map fun k=>(.str k.1,k.2)))) (M1.del p)):DE K (fL trs) ρ M Q:=fun σ H QQ R k p hp=>by
 have hMp:=R.own.none hp
 obtain⟨oa0,st0⟩:=YM (kvs:=[]) (ks:=[]) R.own hp (by unfold DKV;rfl)
 refine h p hMp σ _ _ (R.step oa0 st0) fun ps H2 kds M2 o2 ⟨vs,hd,e⟩ t2 h2=>?_
 obtain⟨hm,hl,nd,q⟩:=h2
 obtain⟨ks,q1,q2⟩:=o2 p _ hm
 unfold DKV at q2
 subst q2
 have hlen:vs.length=kds.length:=by rw[hd.length,zX]
 refine⟨q1,(kds.map fun k=>(a2K k.1:Key)).zip vs,?_,by rw[List.length_zip,zX];omega,?_⟩
 · rw[e];exact RL kds vs hlen
 · have hk:(((kds.map fun k=>(a2K k.1:Key)).zip vs).map (·.1)).Nodup:=by
     rw[List.map_fst_zip (by rw[zX,hlen];exact zR _)]
     have:kds.map (fun k=>(a2K k.1:Key))=(kds.map (·.1)).map a2K:=by rw[zD];rfl
     rw[this]
     unfold List.Nodup
     rw[b1W]
     exact nd.imp fun {a b} q e=>q (by injection e)
   rw[KN _ [] (by simpa using hk),List.nil_append]
   obtain⟨o3,t3⟩:=TB (kvs:=kds.map fun k=>(.str k.1,k.2)) (ks:=(kds.map fun k=>(a2K k.1:Key)).zip vs) o2 hm (Z9 hd)
   have hs:(M2.del p).Sub (M2.put p (.d (kds.map fun k=>(.str k.1,k.2)))):=fun b o e=>by
     unfold Own.del at e
     by_cases hb:b=p
     · rw[if_pos hb] at e;cases e
     · rw[if_neg hb] at e;rw[yH hb];exact e
   refine k _ _ (.d (.dict (kds.map fun k=>(.str k.1,k.2)))) (M2.del p) (o3.sub hs) ?_ (((st0.trans t2).trans t3).trans ⟨BJ hs⟩) q
   obtain⟨ks',q1',q2'⟩:=o3 p _ zU
   unfold SI DV
   exact⟨p,ks',rfl,fun w=>w (by unfold Own.del;rw[if_pos rfl]),.inl q1',q2'.grow (BJ hs)⟩
def G7 (k:Str):List (PyData×PyData)->Option PyData
 | (.str a,d)::r=>if a=k then some d else G7 k r
 | _::r=>G7 k r
 | []=>none
theorem VE {H:Hp}{W:Addr->Prop}{k:Str}:∀{kvs:List (PyData×PyData)}{ks:List (Key×V)},DKV K H W kvs ks->(∃d v,G7 k kvs=some d/\GO ks (a2K k)=some v/\DV K H W d v)∨(G7 k kvs=none/\GO ks (a2K k)=none)
 | [],ks,h=>by unfold DKV at h;subst h;exact .inr ⟨rfl,rfl⟩
 | (kd,d)::r,ks,h=>by
   unfold DKV at h
   obtain⟨k',v,r',rfl,rfl,h1,h2⟩:=h
   have ih:=VE (k:=k) h2
   unfold GO at ih ⊢
   rw[a7K]
   cases k' with
   | inl i=>
     have e1:decide ((Sum.inl i:Key)=a2K k)=false:=rfl
     rw[e1]
     exact ih
   | inr a=>
     by_cases e:a=k
     · subst e
       left
       exact⟨d,v,by simp[bZ,G7],by simp,h1⟩
     · have e1:decide ((a2K a:Key)=a2K k)=false:=decide_eq_false fun q=>e (by injection q)
       rw[e1]
       rcases ih with ⟨d',v',a1,a2,a3⟩ | ⟨a1,a2⟩
       · exact .inl ⟨d',v',by simp only[bZ,G7,if_neg e];exact a1,a2,a3⟩
       · exact .inr ⟨by simp only[bZ,G7,if_neg e];exact a1,a2⟩
theorem EJ {td ty tx:TE}(h:DE K td ρ M fun x M1=>∃kvs,x = .d (.dict kvs)/\DE K ty ρ M1 fun y M2=>∃k,y = .d (.str k)/\DE K tx ρ M2 fun z M3=>∃dz,z = .d dz/\Q (.d ((G7 k kvs).getD dz)) M3):DE K (Y3 td ty tx) ρ M Q:=fun σ H QQ R kk=>
 h σ H _ R fun v H1 x M1 o1 s1 t1 h1=>by
   obtain⟨kvs,rfl,h1⟩:=h1
   have s1':=s1
   unfold SI DV at s1'
   obtain⟨a,ks,rfl,nw,ha,hk⟩:=s1'
   refine⟨a,rfl,.inl ⟨ks,ha⟩,h1 σ H1 _ (R.step o1 t1) fun u H2 y M2 o2 s2 t2 h2=>?_⟩
   obtain⟨k,rfl,h2⟩:=h2
   refine h2 σ H2 _ (R.step o2 (t1.trans t2)) fun z H3 zz M3 o3 s3 t3 h3=>?_
   obtain⟨dz,rfl,q⟩:=h3
   have s1'':=s1.step (t2.trans t3)
   unfold SI DV at s1''
   obtain⟨a',ks',e,nw',ha',hk'⟩:=s1''
   cases e
   rw[D8 s2]
   rcases VE (k:=k) hk' with ⟨d,v,e1,e2,e3⟩ | ⟨e1,e2⟩
   · rw[e1] at q
     exact⟨some v,.inl ⟨ks',a2K k,ha',rfl,e2.symm⟩,kk _ H3 (.d d) M3 o3 e3 ((t1.trans t2).trans t3) q⟩
   · rw[e1] at q
     exact⟨none,.inl ⟨ks',a2K k,ha',rfl,e2.symm⟩,kk _ H3 (.d dz) M3 o3 s3 ((t1.trans t2).trans t3) q⟩
end
end DL
namespace L2
open PySem PySem.Spec PyProof.Rows
section
variable {prog:Program}{w:World}{A:Around}{E:Value->Shared->Prop}{s:Shared}
theorem RM {it l:Addr}{its:Array Value}(hne:l≠it):∀(n i:Nat) (s:Shared) (Q:List Value->Shared->Prop),s.heap.IsListIter it l i->s.heap.IsList l its->i+n<=its.size ->
   (∀h',h'.IsListIter it l (i+n)->Heap.SameBut it s.heap h'->Q ((its.toList.drop i).take n) { s with heap:=h' })->wpAny (model prog w) A (draw (.ref it) n) Q E s
 | 0,i,s,Q,hit,_,_,hQ=>by
   show wpAny _ _ (pure []) Q E s;exact zY (by simpa using hQ s.heap hit (Heap.SameBut.refl ..))
 | n+1,i,s,Q,hit,hl,hle,hQ=>by
   have hlt:i < its.size:=by omega
   show wpAny _ _ (pyNext (.ref it) >>= _) Q E s;refine zZ (wpAny_pyNext_list_item hit hl (x:=its[i]) (by simp[hlt]) fun g1 t1 q1=>?_)
   refine zZ (wpAny_holding (RM hne n (i+1) _ _ t1 (hl.extBut q1.extBut hne) (by omega) fun g2 t2 q2=>zY ?_))
   have hd:its.toList.drop i=its[i]::its.toList.drop (i+1):=by simp[List.drop_eq_getElem_cons,hlt]
   have h3:=hQ g2 (by rw[show i+(n+1)=i+1+n by omega];exact t2) (q1.trans q2)
   rw[hd,b4Q] at h3
   exact h3
theorem TN {l:Addr}{its:Array Value}{Q:List Value->Shared->Prop}(hh:A.handled=none) (hl:s.heap.IsList l its)
   (hQ:∀h',Heap.ExtBut s.heap.objs.size s.heap h'->Q its.toList { s with heap:=h' }):wpAny (model prog w) A (unpackItems (.ref l) its.size none) Q E s:=by
 have hne:l≠s.heap.objs.size:=by obtain⟨o,ho,_⟩:=hl;exact zC (zM ho)
 unfold unpackItems;refine zZ ?_;unfold notIterableAtAll
 refine zZ (wpAny_specialOf hl.typeIs F.slot_list_iter.lookup ?_);refine zY ?_;simp only[b1Q,if_false]
 refine zZ (wpAny_holding (wpAny_pyIter_list hl ?_))
 refine zZ (wpAny_holding (RM hne its.size 0 _ _ ⟨_,yZ _ rfl,rfl,rfl⟩ (hl.push _) (by omega) fun g1 t1 q1=>?_))
 rw[show List.take its.size (List.drop 0 its.toList)=its.toList by rw[List.drop_zero];exact a3J (by simp),if_neg (by simp)]
 refine zZ (wpAny_holding (wpAny_pyNext_list_end hh t1 ((hl.push _).extBut q1.extBut hne) (by simp) fun g2 e2=>?_));simp only[Option.isSome_none,b1Q,if_false]
 exact zY (hQ g2 fun b o hb e=>e2 b o hb (q1.extBut b o hb (zW _ e)))
end
section
variable {X:Cx}{pos:Pos}
def ZA (K:Frg) (n:Nat) (t:TGs):TG:=fun v σ H Q=>∃a xs,v = .ref a/\(SqT K H a xs∨SqL K H a xs)/\xs.length=n/\t xs σ H Q
theorem dB {es:List Expr}{k:Nat}{t:TGs}{n:Nat}(hc:X.calm=true) (h:PGs X es t)
   (hn:(assignEach es X.env).length=n:=by rfl) (hst:(assignEach es X.env).findIdx? (·.1)=none:=by rfl):PG X (.Tuple es k pos) (ZA X.K n t):=by
 intro pins s σ H v u Q I r hw
 obtain⟨a,xs,e1,hq,hl,hw⟩:=hw
 rcases hq with hq | hq
 · exact XS hc h hn hst pins s σ H v u Q I r ⟨a,xs,e1,hq,hl,hw⟩
 · subst e1
   cases r
   obtain⟨its,rv,pl,hz⟩:=I.list hq
   rw[arm_assign_Tuple]
   refine zZ (wpAny_standAt ?_)
   unfold unpack
   rw[show(assignEach es X.env).length=its.toArray.size by simp[hn,← hl,rv.length],hst]
   refine zZ (wpAny_holding (TN (I.ok.hd hc) pl.isList fun h' hx=>?_))
   have I1:Inv X pins σ H { s with heap:=h' }:=I.kept (t':=s.toks) fun b o e=>hx b o (zC (zM e)) e
   exact h pins _ σ H xs _ Q I1 (by simpa using rv) hw
end
end L2
namespace DL
open PySem PySem.Spec L2
theorem RN {X:Cx}{K:Frg}{pos:Pos}{es:List Expr}{k:Nat}{t:TGs}{n:Nat}(hK:X.K=K) (hc:X.calm=true) (h:PGs X es t)
   (hn:(assignEach es X.env).length=n:=by rfl) (hst:(assignEach es X.env).findIdx? (·.1)=none:=by rfl):PG X (.Tuple es k pos) (ZA K n t):=hK▸dB hc h hn hst
section
variable {K:Frg}{M:Own}{ρ:List (Option DS)}{P:List (Option DS)->Own->Prop}
theorem VF {n:Nat}{g:TGs}{ds:List PyData}(hn:ds.length=n) (h:DGs K g ds ρ M P):DG K (ZA K n g) (.tuple ds) ρ M P:=fun σ H v QQ R dv k=>by
 unfold DV at dv
 obtain⟨a,vs,rfl,hl,hd⟩:=dv
 exact⟨a,vs,rfl,.inl hl.sq,by rw[hd.length];exact hn,h σ H vs QQ R hd k⟩
end
end DL
namespace L2
open PySem PySem.Spec PyProof.Rows PySem.W
section
variable {n:Nat}{lt:Nat->Nat->Bool}
def Good (n:Nat) (lt:Nat->Nat->Bool) {α:Type}(P:α->Prop):KasT α->Prop
 | .ret a=>P a
 | .ask i j k=>i < n/\j < n/\i≠j/\Good n lt P (k (lt i j))
theorem Good.mono {α:Type}{P Q:α->Prop}(h:∀a,P a->Q a):∀{t:KasT α},Good n lt P t->Good n lt Q t
 | .ret _,g=>h _ g
 | .ask _ _ _,⟨a,b,c,g⟩=>⟨a,b,c,Good.mono h g⟩
theorem Good.bind {α β:Type}{P:β->Prop}{f:α->KasT β}:∀{t:KasT α},Good n lt (fun a=>Good n lt P (f a)) t->Good n lt P (t.bind f)
 | .ret _,g=>g
 | .ask _ _ _,⟨a,b,c,g⟩=>⟨a,b,c,Good.bind g⟩
theorem Good.wp {α:Type}{cmp:Nat->Nat->(Bool->Shared->Prop)->Shared->Prop}{s:Shared}{P:α->Prop}{Q:α->Shared->Prop}
   (hc:∀i j (C:Bool->Shared->Prop),i < n->j < n->i≠j->C (lt i j) s->cmp i j C s) (hq:∀a,P a->Q a s):∀{t:KasT α},Good n lt P t->t.kasWp cmp Q s
 | .ret a,g=>hq a g
 | .ask i j k,⟨a,b,c,g⟩=>hc i j _ a b c (Good.wp hc hq g)
structure Strict (n:Nat) (lt:Nat->Nat->Bool):Prop where
 irr:∀i,lt i i=false
 tr:∀i j k,lt i j=true->lt j k=true->lt i k=true
 tot:∀i j,i < n->j < n->i≠j->lt i j=true∨lt j i=true
def Pm (n:Nat) (p:Array Nat):Prop:=p.toList.Perm (a1X n)
theorem Pm.size {p:Array Nat}(h:Pm n p):p.size=n:=by have:=h.length_eq;simpa using this
theorem Pm.bel {p:Array Nat}(h:Pm n p) {i:Nat}(hi:i < n):p.getD i 0 < n:=by
 have hs:i < p.size:=by rw[h.size];exact hi
 have:p[i]∈a1X n:=h.mem_iff.mp (by simp)
 simp only[Array.getD,hs,dite_true]
 exact List.mem_range.mp this
theorem jN {l:List Nat}(nd:l.Nodup) {i j:Nat}{hi:i < l.length}{hj:j < l.length}(e:l[i]=l[j]):i=j:=by
 rcases b7Q i j with h | h | h
 · exact absurd e (List.pairwise_iff_getElem.mp nd i j hi hj h)
 · exact h
 · exact absurd e.symm (List.pairwise_iff_getElem.mp nd j i hj hi h)
theorem Pm.inj {p:Array Nat}(h:Pm n p) {i j:Nat}(hi:i < n) (hj:j < n) (hij:i≠j):p.getD i 0≠p.getD j 0:=by
 have hsi:i < p.size:=by rw[h.size];exact hi
 have hsj:j < p.size:=by rw[h.size];exact hj
 simp only[Array.getD,hsi,hsj,dite_true]
 have nd:p.toList.Nodup:=h.nodup_iff.mpr List.nodup_range
 intro e
 have e':p.toList[i]'(by simpa using hsi)=p.toList[j]'(by simpa using hsj):=by simpa using e
 exact hij (jN nd e')
def Up (lt:Nat->Nat->Bool) (p:Array Nat) (k:Nat):Prop:=∀i j,i < j->j < k->lt (p.getD i 0) (p.getD j 0)=true
def Dn (lt:Nat->Nat->Bool) (p:Array Nat) (k:Nat):Prop:=∀i j,i < j->j < k->lt (p.getD j 0) (p.getD i 0)=true
theorem MQ (S:Strict n lt) {p:Array Nat}(hp:Pm n p):∀(f m:Nat),1<=m->m+f<=n->Up lt p m ->
   Good n lt (fun r=>m<=r/\r<=m+f/\Up lt p r/\(r=m+f∨lt (p.getD r 0) (p.getD (r - 1) 0)=true)) (kas_asc p f m)
 | 0,m,h1,h2,h3=>⟨zR _,zR _,h3,.inl rfl⟩
 | f+1,m,h1,h2,h3=>by
   unfold kas_asc
   refine⟨hp.bel (by omega),hp.bel (by omega),hp.inj (by omega) (by omega) (by omega),?_⟩
   cases hc:lt (p.getD m 0) (p.getD (m - 1) 0) with
   | true=>exact⟨zR _,by omega,h3,.inr hc⟩
   | false=>
     have hup:lt (p.getD (m - 1) 0) (p.getD m 0)=true:=(S.tot _ _ (hp.bel (by omega)) (hp.bel (by omega)) (hp.inj (i:=m - 1) (j:=m) (by omega) (by omega) (by omega))).elim id fun z=>by rw[hc] at z;cases z
     dsimp only
     rw[if_neg nft]
     refine(MQ S hp f (m+1) (by omega) (by omega) fun i j hij hj=>?_).mono fun r ⟨a,b,c,d⟩=>⟨by omega,by omega,c,d.elim (fun z=>.inl (by omega)) .inr⟩
     by_cases hjm:j < m
     · exact h3 i j hij hjm
     · have e:j=m:=by omega
       subst e
       by_cases hi:i=j - 1
       · subst hi;exact hup
       · exact S.tr _ _ _ (h3 i (j - 1) (by omega) (by omega)) hup
theorem OS (S:Strict n lt) {p:Array Nat}(hp:Pm n p):∀(f m:Nat),1<=m->m+f<=n->Dn lt p m ->
   Good n lt (fun r=>r.1=p/\r.2.2=0/\m<=r.2.1/\r.2.1<=m+f/\Dn lt p r.2.1) (kas_desc f p m 0)
 | 0,m,h1,h2,h3=>⟨rfl,rfl,zR _,zR _,h3⟩
 | f+1,m,h1,h2,h3=>by
   unfold kas_desc
   refine⟨hp.bel (by omega),hp.bel (by omega),hp.inj (by omega) (by omega) (by omega),?_⟩
   cases hc:lt (p.getD m 0) (p.getD (m - 1) 0) with
   | true=>
     dsimp only
     rw[if_pos rfl,if_neg (yF 0)]
     refine(OS S hp f (m+1) (by omega) (by omega) fun i j hij hj=>?_).mono fun r ⟨a,b,c,d,e⟩=>⟨a,b,by omega,by omega,e⟩
     by_cases hjm:j < m
     · exact h3 i j hij hjm
     · have e:j=m:=by omega
       subst e
       by_cases hi:i=j - 1
       · subst hi;exact hc
       · exact S.tr _ _ _ hc (h3 i (j - 1) (by omega) (by omega))
   | false=>
     have hup:lt (p.getD (m - 1) 0) (p.getD m 0)=true:=(S.tot _ _ (hp.bel (by omega)) (hp.bel (by omega)) (hp.inj (i:=m - 1) (j:=m) (by omega) (by omega) (by omega))).elim id fun z=>by rw[hc] at z;cases z
     dsimp only
     rw[if_neg nft]
     refine⟨hp.bel (by omega),hp.bel (by omega),hp.inj (by omega) (by omega) (by omega),?_⟩
     dsimp only
     rw[hup,if_pos rfl]
     exact⟨rfl,rfl,zR _,(show m<=_ by omega),h3⟩
theorem LP {α:Type}{xs ys:Array α}{i j:Nat}{d:α}(h:xs[i]?=ys[j]?):xs.getD i d=ys.getD j d:=by
 rw[b3W,b3W,h]
theorem ZB {p:Array Nat}(hp:Pm n p) (i j:Nat):Pm n (kas_rev p i j):=(Array.perm_iff_toList_perm.mp (mirror_perm _ _ _ _)).trans hp
theorem TQ (S:Strict n lt) {p:Array Nat}(hp:Pm n p) {m:Nat}(h1:1<=m) (h2:m<=n) (h3:Dn lt p m) :
   Good n lt (fun r=>1<=r.1/\r.1<=n/\Pm n r.2/\Up lt r.2 r.1) (kas_tail3 m n p):=by
 unfold kas_tail3
 refine Good.bind ((MQ S (ZB hp 0 m) (n - m) m h1 (by omega) fun i j hij hj=>?_).mono fun r ⟨a,b,c,_⟩=>⟨by omega,by omega,ZB hp 0 m,c⟩)
 have hz:m<=p.size:=by rw[hp.size];exact h2
 have e:∀k,k < m->(kas_rev p 0 m).getD k 0=p.getD (m - 1 - k) 0:=fun k hk=>by
   refine LP ?_
   unfold kas_rev
   rw[getElem?_mirror_all (i:=0) hz k,if_pos ⟨xR _,hk⟩,Nat.zero_add]
 rw[e i (by omega),e j (by omega)]
 exact h3 _ _ (by omega) (by omega)
theorem NT (S:Strict n lt) {p:Array Nat}(hp:Pm n p) {m:Nat}(h2:m+1<=n) (h3:Dn lt p (m+1)) :
   Good n lt (fun r=>1<=r.1/\r.1<=n/\Pm n r.2/\Up lt r.2 r.1) (kas_descPart m n p):=by
 unfold kas_descPart
 refine Good.bind ((OS S hp (n - (m+1)) (m+1) (by omega) (by omega) h3).mono fun r ⟨a,b,c,d,e⟩=>?_)
 rw[b,if_neg (yF 0),a]
 exact TQ S hp (by omega) (by omega) e
theorem TR (S:Strict n lt) {p:Array Nat}(hp:Pm n p) (h2:1<=n) :
   Good n lt (fun r=>1<=r.1/\r.1<=n/\Pm n r.2/\Up lt r.2 r.1) (kas_count n p):=by
 unfold kas_count
 refine Good.bind ((MQ S hp (n - 1) 1 (zR _) (by omega) fun i j hij hj=>by omega).mono fun r ⟨a,b,c,d⟩=>?_)
 by_cases hr:r=n
 · subst hr
   rw[if_pos (by simp)]
   exact⟨a,zR _,hp,c⟩
 · rw[if_neg (by simpa using hr)]
   have hlt:lt (p.getD r 0) (p.getD (r - 1) 0)=true:=d.resolve_left (by omega)
   by_cases h1:r > 1
   · rw[if_pos h1]
     refine⟨hp.bel (by omega),hp.bel (by omega),hp.inj (by omega) (by omega) (by omega),?_⟩
     dsimp only
     rw[c 0 (r - 1) (by omega) (by omega),if_pos rfl]
     exact⟨a,by omega,hp,c⟩
   · rw[if_neg h1]
     have e:r=1:=by omega
     subst e
     refine NT S hp (by omega) fun i j hij hj=>?_
     have e1:i=0:=by omega
     have e2:j=1:=by omega
     subst e1 e2
     exact hlt
theorem IO (S:Strict n lt) {p:Array Nat}(hp:Pm n p) {k:Nat}(hk:k < n) (hu:Up lt p k):∀(f l r:Nat),l<=r->r<=k->r - l<=f ->
   (∀i,i < l->lt (p.getD i 0) (p.getD k 0)=true)->(∀i,r<=i->i < k->lt (p.getD k 0) (p.getD i 0)=true) ->
   Good n lt (fun x=>x<=k/\(∀i,i < x->lt (p.getD i 0) (p.getD k 0)=true)/\∀i,x<=i->i < k->lt (p.getD k 0) (p.getD i 0)=true) (kas_place p k f l r)
 | 0,l,r,h1,h2,h3,h4,h5=>by
   unfold kas_place
   exact⟨by omega,h4,fun i hi hik=>h5 i (by omega) hik⟩
 | f+1,l,r,h1,h2,h3,h4,h5=>by
   unfold kas_place
   by_cases hge:l≥r
   · rw[if_pos hge]
     exact⟨by omega,h4,fun i hi hik=>h5 i (by omega) hik⟩
   · rw[if_neg hge]
     have hm:l<=(l+r)/2/\(l+r)/2 < r:=by omega
     generalize (l+r)/2=m at hm ⊢
     obtain⟨hm1,hm2⟩:=hm
     have hmk:m < k:=zP hm2 h2
     have hmn:m < n:=Nat.lt_trans hmk hk
     refine⟨hp.bel hk,hp.bel hmn,hp.inj hk hmn (b0V hmk),?_⟩
     cases hc:lt (p.getD k 0) (p.getD m 0) with
     | true=>
       dsimp only
       rw[if_pos rfl]
       refine IO S hp hk hu f l m hm1 (xQ hmk) (by omega) h4 fun i hi hik=>?_
       by_cases e:i=m
       · subst e;exact hc
       · exact S.tr _ _ _ hc (hu _ _ (Nat.lt_of_le_of_ne hi (b5J e)) hik)
     | false=>
       dsimp only
       rw[if_neg nft]
       have hup:lt (p.getD m 0) (p.getD k 0)=true:=(S.tot _ _ (hp.bel hmn) (hp.bel hk) (hp.inj (i:=m) (j:=k) hmn hk (zC hmk))).elim id fun z=>by rw[hc] at z;cases z
       refine IO S hp hk hu f (m+1) r hm2 h2 (by omega) (fun i hi=>?_) h5
       by_cases e:i=m
       · subst e;exact hup
       · exact S.tr _ _ _ (hu _ _ (by omega) (by omega)) hup
theorem RO (S:Strict n lt):∀(f:Nat) {p:Array Nat}{k:Nat},Pm n p->k+f=n->Up lt p k->Good n lt (fun q=>Pm n q/\Up lt q n) (kas_bin f p k)
 | 0,p,k,hp,h1,h2=>by
   have e:k=n:=by omega
   subst e
   exact⟨hp,h2⟩
 | f+1,p,k,hp,h1,h2=>by
   unfold kas_bin
   refine Good.bind ((IO S hp (by omega) h2 k 0 k (xR _) (zR _) (by omega) (fun i hi=>by omega) fun i hi hk=>by omega).mono fun x ⟨hx,a,b⟩=>?_)
   have hks:k < p.size:=by rw[hp.size];omega
   refine RO S f ((Array.perm_iff_toList_perm.mp (bubble_perm _ _ _)).trans hp) (by omega) fun i j hij hj=>?_
   have e:∀q,(bubble p k (k - x)).getD q 0=if q=x then p.getD k 0 else if x < q/\q<=k then p.getD (q - 1) 0 else p.getD q 0:=fun q=>by
     have:=getElem?_bubble hks (k - x) (by omega) q
     rw[show k - (k - x)=x by omega] at this
     by_cases c1:q=x
     · rw[if_pos c1] at this ⊢;exact LP this
     · rw[if_neg c1] at this ⊢
       by_cases c2:x < q/\q<=k
       · rw[if_pos c2] at this ⊢;exact LP this
       · rw[if_neg c2] at this ⊢;exact LP this
   obtain⟨g,hg⟩:∃g:Nat->Nat,∀i,p.getD i 0=g i:=⟨_,fun _=>rfl⟩
   have h2':∀i j,i < j->j < k->lt (g i) (g j)=true:=fun i j x y=>by rw[← hg,← hg];exact h2 i j x y
   rw[e,e]
   simp only[hg] at a b ⊢
   clear e
   rcases b7Q j x with hj' | hj' | hj'
   · have hi':i < x:=Nat.lt_trans hij hj'
     rw[if_neg (zC hi'),if_neg (fun z=>Nat.lt_asymm z.1 hi'),if_neg (zC hj'),if_neg (fun z=>Nat.lt_asymm z.1 hj')]
     exact h2' _ _ hij (zP hj' hx)
   · subst hj'
     rw[if_neg (zC hij),if_neg (fun z=>Nat.lt_asymm z.1 hij),if_pos rfl]
     exact a _ hij
   · obtain⟨j',rfl⟩:∃j',j=j'+1:=⟨j - 1,by omega⟩
     have hjk:j' < k:=Nat.lt_of_succ_le (Nat.le_of_lt_succ hj)
     have hxj:x<=j':=Nat.le_of_lt_succ hj'
     rw[if_neg (b0V hj') (c:=j'+1=x),if_pos (c:=x < j'+1/\j'+1<=k) ⟨hj',hjk⟩,Nat.add_sub_cancel]
     rcases b7Q i x with hi' | hi' | hi'
     · rw[if_neg (zC hi'),if_neg (fun z=>Nat.lt_asymm z.1 hi')]
       exact h2' _ _ (zP hi' hxj) hjk
     · rw[if_pos hi']
       exact b _ hxj hjk
     · obtain⟨i',rfl⟩:∃i',i=i'+1:=⟨i - 1,by omega⟩
       have hij':i' < j':=Nat.lt_of_succ_lt_succ hij
       rw[if_neg (b0V hi'),if_pos (c:=x < i'+1/\i'+1<=k) ⟨hi',Nat.lt_trans hij' hjk⟩,Nat.add_sub_cancel]
       exact h2' _ _ hij' hjk
theorem WZ (S:Strict n lt) (h1:1<=n):Good n lt (fun q=>Pm n q/\Up lt q n) (kas_sort n):=by
 unfold kas_sort
 refine Good.bind ((TR S (show Pm n _ from .refl _) h1).mono fun r ⟨a,b,c,d⟩=>?_)
 have e:max r.1 1=r.1:=by omega
 rw[e]
 by_cases hr:r.1 < n
 · rw[if_pos hr]
   exact RO S _ c (by omega) d
 · rw[if_neg hr]
   have e:r.1=n:=by omega
   rw[e] at d
   exact⟨c,d⟩
end
end L2
namespace L2
open PySem PySem.Spec PyProof.Rows PySem.W
def TupsN (h:Heap) (vs:List Value) (ns:List Str):Prop:=
 vs.length=ns.length/\∀(i:Nat) (v:Value) (nm:Str),vs[i]?=some v->ns[i]?=some nm->∃(a:Addr) (o:Obj) (xs:Array Value) (k:Nat) (t:Tok),v=a0Z a/\h.get? a=some o/\o.cls = .type "tuple" /\ o.data = .seq xs k/\xs[0]?=some (.str nm t)
theorem TupsN.keep {h h':Heap}{vs:List Value}{ns:List Str}(t:TupsN h vs ns) (hk:∀b o,o.cls = .type "tuple" -> h.get? b=some o->h'.get? b=some o):TupsN h' vs ns:=
 ⟨t.1,fun i v nm e1 e2=>let ⟨a,o,xs,k,t',h1,h2,h3,h4,h5⟩:=t.2 i v nm e1 e2;⟨a,o,xs,k,t',h1,hk a o h3 h2,h3,h4,h5⟩⟩
theorem TupsN.kat {h:Heap}:∀{vs:List Value}{ns:List Str},TupsN h vs ns->∃fs,KatTups h vs fs/\fs.length=ns.length/\∀v∈fs,∃x t,v=Value.str x t
 | [],[],_=>⟨[],trivial,rfl,fun v hv=>nomatch hv⟩
 | [],_::_,t=>by have:=t.1;simp at this
 | _::_,[],t=>by have:=t.1;simp at this
 | v::vs,nm::ns,t=>by
   obtain⟨a,o,xs,k,t',rfl,h2,h3,h4,h5⟩:=t.2 0 v nm rfl rfl
   obtain⟨fs,q1,q2,q3⟩:=TupsN.kat (vs:=vs) (ns:=ns) ⟨by have:=t.1;simpa using this,fun i v nm e1 e2=>t.2 (i+1) v nm (by simpa using e1) (by simpa using e2)⟩
   exact⟨_,KatTups.cons h2 h3 h4 h5 q1,by simp[q2],fun v hv=>(yX.mp hv).elim (fun e=>⟨_,_,e⟩) (q3 v)⟩
section
variable {prog:Program}{w:World}{A:Around}{E:Value->Shared->Prop}{s:Shared}
theorem ZC {vs:List Value}{ns:List Str}(t:TupsN s.heap vs ns) (nd:ns.Nodup) {i j:Nat}(hi:i < ns.length) (hj:j < ns.length) (hij:i≠j) {C:Bool->Shared->Prop}(h:C (decide ((ns.getD i "").cps.toList < (ns.getD j "").cps.toList)) s) :
   kas_ask prog w A (tuples' true) vs i j C s:=by
 unfold kas_ask
 have hl:=t.1
 have e1:vs[i]?=some (vs.getD i a3Q):=by rw[yU,zV (by omega)];rfl
 have e2:vs[j]?=some (vs.getD j a3Q):=by rw[yU,zV (by omega)];rfl
 have f1:ns[i]?=some (ns.getD i ""):=by rw[yU,zV hi];rfl
 have f2:ns[j]?=some (ns.getD j ""):=by rw[yU,zV hj];rfl
 have hne:ns.getD i "" ≠ ns.getD j "" := fun e=>by
   rw[yU,yU,zV hi,zV hj] at e
   rcases Nat.lt_or_gt_of_ne hij with q | q
   · exact List.pairwise_iff_getElem.mp nd i j hi hj q e
   · exact List.pairwise_iff_getElem.mp nd j i hj hi q e.symm
 generalize vs.getD i a3Q=v at e1 ⊢
 generalize vs.getD j a3Q=u at e2 ⊢
 obtain⟨a,o,xs,k,t1,rfl,a2,a3,a4,a5⟩:=t.2 i v _ e1 f1
 obtain⟨b,o',ys,k',t2,rfl,b2,b3,b4,b5⟩:=t.2 j u _ e2 f2
 refine kat_lt a2 a4 b2 b4 ?_
 have x1:xs.toList[0]?=some (.str (ns.getD i "") t1):=by rw[a6W];exact a5
 have y1:ys.toList[0]?=some (.str (ns.getD j "") t2):=by rw[a6W];exact b5
 obtain⟨xr,hx⟩:∃r,xs.toList = .str (ns.getD i "") t1::r:=by
   cases hh:xs.toList with
   | nil=>rw[hh] at x1;cases x1
   | cons q r=>rw[hh] at x1;cases x1;exact⟨r,rfl⟩
 obtain⟨yr,hy⟩:∃r,ys.toList = .str (ns.getD j "") t2::r:=by
   cases hh:ys.toList with
   | nil=>rw[hh] at y1;cases y1
   | cons q r=>rw[hh] at y1;cases y1;exact⟨r,rfl⟩
 rw[hx,hy,a5Z]
 refine kat_cons (wpAny_eqBool_str ?_)
 rw[decide_eq_false hne]
 refine kat_no ?_
 show wpAny (model prog w) A (oneLt' true _ _) C (fun _ _=>False) s
 exact oneLt_str h
theorem MR {a:Addr}{vs:List Value}{ns:List Str}{n:Nat}{P:PySem.Fin->Shared->Prop}(ho:s.heap.get? a=some (seqObj "list" vs.toArray n)) (t:TupsN s.heap vs ns) (nd:ns.Nodup) (h64:vs.length < 64)
   (h:∀p:List Nat,p.Perm (a1X vs.length)->(∀i j,i < j->j < vs.length->(ns.getD (p.getD i 0) "").cps.toList < (ns.getD (p.getD j 0) "").cps.toList) ->
     P (.done (.ret .none)) { s with heap:=sortedHeap s.heap a vs (p.map fun i=>vs.getD i a3Q).toArray }) :
   wpAny (model prog w) A (Builtin.«list.sort» ⟨[.ref a],[]⟩) P E s:=by
 have ha:a < s.heap.objs.size:=zM ho
 rw[list_sort_plain];refine zZ (listItems_at ho rfl ?_)
 refine zZ (listUpdate_at ho rfl ?_ (by rw[zJ,sizeLine_eq];omega) (xR _));obtain⟨e1,ho1⟩:∃e1,(s.heap.update a (a6V fun _=>(#[]:Array Value))).get? a=some (seqObj "list" #[] e1):=⟨_,get?_update_seq ho (fun _=>#[])⟩
 refine zZ (seqEpoch_at ho1 rfl (zZ (wpAny_newTuple ?_ (by show vs.length<=_;rw[sizeLine_eq];omega))))
 refine zZ (wpAny_newList (wpAny_holding ?_) (xR _))
 have hsz:vs.toArray.size=vs.length:=zJ ..
 have keepT:∀b o,o.cls = .type "tuple" -> s.heap.get? b=some o->(((s.heap.update a (a6V fun _=>(#[]:Array Value))).push (seqObj "tuple" vs.toArray 0)).push (seqObj "list" #[] 0)).get? b=some o:=fun b o hc q=>by
   have hb:b≠a:=fun e=>by
     subst e
     rw[ho] at q
     cases q
     exact absurd hc (show ¬(Value.type "list"=Value.type "tuple") by decide)
   refine zW _ (zW _ ?_)
   rw[Heap.get?_update_ne _ _ _ _ hb]
   exact q
 have ho6:(((s.heap.update a (a6V fun _=>(#[]:Array Value))).push (seqObj "tuple" vs.toArray 0)).push (seqObj "list" #[] 0)).get? a=some (seqObj "list" #[] e1):=zW _ (zW _ ho1)
 show wpAny (model prog w) A _ P E { s with heap:=((s.heap.update a (a6V fun _=>(#[]:Array Value))).push (seqObj "tuple" vs.toArray 0)).push (seqObj "list" #[] 0) }
 dsimp only
 by_cases h2:vs.toArray.size < 2
 · rw[if_pos h2,if_pos h2]
   refine zZ (zY ?_)
   rw[StateT.run_pure]
   refine zZ (zY (zZ (seqEpoch_at ho6 rfl ?_)))
   have e3:(arrOf (SortSt.mk' general' (vs.toArray.zip vs.toArray) #[] 7 none)).map (·.2)=vs.toArray:=by
     show(vs.toArray.zip vs.toArray).map (·.2)=vs.toArray
     apply Array.toList_inj.mp
     rw[Array.toList_map,Array.toList_zip]
     exact List.map_snd_zip (zR _)
   rw[e3]
   refine zZ (listUpdate_at ho6 rfl ?_ (xR _) (by rw[zJ,sizeLine_eq];omega))
   simp only[bne_self_eq_false,b1Q,if_false]
   have:=h (a1X vs.length) (.refl _) (fun i j hij hj=>by omega)
   have e4:(a1X vs.length).map (fun i=>vs.getD i a3Q)=vs:=by
     apply b1V
     intro i
     rw[zF]
     by_cases hi:i < vs.length
     · rw[xZ hi]
       simp[hi]
     · rw[a0J (by simp;omega),a0J (by omega)]
       rfl
   rw[e4] at this
   exact zY this
 · rw[if_neg h2,if_neg h2]
   have h2':2<=vs.length:=by omega
   have t6:=t.keep keepT
   obtain⟨fs,q1,q2,q3⟩:=t6.kat
   refine zZ (kat_kind (T:=.type "str") q1 (by have:=t.1;omega) (fun v hv=>?_) rfl ?_)
   · obtain⟨x,tt,rfl⟩:=q3 v hv
     exact Looks.of_pure rfl
   have hn:vs.length=ns.length:=t.1
   have S:Strict vs.length (fun i j=>decide (i < vs.length)&&(decide (j < vs.length)&&decide ((ns.getD i "").cps.toList < (ns.getD j "").cps.toList))):=by
     refine⟨fun i=>?_,fun i j k a b=>?_,fun i j hi hj hij=>?_⟩
     · simp[List.lt_irrefl]
     · simp only[a1Z,decide_eq_true_eq] at a b ⊢
       exact⟨a.1,b.2.1,List.lt_trans a.2.2 b.2.2⟩
     · simp only[a1Z,decide_eq_true_eq,hi,hj,true_and]
       have hne:(ns.getD i "").cps.toList≠(ns.getD j "").cps.toList:=fun e=>by
         have e':ns.getD i ""=ns.getD j "" := by
           generalize ns.getD i ""=x at e
           generalize ns.getD j ""=y at e
           obtain⟨⟨x⟩⟩:=x
           obtain⟨⟨y⟩⟩:=y
           simp at e
           rw[e]
         rw[yU,yU,zV (by omega),zV (by omega)] at e'
         rcases Nat.lt_or_gt_of_ne hij with q | q
         · exact List.pairwise_iff_getElem.mp nd i j (by omega) (by omega) q e'
         · exact List.pairwise_iff_getElem.mp nd j i (by omega) (by omega) q e'.symm
       by_cases c:(ns.getD i "").cps.toList < (ns.getD j "").cps.toList
       · exact .inl c
       · refine .inr ?_
         rcases List.le_iff_lt_or_eq.mp (List.not_lt.mp c) with z | z
         · exact z
         · exact absurd z.symm hne
   refine zZ (wpAny_mono (kat_run (ks:=vs) (G:=fun p s'=>s'={ s with heap:=((s.heap.update a (a6V fun _=>(#[]:Array Value))).push (seqObj "tuple" vs.toArray 0)).push (seqObj "list" #[] 0) }/\Pm vs.length p/\Up _ p vs.length)
     (Q:=fun st' s'=>s'={ s with heap:=((s.heap.update a (a6V fun _=>(#[]:Array Value))).push (seqObj "tuple" vs.toArray 0)).push (seqObj "list" #[] 0) }/\failedOf st'=none/\∃p:Array Nat,Pm vs.length p/\Up _ p vs.length/\(arrOf st').map (·.2)=List.toArray (p.toList.map fun i=>vs.getD i a3Q))
     rfl h2' h64 (fun p st' s' a1 a2 a3 a4=>⟨a4.1,a3,p,a4.2.1,a4.2.2,kat_snds rfl a2⟩) ((WZ S (by omega)).wp (fun i j C hi hj hij hC=>?_) fun p hp=>⟨rfl,hp.1,hp.2⟩)) ?_ fun _ _ e=>e)
   · refine ZC t6 nd (by omega) (by omega) hij ?_
     simp only[hi,hj,decide_true,Bool.true_and] at hC
     exact hC
   · rintro⟨⟨⟩,st'⟩ s' ⟨rfl,hf,p,hp,hu,hm⟩
     dsimp only
     refine zZ (seqEpoch_at ho6 rfl ?_)
     rw[hm]
     refine zZ (listUpdate_at ho6 rfl ?_ (xR _) (by
       have z:=hp.length_eq
       simp only[xY,a3V] at z
       simp only[zJ,zX,a3V]
       rw[sizeLine_eq];omega))
     rw[hf]
     simp only[bne_self_eq_false,b1Q,if_false]
     refine zY (h p.toList hp fun i j hij hj=>?_)
     have:=hu i j hij hj
     simp only[a1Z,decide_eq_true_eq] at this
     have ed:∀k,p.toList.getD k 0=p.getD k 0:=fun k=>by rw[yU,b3W,a6W]
     rw[ed,ed]
     exact this.2.2
theorem RP {l:Addr}{vs:List Value}{Q:List Value->Shared->Prop}(hl:s.heap.IsList l vs.toArray∨s.heap.IsTuple l vs.toArray)
   (h:Q vs { s with heap:=(s.heap.push (seqObj "list" #[] 0)).update s.heap.objs.size (a6V (·++vs.toArray)) }) (hsz:vs.length<=sizeLine) :
   wpAny (model prog w) A (collect (.ref l)) Q E s:=by
 rcases hl with hl | ⟨o,ho,hc,n,hd⟩
 · exact collect_list hl h hsz
 unfold collect
 refine zZ (wpAny_runValue (codeAny_builtin entry_proto_collect' ?_))
 show wpAny _ _ (do again (.builtin "list.__iadd__" ⟨[← newList [],.ref l],[]⟩)) _ _ s
 refine zZ (wpAny_newList (zY ⟨Code.quiet_builtin _ (by decide +kernel),codeAny_builtin entry_list_iadd' ?_⟩))
 show wpAny _ _ (Builtin.List.listExtendWith (.ref s.heap.objs.size) (.ref l) (.ref s.heap.objs.size)) _ _ { s with heap:=s.heap.push (seqObj "list" #[] 0) }
 unfold Builtin.List.listExtendWith
 have ho':(s.heap.push (seqObj "list" #[] 0)).get? l=some o:=zW _ ho
 refine zZ (wpAny_typeOf (T:= "tuple") ⟨o,ho',hc⟩ ?_)
 have ht:(Value.type "tuple" == Value.type "tuple")=true:=by rfl
 rw[if_pos (by rw[ht];simp)]
 refine zZ (listItems_at ho' hd ?_)
 refine zZ (listItems_at (xs:=#[]) (n:=0) (yZ _ rfl) rfl ?_)
 rw[if_neg (by simp)]
 refine zZ (listUpdate_at (xs:=#[]) (n:=0) (yZ _ rfl) rfl ?_ (xR _) (by show(#[]++vs.toArray).size<=sizeLine+1;simp only[Array.size_append,zJ,List.length_nil];omega))
 refine zY ?_
 show wpAny (model prog w) A (do
     let o ← load s.heap.objs.size
     match o.data with
     | .seq xs _=>pure xs.toList
     | _=>unsupported "internal:collect") Q E { s with heap:=(s.heap.push (seqObj "list" #[] 0)).update s.heap.objs.size (a6V (·++vs.toArray)) }
 refine zZ (wpAny_load (get?_update_seq (yZ _ rfl) _) ?_)
 show wpAny _ _ (pure ((#[]:Array Value)++vs.toArray).toList) Q E _
 rw[show((#[]:Array Value)++vs.toArray).toList=vs by simp]
 exact zY h
theorem RQ {l:Addr}{vs:List Value}{ns:List Str}{Q:Value->Shared->Prop}(hl:s.heap.IsList l vs.toArray∨s.heap.IsTuple l vs.toArray) (t:TupsN s.heap vs ns) (nd:ns.Nodup) (h64:vs.length < 64)
   (h:∀p:List Nat,p.Perm (a1X vs.length)->(∀i j,i < j->j < vs.length->(ns.getD (p.getD i 0) "").cps.toList < (ns.getD (p.getD j 0) "").cps.toList) ->
     Q (.ref (s.heap.objs.size+1)) { s with heap:=sortedAll s.heap vs (p.map fun i=>vs.getD i a3Q).toArray }) :
   wpAny (model prog w) A (call (.builtin "sorted") [.ref l]) Q E s:=by
 refine Calls.call_function_entry kind_sorted plain_sorted entry_sorted (args_sorted1 _) ?_
 unfold Builtin.«sorted»;refine zZ (m:=checkCount "sorted" 1 1 _) (zY (zZ (RP hl (zZ (wpAny_newList ?_ (by rw[sizeLine_eq];omega))) (by rw[sizeLine_eq];omega))))
 generalize hH:(s.heap.push (seqObj "list" #[] 0)).update s.heap.objs.size (a6V (·++vs.toArray))=H1
 have hsz:H1.objs.size=s.heap.objs.size+1:=by rw[← hH,Heap.size_update,size_push']
 have old:∀b o,s.heap.get? b=some o->(H1.push (seqObj "list" vs.toArray 0)).get? b=some o:=fun b o q=>by
   refine zW _ ?_
   rw[← hH,Heap.get?_update_ne _ _ _ _ (zC (zM q))]
   exact zW _ q
 have hoL:(H1.push (seqObj "list" vs.toArray 0)).get? (s.heap.objs.size+1)=some (seqObj "list" vs.toArray 0):=by
   rw[← hsz];exact yZ _ rfl
 show wpAny _ _ _ _ _ { s with heap:=H1.push (seqObj "list" vs.toArray 0) }
 rw[hsz]
 refine zZ (wpAny_holding (wpAny_call_entry slot_list_sort ⟨_,hoL,rfl⟩ entry_list_sort (MR hoL (t.keep fun b o _ q=>old b o q) nd h64 fun p a1 a2=>⟨_,rfl,?_⟩) (args_list_sort _)))
 have:=h p a1 a2
 unfold sortedAll at this
 rw[hH] at this
 exact zY ⟨_,rfl,this⟩
theorem RR {d:Addr}{kvs:List (Key×Value)}{ss:List Str}{Q:Value->Shared->Prop}(hh:A.handled=none) (hd:(d==sysModules)=false) (dd:s.heap.DictOf (AR prog w) d kvs) (hk:kvs.map (·.1)=ss.map a2K) (h64:ss.length < 64)
   (h:∀(h1 h':Heap) (tk:Nat) (out:List Value) (e:Nat) (ss':List Str),(∀b o,s.heap.get? b=some o->h1.get? b=some o)->(∀b o,h1.get? b=some o->h'.get? b=some o)->h'.get? h1.objs.size=some (seqObj "list" out.toArray e)->StrsAre out ss'->ss'.Perm ss->sortedS ss'=true->Q (.ref h1.objs.size) { s with heap:=h',toks:=tk }) :
   wpAny (model prog w) A (call (.builtin "sorted") [.ref d]) Q E s:=by
 refine Calls.call_function_entry kind_sorted plain_sorted entry_sorted (args_sorted1 _) ?_
 obtain⟨ep,hat⟩:=dd.dictAt
 have hlen:kvs.length=ss.length:=by have:=congrArg b7Z hk;simpa using this
 unfold Builtin.«sorted»;refine zZ (m:=checkCount "sorted" 1 1 _) (zY (zZ (kdu_collect (A:=A.in1) (kdl_dict (kvs:=kvs) (ep:=ep) hd) hh hat (by rw[hlen,sizeLine_eq];omega) fun h' tk acc hold hacc=>?_)))
 have hl:acc.toList.length=ss.length:=by rw[a3V,hacc.1,hlen]
 have hS:StrsAre acc.toList ss:=by
   have go:∀(vs:List Value) (zs:List Str),vs.length=zs.length->(∀(i:Nat) v x,vs[i]?=some v->zs[i]?=some x->∃t,v=Value.str x t)->StrsAre vs zs:=by
     intro vs
     induction vs with
     | nil=>intro zs hz _;cases zs with
       | nil=>exact .nil
       | cons _ _=>simp at hz
     | cons v vs ih=>intro zs hz hv;cases zs with
       | nil=>simp at hz
       | cons x zs=>
         obtain⟨t,rfl⟩:=hv 0 v x rfl rfl
         exact .cons x t (ih zs (by simpa using hz) fun i v x e1 e2=>hv (i+1) v x (by simpa using e1) (by simpa using e2))
   refine go _ _ hl fun i v x e1 e2=>?_
   obtain⟨k,y,g1,g2⟩:=hacc.2 i v (by rw[← a6W];exact e1)
   have e3:(kvs.map (·.1))[i]?=some k:=by rw[zF,g1];rfl
   rw[hk,zF,e2] at e3
   cases e3
   have g2':LS (.inr x) v=true:=g2
   rcases B4 g2' with ⟨i,t,e,_⟩ | ⟨z,t,e,e'⟩
   · cases e
   · cases e;exact⟨t,e'⟩
 refine zZ (wpAny_newList ?_ (by rw[hl,sizeLine_eq];omega))
 have hoL:(h'.push (seqObj "list" acc.toList.toArray 0)).get? h'.objs.size=some (seqObj "list" acc.toList.toArray 0):=yZ _ rfl
 show wpAny _ _ _ _ _ { s with heap:=h'.push (seqObj "list" acc.toList.toArray 0),toks:=tk }
 refine zZ (wpAny_holding (wpAny_call_entry (s:={ s with heap:=h'.push (seqObj "list" acc.toList.toArray 0),toks:=tk }) slot_list_sort ⟨_,hoL,rfl⟩ entry_list_sort (list_sort_treeK strKind_oneLt hoL hS.keysOf (fun v₁ v₂ rest e=>keyKind_strs (by rw[← e];exact hS)) (by rw[hl];exact h64) fun st' hp hs=>⟨_,rfl,?_⟩) (args_list_sort _)))
 obtain⟨ss',h1,h2,h3⟩:=sorted_out_str hS hp hs
 obtain⟨e,he⟩:=sortedHeap_at (out:=(arrOf st').map (·.2)) hoL
 refine zY ⟨_,rfl,h h' _ tk ((arrOf st').map (·.2)).toList e ss' hold (fun b o q=>?_) (by rw[Array.toArray_toList];exact he) h1 h2 h3⟩
 have lt:b < h'.objs.size:=zM q
 rw[sortedHeap_old (zC lt) (by rw[size_push'];exact Nat.lt_succ_of_lt lt)]
 exact zW _ q
end
end L2
namespace L2
open PySem PySem.Spec PyProof.Rows PySem.W
def ZD (K:Frg):List V->Hp->VK->Prop:=fun xs H Q=>∃(p:Addr) (es:List (Addr×Str×List V)),xs=[.ref p]/\(SqL K H p (es.map fun e=>V.ref e.1)∨SqT K H p (es.map fun e=>V.ref e.1))/\(∀e∈es,SqT K H e.1 (.str e.2.1::e.2.2))/\(es.map fun e=>e.2.1).Nodup/\es.length < 64 /\
 ∀(es':List (Addr×Str×List V)) (q:Addr),es'.Perm es->es'.Pairwise (fun x y=>x.2.1.cps.toList < y.2.1.cps.toList)->H q=none->Q (.ref q) (upd H q (.lst (es'.map fun e=>V.ref e.1)))
def ZE:List V->Hp->VK->Prop:=fun xs H Q=>∃(p:Addr) (kvs:List (Key×V)) (ss:List Str),xs=[.ref p]/\Rd H p (.dK kvs)/\kvs.map (·.1)=ss.map a2K/\ss.length < 64 /\
 ∀(ss':List Str) (q:Addr),ss'.Perm ss->sortedS ss'=true->H q=none->Q (.ref q) (upd H q (.lst (ss'.map V.str)))
def PR (K:Frg):List V->Hp->VK->Prop:=fun xs H Q=>YS K xs H Q∨ZD K xs H Q∨ZE xs H Q
section
variable {X:Cx}
theorem OT:∀{es:List (Addr×Str×List V)}{its:List Value},Vals (es.map fun e=>V.ref e.1) its->its=es.map fun e=>a0Z e.1
 | [],_,.nil=>rfl
 | _::_,_,.cons r t=>by rw[OT t];cases r;rfl
theorem OU:∀{es:List (Addr×Str×List V)},Vals (es.map fun e=>V.ref e.1) (es.map fun e=>a0Z e.1)
 | []=>.nil
 | _::_=>.cons rfl OU
theorem TU:BO X (.builtin "sorted") (ZD X.K):=by
 intro pins s σ H xs us Q I r h
 obtain⟨p,es,rfl,hp,ht,nd,h64,q⟩:=h
 obtain⟨u,rfl,ru⟩:=G6 r
 cases ru
 obtain⟨its,rv,pl⟩:∃its:List Value,Vals (es.map fun e=>V.ref e.1) its/\(s.heap.IsList p its.toArray∨s.heap.IsTuple p its.toArray):=by
   rcases hp with hp | hp
   · obtain⟨its,rv,pl,_⟩:=I.list hp
     exact⟨its,rv,.inl pl.isList⟩
   · obtain⟨its,rv,pl,_⟩:=I.tuple hp
     exact⟨its,rv,.inr pl⟩
 have ei:=OT rv
 subst ei
 have tn:TupsN s.heap (es.map fun e=>a0Z e.1) (es.map fun e=>e.2.1):=by
   refine⟨by simp,fun i v nm e1 e2=>?_⟩
   rw[zF] at e1 e2
   cases he:es[i]? with
   | none=>rw[he] at e1;cases e1
   | some e=>
     rw[he] at e1 e2
     cases e1
     cases e2
     obtain⟨js,rj,⟨o,ho,hc,n,hd⟩,_⟩:=I.tuple (ht e (yN he))
     cases rj with
     | cons r0 _=>
       obtain⟨t,rfl⟩:=r0
       exact⟨e.1,o,_,n,t,rfl,ho,hc,hd,by simp⟩
 refine RQ pl tn nd (by simpa using h64) fun pm h1 h2=>?_
 simp only[zX] at h1 h2
 obtain⟨e,he⟩:=sortedAll_at s.heap (es.map fun e=>a0Z e.1) (pm.map fun i=>(es.map fun e=>a0Z e.1).getD i a3Q).toArray
 have hn:H (s.heap.objs.size+1)=none:=I.hok.fresh (Nat.le_succ _)
 obtain⟨es',he'⟩:∃es':List (Addr×Str×List V),es'=pm.filterMap fun i=>es[i]?:=⟨_,rfl⟩
 have hin:∀i∈pm,i < es.length:=fun i hi=>List.mem_range.mp (h1.mem_iff.mp hi)
 have emap:∀(l:List Nat),(∀i∈l,i < es.length)->(l.filterMap fun i=>es[i]?)=l.attach.map fun i=>es.getD i.1 (0, "", []):=fun l=>by
   intro hl
   induction l with
   | nil=>rfl
   | cons a l ih=>
     have ha:=hl a (by simp)
     rw[a6X,zV ha]
     simp only[List.attach_cons,zI,zD]
     rw[ih fun i hi=>hl i (yV _ hi)]
     simp[yU,zV ha]
 have emap':es'=pm.map fun i=>es.getD i (0, "", []):=by
   rw[he',emap pm hin]
   simp
 have perm:es'.Perm es:=by
   rw[he']
   refine(h1.filterMap _).trans ?_
   rw[show((a1X es.length).filterMap fun i=>es[i]?)=es from ?_]
   apply b1V
   intro i
   have:((a1X es.length).filterMap fun i=>es[i]?)=(a1X es.length).map fun i=>es.getD i (0, "", []):=by
     rw[emap _ fun i hi=>List.mem_range.mp hi]
     simp
   rw[this,zF]
   by_cases hi:i < es.length
   · rw[xZ hi]
     simp[hi]
   · rw[a0J (by simp;omega),a0J (by omega)]
     rfl
 have outs:(pm.map fun i=>(es.map fun e=>a0Z e.1).getD i a3Q)=es'.map fun e=>a0Z e.1:=by
   rw[emap',zD]
   apply yM
   intro i hi
   have hi:=hin i hi
   simp[yU,zF,zV hi]
 have lenp:pm.length=es.length:=by have:=h1.length_eq;simpa using this
 have srt:es'.Pairwise (fun x y=>x.2.1.cps.toList < y.2.1.cps.toList):=by
   rw[emap',b1W,List.pairwise_iff_getElem]
   intro i j hi hj hij
   have:=h2 i j hij (by omega)
   have g:∀k (hk:k < pm.length),(es.map fun e=>e.2.1).getD (pm.getD k 0) (a0Q "")=(es.getD pm[k] (0, "", [])).2.1:=fun k hk=>by
     have hk':=hin pm[k] (b2V hk)
     rw[yU (l:=pm),zV hk]
     simp[yU,zF,zV hk']
   rw[g i hi,g j hj] at this
   exact this
 rw[outs] at he ⊢
 refine⟨.ref (s.heap.objs.size+1),_,I.laid (t':=s.toks) (o:=.lst (es'.map fun e=>V.ref e.1)) (fun b o eb=>sortedAll_old eb) (Nat.le_succ _) ?_,rfl,q es' _ perm srt hn⟩
 refine⟨by rw[zX,perm.length_eq];exact zN (xQ h64) (by decide),es'.map fun e=>a0Z e.1,e,OU,?_⟩
 have he':=he
 simpa [seqObj] using he'
theorem TV (hc:X.calm=true):BO X (.builtin "sorted") ZE:=by
 intro pins s σ H xs us Q I r h
 obtain⟨p,kvs,ss,rfl,hp,hk,h64,q⟩:=h
 obtain⟨u,rfl,ru⟩:=G6 r
 cases ru
 obtain⟨z,hd,vs,rel,dd⟩:=KM I.hok hp
 have hk':vs.map (·.1)=ss.map a2K:=by
   rw[← hk]
   clear hk dd z hp q
   unfold KV at rel
   induction rel with
   | nil=>rfl
   | cons h t ih=>simp[h.1,ih]
 refine RR (I.ok.hd hc) hd dd hk' h64 fun h1 h' tk out e ss' k1 k2 ho hS hperm hsort=>?_
 have I1:Inv X pins σ H { s with heap:=h1,toks:=tk }:=I.kept k1
 have hn:H h1.objs.size=none:=I1.hok.fresh (zR _)
 refine⟨.ref h1.objs.size,_,I1.laid (t':=tk) (o:=.lst (ss'.map V.str)) (h':=h') k2 (zR _) ?_,rfl,q ss' _ hperm hsort hn⟩
 refine⟨by rw[zX,hperm.length_eq];exact zN (xQ h64) (by decide),out,e,YR hS,?_⟩
 simpa [seqObj] using ho
theorem TX (hc:X.calm=true):BO X (.builtin "sorted") (PR X.K):=by
 intro pins s σ H xs us Q I r h
 rcases h with h | h | h
 · exact TC pins s σ H xs us Q I r h
 · exact TU pins s σ H xs us Q I r h
 · exact TV hc pins s σ H xs us Q I r h
end
end L2
namespace DL
open PySem PySem.Spec L2
section
variable {K:Frg}{M:Own}{Q:DS->Own->Prop}{ρ:List (Option DS)}{H:Hp}{td ty tv:TE}{D:EndsD}
def K8 (t:Str×List PyData):PyData:=.tuple (.str t.1::t.2)
theorem RS {W:Addr->Prop}:∀{ts:List (Str×List PyData)}{vs:List V},DVs K H W (ts.map K8) vs->∃es:List (Addr×Str×List V),vs=es.map (fun e=>V.ref e.1)/\es.map (fun e=>e.2.1)=ts.map (·.1)/\(∀e∈es,SqT K H e.1 (.str e.2.1::e.2.2)) /\
   es.length=ts.length/\∀(i:Nat) e t,es[i]?=some e->ts[i]?=some t->DV K H W (K8 t) (.ref e.1)/\e.2.1=t.1
 | [],vs,h=>by unfold DVs at h;subst h;exact⟨[],rfl,rfl,(fun e he=>by simp at he),rfl,fun i e t h1 h2=>by simp at h1⟩
 | t::ts,vs,h=>by
   rw[zI] at h
   unfold DVs at h
   obtain⟨v,r,rfl,h1,h2⟩:=h
   obtain⟨es,rfl,e2,e3,e4,e5⟩:=RS h2
   have h1':=h1
   unfold K8 DV at h1'
   obtain⟨a,us,rfl,hw,hd⟩:=h1'
   unfold DVs at hd
   obtain⟨u,us',rfl,hu,hus⟩:=hd
   unfold DV at hu
   subst hu
   refine⟨(a,t.1,us')::es,rfl,by simp[e2],fun e he=>?_,by simp[e4],fun i e t' h3 h4=>?_⟩
   · rcases yX.mp he with rfl | he
     · exact hw.sq
     · exact e3 e he
   · cases i with
     | zero=>simp at h3 h4;subst h3 h4;exact⟨h1,rfl⟩
     | succ i=>exact e5 i e t' (by simpa using h3) (by simpa using h4)
theorem RT {W:Addr->Prop}:∀{es:List (Addr×Str×List V)}{ts:List (Str×List PyData)},es.length=ts.length->(∀(i:Nat) e t,es[i]?=some e->ts[i]?=some t->DV K H W (K8 t) (.ref e.1))->DVs K H W (ts.map K8) (es.map fun e=>V.ref e.1)
 | [],[],_,_=>by simp only[a5X];exact DVs.nil
 | [],_::_,h,_=>by simp at h
 | _::_,[],h,_=>by simp at h
 | e::es,t::ts,h,k=>by
   rw[zI,zI]
   exact DVs.cons (k 0 e t rfl rfl) (RT (by simpa using h) fun i e t h1 h2=>k (i+1) e t (by simpa using h1) (by simpa using h2))
theorem TY {α β:Type}:∀{as as':List α},as'.Perm as->∀{bs:List β},as.length=bs.length->∃bs':List β,bs'.Perm bs/\(as'.zip bs').Perm (as.zip bs)/\as'.length=bs'.length:=by
 intro as as' h
 induction h with
 | nil=>intro bs hl;exact⟨bs,.refl _,.refl _,hl⟩
 | cons x _ ih=>
   intro bs hl
   cases bs with
   | nil=>simp at hl
   | cons b bs=>
     obtain⟨bs',h1,h2,h3⟩:=ih (bs:=bs) (by simpa using hl)
     exact⟨b::bs',h1.cons b,by rw[a5Z,a5Z];exact h2.cons _,by simp[h3]⟩
 | swap x y l=>
   intro bs hl
   match bs,hl with
   | b1::b2::bs,hl=>exact⟨b2::b1::bs,.swap _ _ _,by simp only[a5Z];exact .swap _ _ _,by simpa using hl⟩
 | trans p1 p2 ih1 ih2=>
   intro bs hl
   obtain⟨b2,h1,h2,h3⟩:=ih2 hl
   obtain⟨b3,g1,g2,g3⟩:=ih1 h3
   exact⟨b3,g1.trans h1,g2.trans h2,g3⟩
theorem MS {a:Addr}{ts:List (Str×List PyData)}{vs:List V}{QQ:VK}(oa:OA K H M) (hl:SqL K H a vs∨SqT K H a vs) (hd:DVs K H M.W (ts.map K8) vs) (nd:(ts.map (·.1)).Nodup) (h64:ts.length < 64)
   (k:∀(w:V) (H':Hp) (z:DS) (M':Own),OA K H' M'->SI K H' M' z w->Step K M M' H H'->(∃ts':List (Str×List PyData),ts'.Perm ts/\ts'.Pairwise (fun x y=>x.1.cps.toList < y.1.cps.toList)/\z = .d (.list (ts'.map K8))/\M'=M)->QQ w H'):PR K [.ref a] H QQ:=by
 obtain⟨es,rfl,e2,e3,e4,e5⟩:=RS hd
 refine .inr (.inl ⟨a,es,rfl,hl,e3,by rw[e2];exact nd,by rw[e4];exact h64,fun es' p hp hs hn=>?_⟩)
 obtain⟨ts',p1,p2,p3⟩:=TY hp e4
 have each:∀(i:Nat) e t,es'[i]?=some e->ts'[i]?=some t->DV K H M.W (K8 t) (.ref e.1)/\e.2.1=t.1:=fun i e t h1 h2=>by
   have hz:(e,t)∈es.zip ts:=p2.mem_iff.mp (yN (i:=i) (by rw[b6Z];exact⟨h1,h2⟩))
   obtain⟨j,hj⟩:=List.getElem?_of_mem hz
   rw[b6Z] at hj
   exact e5 j e t hj.1 hj.2
 have g:Grow K M.W M.W H (upd H p (.lst (es'.map fun e=>V.ref e.1))):=B0 _ hn
 refine k _ _ (.d (.list (ts'.map K8))) M (oa.new hn) ?_ ⟨g⟩ ⟨ts',p1,?_,rfl,rfl⟩
 · unfold SI DV
   exact⟨p,_,rfl,.inl ⟨fun w=>w (oa.none hn),.inl AH⟩,(RT p3 fun i e t h1 h2=>(each i e t h1 h2).1).grow g⟩
 · rw[List.pairwise_iff_getElem] at hs ⊢
   intro i j hi hj hij
   have hi':i < es'.length:=by omega
   have hj':j < es'.length:=by omega
   have:=hs i j hi' hj' hij
   rw[(each i es'[i] ts'[i] (zV hi') (zV hi)).2,(each j es'[j] ts'[j] (zV hj') (zV hj)).2] at this
   exact this
theorem ZF {ts:List (Str×List PyData)}(nd:(ts.map (·.1)).Nodup) (h64:ts.length < 64) (q:∀ts':List (Str×List PyData),ts'.Perm ts->ts'.Pairwise (fun x y=>x.1.cps.toList < y.1.cps.toList)->Q (.d (.list (ts'.map K8))) M):DR K (PR K) [.d (.list (ts.map K8))] M Q:=fun H vs QQ oa s k=>by
 obtain⟨v,r,rfl,h1,h2⟩:=s
 cases h2
 unfold SI DV at h1
 obtain⟨a,vs,rfl,hl,hd⟩:=h1
 exact MS oa (.inl hl.sq) hd nd h64 fun w H' z M' o si st ⟨ts',p1,p2,e1,e2⟩=>by subst e1 e2;exact k w H' _ _ o si st (q ts' p1 p2)
end
end DL
namespace DL
open PySem PySem.Spec L2
section
variable {X:Cx}{K:Frg}
theorem jO (h:X.K=K) (hc:X.calm=true):BO X (.builtin "sorted") (PR K):=h▸TX hc
end
section
variable {K:Frg}{M:Own}{ρ:List (Option DS)}{wi:TI}{g:TG}{H:Hp}
theorem ZG {D:EndsD}{i j:Nat}{ta:TA}(h:DA K ta ρ M fun xs M1=>∃x y,xs=[x,y]/\D.nx ((ρ.set i (some x)).set j (some y)) M1):DSt K (kG i j ta) ρ M D:=fun σ H E R k1 _ _ _=>
 h σ H _ R fun vs H1 xs M1 o1 s1 t1 h1=>by
   obtain⟨x,y,rfl,q⟩:=h1
   obtain⟨v,r,rfl,sx,s2⟩:=s1
   obtain⟨w,r',rfl,sy,s3⟩:=s2
   cases s3
   exact⟨v,w,rfl,k1 _ M1 _ H1 (((R.step o1 t1).set sx i).set sy j) t1 q⟩
end
end DL
namespace DL
open PySem PySem.Spec L2
inductive Deed where
 | put (x:Str) (p k:Int) | take (x:Str) | move (x:Str) (p:Int) | count (x:Str) (k:Int) | name (x y:Str) | split (x y:Str) (p k:Int) | join (x y:Str)
def Deed.d:Deed->PyData
 | .put x p k=>.tuple [.str (a0Q "put"),.str x,.int p,.int k]
 | .take x=>.tuple [.str (a0Q "take"),.str x]
 | .move x p=>.tuple [.str (a0Q "move"),.str x,.int p]
 | .count x k=>.tuple [.str (a0Q "count"),.str x,.int k]
 | .name x y=>.tuple [.str (a0Q "name"),.str x,.str y]
 | .split x y p k=>.tuple [.str (a0Q "split"),.str x,.str y,.int p,.int k]
 | .join x y=>.tuple [.str (a0Q "join"),.str x,.str y]
def Deed.names:Deed->List Str
 | .put x _ _=>[x] | .take x=>[x] | .move x _=>[x] | .count x _=>[x] | .name x y=>[x,y] | .split x y _ _=>[x,y] | .join x y=>[x,y]
def Deed.ok (D:Deed):Prop:=∀x∈D.names,AJ x
def KO:List (Str×Str):=[("put", "npk"),("take", "n"),("move", "np"),("count", "nk"),("name", "nn"),("split", "nnpk"),("join", "nn")]
def fX:PyData->PyData | .str z=>jH (KO.lookup z) | _=>.none
def dC (z:Str):Bool:=z == "name" || z == "split" || z == "join"
def MT:PyData->PyData | .tuple (.str w::r)=>.tuple (r.take (if dC w then 2 else 1)) | d=>d
theorem ZH {w f:Str}(h:KO.lookup w=some f):(w = "put" /\ f = "npk")∨(w = "take" /\ f = "n")∨(w = "move" /\ f = "np")∨(w = "count" /\ f = "nk")∨(w = "name" /\ f = "nn")∨(w = "split" /\ f = "nnpk")∨(w = "join" /\ f = "nn"):=by
 unfold KO at h
 simp only[a2X,List.lookup_nil] at h
 split at h
 · rename_i e;exact .inl ⟨eq_of_beq e,by injection h with h;exact h.symm⟩
 split at h
 · rename_i e;exact .inr (.inl ⟨eq_of_beq e,by injection h with h;exact h.symm⟩)
 split at h
 · rename_i e;exact .inr (.inr (.inl ⟨eq_of_beq e,by injection h with h;exact h.symm⟩))
 split at h
 · rename_i e;exact .inr (.inr (.inr (.inl ⟨eq_of_beq e,by injection h with h;exact h.symm⟩)))
 split at h
 · rename_i e;exact .inr (.inr (.inr (.inr (.inl ⟨eq_of_beq e,by injection h with h;exact h.symm⟩))))
 split at h
 · rename_i e;exact .inr (.inr (.inr (.inr (.inr (.inl ⟨eq_of_beq e,by injection h with h;exact h.symm⟩)))))
 split at h
 · rename_i e;exact .inr (.inr (.inr (.inr (.inr (.inr ⟨eq_of_beq e,by injection h with h;exact h.symm⟩)))))
 cases h
theorem TZ {w f:Str}(h:KO.lookup w=some f):f.cps.all (· < 128)=true/\f.cps.size<=4/\Txt.startswith f (a0Q "nn")=dC w/\(dC w=true->2<=f.cps.size/\f.cps[0]?=some 110/\f.cps[1]?=some 110)/\1<=f.cps.size:=by
 rcases ZH h with ⟨rfl,rfl⟩ | ⟨rfl,rfl⟩ | ⟨rfl,rfl⟩ | ⟨rfl,rfl⟩ | ⟨rfl,rfl⟩ | ⟨rfl,rfl⟩ | ⟨rfl,rfl⟩ <;> decide +kernel
def ZI (d:PyData):Prop:=∃w f r,d = .tuple (.str w::r)/\KO.lookup w=some f
theorem ZJ (D:Deed):ZI D.d:=by cases D <;> exact⟨_,_,_,rfl,rfl⟩
theorem RU (D:Deed):MT D.d = .tuple (D.names.map .str):=by cases D <;> rfl
def nmS:PyData->List Str | .tuple ds=>ds.map OR | _=>[]
def U0 (d:PyData):List Str:=nmS (MT d)
theorem RV (D:Deed):U0 D.d=D.names:=by
 unfold U0
 rw[RU]
 show(D.names.map a0W).map OR=_
 rw[zD]
 exact b4X _
def PU (d:PyData):Prop:=∃D:Deed,d=D.d/\D.ok
def K9:FSp:=fn1 (fun _=>True) fX
def IP:FSp:=fn1 ZI MT
def D6 (o:MO):Prop:=∃v:Int,o = .l [.int v]
def BM:FSp:=⟨fun xs M=>∃c:Int,xs=[.d (.int c)]/\xI c<=2 ^ 21,fun xs M y M'=>M'=M/\∃v:Int,y = .d (.int v)⟩
def B5:FSp:=⟨fun xs M=>∃p size o,xs=[.loc p,.d (.int size)]/\M p=some o/\D6 o/\0 < size/\size < 1073741824,
 fun xs M y M'=>∀p size,xs=[.loc p,.d (.int size)]->∃v o,y = .d (.int v)/\0<=v/\v < size/\D6 o/\M'=M.put p o⟩
theorem AW {p:Addr}{size:Int}{o:MO}{M:Own}{Q:DS->Own->Prop}(m:M p=some o) (ho:D6 o) (h0:0 < size) (h1:size < 1073741824) (q:∀v o',0<=v->v < size->D6 o'->Q (.d (.int v)) (M.put p o')) :
   [DS.loc p,.d (.int size)].length=2/\B5.pre [.loc p,.d (.int size)] M/\∀x M',B5.post [.loc p,.d (.int size)] M x M'->Q x M':=
 ⟨rfl,⟨p,size,o,rfl,m,ho,h0,h1⟩,fun x M' h=>by obtain⟨v,o',rfl,h2,h3,h4,rfl⟩:=h p size rfl;exact q v o' h2 h3 h4⟩
def L7:List Str:=["take", "name", "join"]
theorem KA {z:Str}(h:z∈L7):z.cps.toList=[116,97,107,101]∨z.cps.toList=[110,97,109,101]∨z.cps.toList=[106,111,105,110]:=by
 simp only[L7,yX,xW,or_false] at h
 rcases h with rfl | rfl | rfl
 · exact .inl (by decide +kernel)
 · exact .inr (.inl (by decide +kernel))
 · exact .inr (.inr (by decide +kernel))
def nxL (a:Nat):Nat:=if a=122 then 97 else a+1
def Run (l:List Nat):Prop:=∀i a b,l[i]?=some a->l[i+1]?=some b->b=nxL a
theorem Run.drop {l:List Nat}(h:Run l) (n:Nat):Run (l.drop n):=fun i a b h1 h2=>by
 rw[a8W] at h1 h2
 exact h (n+i) a b h1 (by rw[← Nat.add_assoc] at h2;exact h2)
theorem Run.take {l:List Nat}(h:Run l) (n:Nat):Run (l.take n):=fun i a b h1 h2=>by
 rw[List.getElem?_take] at h1 h2
 split at h1
 · split at h2
   · exact h i a b h1 h2
   · cases h2
 · cases h1
theorem dD {z:Str}{n c:Nat}(h:z.cps.toList=a4V n c):z∉L7:=fun hb=>by
 have key:∀a∈z.cps.toList,a=c:=fun a ha=>by rw[h] at ha;exact b6K ha
 rcases KA hb with e | e | e
 · rw[e] at key
   have h1:=key 116 (by simp);have h2:=key 97 (by simp);omega
 · rw[e] at key
   have h1:=key 110 (by simp);have h2:=key 97 (by simp);omega
 · rw[e] at key
   have h1:=key 106 (by simp);have h2:=key 111 (by simp);omega
theorem dE {z:Str}{c:Nat}{m:List Nat}(h:z.cps.toList=c::m) (hr:Run m):z∉L7:=fun hb=>by
 rcases KA hb with e | e | e
 · rw[e] at h;injection h with _ h;subst h
   exact absurd (hr 0 97 107 rfl rfl) (by decide)
 · rw[e] at h;injection h with _ h;subst h
   exact absurd (hr 0 97 109 rfl rfl) (by decide)
 · rw[e] at h;injection h with _ h;subst h
   exact absurd (hr 0 111 105 rfl rfl) (by decide)
theorem dF {z:Str}{c:Nat}{m:List Nat}(h:z.cps.toList=m++[c]) (hr:Run m):z∉L7:=fun hb=>by
 have hm:m=z.cps.toList.dropLast:=by rw[h];simp
 rcases KA hb with e | e | e
 · rw[e] at hm;subst hm
   exact absurd (hr 0 116 97 rfl rfl) (by decide)
 · rw[e] at hm;subst hm
   exact absurd (hr 0 110 97 rfl rfl) (by decide)
 · rw[e] at hm;subst hm
   exact absurd (hr 0 106 111 rfl rfl) (by decide)
def lP (l:List Nat):Bool:=(a1X l.length).all fun i=>match l[i]?,l[i+1]? with | some a,some b=>b==nxL a | _,_=>true
theorem jP {l:List Nat}(h:lP l=true):Run l:=fun i a b h1 h2=>by
 have hi:i < l.length:=(yT.mp h1).1
 have:=List.all_eq_true.mp h i (List.mem_range.mpr hi)
 rw[h1,h2] at this
 exact eq_of_beq this
theorem ZK:∀t,t < 26->lP ((a0Q "abcdefghijklmnopqrstuvwxyz").cps.toList.drop t++(a0Q "abcdefghijklmnopqrstuvwxyz").cps.toList.take t)=true:=by decide +kernel
def CS:FSp:=⟨fun xs M=>∃p n o,xs=[.loc p,.d (.int n)]/\M p=some o/\D6 o/\0<=n/\n<=26,
 fun xs M y M'=>∀p n,xs=[.loc p,.d (.int n)]->∃(ys:List Str) (o:MO),y = .d (.list (ys.map .str))/\(ys.length:Int)=n/\(∀z∈ys,AJ z)/\(∀z∈ys,z∉L7)/\ys.Nodup/\D6 o/\M'=M.put p o⟩
theorem U1 {p:Addr}{n:Int}{o:MO}{M:Own}{Q:DS->Own->Prop}(m:M p=some o) (ho:D6 o) (h0:0<=n) (h1:n<=26) (q:∀(ys:List Str) o',(ys.length:Int)=n->(∀z∈ys,AJ z)->(∀z∈ys,z∉L7)->ys.Nodup->D6 o'->Q (.d (.list (ys.map .str))) (M.put p o')) :
   [DS.loc p,.d (.int n)].length=2/\CS.pre [.loc p,.d (.int n)] M/\∀x M',CS.post [.loc p,.d (.int n)] M x M'->Q x M':=
 ⟨rfl,⟨p,n,o,rfl,m,ho,h0,h1⟩,fun x M' h=>by obtain⟨v,o',rfl,h2,h3,h4,h5,h6,rfl⟩:=h p n rfl;exact q v o' h2 h3 h4 h5 h6⟩
theorem IQ {c:Int}{M:Own}{Q:DS->Own->Prop}(h:xI c<=2 ^ 21) (q:∀v:Int,Q (.d (.int v)) M):[DS.d (.int c)].length=1/\BM.pre [.d (.int c)] M/\∀x M',BM.post [.d (.int c)] M x M'->Q x M':=
 ⟨rfl,⟨c,rfl,h⟩,fun x M' h=>by obtain⟨rfl,v,rfl⟩:=h;exact q v⟩
theorem AK {z:Str}(h:AJ z):zH (.str z)=true:=BV (BL h) (by simp[a2V])
def Deed.word:Deed->Str
 | .put .. => "put" | .take .. => "take" | .move .. => "move" | .count .. => "count" | .name .. => "name" | .split .. => "split" | .join .. => "join"
def Deed.fst:Deed->Str
 | .put x _ _=>x | .take x=>x | .move x _=>x | .count x _=>x | .name x _=>x | .split x _ _ _=>x | .join x _=>x
def Deed.rest:Deed->List PyData
 | .put _ p k=>[.int p,.int k] | .take _=>[] | .move _ p=>[.int p] | .count _ k=>[.int k] | .name _ y=>[.str y] | .split _ y p k=>[.str y,.int p,.int k] | .join _ y=>[.str y]
theorem Deed.d_eq (D:Deed):D.d = .tuple (.str D.word::.str D.fst::D.rest):=by cases D <;> rfl
theorem Deed.word_ok (D:Deed):zH (.str D.word)=true:=by cases D <;> (simp only[Deed.word];decide +kernel)
theorem CF (a b:Str):a0X (.str a) (.str b)=(a==b):=by simp[a0X]
theorem GU {ss:List Str}(h:∀s∈ss,PyData.strOk s=true):zH (.list (ss.map .str))=true:=by
 refine BV (FR fun d hd=>?_) ?_
 · obtain⟨y,h1,rfl⟩:=zL.mp hd
   exact h y h1
 · have:a1J (ss.map a0W)<=0:=MH fun d hd=>by
     obtain⟨y,h1,rfl⟩:=zL.mp hd
     exact zR 0
   simp only[a2V];omega
theorem LQ {ys:List Str}{v:Int}(h0:0<=v) (h1:v < ys.length):∃y,atI (ys.map a0W) v=some (.str y)/\y∈ys:=by
 obtain⟨n,rfl⟩:∃n:Nat,v=(n:Int):=⟨v.toNat,by omega⟩
 have hn:n < ys.length:=by omega
 exact⟨ys[n],AD (by rw[zF,zV hn];rfl),b2V hn⟩
def nmA (R:Str):PyData->PyData
 | .int i=>match atI R.cps.toList (i/8) with | some c=>.str (L6 ⟨#[c]⟩ (1+i % 8)) | none=>.none
 | d=>d
def nmB (R t:Str):PyData->PyData
 | .int i=>match atI R.cps.toList i with | some c=>.str (⟨#[c]⟩++t) | none=>.none
 | d=>d
def nmC (R t:Str):PyData->PyData
 | .int i=>match atI R.cps.toList i with | some c=>.str (t++⟨#[c]⟩) | none=>.none
 | d=>d
theorem PV {R:Str}{i:Int}{c:Nat}(h:atI R.cps.toList (i/8)=some c):nmA R (.int i) = .str (L6 ⟨#[c]⟩ (1+i % 8)):=by simp only[nmA,h]
theorem PX {R t:Str}{i:Int}{c:Nat}(h:atI R.cps.toList i=some c):nmB R t (.int i) = .str (⟨#[c]⟩++t):=by simp only[nmB,h]
theorem PY {R t:Str}{i:Int}{c:Nat}(h:atI R.cps.toList i=some c):nmC R t (.int i) = .str (t++⟨#[c]⟩):=by simp only[nmC,h]
def RW:FSp:=⟨fun xs M=>∃ns:List Int,xs=[.d (.list (ns.map .int))]/\ns.length<=63/\∀i∈ns,xI i<=2 ^ 20,fun xs M y M'=>y = .d (.bool true)⟩
theorem MU {R:List Nat}(h:R.Nodup) {i j:Nat}{c:Nat}(h1:atI R (i:Int)=some c) (h2:atI R (j:Int)=some c) (hi:i < R.length) (hj:j < R.length):i=j:=by
 have e1:atI R (i:Int)=some R[i]:=AD (zV hi)
 have e2:atI R (j:Int)=some R[j]:=AD (zV hj)
 rw[e1] at h1
 rw[e2] at h2
 have:R[i]=R[j]:=by rw[Option.some.inj h1,Option.some.inj h2]
 exact(List.getElem_inj h).mp this
theorem nodup_range {N:Nat}{f:Nat->Str}(h:∀i j,i < N->j < N->f i=f j->i=j):((a1X N).map f).Nodup:=by
 unfold List.Nodup
 rw[b1W]
 exact(List.nodup_range (n:=N)).imp_of_mem fun {a b} ha hb hab e=>hab (h a b (List.mem_range.mp ha) (List.mem_range.mp hb) e)
theorem X0 (t:Nat):((a0Q "abcdefghijklmnopqrstuvwxyz").cps.toList.drop t++(a0Q "abcdefghijklmnopqrstuvwxyz").cps.toList.take t).Nodup:=by
 have h:((a0Q "abcdefghijklmnopqrstuvwxyz").cps.toList.drop t++(a0Q "abcdefghijklmnopqrstuvwxyz").cps.toList.take t).Perm (a0Q "abcdefghijklmnopqrstuvwxyz").cps.toList:=by
   refine List.perm_append_comm.trans ?_
   rw[List.take_append_drop]
 exact h.nodup_iff.mpr TF
theorem ZL {c d:Nat}{t:Str}(h:(⟨#[c]⟩:Str)++t=⟨#[d]⟩++t):c=d:=by
 have:=congrArg (fun s:Str=>s.cps.toList) h
 simp only[AQ] at this
 have:=List.append_cancel_right this
 simpa using this
theorem ZM {c d:Nat}{t:Str}(h:t++(⟨#[c]⟩:Str)=t++⟨#[d]⟩):c=d:=by
 have:=congrArg (fun s:Str=>s.cps.toList) h
 simp only[AQ] at this
 have:=List.append_cancel_left this
 simpa using this
theorem dG {c d:Nat}{m n:Int}(hm:1<=m) (hn:1<=n) (h:L6 ⟨#[c]⟩ m=L6 ⟨#[d]⟩ n):c=d/\m=n:=by
 have:=congrArg (fun s:Str=>s.cps.toList) h
 simp only[PP hm,PP hn] at this
 have hl:=congrArg b7Z this
 rw[a9Z,a9Z] at hl
 have hmn:m=n:=by omega
 refine⟨?_,hmn⟩
 subst hmn
 have hc:c∈a4V m.toNat d:=by rw[← this];exact List.mem_replicate.mpr ⟨by omega,rfl⟩
 exact b6K hc
end DL
namespace DL
open PySem PySem.Spec L2
def OV:PyData->PyData
 | .tuple (.str w::r)=>if w == "put" then r.getD 0 .none else if w == "name" || w == "split" then r.getD 1 .none else .none
 | _=>.none
def ZN:PyData->PyData
 | .tuple (.str w::r)=>if w == "take" || w == "name" then r.getD 0 .none else if w == "join" then r.getD 1 .none else .none
 | _=>.none
def HI:FSp:=fn1 PU OV
def FV:FSp:=fn1 PU ZN
def RX (d:PyData):List Str:=(U0 d).filter fun n=>!a0X (.str n) (OV d)
def FW:FSp:=fn1 PU fun d=>.tuple ((RX d).map .str)
def Deed.isPut:Deed->Bool | .put ..=>true | _=>false
def Deed.isNS:Deed->Bool | .name ..=>true | .split ..=>true | _=>false
def Deed.isTN:Deed->Bool | .take ..=>true | .name ..=>true | _=>false
def Deed.isJoin:Deed->Bool | .join ..=>true | _=>false
theorem ZO (D:Deed):(D.word==a0Q "put")=D.isPut:=by cases D <;> (simp only[Deed.word,Deed.isPut];decide +kernel)
theorem X1 (D:Deed):(D.word==a0Q "join")=D.isJoin:=by cases D <;> (simp only[Deed.word,Deed.isJoin];decide +kernel)
theorem lQ (w a b:Str):decide (w∈[a,b])=(w==a||w==b):=by rw[b4J];simp
theorem dH (D:Deed):(D.word==a0Q "name" || D.word==a0Q "split")=D.isNS:=by cases D <;> (simp only[Deed.word,Deed.isNS];decide +kernel)
theorem dI (D:Deed):(D.word==a0Q "take" || D.word==a0Q "name")=D.isTN:=by cases D <;> (simp only[Deed.word,Deed.isTN];decide +kernel)
theorem dJ {D:Deed}(h:D.ok):zH (OV D.d)=true:=by
 cases D with
 | put x p k=>exact AK (h x (by simp[Deed.names]))
 | name x y=>exact AK (h y (by simp[Deed.names]))
 | split x y p k=>exact AK (h y (by simp[Deed.names]))
 | _=>rfl
end DL
namespace DL
open PySem PySem.Spec L2
def Deed.made:Deed->Option Str | .put x _ _=>some x | .name _ y=>some y | .split _ y _ _=>some y | _=>none
def Deed.apart:Deed->Prop | .name x y=>x≠y | .split x y _ _=>x≠y | .join x y=>x≠y | _=>True
def Deed.placed:Deed->Prop | .put _ p _=>0<=p/\p<=999 | .move _ p=>0<=p/\p<=999 | .split _ _ p _=>0<=p/\p<=999 | _=>True
def Deed.real (D:Deed):Prop:=D.ok/\D.apart/\D.placed
theorem CN {D:Deed}(h:D.real):PU D.d:=⟨D,rfl,h.1⟩
def F0 (ns:List Str) (D:Deed):Option Str:=D.names.find? fun n=>decide (n∈ns)==decide (D.made=some n)
theorem RY {ns:List Str}{D:Deed}(h:F0 ns D=none):∀n∈D.names,(n∈ns)↔¬D.made=some n:=fun n hn=>by
 have:=List.find?_eq_none.mp h n hn
 by_cases h1:n∈ns <;> by_cases h2:D.made=some n <;> simp_all
theorem dL (D:Deed):OV D.d=match D.made with | some x=>.str x | none=>.none:=by cases D <;> rfl
theorem dM {t u:Th}(h:thD t=thD u):t=u:=by
 obtain⟨a,b,c⟩:=t
 obtain⟨a',b',c'⟩:=u
 simp only[thD,PyData.tuple.injEq,List.cons.injEq,PyData.str.injEq,PyData.int.injEq,and_true] at h
 obtain⟨rfl,rfl,rfl⟩:=h
 rfl
theorem KP:∀{v w:List Th},v.map thD=w.map thD->v=w
 | [],[],_=>rfl
 | [],_::_,h=>by simp at h
 | _::_,[],h=>by simp at h
 | a::v,b::w,h=>by
   rw[zI,zI,List.cons.injEq] at h
   rw[dM h.1,KP h.2]
theorem jQ {v w:List Th}(h:wD v=wD w):v=w:=KP (by unfold wD at h;exact PyData.tuple.inj h)
theorem GV {D E:Deed}(h:D.d=E.d):D=E:=by
 cases D <;> cases E <;> simp only[Deed.d,PyData.tuple.injEq,List.cons.injEq,PyData.str.injEq,PyData.int.injEq,and_true,true_and,reduceCtorEq,and_false,false_and,List.nil_eq] at h <;>
   first
   | (obtain⟨_,h⟩:=h;first | (obtain⟨rfl,rfl,rfl,rfl⟩:=h;rfl) | (obtain⟨rfl,rfl,rfl⟩:=h;rfl) | (obtain⟨rfl,rfl⟩:=h;rfl) | (subst h;rfl))
   | (obtain⟨rfl,rfl,rfl,rfl⟩:=h;rfl) | (obtain⟨rfl,rfl,rfl⟩:=h;rfl) | (obtain⟨rfl,rfl⟩:=h;rfl) | (subst h;rfl)
   | exact absurd h.1 (by decide +kernel)
end DL
namespace DL
open PySem PySem.Spec L2
theorem ZP (ds:List PyData):(ds.filter fun _=>true)=ds:=List.filter_eq_self.mpr (by simp)
def CL (ns:List Str):Deed->List Str
 | .put x _ _=>ns++[x]
 | .take x=>ns.filter fun n=>decide (n≠x)
 | .move _ _=>ns
 | .count _ _=>ns
 | .name x y=>(ns.filter fun n=>decide (n≠x))++[y]
 | .split _ y _ _=>ns++[y]
 | .join _ y=>ns.filter fun n=>decide (n≠y)
theorem ZQ {ns:List Str}{D:Deed}(ha:F0 ns D=none) {n:Str}(hn:n∈D.names) (hm:D.made≠some n):n∈ns:=(RY ha n hn).mpr hm
end DL
namespace DL
open PySem PySem.Spec L2
def fY (w:List Th):Prop:=Ris (w.map (·.1))/\∀t∈w,AJ t.1/\0<=t.2.1/\t.2.1<=999
theorem DQ {ns:List Str}{D:Deed}(h:∀n∈D.names,(n∈ns)↔¬D.made=some n):F0 ns D=none:=by
 unfold F0
 rw[List.find?_eq_none]
 intro n hn
 have:=h n hn
 by_cases h1:n∈ns <;> by_cases h2:D.made=some n <;> simp_all
end DL
namespace L2
open PySem PySem.Spec PyProof.Rows
theorem KQ (ns:List Int):∀k,k<=ns.length->preSum (fun i=>ns.getD i 0) k=(ns.take k).sum
 | 0,_=>by simp[preSum]
 | k+1,h=>by
   show preSum _ k+ns.getD k 0=_
   have e:ns.take (k+1)=ns.take k++[ns.getD k 0]:=by
     rw[a7Z,yU,zV (by omega)];rfl
   rw[KQ ns k (by omega),e,List.sum_append]
   simp
def jR (K:Frg):List V->Hp->VK->Prop:=fun xs H Q=>∃(p:Addr) (ns:List Int),xs=[.ref p]/\SqL K H p (ns.map V.int)/\Q (.int ns.sum) H
theorem MV:∀{ns:List Int}{its:List Value},Vals (ns.map V.int) its->its.length=ns.length/\∀(i:Nat) v,its[i]?=some v->∃t,v=b8Q (ns.getD i 0) t
 | [],_,.nil=>⟨rfl,fun i v h=>by simp at h⟩
 | n::ns,_,.cons r t=>by
   obtain⟨h1,h2⟩:=MV t
   refine⟨by simp[h1],fun i v h=>?_⟩
   cases i with
   | zero=>simp at h;subst h;exact r
   | succ i=>exact h2 i v (by simpa using h)
theorem ZR {X:Cx}(hc:X.calm=true):BO X (.builtin "sum") (jR X.K):=by
 intro pins s σ H xs us Q I r h
 obtain⟨p,ns,rfl,hp,q⟩:=h
 obtain⟨u,rfl,ru⟩:=G6 r
 cases ru
 obtain⟨its,rv,pl,_⟩:=I.list hp
 obtain⟨hl,hv⟩:=MV rv
 have hlist:=pl.isList
 have hlt:p < s.heap.objs.size:=by obtain⟨_,e,_⟩:=hlist;exact zM e
 refine call_sum_walkAnyS ?_
 refine wpAny_pyIter_list hlist ⟨s.heap.objs.size,_,_,_,its.toArray.size,fun i v=>its.toArray[i]?=some v,_,fun i=>ns.getD i 0,rfl,(Walks.list (A:=X.A.in1) (I.ok.hd hc) _ _ (zC hlt) its.toArray).toS,⟨⟨_,yZ _ rfl,rfl,rfl⟩,hlist.push _⟩,fun b hb=>?_,fun i v e=>hv i v (by simpa using e),fun s' t' hm=>?_⟩
 · show b < (s.heap.push _).objs.size
   rw[b0Q]
   rcases yX.mp hb with e | hb
   · rw[e];exact Nat.lt_succ_self _
   · rw[List.mem_singleton.mp hb];exact Nat.lt_succ_of_lt hlt
 · have hk:∀b o,s.heap.get? b=some o->s'.heap.get? b=some o:=fun b o e=>
     hm.heap b o (fun hI=>absurd (zM e) (by rw[List.mem_singleton.mp hI];exact yF _)) (zW _ e)
   rw[Moved.eq_with hm]
   have es:preSum (fun i=>ns.getD i 0) its.toArray.size=ns.sum:=by
     rw[zJ,hl,KQ ns _ (zR _),List.take_length]
   rw[es]
   exact⟨.int ns.sum,H,I.kept (h':=s'.heap) (t':=s'.toks) hk,⟨t',rfl⟩,q⟩
end L2
namespace DL
open PySem PySem.Spec L2
theorem mK {X:Cx}{K:Frg}(h:X.K=K) (hc:X.calm=true):BO X (.builtin "sum") (jR K):=h▸ZR hc
section
variable {K:Frg}{M:Own}{Q:DS->Own->Prop}{H:Hp}
theorem RZ {W:Addr->Prop}:∀{ns:List Int}{vs:List V},DVs K H W (ns.map a8V) vs->vs=ns.map V.int
 | [],vs,h=>by unfold DVs at h;subst h;rfl
 | n::ns,vs,h=>by
   rw[zI] at h
   unfold DVs at h
   obtain⟨v,r,rfl,h1,h2⟩:=h
   unfold DV at h1
   rw[h1,RZ h2];rfl
theorem ZS {ns:List Int}(q:Q (.d (.int ns.sum)) M):DR K (jR K) [.d (.list (ns.map .int))] M Q:=fun H vs QQ oa s k=>by
 obtain⟨v,r,rfl,h1,h2⟩:=s
 cases h2
 unfold SI DV at h1
 obtain⟨a,vs,rfl,hl,hd⟩:=h1
 have e:=RZ hd
 subst e
 exact⟨a,ns,rfl,hl.sq,k _ H (.d (.int ns.sum)) M oa BS Step.refl q⟩
end
end DL
namespace DL
open PySem PySem.Spec L2
def BX (sp:List Str) (D:Deed):List Str:=match D.made with | some _=>sp.drop 1 | none=>sp
theorem FB {so sp:List Str}{D:Deed}(h:∀n,D.made=some n->sp.head?=some n):(CL so D++BX sp D).Sublist (so++sp):=by
 have hd:∀n,D.made=some n->sp=n::sp.drop 1:=fun n e=>by
   have:=h n e
   cases sp with
   | nil=>simp at this
   | cons a r=>simp at this;subst this;rfl
 cases D with
 | put x p k=>
   show((so++[x])++sp.drop 1).Sublist _
   conv=>rhs;rw[hd x rfl]
   rw[b2Q]
   exact a4X _
 | take x=>exact(List.filter_sublist).append (a4X _)
 | move x p=>exact a4X _
 | count x k=>exact a4X _
 | name x y=>
   show(((so.filter fun n=>decide (n≠x))++[y])++sp.drop 1).Sublist _
   conv=>rhs;rw[hd y rfl]
   rw[b2Q]
   exact List.filter_sublist.append (a4X _)
 | split x y p k=>
   show((so++[y])++sp.drop 1).Sublist _
   conv=>rhs;rw[hd y rfl]
   rw[b2Q]
   exact a4X _
 | join x y=>exact(List.filter_sublist).append (a4X _)
def namesOK (ys:List Str):Prop:=(∀z∈ys,AJ z)/\ys.Nodup/\ys.length<=26
theorem namesOK.sub {as bs:List Str}(h:namesOK bs) (s:as.Sublist bs):namesOK as:=⟨fun z hz=>h.1 z (s.subset hz),h.2.1.sublist s,zN s.length_le h.2.2⟩
def AN (ys:List Str):PyData:=.list (ys.map .str)
def DU:FSp:=⟨fun xs M=>∃(p:Addr) (o:MO) (so sp:List Str),xs=[.loc p,.d (AN so),.d (AN sp)]/\M p=some o/\D6 o/\namesOK (so++sp)/\(so≠[]∨sp≠[]),
 fun xs M y M'=>∀(p:Addr) (so sp:List Str),xs=[.loc p,.d (AN so),.d (AN sp)]->∃(D:Deed) (o:MO),y = .d D.d/\D.real/\F0 so D=none/\(∀n,D.made=some n->sp.head?=some n)/\D6 o/\M'=M.put p o⟩
theorem MW {p:Addr}{o:MO}{so sp:List Str}{M:Own}{Q:DS->Own->Prop}(m:M p=some o) (ho:D6 o) (hn:namesOK (so++sp)) (he:so≠[]∨sp≠[]) (q:∀(D:Deed) (o':MO),D.real->F0 so D=none->(∀n,D.made=some n->sp.head?=some n)->D6 o'->Q (.d D.d) (M.put p o')) :
   [DS.loc p,.d (AN so),.d (AN sp)].length=3/\DU.pre [.loc p,.d (AN so),.d (AN sp)] M/\∀x M',DU.post [.loc p,.d (AN so),.d (AN sp)] M x M'->Q x M':=
 ⟨rfl,⟨p,o,so,sp,rfl,m,ho,hn,he⟩,fun x M' h=>by obtain⟨D,o',rfl,h1,h2,h3,h4,rfl⟩:=h p so sp rfl;exact q D o' h1 h2 h3 h4⟩
def CT:FSp:=⟨fun xs M=>∃(D:Deed) (so sp:List Str),xs=[.d D.d,.d (AN so),.d (AN sp)]/\D.real/\namesOK (so++sp)/\F0 so D=none,
 fun xs M y M'=>∀(D:Deed) (so sp:List Str),xs=[.d D.d,.d (AN so),.d (AN sp)]->y = .d (.tuple [AN (CL so D),AN (BX sp D)])/\M'=M⟩
theorem MX {D:Deed}{so sp:List Str}{M:Own}{Q:DS->Own->Prop}(hr:D.real) (hn:namesOK (so++sp)) (ha:F0 so D=none) (q:Q (.d (.tuple [AN (CL so D),AN (BX sp D)])) M) :
   [DS.d D.d,.d (AN so),.d (AN sp)].length=3/\CT.pre [.d D.d,.d (AN so),.d (AN sp)] M/\∀x M',CT.post [.d D.d,.d (AN so),.d (AN sp)] M x M'->Q x M':=
 ⟨rfl,⟨D,so,sp,rfl,hr,hn,ha⟩,fun x M' h=>by obtain⟨rfl,rfl⟩:=h D so sp rfl;exact q⟩
def CU:FSp:=⟨fun xs M=>∃(p:Addr) (o:MO) (ys:List Str) (n:Nat),xs=[.loc p,.d (AN ys),.d (.int n)]/\M p=some o/\D6 o/\namesOK ys/\n<=ys.length,
 fun xs M y M'=>∀(p:Addr) (ys:List Str) (n:Nat),xs=[.loc p,.d (AN ys),.d (.int n)]->∃(w:List Th) (o:MO),y = .d (wD w)/\fY w/\(w.map (·.1)).Perm (ys.take n)/\D6 o/\M'=M.put p o⟩
theorem U2 {p:Addr}{o:MO}{ys:List Str}{n:Nat}{M:Own}{Q:DS->Own->Prop}(m:M p=some o) (ho:D6 o) (hy:namesOK ys) (hn:n<=ys.length) (q:∀(w:List Th) (o':MO),fY w->(w.map (·.1)).Perm (ys.take n)->D6 o'->Q (.d (wD w)) (M.put p o')) :
   [DS.loc p,.d (AN ys),.d (.int n)].length=3/\CU.pre [.loc p,.d (AN ys),.d (.int n)] M/\∀x M',CU.post [.loc p,.d (AN ys),.d (.int n)] M x M'->Q x M':=
 ⟨rfl,⟨p,o,ys,n,rfl,m,ho,hy,hn⟩,fun x M' h=>by obtain⟨w,o',rfl,h1,h2,h3,rfl⟩:=h p ys n rfl;exact q w o' h1 h2 h3⟩
def AF (l:Str×Deed):PyData:=.tuple [.str l.1,l.2.d]
def AL (w:List Th) (ls:List (Str×Deed)):PyData:=.tuple [wD w,.tuple (ls.map AF)]
def FX:List Str:=["put", "move", "count", "name", "split", "join", "take", "count", "split"]
theorem X2:∀k∈FX,PyData.strOk k=true:=by decide +kernel
theorem FC {k:Str}(h:k∈FX):zH (.str k)=true:=BV (X2 k h) (by simp[a2V])
theorem CV {ys:List Str}(h:∀z∈ys,AJ z):zH (AN ys)=true:=GU fun z hz=>BL (h z hz)
theorem CB (ys:List Str):a0X (AN ys) (.list [])=ys.isEmpty:=L5 ys
theorem DB {ys:List Str}{y:Str}:((ys.map a0W).filter fun d=>!a0X d (.str y)).map id=(ys.filter fun z=>decide (z≠y)).map .str:=by
 rw[b4X,xT]
 congr 1
 apply List.filter_congr
 intro z _
 show(!a0X (.str z) (.str y))=_
 rw[CF]
 by_cases e:z=y <;> simp[e]
theorem EK {as bs:List Str}(h:AN as=AN bs):as=bs:=RF (by unfold AN at h;exact PyData.list.inj h)
theorem EO {p p':Addr}{so so' sp sp':List Str}(e:[DS.loc p,.d (AN so),.d (AN sp)]=[.loc p',.d (AN so'),.d (AN sp')]):p=p'/\so=so'/\sp=sp':=by
 simp only[List.cons.injEq,DS.loc.injEq,DS.d.injEq,and_true] at e
 exact⟨e.1,EK e.2.1,EK e.2.2⟩
theorem FY {D D':Deed}{so so' sp sp':List Str}(e:[DS.d D.d,.d (AN so),.d (AN sp)]=[.d D'.d,.d (AN so'),.d (AN sp')]):D=D'/\so=so'/\sp=sp':=by
 simp only[List.cons.injEq,DS.d.injEq,and_true] at e
 exact⟨GV e.1,EK e.2.1,EK e.2.2⟩
theorem VG {ys:List Str}(h:∀z∈ys,AJ z):(ys.filter fun z=>decide (z≠a0Q ""))=ys:=List.filter_eq_self.mpr fun z hz=>by
 have:=(h z hz).1
 simp
 intro e
 rw[e] at this
 exact absurd this (by decide +kernel)
def wB2 (t:Th):Str×List PyData:=(t.1,[.int t.2.1,.int t.2.2])
def unB (u:Str×List PyData):Th:=match u with | (a,[.int p,.int c])=>(a,p,c) | (a,_)=>(a,0,0)
theorem ZT (w:List Th):(w.map wB2).map K8=w.map thD:=by rw[zD];rfl
theorem ZU {ts:List (Str×List PyData)}{w:List Th}(h:ts.Perm (w.map wB2)):(ts.map unB).Perm w/\ts.map K8=(ts.map unB).map thD/\(ts.map unB).map (·.1)=ts.map (·.1):=by
 have e:(w.map wB2).map unB=w:=by rw[zD];exact b4X _
 refine⟨by have:=h.map unB;rw[e] at this;exact this,?_,?_⟩
 · rw[zD]
   apply yM
   intro u hu
   obtain⟨t,_,rfl⟩:=zL.mp (h.mem_iff.mp hu)
   rfl
 · rw[zD]
   apply yM
   intro u hu
   obtain⟨t,_,rfl⟩:=zL.mp (h.mem_iff.mp hu)
   rfl
theorem U3 {ts:List (Str×List PyData)}(h:ts.Pairwise fun x y=>x.1.cps.toList < y.1.cps.toList):Ris (ts.map (·.1)):=by
 unfold Ris
 rw[b1W]
 exact h.imp fun {a b} q=>by rw[← lK];exact decide_eq_true q
theorem S0:∀z∈[a0Q "me", "you", "abcdefgh"],AJ z:=by
 intro z hz
 simp only[yX,xW,or_false] at hz
 rcases hz with rfl | rfl | rfl <;> (refine⟨by decide +kernel,by decide +kernel,?_⟩;decide +kernel)
theorem X3:xI 915965594177219015054603514932384110774149374281672134266497<=256:=by decide +kernel
theorem dN {c:Int}(h:xI c<=2 ^ 21):IntMulOk c 915965594177219015054603514932384110774149374281672134266497:=PySem.IntMulOk.of_le h X3 (by decide)
end DL
namespace DL
open PySem PySem.Spec L2
section
variable {K:Frg}{M:Own}{Q:DS->Own->Prop}{H:Hp}
theorem GW {W:Addr->Prop}:∀{bs:List Int},DVs K H W (bs.map a8V) (bs.map V.int)
 | []=>DVs.nil
 | b::bs=>DVs.cons (by unfold DV;rfl) GW
end
end DL
namespace L2
open PySem PySem.Spec PyProof.Rows
section
variable {X:Cx}
def X4 (K:Frg) (neg:Bool):R2:=fun x y H Q=>∃(W:Addr->Prop) (d:PyData) (ds:List PyData),DV K H W d x/\zH d=true/\((DV K H W (.list ds) y/\zH (.list ds)=true)∨(DV K H W (.tuple ds) y/\zH (.tuple ds)=true)) /\
 Q (.bl (if neg then !(ds.any fun e=>a0X e d) else ds.any fun e=>a0X e d)) H
theorem MY {A:Around}{d:PyData}{ds:List PyData}(hu:A.units+64 < cLine) (h:a1J ds+1<=64):A.units+1+min (a1J ds) d.depth < cLine:=by
 have:=Nat.min_le_left (a1J ds) d.depth
 omega
theorem jS (hu:X.A.units+64 < cLine):OpR X (compareOp .In) (X4 X.K false):=by
 intro pins s σ H x y v u Q I rx ry h
 obtain⟨W,d,ds,h1,s1,⟨h2,s2⟩ | ⟨h2,s2⟩,q⟩:=h
 all_goals
   obtain⟨as,r1⟩:=h1.reads I (zG s1) rx
   obtain⟨bs,r2⟩:=h2.reads I (zG s2) ry
   have dep:=b2J s2
 · exact PySem.SeqAt.in_list_reads r2 r1 (zG s2) (zG s1) (MY hu dep) ⟨.bl _,H,I,rfl,q⟩
 · exact PySem.SeqAt.in_tuple_reads r2 r1 (zG s2) (zG s1) (MY hu dep) ⟨.bl _,H,I,rfl,q⟩
theorem X5 (hu:X.A.units+64 < cLine):OpR X (compareOp .NotIn) (X4 X.K true):=by
 intro pins s σ H x y v u Q I rx ry h
 obtain⟨W,d,ds,h1,s1,⟨h2,s2⟩ | ⟨h2,s2⟩,q⟩:=h
 all_goals
   obtain⟨as,r1⟩:=h1.reads I (zG s1) rx
   obtain⟨bs,r2⟩:=h2.reads I (zG s2) ry
   have dep:=b2J s2
 · exact PySem.SeqAt.notIn_list_reads r2 r1 (zG s2) (zG s1) (MY hu dep) ⟨.bl _,H,I,rfl,q⟩
 · exact PySem.SeqAt.notIn_tuple_reads r2 r1 (zG s2) (zG s1) (MY hu dep) ⟨.bl _,H,I,rfl,q⟩
end
end L2
namespace DL
open PySem PySem.Spec L2
section
variable {X:Cx}{K:Frg}
theorem lR (h:X.K=K) (hu:X.A.units+64 < cLine):OpR X (compareOp .In) (X4 K false):=h▸jS hu
theorem VH (h:X.K=K) (hu:X.A.units+64 < cLine):OpR X (compareOp .NotIn) (X4 K true):=h▸X5 hu
end
section
variable {K:Frg}{M:Own}{ρ:List (Option DS)}{g:TG}{wi:TI}{Q:DS->Own->Prop}
theorem ZV {neg:Bool}{d:PyData}{ds:List PyData}(s1:zH d=true) (s2:zH (.list ds)=true) (q:Q (.d (.bool (if neg then !(ds.any fun e=>a0X e d) else ds.any fun e=>a0X e d))) M):D2 K (X4 K neg) (.d d) (.d (.list ds)) M Q:=fun H v u QQ oa h1 h2 k=>
 ⟨M.W,d,ds,h1,s1,.inl ⟨h2,s2⟩,k _ H _ M oa AM Step.refl q⟩
end
end DL
namespace L2
open PySem PySem.Spec PyProof.Rows
def ZW (K:Frg):V->List V->Hp->VK->Prop:=fun x xs H Q=>∃(W:Addr->Prop) (d:PyData) (ds:List PyData) (y:V) (j:Nat),xs=[y]/\DV K H W (.list ds) x/\zH (.list ds)=true/\DV K H W d y/\zH d=true/\ds.findIdx? (fun e=>a0X e d)=some j/\j < 1000000/\Q (.int (j:Nat)) H
theorem dO {X:Cx}(hu:X.A.units+64 < cLine):MtR X "list.index" (ZW X.K):=by
 intro pins s σ H v vs v' us Q I rx rv h
 obtain⟨W,d,ds,y,j,rfl,h2,s2,h1,s1,hj,hsm,q⟩:=h
 obtain⟨u,rfl,ru⟩:=G6 rv
 obtain⟨as,r1⟩:=h1.reads I (zG s1) ru
 obtain⟨bs,r2⟩:=h2.reads I (zG s2) rx
 have dep:=b2J s2
 have c2:=zG s2
 cases r2 with
 | @list l o items n _ _ g1 g2 g3 g4=>
   obtain⟨cls,dd,data,sl⟩:=o
   simp only at g2 g3
   subst g2 g3
   have hm:=PySem.SeqAt.readsAll_map ds _ _ c2 g4
   obtain⟨hlt,hit,hno⟩:=List.findIdx?_eq_some_iff_getElem.mp hj
   have hsz:items.size=ds.length:=by rw[← hm,zX,a3V]
   have key:∀m (hm':m < items.size),a0X (a9V s.heap items[m]) d=a0X (ds[m]'(by omega)) d:=fun m hm'=>by
     have:ds[m]'(by omega)=a9V s.heap items[m]:=by
       simp only[← hm,List.getElem_map,Array.getElem_toList]
     rw[this]
   refine call_meets PySem.F.slot_list_index ⟨_,g1,rfl⟩ PySem.F.entry_list_index (PySem.F.args_list_index_2 _ _)
     (PySem.SeqAt.list_indexAt l items n dd sl u (fun y=>a0X (a9V s.heap y) d) j (by omega) (by omega) ?_ ?_) ⟨g1,PySem.SeqAt.items_eqAt g4 r1 c2 (zG s1) (MY hu dep),.int (j:Nat),H,I.tok _,⟨_,rfl⟩,q⟩
   · show a0X (a9V s.heap items[j]) d=true
     rw[key j (by omega)];exact hit
   · intro m hm' hlt'
     show a0X (a9V s.heap items[m]) d=false
     rw[key m hm'];simpa using hno m hlt'
end L2
namespace DL
open PySem PySem.Spec L2
theorem lS {X:Cx}{K:Frg}(h:X.K=K) (hu:X.A.units+64 < cLine):MtR X "list.index" (ZW K):=h▸dO hu
section
variable {K:Frg}{M:Own}{Q:DS->Own->Prop}{H:Hp}
theorem ZX {ds:List PyData}:DTy K "list" (.d (.list ds)) M:=fun H v _ s=>by
 unfold SI DV at s
 obtain⟨a,vs,rfl,hl,hd⟩:=s
 exact .inl ⟨rfl,vs,hl.sq⟩
theorem dP {ds:List PyData}{d:PyData}{j:Nat}(s2:zH (.list ds)=true) (s1:zH d=true) (hj:ds.findIdx? (fun e=>a0X e d)=some j) (hs:j < 1000000) (q:Q (.d (.int (j:Nat))) M):DM K (ZW K) (.d (.list ds)) [.d d] M Q:=fun H v vs QQ oa h1 h2 k=>by
 obtain⟨v2,r,rfl,h3,h4⟩:=h2
 cases h4
 exact⟨M.W,d,ds,v2,j,rfl,h1,s2,h3,s1,hj,hs,k _ H _ M oa BS Step.refl q⟩
end
end DL
namespace DL
open PySem PySem.Spec L2
def EL:List Str->List Str->List Deed->Prop
 | _,_,[]=>True
 | so,sp,D::r=>F0 so D=none/\(∀n,D.made=some n->sp.head?=some n)/\D.real/\EL (CL so D) (BX sp D) r
def KR:List Str->List Str->List Deed->List Str×List Str
 | so,sp,[]=>(so,sp)
 | so,sp,D::r=>KR (CL so D) (BX sp D) r
theorem IR:∀{Ds:List Deed}{so sp so' sp':List Str}{D:Deed},EL so sp Ds->KR so sp Ds=(so',sp')->F0 so' D=none->(∀n,D.made=some n->sp'.head?=some n)->D.real->EL so sp (Ds++[D])/\KR so sp (Ds++[D])=(CL so' D,BX sp' D)
 | [],so,sp,so',sp',D,_,e,h1,h2,h3=>by
   cases e
   exact⟨⟨h1,h2,h3,trivial⟩,rfl⟩
 | F::r,so,sp,so',sp',D,h,e,h1,h2,h3=>by
   obtain⟨g1,g2⟩:=IR (Ds:=r) h.2.2.2 e h1 h2 h3
   exact⟨⟨h.1,h.2.1,h.2.2.1,g1⟩,g2⟩
def Deed.must (D:Deed):List Str:=D.names.filter fun n=>decide (¬D.made=some n)
theorem dQ (D:Deed):RX D.d=D.must:=by
 unfold RX Deed.must
 rw[RV]
 apply List.filter_congr
 intro n _
 rw[dL]
 cases h:D.made with
 | none=>rfl
 | some x=>
   show(!a0X (.str n) (.str x))=decide (¬some x=some n)
   rw[CF]
   by_cases e:n=x
   · subst e;simp
   · have:¬x=n:=fun q=>e q.symm
     simp[e,this]
def mkN (Ds:List Deed) (j:Nat):Option Str:=(Ds[j]?).bind Deed.made
def G8 (Ds:List Deed) (k:Nat):List Str:=match Ds[k]? with | some D=>D.must | none=>[]
structure FreshD (Ds:List Deed):Prop where
 one:∀i j x,mkN Ds i=some x->mkN Ds j=some x->i=j
 bef:∀j k x,mkN Ds j=some x->x∈G8 Ds k->j < k
theorem HJ (sp:List Str) (D:Deed):(BX sp D).Sublist sp:=by
 unfold BX
 split
 · exact List.drop_sublist _ _
 · exact a4X _
theorem KB:∀(Ds:List Deed) (so sp:List Str),EL so sp Ds->(so++sp).Nodup->(∀j x,mkN Ds j=some x->x∈sp)/\FreshD Ds
 | [],so,sp,_,_=>⟨fun j x h=>by simp[mkN] at h,fun i j x h=>by simp[mkN] at h,fun j k x h=>by simp[mkN] at h⟩
 | D::r,so,sp,h,nd=>by
   obtain⟨h1,h2,_,h3⟩:=h
   have nd2:(CL so D++BX sp D).Nodup:=nd.sublist (FB h2)
   obtain⟨i1,i2⟩:=KB r _ _ h3 nd2
   have sub:=(HJ sp D).subset
   have m0:∀x,mkN (D::r) 0=some x->D.made=some x:=fun x h=>h
   have in0:∀x,D.made=some x->x∈sp:=fun x e=>List.mem_of_mem_head? (h2 x e)
   have all:∀j x,mkN (D::r) j=some x->x∈sp:=fun j x e=>by
     cases j with
     | zero=>exact in0 x e
     | succ j=>exact sub (i1 j x e)
   have dis:∀x,x∈so->x∈sp->False:=fun x a b=>(List.nodup_append.mp nd).2.2 x a x b rfl
   refine⟨all,fun i j x e1 e2=>?_,fun j k x e1 e2=>?_⟩
   · have two:∀j,D.made=some x->mkN r j=some x->False:=fun j a b=>by
       have q1:=i1 j x b
       have q2:=h2 x a
       unfold BX at q1
       rw[a] at q1
       dsimp only at q1
       have nsp:sp.Nodup:=(List.nodup_append.mp nd).2.1
       cases sp with
       | nil=>simp at q2
       | cons y ys=>
         have:y=x:=by simpa using q2
         subst this
         exact(xU.mp nsp).1 (by simpa using q1)
     cases i with
     | zero=>
       cases j with
       | zero=>rfl
       | succ j=>exact(two j e1 e2).elim
     | succ i=>
       cases j with
       | zero=>exact(two i e2 e1).elim
       | succ j=>rw[i2.one i j x e1 e2]
   · cases k with
     | zero=>
       have hm:x∈D.must:=e2
       obtain⟨a,b⟩:=yL.mp hm
       have b':¬D.made=some x:=of_decide_eq_true b
       exact(dis x (ZQ h1 a b') (all j x e1)).elim
     | succ k=>
       cases j with
       | zero=>exact Nat.succ_pos _
       | succ j=>exact Nat.succ_lt_succ (i2.bef j k x e1 e2)
def S3 (l:List Nat):List Int:=l.map fun j:Nat=>(j:Int)
theorem ZY {l:List Nat}{x:Int}:x∈S3 l↔∃j,j∈l/\x=(j:Int):=by
 unfold S3
 rw[zL]
 constructor
 · rintro⟨j,a,b⟩;exact⟨j,a,b.symm⟩
 · rintro⟨j,a,b⟩;exact⟨j,a,b.symm⟩
end DL
namespace DL
open PySem PySem.Spec L2
theorem B7:∀{ls ls':List (Str×Deed)},ls.map AF=ls'.map AF->ls=ls'
 | [],[],_=>rfl
 | [],_::_,h=>by simp at h
 | _::_,[],h=>by simp at h
 | a::r,b::s,h=>by
   simp only[zI,List.cons.injEq] at h
   obtain⟨h1,h2⟩:=h
   have h1:PyData.tuple [.str a.1,a.2.d] = .tuple [.str b.1,b.2.d]:=h1
   simp only[PyData.tuple.injEq,List.cons.injEq,PyData.str.injEq,and_true] at h1
   rw[B7 h2]
   exact congrArg (·::s) (Prod.ext h1.1 (GV h1.2))
theorem X6 {w w':List Th}{ls ls':List (Str×Deed)}(h:AL w ls=AL w' ls'):ls=ls':=by
 unfold AL at h
 simp only[PyData.tuple.injEq,List.cons.injEq,and_true] at h
 exact B7 h.2
abbrev dsL (ls:List (Str×Deed)):List Deed:=ls.map (·.2)
abbrev AB (ls:List (Str×Deed)):PyData:=.tuple (ls.map AF)
structure goodB (w:List Th) (ls:List (Str×Deed)):Prop where
 fresh:FreshD (dsL ls)
 real:∀l∈ls,l.2.real
 few:ls.length<=50
 hands:∀l∈ls,AJ l.1
abbrev CJ (ns:List Nat):List PyData:=(S3 ns).map .int
theorem DW (ns:List Nat):(CJ ns).length=ns.length:=by simp[S3]
theorem ZZ {a b:List Nat}(h:CJ a=CJ b):a=b:=by
 induction a generalizing b with
 | nil=>cases b with
   | nil=>rfl
   | cons y s=>have:=congrArg b7Z h;rw[DW,DW] at this;cases this
 | cons x r ih=>cases b with
   | nil=>have:=congrArg b7Z h;rw[DW,DW] at this;cases this
   | cons y s=>
     have h:a8V (x:Int)::CJ r = .int (y:Int)::CJ s:=h
     simp only[List.cons.injEq,PyData.int.injEq] at h
     rw[ih h.2,show x=y by omega]
end DL
namespace DL
open PySem PySem.Spec L2
theorem VI {K:Frg}{M:Own}{Q:DS->Own->Prop}{neg:Bool}{d:PyData}{ds:List PyData}(s1:zH d=true) (s2:zH (.tuple ds)=true) (q:Q (.d (.bool (if neg then !(ds.any fun e=>a0X e d) else ds.any fun e=>a0X e d))) M):D2 K (X4 K neg) (.d d) (.d (.tuple ds)) M Q:=fun H v u QQ oa h1 h2 k=>
 ⟨M.W,d,ds,h1,s1,.inr ⟨h2,s2⟩,k _ H _ M oa AM Step.refl q⟩
theorem J9 (a b:Int):a0X (.int a) (.int b)=decide (a=b):=by
 have:a0X (.int a) (.int b)=(a==b):=by simp[a0X]
 rw[this];rfl
theorem IS:∀{Ds:List Deed}{so sp:List Str},EL so sp Ds->∀D∈Ds,D.real
 | D::r,so,sp,h,E,hE=>by
   rcases yX.mp hE with rfl | q
   · exact h.2.2.1
   · exact IS h.2.2.2 E q
theorem CW {ls:List (Str×Deed)}{k:Nat}(hk:k < ls.length):∃l,ls[k]?=some l/\l∈ls/\(ls.map AF)[k]?=some (.tuple [.str l.1,l.2.d])/\(dsL ls)[k]?=some l.2:=
 ⟨ls[k],zV hk,b2V hk,by rw[zF,zV hk];rfl,by rw[zF,zV hk];rfl⟩
end DL
namespace DL
open PySem PySem.Spec L2
theorem U4 {t:Th}(h:AJ t.1):zH (thD t)=true:=by
 refine BV ?_ ?_
 · exact FR (ds:=[.str t.1,.int t.2.1,.int t.2.2]) fun d hd=>by
     simp only[yX,xW,or_false] at hd
     rcases hd with rfl | rfl | rfl
     · exact BL h
     · rfl
     · rfl
 · simp[thD,a2V,a1J]
theorem OW {D:Deed}(h:D.ok):zH D.d=true:=by
 have wk:b5Z (.str D.word)=true:=zG D.word_ok
 have nk:∀x∈D.names,b5Z (.str x)=true:=fun x hx=>BL (h x hx)
 refine BV ?_ (by cases D <;> simp[Deed.d,a2V,a1J])
 cases D <;> (refine FR ?_;simp only[List.forall_mem_cons])
 · exact⟨wk,nk _ (by simp[Deed.names]),rfl,rfl,by simp⟩
 · exact⟨wk,nk _ (by simp[Deed.names]),by simp⟩
 · exact⟨wk,nk _ (by simp[Deed.names]),rfl,by simp⟩
 · exact⟨wk,nk _ (by simp[Deed.names]),rfl,by simp⟩
 · exact⟨wk,nk _ (by simp[Deed.names]),nk _ (by simp[Deed.names]),by simp⟩
 · exact⟨wk,nk _ (by simp[Deed.names]),nk _ (by simp[Deed.names]),rfl,rfl,by simp⟩
 · exact⟨wk,nk _ (by simp[Deed.names]),nk _ (by simp[Deed.names]),by simp⟩
theorem GX {d:PyData}(h:zH d=true):a0X d d=true:=PySem.SeqAt.eqv_refl _ (zG h)
end DL
namespace DL
open PySem PySem.Spec L2
theorem PZ {w:List Th}{ls:List (Str×Deed)}(h:goodB w ls):zH (AB ls)=true:=by
 refine BV (FR fun d hd=>?_) ?_
 · obtain⟨l,hl,rfl⟩:=zL.mp hd
   refine FR ?_
   simp only[List.forall_mem_cons]
   exact⟨BL (h.hands l hl),zG (OW (h.real l hl).1),by simp⟩
 · have:a1J (ls.map AF)<=5:=MH fun d hd=>by
     obtain⟨l,hl,rfl⟩:=zL.mp hd
     have:l.2.d.depth<=3:=by cases l.2 <;> simp[Deed.d,a2V,a1J]
     simp only[AF,a2V,a1J];omega
   simp only[a2V];omega
theorem JA (ys:List Str) (z:Str):((ys.map a0W).any fun e=>a0X e (.str z))=decide (z∈ys):=by
 rw[b4J,b7W,decide_eq_true_iff]
 constructor
 · rintro⟨d,hd,he⟩
   obtain⟨y,hy,rfl⟩:=zL.mp hd
   rw[CF] at he
   rw[← eq_of_beq he];exact hy
 · intro h
   exact⟨.str z,zL.mpr ⟨z,h,rfl⟩,by rw[CF];simp⟩
theorem OX {D:Deed}(h:D.real) {z:Str}(hz:z∈D.must):AJ z:=h.1 z (yL.mp hz).1
theorem OY {α:Type}(l:List α) (g:α->Bool):(l.map g).any id=l.any g:=by rw[List.any_map];rfl
theorem VJ {K:Frg}{M:Own}{ρ:List (Option DS)}{QI:List PyData->Own->Prop}{ta:TA}(h:DA K ta ρ M fun xs M1=>∃i j:Int,xs=[.d (.int i),.d (.int j)]/\(-(2 ^ 62)<=i/\i < 2 ^ 62/\-(2 ^ 62)<=j/\j < 2 ^ 62)/\QI (BK i (j - i).toNat) M1):DI K (eY ta) ρ M QI:=fun σ H R Rl k=>
 h σ H _ Rl fun vs H1 xs M1 o1 s1 t1 ⟨lo,j,e,h1,q⟩=>by
   subst e
   obtain⟨v,r,rfl,h3,v2,r2,rfl,h4,h5⟩:=s1
   cases h5
   rw[show v = .int lo by unfold SI DV at h3;exact h3,show v2 = .int j by unfold SI DV at h4;exact h4]
   have hlen:(BK lo (j - lo).toNat).length=(j - lo).toNat:=by simp[BK]
   refine⟨lo,j,rfl,h1,k _ (BK lo (j - lo).toNat) H1 M1 o1 t1 ⟨fun i H' M' hi oa st=>?_,fun H' M' oa st=>?_,fun i H' M' x H2 oa st hi y=>?_⟩ q⟩
   · show i < (j - lo).toNat;rw[← hlen];exact hi
   · show(j - lo).toNat<=(BK lo (j - lo).toNat).length;rw[hlen];exact zR _
   · obtain⟨rfl,rfl⟩:=y
     refine⟨oa,Step.refl,.int (lo+i),?_,by unfold DV;rfl⟩
     unfold BK
     rw[zF]
     rw[hlen] at hi
     simp[hi]
theorem dR {c:List Nat}{i a:Nat}(h:c[i]?=some a):(CJ c)[i]?=some (.int (a:Int)):=by
 unfold CJ S3
 rw[zF,zF,h];rfl
end DL
namespace L2
open PySem PySem.Spec PyProof.Rows
def lT:List Nat:=[0,1,2,3,4,5,6,7,8,9,10,11,12,13,14,15,16,17,18,19,20,21,22,23]
theorem a6 {x:Str}{i:Nat}:∀(l:List Str) (k n:Nat),(l.zip (List.range' k n)).lookup x=some i->k<=i/\l[i - k]?=some x
 | [],_,_,h=>by cases h
 | _::_,_,0,h=>by cases h
 | a::r,k,n+1,h=>by
   rw[List.range'_succ,a5Z,a2X] at h
   split at h
   · rename_i e
     have h:=Option.some.inj h
     subst h
     rw[Nat.sub_self]
     exact⟨zR _,by rw[eq_of_beq e];rfl⟩
   · obtain⟨h1,h2⟩:=a6 r (k+1) n h
     refine⟨by omega,?_⟩
     rw[show i - k=(i - (k+1))+1 by omega]
     exact h2
theorem Q0 {l:List Str}{x:Str}{i:Nat}(h:(l.zip lT).lookup x=some i):l[i]?=some x:=(a6 l 0 24 h).2
theorem pvx {X:Cx}{i:Nat}{x:Str}{pos:Pos}(h:(X.N.zip lT).lookup x=some i) (hv:Vis X.env.scope x) (hd:(x==("__debug__":Str))=false:=by decide)
   (hcd:(x==("__classdict__":Str))=false:=by decide):PE X (.Name x pos) (bD i):=XN (Q0 h) hv hd hcd
end L2
namespace DL
open PySem PySem.Spec L2
theorem F3 {K:Frg}{M:Own}{Q:DS->Own->Prop}{a b:Str}{t:Bool}(h:(zH (.str a)&&zH (.str b)&&(a0X (.str a) (.str b)==t))=true) (q:Q (.d (.bool t)) M):D2 K (WH K false) (.d (.str a)) (.d (.str b)) M Q:=by
 simp only[a1Z,beq_iff_eq] at h
 exact AT h.1.1 h.1.2 (by rw[if_neg nft,h.2];exact q)
end DL
namespace L2
open PySem PySem.Spec
def lU (scope:Scope) (NC:List Str):Bool:=(NC.all fun x=>(scope.names.lookup x).isSome)&&scope.names.all fun y=>!(y.2==.local||y.2==.free||y.2==.cell)||y.1==a0Q ".0" || NC.contains y.1
theorem KC {X:Cx}{scope:Scope}{NC:List Str}{fr:List (Option Nat)}{osc:Scope}{ON:List Str}(_:lU scope NC=true) (h:YF osc ON scope NC fr=true) (e:X.env.scope=osc) (eN:X.N=ON):CSc X scope NC fr:=CSc.of h e eN
end L2
namespace DL
open PySem PySem.Spec L2
theorem DC {w w':List Th}{ls ls':List (Str×Deed)}(h:AL w ls=AL w' ls'):wD w=wD w'/\ls=ls':=by
 refine⟨?_,X6 h⟩
 unfold AL at h
 simp only[PyData.tuple.injEq,List.cons.injEq,and_true] at h
 exact h.1
end DL
namespace DL
open PySem PySem.Spec L2
section
variable {M:Own}{Q:DS->Own->Prop}{w:List Th}{ls:List (Str×Deed)}
def okN (w:List Th):Prop:=∀t∈w,AJ t.1
end
end DL
namespace L2
open PySem PySem.Spec PyProof.Rows
section
variable {prog:Program}{w:World}{A:Around}{E:Value->Shared->Prop}{s:Shared}
theorem OZ {i t:Addr}{k:Nat}{items:Array Value}(hh:A.handled=none) (hx:items[k]?=none):NxE prog w A i (fun h=>h.IsTupleIter i t k/\h.IsTuple t items):=fun s Q E hS hE=>by
 obtain⟨hit,ht⟩:=hS
 obtain⟨o,ho,hc,hd⟩:=id hit
 obtain⟨ol,hol,hcl,nl,hdl⟩:=id ht
 unfold a1W;refine zZ (wpAny_callSpecial?_slot (name:=a0Q "__next__") hit.typeIs b0X (wpAny_call_entry b0X hit.typeIs F.entry_tuple_iterator_next ?_ (F.args_tuple_iterator_next_1 _)))
 show wpAny _ _ (field (.ref i) 0 >>= _) _ _ s
 refine zZ (wpAny_field ho hd (x:=.ref t) rfl ?_);show wpAny _ _ (if (a0Z t==a3Q)=true then _ else _) _ _ s
 rw[if_neg (show ¬((a0Z t==a3Q)=true) from nft)];show wpAny _ _ (field (.ref i) 1 >>= _) _ _ s
 refine zZ (wpAny_field ho hd (x:=.int k 0) rfl ?_);show wpAny _ _ (seqItems? (.ref t) >>= _) _ _ s
 refine zZ (wpAny_seqItems hol hdl ?_);simp only[a4W,hx]
 refine zZ (wpAny_rule (zZ (wpAny_setField ho hd (by simp) (zZ ?_))))
 simp only[newExc,newTuple];refine zZ (xL (zZ (m:=firstArgMember _ _) (wpAny_of_eq (a:=a3Q) (by first | rfl | (simp only[firstArgMember];rfl)) (xL ?_ (by size_fits)))) (by size_fits))
 simp only[raiseNew];refine zZ (wpAny_handled ?_);first | rw[show A.in1.handled=none from hh] | rw[hh]
 exact zZ (zY (wpAny_throw (hE _ _ (((a9Q ..).extBut.push _).push _) ⟨_,yZ _ rfl,rfl⟩)))
end
def lV (K:Frg) (l1 l2:Addr):It:=
 ⟨fun i H=>∃xs ys,SqT K H l1 xs/\SqT K H l2 ys/\i < xs.length/\i < ys.length,
  fun i H v H'=>∃p a b,H p=none/\v = .ref p/\H'=upd H p (.tup [a,b])/\(∀xs,SqT K H l1 xs->xs[i]?=some a)/\∀ys,SqT K H l2 ys->ys[i]?=some b,
  fun i H=>∃xs ys,SqT K H l1 xs/\SqT K H l2 ys/\(xs.length<=i∨ys.length<=i)⟩
theorem U5 {P:Program}{w:World}{K:Frg}{elts:List Expr}{kk:Nat}{tpos:Pos}(z TI TO i1 i2:Addr) (l1 l2:Addr) (d1:TI≠z) (d2:TO≠z) (d3:i1≠z) (d4:i2≠z) (d5:TI≠TO) (d6:TI≠i1) (d7:TI≠i2) (d8:TO≠i1) (d9:TO≠i2) (d10:i1≠i2) :
   Turn P w K (.Tuple elts kk tpos) (lV K l1 l2) [z,TI,TO,i1,i2] z (fun i h=>IsZip h z TI TO .none/\IsPair h TI (.ref i1) (.ref i2)/\(∃a b,IsPair h TO a b)/\h.IsTupleIter i1 l1 i/\h.IsTupleIter i2 l2 i) where
 mem:=by simp
 obj:=fun i h ⟨a1,a2,⟨x,y,a3⟩,a4,a5⟩ b hb=>by
   simp only[yX,xW,or_false] at hb
   rcases hb with rfl | rfl | rfl | rfl | rfl
   · exact⟨_,a1,fun v q=>by cases q⟩
   · exact⟨_,a2,fun v q=>by cases q⟩
   · exact⟨_,a3,fun v q=>by cases q⟩
   · obtain⟨o,e,c,d⟩:=a4;exact⟨o,e,fun v q=>by rw[d] at q;cases q⟩
   · obtain⟨o,e,c,d⟩:=a5;exact⟨o,e,fun v q=>by rw[d] at q;cases q⟩
 keep:=fun i h h' ⟨a1,a2,⟨x,y,a3⟩,⟨o4,e4,r4⟩,⟨o5,e5,r5⟩⟩ k=>⟨k z (by simp) _ a1,k TI (by simp) _ a2,⟨x,y,k TO (by simp) _ a3⟩,⟨o4,k i1 (by simp) o4 e4,r4⟩,⟨o5,k i2 (by simp) o5 e5,r5⟩⟩
 item:=by
   intro X hP hw hK hc i pins s σ H E I hf ⟨a1,a2,⟨x0,y0,a3⟩,a4,a5⟩ hg
   subst hP hw hK
   obtain⟨xs,ys,hx,hy,lx,ly⟩:=hg
   obtain⟨its1,rx,px,_⟩:=I.tuple hx
   obtain⟨its2,ry,py,_⟩:=I.tuple hy
   obtain⟨u,hu,ru⟩:=rx.get (zV lx)
   obtain⟨v,hv,rv⟩:=ry.get (zV ly)
   have ne1:∀c∈[z,TI,TO,i1,i2],l1≠c:=fun c hc=>PQ I (hf c hc) hx
   have ne2:∀c∈[z,TI,TO,i1,i2],l2≠c:=fun c hc=>PQ I (hf c hc) hy
   have D:ZAp z TI TO i1 i2 [i1,l1] [i2,l2]:=⟨d2,d3,d4,d8,d9,d10,fun c hc=>by
       rcases yX.mp hc with rfl | hc
       · exact⟨d3,d8.symm,d10⟩
       · have:c=l1:=by simpa using hc
         subst this;exact⟨ne1 z (by simp),ne1 TO (by simp),ne1 i2 (by simp)⟩,fun c hc=>by
       rcases yX.mp hc with rfl | hc
       · exact⟨d4,d9.symm,d10.symm⟩
       · have:c=l2:=by simpa using hc
         subst this;exact⟨ne2 z (by simp),ne2 TO (by simp),ne2 i1 (by simp)⟩⟩
   have t1:∀k,EH [i1,l1] (fun h=>h.IsTupleIter i1 l1 k/\h.IsTuple l1 its1.toArray):=fun k h h' ⟨⟨o,e,r⟩,⟨o',e',r'⟩⟩ q=>⟨⟨o,q i1 (by simp) o e,r⟩,⟨o',q l1 (by simp) o' e',r'⟩⟩
   have t2:∀k,EH [i2,l2] (fun h=>h.IsTupleIter i2 l2 k/\h.IsTuple l2 its2.toArray):=fun k h h' ⟨⟨o,e,r⟩,⟨o',e',r'⟩⟩ q=>⟨⟨o,q i2 (by simp) o e,r⟩,⟨o',q l2 (by simp) o' e',r'⟩⟩
   refine WW (R1:=fun x=>x=u) (R2:=fun x=>x=v) D (t1 i) (t1 (i+1)) (t2 i) (t2 (i+1)) (fun A=>TL (ne1 i1 (by simp)) (by simpa using hu)) (fun A=>TL (ne2 i2 (by simp)) (by simpa using hv)) a1 a2 a3 ⟨a4,px⟩ ⟨a5,py⟩
     (fun h ⟨⟨o,e,_⟩,_⟩=>zM e) (fun h ⟨⟨o,e,_⟩,_⟩=>zM e) fun h' tk u1 u2 eu1 eu2 b1 b2 b3 b4 b5 b6 hk=>?_
   subst eu1;subst eu2
   refine⟨_,rfl,wpAny_letOwnedTupleGo_zip (s:={ s with heap:=h',toks:=tk }) b1 fun h2 c1 sb=>?_⟩
   have lt:∀{c o},s.heap.get? c=some o->s.heap.objs.size≠c:=fun e=>b0V (zM e)
   have keep:∀b o,b∉[z,TO,i1,i2]->s.heap.get? b=some o->h2.get? b=some o:=fun b o hb e=>by
     simp only[yX,xW,or_false,not_or] at hb
     exact sb.extBut b o hb.1 (hk b o hb.1 hb.2.1 hb.2.2.1 hb.2.2.2 e)
   have sub:∀b∈[z,TO,i1,i2],b∈[z,TI,TO,i1,i2]:=fun b hb=>by
     simp only[yX,xW,or_false] at hb ⊢
     rcases hb with h | h | h | h <;> simp[h]
   have hTz:s.heap.objs.size≠z:=lt a1
   have I1:Inv X pins σ (upd H s.heap.objs.size (.tup [xs[i],ys[i]])) { s with heap:=h2,toks:=tk }:=I.turnedT (t':=tk) (ch:=[z,TO,i1,i2]) keep (fun b hb=>(hf b (sub b hb)).1)
     (fun b hb=>let q:=hf b (sub b hb);⟨q.2.2.2.1,q.2.1,q.2.2.2.2.1,q.2.2.2.2.2⟩) (zR _)
     ⟨by show 2<=sizeLine;decide,[u1,u2],.cons ru (.cons rv .nil),⟨_,sb.extBut _ _ hTz b5,rfl,_,rfl⟩⟩
   refine⟨.ref s.heap.objs.size,_,I1,rfl,⟨s.heap.objs.size,xs[i],ys[i],I.hok.fresh (zR _),rfl,rfl,fun xs' hx'=>?_,fun ys' hy'=>?_⟩,
     ⟨c1,keep _ _ ?_ a2,⟨_,_,sb.extBut _ _ d2 b2⟩,b3.1.extBut sb.extBut d3,b4.1.extBut sb.extBut d4⟩,fun b hb=>?_⟩
   · rw[I.tuple_inj hx' hx];exact zV lx
   · rw[I.tuple_inj hy' hy];exact zV ly
   · simp[d1,d5,d6,d7]
   · have hlt:s.heap.objs.size≠b:=by
       simp only[yX,xW,or_false] at hb
       rcases hb with rfl | rfl | rfl | rfl | rfl
       · exact lt a1
       · exact lt a2
       · exact lt a3
       · obtain⟨o,e,_⟩:=a4;exact lt e
       · obtain⟨o,e,_⟩:=a5;exact lt e
     rw[AG (b5J hlt)]
     exact(hf b hb).1
 done:=by
   intro X hP hw hK hc i pins s σ H E I hf ⟨a1,a2,⟨x0,y0,a3⟩,a4,a5⟩ hg
   subst hP hw hK
   obtain⟨xs,ys,hx,hy,hle⟩:=hg
   obtain⟨its1,rx,px,_⟩:=I.tuple hx
   obtain⟨its2,ry,py,_⟩:=I.tuple hy
   have ne1:∀c∈[z,TI,TO,i1,i2],l1≠c:=fun c hc=>PQ I (hf c hc) hx
   have ne2:∀c∈[z,TI,TO,i1,i2],l2≠c:=fun c hc=>PQ I (hf c hc) hy
   have D:ZAp z TI TO i1 i2 [i1,l1] [i2,l2]:=⟨d2,d3,d4,d8,d9,d10,fun c hc=>by
       rcases yX.mp hc with rfl | hc
       · exact⟨d3,d8.symm,d10⟩
       · have:c=l1:=by simpa using hc
         subst this;exact⟨ne1 z (by simp),ne1 TO (by simp),ne1 i2 (by simp)⟩,fun c hc=>by
       rcases yX.mp hc with rfl | hc
       · exact⟨d4,d9.symm,d10.symm⟩
       · have:c=l2:=by simpa using hc
         subst this;exact⟨ne2 z (by simp),ne2 TO (by simp),ne2 i1 (by simp)⟩⟩
   have t1:∀k,EH [i1,l1] (fun h=>h.IsTupleIter i1 l1 k/\h.IsTuple l1 its1.toArray):=fun k h h' ⟨⟨o,e,r⟩,⟨o',e',r'⟩⟩ q=>⟨⟨o,q i1 (by simp) o e,r⟩,⟨o',q l1 (by simp) o' e',r'⟩⟩
   have t2:∀k,EH [i2,l2] (fun h=>h.IsTupleIter i2 l2 k/\h.IsTuple l2 its2.toArray):=fun k h h' ⟨⟨o,e,r⟩,⟨o',e',r'⟩⟩ q=>⟨⟨o,q i2 (by simp) o e,r⟩,⟨o',q l2 (by simp) o' e',r'⟩⟩
   have sub:∀b∈[z,TO,i1,i2],b∈[z,TI,TO,i1,i2]:=fun b hb=>by
     simp only[yX,xW,or_false] at hb ⊢
     rcases hb with h | h | h | h <;> simp[h]
   refine WX (TI:=TI) (TO:=TO) (i1:=i1) (i2:=i2) (I.ok.hd hc) a1 (fun Q' E' hE' A' hA'=>?_) fun h' tk hk=>⟨rfl,I.turnedL (t':=tk) (ch:=[z,TO,i1,i2]) (fun b o hb e=>?_) (fun b hb=>(hf b (sub b hb)).1) fun b hb=>let q:=hf b (sub b hb);⟨q.2.2.2.1,q.2.1,q.2.2.2.2.1,q.2.2.2.2.2⟩⟩
   · by_cases hxl:i < xs.length
     · obtain⟨u,hu,ru⟩:=rx.get (zV hxl)
       have hyl:its2.toArray[i]?=none:=b7V (by have:=ry.length;simp;omega)
       exact WV (R1:=fun x=>x=u) D (t1 i) (t2 i) (TL (ne1 i1 (by simp)) (by simpa using hu)) (OZ hA' hyl) a1 a2 a3 ⟨a4,px⟩ ⟨a5,py⟩ hE'
     · have hxl':its1.toArray[i]?=none:=b7V (by have:=rx.length;simp;omega)
       exact WU D (t1 i) (OZ hA' hxl') a1 a2 a3 ⟨a4,px⟩ hE'
   · simp only[yX,xW,or_false,not_or] at hb
     exact hk b o hb.1 hb.2.1 hb.2.2.1 hb.2.2.2 e
 self:=fun _ _ _ _ _ st h=>wpAny_pyIter_zip st.1 h
section
variable {X:Cx}{K:Frg}
def fZ (K:Frg) (ta:TA):TI:=fun σ H R=>ta σ H fun vs H1=>∃a b,vs=[.ref a,.ref b]/\(∃xs,SqT K H1 a xs)/\(∃ys,SqT K H1 b ys)/\R (lV K a b) H1
theorem lW {a b:Expr}{ta:TA}{p pos:Pos}{elts:List Expr}{kk:Nat}{tpos:Pos}(h:X.K=K) (hg:Gl X "zip") (hm:X.mg "zip"=none) (ha:PA X [a,b] ta) (hs:starEach [a,b] X.env=[(false,eval a X.env),(false,eval b X.env)]:=by rfl) (hs2:starEach [b] X.env=[(false,eval b X.env)]:=by rfl) :
   PI X (.Tuple elts kk tpos) (.Call (.Name "zip" p) [a,b] [] pos) (fZ K ta):=by
 subst h
 intro pins s σ H R I h
 refine Call_ (GP I hg hm boot_zip (xG (thn (ha pos pins s σ H _ I h) fun us s1 ⟨vs,H1,I1,r1,q1⟩=>?_) (by rw[hs,hs2]) (by rw[hs2];rfl)))
 have ne:∀(m n:Nat),m≠n->s1.heap.objs.size+m≠s1.heap.objs.size+n:=fun m n h e=>h (Nat.add_left_cancel e)
 have fp:∀b∈[s1.heap.objs.size+4,s1.heap.objs.size+2,s1.heap.objs.size+3,s1.heap.objs.size,s1.heap.objs.size+1],L1 X pins H1 b:=fun b hb=>by
   have hle:s1.heap.objs.size<=b:=by
     simp only[yX,xW,or_false] at hb
     rcases hb with rfl | rfl | rfl | rfl | rfl
     · exact b3X _ _
     · exact b3X _ _
     · exact b3X _ _
     · exact zR _
     · exact b3X _ _
   exact I1.fpOk hle (I1.hok.fresh hle)
 obtain⟨l1,l2,rfl,⟨xs,hx⟩,⟨ys,hy⟩,q⟩:=q1
 cases r1 with
 | cons r rr=>
   cases rr with
   | cons r' rr=>
     cases rr;cases r';cases r
     obtain⟨its1,rx,px,_⟩:=I1.tuple hx
     obtain⟨its2,ry,py,_⟩:=I1.tuple hy
     refine WY (VB (t:=l1) (items:=its1.toArray)) (VB (t:=l2) (items:=its2.toArray)) (fun h o q=>q.push o) rfl rfl px py fun h' b1 b2 b3 b4 b5 hk=>?_
     refine wpAny_pyIter_zip (s:={ s1 with heap:=h' }) b1 ?_
     exact⟨s1.heap.objs.size+4,[s1.heap.objs.size+4,s1.heap.objs.size+2,s1.heap.objs.size+3,s1.heap.objs.size,s1.heap.objs.size+1],_,_,H1,rfl,I1.kept (t':=s1.toks) hk,
       U5 (s1.heap.objs.size+4) (s1.heap.objs.size+2) (s1.heap.objs.size+3) s1.heap.objs.size (s1.heap.objs.size+1) l1 l2 (ne 2 4 (by decide)) (ne 3 4 (by decide)) (ne 0 4 (by decide)) (ne 1 4 (by decide)) (ne 2 3 (by decide)) (ne 2 0 (by decide)) (ne 2 1 (by decide)) (ne 3 0 (by decide)) (ne 3 1 (by decide)) (ne 0 1 (by decide)),
       ⟨b1,b2,⟨_,_,b3⟩,⟨_,b4,rfl,rfl⟩,⟨_,b5,rfl,rfl⟩⟩,fp,q⟩
def lX (i j:Nat) (te:TE):TS:=fun D σ H=>te σ H fun v H1=>D.nx ((σ.set i (some v)).set j (some v)) H1
theorem jT {i j:Nat}{x y:Str}{e:Expr}{te:TE}{px py pos:Pos}(hN:X.N.Nodup) (hi:X.N[i]?=some x) (hj:X.N[j]?=some y) (hx:Loc X.env.scope x) (hy:Loc X.env.scope y) (he:PE X e te)
   (ht:(assignEach [.Name x px,.Name y py] X.env).map (·.2)=[assign (.Name x px) X.env,assign (.Name y py) X.env]:=by rfl) (hw:swappedStores [.Name x px,.Name y py] e X.env=pure none:=by rfl)
   (hf:X.fn x=true∨X.env.scope.names.lookup x=some .local:=by first | exact .inl rfl | exact .inr rfl | assumption) (hf2:X.fn y=true∨X.env.scope.names.lookup y=some .local:=by first | exact .inl rfl | exact .inr rfl | assumption) :
   PS X (.Assign [.Name x px,.Name y py] e pos) (lX i j te):=by
 intro pins s σ H D I h
 refine wpAny_Assign_two (thn (he pins s σ H _ I h) fun v s1 ⟨u,H1,I1,r1,q1⟩=>?_) ht hw
 refine wpAny_assign_Name (ED I1 hN hi hx r1 (fun s2 I2=>?_) hf)
 exact wpAny_assign_Name (ED I2 hN hj hy r1 (fun s3 I3=>⟨_,H1,I3,q1⟩) hf2)
end
end L2
namespace DL
open PySem PySem.Spec L2
section
variable {K:Frg}{ρ:List (Option DS)}{M:Own}{QI:List PyData->Own->Prop}
theorem dS {ta:TA}(h:DA K ta ρ M fun xs M1=>∃as bs,xs=[.d (.tuple as),.d (.tuple bs)]/\QI (L4 as bs) M1):DI K (fZ K ta) ρ M QI:=fun σ H R Rl k=>
 h σ H _ Rl fun vs H1 xs M1 o1 s1 t1 ⟨as,bs,e,q⟩=>by
   subst e
   obtain⟨v,r,rfl,h1,v2,r2,rfl,h2,h3⟩:=s1
   cases h3
   unfold SI DV at h1 h2
   obtain⟨a,va,rfl,hl1,hd1⟩:=h1
   obtain⟨b,vb,rfl,hl2,hd2⟩:=h2
   have hlen:(L4 as bs).length=min as.length bs.length:=by unfold L4;rw[zX,List.length_zip]
   refine⟨a,b,rfl,⟨va,hl1.sq⟩,⟨vb,hl2.sq⟩,k _ (L4 as bs) H1 M1 o1 t1 ⟨fun i H' M' hi oa st=>?_,fun H' M' oa st=>?_,fun i H' M' x H2 oa st hi y=>?_⟩ q⟩
   · rw[hlen] at hi
     exact⟨va,vb,(hl1.grow st.grow).sq,(hl2.grow st.grow).sq,by rw[hd1.length];omega,by rw[hd2.length];omega⟩
   · refine⟨va,vb,(hl1.grow st.grow).sq,(hl2.grow st.grow).sq,?_⟩
     rw[hlen,hd1.length,hd2.length];omega
   · obtain⟨p,xa,xb,hp,rfl,rfl,hx,hy⟩:=y
     obtain⟨da,f1,f2⟩:=hd1.get (hx va (hl1.grow st.grow).sq)
     obtain⟨db,g1,g2⟩:=hd2.get (hy vb (hl2.grow st.grow).sq)
     have gg:Grow K M'.W M'.W H' (upd H' p (.tup [xa,xb])):=B0 _ hp
     refine⟨oa.new hp,⟨gg⟩,.tuple [da,db],?_,?_⟩
     · unfold L4
       rw[zF]
       have:(as.zip bs)[i]?=some (da,db):=by rw[b6Z];exact⟨f1,g1⟩
       rw[this];rfl
     · unfold DV
       exact⟨p,_,rfl,.inl ⟨fun w=>w (oa.none hp),.inl AH⟩,DVs.cons ((f2.grow st.grow).grow gg) (DVs.cons ((g2.grow st.grow).grow gg) DVs.nil)⟩
theorem jU {i j:Nat}{te:TE}{D:EndsD}(h:DE K te ρ M fun x M1=>D.nx ((ρ.set i (some x)).set j (some x)) M1):DSt K (lX i j te) ρ M D:=fun σ H E R k1 _ _ _=>
 h σ H _ R fun v H' x M' a b c q=>k1 _ M' _ H' (((R.step a c).set b i).set b j) c q
end
end DL
namespace L2
open PySem PySem.Spec PyProof.Rows
section
variable {X:Cx}
def U6 (i j:Int):List V:=(a1X (j - i).toNat).map fun k:Nat=>V.int (i+k)
def VL (te:TA):TE:=fun σ H Q=>te σ H fun vs H1=>∃i j:Int,vs=[.int i,.int j]/\(-(2 ^ 40)<=i/\i < 2 ^ 40/\-(2 ^ 40)<=j/\j < 2 ^ 40)/\(j - i).toNat<=1000/\∀p,H1 p=none->Q (.ref p) (upd H1 p (.lst (U6 i j)))
theorem X7 {a b:Expr}{te:TA}{np rp pos mp:Pos}(hh:X.A.handled=none) (hg:Gl X "range") (hm:X.mg "range"=none) (hg2:Gl X "list") (hm2:X.mg "list"=none) (he:PA X [a,b] te)
   (hs:starEach [.Call (.Name "range" np) [a,b] [] rp] X.env=[(false,eval (.Call (.Name "range" np) [a,b] [] rp) X.env)]:=by rfl) (hs1:starEach [a,b] X.env=[(false,eval a X.env),(false,eval b X.env)]:=by rfl) (hs2:starEach [b] X.env=[(false,eval b X.env)]:=by rfl) :
   PE X (.Call (.Name "list" mp) [.Call (.Name "range" np) [a,b] [] rp] [] pos) (VL te):=by
 intro pins s σ H Q I h
 refine wpAny_Call_Name_kw (GP I hg2 hm2 a7X ?_)
 refine xG ?_ hs rfl
 rw[hs]
 refine(show wpAny _ _ (spliced ((false,eval (.Call (.Name "range" np) [a,b] [] rp) X.env)::backTo pos (starEach [] X.env))) _ _ _ from xN ?_)
 refine wpAny_Call_Name_kw (GP I hg hm boot_range ?_)
 refine xG (thn (he rp pins s σ H _ I h) fun us s1 ⟨vs,H1,I1,r1,q1⟩=>?_) (by rw[hs1,hs2]) (by rw[hs2];rfl)
 obtain⟨i,j,rfl,⟨b1,b2,b3,b4⟩,hn,q⟩:=q1
 cases r1 with
 | cons r rr=>
   cases rr with
   | cons r' rr=>
     cases rr
     obtain⟨t,rfl⟩:=r
     obtain⟨t',rfl⟩:=r'
     refine call_range_2 ?_
     refine(show wpAny _ _ (spliced []) _ _ _ from zY ?_)
     refine call_list_range (n:=(j - i).toNat) hh (IsRange.new ..) (small_one (by omega) (by omega) (by omega) (by omega)) (by rw[rangeSize_one];split <;> omega) (zN hn (by decide)) fun h' tk acc c hk ho hacc=>?_
     have I2:Inv X pins σ H1 { s1 with heap:=s1.heap.push { cls:=.type "range", data:=.fields #[.int i t,.int j t',.int 1 s1.toks] },toks:=s1.toks+1 }:=I1.kept fun b o e=>zW _ e
     have hv:Vals (U6 i j) acc.toList:=by
       have go:∀(vs:List Value) (m:Nat) (k:Int),vs.length=m->(∀n,n < m->∃t,vs[n]?=some (b8Q (k+(n:Nat)) t))->Vals ((a1X m).map fun n:Nat=>V.int (k+n)) vs:=by
         intro vs
         induction vs with
         | nil=>intro m k e _;cases e;exact .nil
         | cons x r ih=>
           intro m k e hx
           cases e
           rw[b7K,List.range_succ_eq_map,zI,zD]
           refine .cons ?_ ?_
           · obtain⟨t,ht⟩:=hx 0 (by simp)
             have:x=b8Q (k+((0:Nat):Int)) t:=by simpa using ht
             rw[this];exact⟨t,rfl⟩
           · have:=ih r.length (k+1) rfl fun n hn=>by
               obtain⟨t,ht⟩:=hx (n+1) (by simpa using hn)
               refine⟨t,?_⟩
               rw[List.getElem?_cons_succ] at ht
               rw[ht];congr 2;omega
             have e2:((fun n:Nat=>V.int (k+n))∘Nat.succ)=fun n:Nat=>V.int (k+1+n):=by
               funext n;show V.int _=V.int _;congr 1;simp;omega
             rw[e2];exact this
       refine go acc.toList (j - i).toNat i (by rw[a3V];exact hacc.1) fun n hn=>?_
       have hi2:n < acc.size:=by rw[hacc.1];exact hn
       obtain⟨t,ht⟩:=hacc.2 n acc[n] (Array.getElem?_eq_getElem hi2)
       refine⟨t,?_⟩
       rw[a6W,Array.getElem?_eq_getElem hi2,ht];simp
     have I3:Inv X pins σ (upd H1 (s1.heap.push { cls:=.type "range", data:=.fields #[.int i t,.int j t',.int 1 s1.toks] }).objs.size (.lst (U6 i j))) { s1 with heap:=h',toks:=tk }:=
       I2.laid (t':=tk) hk (zR _) (show ObjOk X.prog X.w _ _ _ (.lst _) from ⟨by unfold U6;rw[zX,xY];exact zN hn (by decide),acc.toList,c,hv,by simpa using ho⟩)
     exact⟨.ref _,_,I3,rfl,q _ (I2.hok.fresh (zR _))⟩
end
end L2
namespace DL
open PySem PySem.Spec L2
section
variable {K:Frg}{ρ:List (Option DS)}{M:Own}{Q:DS->Own->Prop}
def X8 (i j:Int):List PyData:=(a1X (j - i).toNat).map fun k:Nat=>a8V (i+k)
theorem X9 {te:TA}(h:DA K te ρ M fun xs M1=>∃i j:Int,xs=[.d (.int i),.d (.int j)]/\(-(2 ^ 40)<=i/\i < 2 ^ 40/\-(2 ^ 40)<=j/\j < 2 ^ 40)/\(j - i).toNat<=1000/\Q (.d (.list (X8 i j))) M1):DE K (VL te) ρ M Q:=fun σ H QQ Rl k=>
 h σ H _ Rl fun vs H1 xs M1 o1 s1 t1 ⟨i,j,ex,hb,hn,q⟩=>by
   subst ex
   obtain⟨v,r,rfl,sv,v2,r2,rfl,sv2,rfl⟩:=s1
   unfold SI DV at sv sv2
   subst sv;subst sv2
   refine⟨i,j,rfl,hb,hn,fun p hp=>?_⟩
   have g:Grow K M1.W M1.W H1 (upd H1 p (.lst (U6 i j))):=B0 _ hp
   refine k _ _ (.d (.list (X8 i j))) M1 (o1.new hp) ?_ (t1.trans ⟨g⟩) q
   unfold SI DV
   refine⟨p,_,rfl,.inl ⟨fun w=>w (o1.none hp),.inl AH⟩,?_⟩
   have e1:X8 i j=((a1X (j - i).toNat).map fun k:Nat=>i+(k:Int)).map a8V:=by unfold X8;rw[zD];rfl
   have e2:U6 i j=((a1X (j - i).toNat).map fun k:Nat=>i+(k:Int)).map V.int:=by unfold U6;rw[zD];rfl
   rw[e1,e2]
   exact GW
end
end DL
namespace HT
open PySem PySem.Spec
theorem pick_revL (xs:Array Value):slicePick xs none none (some (-1))=xs.toList.reverse.toArray:=by
 have hb:sliceBounds none none (some (-1)) xs.size=((xs.size:Int) - 1,-1,-1):=rfl
 unfold slicePick
 rw[hb]
 have hr:sliceRange ((xs.size:Int) - 1) (-1) (-1)=(a1X xs.size).map fun(m:Nat)=>((xs.size:Int) - 1+(m:Int)*(-1)).toNat:=by
   unfold sliceRange
   have hc:(if (-1:Int) > 0 then (if (xs.size:Int) - 1 < -1 then ((-1:Int) - ((xs.size:Int) - 1) + -1 - 1) / -1 else 0) else (if (xs.size:Int) - 1 > -1 then ((xs.size:Int) - 1 - -1 - -1 - 1)/(- -1) else 0)).toNat=xs.size:=by
     rw[if_neg (by decide)]
     split
     · rw[show(- -1:Int)=1 from rfl,Int.ediv_one];omega
     · omega
   dsimp only
   rw[hc]
   apply yM
   intro m _
   rw[Int.mul_comm]
 rw[hr,List.filterMap_map]
 exact YY xs
end HT
namespace L2
open PySem PySem.Spec PyProof.Rows
section
variable {X:Cx}{e st:Expr}{te ts:TE}{pos p2:Pos}
def lY (K:Frg):V->Hp->VK->Prop:=fun x H Q=>∃a xs,x = .ref a/\SqL K H a xs/\∀p,H p=none->Q (.ref p) (upd H p (.lst xs.reverse))
def a7 (K:Frg) (te ts:TE):TE:=fun σ H Q=>te σ H fun x H1=>ts σ H1 fun k H2=>k = .int (-1)/\lY K x H2 Q
theorem dU (he:PE X e te) (hst:PE X st ts):PE X (.Subscript e (.Slice none none (some st) p2) pos) (a7 X.K te ts):=by
 intro pins s σ H Q I h
 refine Subscript_ (thn (he pins s σ H _ I h) fun v s1 ⟨x,H1,I1,r1,q1⟩=>?_)
 refine wpAny_Slice ?_
 rw[evalPart_none]
 refine zY (zY ?_)
 rw[evalPart_some]
 refine thn (hst pins s1 σ H1 _ I1 q1) fun u s2 ⟨k,H2,I2,r2,q2⟩=>?_
 obtain⟨rfl,a,xs,rfl,hx,q⟩:=q2
 obtain⟨tk,rfl⟩:=r2
 cases r1
 have I3:Inv X pins σ H2 { s2 with heap:=s2.heap.push { cls:=.type "slice", data:=.fields #[.none,.none,.int (-1) tk] } }:=I2.kept (t':=s2.toks) fun b ob q=>zW _ q
 obtain⟨its,r,pl,hz⟩:=I3.list hx
 have ht:=pl.isList
 have hlen:its.toArray.size=xs.length:=by rw[zJ];exact r.length.symm
 show wpAny (model X.prog X.w) X.A (subscriptTail e (.Slice none none (some st) p2) (.ref a) (.ref s2.heap.objs.size)) (EP X pins σ Q) X.xe { s2 with heap:=s2.heap.push { cls:=.type "slice", data:=.fields #[.none,.none,.int (-1) tk] } }
 refine tail_any (ops:=[.ref a,.ref s2.heap.objs.size]) ht.typeIs slot_list_getitem.lookup ?_ (by with_unfolding_all rfl)
 refine wpAny_getItem_list_slice ht (Heap.IsSliceOf.new ..) .none .none (.int (-1) tk) (by simp) ?_ (by rw[hlen];exact hz)
 rw[HT.pick_revL]
 refine⟨.ref _,_,I3.laid (t':=s2.toks) (o:=.lst xs.reverse) (fun b ob q=>zW _ q) (zR _) ?_,rfl,q _ (I3.hok.fresh (zR _))⟩
 exact⟨by rw[List.length_reverse];exact hz,its.reverse,0,r.reverse,yZ _ rfl⟩
end
end L2
namespace DL
open PySem PySem.Spec L2
theorem lZ {X:Cx}{K:Frg}{e st:Expr}{te ts:TE}{pos p2:Pos}(h:X.K=K) (he:PE X e te) (hst:PE X st ts):PE X (.Subscript e (.Slice none none (some st) p2) pos) (a7 K te ts):=h▸dU he hst
section
variable {K:Frg}{ρ:List (Option DS)}{M:Own}{Q:DS->Own->Prop}{te ts:TE}
theorem dW (h:DE K te ρ M fun x M1=>∃ds,x = .d (.list ds)/\DE K ts ρ M1 fun k M2=>k = .d (.int (-1))/\Q (.d (.list ds.reverse)) M2):DE K (a7 K te ts) ρ M Q:=fun σ H QQ R k=>
 h σ H _ R fun v H1 x M1 o1 s1 t1 h1=>by
   obtain⟨ds,rfl,h1⟩:=h1
   refine h1 σ H1 _ (R.step o1 t1) fun u H2 y M2 o2 s2 t2 h2=>?_
   obtain⟨rfl,q⟩:=h2
   have s1':=s1.step t2
   unfold SI DV at s1'
   obtain⟨a,vs,rfl,hl,hd⟩:=s1'
   refine⟨BA s2,a,vs,rfl,hl.sq,fun p hp=>?_⟩
   have g:Grow K M2.W M2.W H2 (upd H2 p (.lst vs.reverse)):=B0 _ hp
   refine k _ _ (.d (.list ds.reverse)) M2 (o2.new hp) ?_ ((t1.trans t2).trans ⟨g⟩) q
   unfold SI DV
   exact⟨p,_,rfl,.inl ⟨fun w=>w (o2.none hp),.inl AH⟩,(DVs.reverse hd).grow g⟩
end
end DL
namespace DL
open PySem PySem.Spec L2
mutual
def plD:PyData->Bool
 | .int _=>true
 | .str _=>true
 | .tuple ds=>plAll ds
 | _=>false
def plAll:List PyData->Bool
 | []=>true
 | d::r=>plD d&&plAll r
end
mutual
theorem a8:∀(a b:PyData),plD a=true->plD b=true->a0X a b=true->a=b
 | .int i,.int j,_,_,h=>by simp only[a0X,beq_iff_eq] at h;rw[h]
 | .str i,.str j,_,_,h=>by simp only[a0X,beq_iff_eq] at h;rw[h]
 | .tuple xs,.tuple ys,h1,h2,h=>by
   simp only[a0X] at h
   rw[eqv_plAll xs ys (by simpa [plD] using h1) (by simpa [plD] using h2) h]
 | .int _,.str _,_,_,h=>by cases h
 | .int _,.tuple _,_,_,h=>by cases h
 | .str _,.int _,_,_,h=>by cases h
 | .str _,.tuple _,_,_,h=>by cases h
 | .tuple _,.int _,_,_,h=>by cases h
 | .tuple _,.str _,_,_,h=>by cases h
 | .none,_,h,_,_=>by cases h
 | .bool _,_,h,_,_=>by cases h
 | .list _,_,h,_,_=>by cases h
 | .dict _,_,h,_,_=>by cases h
 | _,.none,_,h,_=>by cases h
 | _,.bool _,_,h,_=>by cases h
 | _,.list _,_,h,_=>by cases h
 | _,.dict _,_,h,_=>by cases h
theorem eqv_plAll:∀(a b:List PyData),plAll a=true->plAll b=true->PyData.eqvAll a b=true->a=b
 | [],[],_,_,_=>rfl
 | x::xs,y::ys,h1,h2,h=>by
   simp only[plAll,a1Z] at h1 h2
   simp only[PyData.eqvAll,a1Z] at h
   rw[a8 x y h1.1 h2.1 h.1,eqv_plAll xs ys h1.2 h2.2 h.2]
 | [],_::_,_,_,h=>by cases h
 | _::_,[],_,_,h=>by cases h
end
abbrev Ln:=Str×Deed
theorem VM (l:Ln):plD (AF l)=true:=by
 obtain⟨h,D⟩:=l
 cases D <;> rfl
theorem B6 {l:Ln}(h1:AJ l.1) (h2:l.2.real):zH (AF l)=true:=by
 refine BV (FR ?_) ?_
 · simp only[List.forall_mem_cons]
   exact⟨BL h1,zG (OW h2.1),by simp⟩
 · have:l.2.d.depth<=3:=by cases l.2 <;> simp[Deed.d,a2V,a1J]
   simp only[AF,a2V,a1J];omega
def eqL (a b:Ln):Bool:=a0X (AF a) (AF b)
theorem U7 {a b:Ln}(h:eqL a b=true):a=b:=by
 have:=a8 _ _ (VM a) (VM b) h
 exact(List.cons.inj (B7 (ls:=[a]) (ls':=[b]) (by simp[this]))).1
def AO:List Ln->List Ln->Nat
 | a::r,b::s=>if eqL a b then AO r s+1 else 0
 | _,_=>0
theorem JB:∀(A B:List Ln),AO A B<=A.length/\AO A B<=B.length/\A.take (AO A B)=B.take (AO A B)
 | [],_=>by simp[AO]
 | _::_,[]=>by simp[AO]
 | a::r,b::s=>by
   obtain⟨h1,h2,h3⟩:=JB r s
   unfold AO
   by_cases e:eqL a b=true
   · rw[if_pos e]
     refine⟨by simp;omega,by simp;omega,?_⟩
     rw[b4Q,b4Q,h3,U7 e]
   · rw[if_neg e];simp
def fEq:PyData->PyData
 | .tuple [a,b]=>.bool (a0X a b)
 | _=>.none
theorem U8 (A B:List Ln):((L4 (A.map AF) (B.map AF)).map fEq++[b1K false]).findIdx? (fun e=>a0X e (.bool false))=some (AO A B):=by
 unfold L4
 induction A generalizing B with
 | nil=>cases B <;> rfl
 | cons a r ih=>
   cases B with
   | nil=>rfl
   | cons b s=>
     rw[zI,zI,a5Z,zI,zI,List.cons_append,List.findIdx?_cons,ih s]
     rw[show AO (a::r) (b::s)=if eqL a b=true then AO r s+1 else 0 from by rw[AO]]
     show(if a0X (.bool (eqL a b)) (.bool false)=true then some 0 else Option.map (fun i=>i+1) (some (AO r s)))=_
     cases e:eqL a b with
     | true=>rfl
     | false=>rfl
theorem S4 (A B:List PyData):∃bs:List Bool,(L4 A B).map fEq=bs.map .bool/\bs.length<=A.length:=by
 refine⟨(A.zip B).map fun p=>a0X p.1 p.2,?_,by rw[zX,List.length_zip];omega⟩
 unfold L4
 rw[zD,zD]
 rfl
theorem IT:∀(Ds:List Deed) (so sp so' sp':List Str),EL so sp Ds->KR so sp Ds=(so',sp')->(so++sp).Nodup->(∀j x,mkN Ds j=some x->x∉sp')/\(∀k x,x∈G8 Ds k->x∉sp')/\sp'.Sublist sp/\(so'++sp').Nodup
 | [],so,sp,so',sp',_,e,nd=>by cases e;exact⟨fun j x h=>by simp[mkN] at h,fun k x h=>by simp[G8] at h,a4X _,nd⟩
 | D::r,so,sp,so',sp',h,e,nd=>by
   obtain⟨h1,h2,_,h3⟩:=h
   have nd2:(CL so D++BX sp D).Nodup:=nd.sublist (FB h2)
   obtain⟨g1,g2,g3,g4⟩:=IT r _ _ _ _ h3 e nd2
   have dis:∀x,x∈so->x∈sp->False:=fun x a b=>(List.nodup_append.mp nd).2.2 x a x b rfl
   refine⟨fun j x ej=>?_,fun k x ek=>?_,g3.trans (HJ sp D),g4⟩
   · cases j with
     | zero=>
       intro hx
       have a:D.made=some x:=ej
       have q1:=g3.subset hx
       have q2:=h2 x a
       unfold BX at q1
       rw[a] at q1
       dsimp only at q1
       have nsp:sp.Nodup:=(List.nodup_append.mp nd).2.1
       cases sp with
       | nil=>simp at q2
       | cons y ys=>
         have:y=x:=by simpa using q2
         subst this
         exact(xU.mp nsp).1 (by simpa using q1)
     | succ j=>exact g1 j x ej
   · cases k with
     | zero=>
       have hm:x∈D.must:=ek
       obtain⟨a,b⟩:=yL.mp hm
       have b':¬D.made=some x:=of_decide_eq_true b
       exact fun q=>dis x (ZQ h1 a b') ((HJ sp D).subset (g3.subset q))
     | succ k=>exact g2 k x ek
theorem a9 (a b:List Deed) (i:Nat):mkN (a++b) i=if i < a.length then mkN a i else mkN b (i - a.length):=by
 unfold mkN;rw[List.getElem?_append];by_cases c:i < a.length
 · rw[if_pos c,if_pos c]
 · rw[if_neg c,if_neg c]
theorem aA (a b:List Deed) (i:Nat):G8 (a++b) i=if i < a.length then G8 a i else G8 b (i - a.length):=by
 unfold G8;rw[List.getElem?_append];by_cases c:i < a.length
 · rw[if_pos c,if_pos c]
 · rw[if_neg c,if_neg c]
theorem XA {a b:List Deed}{so sp so' sp' sp2:List Str}(h1:EL so sp a) (e:KR so sp a=(so',sp')) (nd:(so++sp).Nodup) (p:sp2.Perm sp') (h2:EL so' sp2 b):FreshD (a++b):=by
 obtain⟨g1,g2,g3,g4⟩:=IT a so sp so' sp' h1 e nd
 obtain⟨_,fa⟩:=KB a so sp h1 nd
 obtain⟨mb,fb⟩:=KB b so' sp2 h2 ((b7X so' p).nodup_iff.mpr g4)
 refine⟨fun i j x e1 e2=>?_,fun j k x e1 e2=>?_⟩
 · rw[a9] at e1 e2
   split at e1 <;> split at e2
   · exact fa.one i j x e1 e2
   · exact absurd (p.mem_iff.mp (mb _ x e2)) (g1 _ x e1)
   · exact absurd (p.mem_iff.mp (mb _ x e1)) (g1 _ x e2)
   · have:=fb.one _ _ x e1 e2;omega
 · rw[a9] at e1
   rw[aA] at e2
   split at e1 <;> split at e2
   · exact fa.bef j k x e1 e2
   · omega
   · exact absurd (p.mem_iff.mp (mb _ x e1)) (g2 _ x e2)
   · have:=fb.bef _ _ x e1 e2;omega
def KD (c n:Nat):List Nat:=(a1X (n - c)).map fun k=>c+k
theorem aB (c n:Nat):X8 (c:Int) (n:Int)=CJ (KD c n):=by
 unfold X8 KD CJ S3
 rw[zD,zD,show((n:Int) - (c:Int)).toNat=n - c by omega]
 apply yM
 intro k _
 show a8V ((c:Int)+(k:Int)) = .int ((c+k:Nat):Int)
 rw[Int.natCast_add]
theorem MZ {c n k:Nat}:k∈KD c n↔c<=k/\k < n:=by
 unfold KD
 rw[zL]
 constructor
 · rintro⟨i,hi,rfl⟩
   have:=List.mem_range.mp hi;omega
 · rintro⟨h1,h2⟩
   exact⟨k - c,List.mem_range.mpr (by omega),by omega⟩
theorem N0 (c n:Nat):(KD c n).length=n - c:=by simp[KD]
section
variable {M:Own}{Q:DS->Own->Prop}{w:List Th}{A B:List Ln}
def EM (A:List Ln):Prop:=(∀l∈A,AJ l.1/\l.2.real)/\A.length<=50
theorem goodB.lns (h:goodB w A):EM A:=⟨fun l hl=>⟨h.hands l hl,h.real l hl⟩,h.few⟩
def CY:FSp:=⟨fun xs M=>∃A B:List Ln,xs=[.d (AB A),.d (AB B)]/\EM A/\EM B,fun xs M y M'=>∀A B:List Ln,xs=[.d (AB A),.d (AB B)]->y = .d (.int (AO A B:Nat))/\M'=M⟩
theorem U9 (ha:EM A) (hb:EM B) (q:Q (.d (.int (AO A B:Nat))) M):[DS.d (AB A),.d (AB B)].length=2/\CY.pre [.d (AB A),.d (AB B)] M/\∀x M',CY.post [.d (AB A),.d (AB B)] M x M'->Q x M':=
 ⟨rfl,⟨A,B,rfl,ha,hb⟩,fun x M' h=>by obtain⟨rfl,rfl⟩:=h A B rfl;exact q⟩
abbrev b2X (w:List Th) (A B:List Ln):List DS:=[.d (AL w A),.d (AL w B)]
def aC (w:List Th) (A B:List Ln):Prop:=okN w/\goodB w A/\goodB w B
theorem aD {w':List Th}{A' B':List Ln}(e:b2X w A B=b2X w' A' B'):wD w=wD w'/\A=A'/\B=B':=by
 simp only[List.cons.injEq,DS.d.injEq,and_true] at e
 obtain⟨a,b⟩:=DC e.1
 exact⟨a,b,(DC e.2).2⟩
def DD:FSp:=⟨fun xs M=>∃(w:List Th) (A B:List Ln),xs=b2X w A B/\aC w A B,fun xs M y M'=>∀(w:List Th) (A B:List Ln),xs=b2X w A B->y = .d (.int (AO A B:Nat))/\M'=M⟩
theorem KS (h:aC w A B) (q:Q (.d (.int (AO A B:Nat))) M):(b2X w A B).length=2/\DD.pre (b2X w A B) M/\∀x M',DD.post (b2X w A B) M x M'->Q x M':=
 ⟨rfl,⟨w,A,B,rfl,h⟩,fun x M' hh=>by obtain⟨rfl,rfl⟩:=hh w A B rfl;exact q⟩
def HK:FSp:=⟨fun xs M=>∃(w:List Th) (A:List Ln) (c:Nat),xs=[.d (AL w A),.d (.int c)]/\goodB w A/\c<=50,fun xs M y M'=>∀(w:List Th) (A:List Ln) (c:Nat),xs=[.d (AL w A),.d (.int c)]->y = .d (.list (CJ (KD c A.length)))/\M'=M⟩
theorem N1 {c:Nat}(h:goodB w A) (hc:c<=50) (q:Q (.d (.list (CJ (KD c A.length)))) M):[DS.d (AL w A),.d (.int c)].length=2/\HK.pre [.d (AL w A),.d (.int c)] M/\∀x M',HK.post [.d (AL w A),.d (.int c)] M x M'->Q x M':=
 ⟨rfl,⟨w,A,c,rfl,h,hc⟩,fun x M' hh=>by obtain⟨rfl,rfl⟩:=hh w A c rfl;exact q⟩
def VN (d:PyData):PyData:=.tuple [.str (a0Q "joined"),d]
abbrev lnX (so sp:List Str) (cs:List Int):List DS:=[.d (AN so),.d (AN sp),.d (.list (cs.map .int))]
def lnQ (so sp:List Str) (cs:List Int) (ls:List Ln) (so' sp':List Str):Prop:=EL so sp (dsL ls)/\KR so sp (dsL ls)=(so',sp')/\(∀l∈ls,AJ l.1)/\ls.length<=cs.length/\namesOK (so'++sp')
def FD:FSp:=⟨fun xs M=>∃(so sp:List Str) (cs:List Int),xs=lnX so sp cs/\namesOK (so++sp)/\(∀c∈cs,xI c<=2 ^ 21)/\cs.length<=20,fun xs M y M'=>∀(so sp:List Str) (cs:List Int),xs=lnX so sp cs->M'=M/\∃(ls:List Ln) (so' sp':List Str),y = .d (.tuple [.list (ls.map AF),AN so',AN sp'])/\lnQ so sp cs ls so' sp'⟩
theorem IU {so sp:List Str}{cs:List Int}(h1:namesOK (so++sp)) (h2:∀c∈cs,xI c<=2 ^ 21) (h3:cs.length<=20) (q:∀(ls:List Ln) (so' sp':List Str),lnQ so sp cs ls so' sp'->Q (.d (.tuple [.list (ls.map AF),AN so',AN sp'])) M):(lnX so sp cs).length=3/\FD.pre (lnX so sp cs) M/\∀x M',FD.post (lnX so sp cs) M x M'->Q x M':=
 ⟨rfl,⟨so,sp,cs,rfl,h1,h2,h3⟩,fun x M' hh=>by obtain⟨rfl,ls,so',sp',rfl,h⟩:=hh so sp cs rfl;exact q ls so' sp' h⟩
theorem N2 {so sp so' sp' so2 sp2 sp3:List Str}{cs cs2:List Int}{ls as:List Ln}(hn:namesOK (so++sp)) (h1:lnQ so sp cs ls so' sp') (p:sp3.Perm sp') (h2:lnQ so' sp3 cs2 as so2 sp2) (hl:cs.length+cs2.length<=50):goodB w (ls++as) where
 fresh:=by
   have e:dsL (ls++as)=dsL ls++dsL as:=xH
   rw[e]
   exact XA h1.1 h1.2.1 hn.2.1 p h2.1
 real:=fun l hl=>by
   rcases yW.mp hl with q | q
   · exact IS h1.1 _ (zL.mpr ⟨l,q,rfl⟩)
   · exact IS h2.1 _ (zL.mpr ⟨l,q,rfl⟩)
 few:=by rw[yY];have:=h1.2.2.2.1;have:=h2.2.2.2.1;omega
 hands:=fun l hl=>by
   rcases yW.mp hl with q | q
   · exact h1.2.2.1 l q
   · exact h2.2.2.1 l q
theorem EA (h:okN w):zH (wD w)=true:=by
 refine BV (FR fun d hd=>?_) ?_
 · obtain⟨t,ht,rfl⟩:=zL.mp hd
   exact zG (U4 (h t ht))
 · have:a1J (w.map thD)<=3:=MH fun d hd=>by
     obtain⟨t,ht,rfl⟩:=zL.mp hd
     simp[thD,a2V,a1J]
   simp only[wD,a2V]
   omega
end
end DL
namespace L2
open PySem PySem.Spec PyProof.Rows
theorem IV:typeLookup (.type "tuple") (dunderI "add")=pure none:=by rw[typeLookup_type,builtinLookup_eq_fast];kernel_rfl
theorem IW {prog:Program}{w:World}{A:Around}{E:Value->Shared->Prop}{s:Shared}{T id:String}{B:Builtin}{a b:Value}{S:PySem.Spec}{Q:Value->Shared->Prop}(ha:s.TypeIs a T) (hb:s.TypeIs b T) (hno:typeLookup (.type T) (dunderI "add")=pure none)
   (hf:fillsNumberSlot (.type T) "add"=pure false) (hs:seqSlot? (.type T) "__add__"=pure (some (.builtin id))) (sl:Slot T "__add__" id) (en:entryFor table id=some B) (ar:argsOk id ⟨[a,b],[]⟩) (g:Meets (B ⟨[a,b],[]⟩) S) (h:S A (wants Q E) s):wpAny (model prog w) A (inplaceOp .Add a b) Q E s:=
 wpAny_inplaceOp_concat ha hb hno hf hs (call_meets sl ha en ar g h)
section
variable {X:Cx}
def jV (K:Frg):R2:=fun x y H Q=>ipI (fun i j=>i+j) x y H Q∨TD K x y H Q
theorem UA {K:Frg}(hK:X.K=K):PIp X .Add (jV K):=by
 subst hK
 intro pins s σ H x y v u Q I rx ry h
 rcases h with h | h
 · exact gU pins s σ H x y v u Q I rx ry h
 obtain⟨t,b,xs,ys,rfl,rfl,hx,hy,hz,q0,q1,q2⟩:=h
 cases rx
 cases ry
 obtain⟨its,r,ht,_⟩:=I.tuple hx
 obtain⟨its2,r2,hb,_⟩:=I.tuple hy
 have e1:=r.length
 have e2:=r2.length
 obtain⟨⟨cls,dd,data,sl⟩,ho,hc,n,hd⟩:=id ht
 obtain⟨⟨cls2,dd2,data2,sl2⟩,ho2,hc2,n2,hd2⟩:=id hb
 dsimp only at hc hd hc2 hd2
 subst hc hd hc2 hd2
 have e:its.toArray++its2.toArray=(its++its2).toArray:=by simp
 by_cases hv:its=[]
 · have hx0:xs=[]:=by cases r with | nil=>rfl | cons _ _=>cases hv
   exact IW ⟨_,ho,rfl⟩ ⟨_,ho2,rfl⟩ IV noFill_tuple_add seq_tuple_add a6Q a5K (a5Q _ _)
     (tuple_addW0 t b its.toArray its2.toArray n n2 dd dd2 sl sl2 (by simp[hv])) ⟨ho,ho2,⟨.ref b,H,I,rfl,q0 hx0⟩⟩
 · by_cases hw:its2=[]
   · have hy0:ys=[]:=by cases r2 with | nil=>rfl | cons _ _=>cases hw
     exact IW ⟨_,ho,rfl⟩ ⟨_,ho2,rfl⟩ IV noFill_tuple_add seq_tuple_add a6Q a5K (a5Q _ _)
       (tuple_addW1 t b its.toArray its2.toArray n n2 dd dd2 sl sl2 (by simpa using hv) (by simp[hw])) ⟨ho,ho2,⟨.ref t,H,I,rfl,q1 hy0⟩⟩
   · refine IW ⟨_,ho,rfl⟩ ⟨_,ho2,rfl⟩ IV noFill_tuple_add seq_tuple_add a6Q a5K (a5Q _ _)
       (tuple_addW2 t b its.toArray its2.toArray n n2 dd dd2 sl sl2 (by simpa using hv) (by simpa using hw) (by rw[zJ,zJ];omega)) ⟨ho,ho2,?_⟩
     rw[e]
     refine⟨.ref s.heap.objs.size,_,I.laid (t':=s.toks) (o:=.tup (xs++ys)) (fun b ob q=>zW _ q) (zR _) ?_,rfl,q2 _ I.fresh⟩
     exact⟨by rw[yY];exact hz,its++its2,r.append r2,IsTup.new _ _⟩
end
end L2
namespace DL
open PySem PySem.Spec L2
section
variable {K:Frg}{ρ:List (Option DS)}{M:Own}{D:EndsD}
theorem Q1 {i:Nat}{te:TE}{r:R2}(h:∃x,ρ[i]?=some (some x)/\DE K te ρ M fun y M1=>D2 K r x y M1 fun z M2=>D.nx (ρ.set i (some z)) M2):DSt K (kH i te r) ρ M D:=fun σ H E R k1 _ _ _=>by
 obtain⟨x,e,h⟩:=h
 obtain⟨v,ev,sv⟩:=R.slot i x e
 refine⟨v,ev,h σ H _ R fun u H1 y M1 o1 s1 t1 q=>?_⟩
 exact q H1 v u _ o1 (SI.step t1 sv) s1 fun z H2 w M2 o2 s2 t2 q2=>k1 _ M2 _ H2 (((R.step o1 t1).step o2 t2).set s2 i) (t1.trans t2) q2
theorem VO {i j:Int}{Q:DS->Own->Prop}(q:Q (.d (.int (i+j))) M):D2 K (jV K) (.d (.int i)) (.d (.int j)) M Q:=fun H v u QQ oa s1 s2 k=>by
 unfold SI DV at s1 s2
 subst s1;subst s2
 exact .inl ⟨i,j,rfl,rfl,k _ H (.d (.int (i+j))) M oa (by unfold SI DV;rfl) Step.refl q⟩
theorem VP {as bs:List PyData}{Q:DS->Own->Prop}(hz:as.length+bs.length<=sizeLine) (q:Q (.d (.tuple (as++bs))) M):D2 K (jV K) (.d (.tuple as)) (.d (.tuple bs)) M Q:=fun H v u QQ oa s1 s2 k=>by
 have s1':=s1
 have s2':=s2
 unfold SI DV at s1 s2
 obtain⟨a,vs,rfl,hl,hd⟩:=s1
 obtain⟨b,us,rfl,hl2,hd2⟩:=s2
 refine .inr ⟨a,b,vs,us,rfl,rfl,hl.sq,hl2.sq,by rw[hd.length,hd2.length];exact hz,fun e=>?_,fun e=>?_,fun p hp=>?_⟩
 · have:as=[]:=by have:=hd.length;rw[e] at this;exact List.length_eq_zero_iff.mp this.symm
   subst this
   exact k _ H (.d (.tuple ([]++bs))) M oa s2' Step.refl q
 · have:bs=[]:=by have:=hd2.length;rw[e] at this;exact List.length_eq_zero_iff.mp this.symm
   subst this
   rw[a3K] at q
   exact k _ H (.d (.tuple as)) M oa s1' Step.refl q
 · have g:Grow K M.W M.W H (upd H p (.tup (vs++us))):=B0 _ hp
   refine k _ _ (.d (.tuple (as++bs))) M (oa.new hp) ?_ ⟨g⟩ q
   unfold SI DV
   exact⟨p,_,rfl,.inl ⟨fun w=>w (oa.none hp),.inl AH⟩,(hd.append hd2).grow g⟩
theorem S5 {tc:TT}{tb:TS}(P:Nat->List (Option DS)->Own->Prop) (p0:∃m,P m ρ M) (pt:∀m ρ' M',P m ρ' M'->DT K tc ρ' M' fun c M1=>if c=true then DSt K tb ρ' M1 (D.turn fun ρ2 M2=>∃m',m' < m/\P m' ρ2 M2) else D.nx ρ' M1):DSt K (XT tc tb) ρ M D:=fun σ H E R k1 k2 k3 k4=>by
 obtain⟨m0,p0⟩:=p0
 refine⟨fun m σ' H'=>∃ρ' M',Rel K M' ρ' σ' H'/\Step K M M' H H'/\P m ρ' M',⟨m0,ρ,M,R,Step.refl,p0⟩,?_⟩
 rintro m σ' H' ⟨ρ',M',R',st,p⟩
 refine pt m ρ' M' p σ' H' _ R' fun c H1 M1 o1 t1 q=>?_
 cases c with
 | false=>
   rw[if_neg nft] at q ⊢
   exact k1 ρ' M1 σ' H1 (R'.step o1 t1) (st.trans t1) q
 | true=>
   rw[if_pos rfl] at q ⊢
   refine⟨fun σ2 H2=>∃ρ2 M2,Rel K M2 ρ2 σ2 H2/\Step K M M2 H H2/\∃m',m' < m/\P m' ρ2 M2,fun σ2 H2 ⟨ρ2,M2,a,b,m',hm,c⟩=>⟨m',hm,ρ2,M2,a,b,c⟩,?_⟩
   have s3:=st.trans t1
   exact q σ' H1 _ (R'.step o1 t1) (fun r m s hh R4 st4 q=>⟨r,m,R4,s3.trans st4,q⟩) (fun w hh x m a b c q=>k2 w hh x m a b (s3.trans c) q)
     (fun r m s hh R4 st4 q=>k1 r m s hh R4 (s3.trans st4) q) (fun r m s hh R4 st4 q=>⟨r,m,R4,s3.trans st4,q⟩)
end
end DL
namespace DL
open PySem PySem.Spec L2
def BN:Deed->Option Str | .take x=>some x | .name x _=>some x | .join _ y=>some y | _=>none
def HR:Option Str->PyData | some x=>.str x | none=>.none
def UB:Option Nat->PyData | some x=>.int x | none=>.none
theorem Q2 (D:Deed):ZN D.d=HR (BN D):=by cases D <;> rfl
theorem aE (D:Deed):OV D.d=HR D.made:=by cases D <;> rfl
theorem JC {D:Deed}(hr:D.real) {z:Str}(h:BN D=some z):AJ z:=hr.1 z (by cases D <;> simp_all [BN,Deed.names])
theorem N3 {D:Deed}(hr:D.real) {z:Str}(h:D.made=some z):AJ z:=hr.1 z (by cases D <;> simp_all [Deed.made,Deed.names])
theorem DX {e:Option Str}(h:∀z,e=some z->AJ z):zH (HR e)=true:=by
 cases e with
 | none=>rfl
 | some z=>exact AK (h z rfl)
theorem S6 (a b:Option Str):a0X (HR a) (HR b)=decide (a=b):=by
 cases a <;> cases b
 · rfl
 · rfl
 · rfl
 · rename_i x y
   show a0X (.str x) (.str y)=_
   rw[CF,b4J,beq_iff_eq,decide_eq_true_iff,Option.some.injEq]
def FE (A:List Ln) (e:Option Str) (k:Nat):Bool:=match e with | some x=>decide (x∈G8 (dsL A) k) | none=>false
def g0 (A:List Ln) (e:Option Str):PyData->Bool | .int i=>FE A e i.toNat | _=>false
theorem XB (A:List Ln) (e:Option Str) (κ:List Nat):((CJ κ).filter (g0 A e)).map id=CJ (κ.filter (FE A e)):=by
 rw[b4X]
 unfold CJ S3
 rw[xT,xT,zD,zD]
 congr 1
theorem dX {A:List Ln}{e:Option Str}{k:Nat}{l:Ln}(hl:(dsL A)[k]?=some l.2):((l.2.must.map a0W).any fun d=>a0X d (HR e))=FE A e k:=by
 unfold FE G8
 rw[hl]
 cases e with
 | none=>show(l.2.must.map a0W).any (fun d=>a0X d .none)=false;rw[List.any_map];exact List.any_eq_false.mpr fun z _=>by simp[a0X]
 | some x=>exact JA _ _
def FZ (A:List Ln) (c:Nat) (e:Option Str):Option Nat:=((KD c A.length).filter (FE A e)).head?
theorem S7 {A:List Ln}{c k:Nat}{e:Option Str}(h:FZ A c e=some k):c<=k/\∃a x,A[k]?=some a/\e=some x/\x∈a.2.must:=by
 have hm:=List.mem_of_mem_head? h
 obtain⟨h1,h2⟩:=yL.mp hm
 obtain⟨h3,h4⟩:=MZ.mp h1
 refine⟨h3,A[k],?_⟩
 unfold FE at h2
 cases e with
 | none=>cases h2
 | some x=>
   refine⟨x,zV h4,rfl,?_⟩
   have:=of_decide_eq_true h2
   unfold G8 at this
   rw[zF,zV h4] at this
   exact this
abbrev qD (s:String) (ns:List Nat):PyData:=.tuple (.str (a0Q s)::CJ ns)
def VQ (A B:List Ln) (c:Nat) (d:PyData):Prop:=∃i j a b x,c<=i/\c<=j/\A[i]?=some a/\B[j]?=some b/\(d=qD "made" [i,j]/\a.2.made=some x/\b.2.made=some x∨d=qD "ended" [i,j]/\BN a.2=some x/\BN b.2=some x)
def jW (A B:List Ln) (c:Nat) (d:PyData):Prop:=∃i j k l a b b' a' x y,d=qD "round" [i,j,k,l]/\c<=l/\l<=i/\c<=j/\j<=k/\A[i]?=some a/\B[j]?=some b/\B[k]?=some b'/\A[l]?=some a'/\BN b.2=some x/\x∈a.2.must/\BN a'.2=some y/\y∈b'.2.must
def g9 (A B:List Ln) (c:Nat) (d:PyData):Prop:=VQ A B c d∨jW A B c d
theorem XC {A B:List Ln}:∀{k:Nat},k<=AO A B->((∃a b,A[k]?=some a/\B[k]?=some b/\eqL a b=true)↔k < AO A B):=by
 induction A generalizing B with
 | nil=>intro k hk;simp[AO]
 | cons a r ih=>
   cases B with
   | nil=>intro k hk;simp[AO]
   | cons b s=>
     intro k hk
     rw[show AO (a::r) (b::s)=if eqL a b=true then AO r s+1 else 0 by rw[AO]] at hk ⊢
     by_cases e:eqL a b=true
     · rw[if_pos e] at hk ⊢
       cases k with
       | zero=>simp[e]
       | succ k=>
         have:=ih (B:=s) (k:=k) (by omega)
         simp only[List.getElem?_cons_succ]
         rw[this];omega
     · rw[if_neg e] at hk ⊢
       have:k=0:=by omega
       subst this
       simp[e]
theorem KU {ss:List Str}(h:∀s∈ss,AJ s):zH (.tuple (ss.map .str))=true:=by
 refine BV (FR fun d hd=>?_) ?_
 · obtain⟨s,hs,rfl⟩:=zL.mp hd
   exact BL (h s hs)
 · have:a1J (ss.map .str)<=2:=MH fun d hd=>by
     obtain⟨s,hs,rfl⟩:=zL.mp hd
     simp[a2V]
   simp only[a2V]
   omega
section
variable {M:Own}{Q:DS->Own->Prop}{w:List Th}{A B:List Ln}
abbrev aF (w:List Th) (A:List Ln) (κ:List Nat) (e:Option Str):List DS:=[.d (AL w A),.d (.list (CJ κ)),.d (HR e)]
def JD:FSp:=⟨fun xs M=>∃(w:List Th) (A:List Ln) (κ:List Nat) (e:Option Str),xs=aF w A κ e/\goodB w A/\(∀k∈κ,k < A.length)/\κ.length<=60/\∀z,e=some z->AJ z,fun xs M y M'=>∀(w:List Th) (A:List Ln) (κ:List Nat) (e:Option Str),xs=aF w A κ e->y = .d (.tuple (CJ (κ.filter (FE A e))))/\M'=M⟩
theorem aG {κ:List Nat}{e:Option Str}(h1:goodB w A) (h2:∀k∈κ,k < A.length) (h3:κ.length<=60) (h4:∀z,e=some z->AJ z) (q:Q (.d (.tuple (CJ (κ.filter (FE A e))))) M):(aF w A κ e).length=3/\JD.pre (aF w A κ e) M/\∀x M',JD.post (aF w A κ e) M x M'->Q x M':=
 ⟨rfl,⟨w,A,κ,e,rfl,h1,h2,h3,h4⟩,fun x M' hh=>by obtain⟨rfl,rfl⟩:=hh w A κ e rfl;exact q⟩
theorem aH {a b:Option Str}(h:HR a=HR b):a=b:=by cases a <;> cases b <;> simp_all [HR]
abbrev KF (w:List Th) (A:List Ln) (c:Nat) (l:Ln):List DS:=[.d (AL w A),.d (.int c),.d (AF l)]
def EB:FSp:=⟨fun xs M=>∃(w:List Th) (A:List Ln) (c:Nat) (l:Ln),xs=KF w A c l/\goodB w A/\c<=50/\l.2.real,fun xs M y M'=>∀(w:List Th) (A:List Ln) (c:Nat) (l:Ln),xs=KF w A c l->y = .d (UB (FZ A c (BN l.2)))/\M'=M⟩
theorem JE {c:Nat}{l:Ln}(h1:goodB w A) (h2:c<=50) (h3:l.2.real) (q:Q (.d (UB (FZ A c (BN l.2)))) M):(KF w A c l).length=3/\EB.pre (KF w A c l) M/\∀x M',EB.post (KF w A c l) M x M'->Q x M':=
 ⟨rfl,⟨w,A,c,l,rfl,h1,h2,h3⟩,fun x M' hh=>by obtain⟨rfl,rfl⟩:=hh w A c l rfl;exact q⟩
def S8 (f:Deed->List Str):FSp:=⟨fun xs M=>∃D:Deed,xs=[.d D.d]/\D.real,fun xs M y M'=>∀D:Deed,xs=[.d D.d]->y = .d (.tuple ((f D).map .str))/\M'=M⟩
theorem IX {f:Deed->List Str}{D:Deed}(hr:D.real) (q:Q (.d (.tuple ((f D).map .str))) M):[DS.d D.d].length=1/\(S8 f).pre [.d D.d] M/\∀x M',(S8 f).post [.d D.d] M x M'->Q x M':=
 ⟨rfl,⟨D,rfl,hr⟩,fun x M' hh=>by obtain⟨rfl,rfl⟩:=hh D rfl;exact q⟩
def G9 (D:Deed):List Str:=D.made.toList
def Q3 (D:Deed):List Str:=(BN D).toList
def N4:FSp:=S8 G9
def KG:FSp:=S8 Q3
def E2:Deed->List Str | .put _ _ _=>[] | .join x y=>[x,y] | .take x=>[x] | .move x _=>[x] | .count x _=>[x] | .name x _=>[x] | .split x _ _ _=>[x]
theorem LR {D:Deed}(hr:D.real):D.must=E2 D:=by
 have hap:=hr.2.1
 cases D <;> first | (simp[Deed.must,Deed.names,Deed.made,E2];done) | (simp[Deed.must,Deed.names,Deed.made,E2,b5J hap];done)
def IY:FSp:=S8 E2
def HL:FSp:=⟨fun xs M=>∃A B:List Ln,xs=[.d (AB A),.d (AB B)]/\EM A/\EM B,fun xs M y M'=>∀A B:List Ln,xs=[.d (AB A),.d (AB B)]->y = .d (.int (AO A B:Nat))/\M'=M⟩
theorem aI (ha:EM A) (hb:EM B) (q:Q (.d (.int (AO A B:Nat))) M):[DS.d (AB A),.d (AB B)].length=2/\HL.pre [.d (AB A),.d (AB B)] M/\∀x M',HL.post [.d (AB A),.d (AB B)] M x M'->Q x M':=
 ⟨rfl,⟨A,B,rfl,ha,hb⟩,fun x M' h=>by obtain⟨rfl,rfl⟩:=h A B rfl;exact q⟩
theorem aJ {K:Frg}{ds:List PyData}(q:Q (.d (.list ds)) M):DR K (PL K) [.d (.list ds)] M Q:=fun H vs QQ oa s k=>by
 obtain⟨v,r,rfl,h1,h2⟩:=s
 cases h2
 unfold SI DV at h1
 obtain⟨a,vs,rfl,hl,hd⟩:=h1
 refine⟨a,vs,rfl,.inl hl.sq,fun p hp=>?_⟩
 have g:Grow K M.W M.W H (upd H p (.lst vs)):=B0 _ hp
 refine k _ _ (.d (.list ds)) M (oa.new hp) ?_ ⟨g⟩ q
 unfold SI DV
 exact⟨p,vs,rfl,.inl ⟨fun w=>w (oa.none hp),.inl AH⟩,hd.grow g⟩
def m3 (ls:List Str) (d:PyData):Bool:=!((ls.map a0W).any fun e=>a0X e d)
theorem aK (ls st:List Str):((st.map a0W).filter (m3 ls)).map id=(st.filter fun z=>!decide (z∈ls)).map .str:=by
 rw[b4X,xT]
 congr 1
 apply List.filter_congr
 intro z _
 show(!((ls.map a0W).any fun e=>a0X e (.str z)))=_
 rw[JA]
end
end DL
namespace DL
open PySem PySem.Spec L2
def enN (Ds:List Deed) (j:Nat):Option Str:=(Ds[j]?).bind BN
def wnN (Ds:List Deed) (j:Nat):List Str:=match Ds[j]? with | some D=>E2 D | none=>[]
def BkD (S:List Str) (Ds:List Deed):Prop:=∀k,(∀x,mkN Ds k=some x->x∉S/\∀j,j < k->mkN Ds j≠some x)/\∀x∈wnN Ds k,(x∈S∨∃j,j < k/\mkN Ds j=some x)/\∀j,j < k->enN Ds j≠some x
def Q4 (st kn:List Str) (D:Deed):Bool:=!((G9 D).any fun x=>decide (x∈kn))&&!((E2 D).any fun x=>!decide (x∈st))
def S9 (st:List Str) (D:Deed):List Str:=(st.filter fun z=>!decide (z∈Q3 D))++G9 D
def L8:List Str->List Str->List Deed->Bool
 | _,_,[]=>true
 | st,kn,D::r=>Q4 st kn D&&L8 (S9 st D) (kn++G9 D) r
theorem N5 {D:Deed}{x:Str}(h:BN D=some x):x∈E2 D:=by cases D <;> simp_all [BN,E2]
theorem DF {D:Deed}{x:Str}:x∈G9 D↔D.made=some x:=by unfold G9;cases D.made <;> simp[eq_comm]
theorem N6 {D:Deed}{x:Str}:x∈Q3 D↔BN D=some x:=by unfold Q3;cases BN D <;> simp[eq_comm]
theorem N7 {st kn:List Str}{D:Deed}:Q4 st kn D=true↔(∀x,D.made=some x->x∉kn)/\∀x∈E2 D,x∈st:=by
 unfold Q4
 rw[a1Z,Bool.not_eq_true',Bool.not_eq_true',b6W,b6W]
 constructor
 · rintro⟨h1,h2⟩
   exact⟨fun x e q=>h1 x (DF.mpr e) (decide_eq_true q),fun x hx=>by have:=h2 x hx;simpa using this⟩
 · rintro⟨h1,h2⟩
   exact⟨fun x e q=>h1 x (DF.mp e) (of_decide_eq_true q),fun x hx=>by have:=h2 x hx;simpa using this⟩
theorem BD {Ds:List Deed}{D:Deed}{k:Nat}:(Ds++[D])[k]?=if k < Ds.length then Ds[k]? else if k=Ds.length then some D else none:=by
 rw[List.getElem?_append]
 split
 · rfl
 · rename_i h
   by_cases e:k=Ds.length
   · subst e;simp
   · rw[if_neg e];rw[a0J];simp;omega
structure StB (S st kn:List Str) (Ds:List Deed):Prop where
 bk:BkD S Ds
 kn_:∀x,x∈kn↔x∈S∨∃j,mkN Ds j=some x
 st_:∀x,x∈st↔x∈kn/\∀j,enN Ds j≠some x
theorem E4 {S:List Str}{Ds:List Deed}{D:Deed}:BkD S (Ds++[D])↔BkD S Ds/\(∀x,D.made=some x->x∉S/\∀j,mkN Ds j≠some x)/\∀x∈E2 D,(x∈S∨∃j,mkN Ds j=some x)/\∀j,enN Ds j≠some x:=by
 have lt1:∀j,j < Ds.length->mkN (Ds++[D]) j=mkN Ds j/\enN (Ds++[D]) j=enN Ds j/\wnN (Ds++[D]) j=wnN Ds j:=fun j hj=>by
   unfold mkN enN wnN
   rw[BD,if_pos hj]
   exact⟨rfl,rfl,rfl⟩
 have out:∀j,Ds.length<=j->mkN Ds j=none/\enN Ds j=none:=fun j hj=>by
   unfold mkN enN
   rw[a0J hj];exact⟨rfl,rfl⟩
 have at_:mkN (Ds++[D]) Ds.length=D.made/\wnN (Ds++[D]) Ds.length=E2 D:=by
   unfold mkN wnN
   rw[BD,if_neg (yF _),if_pos rfl];exact⟨rfl,rfl⟩
 have inD:∀{j x},mkN Ds j=some x->j < Ds.length:=fun {j x} e=>by
   rcases Nat.lt_or_ge j Ds.length with q | q
   · exact q
   · rw[(out j q).1] at e;cases e
 have inE:∀{j x},enN Ds j=some x->j < Ds.length:=fun {j x} e=>by
   rcases Nat.lt_or_ge j Ds.length with q | q
   · exact q
   · rw[(out j q).2] at e;cases e
 constructor
 · intro h
   refine⟨fun k=>?_,fun x e=>?_,fun x hx=>?_⟩
   · by_cases hk:k < Ds.length
     · obtain⟨a,b⟩:=h k
       rw[(lt1 k hk).1,(lt1 k hk).2.2] at *
       refine⟨fun x e=>⟨(a x e).1,fun j hj=>?_⟩,fun x hx=>⟨(b x hx).1.imp id fun⟨j,hj,e⟩=>⟨j,hj,by rw[← (lt1 j (by omega)).1];exact e⟩,fun j hj=>?_⟩⟩
       · rw[← (lt1 j (by omega)).1];exact(a x e).2 j hj
       · rw[← (lt1 j (by omega)).2.1];exact(b x hx).2 j hj
     · refine⟨fun x e=>absurd (inD e) hk,fun x hx=>?_⟩
       unfold wnN at hx
       rw[a0J (by omega)] at hx;cases hx
   · obtain⟨a,b⟩:=(h Ds.length).1 x (by rw[at_.1];exact e)
     exact⟨a,fun j ej=>b j (inD ej) (by rw[(lt1 j (inD ej)).1];exact ej)⟩
   · obtain⟨a,b⟩:=(h Ds.length).2 x (by rw[at_.2];exact hx)
     exact⟨a.imp id fun⟨j,hj,e⟩=>⟨j,by rw[← (lt1 j hj).1];exact e⟩,fun j ej=>b j (inE ej) (by rw[(lt1 j (inE ej)).2.1];exact ej)⟩
 · rintro⟨h,hm,hw⟩ k
   rcases b7Q k Ds.length with hk | hk | hk
   · obtain⟨a,b⟩:=h k
     rw[(lt1 k hk).1,(lt1 k hk).2.2]
     refine⟨fun x e=>⟨(a x e).1,fun j hj=>?_⟩,fun x hx=>⟨(b x hx).1.imp id fun⟨j,hj,e⟩=>⟨j,hj,by rw[(lt1 j (by omega)).1];exact e⟩,fun j hj=>?_⟩⟩
     · rw[(lt1 j (by omega)).1];exact(a x e).2 j hj
     · rw[(lt1 j (by omega)).2.1];exact(b x hx).2 j hj
   · subst hk
     rw[at_.1,at_.2]
     refine⟨fun x e=>⟨(hm x e).1,fun j hj=>?_⟩,fun x hx=>⟨(hw x hx).1.imp id fun⟨j,e⟩=>⟨j,inD e,by rw[(lt1 j (inD e)).1];exact e⟩,fun j hj=>?_⟩⟩
     · rw[(lt1 j hj).1];exact(hm x e).2 j
     · rw[(lt1 j hj).2.1];exact(hw x hx).2 j
   · have e:(Ds++[D])[k]?=none:=by rw[a0J];simp;omega
     unfold mkN wnN
     rw[e]
     exact⟨fun x q=>(by cases q),fun x q=>(by cases q)⟩
theorem StB.step {S st kn:List Str}{Ds:List Deed}{D:Deed}(h:StB S st kn Ds) (ok:Q4 st kn D=true):StB S (S9 st D) (kn++G9 D) (Ds++[D]):=by
 obtain⟨h1,h2⟩:=N7.mp ok
 have mk:∀x,(∃j,mkN (Ds++[D]) j=some x)↔(∃j,mkN Ds j=some x)∨D.made=some x:=fun x=>by
   constructor
   · rintro⟨j,e⟩
     unfold mkN at e
     rw[BD] at e
     split at e
     · exact .inl ⟨j,e⟩
     · split at e
       · exact .inr e
       · cases e
   · rintro (⟨j,e⟩ | e)
     · refine⟨j,?_⟩
       unfold mkN at e ⊢
       rw[BD]
       split
       · exact e
       · rename_i hj;rw[a0J (by omega)] at e;cases e
     · exact⟨Ds.length,by unfold mkN;rw[BD,if_neg (yF _),if_pos rfl];exact e⟩
 have en:∀x,(∀j,enN (Ds++[D]) j≠some x)↔(∀j,enN Ds j≠some x)/\BN D≠some x:=fun x=>by
   constructor
   · intro h
     refine⟨fun j e=>h j ?_,fun e=>h Ds.length ?_⟩
     · unfold enN at e ⊢
       rw[BD]
       split
       · exact e
       · rename_i hj;rw[a0J (by omega)] at e;cases e
     · unfold enN;rw[BD,if_neg (yF _),if_pos rfl];exact e
   · rintro⟨a,b⟩ j e
     unfold enN at e
     rw[BD] at e
     split at e
     · exact a j e
     · split at e
       · exact b e
       · cases e
 refine⟨E4.mpr ⟨h.bk,fun x e=>?_,fun x hx=>?_⟩,fun x=>?_,fun x=>?_⟩
 · have:=h1 x e
   rw[h.kn_] at this
   exact⟨fun q=>this (.inl q),fun j q=>this (.inr ⟨j,q⟩)⟩
 · obtain⟨a,b⟩:=(h.st_ x).mp (h2 x hx)
   exact⟨(h.kn_ x).mp a,b⟩
 · rw[yW,h.kn_,mk,DF,or_assoc]
 · unfold S9
   rw[yW,yL,yW,en,DF]
   have hne:∀x,D.made=some x->(∀j,enN Ds j≠some x)/\BN D≠some x:=fun x e=>by
     refine⟨fun j ej=>?_,fun e2=>h1 x e ((h.st_ x).mp (h2 x (N5 e2))).1⟩
     have hx:x∈wnN Ds j:=by
       unfold enN at ej;unfold wnN
       cases hD:Ds[j]? with
       | none=>rw[hD] at ej;cases ej
       | some F=>rw[hD] at ej;exact N5 ej
     refine h1 x e ((h.kn_ x).mpr (((h.bk j).2 x hx).1.imp id fun⟨i,_,q⟩=>⟨i,q⟩))
   constructor
   · rintro (⟨a,b⟩ | a)
     · obtain⟨c,d⟩:=(h.st_ x).mp a
       exact⟨.inl c,d,fun q=>by simp[N6.mpr q] at b⟩
     · exact⟨.inr a,hne x a⟩
   · rintro⟨a | a,b,c⟩
     · exact .inl ⟨(h.st_ x).mpr ⟨a,b⟩,by simp[N6,c]⟩
     · exact .inr a
theorem Q5 {S:List Str}:∀(r Ds:List Deed) (st kn:List Str),StB S st kn Ds->(L8 st kn r=true↔BkD S (Ds++r))
 | [],Ds,st,kn,h=>by rw[a3K];simp[L8,h.bk]
 | D::r,Ds,st,kn,h=>by
   rw[L8,a1Z,show Ds++D::r=(Ds++[D])++r by simp]
   constructor
   · rintro⟨a,b⟩
     exact(Q5 r _ _ _ (h.step a)).mp b
   · intro hb
     have hpre:BkD S (Ds++[D]):=fun k=>by
       have hk:=hb k
       by_cases q:k < (Ds++[D]).length
       · have e:∀j,j<=k->((Ds++[D])++r)[j]?=(Ds++[D])[j]?:=fun j hj=>yQ (by omega)
         unfold mkN wnN enN at *
         rw[e k (zR _)] at hk
         refine⟨fun x ex=>⟨(hk.1 x ex).1,fun j hj=>?_⟩,fun x hx=>⟨(hk.2 x hx).1.imp id fun⟨j,hj,q⟩=>⟨j,hj,by rw[← e j (by omega)];exact q⟩,fun j hj=>?_⟩⟩
         · rw[← e j (by omega)];exact(hk.1 x ex).2 j hj
         · rw[← e j (by omega)];exact(hk.2 x hx).2 j hj
       · unfold mkN wnN
         rw[a0J (by omega)]
         exact⟨fun x q=>(by cases q),fun x q=>(by cases q)⟩
     obtain⟨_,hm,hw⟩:=E4.mp hpre
     have ok:Q4 st kn D=true:=N7.mpr ⟨fun x e q=>by
       rcases (h.kn_ x).mp q with c | ⟨j,c⟩
       · exact(hm x e).1 c
       · exact(hm x e).2 j c,fun x hx=>(h.st_ x).mpr ⟨(h.kn_ x).mpr (hw x hx).1,(hw x hx).2⟩⟩
     exact⟨ok,(Q5 r _ _ _ (h.step ok)).mpr hb⟩
theorem GY {S:List Str}{Ds:List Deed}:L8 S S Ds=true↔BkD S Ds:=by
 have:=Q5 (S:=S) Ds [] S S ⟨fun k=>by unfold mkN wnN;simp,fun x=>by simp[mkN],fun x=>by simp[enN]⟩
 simpa using this
end DL
namespace DL
open PySem PySem.Spec L2
theorem aL {st so:List Str}{D:Deed}(h:∀x,x∈st↔x∈so):∀x,x∈S9 st D↔x∈CL so D:=fun x=>by
 unfold S9
 rw[yW,yL,DF,h]
 have he:(!decide (x∈Q3 D))=true↔BN D≠some x:=by simp[N6]
 rw[he]
 cases D <;> simp[CL,BN,Deed.made,yW,yL] <;> simp[eq_comm]
theorem N8 {S:List Str}:∀(Ds Pre:List Deed) (st kn so sp so' sp':List Str),StB S st kn Pre->(∀x,x∈st↔x∈so)->(∀x∈sp,x∉kn)->(so++sp).Nodup->EL so sp Ds->KR so sp Ds=(so',sp')->∃st' kn',StB S st' kn' (Pre++Ds)/\(∀x,x∈st'↔x∈so')/\∀x∈sp',x∉kn'
 | [],Pre,st,kn,so,sp,so',sp',h,h1,h2,_,_,e=>by cases e;exact⟨st,kn,by rw[a3K];exact h,h1,h2⟩
 | D::r,Pre,st,kn,so,sp,so',sp',h,h1,h2,nd,hf,e=>by
   obtain⟨g1,g2,g3,g4⟩:=hf
   have hin:∀x,D.made=some x->x∈sp:=fun x ex=>List.mem_of_mem_head? (g2 x ex)
   have ok:Q4 st kn D=true:=N7.mpr ⟨fun x ex=>h2 x (hin x ex),fun x hx=>by
     rw[← LR g3] at hx
     obtain⟨a,b⟩:=yL.mp hx
     exact(h1 x).mpr (ZQ g1 a (of_decide_eq_true b))⟩
   obtain⟨st',kn',a,b,c⟩:=N8 r (Pre++[D]) _ _ _ _ so' sp' (h.step ok) (aL h1) (fun x hx q=>by
     rcases yW.mp q with q | q
     · exact h2 x ((HJ sp D).subset hx) q
     · have ex:=DF.mp q
       have hh:=g2 x ex
       have nsp:sp.Nodup:=(List.nodup_append.mp nd).2.1
       unfold BX at hx
       rw[ex] at hx
       cases sp with
       | nil=>simp at hh
       | cons y ys=>
         have:y=x:=by simpa using hh
         subst this
         exact(xU.mp nsp).1 (by simpa using hx)) (nd.sublist (FB g2)) g4 e
   exact⟨st',kn',by rw[show Pre++D::r=(Pre++[D])++r by simp];exact a,b,c⟩
theorem SA {S so sp so' sp' so2 sp2 sp3:List Str}{cs cs2:List Int}{ls as:List Ln}(hS:∀x,x∈S↔x∈so) (hn:namesOK (so++sp)) (h1:lnQ so sp cs ls so' sp') (p:sp3.Perm sp') (h2:lnQ so' sp3 cs2 as so2 sp2):BkD S (dsL (ls++as)):=by
 have dis:∀x,x∈so->x∈sp->False:=fun x a b=>(List.nodup_append.mp hn.2.1).2.2 x a x b rfl
 obtain⟨st,kn,a,b,c⟩:=N8 (S:=S) (dsL ls) [] S S so sp so' sp' ⟨fun k=>by unfold mkN wnN;simp,fun x=>by simp[mkN],fun x=>by simp[enN]⟩ hS (fun x hx q=>dis x ((hS x).mp q) hx) hn.2.1 h1.1 h1.2.1
 obtain⟨g1,g2,g3,g4⟩:=IT _ so sp so' sp' h1.1 h1.2.1 hn.2.1
 obtain⟨st2,kn2,a2,_⟩:=N8 (S:=S) (dsL as) _ st kn so' sp3 so2 sp2 a b (fun x hx=>c x (p.mem_iff.mp hx)) ((b7X so' p).nodup_iff.mpr g4) h2.1 h2.2.1
 have:=a2.bk
 rw[List.nil_append] at this
 rw[show dsL (ls++as)=dsL ls++dsL as from xH]
 exact this
section
variable {M:Own}{Q:DS->Own->Prop}{w:List Th}{A B:List Ln}
abbrev B8 (w:List Th):List Str:=w.map (·.1)
def FF:FSp:=⟨fun xs M=>∃h:Int,xs=[.d (.int h)]/\xI h<=2 ^ 21,fun xs M y M'=>M'=M/\∃(w:List Th) (so sp:List Str),y = .d (.tuple [wD w,AN so,AN sp])/\okN w/\namesOK (so++sp)/\(∀x,x∈B8 w↔x∈so)/\w.length<=26⟩
theorem Q6 {h:Int}(h1:xI h<=2 ^ 21) (q:∀(w:List Th) (so sp:List Str),okN w->namesOK (so++sp)->(∀x,x∈B8 w↔x∈so)->w.length<=26->Q (.d (.tuple [wD w,AN so,AN sp])) M):[DS.d (.int h)].length=1/\FF.pre [.d (.int h)] M/\∀x M',FF.post [.d (.int h)] M x M'->Q x M':=
 ⟨rfl,⟨h,rfl,h1⟩,fun x M' hh=>by obtain⟨rfl,w,so,sp,rfl,a,b,c,d⟩:=hh;exact q w so sp a b c d⟩
structure two9 (w:List Th) (A B:List Ln):Prop where
 t:aC w A B
 a:BkD (B8 w) (dsL A)
 b:BkD (B8 w) (dsL B)
 la:A.length<=12
 lb:B.length<=12
 lw:w.length<=26
def JF:FSp:=⟨fun xs M=>∃ns:List Int,xs=[.d (.list (ns.map .int))]/\∀i∈ns,xI i<=2 ^ 20,fun xs M y M'=>M'=M/\∃(w:List Th) (A B:List Ln),y = .d (.tuple [AL w A,AL w B])/\two9 w A B⟩
theorem UC {ns:List Int}(h1:∀i∈ns,xI i<=2 ^ 20) (q:∀(w:List Th) (A B:List Ln),two9 w A B->Q (.d (.tuple [AL w A,AL w B])) M):[DS.d (.list (ns.map .int))].length=1/\JF.pre [.d (.list (ns.map .int))] M/\∀x M',JF.post [.d (.list (ns.map .int))] M x M'->Q x M':=
 ⟨rfl,⟨ns,rfl,h1⟩,fun x M' hh=>by obtain⟨rfl,w,A,B,rfl,h⟩:=hh;exact q w A B h⟩
abbrev isX (w:List Th) (C:List Ln):List DS:=[.d (wD w),.d (.list (C.map AF))]
def CM:FSp:=⟨fun xs M=>∃(w:List Th) (C:List Ln),xs=isX w C/\okN w/\w.length<=26/\(∀l∈C,l.2.real)/\C.length<=60,fun xs M y M'=>∀(w:List Th) (C:List Ln),xs=isX w C->y = .d (.bool (L8 (B8 w) (B8 w) (dsL C)))/\M'=M⟩
theorem KW {C:List Ln}(h1:okN w) (h2:w.length<=26) (h3:∀l∈C,l.2.real) (h4:C.length<=60) (q:Q (.d (.bool (L8 (B8 w) (B8 w) (dsL C)))) M):(isX w C).length=2/\CM.pre (isX w C) M/\∀x M',CM.post (isX w C) M x M'->Q x M':=
 ⟨rfl,⟨w,C,rfl,h1,h2,h3,h4⟩,fun x M' hh=>by obtain⟨rfl,rfl⟩:=hh w C rfl;exact q⟩
end
end DL
namespace DL
open PySem PySem.Spec L2
theorem dY (ls kn:List Str):(ls.map a0W).map (fun d=>b1K ((kn.map a0W).any fun e=>a0X e d))=(ls.map fun x=>decide (x∈kn)).map .bool:=by
 rw[zD,zD]
 apply yM
 intro x _
 show b1K ((kn.map a0W).any fun e=>a0X e (.str x)) = .bool (decide (x∈kn))
 rw[JA]
theorem aM (ls kn:List Str):(ls.map a0W).map (fun d=>b1K (!((kn.map a0W).any fun e=>a0X e d)))=(ls.map fun x=>!decide (x∈kn)).map .bool:=by
 rw[zD,zD]
 apply yM
 intro x _
 show b1K (!((kn.map a0W).any fun e=>a0X e (.str x))) = .bool (!decide (x∈kn))
 rw[JA]
theorem CO (w:List Th):(w.map thD).map (fun d=>match d with | .tuple (x::_)=>x | d=>d)=(B8 w).map .str:=by
 rw[zD,zD];rfl
end DL
namespace DL
open PySem PySem.Spec L2
def fTh:PyData->PyData | .tuple (x::_)=>x | d=>d
theorem dZ (w:List Th):(w.map thD).map fTh=(B8 w).map .str:=by
 rw[zD,zD];rfl
end DL
namespace DL
open PySem PySem.Spec L2
section
variable {w:List Th}{ls:List Ln}{k n:Nat}{D:Deed}{h:Str}{so sp:List Str}{M:Own}{Q:DS->Own->Prop}
theorem FG (ls:List Ln) (k:Nat):dsL (ls.take k)=(dsL ls).take k:=a5V ..
end
end DL
namespace DL
open PySem PySem.Spec L2
theorem aN {k n j:Nat}{d:PyData}(h:(CJ (KD k n))[j]?=some d):k+j < n/\d = .int ((k+j:Nat):Int):=by
 unfold CJ S3 KD at h
 rw[zD,zD,zF] at h
 obtain⟨m,hm,rfl⟩:=Option.map_eq_some_iff.mp h
 obtain⟨hl,e⟩:=yT.mp hm
 rw[List.getElem_range] at e
 subst e
 rw[xY] at hl
 exact⟨by omega,rfl⟩
end DL
namespace DL
open PySem PySem.Spec L2
section
variable {S:List Str}{Ds:List Deed}{D:Deed}{k:Nat}
theorem GZ (Ds:List Deed) (k j:Nat):(Ds.take k)[j]?=if j < k then Ds[j]? else none:=by
 rw[List.getElem?_take]
theorem G0 {x:Str}{j:Nat}(h:mkN (Ds.take k) j=some x):mkN Ds j=some x/\j < k:=by
 unfold mkN at h ⊢
 rw[GZ] at h
 split at h
 · exact⟨h,by assumption⟩
 · cases h
theorem Q7 {x:Str}{j:Nat}(h:enN (Ds.take k) j=some x):enN Ds j=some x/\j < k:=by
 unfold enN at h ⊢
 rw[GZ] at h
 split at h
 · exact⟨h,by assumption⟩
 · cases h
theorem e7 {x:Str}{j:Nat}(h:x∈wnN (Ds.take k) j):x∈wnN Ds j/\j < k:=by
 unfold wnN at h ⊢
 rw[GZ] at h
 split at h
 · rename_i q
   split at q
   · rename_i hj
     rw[q];exact⟨h,hj⟩
   · cases q
 · cases h
theorem SB {j:Nat}(h:j < k):mkN (Ds.take k) j=mkN Ds j/\enN (Ds.take k) j=enN Ds j/\wnN (Ds.take k) j=wnN Ds j:=by
 unfold mkN enN wnN;rw[GZ,if_pos h];exact⟨rfl,rfl,rfl⟩
theorem VR (h:BkD S Ds) (k:Nat):BkD S (Ds.take k):=fun j=>by
 obtain⟨a,b⟩:=h j
 refine⟨fun x e=>?_,fun x hx=>?_⟩
 · obtain⟨e,hj⟩:=G0 e
   exact⟨(a x e).1,fun i hi q=>(a x e).2 i hi (G0 q).1⟩
 · obtain⟨hx,hj⟩:=e7 hx
   exact⟨(b x hx).1.imp id fun⟨i,hi,e⟩=>⟨i,hi,by rw[(SB (by omega)).1];exact e⟩,fun i hi q=>(b x hx).2 i hi (Q7 q).1⟩
end
end DL
namespace DL
open PySem PySem.Spec L2
section
variable {w:List Th}{ls:List Ln}{M:Own}{Q:DS->Own->Prop}
theorem XD (hg:goodB w ls) (k:Nat):goodB w (ls.take k):=by
 refine⟨⟨fun i j x a b=>?_,fun j m x a b=>?_⟩,fun l hl=>hg.real l (a2Z hl),by rw[a1Q];have:=hg.few;omega,fun l hl=>hg.hands l (a2Z hl)⟩
 · rw[FG] at a b
   exact hg.fresh.one i j x (G0 a).1 (G0 b).1
 · rw[FG] at a b
   refine hg.fresh.bef j m x (G0 a).1 ?_
   unfold G8 at b ⊢
   rw[GZ] at b
   split at b
   · rename_i q
     split at q
     · rw[q];exact b
     · cases q
   · cases b
end
end DL
namespace DL
open PySem PySem.Spec L2
def noName (A B:List Ln) (c:Nat):Prop:=∀i j,c<=i->c<=j->∀x,(mkN (dsL A) i=some x->mkN (dsL B) j≠some x)/\(enN (dsL A) i=some x->enN (dsL B) j≠some x)
def SD (B A:List Ln) (i h:Nat):Prop:=∀x,enN (dsL B) i=some x->∀j,h<=j->x∉wnN (dsL A) j
inductive Mx (A B:List Ln) (c:Nat):Nat->Nat->List Ln->Prop
 | base:Mx A B c c c (A.take c)
 | a {h t:Nat}{C:List Ln}{l:Ln}:Mx A B c h t C->A[h]?=some l->Mx A B c (h+1) t (C++[l])
 | b {h t:Nat}{C:List Ln}{l:Ln}:Mx A B c h t C->B[t]?=some l->Mx A B c h (t+1) (C++[l])
theorem Mx.swap {A B:List Ln}{c:Nat}(hp:A.take c=B.take c) {h t:Nat}{C:List Ln}(m:Mx A B c h t C):Mx B A c t h C:=by
 induction m with
 | base=>rw[hp];exact .base
 | a _ e ih=>exact .b ih e
 | b _ e ih=>exact .a ih e
structure MI (S:List Str) (A B:List Ln) (c h t:Nat) (C:List Ln):Prop where
 bk:BkD S (dsL C)
 mk_:∀x,(∃j,mkN (dsL C) j=some x)↔(∃j,j < h/\mkN (dsL A) j=some x)∨∃j,j < t/\mkN (dsL B) j=some x
 en:∀x,(∃j,enN (dsL C) j=some x)↔(∃j,j < h/\enN (dsL A) j=some x)∨∃j,j < t/\enN (dsL B) j=some x
 eA:∀i,c<=i->i < h->SD A B i t
 eB:∀j,c<=j->j < t->SD B A j h
 ord:∀l j,c<=l->c<=j->l < h∨j < t->SD B A j l∨SD A B l j
 fA:∀p:Ln->Bool,(∀l∈A,p l=true)->(∀l∈B.drop c,p l=false)->C.filter p=A.take h
 fB:∀p:Ln->Bool,(∀l∈B,p l=true)->(∀l∈A.drop c,p l=false)->C.filter p=B.take t
 len:C.length+c=h+t
 sub:∀l∈C,l∈A∨l∈B
 mx:A.take c=B.take c/\Mx A B c h t C
theorem MI.swap {S:List Str}{A B:List Ln}{c h t:Nat}{C:List Ln}(m:MI S A B c h t C):MI S B A c t h C:=
 ⟨m.bk,fun x=>(m.mk_ x).trans Or.comm,fun x=>(m.en x).trans Or.comm,m.eB,m.eA,fun l j a b q=>(m.ord j l b a q.symm).symm,m.fB,m.fA,by have:=m.len;omega,fun l hl=>(m.sub l hl).symm,m.mx.1.symm,m.mx.2.swap m.mx.1⟩
theorem BY (A:List Ln) (i:Nat):(dsL A)[i]?=(A[i]?).map (·.2):=zF ..
theorem BP (C:List Ln) (a:Ln):dsL (C++[a])=dsL C++[a.2]:=by simp[dsL]
theorem Q8 {Ds:List Deed}{D:Deed}{x:Str}:(∃j,mkN (Ds++[D]) j=some x)↔(∃j,mkN Ds j=some x)∨D.made=some x:=by
 constructor
 · rintro⟨j,e⟩
   unfold mkN at e
   rw[BD] at e
   split at e
   · exact .inl ⟨j,e⟩
   · split at e
     · exact .inr e
     · cases e
 · rintro (⟨j,e⟩ | e)
   · refine⟨j,?_⟩
     unfold mkN at e ⊢
     rw[BD]
     split
     · exact e
     · rename_i hj;rw[a0J (by omega)] at e;cases e
   · exact⟨Ds.length,by unfold mkN;rw[BD,if_neg (yF _),if_pos rfl];exact e⟩
theorem Q9 {Ds:List Deed}{D:Deed}{x:Str}:(∃j,enN (Ds++[D]) j=some x)↔(∃j,enN Ds j=some x)∨BN D=some x:=by
 constructor
 · rintro⟨j,e⟩
   unfold enN at e
   rw[BD] at e
   split at e
   · exact .inl ⟨j,e⟩
   · split at e
     · exact .inr e
     · cases e
 · rintro (⟨j,e⟩ | e)
   · refine⟨j,?_⟩
     unfold enN at e ⊢
     rw[BD]
     split
     · exact e
     · rename_i hj;rw[a0J (by omega)] at e;cases e
   · exact⟨Ds.length,by unfold enN;rw[BD,if_neg (yF _),if_pos rfl];exact e⟩
theorem HM {P:Nat->Prop}{h:Nat}:(∃j,j < h+1/\P j)↔(∃j,j < h/\P j)∨P h:=by
 constructor
 · rintro⟨j,a,b⟩
   by_cases q:j=h
   · subst q;exact .inr b
   · exact .inl ⟨j,by omega,b⟩
 · rintro (⟨j,a,b⟩ | b)
   · exact⟨j,by omega,b⟩
   · exact⟨h,by omega,b⟩
section
variable {S:List Str}{A B C:List Ln}{c h t:Nat}{a:Ln}
theorem MI.base (hA:BkD S (dsL A)) (hc:c<=A.length) (hp:A.take c=B.take c):MI S A B c c c (A.take c):=by
 have same:∀j,j < c->(dsL A)[j]?=(dsL B)[j]?:=fun j hj=>by
   rw[BY,BY,← a7J hj,hp,a7J hj]
 have mkE:∀j,j < c->mkN (dsL A) j=mkN (dsL B) j:=fun j hj=>by unfold mkN;rw[same j hj]
 have enE:∀j,j < c->enN (dsL A) j=enN (dsL B) j:=fun j hj=>by unfold enN;rw[same j hj]
 refine⟨by rw[FG];exact VR hA c,fun x=>?_,fun x=>?_,fun i a b=>by omega,fun j a b=>by omega,fun l j a b q=>by omega,fun p h1 _=>?_,fun p h1 _=>?_,by rw[a1Q];omega,fun l hl=>.inl (a2Z hl),hp,.base⟩
 · rw[FG]
   constructor
   · rintro⟨j,e⟩
     exact .inl ⟨j,(G0 e).2,(G0 e).1⟩
   · rintro (⟨j,hj,e⟩ | ⟨j,hj,e⟩)
     · exact⟨j,by rw[(SB hj).1];exact e⟩
     · exact⟨j,by rw[(SB hj).1,mkE j hj];exact e⟩
 · rw[FG]
   constructor
   · rintro⟨j,e⟩
     exact .inl ⟨j,(Q7 e).2,(Q7 e).1⟩
   · rintro (⟨j,hj,e⟩ | ⟨j,hj,e⟩)
     · exact⟨j,by rw[(SB hj).2.1];exact e⟩
     · exact⟨j,by rw[(SB hj).2.1,enE j hj];exact e⟩
 · exact List.filter_eq_self.mpr fun l hl=>h1 l (a2Z hl)
 · rw[hp]
   exact List.filter_eq_self.mpr fun l hl=>h1 l (a2Z hl)
theorem MI.step (m:MI S A B c h t C) (hA:BkD S (dsL A)) (hp:A.take c=B.take c) (hn:noName A B c) (hch:c<=h) (hct:c<=t) (ha:A[h]?=some a) (hf:SD A B h t):MI S A B c (h+1) t (C++[a]):=by
 have hd:(dsL A)[h]?=some a.2:=by rw[BY,ha];rfl
 have mkh:mkN (dsL A) h=a.2.made:=by unfold mkN;rw[hd];rfl
 have enh:enN (dsL A) h=BN a.2:=by unfold enN;rw[hd];rfl
 have wnh:wnN (dsL A) h=E2 a.2:=by unfold wnN;rw[hd]
 have same:∀j,j < c->(dsL A)[j]?=(dsL B)[j]?:=fun j hj=>by
   rw[BY,BY,← a7J hj,hp,a7J hj]
 obtain⟨b1,b2⟩:=hA h
 rw[mkh] at b1
 rw[wnh] at b2
 have hlt:h < A.length:=(yT.mp ha).1
 have htk:A.take (h+1)=A.take h++[a]:=by rw[a7Z,ha];rfl
 refine⟨?_,fun x=>?_,fun x=>?_,fun i hi hi2=>?_,fun j hj hj2=>?_,fun l j hl hj q=>?_,fun p h1 h2=>?_,fun p h1 h2=>?_,by rw[yY];have:=m.len;simp;omega,fun l hl=>?_,hp,.a m.mx.2 ha⟩
 · rw[BP]
   refine E4.mpr ⟨m.bk,fun x e=>⟨(b1 x e).1,fun j q=>?_⟩,fun x hx=>⟨?_,fun j q=>?_⟩⟩
   · rcases (m.mk_ x).mp ⟨j,q⟩ with ⟨i,hi,e2⟩ | ⟨i,hi,e2⟩
     · exact(b1 x e).2 i hi e2
     · by_cases hic:i < c
       · exact(b1 x e).2 i (by omega) (by unfold mkN at e2 ⊢;rw[same i hic];exact e2)
       · exact(hn h i hch (by omega) x).1 (mkh.trans e) e2
   · rcases (b2 x hx).1 with q | ⟨i,hi,e⟩
     · exact .inl q
     · exact .inr ((m.mk_ x).mpr (.inl ⟨i,hi,e⟩))
   · rcases (m.en x).mp ⟨j,q⟩ with ⟨i,hi,e2⟩ | ⟨i,hi,e2⟩
     · exact(b2 x hx).2 i hi e2
     · by_cases hic:i < c
       · exact(b2 x hx).2 i (by omega) (by unfold enN at e2 ⊢;rw[same i hic];exact e2)
       · exact m.eB i (by omega) hi x e2 h (zR _) (by rw[wnh];exact hx)
 · rw[BP,Q8,m.mk_,HM,mkh,or_right_comm]
 · rw[BP,Q9,m.en,HM,enh,or_right_comm]
 · by_cases q:i=h
   · subst q;exact hf
   · exact m.eA i hi (by omega)
 · exact fun x e i hi=>m.eB j hj hj2 x e i (by omega)
 · by_cases q2:l < h∨j < t
   · exact m.ord l j hl hj q2
   · have hlh:l=h:=by omega
     subst hlh
     exact .inr fun x e i hi=>hf x e i (by omega)
 · rw[List.filter_append,m.fA p h1 h2,htk,List.filter_cons,if_pos (h1 a (yN ha)),List.filter_nil]
 · have hm:a∈A.drop c:=yN (i:=h - c) (by rw[a8W,show c+(h - c)=h by omega];exact ha)
   rw[List.filter_append,m.fB p h1 h2,List.filter_cons,if_neg (by rw[h2 a hm];exact nft),List.filter_nil,a3K]
 · rcases yW.mp hl with q | q
   · exact m.sub l q
   · rw[List.mem_singleton.mp q];exact .inl (yN ha)
theorem MI.rest (m:MI S A B c h t C) (hA:BkD S (dsL A)) (hp:A.take c=B.take c) (hn:noName A B c) (hch:c<=h) (hct:c<=t) (hB:B.length<=t):∀n,h+n<=A.length->MI S A B c (h+n) t (C++(A.drop h).take n)
 | 0,_=>by rw[List.take_zero,a3K];exact m
 | n+1,hl=>by
   have ih:=m.rest hA hp hn hch hct hB n (by omega)
   have ha:A[h+n]?=some (A[h+n]'(by omega)):=zV _
   have:=ih.step hA hp hn (by omega) hct ha fun x e j hj q=>by
     unfold wnN at q
     rw[BY,a0J (by omega)] at q
     cases q
   rw[a7Z,a8W,ha,← b2Q]
   exact this
theorem noName.swap (h:noName A B c):noName B A c:=fun i j a b x=>⟨fun e q=>(h j i b a x).1 q e,fun e q=>(h j i b a x).2 q e⟩
end
end DL
namespace DL
open PySem PySem.Spec L2
section
variable {M:Own}{Q:DS->Own->Prop}{w:List Th}{ls A B:List Ln}
def nOK (A B:List Ln) (i j:Nat):Prop:=∀x,(mkN (dsL A) i=some x->mkN (dsL B) j≠some x)/\(enN (dsL A) i=some x->enN (dsL B) j≠some x)
theorem aO {i j:Nat}{a b:Ln}(ha:(dsL A)[i]?=some a.2) (hb:(dsL B)[j]?=some b.2) (h1:∀x,a.2.made=some x->b.2.made≠some x) (h2:∀x,BN a.2=some x->BN b.2≠some x):nOK A B i j:=fun x=>by
 unfold mkN enN
 rw[ha,hb]
 exact⟨h1 x,h2 x⟩
theorem e8 {c:Nat}(h:∀i,c<=i->i < A.length->∀j,c<=j->j < B.length->nOK A B i j):noName A B c:=fun i j hi hj x=>by
 by_cases h1:i < A.length
 · by_cases h2:j < B.length
   · exact h i hi h1 j hj h2 x
   · unfold mkN enN
     rw[BY B,a0J (Nat.le_of_not_lt h2)]
     exact⟨fun _ q=>(by cases q),fun _ q=>(by cases q)⟩
 · unfold mkN enN
   rw[BY A,a0J (Nat.le_of_not_lt h1)]
   exact⟨fun q=>(by cases q),fun q=>(by cases q)⟩
def FH:FSp:=⟨fun xs M=>∃(w:List Th) (A B:List Ln) (c:Nat),xs=[.d (AL w A),.d (AL w B),.d (.int c)]/\goodB w A/\goodB w B/\c<=50/\c<=A.length/\c<=B.length,fun xs M y M'=>∀(w:List Th) (A B:List Ln) (c:Nat),xs=[.d (AL w A),.d (AL w B),.d (.int c)]->M'=M/\∃d,y = .d d/\(d = .none/\noName A B c∨VQ A B c d)⟩
theorem SE {c:Nat}(ha:goodB w A) (hb:goodB w B) (hc:c<=50) (hc1:c<=A.length) (hc2:c<=B.length) (q:∀d,d = .none/\noName A B c∨VQ A B c d->Q (.d d) M):[DS.d (AL w A),.d (AL w B),.d (.int c)].length=3/\FH.pre [.d (AL w A),.d (AL w B),.d (.int c)] M/\∀x M',FH.post [.d (AL w A),.d (AL w B),.d (.int c)] M x M'->Q x M':=
 ⟨rfl,⟨w,A,B,c,rfl,ha,hb,hc,hc1,hc2⟩,fun x M' hh=>by obtain⟨rfl,d,rfl,e⟩:=hh w A B c rfl;exact q d e⟩
theorem N9 {k:Nat}{e:Option Str}(hb:∀l∈B,l.2.real) (h:FZ B k e=none):∀x,e=some x->∀j,k<=j->x∉wnN (dsL B) j:=by
 rintro x rfl j hj hx
 have hl:(dsL B).length=B.length:=zX _
 have hjl:j < B.length:=by
   rcases Nat.lt_or_ge j B.length with q | q
   · exact q
   · unfold wnN at hx
     rw[a0J (by omega)] at hx
     cases hx
 unfold FZ at h
 rw[List.head?_eq_none_iff] at h
 have:j∈(KD k B.length).filter (FE B (some x)):=yL.mpr ⟨MZ.mpr ⟨hj,hjl⟩,by
   unfold FE G8
   unfold wnN at hx
   cases e:(dsL B)[j]? with
   | none=>rw[e] at hx;cases hx
   | some E=>
     rw[e] at hx
     obtain⟨l,hm,rfl⟩:=zL.mp (yN e)
     exact decide_eq_true (by show x∈l.2.must;rw[LR (hb l hm)];exact hx)⟩
 rw[h] at this
 cases this
theorem MI.all {S:List Str}{C:List Ln}{c h t:Nat}(m:MI S A B c h t C) (hA:BkD S (dsL A)) (hB:BkD S (dsL B)) (hp:A.take c=B.take c) (hn:noName A B c) (hch:c<=h) (hct:c<=t) (h1:h<=A.length) (h2:t<=B.length) (hx:h=A.length∨t=B.length):MI S A B c A.length B.length (C++A.drop h++B.drop t):=by
 rcases hx with rfl | rfl
 · have:=m.swap.rest hB hp.symm hn.swap hct hch (zR _) (B.length - t) (by omega)
   rw[show t+(B.length - t)=B.length by omega,a3J (by rw[a0K];exact zR _)] at this
   rw[List.drop_length,a3K]
   exact this.swap
 · have:=m.rest hA hp hn hch hct (zR _) (A.length - h) (by omega)
   rw[show h+(A.length - h)=A.length by omega,a3J (by rw[a0K];exact zR _)] at this
   rw[List.drop_length,a3K]
   exact this
def jX (w:List Th) (A B:List Ln) (d:PyData):Prop:=(∃C,d=VN (AL w C)/\MI (B8 w) A B (AO A B) A.length B.length C/\noName A B (AO A B))∨∃q,d = .tuple [.str (a0Q "quarrel"),q]/\g9 A B (AO A B) q
def DH:FSp:=⟨fun xs M=>∃(w:List Th) (A B:List Ln),xs=b2X w A B/\aC w A B/\BkD (B8 w) (dsL A)/\BkD (B8 w) (dsL B),fun xs M y M'=>∀(w:List Th) (A B:List Ln),xs=b2X w A B->M'=M/\∃d,y = .d d/\jX w A B d⟩
theorem NU (h:aC w A B) (h1:BkD (B8 w) (dsL A)) (h2:BkD (B8 w) (dsL B)) (q:∀d,jX w A B d->Q (.d d) M):(b2X w A B).length=2/\DH.pre (b2X w A B) M/\∀x M',DH.post (b2X w A B) M x M'->Q x M':=
 ⟨rfl,⟨w,A,B,rfl,h,h1,h2⟩,fun x M' hh=>by obtain⟨rfl,d,rfl,e⟩:=hh w A B rfl;exact q d e⟩
end
end DL
namespace L2
open PySem PySem.Spec PyProof.Rows PySem.W
section
variable {prog:Program}{w:World}{A:Around}{E:Value->Shared->Prop}{s:Shared}{o:Obj}{es:Array DictEntry}{ep:Nat}{it d:Addr}{i:Nat}
theorem aP {Q:Value->Shared->Prop}(hd:(d==sysModules)=false) (ho:s.heap.get? d=some o) (hc:o.ExactDict) (hdat:o.data = .dict es ep)
   (hQ:Q (.ref s.heap.objs.size) { s with heap:=s.heap.push { cls:=.type "dict_keyiterator", data:=.fields #[.ref d,.int 0 0,.int es.size 0,.int ep 0] } }):wpAny (model prog w) A (pyIter (.ref d)) Q E s:=by
 have hT:s.TypeIs (.ref d) "dict" := ⟨o,ho,hc.1⟩
 refine wpAny_pyIter_slot hT F.slot_dict_iter (wpAny_call_entry F.slot_dict_iter hT F.entry_dict_iter ?_ (F.args_dict_iter_1 _))
 unfold Builtin.«dict.__iter__»;refine zZ ?_;unfold Builtin.Dict.dictSlotNone
 refine zZ (wpAny_notOrdered_dict hT (show wpAny _ _ (pure (a0Z d)) _ _ s from zY (show wpAny _ _ (Builtin.Dict.showsAll d >>= _) _ _ s from ?_)))
 unfold Builtin.Dict.showsAll;rw[if_neg (by rw[hd];exact nft)]
 refine zZ (zY (zZ (wpAny_dictEntries ho hdat (zZ (wpAny_dictEpoch ho hdat (zZ (xL (zY ⟨_,rfl, "dict_keyiterator", _,⟨_,yZ _ rfl,rfl⟩,F.slot_dict_keyiterator_next.lookup,?_⟩))))))))
 simpa [rawInt] using hQ
theorem SF {Q:Option Value->Shared->Prop}(hh:A.handled=none) (hit:s.heap.IsKeyIter it d i es.size ep) (hod:s.heap.get? d=some o) (hdd:o.data = .dict es ep)
   (h1:∀e h',es[i]?=some e->h'.IsKeyIter it d (i+1) es.size ep->Heap.SameBut it s.heap h'->Q (some e.key) { s with heap:=h' })
   (h2:es[i]?=none->∀h',Heap.ExtBut it s.heap h'->Q none { s with heap:=h' }):wpAny (model prog w) A (pyNext (.ref it)) Q E s:=by
 obtain⟨oi,ho,hc,hd⟩:=id hit
 unfold pyNext
 refine zZ (wpAny_attempt (wpAny_callSpecial?_slot (name:=a0Q "__next__") hit.typeIs F.slot_dict_keyiterator_next (wpAny_call_entry F.slot_dict_keyiterator_next hit.typeIs F.entry_dict_keyiterator_next ?_ (F.args_dict_keyiterator_next_1 _))))
 refine zZ (zY (zZ (zZ ?_)))
 first | refine zZ (wpAny_typeNameOfWhole_keyiter hit.typeIs (zY ?_)) | refine zZ (wpAny_typeNameOf_keyiter hit.typeIs (zY ?_))
 refine zZ (wpAny_fieldsOf ho hd ?_)
 simp only[show Builtin.Dict_items.ownsTuple "dict_keyiterator"=false from by decide,b1Q,if_false]
 show wpAny _ _ (if (a0Z d==a3Q)=true then _ else _) _ _ s
 rw[if_neg (show ¬((a0Z d==a3Q)=true) from nft)]
 refine zZ (zY (zZ (wpAny_dictEntries hod hdd ?_)))
 rw[if_neg (by simp)]
 refine zZ (zY (zZ (wpAny_dictEpoch hod hdd ?_)))
 rw[if_neg (by simp)]
 refine zY ?_
 cases he:es[i]? with
 | some e=>
   simp only[show ¬((i:Int) < 0) from by omega,if_false,a4W,he]
   refine zZ ?_
   first | refine zZ (wpAny_typeNameOfWhole_keyiter hit.typeIs (zY ?_)) | refine zZ (wpAny_typeNameOf_keyiter hit.typeIs (zY ?_))
   refine zZ (wpAny_isOneOf_keyiter hit.typeIs (show wpAny _ _ (setField (.ref it) 1 (rawInt ((i:Int)+1)) >>= _) _ _ s from zZ (wpAny_setField ho hd (by simp) ?_)))
   have hit':(s.heap.update it (Obj.mapFields (·.setIfInBounds 1 (rawInt ((i:Int)+1))))).IsKeyIter it d (i+1) es.size ep:=⟨_,Heap.get?_update_self _ ho (Obj.isFreed_of_fields (b6X hd _)),(Obj.cls_mapFields ..).trans hc,by rw[b6X hd];simp[rawInt]⟩
   refine zZ (wpAny_holding (zZ (wpAny_isOneOf_keyiter (s:={ s with heap:=s.heap.update it (Obj.mapFields (·.setIfInBounds 1 (rawInt ((i:Int)+1)))) }) hit'.typeIs ?_)))
   show wpAny _ _ (pure e.key) _ _ _
   exact zY (zY ⟨_,rfl,zY (h1 e _ he hit' (a9Q ..))⟩)
 | none=>
   simp only[show ¬((i:Int) < 0) from by omega,if_false,a4W,he]
   refine zZ ?_
   first | refine zZ (wpAny_typeNameOfWhole_keyiter hit.typeIs (zY ?_)) | refine zZ (wpAny_typeNameOf_keyiter hit.typeIs (zY ?_))
   show wpAny _ _ (setField (.ref it) 0 .none >>= _) _ _ s
   refine zZ (wpAny_setField ho hd (by simp) (show wpAny _ _ (newExc (.type "StopIteration") [] >>= _) _ _ _ from zZ ?_))
   simp only[newExc,newTuple]
   refine zZ (xL (zZ (m:=firstArgMember _ _) (wpAny_of_eq (a:=a3Q) (by first | rfl | (simp only[firstArgMember];rfl)) (xL ?_ (by size_fits)))) (by size_fits))
   simp only[raiseNew]
   refine zZ (wpAny_handled ?_)
   rw[show A.in1.handled=none from hh]
   refine zZ (zY (wpAny_throw ?_))
   refine zZ (wpAny_isInstance (T:= "StopIteration") (b:=true) ⟨_,yZ _ rfl,rfl⟩ isSubtype_stop (zY ?_))
   exact(h2 he _ (((a9Q ..).extBut.push _).push _))
end
def ItT (a:Addr) (o:Obj) (ks:List (List Key×V)):It:=
 ⟨fun i H=>H a=some (.frz o (.dT ks))/\i < ks.length,fun i H x H'=>H'=H/\∃k v b,ks[i]?=some (k,v)/\x = .ref b/\H b=some (.tup (k.map kV)),fun i H=>H a=some (.frz o (.dT ks))/\ks.length<=i⟩
theorem UD {α β:Type}{R:α->β->Prop}{as:List α}{bs:List β}(r:Paired R as bs) {i:Nat}{x:α}(e:as[i]?=some x):∃y,bs[i]?=some y/\R x y:=by
 induction r generalizing i with
 | nil=>simp at e
 | cons h _ ih=>
   cases i with
   | zero=>simp at e;subst e;exact⟨_,by simp,h⟩
   | succ i=>simpa using ih (by simpa using e)
theorem UE {P:Program}{w:World}{K:Frg}{tg:Expr}(a it:Addr) (o:Obj) (ks:List (List Key×V)) :
   Turn P w K tg (ItT a o ks) [it] it (fun i h=>∃es ep,o.data = .dict es ep/\es.size=ks.length/\h.IsKeyIter it a i es.size ep) where
 mem:=by simp
 obj:=fun i h st b hb=>by
   have e:b=it:=by simpa using hb
   subst e
   obtain⟨es,ep,_,_,o',e,c,d⟩:=st
   exact⟨o',e,fun v z=>by rw[d] at z;cases z⟩
 keep:=fun i h h' ⟨es,ep,q,z,st⟩ k=>⟨es,ep,q,z,st.at fun o e=>k it (by simp) o e⟩
 item:=by
   intro X hP hw hK hc i pins s σ H E I hf ⟨es,ep,hes,hsz,st⟩ ⟨hg,hi⟩
   subst hP hw hK
   obtain⟨f0,f1,f2,f3,f4,f5⟩:=hf it (by simp)
   obtain⟨hget,_,hsm,xs,rel,o',es',ep',ho',hx,hd',hl,hn⟩:=I.hok a _ hg
   obtain rfl:o'=o:=Option.some.inj (ho'.symm.trans hget)
   obtain⟨rfl,rfl⟩:es'=es/\ep'=ep:=by have:=hd'.symm.trans hes;injection this with a b;exact⟨a,b⟩
   obtain⟨⟨k,v⟩,hk⟩:∃kv,ks[i]?=some kv:=⟨ks[i],zV hi⟩
   obtain⟨⟨k',b,u⟩,hy,h1,h2,h3⟩:=UD rel hk
   have he:es'[i]?=some (entryOfKey (tupleKind (AR X.prog X.w)) (k',b,u)):=by rw[← a6W,hl,zF,hy];rfl
   refine SF (I.ok.hd hc) st ho' hd' (fun e h' e1 st' sb=>?_) fun e1=>by rw[he] at e1;cases e1
   rw[he] at e1
   cases e1
   have I1:Inv X pins σ H { s with heap:=h' }:=I.turned (t':=s.toks) (fun b o hb e=>(sb.2 b hb).trans e) f0 f1 f3 f4 f5
   exact⟨.ref b,rfl,letGo_keyiter (s':={ s with heap:=h' }) st' ⟨.ref b,H,I1,rfl,⟨rfl,k,v,b,hk,rfl,h2⟩,⟨es',ep',hes,hsz,st'⟩,fun b hb=>(hf b hb).1⟩⟩
 done:=by
   intro X hP hw hK hc i pins s σ H E I hf ⟨es,ep,hes,hsz,st⟩ ⟨hg,hi⟩
   subst hP hw hK
   obtain⟨f0,f1,f2,f3,f4,f5⟩:=hf it (by simp)
   obtain⟨hget,_⟩:=I.hok a _ hg
   refine SF (I.ok.hd hc) st hget hes (fun e h' e1=>?_) fun _ h' eb=>⟨rfl,I.turned (t':=s.toks) (fun b o hb e=>eb b o hb e) f0 f1 f3 f4 f5⟩
   rw[b7V (by omega)] at e1
   cases e1
 self:=fun _ _ _ _ _ ⟨_,_,_,_,st⟩ h=>wpAny_pyIter_keyiter st h
section
variable {X:Cx}{tg:Expr}{pins:List (Addr×Obj)}{σ:St}{H:Hp}{s:Shared}
theorem UF {a:Addr}{o:Obj}{ks:List (List Key×V)}(I:Inv X pins σ H s) (e:H a=some (.dT ks)) (ho:s.heap.get? a=some o):Inv X pins σ (upd H a (.frz o (.dT ks))) s:=by
 have ne:∀b u,H b=some u->(∀z,u≠.dT z)->b≠a:=fun b u q n z=>by rw[z,e] at q;cases q;exact n _ rfl
 have J:=I.un (H':=upd H a (.frz o (.dT ks))) (h':=s.heap) (t':=s.toks) ⟨fun _ _ q _ _ _=>q,fun b u q _ _ _=>⟨u.slots,q⟩,fun b u _ n _=>by rw[AG (fun z=>by rw[z,e] at n;cases n)];exact n,fun b u q _=>⟨u,q⟩,
   fun b xs q=>by rw[AG (ne b _ q fun _ z=>nomatch z)];exact q,fun b u xs q=>by rw[AG (ne b _ q fun _ z=>nomatch z)];exact q,fun b ps q=>⟨#[],by rw[AG (ne b _ q fun _ z=>nomatch z),q];simp⟩⟩ fun b u q=>?_
 · exact J
 · have st:∀{b u},ObjOk X.prog X.w H s.heap b u->ObjOk X.prog X.w (upd H a (.frz o (.dT ks))) s.heap b u:=fun {b u} x=>x.stay (fun _ _ _ q=>q) (fun c q=>by rw[AG (ne c _ q fun _ z=>nomatch z)];exact q) fun c xs q=>by rw[AG (ne c _ q fun _ z=>nomatch z)];exact q
   by_cases z:b=a
   · subst z
     rw[AH] at q
     cases q
     exact⟨ho,st (I.hok b _ e)⟩
   · rw[AG z] at q
     exact st (I.hok b u q)
def gA (tl:TE):TI:=fun σ H R=>tl σ H fun x H1=>∃a ks,x = .ref a/\H1 a=some (.dT ks)/\∀o,R (ItT a o ks) (upd H1 a (.frz o (.dT ks)))
theorem e9 {l:Expr}{tl:TE}(hl:PE X l tl):PI X tg l (gA tl):=by
 intro pins s σ H R I h
 refine thn (hl pins s σ H _ I h) fun v s1 ⟨x,H1,I1,r1,a,ks,ex,e,q1⟩=>?_
 subst ex
 obtain rfl:v=a0Z a:=r1
 obtain⟨_,hsm,xs,rel,o,es,ep,ho,hx,hd,hl,hn⟩:=I1.hok a _ e
 have I2:=UF I1 e ho
 have hsz:es.size=ks.length:=by rw[← a3V,hl,zX,Paired.length rel]
 refine aP hsm ho hx hd ?_
 have I3:Inv X pins σ (upd H1 a (.frz o (.dT ks))) { s1 with heap:=s1.heap.push { cls:=.type "dict_keyiterator", data:=.fields #[.ref a,.int 0 0,.int es.size 0,.int ep 0] } }:=I2.kept (t':=s1.toks) fun b u q=>zW _ q
 refine⟨s1.heap.objs.size,[s1.heap.objs.size],_,ItT a o ks,_,rfl,I3,UE a _ o ks,⟨es,ep,hd,hsz,_,yZ _ rfl,rfl,rfl⟩,fun b hb=>?_,q1 o⟩
 have:b=s1.heap.objs.size:=by simpa using hb
 rw[this]
 exact I2.fpOk (zR _) (I2.hok.fresh (zR _))
def aQ (tk tv:TE):TE:=fun σ H Q=>∀p,H p=none->tk σ (upd H p (.dT [])) fun x H1=>tv σ H1 fun y H2=>H2 p=some (.dT [])/\∃k b,x = .ref b/\H2 b=some (.tup (k.map kV))/\Q (.ref p) (upd H2 p (.dT [(k,y)]))
theorem SG {k v:Expr}{tk tv:TE}{pos:Pos}(hu:X.A.units+1 < cLine) (hk:PE X k tk) (hv:PE X v tv):PE X (.Dict [some k] [v] pos) (aQ tk tv):=by
 intro pins s σ H Q I q
 have hn:=I.hok.fresh (zR s.heap.objs.size)
 have I1:=I.laid (a:=s.heap.objs.size) (o:=.dT []) (h':=s.heap.push { cls:=.type "dict", data:=.dict #[] }) (t':=s.toks) (fun _ _ q=>zW _ q) (zR _) (R0 s.heap I.big)
 have hp:PPs X pos [some k] [v] [(tk,tv)]:=C0 hk hv J1
 refine wpAny_Dict_any rfl rfl (by simp) (by simp) (thn (hp pins _ σ _ (fun ps H2=>match ps with
   | [(x,y)]=>H2 s.heap.objs.size=some (.dT [])/\∃kk b,x = .ref b/\H2 b=some (.tup (kk.map kV))/\Q (.ref s.heap.objs.size) (upd H2 s.heap.objs.size (.dT [(kk,y)]))
   | _=>False) I1 (q _ hn)) fun ws s2 ⟨ps,H2,I2,rel,h2⟩=>?_)
 cases rel with
 | nil=>exact h2.elim
 | @cons p r ps rs h t=>
   cases t with
   | cons _ _=>exact h2.elim
   | nil=>
     obtain⟨x,y⟩:=p
     obtain⟨u,r⟩:=r
     obtain⟨e,kk,b,rfl,eb,q2⟩:=h2
     obtain⟨h1,hr⟩:=h
     cases (show u=a0Z b from h1)
     obtain⟨z,hd,xs,rel,dd⟩:=fI I2.hok e
     cases rel
     unfold storeAll
     rw[b4Z]
     refine zZ (zZ (wpAny_dictSet_heap (hsz:=xR _) (show(tupleKind (AR X.prog X.w)).room X.A from Nat.lt_of_succ_lt hu) (K2 I2.hok eb) dd fun h' dd' hs=>zY ?_))
     refine zY (a:=PUnit.unit) ⟨.ref s.heap.objs.size,_,?_,rfl,q2⟩
     obtain⟨q,es,ep,hq,h2,h3,h4,_,h5⟩:=dd'
     refine LJ I2 (by rw[e];exact a8X) hs ⟨q,hq⟩ ⟨by rw[sizeLine_eq];simp,hd,[(kk,b,r)],.cons ⟨rfl,?_,hr⟩ .nil,q,es,ep,hq,h2,h3,h4,h5⟩
     rw[AG (eQ eb e (fun z=>nomatch z))]
     exact eb
end
end L2
namespace DL
open PySem PySem.Spec L2
abbrev NP:=Nat×Nat
def kP (t:NP):List Key:=[.inl (t.1:Int),.inl (t.2:Int)]
def pD (t:NP):PyData:=.tuple [.int (t.1:Int),.int (t.2:Int)]
theorem UG {t u:NP}(h:kP t=kP u):t=u:=by
 unfold kP at h
 simp at h
 exact Prod.ext (by omega) (by omega)
def tdP (ts:List (NP×PyData)):List (List Key×PyData):=ts.map fun t=>(kP t.1,t.2)
def L9 (ts:List (NP×PyData)) (k:NP) (d:PyData):List (NP×PyData):=
 if (ts.any fun t=>decide (t.1=k))=true then ts.map (fun t=>if t.1=k then (t.1,d) else t) else ts++[(k,d)]
def AU:List (NP×PyData)->NP->Option PyData
 | [],_=>none
 | t::r,k=>if t.1=k then some t.2 else AU r k
theorem JG (ts:List (NP×PyData)) (k:NP) (d:PyData):(L9 ts k d).length<=ts.length+1:=by
 unfold L9
 split
 · rw[zX];exact Nat.le_succ _
 · rw[yY];exact zR _
theorem NA (k l:NP) (d:PyData):∀ts:List (NP×PyData),AU (ts.map fun t=>if t.1=k then (t.1,d) else t) l=if k=l/\(ts.any fun t=>decide (t.1=k))=true then some d else AU ts l
 | []=>by simp[AU]
 | t::r=>by
   rw[zI,a7V]
   unfold AU
   rw[NA k l d r]
   by_cases e:t.1=k
   · by_cases e2:k=l
     · simp[e,e2]
     · simp[e,e2]
   · have f:(t.1=k)=False:=eq_false e
     simp only[f,if_false,decide_false,Bool.false_or]
     by_cases e2:k=l
     · subst e2;simp only[f,if_false]
     · simp only[e2,false_and,if_false]
theorem NB (k l:NP) (d:PyData):∀ts:List (NP×PyData),(ts.any fun t=>decide (t.1=k))=false->AU (ts++[(k,d)]) l=if k=l then some d else AU ts l
 | [],_=>rfl
 | t::r,h=>by
   rw[a7V,Bool.or_eq_false_iff] at h
   rw[List.cons_append]
   unfold AU
   rw[NB k l d r h.2]
   have e:=of_decide_eq_false h.1
   by_cases e2:k=l
   · subst e2;simp[e]
   · simp[e2]
theorem FI (ts:List (NP×PyData)) (k l:NP) (d:PyData):AU (L9 ts k d) l=if k=l then some d else AU ts l:=by
 unfold L9
 split
 · rename_i h;rw[NA,h];simp
 · rename_i h;exact NB k l d ts (Bool.not_eq_true _▸h)
theorem HN:∀{ts:List (NP×PyData)}{k:NP},(AU ts k).isSome=true↔k∈ts.map (·.1)
 | [],k=>by simp[AU]
 | t::r,k=>by
   unfold AU
   by_cases e:t.1=k
   · simp[e]
   · rw[if_neg e,HN (ts:=r),zI,yX]
     exact⟨.inr,fun h=>h.elim (fun q=>absurd q.symm e) id⟩
section
variable {K:Frg}{H:Hp}{W:Addr->Prop}{M:Own}
theorem CZ {t:NP×PyData}{ts:List (NP×PyData)}{ks:List (List Key×V)}:DTV K H W (tdP (t::ts)) ks↔∃v r,ks=(kP t.1,v)::r/\DV K H W t.2 v/\DTV K H W (tdP ts) r:=by
 unfold DTV tdP
 simp only[zI]
 constructor
 · rintro⟨h1,h2⟩
   cases ks with
   | nil=>cases h1
   | cons p r=>
     rw[zI] at h1 h2
     unfold DVs at h2
     obtain⟨v,vs,e,h3,h4⟩:=h2
     cases e
     injection h1 with e1 e2
     exact⟨p.2,r,by rw[← e1],h3,e2,h4⟩
 · rintro⟨v,r,rfl,h1,h2,h3⟩
   exact⟨by rw[zI,h2],DVs.cons h1 h3⟩
theorem JH:DTV K H W (tdP []) []:=⟨rfl,DVs.nil⟩
theorem H0 {ks:List (List Key×V)}(h:DTV K H W (tdP []) ks):ks=[]:=List.map_eq_nil_iff.mp h.1
theorem VS {kvs:List (List Key×PyData)}{ks:List (List Key×V)}(h:DTV K H W kvs ks):ks.length=kvs.length:=by have:=congrArg b7Z h.1;simpa using this
theorem VT {k:NP}:∀{ts:List (NP×PyData)}{ks:List (List Key×V)},DTV K H W (tdP ts) ks->(ks.any fun kv=>decide (kv.1=kP k))=ts.any fun t=>decide (t.1=k)
 | [],ks,h=>by rw[H0 h];rfl
 | t::ts,ks,h=>by
   obtain⟨v,r,rfl,_,h2⟩:=CZ.mp h
   rw[a7V,a7V,VT h2]
   congr 1
   by_cases e:t.1=k
   · rw[decide_eq_true e,decide_eq_true (by rw[e])]
   · rw[decide_eq_false e,decide_eq_false fun q=>e (UG q)]
theorem ND {k:NP}{d:PyData}{v:V}(hd:DV K H W d v):∀{ts:List (NP×PyData)}{ks:List (List Key×V)},DTV K H W (tdP ts) ks->DTV K H W (tdP (ts.map fun t=>if t.1=k then (t.1,d) else t)) (ks.map fun kv=>if kv.1=kP k then (kv.1,v) else kv)
 | [],ks,h=>by rw[H0 h];exact JH
 | t::ts,ks,h=>by
   obtain⟨u,r,rfl,h1,h2⟩:=CZ.mp h
   rw[zI,zI]
   by_cases e:t.1=k
   · rw[if_pos e,if_pos (by rw[e])]
     exact CZ.mpr ⟨v,_,rfl,hd,ND hd h2⟩
   · rw[if_neg e,if_neg fun q=>e (UG q)]
     exact CZ.mpr ⟨u,_,rfl,h1,ND hd h2⟩
theorem SH {k:NP}{d:PyData}{v:V}(hd:DV K H W d v):∀{ts:List (NP×PyData)}{ks:List (List Key×V)},DTV K H W (tdP ts) ks->DTV K H W (tdP (ts++[(k,d)])) (ks++[(kP k,v)])
 | [],ks,h=>by rw[H0 h];exact CZ.mpr ⟨v,[],rfl,hd,JH⟩
 | t::ts,ks,h=>by
   obtain⟨u,r,rfl,h1,h2⟩:=CZ.mp h
   exact CZ.mpr ⟨u,_,rfl,h1,SH hd h2⟩
theorem eD {k:NP}{d:PyData}{v:V}{ts:List (NP×PyData)}{ks:List (List Key×V)}(h:DTV K H W (tdP ts) ks) (hd:DV K H W d v):DTV K H W (tdP (L9 ts k d)) (F9 ks (kP k) v):=by
 unfold L9 F9
 rw[VT h]
 split
 · exact ND hd h
 · exact SH hd h
theorem NE {k:NP}:∀{ts:List (NP×PyData)}{ks:List (List Key×V)},DTV K H W (tdP ts) ks->(∃d v,AU ts k=some d/\GO ks (kP k)=some v/\DV K H W d v)∨(AU ts k=none/\GO ks (kP k)=none)
 | [],ks,h=>by rw[H0 h];exact .inr ⟨rfl,rfl⟩
 | t::ts,ks,h=>by
   obtain⟨u,r,rfl,h1,h2⟩:=CZ.mp h
   unfold AU
   by_cases e:t.1=k
   · rw[if_pos e]
     exact .inl ⟨t.2,u,rfl,IZ (show kP t.1=kP k by rw[e]),h1⟩
   · rw[if_neg e,J0 (p:=(kP t.1,u)) (show ¬kP t.1=kP k from fun q=>e (UG q))]
     exact NE h2
theorem SJ {p:Addr}{ks:List (List Key×V)}{kvs:List (List Key×PyData)}(oa:OA K H M) (h:H p=b3J) (hd:DTV K H M.W kvs ks) :
   OA K (upd H p (.dT ks)) (M.put p (.t kvs))/\Step K M (M.put p (.t kvs)) H (upd H p (.dT ks)):=by
 have g:Grow K M.W (M.put p (.t kvs)).W H (upd H p (.dT ks)):=⟨fun b u e _=>.inl (by rw[AG (AV e h)];exact e),fun b w=>by
   by_cases hb:b=p
   · subst hb;exact .inr h
   · left;unfold Own.W at w ⊢;rw[yH hb] at w;exact w⟩
 refine⟨fun a o e=>?_,⟨g⟩⟩
 by_cases ha:a=p
 · subst ha;rw[zU] at e;cases e;exact⟨ks,AH,hd.grow g⟩
 · rw[yH ha] at e
   have q:=oa a o e
   cases o <;> (obtain⟨vs,q1,q2⟩:=q;exact⟨vs,by rw[AG ha];exact q1,q2.grow g⟩)
theorem NF {p:Addr}{ks:List (List Key×V)}{kvs:List (List Key×PyData)}{o:MO}(oa:OA K H M) (h:M p=some o) (hd:DTV K H M.W kvs ks) :
   OA K (upd H p (.dT ks)) (M.put p (.t kvs))/\Step K M (M.put p (.t kvs)) H (upd H p (.dT ks)):=by
 have hw:∀b,(M.put p (.t kvs)).W b->M.W b:=fun b w=>by
   unfold Own.W at w ⊢
   by_cases hb:b=p
   · subst hb;rw[h];simp
   · rw[yH hb] at w;exact w
 have g:Grow K M.W (M.put p (.t kvs)).W H (upd H p (.dT ks)):=⟨fun b u e nw=>.inl (by
   rw[AG (by rintro rfl;exact nw (by unfold Own.W;rw[h];simp))];exact e),fun b w=>.inl (hw b w)⟩
 refine⟨fun a o e=>?_,⟨g⟩⟩
 by_cases ha:a=p
 · subst ha;rw[zU] at e;cases e;exact⟨ks,AH,hd.grow g⟩
 · rw[yH ha] at e
   have q:=oa a o e
   cases o <;> (obtain⟨vs,q1,q2⟩:=q;exact⟨vs,by rw[AG ha];exact q1,q2.grow g⟩)
end
section
variable {K:Frg}{M:Own}{Q:DS->Own->Prop}{ρ:List (Option DS)}{H:Hp}{td tv:TE}{tl:TA}{D:EndsD}
theorem JI {C:NP->Own->Prop}{σ:St}{QQ:VK}(h:DA K tl ρ M fun xs M1=>∃k:NP,xs=[.d (.int (k.1:Int)),.d (.int (k.2:Int))]/\C k M1) (R:Rel K M ρ σ H)
   (q:∀(k:NP) (b:Addr) (H1:Hp) (M1:Own),OA K H1 M1->H1 b=some (.tup ((kP k).map kV))->M1 b=none->Step K M M1 H H1->C k M1->QQ (.ref b) H1):T0 tl σ H QQ:=
 h σ H _ R fun vs H1 xs M1 o1 s1 t1 h1=>by
   obtain⟨k,rfl,c⟩:=h1
   obtain⟨v,r,rfl,e1,v2,r2,rfl,e2,e3⟩:=s1
   cases e3
   rw[BA e1,BA e2]
   refine⟨by rw[sizeLine_eq];simp,fun p hp=>?_⟩
   exact q k p _ M1 (o1.new hp) AH (o1.none hp) (t1.trans ⟨B0 _ hp⟩) c
theorem SK {M M':Own}{H H':Hp}{b:Addr}{xs:List V}(st:Step K M M' H H') (e:H b=some (.tup xs)) (n:M b=none):H' b=some (.tup xs):=st.grow.kept e (fun w=>w n) fun _ z=>nomatch z
theorem aR (q:∀p,M p=none->Q (.loc p) (M.put p (.t (tdP [])))):DE K Y1 ρ M Q:=fun σ H QQ R k p hp=>by
 obtain⟨o,s⟩:=SJ (kvs:=tdP []) (ks:=[]) R.own hp JH
 exact k _ _ (.loc p) _ o rfl s (q p (R.own.none hp))
theorem SL (h:∀p,M p=none->DA K tl ρ (M.put p (.t (tdP []))) fun xs M1=>∃k:NP,xs=[.d (.int (k.1:Int)),.d (.int (k.2:Int))]/\DE K tv ρ M1 fun y M2=>∃d,y = .d d/\M2 p=some (.t (tdP []))/\Q (.loc p) (M2.put p (.t (tdP [(k,d)])))):DE K (aQ (T0 tl) tv) ρ M Q:=fun σ H QQ R kk p hp=>by
 obtain⟨o0,s0⟩:=SJ (kvs:=tdP []) (ks:=[]) R.own hp JH
 refine JI (h p (R.own.none hp)) (R.step o0 s0) fun k b H1 M1 o1 e1 n1 t1 c=>?_
 refine c σ H1 _ (R.step o1 (s0.trans t1)) fun v H2 y M2 o2 s2 t2 h2=>?_
 obtain⟨d,rfl,m,q⟩:=h2
 obtain⟨ks,e2,hd⟩:=o2 p _ m
 obtain rfl:=H0 hd
 obtain⟨o3,s3⟩:=NF (kvs:=tdP [(k,d)]) (ks:=[(kP k,v)]) o2 m (CZ.mpr ⟨v,[],rfl,s2,JH⟩)
 exact⟨e2,kP k,b,rfl,SK t2 e1 n1,kk _ _ (.loc p) _ o3 rfl (((s0.trans t1).trans t2).trans s3) q⟩
theorem aS (h:DE K td ρ M fun x M1=>DA K tl ρ M1 fun xs M2=>∃k:NP,xs=[.d (.int (k.1:Int)),.d (.int (k.2:Int))]/\∃(a:Addr) (ts:List (NP×PyData)) (d:PyData),x = .loc a/\M2 a=some (.t (tdP ts))/\AU ts k=some d/\Q (.d d) M2):DE K (fJ td (T0 tl)) ρ M Q:=fun σ H QQ R kk=>
 h σ H _ R fun v H1 x M1 o1 s1 t1 h1=>JI h1 (R.step o1 t1) fun k b H2 M2 o2 e2 n2 t2 c=>by
   obtain⟨a,ts,d,rfl,m,l,q⟩:=c
   unfold SI at s1
   subst s1
   obtain⟨ks,e3,hd⟩:=o2 a _ m
   rcases NE (k:=k) hd with ⟨d',w',a1,a2,a3⟩ | ⟨a1,a2⟩
   · rw[l] at a1
     cases a1
     exact⟨a,w',rfl,by rw[← a2];exact DGet.t e3 e2,kk _ H2 (.d d) M2 o2 a3 (t1.trans t2) q⟩
   · rw[l] at a1;cases a1
theorem QA (h:DA K tl ρ M fun xs M1=>∃k:NP,xs=[.d (.int (k.1:Int)),.d (.int (k.2:Int))]/\DE K td ρ M1 fun x M2=>∃(a:Addr) (ts:List (NP×PyData)),x = .loc a/\M2 a=some (.t (tdP ts))/\Q (.d (.bool (AU ts k).isSome)) M2):DE K (kW (T0 tl) td) ρ M Q:=fun σ H QQ R kk=>
 JI h R fun k b H1 M1 o1 e1 n1 t1 c=>c σ H1 _ (R.step o1 t1) fun v H2 x M2 o2 s2 t2 h2=>by
   obtain⟨a,ts,rfl,m,q⟩:=h2
   unfold SI at s2
   subst s2
   obtain⟨ks,e3,hd⟩:=o2 a _ m
   refine⟨a,_,rfl,DGet.t e3 (SK t2 e1 n1),kk _ H2 _ M2 o2 ?_ (t1.trans t2) q⟩
   rcases NE (k:=k) hd with ⟨d',w',a1,a2,a3⟩ | ⟨a1,a2⟩
   · rw[a1,a2];exact AM
   · rw[a1,a2];exact AM
theorem JJ (h:DE K tv ρ M fun z M1=>DE K td ρ M1 fun x M2=>DA K tl ρ M2 fun xs M3=>∃k:NP,xs=[.d (.int (k.1:Int)),.d (.int (k.2:Int))]/\∃(a:Addr) (ts:List (NP×PyData)) (d:PyData),z = .d d/\x = .loc a/\M3 a=some (.t (tdP ts))/\ts.length < sizeLine/\D.nx ρ (M3.put a (.t (tdP (L9 ts k d))))):DSt K (fK td (T0 tl) tv) ρ M D:=fun σ H E R k1 k2 k3 k4=>
 h σ H _ R fun v H1 z M1 o1 s1 t1 h1=>h1 σ H1 _ (R.step o1 t1) fun u H2 x M2 o2 s2 t2 h2=>JI h2 (R.step o2 (t1.trans t2)) fun k b H3 M3 o3 e3 n3 t3 c=>by
   obtain⟨a,ts,d,rfl,rfl,m,hl,q⟩:=c
   unfold SI at s2
   subst s2
   obtain⟨ks,e1,hd⟩:=o3 a _ m
   obtain⟨o4,t4⟩:=NF o3 m (eD (k:=k) hd (DV.grow (t2.trans t3).grow s1))
   have hlen:ks.length < sizeLine:=by rw[VS hd];unfold tdP;rw[zX];exact hl
   have ta:=((t1.trans t2).trans t3).trans t4
   exact⟨a,_,rfl,DPut.t e1 e3 hlen,k1 ρ _ σ _ (R.step o4 ta) ta q⟩
theorem jY:∀{ts:List (NP×PyData)}{ks:List (List Key×V)}{W:Addr->Prop}{i:Nat}{k:List Key}{v:V},DTV K H W (tdP ts) ks->ks[i]?=some (k,v)->∃t,ts[i]?=some t/\k=kP t.1:=fun {ts ks W i k v} h e=>by
 have:=congrArg (fun l=>l[i]?) h.1
 simp only[zF,e,tdP,zD] at this
 cases et:ts[i]? with
 | none=>rw[et] at this;cases this
 | some t=>rw[et] at this;cases this;exact⟨t,rfl,rfl⟩
theorem VU {a:Addr}:(M.del a).Sub M:=fun b o q=>by
 unfold Own.del at q
 by_cases hb:b=a
 · rw[if_pos hb] at q;cases q
 · rw[if_neg hb] at q;exact q
theorem eF {td:TE}{QI:List PyData->Own->Prop}(h:DE K td ρ M fun x M1=>∃(a:Addr) (ts:List (NP×PyData)),x = .loc a/\M1 a=some (.t (tdP ts))/\QI (ts.map fun t=>pD t.1) (M1.del a)):DI K (gA td) ρ M QI:=fun σ H R Rl k=>
 h σ H _ Rl fun v H1 x M1 o1 s1 t1 h1=>by
   obtain⟨a,ts,rfl,m,q⟩:=h1
   unfold SI at s1
   subst s1
   obtain⟨ks,e,hd⟩:=o1 a _ m
   have hlen:ks.length=ts.length:=by have:=VS hd;unfold tdP at this;simpa using this
   refine⟨a,ks,rfl,e,fun o=>?_⟩
   have nw:¬(M1.del a).W a:=by unfold Own.W Own.del;simp
   have g:Grow K M1.W (M1.del a).W H1 (upd H1 a (.frz o (.dT ks))):=⟨fun b u e' nb=>.inl (by
     rw[AG]
     · exact e'
     · rintro rfl
       exact nb (by unfold Own.W;rw[m];simp)),(BJ (H:=H1) (K:=K) VU).new⟩
   have oa:OA K (upd H1 a (.frz o (.dT ks))) (M1.del a):=fun b ob eb=>by
     have hb:b≠a:=by rintro rfl;unfold Own.del at eb;simp at eb
     have q:=o1 b ob (VU b ob eb)
     cases ob <;> (obtain⟨vs,q1,q2⟩:=q;exact⟨vs,by rw[AG hb];exact q1,q2.grow g⟩)
   refine k _ _ _ _ oa (t1.trans ⟨g⟩) ⟨fun i H' M' hi oa st=>⟨st.grow.kept AH nw (fun _ z=>nomatch z),by rw[hlen];simpa using hi⟩,fun H' M' oa st=>⟨st.grow.kept AH nw (fun _ z=>nomatch z),by rw[hlen];simp⟩,fun i H' M' x H3 oa st hi y=>?_⟩ q
   obtain⟨rfl,kk,vv,b,ek,rfl,eb⟩:=y
   obtain⟨t,ht,rfl⟩:=jY hd ek
   refine⟨oa,Step.refl,pD t.1,by rw[zF,ht];rfl,?_⟩
   have nb:¬M'.W b:=fun w=>by
     cases e2:M' b with
     | none=>exact w e2
     | some ob=>
       have:=oa b ob e2
       cases ob <;> (obtain⟨vs,q1,q2⟩:=this;rw[eb] at q1;cases q1)
   unfold pD DV
   exact⟨b,_,rfl,.inl ⟨nb,.inl eb⟩,DVs.cons (by unfold DV;rfl) (DVs.cons (by unfold DV;rfl) DVs.nil)⟩
end
end DL
namespace DL
open PySem PySem.Spec L2
section
variable {S:List Str}{A B C C':List Ln}{c h t:Nat}{l:Ln}
theorem Mx.le (m:Mx A B c h t C) (ha:c<=A.length) (hb:c<=B.length):c<=h/\c<=t/\h<=A.length/\t<=B.length:=by
 induction m with
 | base=>exact⟨zR _,zR _,ha,hb⟩
 | a _ e ih=>have:=(yT.mp e).1;omega
 | b _ e ih=>have:=(yT.mp e).1;omega
theorem Mx.names (m:Mx A B c h t C) (hA:BkD S (dsL A)) (hc:c<=A.length) (hp:A.take c=B.take c) :
   (∀x,(∃j,mkN (dsL C) j=some x)↔(∃j,j < h/\mkN (dsL A) j=some x)∨∃j,j < t/\mkN (dsL B) j=some x) /\
   ∀x,(∃j,enN (dsL C) j=some x)↔(∃j,j < h/\enN (dsL A) j=some x)∨∃j,j < t/\enN (dsL B) j=some x:=by
 induction m with
 | base=>exact⟨(MI.base hA hc hp).mk_,(MI.base hA hc hp).en⟩
 | @a h t C l m e ih=>
   have hd:(dsL A)[h]?=some l.2:=by rw[BY,e];rfl
   have mkh:mkN (dsL A) h=l.2.made:=by unfold mkN;rw[hd];rfl
   have enh:enN (dsL A) h=BN l.2:=by unfold enN;rw[hd];rfl
   exact⟨fun x=>by rw[BP,Q8,ih.1,HM,mkh,or_right_comm],fun x=>by rw[BP,Q9,ih.2,HM,enh,or_right_comm]⟩
 | @b h t C l m e ih=>
   have hd:(dsL B)[t]?=some l.2:=by rw[BY,e];rfl
   have mkh:mkN (dsL B) t=l.2.made:=by unfold mkN;rw[hd];rfl
   have enh:enN (dsL B) t=BN l.2:=by unfold enN;rw[hd];rfl
   exact⟨fun x=>by rw[BP,Q8,ih.1,HM,mkh,or_assoc],fun x=>by rw[BP,Q9,ih.2,HM,enh,or_assoc]⟩
theorem VW (m:Mx A B c h t C) (m':Mx A B c h t C') (hA:BkD S (dsL A)) (hc:c<=A.length) (hp:A.take c=B.take c) (b':BkD S (dsL C')) (q:BkD S (dsL (C++[l]))):BkD S (dsL (C'++[l])):=by
 obtain⟨n1,n2⟩:=m.names hA hc hp
 obtain⟨n3,n4⟩:=m'.names hA hc hp
 rw[BP] at q ⊢
 obtain⟨_,q1,q2⟩:=E4.mp q
 refine E4.mpr ⟨b',fun x e=>⟨(q1 x e).1,fun j e2=>?_⟩,fun x e=>⟨?_,fun j e2=>?_⟩⟩
 · obtain⟨i,hi⟩:=(n1 x).mpr ((n3 x).mp ⟨j,e2⟩)
   exact(q1 x e).2 i hi
 · rcases (q2 x e).1 with z | z
   · exact .inl z
   · exact .inr ((n3 x).mpr ((n1 x).mp z))
 · obtain⟨i,hi⟩:=(n2 x).mpr ((n4 x).mp ⟨j,e2⟩)
   exact(q2 x e).2 i hi
structure CalmX (A B:List Ln) (c h t:Nat):Prop where
 mk_:∀i j,c<=i->i < h->c<=j->j < t->∀x,mkN (dsL A) i=some x->mkN (dsL B) j≠some x
 ord:∀i j,c<=i->i < h->c<=j->j < t->(∀x,enN (dsL A) i=some x->∀k,j<=k->k < t->x∉wnN (dsL B) k)∨∀x,enN (dsL B) j=some x->∀k,i<=k->k < h->x∉wnN (dsL A) k
theorem CalmX.swap (q:CalmX A B c h t):CalmX B A c t h:=⟨fun i j a b d e x h1 h2=>q.mk_ j i d e a b x h2 h1,fun i j a b d e=>(q.ord j i d e a b).symm⟩
theorem P0 (m:Mx A B c h t C) (hA:BkD S (dsL A)) (hc:c<=A.length) (hp:A.take c=B.take c) (q:CalmX A B c h t) (e:A[h]?=some l) (hb:BkD S (dsL (C++[l]))):CalmX A B c (h+1) t:=by
 obtain⟨n1,n2⟩:=m.names hA hc hp
 rw[BP] at hb
 obtain⟨_,q1,q2⟩:=E4.mp hb
 have hd:(dsL A)[h]?=some l.2:=by rw[BY,e];rfl
 have mkh:mkN (dsL A) h=l.2.made:=by unfold mkN;rw[hd];rfl
 have wnh:wnN (dsL A) h=E2 l.2:=by unfold wnN;rw[hd]
 have key:∀j,j < t->∀x,enN (dsL B) j=some x->x∉wnN (dsL A) h:=fun j hj x ex hx=>by
   obtain⟨i,hi⟩:=(n2 x).mpr (.inr ⟨j,hj,ex⟩)
   exact(q2 x (by rw[← wnh];exact hx)).2 i hi
 refine⟨fun i j h1 h2 h3 h4 x e1 e2=>?_,fun i j h1 h2 h3 h4=>?_⟩
 · by_cases hi:i < h
   · exact q.mk_ i j h1 hi h3 h4 x e1 e2
   · obtain rfl:i=h:=by omega
     obtain⟨k,hk⟩:=(n1 x).mpr (.inr ⟨j,h4,e2⟩)
     exact(q1 x (by rw[← mkh];exact e1)).2 k hk
 · by_cases hi:i < h
   · rcases q.ord i j h1 hi h3 h4 with z | z
     · exact .inl z
     · refine .inr fun x ex k k1 k2=>?_
       by_cases hk:k < h
       · exact z x ex k k1 hk
       · obtain rfl:k=h:=by omega
         exact key j h4 x ex
   · obtain rfl:i=h:=by omega
     refine .inr fun x ex k k1 k2=>?_
     obtain rfl:k=i:=by omega
     exact key j h4 x ex
theorem eG (m:Mx A B c h t C) (hA:BkD S (dsL A)) (hB:BkD S (dsL B)) (hc:c<=A.length) (hc2:c<=B.length) (hp:A.take c=B.take c) (hb:BkD S (dsL C)):CalmX A B c h t:=by
 induction m with
 | base=>exact⟨fun i j h1 h2=>absurd h2 (by omega),fun i j h1 h2=>absurd h2 (by omega)⟩
 | a m e ih=>exact P0 m hA hc hp (ih (by rw[BP] at hb;exact(E4.mp hb).1)) e hb
 | b m e ih=>exact(P0 (m.swap hp) hB hc2 hp.symm (ih (by rw[BP] at hb;exact(E4.mp hb).1)).swap e hb).swap
theorem gB {Ds:List Deed}{i:Nat}{x:Str}(h:enN Ds i=some x):x∈wnN Ds i:=by
 unfold enN at h
 unfold wnN
 cases e:Ds[i]? with
 | none=>rw[e] at h;cases h
 | some D=>rw[e] at h;exact N5 h
theorem jZ (m:Mx A B c A.length B.length C) (hA:BkD S (dsL A)) (hB:BkD S (dsL B)) (hc:c<=A.length) (hc2:c<=B.length) (hp:A.take c=B.take c) (hb:BkD S (dsL C)) (ra:∀l∈A,l.2.real) (rb:∀l∈B,l.2.real) {d:PyData}(q:g9 A B c d):False:=by
 have k:=eG m hA hB hc hc2 hp hb
 have mkA:∀{X:List Ln}{i:Nat}{a:Ln}{x:Str},X[i]?=some a->a.2.made=some x->mkN (dsL X) i=some x:=fun {X i a x} e1 e2=>by unfold mkN;rw[BY,e1];exact e2
 have enA:∀{X:List Ln}{i:Nat}{a:Ln}{x:Str},X[i]?=some a->BN a.2=some x->enN (dsL X) i=some x:=fun {X i a x} e1 e2=>by unfold enN;rw[BY,e1];exact e2
 have wnA:∀{X:List Ln}{i:Nat}{a:Ln}{x:Str},(∀l∈X,l.2.real)->X[i]?=some a->x∈a.2.must->x∈wnN (dsL X) i:=fun {X i a x} r e1 e2=>by unfold wnN;rw[BY,e1];rw[LR (r a (yN e1))] at e2;exact e2
 have lt:∀{X:List Ln}{i:Nat}{a:Ln},X[i]?=some a->i < X.length:=fun {X i a} e=>(yT.mp e).1
 rcases q with ⟨i,j,a,b,x,ci,cj,ga,gb,⟨_,e1,e2⟩ | ⟨_,e1,e2⟩⟩ | ⟨i,j,k',l,a,b,b',a',x,y,_,cl,li,cj,jk,ga,gb,gb2,ga2,e1,e2,e3,e4⟩
 · exact k.mk_ i j ci (lt ga) cj (lt gb) x (mkA ga e1) (mkA gb e2)
 · rcases k.ord i j ci (lt ga) cj (lt gb) with f | f
   · exact f x (enA ga e1) j (zR _) (lt gb) (gB (enA gb e2))
   · exact f x (enA gb e2) i (zR _) (lt ga) (gB (enA ga e1))
 · rcases k.ord l j cl (lt ga2) cj (lt gb) with f | f
   · exact f y (enA ga2 e3) k' jk (lt gb2) (wnA rb gb2 e4)
   · exact f x (enA gb e1) i li (lt ga) (wnA ra ga e2)
abbrev HA (C:List Ln):PyData:=.list (C.map AF)
def KH (S:List Str) (A B:List Ln) (c:Nat) (ts:List (NP×PyData)):Prop:=∀k d,AU ts k=some d->∃C,d=HA C/\Mx A B c k.1 k.2 C/\BkD S (dsL C)
structure DPI (S:List Str) (A B:List Ln) (c:Nat) (ts:List (NP×PyData)) (i j:Nat):Prop where
 sound:KH S A B c ts
 base:(AU ts (c,c)).isSome=true
 fa:∀a b,(a < i∨a=i/\b < j)->b<=B.length->∀C l,Mx A B c a b C->A[a]?=some l->BkD S (dsL (C++[l]))->(AU ts (a+1,b)).isSome=true
 fb:∀a b,(a < i∨a=i/\b < j)->b<=B.length->∀C l,Mx A B c a b C->B[b]?=some l->BkD S (dsL (C++[l]))->(AU ts (a,b+1)).isSome=true
variable {ts ts2:List (NP×PyData)}{i j p q:Nat}
theorem eI (hb:BkD S (dsL (C++[l]))):BkD S (dsL C):=by rw[BP] at hb;exact(E4.mp hb).1
theorem DPI.here (d:DPI S A B c ts i j) (hpq:p < i∨p=i/\q<=j) (hq:q<=B.length) (m:Mx A B c p q C) (hb:BkD S (dsL C)):(AU ts (p,q)).isSome=true:=by
 cases m with
 | base=>exact d.base
 | a m e=>exact d.fa _ _ (by omega) hq _ _ m e hb
 | b m e=>exact d.fb _ _ (by omega) (by omega) _ _ m e hb
theorem DPI.start (hc:c<=A.length) (hc2:c<=B.length) (hA:BkD S (dsL A)):DPI S A B c [((c,c),HA (A.take c))] c c:=by
 refine⟨fun k d e=>?_,by simp[AU],fun a b h1 h2 C l m=>?_,fun a b h1 h2 C l m=>?_⟩
 · unfold AU at e
   split at e
   · rename_i h
     cases e
     have h:(c,c)=k:=h
     subst h
     exact⟨_,rfl,.base,by rw[FG];exact VR hA c⟩
   · cases e
 · have:=m.le hc hc2;omega
 · have:=m.le hc hc2;omega
theorem DPI.skip (d:DPI S A B c ts i j) (hj:j<=B.length) (hn:(AU ts (i,j)).isSome=false):DPI S A B c ts i (j+1):=by
 have no:∀C l,Mx A B c i j C->BkD S (dsL (C++[l]))->False:=fun C l m hb=>by
   have:=d.here (p:=i) (q:=j) (.inr ⟨rfl,zR _⟩) hj m (eI hb)
   rw[hn] at this;cases this
 refine⟨d.sound,d.base,fun a b h1 h2 C l m e hb=>?_,fun a b h1 h2 C l m e hb=>?_⟩
 · by_cases z:a < i∨a=i/\b < j
   · exact d.fa a b z h2 C l m e hb
   · obtain⟨rfl,rfl⟩:a=i/\b=j:=by omega
     exact(no C l m hb).elim
 · by_cases z:a < i∨a=i/\b < j
   · exact d.fb a b z h2 C l m e hb
   · obtain⟨rfl,rfl⟩:a=i/\b=j:=by omega
     exact(no C l m hb).elim
theorem DPI.cell (d:DPI S A B c ts i j) (hA:BkD S (dsL A)) (hc:c<=A.length) (hp:A.take c=B.take c) (m:Mx A B c i j C) (hC:BkD S (dsL C)) (hs:KH S A B c ts2) (mono:∀k,(AU ts k).isSome=true->(AU ts2 k).isSome=true)
   (ha:∀l,A[i]?=some l->BkD S (dsL (C++[l]))->(AU ts2 (i+1,j)).isSome=true) (hb:∀l,B[j]?=some l->BkD S (dsL (C++[l]))->(AU ts2 (i,j+1)).isSome=true):DPI S A B c ts2 i (j+1):=by
 refine⟨hs,mono _ d.base,fun a b h1 h2 C' l m' e hb'=>?_,fun a b h1 h2 C' l m' e hb'=>?_⟩
 · by_cases z:a < i∨a=i/\b < j
   · exact mono _ (d.fa a b z h2 C' l m' e hb')
   · obtain⟨rfl,rfl⟩:a=i/\b=j:=by omega
     exact ha l e (VW m' m hA hc hp hC hb')
 · by_cases z:a < i∨a=i/\b < j
   · exact mono _ (d.fb a b z h2 C' l m' e hb')
   · obtain⟨rfl,rfl⟩:a=i/\b=j:=by omega
     exact hb l e (VW m' m hA hc hp hC hb')
theorem DPI.row (d:DPI S A B c ts i (B.length+1)) (hc:c<=A.length) (hc2:c<=B.length):DPI S A B c ts (i+1) c:=by
 refine⟨d.sound,d.base,fun a b h1 h2 C l m e hb=>?_,fun a b h1 h2 C l m e hb=>?_⟩
 · have:=m.le hc hc2
   exact d.fa a b (by omega) h2 C l m e hb
 · have:=m.le hc hc2
   exact d.fb a b (by omega) h2 C l m e hb
theorem aT (hs:KH S A B c ts) {k:NP}(m:Mx A B c k.1 k.2 C) (hb:BkD S (dsL C)):KH S A B c (L9 ts k (HA C))/\(∀x,(AU ts x).isSome=true->(AU (L9 ts k (HA C)) x).isSome=true)/\(AU (L9 ts k (HA C)) k).isSome=true:=by
 refine⟨fun x d e=>?_,fun x h=>?_,?_⟩
 · rw[FI] at e
   split at e
   · rename_i z
     subst z
     cases e
     exact⟨C,rfl,m,hb⟩
   · exact hs x d e
 · rw[FI]
   split
   · rfl
   · exact h
 · rw[FI,if_pos rfl];rfl
theorem DPI.ends (d:DPI S A B c ts (A.length+1) j):(AU ts (A.length,B.length)).isSome=true↔∃C,Mx A B c A.length B.length C/\BkD S (dsL C):=by
 constructor
 · intro h
   obtain⟨x,hx⟩:=xX.mp h
   obtain⟨C,_,m,hb⟩:=d.sound _ _ hx
   exact⟨C,m,hb⟩
 · rintro⟨C,m,hb⟩
   exact d.here (.inl (Nat.lt_succ_self _)) (zR _) m hb
theorem Mx.path (m:Mx A B c h t C) (hc:c=0):∃f:Nat->NP,f 0=(0,0)/\f C.length=(h,t)/\∀k,k < C.length->∃l,C[k]?=some l/\(A[(f k).1]?=some l/\f (k+1)=((f k).1+1,(f k).2)∨B[(f k).2]?=some l/\f (k+1)=((f k).1,(f k).2+1)):=by
 have more:∀{C:List Ln}{l:Ln}{f:Nat->NP}{r:NP},f 0=(0,0)->(∀k,k < C.length->∃l,C[k]?=some l/\(A[(f k).1]?=some l/\f (k+1)=((f k).1+1,(f k).2)∨B[(f k).2]?=some l/\f (k+1)=((f k).1,(f k).2+1))) ->
     (A[(f C.length).1]?=some l/\r=((f C.length).1+1,(f C.length).2)∨B[(f C.length).2]?=some l/\r=((f C.length).1,(f C.length).2+1)) ->
     ∃g:Nat->NP,g 0=(0,0)/\g (C++[l]).length=r/\∀k,k < (C++[l]).length->∃x,(C++[l])[k]?=some x/\(A[(g k).1]?=some x/\g (k+1)=((g k).1+1,(g k).2)∨B[(g k).2]?=some x/\g (k+1)=((g k).1,(g k).2+1)):=by
   intro C l f r f0 fs fr
   refine⟨fun k=>if k<=C.length then f k else r,by dsimp only;rw[if_pos (xR _)];exact f0,by dsimp only;rw[yY];exact if_neg (Nat.not_succ_le_self _),fun k hk=>?_⟩
   rw[yY] at hk
   have hk:k < C.length+1:=hk
   by_cases z:k < C.length
   · obtain⟨x,e,h⟩:=fs k z
     refine⟨x,by rw[yQ z];exact e,?_⟩
     dsimp only
     rw[if_pos (by omega),if_pos (by omega)]
     exact h
   · obtain rfl:k=C.length:=by omega
     refine⟨l,by simp,?_⟩
     dsimp only
     rw[if_pos (zR _),if_neg (by omega)]
     exact fr
 induction m with
 | base=>subst hc;exact⟨fun _=>(0,0),rfl,by simp,fun k hk=>by simp at hk⟩
 | a m e ih=>
   obtain⟨f,f0,fe,fs⟩:=ih
   exact more f0 fs (.inl (by rw[fe];exact⟨e,rfl⟩))
 | b m e ih=>
   obtain⟨f,f0,fe,fs⟩:=ih
   exact more f0 fs (.inr (by rw[fe];exact⟨e,rfl⟩))
theorem Mx.len (m:Mx A B c h t C) (hc:c<=A.length):C.length+c=h+t:=by
 induction m with
 | base=>rw[a1Q];omega
 | a _ _ ih=>rw[yY];simp;omega
 | b _ _ ih=>rw[yY];simp;omega
theorem Mx.drop (m:Mx A B c h t C) (hc:c<=A.length) (hc2:c<=B.length):Mx (A.drop c) (B.drop c) 0 (h - c) (t - c) (C.drop c):=by
 induction m with
 | base=>
   have e:(A.take c).drop c=(A.drop c).take 0:=by rw[a2J (by rw[a1Q];omega),List.take_zero]
   rw[e,Nat.sub_self]
   exact .base
 | @a h t C l m e ih=>
   have h1:=m.le hc hc2
   have h2:=m.len hc
   rw[List.drop_append_of_le_length (by omega),show h+1 - c=(h - c)+1 by omega]
   exact .a ih (by rw[a8W,show c+(h - c)=h by omega];exact e)
 | @b h t C l m e ih=>
   have h1:=m.le hc hc2
   have h2:=m.len hc
   rw[List.drop_append_of_le_length (by omega),show t+1 - c=(t - c)+1 by omega]
   exact .b ih (by rw[a8W,show c+(t - c)=t by omega];exact e)
end
end DL
namespace DL
open PySem PySem.Spec L2
section
variable {M:Own}{Q:DS->Own->Prop}{w:List Th}{A B C:List Ln}{c:Nat}
theorem eJ {a p:Addr}{o o':MO}(ha:M a=none) (h:p≠a):((M.put a o).put p o').del a=M.put p o':=by
 rw[Own.del_put_ne h]
 congr 1
 funext b
 unfold Own.del Own.put
 by_cases e:b=a
 · subst e;rw[if_pos rfl,ha]
 · rw[if_neg e,if_neg e]
theorem aU {ts:List (NP×PyData)}{k z:NP}{d:PyData}(h:z∈ts.map (·.1)):z∈(L9 ts k d).map (·.1):=by
 rw[← HN] at h ⊢
 rw[FI]
 split
 · rfl
 · exact h
theorem aV {ts:List (NP×PyData)}{k:NP}{d:PyData}:k∈(L9 ts k d).map (·.1):=by rw[← HN,FI,if_pos rfl];rfl
theorem Mx.sub {h t:Nat}(m:Mx A B c h t C):∀l∈C,l∈A∨l∈B:=by
 induction m with
 | base=>exact fun l hl=>.inl (a2Z hl)
 | a _ e ih=>exact fun l hl=>(yW.mp hl).elim (ih l) fun q=>by rw[List.mem_singleton.mp q];exact .inl (yN e)
 | b _ e ih=>exact fun l hl=>(yW.mp hl).elim (ih l) fun q=>by rw[List.mem_singleton.mp q];exact .inr (yN e)
theorem Mx.pre {h t:Nat}(m:Mx A B c h t C) (ha:c<=A.length) (hb:c<=B.length):C.take c=A.take c:=by
 induction m with
 | base=>rw[List.take_take,Nat.min_self]
 | a m e ih=>have:=m.le ha hb;have:=m.len ha;rw[List.take_append_of_le_length (by omega)];exact ih
 | b m e ih=>have:=m.le ha hb;have:=m.len ha;rw[List.take_append_of_le_length (by omega)];exact ih
abbrev bkB (w:List Th) (C:List Ln):Bool:=L8 (B8 w) (B8 w) (dsL C)
abbrev nxX (w:List Th) (C:List Ln) (l:Ln):List DS:=[.d (wD w),.d (HA C),.d (AF l)]
def HB:FSp:=⟨fun xs M=>∃(w:List Th) (C:List Ln) (l:Ln),xs=nxX w C l/\okN w/\w.length<=26/\(∀x∈C++[l],x.2.real)/\C.length < 60,fun xs M y M'=>∀(w:List Th) (C:List Ln) (l:Ln),xs=nxX w C l->y = .d (.bool (bkB w (C++[l])))/\M'=M⟩
theorem P1 {l:Ln}(h1:okN w) (h2:w.length<=26) (h3:∀x∈C++[l],x.2.real) (h4:C.length < 60) (q:Q (.d (.bool (bkB w (C++[l])))) M):(nxX w C l).length=3/\HB.pre (nxX w C l) M/\∀x M',HB.post (nxX w C l) M x M'->Q x M':=
 ⟨rfl,⟨w,C,l,rfl,h1,h2,h3,h4⟩,fun x M' hh=>by obtain⟨rfl,rfl⟩:=hh w C l rfl;exact q⟩
structure K56 (w:List Th) (A B:List Ln) (c:Nat):Prop where
 t:two9 w A B
 p:A.take c=B.take c
 ca:c<=A.length
 cb:c<=B.length
abbrev aW (w:List Th) (A B:List Ln) (c:Nat):List DS:=[.d (wD w),.d (AB A),.d (AB B),.d (.int (c:Nat))]
def JK:FSp:=⟨fun xs M=>∃(w:List Th) (A B:List Ln) (c:Nat),xs=aW w A B c/\K56 w A B c,fun xs M y M'=>∀(w:List Th) (A B:List Ln) (c:Nat),xs=aW w A B c->M'=M/\∃b:Bool,y = .d (.bool b)/\(b=true↔∃C,Mx A B c A.length B.length C/\BkD (B8 w) (dsL C))⟩
theorem SM (h:K56 w A B c) (q:∀b:Bool,(b=true↔∃C,Mx A B c A.length B.length C/\BkD (B8 w) (dsL C))->Q (.d (.bool b)) M):(aW w A B c).length=4/\JK.pre (aW w A B c) M/\∀x M',JK.post (aW w A B c) M x M'->Q x M':=
 ⟨rfl,⟨w,A,B,c,rfl,h⟩,fun x M' hh=>by obtain⟨rfl,b,rfl,h⟩:=hh w A B c rfl;exact q b h⟩
abbrev eL (L A B:List Ln):List DS:=[.d (AB L),.d (AB A),.d (AB B)]
def JL:FSp:=⟨fun xs M=>∃L A B:List Ln,xs=eL L A B/\Mx A B 0 A.length B.length L/\L.length<=24/\EM L/\EM A/\EM B,fun xs M y M'=>y = .d (.bool true)/\M'=M⟩
theorem aX {L:List Ln}(h1:Mx A B 0 A.length B.length L) (h2:L.length<=24) (h3:EM L) (h4:EM A) (h5:EM B) (q:Q (.d (.bool true)) M):(eL L A B).length=3/\JL.pre (eL L A B) M/\∀x M',JL.post (eL L A B) M x M'->Q x M':=
 ⟨rfl,⟨L,A,B,rfl,h1,h2,h3,h4,h5⟩,fun x M' hh=>by obtain⟨rfl,rfl⟩:=hh;exact q⟩
def FJ:FSp:=⟨fun xs M=>∃(w:List Th) (A B:List Ln),xs=b2X w A B/\two9 w A B,fun xs M y M'=>y = .d (.bool true)/\M'=M⟩
theorem G1 (h:two9 w A B) (q:Q (.d (.bool true)) M):(b2X w A B).length=2/\FJ.pre (b2X w A B) M/\∀x M',FJ.post (b2X w A B) M x M'->Q x M':=
 ⟨rfl,⟨w,A,B,rfl,h⟩,fun x M' hh=>by obtain⟨rfl,rfl⟩:=hh;exact q⟩
end
end DL
namespace DL
open PySem PySem.Spec L2
def FnIn (K:Frg) (n:Str) (st:Stmt):Prop:=∃(f:Addr) (oc:Value) (od:Option Addr) (kV dc pm:Value) (an:Option Addr) (cd ct:Value) (sl:Array (Option Value)),a2W K mainGlobals n=some (some (.ref f)) /\
 K.lookup f=some ⟨oc,od,.func (a7Q n n (E3 st) (CP st) (AC st) .none kV dc pm an cd ct),sl⟩/\b4W K cd n=true/\a9K K (.ref f)=true
theorem eO {K:Frg}{n:Str}{st:Stmt}{f:Addr}{oc:Value}{od:Option Addr}{kV dc pm:Value}{an:Option Addr}{cd ct:Value}{sl:Array (Option Value)}(a:a2W K mainGlobals n=some (some (.ref f)))
   (l:K.lookup f=some ⟨oc,od,.func (a7Q n n (E3 st) (CP st) (AC st) .none kV dc pm an cd ct),sl⟩) (c:b4W K cd n=true) (k:a9K K (.ref f)=true):FnIn K n st:=⟨f,oc,od,kV,dc,pm,an,cd,ct,sl,a,l,c,k⟩
structure FnAt (K:Frg) (mg:Str->Option Value) (n:Str) (st:Stmt) (f:Addr) (fd:FuncData):Prop where
 fn:Fun K n n st f fd
 mg_:mg n=some (.ref f)
 kp:a9K K (.ref f)=true
theorem FnIn.at {K:Frg}{n:Str}{st:Stmt}{h:Heap}{mg:Str->Option Value}(b:FnIn K n st) (X:K.In h) (G:h.Ns mainGlobals mg):∃f fd,FnAt K mg n st f fd:=
 let ⟨f,_,_,_,_,_,_,_,_,_,a,l,c,k⟩:=b
 ⟨f,_,iH l c k,PySem.W.mg_of X G a,k⟩
section
variable {P:Program}{w:World}{K:Frg}{mg:Str->Option Value}{base:Heap}{n:Str}{st:Stmt}{f:Addr}{fd:FuncData}{k:Nat}{ps:List Str}
abbrev k0 (n:Str) (st:Stmt) (ps:List Str):Prop:=∀(kV doc pm:Value) (an:Option Addr) (cdv ct:Value) (us:List Value),us.length=ps.length->bindArgs (a7Q n n (E3 st) (CP st) (AC st) .none kV doc pm an cdv ct) ⟨us,[]⟩=pure (ps.zip us)
theorem FnAt.has {S:FSp}(a:FnAt K mg n st f fd) (h:FnOk P w K mg base CX0 k f fd ps (spD K ps.length S)) (b:k0 n st ps):Has P w K mg base n k ps S:=⟨f,fd,h,a.mg_,a.kp,a.fn.binds b⟩
end
end DL
namespace DL
open PySem PySem.Spec L2
abbrev HP:Stmt:=_root_.sT 4
abbrev G2:Stmt:=_root_.sT 5
abbrev HQ:Stmt:=_root_.sT 6
abbrev G3:Stmt:=_root_.sT 7
abbrev D0:Stmt:=_root_.sT 8
abbrev D3:Stmt:=_root_.sT 1
abbrev JM:Stmt:=_root_.sT 15
abbrev EQ:Stmt:=_root_.sT 18
abbrev D4:Stmt:=_root_.sT 13
abbrev CG:Stmt:=_root_.sT 19
abbrev ER:Stmt:=_root_.sT 17
abbrev JN:Stmt:=_root_.sT 16
abbrev CH:Stmt:=_root_.sT 23
abbrev E5:Stmt:=_root_.sT 21
abbrev ES:Stmt:=_root_.sT 22
abbrev DY:Stmt:=_root_.sT 24
abbrev CI:Stmt:=_root_.sT 25
abbrev D5:Stmt:=_root_.sT 26
abbrev E6:Stmt:=_root_.sT 27
abbrev E7:Stmt:=_root_.sT 28
abbrev G4:Stmt:=_root_.sT 33
abbrev ET:Stmt:=_root_.sT 29
abbrev E8:Stmt:=_root_.sT 30
abbrev DK:Stmt:=_root_.sT 31
abbrev B1:Stmt:=_root_.sT 32
abbrev DN:Stmt:=_root_.sT 34
abbrev EU:Stmt:=_root_.sT 35
abbrev DO:Stmt:=_root_.sT 36
abbrev CK:Stmt:=_root_.sT 37
abbrev E9:Stmt:=_root_.sT 38
abbrev VX:Stmt:=_root_.sT 39
abbrev vS (x:String) (t:Tok):Value:=.str (a0Q x) t
abbrev eS (P:Params) (x:String) (t:Tok) (v:Value):DictEntry:=⟨a8Q P (a0Q x),.str (a0Q x) t,v⟩
abbrev hs (i:Nat):Stmt:=PySem.Challenge.pw_struckdeeds_k56_joined_or_a_quarrel.main.body.getD i (.Pass ⟨0,0,0,0⟩)
abbrev fO (n q:String) (st:Stmt) (doc pm:Value) (c:Nat):Obj:=⟨.type "function", none,.func (a7Q (a0Q n) (a0Q q) (E3 st) (CP st) (AC st) .none .none doc pm none (.ref c) .none),#[]⟩
abbrev gO (n q:String) (st:Stmt):Obj:=⟨.none,none,.func (.mk (a0Q n) (a0Q q) (E3 st) (.stmts (CP st)) (AC st) 0 [] .none .none .none .none none .none .none 0),#[]⟩
abbrev tO (vs:Array Value):Obj:=⟨.type "tuple", none,.seq vs 0,#[]⟩
abbrev kO (n q:String) (a b c:Tok) (l k f:Nat) (x1:Value) (t:Nat) (x2 x3 x4 x5:Value) (u l2:Nat) (d:Tok):Obj:=⟨.type "code", none,.fields #[vS n a,vS q b,vS "/claim/cut.py" c,.int l 0,.int k 0,.int 0 0,.int 0 0,.int f 0,x1,.bool true,.int t 0,x2,.none,x3,x4,x5,.int u 0,.int l2 0,vS "/claim/cut.py" d],#[]⟩
abbrev fP (n:String) (st:Stmt) (doc pm:Value) (c:Nat):Obj:=fO n n st doc pm c
abbrev gP (n:String) (st:Stmt):Obj:=gO n n st
abbrev kPz (n:String) (a b c:Tok) (l k f:Nat) (x1:Value) (t:Nat) (x2 x3 x4 x5:Value) (u l2:Nat) (d:Tok):Obj:=kO n n a b c l k f x1 t x2 x3 x4 x5 u l2 d
abbrev nF (vs:Array Value):Obj:=⟨.none,none,.fields vs,#[]⟩
abbrev lF (l:List (Nat×Nat×Nat)):Obj:=nF (l.flatMap fun t=>[.int t.1 0,.int t.2.1 0,.ref t.2.2]).toArray
def hV:Program:={ PySem.Challenge.pw_struckdeeds_k56_joined_or_a_quarrel with main:={ PySem.Challenge.pw_struckdeeds_k56_joined_or_a_quarrel.main with body:=([1,3,4,5,6,7,8,10,11,13,15,16,17,18,19,21,22,23,24,25,26,27,28,29,30,31,32,33,34,35,36,37,38,39]:List Nat).map hs } }
abbrev hB:List Stmt:=PySem.W.behindTheImports PySem.Challenge.pw_struckdeeds_k56_joined_or_a_quarrel
def hN:Env:={ scope:=PySem.Challenge.pw_struckdeeds_k56_joined_or_a_quarrel.main.scope,locals:=mainNs,globals:=mainNs,cells:=[],code:=a0Z 13,frame:=some 14 }
abbrev hC:Code:=.body hB hN
abbrev hF:List Frame:=[PySem.W.topFrame { line:=0,col:=0,endLine:=0,endCol:=0 }]
abbrev hI (t:PySem.W.BT) (l:List (Nat×Obj)):PySem.W.BT:=l.foldl (fun t x=>t.ins x.1 x.2) t
noncomputable def hT0:Params->PySem.W.BT:=fun P=>hI .nil [(0,PySem.W.boot_o_0 P),(1,PySem.W.boot_o_1 P),(2,PySem.W.boot_o_2 P),(3,PySem.W.boot_o_3 P),(4,PySem.W.boot_o_4 P),(5,PySem.W.boot_o_5 P),(6,PySem.W.boot_o_6 P),(7,PySem.W.boot_o_7 P),(8,PySem.W.boot_o_8 P),(9,PySem.W.boot_o_9 P),(10,PySem.W.boot_o_10 P)]
noncomputable def hT1:Params->PySem.W.BT:=fun P=>hI (hT0 P) (
 (11,tO #[]) ::
 (12,nF #[]) ::
 (13,(⟨(.type "code"),none,(.fields #[(vS "<module>" 182),(vS "<module>" 183),(vS "/claim/cut.py" 184),(.int 1 0),(.int 0 0),(.int 0 0),(.int 0 0),(.int 0 0),(.ref 11),(.bool false),(.int 181 0),(.ref 12),.none,.none,.none,.none,(.int 185 0),(.int 1 0),(vS "/claim/cut.py" 186)]),#[]⟩:Obj)) ::
 (14,(⟨(.type "frame"),none,.plain,#[(some (.ref 13)),(some (.ref 3)),(some (.ref 3)),none,(some (vS "__main__" 164)),none,(some (.ref 0))]⟩:Obj))::[])
noncomputable abbrev hX1 (w:World) (os:OsState):PySem.W.SharedT:=⟨hT1 w.params,15,{ },⟨[]⟩,{ },187,os⟩
noncomputable abbrev hX2 (w:World) (os:OsState):PySem.W.SharedT:=⟨hT1 w.params,15,{ },⟨[]⟩,{ },187,os⟩
def hD3:Params->List DictEntry:=fun P=>[eS P "__name__" 165 (vS "struckdeeds.books" 289),eS P "__doc__" 166 .none,eS P "__package__" 167 .none,eS P "__loader__" 168 (.builtin "__main__.__loader__#opaque"),eS P "__spec__" 169 .none,eS P "__annotations__" 170 (.ref 6),eS P "__builtins__" 171 (.ref 4),eS P "__file__" 173 (vS "/claim/cut.py" 172),eS P "__cached__" 174 .none,eS P "same_ahead" 194 (.ref 19),eS P "FORMS" 218 (.ref 20),eS P "form_of" 225 (.ref 27),eS P "names_in" 232 (.ref 34),eS P "made_by" 239 (.ref 41),eS P "ended_by" 246 (.ref 48),eS P "must_stand" 252 (.ref 53),eS P "StrikeError" 272 (.ref 63),eS P "NoJoin" 288 (.ref 76),eS P "asking_for" 296 (.ref 83)]
noncomputable def hT3:Params->PySem.W.BT:=fun P=>hI (hT1 P) (
 (3,(⟨.type "dict", none,.dict (hD3 P).toArray 19,#[]⟩:Obj)) ::
 (12,lF [(2,0,18),(7,0,26),(9,0,33),(11,0,40),(17,0,47),(23,0,52),(27,0,59),(29,0,72),(32,0,82)]) ::
 (15,tO #[]) ::
 (16,nF #[]) ::
 (17,gP "same_ahead" (hs 1)) ::
 (18,kPz "same_ahead" 189 190 191 2 2 3 (.ref 15) 181 (.ref 16) .none .none (.ref 17) 192 2 193) ::
 (19,fP "same_ahead" (hs 1) .none (vS "struckdeeds.words" 187) 18) ::
 (20,(⟨(.type "dict"),none,(.dict #[eS P "put" 197 (vS "npk" 198),eS P "take" 199 (vS "n" 200),eS P "move" 201 (vS "np" 202),eS P "count" 203 (vS "nk" 204),eS P "name" 205 (vS "nn" 206),eS P "split" 207 (vS "nnpk" 208),eS P "join" 209 (vS "nn" 210)] 7),#[]⟩:Obj)) ::
 (21,tO #[]) ::
 (22,nF #[]) ::
 (23,tO #[(vS "word" 222)]) ::
 (24,tO #[]) ::
 (25,gP "form_of" (hs 4)) ::
 (26,kPz "form_of" 219 220 221 7 1 3 (.ref 21) 181 (.ref 22) (.ref 23) (.ref 24) (.ref 25) 223 7 224) ::
 (27,fP "form_of" (hs 4) .none (vS "struckdeeds.deeds" 195) 26) ::
 (28,tO #[]) ::
 (29,nF #[]) ::
 (30,tO #[(vS "deed" 229)]) ::
 (31,tO #[]) ::
 (32,gP "names_in" (hs 5)) ::
 (33,kPz "names_in" 226 227 228 9 1 3 (.ref 28) 181 (.ref 29) (.ref 30) (.ref 31) (.ref 32) 230 9 231) ::
 (34,fP "names_in" (hs 5) .none (vS "struckdeeds.deeds" 195) 33) ::
 (35,tO #[]) ::
 (36,nF #[]) ::
 (37,tO #[(vS "deed" 236)]) ::
 (38,tO #[]) ::
 (39,gP "made_by" (hs 6)) ::
 (40,kPz "made_by" 233 234 235 11 1 3 (.ref 35) 181 (.ref 36) (.ref 37) (.ref 38) (.ref 39) 237 11 238) ::
 (41,fP "made_by" (hs 6) .none (vS "struckdeeds.deeds" 195) 40) ::
 (42,tO #[]) ::
 (43,nF #[]) ::
 (44,tO #[(vS "deed" 243)]) ::
 (45,tO #[]) ::
 (46,gP "ended_by" (hs 7)) ::
 (47,kPz "ended_by" 240 241 242 17 1 3 (.ref 42) 181 (.ref 43) (.ref 44) (.ref 45) (.ref 46) 244 17 245) ::
 (48,fP "ended_by" (hs 7) .none (vS "struckdeeds.deeds" 195) 47) ::
 (49,tO #[]) ::
 (50,nF #[]) ::
 (51,gP "must_stand" (hs 8)) ::
 (52,kPz "must_stand" 247 248 249 23 1 3 (.ref 49) 181 (.ref 50) .none .none (.ref 51) 250 23 251) ::
 (53,fP "must_stand" (hs 8) .none (vS "struckdeeds.deeds" 195) 52) ::
 (54,tO #[(.type "ValueError")]) ::
 (55,(⟨(.type "builtin_function_or_method"),none,(.fields #[(.builtin "type.__prepare__"),(.type "type")]),#[]⟩:Obj)) ::
 (56,(⟨(.type "dict"),none,(.dict #[eS P "__module__" 262 (vS "struckdeeds.errors" 253),eS P "__qualname__" 264 (vS "StrikeError" 263),eS P "__firstlineno__" 266 (.int 27 265),eS P "__static_attributes__" 267 (.ref 61)] 4),#[]⟩:Obj)) ::
 (57,tO #[]) ::
 (58,nF #[]) ::
 (59,(⟨(.type "code"),none,(.fields #[(vS "StrikeError" 257),(vS "StrikeError" 258),(vS "/claim/cut.py" 259),(.int 27 0),(.int 0 0),(.int 0 0),(.int 0 0),(.int 0 0),(.ref 57),(.bool false),(.int 181 0),(.ref 58),.none,.none,.none,.none,(.int 260 0),(.int 27 0),(vS "/claim/cut.py" 261)]),#[]⟩:Obj)) ::
 (60,(⟨(.type "frame"),none,.plain,#[(some (.ref 59)),(some (.ref 3)),(some (.ref 56)),none,(some (vS "struckdeeds.errors" 253)),none,(some (.ref 0))]⟩:Obj)) ::
 (61,tO #[]) ::
 (62,(⟨(.type "dict"),none,(.dict #[eS P "__module__" 262 (vS "struckdeeds.errors" 253),eS P "__firstlineno__" 266 (.int 27 265),eS P "__static_attributes__" 267 (.ref 61),eS P "__weakref__" 269 (.ref 64),eS P "__doc__" 270 .none] 3),#[]⟩:Obj)) ::
 (63,(⟨(.type "type"),none,(.cls (.mk "StrikeError" [(.type "ValueError")] [(.ref 63),(.type "ValueError"),(.type "Exception"),(.type "BaseException"),(.type "object")] 62 "StrikeError" true [] [(.ref 76)] false none false)),#[(some (.ref 54)),none,(some (vS "StrikeError" 255)),(some (vS "StrikeError" 263)),(some (.builtin "ValueError.__new__")),(some (.bool true))]⟩:Obj)) ::
 (64,(⟨(.type "getset_descriptor"),none,(.fields #[(vS "__weakref__" 268),(.ref 63),(.builtin "ExceptionGroup.__weakref__"),.none]),#[]⟩:Obj)) ::
 (65,(⟨(.type "super"),none,(.fields #[(.ref 63),(.ref 63),(.ref 63)]),#[]⟩:Obj)) ::
 (66,(⟨(.type "builtin_function_or_method"),none,(.fields #[(.builtin "object.__init_subclass__"),(.ref 63)]),#[]⟩:Obj)) ::
 (67,tO #[(.ref 63)]) ::
 (68,(⟨(.type "builtin_function_or_method"),none,(.fields #[(.builtin "type.__prepare__"),(.type "type")]),#[]⟩:Obj)) ::
 (69,(⟨(.type "dict"),none,(.dict #[eS P "__module__" 280 (vS "struckdeeds.errors" 253),eS P "__qualname__" 282 (vS "NoJoin" 281),eS P "__firstlineno__" 284 (.int 29 283),eS P "__static_attributes__" 285 (.ref 74)] 4),#[]⟩:Obj)) ::
 (70,tO #[]) ::
 (71,nF #[]) ::
 (72,(⟨(.type "code"),none,(.fields #[(vS "NoJoin" 275),(vS "NoJoin" 276),(vS "/claim/cut.py" 277),(.int 29 0),(.int 0 0),(.int 0 0),(.int 0 0),(.int 0 0),(.ref 70),(.bool false),(.int 181 0),(.ref 71),.none,.none,.none,.none,(.int 278 0),(.int 29 0),(vS "/claim/cut.py" 279)]),#[]⟩:Obj)) ::
 (73,(⟨(.type "frame"),none,.plain,#[(some (.ref 72)),(some (.ref 3)),(some (.ref 69)),none,(some (vS "struckdeeds.errors" 253)),none,(some (.ref 0))]⟩:Obj)) ::
 (74,tO #[]) ::
 (75,(⟨(.type "dict"),none,(.dict #[eS P "__module__" 280 (vS "struckdeeds.errors" 253),eS P "__firstlineno__" 284 (.int 29 283),eS P "__static_attributes__" 285 (.ref 74),eS P "__doc__" 286 .none] 2),#[]⟩:Obj)) ::
 (76,(⟨(.type "type"),none,(.cls (.mk "NoJoin" [(.ref 63)] [(.ref 76),(.ref 63),(.type "ValueError"),(.type "Exception"),(.type "BaseException"),(.type "object")] 75 "NoJoin" true [] [] false none false)),#[(some (.ref 67)),none,(some (vS "NoJoin" 273)),(some (vS "NoJoin" 281)),(some (.builtin "ValueError.__new__")),(some (.bool true))]⟩:Obj)) ::
 (77,(⟨(.type "super"),none,(.fields #[(.ref 76),(.ref 76),(.ref 76)]),#[]⟩:Obj)) ::
 (78,(⟨(.type "builtin_function_or_method"),none,(.fields #[(.builtin "object.__init_subclass__"),(.ref 76)]),#[]⟩:Obj)) ::
 (79,tO #[]) ::
 (80,nF #[]) ::
 (81,gP "asking_for" (hs 13)) ::
 (82,kPz "asking_for" 291 292 293 32 3 3 (.ref 79) 181 (.ref 80) .none .none (.ref 81) 294 32 295) ::
 (83,fP "asking_for" (hs 13) .none (vS "struckdeeds.books" 289) 82)::[])
noncomputable abbrev hX3 (w:World) (os:OsState):PySem.W.SharedT:=⟨hT3 w.params,84,{ },⟨[]⟩,{ },297,os⟩
def hD4:Params->List DictEntry:=fun P=>(hD3 P).set 0 (eS P "__name__" 165 (vS "law_struckdeeds_k56_joined_or_a_quarrel" 353))++[eS P "shared" 306 (.ref 90),eS P "joined" 321 (.ref 97),eS P "same_name" 334 (.ref 104),eS P "own_lines" 342 (.ref 111),eS P "first_ahead_of" 352 (.ref 118),eS P "_law_mixed" 361 (.ref 125),eS P "_law_take" 370 (.ref 132),eS P "_law_names" 376 (.ref 137),eS P "_law_deed" 382 (.ref 142),eS P "_law_after" 388 (.ref 147),eS P "_law_start" 394 (.ref 152),eS P "_law_lines" 408 (.ref 159),eS P "_law_begun" 418 (.ref 166),eS P "_law_made" 425 (.ref 173),eS P "_law_ended" 432 (.ref 180),eS P "_law_wanted" 439 (.ref 187),eS P "_law_is_book" 445 (.ref 192),eS P "_law_two" 463 (.ref 199),eS P "_law_shared" 472 (.ref 206),eS P "_law_next" 481 (.ref 213),eS P "_law_can_be" 495 (.ref 220),eS P "_law_mixed_of" 509 (.ref 227),eS P "_law_right" 522 (.ref 234)]
noncomputable def hT4:Params->PySem.W.BT:=fun P=>hI (hT3 P) (
 (3,(⟨.type "dict", none,.dict (hD4 P).toArray 42,#[]⟩:Obj)) ::
 (12,lF [(2,0,18),(7,0,26),(9,0,33),(11,0,40),(17,0,47),(23,0,52),(27,0,59),(29,0,72),(32,0,82),(35,0,89),(39,0,96),(58,0,103),(67,0,110),(69,0,117),(73,0,124),(75,0,131),(78,0,136),(89,0,141),(110,0,146),(118,0,151),(121,0,158),(131,0,165),(136,0,172),(138,0,179),(140,0,186),(142,0,191),(152,0,198),(161,0,205),(166,0,212),(168,0,219),(179,0,226),(190,0,233)]) ::
 (84,tO #[]) ::
 (85,nF #[]) ::
 (86,tO #[(vS "one" 302),(vS "other" 303)]) ::
 (87,tO #[]) ::
 (88,gP "shared" (hs 15)) ::
 (89,kPz "shared" 299 300 301 35 2 3 (.ref 84) 181 (.ref 85) (.ref 86) (.ref 87) (.ref 88) 304 35 305) ::
 (90,fP "shared" (hs 15) .none (vS "struckdeeds.joins" 297) 89) ::
 (91,tO #[]) ::
 (92,nF #[]) ::
 (93,tO #[(vS "one" 310),(vS "other" 311),(vS "common" 312),(vS "quarrel" 313),(vS "lines" 314),(vS "here" 315),(vS "there" 316),(vS "ahead_of_here" 317),(vS "ahead_of_there" 318)]) ::
 (94,tO #[]) ::
 (95,gP "joined" (hs 16)) ::
 (96,kPz "joined" 307 308 309 39 2 3 (.ref 91) 181 (.ref 92) (.ref 93) (.ref 94) (.ref 95) 319 39 320) ::
 (97,fP "joined" (hs 16) .none (vS "struckdeeds.joins" 297) 96) ::
 (98,tO #[]) ::
 (99,nF #[]) ::
 (100,tO #[(vS "one" 325),(vS "other" 326),(vS "common" 327),(vS "i" 328),(vS "j" 329),(vS "made" 330),(vS "ended" 331)]) ::
 (101,tO #[]) ::
 (102,gP "same_name" (hs 17)) ::
 (103,kPz "same_name" 322 323 324 58 3 3 (.ref 98) 181 (.ref 99) (.ref 100) (.ref 101) (.ref 102) 332 58 333) ::
 (104,fP "same_name" (hs 17) .none (vS "struckdeeds.joins" 297) 103) ::
 (105,tO #[]) ::
 (106,nF #[]) ::
 (107,tO #[(vS "book" 338),(vS "common" 339)]) ::
 (108,tO #[]) ::
 (109,gP "own_lines" (hs 18)) ::
 (110,kPz "own_lines" 335 336 337 67 2 3 (.ref 105) 181 (.ref 106) (.ref 107) (.ref 108) (.ref 109) 340 67 341) ::
 (111,fP "own_lines" (hs 18) .none (vS "struckdeeds.joins" 297) 110) ::
 (112,tO #[]) ::
 (113,nF #[]) ::
 (114,tO #[(vS "book" 346),(vS "number" 347),(vS "line" 348),(vS "ahead" 349)]) ::
 (115,tO #[]) ::
 (116,gP "first_ahead_of" (hs 19)) ::
 (117,kPz "first_ahead_of" 343 344 345 69 3 3 (.ref 112) 181 (.ref 113) (.ref 114) (.ref 115) (.ref 116) 350 69 351) ::
 (118,fP "first_ahead_of" (hs 19) .none (vS "struckdeeds.joins" 297) 117) ::
 (119,tO #[]) ::
 (120,nF #[]) ::
 (121,tO #[(vS "_law_cell" 358)]) ::
 (122,tO #[]) ::
 (123,gP "_law_mixed" (hs 21)) ::
 (124,kPz "_law_mixed" 355 356 357 73 1 3 (.ref 119) 181 (.ref 120) (.ref 121) (.ref 122) (.ref 123) 359 73 360) ::
 (125,fP "_law_mixed" (hs 21) .none (vS "law_struckdeeds_k56_joined_or_a_quarrel" 353) 124) ::
 (126,tO #[]) ::
 (127,nF #[]) ::
 (128,tO #[(vS "_law_pack" 365),(vS "_law_size" 366),(vS "_law_digit" 367)]) ::
 (129,tO #[]) ::
 (130,gP "_law_take" (hs 22)) ::
 (131,kPz "_law_take" 362 363 364 75 2 3 (.ref 126) 181 (.ref 127) (.ref 128) (.ref 129) (.ref 130) 368 75 369) ::
 (132,fP "_law_take" (hs 22) .none (vS "law_struckdeeds_k56_joined_or_a_quarrel" 353) 131) ::
 (133,tO #[]) ::
 (134,nF #[]) ::
 (135,gP "_law_names" (hs 23)) ::
 (136,kPz "_law_names" 371 372 373 78 2 3 (.ref 133) 181 (.ref 134) .none .none (.ref 135) 374 78 375) ::
 (137,fP "_law_names" (hs 23) .none (vS "law_struckdeeds_k56_joined_or_a_quarrel" 353) 136) ::
 (138,tO #[]) ::
 (139,nF #[]) ::
 (140,gP "_law_deed" (hs 24)) ::
 (141,kPz "_law_deed" 377 378 379 89 3 3 (.ref 138) 181 (.ref 139) .none .none (.ref 140) 380 89 381) ::
 (142,fP "_law_deed" (hs 24) .none (vS "law_struckdeeds_k56_joined_or_a_quarrel" 353) 141) ::
 (143,tO #[]) ::
 (144,nF #[]) ::
 (145,gP "_law_after" (hs 25)) ::
 (146,kPz "_law_after" 383 384 385 110 3 3 (.ref 143) 181 (.ref 144) .none .none (.ref 145) 386 110 387) ::
 (147,fP "_law_after" (hs 25) .none (vS "law_struckdeeds_k56_joined_or_a_quarrel" 353) 146) ::
 (148,tO #[]) ::
 (149,nF #[]) ::
 (150,gP "_law_start" (hs 26)) ::
 (151,kPz "_law_start" 389 390 391 118 3 3 (.ref 148) 181 (.ref 149) .none .none (.ref 150) 392 118 393) ::
 (152,fP "_law_start" (hs 26) .none (vS "law_struckdeeds_k56_joined_or_a_quarrel" 353) 151) ::
 (153,tO #[]) ::
 (154,nF #[]) ::
 (155,tO #[(vS "_law_some" 398),(vS "_law_spare" 399),(vS "_law_cells" 400),(vS "_law_lines_here" 401),(vS "_law_cell" 402),(vS "_law_digits" 403),(vS "_law_hand" 404),(vS "_law_deed_here" 405)]) ::
 (156,tO #[]) ::
 (157,gP "_law_lines" (hs 27)) ::
 (158,kPz "_law_lines" 395 396 397 121 3 3 (.ref 153) 181 (.ref 154) (.ref 155) (.ref 156) (.ref 157) 406 121 407) ::
 (159,fP "_law_lines" (hs 27) .none (vS "law_struckdeeds_k56_joined_or_a_quarrel" 353) 158) ::
 (160,tO #[]) ::
 (161,nF #[]) ::
 (162,tO #[(vS "_law_head" 412),(vS "_law_pack" 413),(vS "_law_spare" 414),(vS "_law_amount" 415)]) ::
 (163,tO #[]) ::
 (164,gP "_law_begun" (hs 28)) ::
 (165,kPz "_law_begun" 409 410 411 131 1 3 (.ref 160) 181 (.ref 161) (.ref 162) (.ref 163) (.ref 164) 416 131 417) ::
 (166,fP "_law_begun" (hs 28) .none (vS "law_struckdeeds_k56_joined_or_a_quarrel" 353) 165) ::
 (167,tO #[]) ::
 (168,nF #[]) ::
 (169,tO #[(vS "_law_deed_here" 422)]) ::
 (170,tO #[]) ::
 (171,gP "_law_made" (hs 29)) ::
 (172,kPz "_law_made" 419 420 421 136 1 3 (.ref 167) 181 (.ref 168) (.ref 169) (.ref 170) (.ref 171) 423 136 424) ::
 (173,fP "_law_made" (hs 29) .none (vS "law_struckdeeds_k56_joined_or_a_quarrel" 353) 172) ::
 (174,tO #[]) ::
 (175,nF #[]) ::
 (176,tO #[(vS "_law_deed_here" 429)]) ::
 (177,tO #[]) ::
 (178,gP "_law_ended" (hs 30)) ::
 (179,kPz "_law_ended" 426 427 428 138 1 3 (.ref 174) 181 (.ref 175) (.ref 176) (.ref 177) (.ref 178) 430 138 431) ::
 (180,fP "_law_ended" (hs 30) .none (vS "law_struckdeeds_k56_joined_or_a_quarrel" 353) 179) ::
 (181,tO #[]) ::
 (182,nF #[]) ::
 (183,tO #[(vS "_law_deed_here" 436)]) ::
 (184,tO #[]) ::
 (185,gP "_law_wanted" (hs 31)) ::
 (186,kPz "_law_wanted" 433 434 435 140 1 3 (.ref 181) 181 (.ref 182) (.ref 183) (.ref 184) (.ref 185) 437 140 438) ::
 (187,fP "_law_wanted" (hs 31) .none (vS "law_struckdeeds_k56_joined_or_a_quarrel" 353) 186) ::
 (188,tO #[]) ::
 (189,nF #[]) ::
 (190,gP "_law_is_book" (hs 32)) ::
 (191,kPz "_law_is_book" 440 441 442 142 2 3 (.ref 188) 181 (.ref 189) .none .none (.ref 190) 443 142 444) ::
 (192,fP "_law_is_book" (hs 32) .none (vS "law_struckdeeds_k56_joined_or_a_quarrel" 353) 191) ::
 (193,tO #[]) ::
 (194,nF #[]) ::
 (195,tO #[(vS "_law_script" 449),(vS "_law_start_here" 450),(vS "_law_some" 451),(vS "_law_spare" 452),(vS "_law_pack" 453),(vS "_law_lines_here" 454),(vS "_law_stay" 455),(vS "_law_more" 456),(vS "_law_ones" 457),(vS "_law_standing" 458),(vS "_law_rest" 459),(vS "_law_others" 460)]) ::
 (196,tO #[]) ::
 (197,gP "_law_two" (hs 33)) ::
 (198,kPz "_law_two" 446 447 448 152 1 3 (.ref 193) 181 (.ref 194) (.ref 195) (.ref 196) (.ref 197) 461 152 462) ::
 (199,fP "_law_two" (hs 33) .none (vS "law_struckdeeds_k56_joined_or_a_quarrel" 353) 198) ::
 (200,tO #[]) ::
 (201,nF #[]) ::
 (202,tO #[(vS "_law_one" 467),(vS "_law_other" 468),(vS "_law_found" 469)]) ::
 (203,tO #[]) ::
 (204,gP "_law_shared" (hs 34)) ::
 (205,kPz "_law_shared" 464 465 466 161 2 3 (.ref 200) 181 (.ref 201) (.ref 202) (.ref 203) (.ref 204) 470 161 471) ::
 (206,fP "_law_shared" (hs 34) .none (vS "law_struckdeeds_k56_joined_or_a_quarrel" 353) 205) ::
 (207,tO #[]) ::
 (208,nF #[]) ::
 (209,tO #[(vS "_law_start_here" 476),(vS "_law_done_here" 477),(vS "_law_line" 478)]) ::
 (210,tO #[]) ::
 (211,gP "_law_next" (hs 35)) ::
 (212,kPz "_law_next" 473 474 475 166 3 3 (.ref 207) 181 (.ref 208) (.ref 209) (.ref 210) (.ref 211) 479 166 480) ::
 (213,fP "_law_next" (hs 35) .none (vS "law_struckdeeds_k56_joined_or_a_quarrel" 353) 212) ::
 (214,tO #[]) ::
 (215,nF #[]) ::
 (216,tO #[(vS "_law_start_here" 485),(vS "_law_one" 486),(vS "_law_other" 487),(vS "_law_first" 488),(vS "_law_known" 489),(vS "_law_i" 490),(vS "_law_j" 491),(vS "_law_here" 492)]) ::
 (217,tO #[]) ::
 (218,gP "_law_can_be" (hs 36)) ::
 (219,kPz "_law_can_be" 482 483 484 168 4 3 (.ref 214) 181 (.ref 215) (.ref 216) (.ref 217) (.ref 218) 493 168 494) ::
 (220,fP "_law_can_be" (hs 36) .none (vS "law_struckdeeds_k56_joined_or_a_quarrel" 353) 219) ::
 (221,tO #[]) ::
 (222,nF #[]) ::
 (223,tO #[(vS "_law_lines_here" 499),(vS "_law_ones" 500),(vS "_law_others" 501),(vS "_law_ways_here" 502),(vS "_law_line" 503),(vS "_law_more" 504),(vS "_law_i" 505),(vS "_law_j" 506)]) ::
 (224,tO #[]) ::
 (225,gP "_law_mixed_of" (hs 37)) ::
 (226,kPz "_law_mixed_of" 496 497 498 179 3 3 (.ref 221) 181 (.ref 222) (.ref 223) (.ref 224) (.ref 225) 507 179 508) ::
 (227,fP "_law_mixed_of" (hs 37) .none (vS "law_struckdeeds_k56_joined_or_a_quarrel" 353) 226) ::
 (228,tO #[]) ::
 (229,nF #[]) ::
 (230,tO #[(vS "_law_one" 513),(vS "_law_other" 514),(vS "_law_first" 515),(vS "_law_told" 516),(vS "_law_found" 517),(vS "_law_start_here" 518),(vS "_law_lines_here" 519)]) ::
 (231,tO #[]) ::
 (232,gP "_law_right" (hs 38)) ::
 (233,kPz "_law_right" 510 511 512 190 2 3 (.ref 228) 181 (.ref 229) (.ref 230) (.ref 231) (.ref 232) 520 190 521) ::
 (234,fP "_law_right" (hs 38) .none (vS "law_struckdeeds_k56_joined_or_a_quarrel" 353) 233)::[])
noncomputable abbrev hX4 (w:World) (os:OsState):PySem.W.SharedT:=⟨hT4 w.params,235,{ },⟨[]⟩,{ },523,os⟩
def hD5:Params->List DictEntry:=fun P=>hD4 P++[eS P "law" 531 (.ref 241)]
noncomputable def hT5:Params->PySem.W.BT:=fun P=>hI (hT4 P) (
 (3,(⟨.type "dict", none,.dict (hD5 P).toArray 43,#[]⟩:Obj)) ::
 (12,lF [(2,0,18),(7,0,26),(9,0,33),(11,0,40),(17,0,47),(23,0,52),(27,0,59),(29,0,72),(32,0,82),(35,0,89),(39,0,96),(58,0,103),(67,0,110),(69,0,117),(73,0,124),(75,0,131),(78,0,136),(89,0,141),(110,0,146),(118,0,151),(121,0,158),(131,0,165),(136,0,172),(138,0,179),(140,0,186),(142,0,191),(152,0,198),(161,0,205),(166,0,212),(168,0,219),(179,0,226),(190,0,233),(208,0,240)]) ::
 (235,tO #[]) ::
 (236,nF #[]) ::
 (237,tO #[(vS "_law_script" 526),(vS "_law_one" 527),(vS "_law_other" 528)]) ::
 (238,tO #[]) ::
 (239,gP "law" (hs 39)) ::
 (240,kPz "law" 523 524 525 208 1 3 (.ref 235) 181 (.ref 236) (.ref 237) (.ref 238) (.ref 239) 529 208 530) ::
 (241,fP "law" (hs 39) .none (vS "law_struckdeeds_k56_joined_or_a_quarrel" 353) 240)::[])
noncomputable abbrev hX5 (w:World) (os:OsState):PySem.W.SharedT:=⟨hT5 w.params,242,{ },⟨[]⟩,{ },532,os⟩
noncomputable abbrev hX6 (w:World) (os:OsState):PySem.W.SharedT:=⟨hT5 w.params,242,{ },⟨[]⟩,{ },532,os⟩
noncomputable def hg (P:Params) (a:Nat):Obj:=((hT5 P).get a).getD default
noncomputable def hK:Params->PySem.W.Frag:=fun P=>
 (nat_lit 2,hg P 2) ::
 (nat_lit 3,hg P 3) ::
 (nat_lit 18,hg P 18) ::
 (nat_lit 19,fP "same_ahead" D3 .none (vS "struckdeeds.words" 187) 18) ::
 (nat_lit 20,(⟨(.type "dict"),none,(.dict #[eS P "put" 197 (vS "npk" 198),eS P "take" 199 (vS "n" 200),eS P "move" 201 (vS "np" 202),eS P "count" 203 (vS "nk" 204),eS P "name" 205 (vS "nn" 206),eS P "split" 207 (vS "nnpk" 208),eS P "join" 209 (vS "nn" 210)] 7),#[]⟩:Obj)) ::
 (nat_lit 26,hg P 26) ::
 (nat_lit 27,fP "form_of" HP .none (vS "struckdeeds.deeds" 195) 26) ::
 (nat_lit 33,hg P 33) ::
 (nat_lit 34,fP "names_in" G2 .none (vS "struckdeeds.deeds" 195) 33) ::
 (nat_lit 40,hg P 40) ::
 (nat_lit 41,fP "made_by" HQ .none (vS "struckdeeds.deeds" 195) 40) ::
 (nat_lit 47,hg P 47) ::
 (nat_lit 48,fP "ended_by" G3 .none (vS "struckdeeds.deeds" 195) 47) ::
 (nat_lit 52,hg P 52) ::
 (nat_lit 53,fP "must_stand" D0 .none (vS "struckdeeds.deeds" 195) 52) ::
 (nat_lit 62,hg P 62) ::
 (nat_lit 63,hg P 63) ::
 (nat_lit 64,hg P 64) ::
 (nat_lit 75,hg P 75) ::
 (nat_lit 76,hg P 76) ::
 (nat_lit 82,hg P 82) ::
 (nat_lit 83,fP "asking_for" D4 .none (vS "struckdeeds.books" 289) 82) ::
 (nat_lit 89,hg P 89) ::
 (nat_lit 90,fP "shared" JM .none (vS "struckdeeds.joins" 297) 89) ::
 (nat_lit 96,hg P 96) ::
 (nat_lit 97,fP "joined" JN .none (vS "struckdeeds.joins" 297) 96) ::
 (nat_lit 103,hg P 103) ::
 (nat_lit 104,fP "same_name" ER .none (vS "struckdeeds.joins" 297) 103) ::
 (nat_lit 110,hg P 110) ::
 (nat_lit 111,fP "own_lines" EQ .none (vS "struckdeeds.joins" 297) 110) ::
 (nat_lit 117,hg P 117) ::
 (nat_lit 118,fP "first_ahead_of" CG .none (vS "struckdeeds.joins" 297) 117) ::
 (nat_lit 124,hg P 124) ::
 (nat_lit 125,fP "_law_mixed" E5 .none (vS "law_struckdeeds_k56_joined_or_a_quarrel" 353) 124) ::
 (nat_lit 131,hg P 131) ::
 (nat_lit 132,fP "_law_take" ES .none (vS "law_struckdeeds_k56_joined_or_a_quarrel" 353) 131) ::
 (nat_lit 136,hg P 136) ::
 (nat_lit 137,fP "_law_names" CH .none (vS "law_struckdeeds_k56_joined_or_a_quarrel" 353) 136) ::
 (nat_lit 141,hg P 141) ::
 (nat_lit 142,fP "_law_deed" DY .none (vS "law_struckdeeds_k56_joined_or_a_quarrel" 353) 141) ::
 (nat_lit 146,hg P 146) ::
 (nat_lit 147,fP "_law_after" CI .none (vS "law_struckdeeds_k56_joined_or_a_quarrel" 353) 146) ::
 (nat_lit 151,hg P 151) ::
 (nat_lit 152,fP "_law_start" D5 .none (vS "law_struckdeeds_k56_joined_or_a_quarrel" 353) 151) ::
 (nat_lit 158,hg P 158) ::
 (nat_lit 159,fP "_law_lines" E6 .none (vS "law_struckdeeds_k56_joined_or_a_quarrel" 353) 158) ::
 (nat_lit 165,hg P 165) ::
 (nat_lit 166,fP "_law_begun" E7 .none (vS "law_struckdeeds_k56_joined_or_a_quarrel" 353) 165) ::
 (nat_lit 172,hg P 172) ::
 (nat_lit 173,fP "_law_made" ET .none (vS "law_struckdeeds_k56_joined_or_a_quarrel" 353) 172) ::
 (nat_lit 179,hg P 179) ::
 (nat_lit 180,fP "_law_ended" E8 .none (vS "law_struckdeeds_k56_joined_or_a_quarrel" 353) 179) ::
 (nat_lit 186,hg P 186) ::
 (nat_lit 187,fP "_law_wanted" DK .none (vS "law_struckdeeds_k56_joined_or_a_quarrel" 353) 186) ::
 (nat_lit 191,hg P 191) ::
 (nat_lit 192,fP "_law_is_book" B1 .none (vS "law_struckdeeds_k56_joined_or_a_quarrel" 353) 191) ::
 (nat_lit 198,hg P 198) ::
 (nat_lit 199,fP "_law_two" G4 .none (vS "law_struckdeeds_k56_joined_or_a_quarrel" 353) 198) ::
 (nat_lit 205,hg P 205) ::
 (nat_lit 206,fP "_law_shared" DN .none (vS "law_struckdeeds_k56_joined_or_a_quarrel" 353) 205) ::
 (nat_lit 212,hg P 212) ::
 (nat_lit 213,fP "_law_next" EU .none (vS "law_struckdeeds_k56_joined_or_a_quarrel" 353) 212) ::
 (nat_lit 219,hg P 219) ::
 (nat_lit 220,fP "_law_can_be" DO .none (vS "law_struckdeeds_k56_joined_or_a_quarrel" 353) 219) ::
 (nat_lit 226,hg P 226) ::
 (nat_lit 227,fP "_law_mixed_of" CK .none (vS "law_struckdeeds_k56_joined_or_a_quarrel" 353) 226) ::
 (nat_lit 233,hg P 233) ::
 (nat_lit 234,fP "_law_right" E9 .none (vS "law_struckdeeds_k56_joined_or_a_quarrel" 353) 233) ::
 (nat_lit 240,hg P 240) ::
 (nat_lit 241,fP "law" VX .none (vS "law_struckdeeds_k56_joined_or_a_quarrel" 353) 240)::[]
def hA:List Addr:=[2,3,18,19,20,26,27,33,34,40,41,47,48,52,53,62,63,64,75,76,82,83,89,90,96,97,103,104,110,111,117,118,124,125,131,132,136,137,141,142,146,147,151,152,158,159,165,166,172,173,179,180,186,187,191,192,198,199,205,206,212,213,219,220,226,227,233,234,240,241]
theorem hE:∀P,hA=(hK P).map (·.1):=fun _=>by kernel_rfl
theorem hp1 (w:World):(fun os=>PySem.W.topGo treeTable PySem.Challenge.pw_struckdeeds_k56_joined_or_a_quarrel w 11 (a3W (a0Z 6)) 12 ⟨a4Z w.params,⟨[]⟩,b3V,b5W,os⟩ (PySem.W.topStub PySem.Challenge.pw_struckdeeds_k56_joined_or_a_quarrel))=fun os=>some ((hX1 w os).abs,⟨denote treeTable hC,hC,{ line:=0,col:=0,endLine:=0,endCol:=0 },hF⟩):=by kernel_rfl
theorem hp2 (w:World):(fun os=>b0W treeTable PySem.Challenge.pw_struckdeeds_k56_joined_or_a_quarrel w 11 (a3W (a0Z 6)) 1 1 (hX1 w os) (PySem.W.blockOf hB hN hC { line:=0,col:=0,endLine:=0,endCol:=0 } hF))=fun os=>some (.next,hX2 w os,hC,{ line:=0,col:=0,endLine:=0,endCol:=0 }):=by kernel_rfl
def hQ3:List Stmt:=(hB.drop 0).take 14
abbrev mL (w:World):Prop:=(fun os=>b0W treeTable PySem.Challenge.pw_struckdeeds_k56_joined_or_a_quarrel w 11 (a3W (a0Z 6)) 1 745 (hX2 w os) (b2Z hQ3 hN hC { line:=0,col:=0,endLine:=0,endCol:=0 } hF))=fun os=>some (.next,hX3 w os,hC,{ line:=32,col:=0,endLine:=33,endCol:=90 })
theorem XE (w:World):(fun os=>b0W treeTable PySem.Challenge.pw_struckdeeds_k56_joined_or_a_quarrel (w.withFollow "special-get-raises" false) 11 (a3W (a0Z 6)) 1 745 (hX2 (w.withFollow "special-get-raises" false) os) (b2Z hQ3 hN hC { line:=0,col:=0,endLine:=0,endCol:=0 } hF))=fun os=>some (.next,hX3 (w.withFollow "special-get-raises" false) os,hC,{ line:=32,col:=0,endLine:=33,endCol:=90 }):=by kernel_rfl
theorem aY (w:World):(fun os=>b0W treeTable PySem.Challenge.pw_struckdeeds_k56_joined_or_a_quarrel (w.withFollow "special-get-raises" true) 11 (a3W (a0Z 6)) 1 745 (hX2 (w.withFollow "special-get-raises" true) os) (b2Z hQ3 hN hC { line:=0,col:=0,endLine:=0,endCol:=0 } hF))=fun os=>some (.next,hX3 (w.withFollow "special-get-raises" true) os,hC,{ line:=32,col:=0,endLine:=33,endCol:=90 }):=by kernel_rfl
theorem hp3:∀w:World,mL w:=PySem.W.byRow2 "special-get-raises" XE aY
def hQ4:List Stmt:=(hB.drop 14).take 25
theorem hp4 (w:World):(fun os=>b0W treeTable PySem.Challenge.pw_struckdeeds_k56_joined_or_a_quarrel w 11 (a3W (a0Z 6)) 1 737 (hX3 w os) (b2Z hQ4 hN hC { line:=32,col:=0,endLine:=33,endCol:=90 } hF))=fun os=>some (.next,hX4 w os,hC,{ line:=190,col:=0,endLine:=207,endCol:=108 }):=by kernel_rfl
def hQ5:List Stmt:=(hB.drop 39).take 1
theorem hp5 (w:World):(fun os=>b0W treeTable PySem.Challenge.pw_struckdeeds_k56_joined_or_a_quarrel w 11 (a3W (a0Z 6)) 1 32 (hX4 w os) (b2Z hQ5 hN hC { line:=190,col:=0,endLine:=207,endCol:=108 } hF))=fun os=>some (.next,hX5 w os,hC,{ line:=208,col:=0,endLine:=210,endCol:=115 }):=by kernel_rfl
theorem hp6 (w:World):(fun os=>a7W treeTable PySem.Challenge.pw_struckdeeds_k56_joined_or_a_quarrel w 11 (a3W (a0Z 6)) 2 (hX5 w os).abs (b4K [] hN hC { line:=208,col:=0,endLine:=210,endCol:=115 } hF))=fun os=>some (hX6 w os).abs:=by kernel_rfl
theorem hR1:hB=(hQ3++(hQ4++(hQ5++[]))):=by kernel_rfl
theorem hr6 (w:World) (os:OsState):a7W treeTable PySem.Challenge.pw_struckdeeds_k56_joined_or_a_quarrel w 11 (a3W (a0Z 6)) 2 (hX5 w os).abs (b4K [] hN hC { line:=208,col:=0,endLine:=210,endCol:=115 } hF)=some (hX6 w os).abs:=congrFun (hp6 w) os
theorem hr5 (w:World) (os:OsState):a7W treeTable PySem.Challenge.pw_struckdeeds_k56_joined_or_a_quarrel w 11 (a3W (a0Z 6)) (32+2) (hX4 w os).abs (b4K (hQ5++[]) hN hC { line:=190,col:=0,endLine:=207,endCol:=108 } hF)=some (hX6 w os).abs:=PySem.W.piece_app (n:=32) (N:=2) (s:=(hX4 w os).abs) (s':=(hX5 w os).abs) (r:=(hX6 w os).abs) (l:=hQ5) (rest:=[]) (c:=hC) (pos:={ line:=190,col:=0,endLine:=207,endCol:=108 }) (p':={ line:=208,col:=0,endLine:=210,endCol:=115 }) (env:=hN) (q:={ line:=0,col:=0,endLine:=0,endCol:=0 }) (b5K (congrFun (hp5 w) os)) (hr6 w os)
theorem hr4 (w:World) (os:OsState):a7W treeTable PySem.Challenge.pw_struckdeeds_k56_joined_or_a_quarrel w 11 (a3W (a0Z 6)) (737+(32+2)) (hX3 w os).abs (b4K (hQ4++(hQ5++[])) hN hC { line:=32,col:=0,endLine:=33,endCol:=90 } hF)=some (hX6 w os).abs:=PySem.W.piece_app (n:=737) (N:=(32+2)) (s:=(hX3 w os).abs) (s':=(hX4 w os).abs) (r:=(hX6 w os).abs) (l:=hQ4) (rest:=(hQ5++[])) (c:=hC) (pos:={ line:=32,col:=0,endLine:=33,endCol:=90 }) (p':={ line:=190,col:=0,endLine:=207,endCol:=108 }) (env:=hN) (q:={ line:=0,col:=0,endLine:=0,endCol:=0 }) (b5K (congrFun (hp4 w) os)) (hr5 w os)
theorem hr3 (w:World) (os:OsState):a7W treeTable PySem.Challenge.pw_struckdeeds_k56_joined_or_a_quarrel w 11 (a3W (a0Z 6)) (745+(737+(32+2))) (hX2 w os).abs (b4K (hQ3++(hQ4++(hQ5++[]))) hN hC { line:=0,col:=0,endLine:=0,endCol:=0 } hF)=some (hX6 w os).abs:=PySem.W.piece_app (n:=745) (N:=(737+(32+2))) (s:=(hX2 w os).abs) (s':=(hX3 w os).abs) (r:=(hX6 w os).abs) (l:=hQ3) (rest:=(hQ4++(hQ5++[]))) (c:=hC) (pos:={ line:=0,col:=0,endLine:=0,endCol:=0 }) (p':={ line:=32,col:=0,endLine:=33,endCol:=90 }) (env:=hN) (q:={ line:=0,col:=0,endLine:=0,endCol:=0 }) (b5K (congrFun (hp3 w) os)) (hr4 w os)
theorem hr2 (w:World) (os:OsState):a7W treeTable PySem.Challenge.pw_struckdeeds_k56_joined_or_a_quarrel w 11 (a3W (a0Z 6)) (1+(745+(737+(32+2)))) (hX1 w os).abs ⟨denote treeTable hC,hC,{ line:=0,col:=0,endLine:=0,endCol:=0 },hF⟩=some (hX6 w os).abs:=PySem.W.piece_block (n:=1) (N:=(745+(737+(32+2)))) (s:=(hX1 w os).abs) (s':=(hX2 w os).abs) (r:=(hX6 w os).abs) (b:=hB) (env:=hN) (c:=hC) (pos:={ line:=0,col:=0,endLine:=0,endCol:=0 }) (p':={ line:=0,col:=0,endLine:=0,endCol:=0 }) (q:={ line:=0,col:=0,endLine:=0,endCol:=0 }) (b5K (congrFun (hp2 w) os)) (by rw[hR1];exact hr3 w os)
noncomputable def hH:Params->Heap:=fun P=>PySem.W.absHeap (hT5 P) 242 { }
theorem hr1 (w:World) (os:OsState):a7W treeTable PySem.Challenge.pw_struckdeeds_k56_joined_or_a_quarrel w 11 (a3W (a0Z 6)) (12+(1+(745+(737+(32+2))))) ⟨a4Z w.params,⟨[]⟩,b3V,b5W,os⟩ (PySem.W.topStub PySem.Challenge.pw_struckdeeds_k56_joined_or_a_quarrel)=some (hX6 w os).abs:=PySem.W.go_top (n:=12) (N:=(1+(745+(737+(32+2))))) (s':=(hX1 w os).abs) (t':=⟨denote treeTable hC,hC,{ line:=0,col:=0,endLine:=0,endCol:=0 },hF⟩) (congrFun (hp1 w) os) (hr2 w os)
theorem hR (w:World) (os:OsState):a7W treeTable PySem.Challenge.pw_struckdeeds_k56_joined_or_a_quarrel w 11 (a3W (a0Z 6)) (12+(1+(745+(737+(32+2))))) ⟨a4Z w.params,⟨[]⟩,b3V,b5W,os⟩ (PySem.W.topStub PySem.Challenge.pw_struckdeeds_k56_joined_or_a_quarrel)=some ⟨hH w.params,⟨[]⟩,{ },532,os⟩:=(hr1 w os).trans (by kernel_rfl)
theorem hZ (w:World):(fun os=>((PySem.W.staticsOk (PySem.importedModules PySem.Challenge.pw_struckdeeds_k56_joined_or_a_quarrel.main.body) (a4Z w.params) (hH w.params)&&PySem.W.namesBound PySem.Challenge.pw_struckdeeds_k56_joined_or_a_quarrel (hH w.params)&&PySem.W.gensDone ⟨hH w.params,⟨[]⟩,{ },532,os⟩&&PySem.W.laidKept (a4Z w.params) (hH w.params)),PySem.W.openSeen hV [a0Q "FORMS"] (PySem.importedModules PySem.Challenge.pw_struckdeeds_k56_joined_or_a_quarrel.main.body) (fun s=>PySem.W.xlAt hV [] s&&PySem.W.recOk (b1X (a9W (b1Z PySem.Challenge.rw_struckdeeds_k56_joined_or_a_quarrel))) s) true ⟨hH w.params,⟨[]⟩,{ },532,os⟩,b5Q (a5J hK hA hE) ⟨hH w.params,⟨[]⟩,{ },532,os⟩))=fun _=>(true,PySem.W.openGood hV [a0Q "FORMS"],b4V (a5J hK hA hE) w):=by kernel_rfl
theorem hO:PySem.W.opening PySem.Challenge.pw_struckdeeds_k56_joined_or_a_quarrel=PySem.W.plainProg PySem.Challenge.pw_struckdeeds_k56_joined_or_a_quarrel.main.scope.names:=by kernel_rfl
theorem hG (w:World):((a4Z w.params).isNs mainGlobals&&(⟨[]⟩:Array GenState).size==0,(a4Z w.params).objs.size,(a4Z w.params).nsMap mainGlobals (a0Q "__annotations__"))=(true,11,a3W (a0Z 6)):=by kernel_rfl
theorem hJ (s:Shared):PySem.fenceModules? PySem.Challenge.pw_struckdeeds_k56_joined_or_a_quarrel s=some s:=by kernel_rfl
theorem hL:PySem.W.LeftO PySem.Challenge.pw_struckdeeds_k56_joined_or_a_quarrel hV [a0Q "FORMS"] (fun s=>PySem.W.xlAt hV [] s&&PySem.W.recOk (b1X (a9W (b1Z PySem.Challenge.rw_struckdeeds_k56_joined_or_a_quarrel))) s) (b5Q (a5J hK hA hE)) (b4V (a5J hK hA hE)) 3148:=
 @PySem.W.LeftO.of_pieces PySem.Challenge.pw_struckdeeds_k56_joined_or_a_quarrel hV [a0Q "FORMS"] (fun s=>PySem.W.xlAt hV [] s&&PySem.W.recOk (b1X (a9W (b1Z PySem.Challenge.rw_struckdeeds_k56_joined_or_a_quarrel))) s) _ (b5Q (a5J hK hA hE)) (b4V (a5J hK hA hE)) 3148 true a4Z hH ⟨[]⟩ ⟨[]⟩ b3V { } b5W 532 11 (a3W (a0Z 6)) (12+(1+(745+(737+(32+2))))) (PySem.W.boot_open hO (by decide) hJ) hG hR (by decide) hZ
theorem hS:PySem.W.OpenLaw.wellSaid PySem.Challenge.rw_struckdeeds_k56_joined_or_a_quarrel=true:=by kernel_rfl
set_option hygiene false
local macro_rules | `(tactic| walk_at "lc")=>`(tactic| first | exact Or.inl rfl | exact Or.inr rfl | exact Or.inr (Or.inl rfl) | exact Or.inr (Or.inr rfl))
local macro_rules | `(tactic| walk_at "or")=>`(tactic| first | exact .inl rfl | exact .inr rfl | assumption)
local macro_rules | `(tactic| walk_at "q")=>`(tactic| first | ((with_reducible show PSs _ [] _);exact @HG _) | ((with_reducible show PSs _ [_] _);exact @CD _ _ _ (by walk_at "s")) | ((with_reducible show PSs _ (_::_) _);exact @BZ _ _ _ _ _ (by walk_at "s") (by walk_at "q")))
local macro_rules | `(tactic| walk_at "s")=>`(tactic| first | ((with_reducible show PS _ (.Assign [.Name ..] (.ListComp ..) _) _);exact @bW _ _ _ _ _ _ _ _ _ _ _ _ _ _ _ _ _ rfl (by assumption) (Q0 (by rfl)) (by walk_at "lc") (by walk_at "cs") (by walk_at "n") (fun C s' H' ex' pn'=>⟨(by walk_at "g"),(by walk_at "u"),(by walk_at "e")⟩) rfl (by walk_at "or") (by intro _;rfl)) | ((with_reducible show PS _ (.Assign [.Name ..] ..) _);exact @K0 _ _ _ _ _ _ _ (by assumption) (Q0 (by rfl)) (by walk_at "lc") (by walk_at "e") (by rfl) (by walk_at "or")) | ((with_reducible show PS _ (.If ..) _);first | walk_at "z" | exact @OC _ _ _ _ _ _ _ _ (by walk_at "t") (by walk_at "q") (by walk_at "q")) | ((with_reducible show PS _ (.Return (some _) _) _);exact @SV _ _ _ _ (by walk_at "e")) | ((with_reducible show PS _ (.For ..) _);exact @LY _ _ _ _ _ _ _ _ a8Z rfl (by walk_at "n") (by walk_at "g") (by walk_at "q") (by intro _;rfl)) | ((with_reducible show PS _ (.Expr ..) _);exact @bE _ _ _ _ (by walk_at "e") (by rfl)) | ((with_reducible show PS _ (.Raise ..) _);exact @XR _ _) | walk_at "x")
local macro_rules | `(tactic| walk_at "e")=>`(tactic| first | ((with_reducible show PE _ (.Name ..) _);first | exact @pvx _ _ _ _ (by rfl) (by walk_at "lc") (by decide) (by decide) | exact @FL _ _ (.ty "int") _ _ (by rfl) (by assumption) PyProof.Rows.boot_int rfl (by decide) (by decide) | exact @FL _ _ (.ty "str") _ _ (by rfl) (by assumption) PyProof.Rows.boot_str rfl (by decide) (by decide) | exact @FL _ _ (.ty "bool") _ _ (by rfl) (by assumption) PyProof.Rows.boot_bool rfl (by decide) (by decide) | exact @FL _ _ (.ty "list") _ _ (by rfl) (by assumption) a7X rfl (by decide) (by decide) | exact @FL _ _ (.ty "tuple") _ _ (by rfl) (by assumption) PyProof.Rows.boot_tuple rfl (by decide) (by decide) | exact @FL _ _ (.ty "dict") _ _ (by rfl) (by assumption) PyProof.Rows.boot_dict rfl (by decide) (by decide) | exact @FL _ _ (.ty "ValueError") _ _ (by rfl) (by assumption) PyProof.Rows.boot_ValueError rfl (by decide) (by decide)) | ((with_reducible show PE _ (.ListComp ..) _);exact @bV _ _ _ _ _ _ _ _ _ _ _ _ _ rfl (by walk_at "cs") (by walk_at "n") (fun C s' H' ex' pn'=>⟨(by walk_at "g"),(by walk_at "u"),(by walk_at "e")⟩) (by intro _;rfl)) | ((with_reducible show PE _ (.Constant ..) _);first | ((with_reducible show PE _ (.Constant (.int _) ..) _);exact @FK _ _ _ _) | ((with_reducible show PE _ (.Constant (.str _) ..) _);exact @gH _ _ _ _) | ((with_reducible show PE _ (.Constant (.bool _) ..) _);exact @UL _ _ _ _) | ((with_reducible show PE _ (.Constant .none ..) _);exact @gG _ _ _)) | ((with_reducible show PE _ (.Call ..) _);first | walk_at "y" | ((with_reducible show PE _ (.Call (.Name (a0Q "len") _) ..) _);exact @AZ _ _ _ _ _ _ _ _ _ (@ME _ K rfl) (by rfl) (by assumption) a4K (by walk_at "a") (by decide) (by decide) (by rfl) (by rfl)) | ((with_reducible show PE _ (.Call (.Name (a0Q "isinstance") _) ..) _);exact @AZ _ _ _ _ _ _ _ _ _ (@mF _ K rfl) (by rfl) (by assumption) PyProof.Rows.boot_isinstance (by walk_at "a") (by decide) (by decide) (by rfl) (by rfl)) | ((with_reducible show PE _ (.Call (.Name (a0Q "any") _) ..) _);exact @AZ _ _ _ _ _ _ _ _ _ (@mE _ K rfl rfl) (by rfl) (by assumption) PyProof.Rows.boot_any (by walk_at "a") (by decide) (by decide) (by rfl) (by rfl)) | ((with_reducible show PE _ (.Call (.Name (a0Q "sorted") _) ..) _);exact @AZ _ _ _ _ _ _ _ _ _ (@jO _ K rfl rfl) (by rfl) (by assumption) PyProof.Rows.boot_sorted (by walk_at "a") (by decide) (by decide) (by rfl) (by rfl)) | ((with_reducible show PE _ (.Call (.Name (a0Q "min") _) ..) _);exact @AZ _ _ _ _ _ _ _ _ _ (@mI _ K rfl rfl) (by rfl) (by assumption) PyProof.Rows.boot_min (by walk_at "a") (by decide) (by decide) (by rfl) (by rfl)) | ((with_reducible show PE _ (.Call (.Name (a0Q "divmod") _) ..) _);exact @AZ _ _ _ _ _ _ _ _ _ (@cY _ K rfl) (by rfl) (by assumption) PyProof.Rows.boot_divmod (by walk_at "a") (by decide) (by decide) (by rfl) (by rfl)) | ((with_reducible show PE _ (.Call (.Name (a0Q "sum") _) ..) _);exact @AZ _ _ _ _ _ _ _ _ _ (@mK _ K rfl rfl) (by rfl) (by assumption) PyProof.Rows.boot_sum (by walk_at "a") (by decide) (by decide) (by rfl) (by rfl)) | ((with_reducible show PE _ (.Call (.Name (a0Q "tuple") _) ..) _);exact @F7 _ _ _ _ _ _ _ _ _ (@jB _ K rfl) (by rfl) (by assumption) PyProof.Rows.boot_tuple (by walk_at "a") (by decide) (by decide) (by rfl) (by rfl)) | ((with_reducible show PE _ (.Call (.Name (a0Q "int") _) ..) _);exact @F7 _ _ _ _ _ _ _ _ _ (@mJ _ K rfl) (by rfl) (by assumption) PyProof.Rows.boot_int (by walk_at "a") (by decide) (by decide) (by rfl) (by rfl)) | ((with_reducible show PE _ (.Call (.Name ..) ..) _);exact @YO _ K P w mg base _ _ _ _ _ _ _ _ _ rfl rfl rfl rfl rfl (by with_reducible assumption) (hr.mono (by decide)) rfl (by walk_at "a") (by decide) (by rfl) (by rfl)) | ((with_reducible show PE _ (.Call (.Attribute _ (a0Q "append") _) ..) _);exact @kBm _ K _ _ _ _ _ _ _ _ _ _ _ rfl PySem.F.plainAttrs_list PySem.F.slot_list_append PySem.F.type_list_append (@Z2 _) (by walk_at "e") (by walk_at "a") (by rfl) (by rfl) (by rfl) (by rfl) (by rfl)) | walk_at "x") | ((with_reducible show PE _ (.BinOp ..) _);first | ((with_reducible show PE _ (.BinOp _ .Add ..) _);exact @EE _ _ _ _ _ _ _ _ (@J5 _ K rfl) (by walk_at "e") (by walk_at "e")) | ((with_reducible show PE _ (.BinOp _ .Sub ..) _);exact @EE _ _ _ _ _ _ _ _ (@gX _) (by walk_at "e") (by walk_at "e")) | ((with_reducible show PE _ (.BinOp _ .Mod ..) _);exact @EE _ _ _ _ _ _ _ _ (@gY _) (by walk_at "e") (by walk_at "e")) | ((with_reducible show PE _ (.BinOp _ .FloorDiv ..) _);exact @EE _ _ _ _ _ _ _ _ (@Y7 _) (by walk_at "e") (by walk_at "e")) | ((with_reducible show PE _ (.BinOp _ .Pow ..) _);exact @EE _ _ _ _ _ _ _ _ (@gZ _) (by walk_at "e") (by walk_at "e"))) | ((with_reducible show PE _ (.Compare ..) _);first | walk_at "y" | ((with_reducible show PE _ (.Compare _ [.Eq] ..) _);exact @EN _ _ _ _ _ _ _ _ (@kEq _ K rfl hu) (by walk_at "e") (by walk_at "e") (@BW _ _ (by decide) (by decide))) | ((with_reducible show PE _ (.Compare _ [.NotEq] ..) _);exact @EN _ _ _ _ _ _ _ _ (@kNe _ K rfl hu) (by walk_at "e") (by walk_at "e") (@BW _ _ (by decide) (by decide))) | ((with_reducible show PE _ (.Compare _ [.Lt] ..) _);exact @EN _ _ _ _ _ _ _ _ (@K5 _) (by walk_at "e") (by walk_at "e") (@BW _ _ (by decide) (by decide))) | ((with_reducible show PE _ (.Compare _ [.Is] ..) _);exact @EN _ _ _ _ _ _ _ _ (@Z8 _) (by walk_at "e") (by walk_at "e") (@BW _ _ (by decide) (by decide))) | ((with_reducible show PE _ (.Compare _ [.IsNot] ..) _);exact @EN _ _ _ _ _ _ _ _ (@VC _) (by walk_at "e") (by walk_at "e") (@BW _ _ (by decide) (by decide))) | ((with_reducible show PE _ (.Compare _ [.Gt] ..) _);exact @EN _ _ _ _ _ _ _ _ (@eZ _) (by walk_at "e") (by walk_at "e") (@BW _ _ (by decide) (by decide)))) | ((with_reducible show PE _ (.Subscript ..) _);first | ((with_reducible show PE _ (.Subscript _ (.Slice _ _ none _) _) _);exact @QX _ _ _ _ _ _ _ _ _ _ (@lJ _ K rfl) (by walk_at "e") (by walk_at "o") (by walk_at "o")) | walk_at "y" | exact @M7 _ _ _ _ _ _ _ (@kIx _ K rfl) (by walk_at "e") (by walk_at "e") (fun _ _=>rfl)) | ((with_reducible show PE _ (.Tuple ..) _);exact @EF _ _ _ _ _ (by walk_at "a")) | ((with_reducible show PE _ (.List ..) _);exact @T1 _ _ _ _ (by walk_at "a")) | ((with_reducible show PE _ (.IfExp ..) _);exact @XQ _ _ _ _ _ _ _ _ (by walk_at "t") (by walk_at "e") (by walk_at "e")) | ((with_reducible show PE _ (.BoolOp ..) _);first | ((with_reducible show PE _ (.BoolOp _ [_] _) _);exact @gK _ _ _ _ _ (by walk_at "e")) | exact @gL _ _ _ _ _ _ _ (by walk_at "e") (by walk_at "e")) | ((with_reducible show PE _ (.UnaryOp ..) _);exact @kJ _ _ _ _ _ _ (@h7 _) (by walk_at "e")) | walk_at "x")
local macro_rules | `(tactic| walk_at "t")=>`(tactic| first | ((with_reducible show PT _ (.Compare ..) _);first | walk_at "y" | ((with_reducible show PT _ (.Compare _ [.Eq] ..) _);exact @B9 _ _ _ _ _ _ _ _ (@kEq _ K rfl hu) (by walk_at "e") (by walk_at "e") (@BW _ _ (by decide) (by decide))) | ((with_reducible show PT _ (.Compare _ [.NotEq] ..) _);exact @B9 _ _ _ _ _ _ _ _ (@kNe _ K rfl hu) (by walk_at "e") (by walk_at "e") (@BW _ _ (by decide) (by decide))) | ((with_reducible show PT _ (.Compare _ [.Lt] ..) _);exact @B9 _ _ _ _ _ _ _ _ (@K5 _) (by walk_at "e") (by walk_at "e") (@BW _ _ (by decide) (by decide))) | ((with_reducible show PT _ (.Compare _ [.Is] ..) _);exact @B9 _ _ _ _ _ _ _ _ (@Z8 _) (by walk_at "e") (by walk_at "e") (@BW _ _ (by decide) (by decide))) | ((with_reducible show PT _ (.Compare _ [.IsNot] ..) _);exact @B9 _ _ _ _ _ _ _ _ (@VC _) (by walk_at "e") (by walk_at "e") (@BW _ _ (by decide) (by decide))) | ((with_reducible show PT _ (.Compare _ [.Gt] ..) _);exact @B9 _ _ _ _ _ _ _ _ (@eZ _) (by walk_at "e") (by walk_at "e") (@BW _ _ (by decide) (by decide))) | walk_at "x") | ((with_reducible show PT _ (.BoolOp ..) _);exact @L2.PW.pt _ _ _ (by walk_at "w")) | ((with_reducible show PT _ (.UnaryOp .Not ..) _);exact @gJ _ _ _ _ (by walk_at "t")) | exact @SU _ _ _ (by walk_at "e") (by intro _;rfl))
local macro_rules | `(tactic| walk_at "w")=>`(tactic| first | ((with_reducible show PW _ (.BoolOp .Or ..) _);first | ((with_reducible show PW _ (.BoolOp _ [_] _) _);exact @pw_or1 _ _ _ _ (by walk_at "t")) | exact @pw_or _ _ _ _ _ _ _ (by walk_at "t") (by walk_at "w")) | ((with_reducible show PW _ (.BoolOp _ [_] _) _);exact @pw_and1 _ _ _ _ (by walk_at "t")) | exact @pw_and _ _ _ _ _ _ _ (by walk_at "t") (by walk_at "w"))
local macro_rules | `(tactic| walk_at "a")=>`(tactic| first | ((with_reducible show PA _ [] _);exact @AX _) | exact @AE _ _ _ _ _ (by walk_at "e") (by walk_at "a") (by rfl))
local macro_rules | `(tactic| walk_at "o")=>`(tactic| first | ((with_reducible show PO _ none _);exact @UT _) | exact @UU _ _ _ (by walk_at "e"))
local macro_rules | `(tactic| walk_at "u")=>`(tactic| first | ((with_reducible show PTs _ [] _);exact @bT _) | exact @bU _ _ _ (by walk_at "t"))
local macro_rules | `(tactic| walk_at "n")=>`(tactic| first | ((with_reducible show PI _ _ (.Call ..) _);first | ((with_reducible show PI _ _ (.Call (.Name (a0Q "range") _) [_] ..) _);exact @W4 _ _ _ _ _ _ rfl (by assumption) (by walk_at "a") (by rfl)) | ((with_reducible show PI _ _ (.Call (.Name (a0Q "range") _) [_,_] ..) _);exact @K1 _ _ _ _ _ _ _ rfl (by assumption) (by walk_at "a") (by rfl) (by rfl)) | walk_at "x") | walk_at "y" | exact @fS _ K _ _ _ rfl (by walk_at "e"))
local macro_rules | `(tactic| walk_at "g")=>`(tactic| first | ((with_reducible show PG _ (.Name ..) _);exact @FM _ _ _ _ (by assumption) (Q0 (by rfl)) (by walk_at "lc") (by walk_at "or")) | walk_at "x")
local macro_rules | `(tactic| walk_at "j")=>`(tactic| first | ((with_reducible show PGs _ [] _);exact @UO _) | exact @LU _ _ _ _ _ (by walk_at "g") (by walk_at "j") (by rfl))
local macro_rules | `(tactic| walk_at "b1")=>`(tactic| exact @CD _ _ _ (by walk_at "s"))
local macro_rules | `(tactic| walk_at "b2")=>`(tactic| exact @BZ _ _ _ _ _ (by walk_at "s") (by walk_at "q"))
local macro_rules | `(tactic| walk_at "dl")=>`(tactic| first
 | (with_reducible first | refine YA ?_ | refine dx_seq ?_ | refine Y9 ?_ | refine V1 ?_ | refine Y8 ?_ | refine lD ?_ | refine V0 ?_ | refine UZ ?_ | refine ds_setitem ?_ | refine ZG ?_ | refine dx_if ?_ | refine dx_raise1 ?_ | refine dx_raise0 ?_ | refine dx_drop (dex_call ?_) | refine dx_set (dex_call ?_) | refine dx_ret (dex_call ?_) | refine dx_lift (Y9 ?_) | refine dx_lift (V1 ?_) | refine dx_lift (Y8 ?_) | refine dx_lift (V0 ?_) | refine dx_lift (UZ ?_) | refine dx_lift (ds_setitem ?_) | refine dx_lift (ZG ?_))
 | ((with_reducible apply iO);exact rfl)
 | (with_reducible first | refine iP ?_ | refine l5 ?_ | refine iQ ?_ | refine iR ?_ | refine de_cref ?_ | refine l6 ?_ | refine l7 ?_ | refine l8 ?_ | refine de_chain ?_ | refine c6 ?_ | refine mB ?_ | refine iS ?_ | refine l9 ?_ | refine iT ?_ | refine iU ?_ | refine iV ?_ | refine de_or ?_ | refine de_not ?_ | refine lA ?_ | refine iW ?_ | refine c7 ?_ | refine lB ?_ | refine iX ?_ | refine lC ?_ | refine cA ?_ | refine cB ?_ | refine cJ ?_ | refine YU ?_ | refine cR ?_)
 | ((with_reducible refine YV ?_ ?_);exact rfl)
 | ((with_reducible refine VF ?_ ?_);exact rfl)
 | (with_reducible first | refine lE ?_ | refine lG ?_ | refine mD ?_ | refine YX ?_ | refine cP ?_)
 | ((with_reducible refine lH ?_ ?_);(first
     | ((with_reducible show CMul _ _);first | exact cmul_r (by decide) (by decide) | exact cmul_l (by decide) (by decide) | exact cmul_l (by omega) (by omega))
     | ((with_reducible show fN _ _);first | exact⟨by decide,by decide⟩ | exact⟨by assumption,by assumption⟩)
     | ((with_reducible show kN _ _);exact⟨by decide,by decide,by decide⟩)
     | (show(0:Int) < _;first | decide | assumption | omega)))
 | ((with_reducible apply cO);(first | assumption | exact zU);exact rfl)
 | ((with_reducible apply mG);(first | assumption | exact zU);exact rfl)
 | ((with_reducible refine Z3 ?_ ?_);(first | exact CMul.ok (cmul_r (by decide) (by decide)) | exact CMul.ok (cmul_l (by decide) (by decide))))
 | (with_reducible first | refine d2_isB ?_ | refine d2_notB ?_ | refine rd_max ?_ | refine jK ?_ | refine cZ ?_ | refine Z4 ?_ | refine rd_abs ?_)
 | ((with_reducible refine YL (b:=true) ?_ ?_);exact rfl)
 | ((with_reducible refine YL (b:=false) ?_ ?_);exact rfl)
 | with_reducible refine c9 ?_
 | ((with_reducible apply mH);exact rfl;exact yD rfl)
 | (with_reducible refine Exists.intro _ (And.intro rfl ?_))
 | (with_reducible refine L2.iJ ?_)
 | (with_reducible refine L2.iI ?_)
 | (refine L2.iJ ?_)
 | (refine L2.iI ?_))
local macro_rules | `(tactic| walk_at "r")=>`(tactic| repeat walk_at "dl")
local macro_rules | `(tactic| walk_at "wkd")=>`(tactic| repeat (first | walk_at "dl" | refine C8 ?_ | refine de_dnew ?_))
local macro_rules | `(tactic| walk_at "wks")=>`(tactic| repeat ((fail_if_success (with_reducible show DSt _ _ _ _ _));(first | walk_at "dl" | refine C8 ?_ | refine de_dnew ?_)))
section
variable {P:Program}{w:World}{K:Frg}{mg:Str->Option Value}{base:Heap}
def UH:List Str:=["word"]
theorem NG:FnScope UH ["word"] (AC HP):=⟨rfl,rfl,rfl,by decide +kernel,rfl,by decide +kernel,by decide +kernel⟩
section
local macro_rules | `(tactic| walk_at "x")=>`(tactic| first | ((with_reducible show PE _ (.Call (.Attribute _ (a0Q "get") _) ..) _);exact @cV _ _ _ _ _ _ _ _ rfl g_FORMS (by walk_at "e") (@L2.M1.mk _ _ _ _ _ _ rfl rfl rfl rfl) (by decide)))
theorem UI {f:Addr}{fd:FuncData}(F:Fun K "form_of" "form_of" HP f fd) (n_isinstance:mg "isinstance"=none) (n_str:mg "str"=none) (g_FORMS:∃a,mg "FORMS"=some (.ref a)/\GDict w K a KO):FnOk P w K mg base CX0 1 f fd ["word"] (spD K 1 K9):=by
 refine fnD F NG fun cdv A outer s H E hr=>?_
 have hu:=hr.units
 have nd:=NG.nd
 refine⟨_,by walk_at "b1", ?_⟩
 clear nd
 rintro xs M hl ⟨d,rfl,-⟩
 cases d
 case str z=>
   walk_at "r"
   refine cW ?_
   walk_at "r"
   exact⟨M,zT M,fun d' e=>by cases e;exact⟨rfl,rfl⟩⟩
 all_goals
   walk_at "r"
   exact⟨M,zT M,fun d' e=>by cases e;exact⟨rfl,rfl⟩⟩
end
def SN:List Str:=["deed"]
theorem KY:FnScope SN ["deed"] (AC G2):=⟨rfl,rfl,rfl,by decide +kernel,rfl,by decide +kernel,by decide +kernel⟩
section
local macro_rules | `(tactic| walk_at "x")=>`(tactic| first | ((with_reducible show PE _ (.Call (.Attribute _ (a0Q "startswith") _) ..) _);exact @kBm _ K _ _ _ _ _ _ _ _ _ _ _ rfl PySem.F.plainAttrs_str PySem.F.slot_str_startswith PySem.F.type_str_startswith (@RI _ K rfl) (by walk_at "e") (by walk_at "a") (by rfl) (by rfl) (by rfl) (by rfl) (by rfl)))
theorem SO {f:Addr}{fd:FuncData}(F:Fun K "names_in" "names_in" G2 f fd) (h_form_of:Has P w K mg base "form_of" 1 ["word"] K9):FnOk P w K mg base CX0 2 f fd ["deed"] (spD K 1 IP):=by
 refine fnD F KY fun cdv A outer s H E hr=>?_
 have hu:=hr.units
 have nd:=KY.nd
 refine⟨_,by walk_at "b1", ?_⟩
 clear nd
 rintro xs M hl ⟨d,rfl,w,f,r,rfl,hf⟩
 obtain⟨fa,fs,fn,_,_⟩:=TZ hf
 have hform:fX (.str w) = .str f:=by
   show jH (KO.lookup w)=_
   rw[hf];rfl
 walk_at "r"
 refine UY ?_
 walk_at "r"
 refine AA (d:=.str w) (AD (j:=0) rfl) ?_
 walk_at "r"
 refine CQ trivial ?_
 rw[hform]
 refine⟨cH,?_⟩
 walk_at "r"
 refine WQ ?_
 rw[fn]
 cases htw:dC w with
 | true=>
   walk_at "r"
   refine AS ?_
   rw[show D9 (a0W w::r) (some 1) (some 3)=r.take 2 from HH _ 1 3]
   exact⟨M,zT M,fun d' e=>by cases e;refine⟨?_,rfl⟩;simp only[MT,htw];rfl⟩
 | false=>
   walk_at "r"
   refine AS ?_
   rw[show D9 (a0W w::r) (some 1) (some 2)=r.take 1 from HH _ 1 2]
   exact⟨M,zT M,fun d' e=>by cases e;refine⟨?_,rfl⟩;simp only[MT,htw];rfl⟩
end
def UJ:List Str:=["deed"]
theorem NH:FnScope UJ ["deed"] (AC HQ):=⟨rfl,rfl,rfl,by decide +kernel,rfl,by decide +kernel,by decide +kernel⟩
section
local macro_rules | `(tactic| walk_at "x")=>`(tactic| first | ((with_reducible show PT _ (.Compare _ [.In] ..) _);exact @B9 _ _ _ _ _ _ _ _ (@kIn _ K rfl) (by walk_at "e") (by walk_at "e") (by with_unfolding_all rfl)))
theorem UK {f:Addr}{fd:FuncData}(F:Fun K "made_by" "made_by" HQ f fd):FnOk P w K mg base CX0 1 f fd ["deed"] (spD K 1 HI):=by
 refine fnD F NH fun cdv A outer s H E hr=>?_
 have hu:=hr.units
 have nd:=NH.nd
 refine⟨_,by walk_at "b2", ?_⟩
 clear nd
 rintro xs M hl ⟨d,rfl,D,rfl,hD⟩
 rw[D.d_eq]
 walk_at "r"
 refine AA (d:=.str D.word) (AD (j:=0) rfl) ?_
 walk_at "r"
 refine AT D.word_ok (by decide +kernel) ?_
 rw[if_neg nft,CF,ZO]
 cases hp:D.isPut with
 | true=>
   walk_at "r"
   refine AA (d:=.str D.fst) (AD (j:=1) rfl) ?_
   refine⟨M,zT M,fun d' e=>?_⟩
   cases e
   refine⟨?_,rfl⟩
   cases D <;> first | rfl | cases hp
 | false=>
   walk_at "r"
   refine AA (d:=.str D.word) (AD (j:=0) rfl) ?_
   walk_at "r"
   refine V8 (ys:=[a0Q "name", a0Q "split"]) ?_
   rw[lQ,dH]
   cases hn:D.isNS with
   | true=>
     have h2:∃y t,D.rest = .str y::t:=by cases D <;> first | exact⟨_,_,rfl⟩ | cases hn
     obtain⟨y,t,h2⟩:=h2
     walk_at "r"
     refine AA (d:=.str y) (AD (j:=2) (by rw[h2];rfl)) ?_
     refine⟨M,zT M,fun d' e=>?_⟩
     cases e
     refine⟨?_,rfl⟩
     cases D <;> first | (cases hn;done) | (simp only[Deed.rest] at h2;injection h2 with h3 h4;injection h3 with h3;subst h3;rfl)
   | false=>
     walk_at "r"
     refine⟨M,zT M,fun d' e=>?_⟩
     cases e
     refine⟨?_,rfl⟩
     cases D <;> first | rfl | (cases hn;done) | (cases hp;done)
end
def SQ:List Str:=["deed"]
theorem KZ:FnScope SQ ["deed"] (AC G3):=⟨rfl,rfl,rfl,by decide +kernel,rfl,by decide +kernel,by decide +kernel⟩
section
local macro_rules | `(tactic| walk_at "x")=>`(tactic| first | ((with_reducible show PT _ (.Compare _ [.In] ..) _);exact @B9 _ _ _ _ _ _ _ _ (@kIn _ K rfl) (by walk_at "e") (by walk_at "e") (by with_unfolding_all rfl)))
theorem SR {f:Addr}{fd:FuncData}(F:Fun K "ended_by" "ended_by" G3 f fd):FnOk P w K mg base CX0 1 f fd ["deed"] (spD K 1 FV):=by
 refine fnD F KZ fun cdv A outer s H E hr=>?_
 have hu:=hr.units
 have nd:=KZ.nd
 refine⟨_,by walk_at "b2", ?_⟩
 clear nd
 rintro xs M hl ⟨d,rfl,D,rfl,hD⟩
 rw[D.d_eq]
 walk_at "r"
 refine AA (d:=.str D.word) (AD (j:=0) rfl) ?_
 walk_at "r"
 refine V8 (ys:=[a0Q "take", a0Q "name"]) ?_
 rw[lQ,dI]
 cases hp:D.isTN with
 | true=>
   walk_at "r"
   refine AA (d:=.str D.fst) (AD (j:=1) rfl) ?_
   refine⟨M,zT M,fun d' e=>?_⟩
   cases e
   refine⟨?_,rfl⟩
   cases D <;> first | rfl | cases hp
 | false=>
   walk_at "r"
   refine AA (d:=.str D.word) (AD (j:=0) rfl) ?_
   walk_at "r"
   refine AT D.word_ok (by decide +kernel) ?_
   rw[if_neg nft,CF,X1]
   cases hn:D.isJoin with
   | true=>
     have h2:∃y t,D.rest = .str y::t:=by cases D <;> first | exact⟨_,_,rfl⟩ | cases hn
     obtain⟨y,t,h2⟩:=h2
     walk_at "r"
     refine AA (d:=.str y) (AD (j:=2) (by rw[h2];rfl)) ?_
     refine⟨M,zT M,fun d' e=>?_⟩
     cases e
     refine⟨?_,rfl⟩
     cases D <;> first | (cases hn;done) | (simp only[Deed.rest] at h2;injection h2 with h3 h4;injection h3 with h3;subst h3;rfl)
   | false=>
     walk_at "r"
     refine⟨M,zT M,fun d' e=>?_⟩
     cases e
     refine⟨?_,rfl⟩
     cases D <;> first | rfl | (cases hn;done) | (cases hp;done)
end
def HW:List Str:=["deed", "made"]
def GA:List Str:=["name", "made"]
def GB:List (Option Nat):=[none,some 1]
theorem LA:GA.Nodup:=by decide +kernel
theorem HX:FnScope HW ["deed"] (AC D0):=⟨rfl,rfl,rfl,by decide +kernel,rfl,by decide +kernel,by decide +kernel⟩
section
local macro_rules | `(tactic| walk_at "cs")=>`(tactic| first | exact @KC _ _ GA GB (AC D0) HW (by decide +kernel) (by decide +kernel) rfl rfl)
theorem NV {f:Addr}{fd:FuncData}(F:Fun K "must_stand" "must_stand" D0 f fd) (n_tuple:mg "tuple"=none) (h_made_by:Has P w K mg base "made_by" 1 ["deed"] HI) (h_names_in:Has P w K mg base "names_in" 2 ["deed"] IP):FnOk P w K mg base CX0 3 f fd ["deed"] (spD K 1 FW):=by
 refine fnD F HX fun cdv A outer s H E hr=>?_
 have hu:=hr.units
 have nd:=HX.nd
 have n0:=LA
 refine⟨_,by walk_at "b2", ?_⟩
 clear nd n0
 rintro xs M hl ⟨d,rfl,D,rfl,hD⟩
 have hsz:(D.names.map a0W).length < sizeLine:=by
   rw[zX];exact zQ (show D.names.length<=2 by cases D <;> simp[Deed.names]) (by decide)
 walk_at "r"
 refine CQ ⟨D,rfl,hD⟩ ?_
 walk_at "r"
 refine AI (BB 0) (by simp[GB]) ?_
 refine LO ?_
 walk_at "r"
 refine CQ (ZJ D) ?_
 rw[RU]
 refine⟨_,rfl,hsz,fun d=>!a0X d (OV D.d),id,?_,?_⟩
 · intro d hd M'
   obtain⟨n,hn,rfl⟩:=zL.mp hd
   walk_at "dl"
   refine⟨rfl,?_⟩
   walk_at "r"
   refine AT (AK (hD n hn)) (dJ hD) ?_
   rw[if_pos rfl]
   refine⟨_,rfl,rfl,rfl,fun _=>?_⟩
   walk_at "r"
   exact⟨rfl,rfl⟩
 · walk_at "r"
   refine J3 ?_
   refine⟨M,zT M,fun d' e=>?_⟩
   cases e
   refine⟨?_,rfl⟩
   show DS.d (.tuple _) = .d (.tuple ((RX D.d).map .str))
   unfold RX
   rw[RV,b4X,xT]
   rfl
end
def HY:List Str:=["things", "others", "alike"]
def GC:List Str:=["thing", "other"]
def GD:List (Option Nat):=[none,none]
theorem LB:GC.Nodup:=by decide +kernel
theorem HZ:FnScope HY ["things", "others"] (AC D3):=⟨rfl,rfl,rfl,by decide +kernel,rfl,by decide +kernel,by decide +kernel⟩
section
local macro_rules | `(tactic| walk_at "cs")=>`(tactic| first | exact @KC _ _ GC GD (AC D3) HY (by decide +kernel) (by decide +kernel) rfl rfl)
local macro_rules | `(tactic| walk_at "x")=>`(tactic| first | ((with_reducible show PI _ _ (.Call (.Name (a0Q "zip") _) ..) _);exact @lW _ K _ _ _ _ _ _ _ _ rfl rfl n_zip (by walk_at "a") (by rfl) (by rfl)) | ((with_reducible show PG _ (.Tuple ..) _);exact @jF _ K _ _ _ _ (2) rfl rfl (by walk_at "j") (by rfl) (by rfl)) | ((with_reducible show PE _ (.Call (.Attribute _ (a0Q "index") _) ..) _);exact @kBm _ K _ _ _ _ _ _ _ _ _ _ _ rfl PySem.F.plainAttrs_list PySem.F.slot_list_index PySem.F.type_list_index (@lS _ K rfl hu) (by walk_at "e") (by walk_at "a") (by rfl) (by rfl) (by rfl) (by rfl) (by rfl)))
theorem NW {f:Addr}{fd:FuncData}(F:Fun K "same_ahead" "same_ahead" D3 f fd) (n_zip:mg "zip"=none):FnOk P w K mg base CX0 1 f fd ["things", "others"] (spD K 2 CY):=by
 refine fnD F HZ fun cdv A outer s H E hr=>?_
 have hu:=hr.units
 have nd:=HZ.nd
 have n0:=LB
 refine⟨_,by walk_at "b2", ?_⟩
 clear nd n0
 rintro xs M hl ⟨A,B,rfl,ha,hb⟩
 obtain⟨bs,ebs,hbl⟩:=S4 (A.map AF) (B.map AF)
 have hlz:(L4 (A.map AF) (B.map AF)).length<=50:=by
   unfold L4
   rw[zX,List.length_zip,zX]
   exact zN (Nat.min_le_left _ _) ha.2
 walk_at "r"
 refine AI (jE (V7 (V7 jD))) (by simp[GD]) ?_
 refine dS ?_
 walk_at "r"
 refine⟨A.map AF,B.map AF,rfl,?_⟩
 refine⟨zQ hlz (by decide),fun _=>true,fEq,?_,?_⟩
 · intro d hd M'
   unfold L4 at hd
   obtain⟨p,hp,rfl⟩:=zL.mp hd
   obtain⟨h1,h2⟩:=List.of_mem_zip hp
   obtain⟨a,ha2,e1⟩:=zL.mp h1
   obtain⟨b,hb2,e2⟩:=zL.mp h2
   rw[← e1,← e2]
   walk_at "r"
   refine⟨rfl,?_⟩
   walk_at "dl"
   refine⟨rfl,rfl,fun _=>?_⟩
   walk_at "r"
   refine AT (B6 (ha.1 a ha2).1 (ha.1 a ha2).2) (B6 (hb.1 b hb2).1 (hb.1 b hb2).2) ?_
   rw[if_neg nft]
   exact⟨rfl,rfl⟩
 have hidx:=U8 A B
 rw[ZP]
 rw[ebs] at hidx ⊢
 walk_at "r"
 refine UY ?_
 walk_at "wkd"
 refine C9 (by rw[zX];exact zN (show _<=60 by rw[zX] at hbl;have:=ha.2;simp;omega) (by decide)) ?_
 refine⟨ZX,?_⟩
 walk_at "r"
 have hsh:zH (.list (bs.map b1K++[.bool false]))=true:=by
   refine BV (FR fun d hd=>?_) ?_
   · rcases yW.mp hd with q | q
     · obtain⟨b,_,rfl⟩:=zL.mp q;rfl
     · rw[List.mem_singleton.mp q];rfl
   · have:a1J (bs.map b1K++[.bool false])<=3:=MH fun d hd=>by
       rcases yW.mp hd with q | q
       · obtain⟨b,_,rfl⟩:=zL.mp q;simp[a2V]
       · rw[List.mem_singleton.mp q];simp[a2V]
     simp only[a2V];omega
 refine dP (ds:=bs.map .bool++[.bool false]) (j:=AO A B) hsh rfl hidx (zQ (JB A B).1 (zQ ha.2 (by decide))) ?_
 refine⟨M,zT M,fun A' B' e=>?_⟩
 simp only[List.cons.injEq,DS.d.injEq,PyData.tuple.injEq,and_true] at e
 obtain⟨e1,e2⟩:=e
 obtain rfl:=B7 e1
 obtain rfl:=B7 e2
 exact⟨rfl,rfl⟩
end
def XF:List Str:=["one", "other"]
theorem P2:FnScope XF ["one", "other"] (AC JM):=⟨rfl,rfl,rfl,by decide +kernel,rfl,by decide +kernel,by decide +kernel⟩
theorem XG {f:Addr}{fd:FuncData}(F:Fun K "shared" "shared" JM f fd) (h_same_ahead:Has P w K mg base "same_ahead" 1 ["things", "others"] CY):FnOk P w K mg base CX0 2 f fd ["one", "other"] (spD K 2 DD):=by
 refine fnD F P2 fun cdv A outer s H E hr=>?_
 have hu:=hr.units
 have nd:=P2.nd
 refine⟨_,by walk_at "b2", ?_⟩
 clear nd
 rintro xs M hl ⟨w,A,B,rfl,hw,ha,hb⟩
 walk_at "r"
 refine AA (ds:=[wD w,AB A]) (d:=wD w) rfl ?_
 walk_at "r"
 refine AA (ds:=[wD w,AB B]) (d:=wD w) rfl ?_
 walk_at "r"
 refine AT (EA hw) (EA hw) ?_
 rw[if_pos rfl,GX (EA hw)]
 walk_at "r"
 refine AA (ds:=[wD w,AB A]) (d:=AB A) rfl ?_
 walk_at "r"
 refine AA (ds:=[wD w,AB B]) (d:=AB B) rfl ?_
 walk_at "r"
 refine U9 ha.lns hb.lns ?_
 refine⟨M,zT M,fun w' A' B' e=>?_⟩
 obtain⟨_,rfl,rfl⟩:=aD e
 exact⟨rfl,rfl⟩
def QC:List Str:=["book", "common"]
theorem JO:FnScope QC ["book", "common"] (AC EQ):=⟨rfl,rfl,rfl,by decide +kernel,rfl,by decide +kernel,by decide +kernel⟩
section
local macro_rules | `(tactic| walk_at "y")=>`(tactic| first | ((with_reducible show PE _ (.Call (.Name (a0Q "list") _) [.Call ..] ..) _);exact @X7 _ _ _ _ _ _ _ _ hr.hd rfl n_range rfl n_list (by walk_at "a") (by rfl) (by rfl) (by rfl)))
theorem QD {f:Addr}{fd:FuncData}(F:Fun K "own_lines" "own_lines" EQ f fd) (n_len:mg "len"=none) (n_list:mg "list"=none) (n_range:mg "range"=none):FnOk P w K mg base CX0 1 f fd ["book", "common"] (spD K 2 HK):=by
 refine fnD F JO fun cdv A outer s H E hr=>?_
 have hu:=hr.units
 have nd:=JO.nd
 refine⟨_,by walk_at "b1", ?_⟩
 clear nd
 rintro xs M hl ⟨w,A,c,rfl,hg,hc⟩
 have hfew:=hg.few
 walk_at "r"
 refine X9 ?_
 walk_at "r"
 refine AA (ds:=[wD w,AB A]) (d:=AB A) rfl ?_
 walk_at "r"
 refine B3 ?_
 rw[zX]
 walk_at "r"
 refine⟨(c:Int),(A.length:Int),rfl,⟨by omega,by omega,by omega,by omega⟩,by omega,?_⟩
 rw[aB]
 refine⟨M,zT M,fun w' A' c' e=>?_⟩
 simp only[List.cons.injEq,DS.d.injEq,PyData.int.injEq,and_true] at e
 obtain⟨e1,e2⟩:=e
 obtain⟨_,rfl⟩:=DC e1
 have e2:c=c':=by omega
 subst e2
 exact⟨rfl,rfl⟩
end
def IA:List Str:=["book", "numbers", "name"]
def GE:List Str:=["number", "name", "book"]
def GF:List (Option Nat):=[none,some 2,some 0]
theorem LC:GE.Nodup:=by decide +kernel
theorem IB:FnScope IA ["book", "numbers", "name"] (AC D4):=⟨rfl,rfl,rfl,by decide +kernel,rfl,by decide +kernel,by decide +kernel⟩
section
local macro_rules | `(tactic| walk_at "cs")=>`(tactic| first | exact @KC _ _ GE GF (AC D4) IA (by decide +kernel) (by decide +kernel) rfl rfl)
local macro_rules | `(tactic| walk_at "x")=>`(tactic| first | ((with_reducible show PT _ (.Compare _ [.In] ..) _);exact @B9 _ _ _ _ _ _ _ _ (@lR _ K rfl hu) (by walk_at "e") (by walk_at "e") (by with_unfolding_all rfl)))
theorem NX {f:Addr}{fd:FuncData}(F:Fun K "asking_for" "asking_for" D4 f fd) (n_tuple:mg "tuple"=none) (h_must_stand:Has P w K mg base "must_stand" 3 ["deed"] FW):FnOk P w K mg base CX0 4 f fd ["book", "numbers", "name"] (spD K 3 JD):=by
 refine fnD F IB fun cdv A outer s H E hr=>?_
 have hu:=hr.units
 have nd:=IB.nd
 have n0:=LC
 refine⟨_,by walk_at "b1", ?_⟩
 clear nd n0
 rintro xs M hl ⟨w,A,κ,e,rfl,hg,hκ,hl60,he⟩
 walk_at "r"
 refine AI (BB 0) (by simp[GF]) ?_
 refine BC ?_
 walk_at "r"
 refine⟨by rw[DW];exact zQ hl60 (by decide),g0 A e,id,?_,?_⟩
 · intro d hd M'
   obtain⟨i,hi,rfl⟩:=zL.mp hd
   obtain⟨k,hk,rfl⟩:=ZY.mp hi
   obtain⟨l,hlk,hlm,hll,hld⟩:=CW (hκ k hk)
   have hr:=hg.real l hlm
   walk_at "dl"
   refine⟨rfl,?_⟩
   walk_at "r"
   refine AA (ds:=[wD w,AB A]) (d:=AB A) rfl ?_
   walk_at "r"
   refine AA (ds:=A.map AF) (AD hll) ?_
   walk_at "r"
   refine AA (ds:=[.str l.1,l.2.d]) (d:=l.2.d) rfl ?_
   walk_at "r"
   refine CQ (CN hr) ?_
   rw[dQ]
   refine VI (ds:=l.2.must.map .str) (DX he) (KU fun z hz=>OX hr hz) ?_
   rw[if_neg nft,dX hld]
   refine⟨_,rfl,rfl,?_,fun _=>?_⟩
   · show FE A e k=FE A e ((k:Int)).toNat
     rw[a4W]
   walk_at "r"
   exact⟨rfl,rfl⟩
 rw[XB]
 walk_at "r"
 refine J3 ?_
 refine⟨M,zT M,fun w' A' κ' e' h=>?_⟩
 simp only[List.cons.injEq,DS.d.injEq,PyData.list.injEq,and_true] at h
 obtain⟨h1,h2,h3⟩:=h
 obtain⟨_,rfl⟩:=DC h1
 obtain rfl:=ZZ h2
 obtain rfl:=aH h3
 exact⟨rfl,rfl⟩
end
def JP:List Str:=["book", "number", "line", "ahead"]
theorem EV:FnScope JP ["book", "number", "line"] (AC CG):=⟨rfl,rfl,rfl,by decide +kernel,rfl,by decide +kernel,by decide +kernel⟩
theorem JQ {f:Addr}{fd:FuncData}(F:Fun K "first_ahead_of" "first_ahead_of" CG f fd) (n_len:mg "len"=none) (h_asking_for:Has P w K mg base "asking_for" 4 ["book", "numbers", "name"] JD) (h_ended_by:Has P w K mg base "ended_by" 1 ["deed"] FV) (h_own_lines:Has P w K mg base "own_lines" 1 ["book", "common"] HK):FnOk P w K mg base CX0 5 f fd ["book", "number", "line"] (spD K 3 EB):=by
 refine fnD F EV fun cdv A outer s H E hr=>?_
 have hu:=hr.units
 have nd:=EV.nd
 refine⟨_,by walk_at "b2", ?_⟩
 clear nd
 rintro xs M hl ⟨w,A,c,l,rfl,hg,hc,hr⟩
 have hfew:=hg.few
 walk_at "r"
 refine N1 hg hc ?_
 walk_at "r"
 refine AA (ds:=[.str l.1,l.2.d]) (d:=l.2.d) rfl ?_
 walk_at "r"
 refine CQ (CN hr) ?_
 rw[Q2]
 walk_at "r"
 refine aG hg (fun k hk=>(MZ.mp hk).2) (by rw[N0];omega) (fun z hz=>JC hr hz) ?_
 walk_at "r"
 refine B3 ?_
 rw[DW]
 have fin:∀y:DS,y = .d (UB (FZ A c (BN l.2)))->∃M2:Own,M2.Sub M/\EB.post (KF w A c l) M y M2:=fun y hy=>⟨M,zT M,fun w' A' c' l' e=>by
   simp only[List.cons.injEq,DS.d.injEq,PyData.int.injEq,and_true] at e
   obtain⟨e1,e2,e3⟩:=e
   obtain⟨_,rfl⟩:=DC e1
   have e2:c=c':=by omega
   subst e2
   have e4:l=l':=(List.cons.inj (B7 (ls:=[l]) (ls':=[l']) (by simp only[zI,a5X];rw[e3]))).1
   subst e4
   exact⟨hy,rfl⟩⟩
 unfold FZ at fin
 walk_at "r"
 cases hF:(KD c A.length).filter (FE A (BN l.2)) with
 | nil=>
   rw[hF] at fin
   walk_at "r"
   exact fin _ rfl
 | cons k r=>
   rw[hF] at fin
   rw[show decide ((0:Int) < ((k::r).length:Nat))=true from decide_eq_true (by simp)]
   walk_at "r"
   refine AA (ds:=CJ (k::r)) (d:=.int (k:Int)) (AD (j:=0) (dR (c:=k::r) (i:=0) rfl)) ?_
   exact fin _ rfl
def QE:List Str:=["one", "other", "common", "i", "j", "made", "ended"]
theorem G5:FnScope QE ["one", "other", "common"] (AC ER):=⟨rfl,rfl,rfl,by decide +kernel,rfl,by decide +kernel,by decide +kernel⟩
section
local macro_rules | `(tactic| walk_at "x")=>`(tactic| first | ((with_reducible show PS _ (.Assign [.Tuple ..] (.Tuple ..) _) _);exact @gT _ _ (5) (6) _ _ _ _ _ _ _ _ _ _ _ rfl G5.nd rfl rfl (by decide) rfl rfl (by walk_at "a") rfl (by rfl)))
theorem QF {f:Addr}{fd:FuncData}(F:Fun K "same_name" "same_name" ER f fd) (h_ended_by:Has P w K mg base "ended_by" 1 ["deed"] FV) (h_made_by:Has P w K mg base "made_by" 1 ["deed"] HI) (h_own_lines:Has P w K mg base "own_lines" 1 ["book", "common"] HK):FnOk P w K mg base CX0 2 f fd ["one", "other", "common"] (spD K 3 FH):=by
 refine fnD F G5 fun cdv A outer s H E hr=>?_
 have hu:=hr.units
 have nd:=G5.nd
 refine⟨_,by walk_at "b2", ?_⟩
 clear nd
 rintro xs M hl ⟨w,A,B,c,rfl,ha,hb,hc,hc1,hc2⟩
 have fin:∀(M1:Own) (y:DS) (d:PyData),M1=M->y = .d d->(d = .none/\noName A B c∨VQ A B c d)->∃M2:Own,M2.Sub M1/\FH.post [.d (AL w A),.d (AL w B),.d (.int c)] M y M2:=fun M1 y d e1 e2 h=>⟨M,e1▸zT M,fun w' A' B' c' e=>by
   simp only[List.cons.injEq,DS.d.injEq,PyData.int.injEq,and_true] at e
   obtain⟨g1,g2,g3⟩:=e
   obtain⟨_,rfl⟩:=DC g1
   obtain⟨_,rfl⟩:=DC g2
   have g3:c=c':=by omega
   subst g3
   exact⟨rfl,d,e2,h⟩⟩
 walk_at "wks"
 refine IM (fun ρ1 M1=>M1=M/\noName A B c) ?_ ?_
 · refine GS ?_
   refine BC ?_
   walk_at "r"
   refine N1 ha hc ?_
   refine⟨_,rfl,fun k ρ1 M1=>M1=M/\(∀i,c<=i->i < c+k->∀j,c<=j->j < B.length->nOK A B i j)/\∃x y u v:Option DS,ρ1=[some (.d (AL w A)),some (.d (AL w B)),some (.d (.int (c:Nat))),x,y,u,v],⟨rfl,fun i c1 c2=>by omega,_,_,_,_,rfl⟩,?_,?_⟩
   · rintro k d ρ1 M1 hd ⟨rfl,hout,x,y,u,v,rfl⟩
     obtain⟨hi2,rfl⟩:=aN hd
     generalize hik:c+k=i at hi2 ⊢
     have hi:c<=i/\i < A.length:=by omega
     obtain⟨a,hak,ham,hal,had⟩:=CW hi.2
     have hra:=ha.real a ham
     walk_at "r"
     refine GS ?_
     refine BC ?_
     walk_at "r"
     refine N1 hb hc ?_
     refine⟨_,rfl,fun k2 ρ1 M2=>M2=M1/\(∀j,c<=j->j < c+k2->nOK A B i j)/\∃y u v:Option DS,ρ1=[some (.d (AL w A)),some (.d (AL w B)),some (.d (.int (c:Nat))),some (.d (.int (i:Nat))),y,u,v],⟨rfl,fun j c1 c2=>by omega,_,_,_,rfl⟩,?_,?_⟩
     · rintro k2 d ρ1 M2 hd2 ⟨rfl,hin,y,u,v,rfl⟩
       obtain⟨hj2,rfl⟩:=aN hd2
       generalize hjk:c+k2=j at hj2 ⊢
       have hj:c<=j/\j < B.length:=by omega
       obtain⟨b,hbk,hbm,hbl,hbd⟩:=CW hj.2
       have hrb:=hb.real b hbm
       walk_at "r"
       refine AA (ds:=[wD w,AB A]) (d:=AB A) rfl ?_
       walk_at "r"
       refine AA (ds:=A.map AF) (AD hal) ?_
       walk_at "r"
       refine AA (ds:=[.str a.1,a.2.d]) (d:=a.2.d) rfl ?_
       walk_at "r"
       refine CQ (CN hra) ?_
       rw[aE]
       walk_at "r"
       refine AA (ds:=[wD w,AB A]) (d:=AB A) rfl ?_
       walk_at "r"
       refine AA (ds:=A.map AF) (AD hal) ?_
       walk_at "r"
       refine AA (ds:=[.str a.1,a.2.d]) (d:=a.2.d) rfl ?_
       walk_at "r"
       refine CQ (CN hra) ?_
       rw[Q2]
       walk_at "r"
       refine⟨_,_,rfl,?_⟩
       walk_at "wks"
       refine IM (fun ρ1 M3=>M3=M2/\(∃g:Unit->Prop,g ()/\g=fun _=>∀x,a.2.made=some x->b.2.made≠some x)/\ρ1=[some (.d (AL w A)),some (.d (AL w B)),some (.d (.int (c:Nat))),some (.d (.int (i:Nat))),some (.d (.int (j:Nat))),some (.d (HR a.2.made)),some (.d (HR (BN a.2)))]) ?_ ?_
       · walk_at "r"
         refine MP ?_
         cases hm:a.2.made with
         | none=>
           rw[show(!BI (HR none))=false from rfl]
           walk_at "r"
           have hfact:∀x,a.2.made=some x->b.2.made≠some x:=fun x q=>by rw[hm] at q;cases q
           exact⟨rfl,⟨fun _=>∀x,a.2.made=some x->b.2.made≠some x,hfact,by rw[hm]⟩,rfl⟩
         | some z=>
           rw[show(!BI (HR (some z)))=true from rfl]
           walk_at "r"
           refine AA (ds:=[wD w,AB B]) (d:=AB B) rfl ?_
           walk_at "r"
           refine AA (ds:=B.map AF) (AD hbl) ?_
           walk_at "r"
           refine AA (ds:=[.str b.1,b.2.d]) (d:=b.2.d) rfl ?_
           walk_at "r"
           refine CQ (CN hrb) ?_
           rw[aE]
           refine AT (DX fun y hy=>N3 hra (hm.trans hy)) (DX fun y hy=>N3 hrb hy) ?_
           rw[if_neg nft,S6]
           by_cases e:some z=b.2.made
           · rw[decide_eq_true e]
             walk_at "r"
             exact fin _ _ _ rfl rfl (.inr ⟨i,j,a,b,z,hi.1,hj.1,hak,hbk,.inl ⟨rfl,hm,e.symm⟩⟩)
           · rw[decide_eq_false e]
             walk_at "r"
             have hfact:∀x,a.2.made=some x->b.2.made≠some x:=fun x q h2=>e (by rw[← hm,q,h2])
             exact⟨rfl,⟨fun _=>∀x,a.2.made=some x->b.2.made≠some x,hfact,by rw[hm]⟩,rfl⟩
       · rintro ρ1 M3 ⟨rfl,⟨g,hg1,hg2⟩,rfl⟩
         rw[hg2] at hg1
         walk_at "r"
         refine MP ?_
         cases hm:BN a.2 with
         | none=>
           rw[show(!BI (HR none))=false from rfl]
           walk_at "r"
           have hfact:∀x,BN a.2=some x->BN b.2≠some x:=fun x q=>by rw[hm] at q;cases q
           exact⟨rfl,fun j2 c1 c2=>if q:j2=j then q▸aO had hbd hg1 hfact else hin j2 c1 (by omega),_,_,_,rfl⟩
         | some z=>
           rw[show(!BI (HR (some z)))=true from rfl]
           walk_at "r"
           refine AA (ds:=[wD w,AB B]) (d:=AB B) rfl ?_
           walk_at "r"
           refine AA (ds:=B.map AF) (AD hbl) ?_
           walk_at "r"
           refine AA (ds:=[.str b.1,b.2.d]) (d:=b.2.d) rfl ?_
           walk_at "r"
           refine CQ (CN hrb) ?_
           rw[Q2]
           refine AT (DX fun y hy=>JC hra (hm.trans hy)) (DX fun y hy=>JC hrb hy) ?_
           rw[if_neg nft,S6]
           by_cases e:some z=BN b.2
           · rw[decide_eq_true e]
             walk_at "r"
             exact fin _ _ _ rfl rfl (.inr ⟨i,j,a,b,z,hi.1,hj.1,hak,hbk,.inr ⟨rfl,hm,e.symm⟩⟩)
           · rw[decide_eq_false e]
             walk_at "r"
             have hfact:∀x,BN a.2=some x->BN b.2≠some x:=fun x q h2=>e (by rw[← hm,q,h2])
             exact⟨rfl,fun j2 c1 c2=>if q:j2=j then q▸aO had hbd hg1 hfact else hin j2 c1 (by omega),_,_,_,rfl⟩
     · rintro ρ1 M2 ⟨h,hin,y,u,v,e⟩
       rw[DW,N0] at hin
       exact⟨h,fun i2 c1 c2 j c3 c4=>if q:i2=i then q▸hin j c3 (by omega) else hout i2 c1 (by omega) j c3 c4,_,y,u,v,e⟩
   · rintro ρ1 M1 ⟨h,hout,_⟩
     rw[DW,N0] at hout
     exact⟨h,e8 fun i c1 c2 j c3 c4=>hout i c1 (by omega) j c3 c4⟩
 · rintro ρ1 M1 ⟨rfl,hno⟩
   walk_at "r"
   exact fin _ _ _ rfl rfl (.inl ⟨rfl,hno⟩)
end
def XH:List Str:=["one", "other", "common", "quarrel", "lines", "here", "there", "ahead_of_here", "ahead_of_there"]
theorem EC:FnScope XH ["one", "other"] (AC JN):=⟨rfl,rfl,rfl,by decide +kernel,rfl,by decide +kernel,by decide +kernel⟩
section
local macro_rules | `(tactic| walk_at "x")=>`(tactic| first | ((with_reducible show PS _ (.Assign [.Name ..,.Name ..] ..) _);exact @jT _ (5) (6) _ _ _ _ _ _ _ EC.nd rfl rfl (by walk_at "lc") (by walk_at "lc") (by walk_at "e") (by rfl) (by rfl) (by walk_at "or") (by walk_at "or")) | ((with_reducible show PS _ (.While ..) _);exact @QT _ _ _ _ _ _ a8Z (by walk_at "t") (by walk_at "q")) | ((with_reducible show PS _ (.AugAssign ..) _);exact @SW _ _ (4) _ _ _ _ _ _ EC.nd rfl (by walk_at "lc") (by walk_at "e") (@UA _ K rfl) (by walk_at "or")) | ((with_reducible show PS _ (.AugAssign ..) _);exact @SW _ _ (5) _ _ _ _ _ _ EC.nd rfl (by walk_at "lc") (by walk_at "e") (@UA _ K rfl) (by walk_at "or")) | ((with_reducible show PS _ (.AugAssign ..) _);exact @SW _ _ (6) _ _ _ _ _ _ EC.nd rfl (by walk_at "lc") (by walk_at "e") (@UA _ K rfl) (by walk_at "or")))
theorem XJ {f:Addr}{fd:FuncData}(F:Fun K "joined" "joined" JN f fd) (n_len:mg "len"=none) (h_first_ahead_of:Has P w K mg base "first_ahead_of" 5 ["book", "number", "line"] EB) (h_same_name:Has P w K mg base "same_name" 2 ["one", "other", "common"] FH) (h_shared:Has P w K mg base "shared" 2 ["one", "other"] DD):FnOk P w K mg base CX0 6 f fd ["one", "other"] (spD K 2 DH):=by
 refine fnD F EC fun cdv A outer s H E hr=>?_
 have hu:=hr.units
 have nd:=EC.nd
 refine⟨_,by walk_at "b2", ?_⟩
 clear nd
 rintro xs M hl ⟨w,A,B,rfl,⟨hw,ha,hb⟩,bA,bB⟩
 have hA:=ha.few
 have hB:=hb.few
 obtain⟨l1,l2,l3⟩:=JB A B
 have fin:∀(M1:Own) (y:DS) (d:PyData),M1=M->y = .d d->jX w A B d->∃M2:Own,M2.Sub M1/\DH.post (b2X w A B) M y M2:=fun M1 y d e1 e2 h=>⟨M,e1▸zT M,fun w' A' B' e=>by
   obtain⟨ew,rfl,rfl⟩:=aD e
   obtain rfl:=jQ ew
   exact⟨rfl,d,e2,h⟩⟩
 walk_at "r"
 refine KS ⟨hw,ha,hb⟩ ?_
 walk_at "r"
 refine SE ha hb (by omega) l1 l2 fun d hd=>?_
 walk_at "r"
 refine MP ?_
 rcases hd with ⟨rfl,hno⟩ | hd
 case inr=>
   have hnn:(!BI d)=true:=by obtain⟨i,j,a,b,x,_,_,_,_,⟨rfl,_⟩ | ⟨rfl,_⟩⟩:=hd <;> rfl
   rw[hnn]
   walk_at "r"
   exact fin _ _ _ rfl rfl (.inr ⟨d,rfl,.inl hd⟩)
 rw[show(!BI PyData.none)=false from rfl]
 walk_at "r"
 refine AA (ds:=[wD w,AB A]) (d:=AB A) rfl ?_
 walk_at "r"
 refine AS ?_
 rw[K7,← a5V]
 walk_at "r"
 refine jU ?_
 walk_at "r"
 refine S5 (fun m ρ1 M1=>∃(h t:Nat) (C:List Ln) (x y:Option DS),M1=M/\AO A B<=h/\AO A B<=t/\h<=A.length/\t<=B.length/\MI (B8 w) A B (AO A B) h t C/\m=(A.length - h)+(B.length - t)/\ρ1=[some (.d (AL w A)),some (.d (AL w B)),some (.d (.int (AO A B:Nat))),some (.d .none),some (.d (.tuple (C.map AF))),some (.d (.int (h:Nat))),some (.d (.int (t:Nat))),x,y]) ⟨_,AO A B,AO A B,A.take (AO A B),_,_,rfl,zR _,zR _,l1,l2,MI.base bA l1 l3,rfl,rfl⟩ ?_
 rintro n ρ1 M1 ⟨h,t,C,x,y,rfl,h1,h2,h3,h4,m,rfl,rfl⟩
 have hCl:=m.len
 walk_at "r"
 refine AA (ds:=[wD w,AB A]) (d:=AB A) rfl ?_
 walk_at "r"
 refine B3 ?_
 rw[zX]
 walk_at "r"
 by_cases hc:h < A.length
 case neg=>
   rw[decide_eq_false (show ¬((h:Nat):Int) < (A.length:Int) by omega),if_neg nft]
   rw[if_neg nft]
   walk_at "r"
   refine AA (ds:=[wD w,AB A]) (d:=wD w) rfl ?_
   walk_at "r"
   refine AA (ds:=[wD w,AB A]) (d:=AB A) rfl ?_
   walk_at "r"
   refine AS ?_
   rw[CA]
   refine J6 (by rw[a0K,zX,zX];exact zN (show _<=200 by omega) (by decide)) ?_
   walk_at "r"
   refine AA (ds:=[wD w,AB B]) (d:=AB B) rfl ?_
   walk_at "r"
   refine AS ?_
   rw[CA]
   refine J6 (by rw[yY,a0K,zX,zX,a0K,zX];exact zN (show _<=300 by omega) (by decide)) ?_
   walk_at "r"
   exact fin _ _ _ rfl rfl (.inl ⟨C++A.drop h++B.drop t,by unfold VN AL;rw[xH,xH,a3X,a3X],m.all bA bB l3 hno h1 h2 h3 h4 (.inl (by omega)),hno⟩)
 rw[decide_eq_true (show((h:Nat):Int) < (A.length:Int) by omega),if_pos rfl]
 walk_at "r"
 refine AA (ds:=[wD w,AB B]) (d:=AB B) rfl ?_
 walk_at "r"
 refine B3 ?_
 rw[zX]
 walk_at "r"
 by_cases hc2:t < B.length
 case neg=>
   rw[decide_eq_false (show ¬((t:Nat):Int) < (B.length:Int) by omega),if_neg nft]
   walk_at "r"
   refine AA (ds:=[wD w,AB A]) (d:=wD w) rfl ?_
   walk_at "r"
   refine AA (ds:=[wD w,AB A]) (d:=AB A) rfl ?_
   walk_at "r"
   refine AS ?_
   rw[CA]
   refine J6 (by rw[a0K,zX,zX];exact zN (show _<=200 by omega) (by decide)) ?_
   walk_at "r"
   refine AA (ds:=[wD w,AB B]) (d:=AB B) rfl ?_
   walk_at "r"
   refine AS ?_
   rw[CA]
   refine J6 (by rw[yY,a0K,zX,zX,a0K,zX];exact zN (show _<=300 by omega) (by decide)) ?_
   walk_at "r"
   exact fin _ _ _ rfl rfl (.inl ⟨C++A.drop h++B.drop t,by unfold VN AL;rw[xH,xH,a3X,a3X],m.all bA bB l3 hno h1 h2 h3 h4 (.inr (by omega)),hno⟩)
 rw[decide_eq_true (show((t:Nat):Int) < (B.length:Int) by omega),if_pos rfl]
 obtain⟨a,hak,ham,hal,had⟩:=CW hc
 obtain⟨b,hbk,hbm,hbl,hbd⟩:=CW hc2
 have enA:enN (dsL A) h=BN a.2:=by unfold enN;rw[had];rfl
 have enB:enN (dsL B) t=BN b.2:=by unfold enN;rw[hbd];rfl
 walk_at "r"
 refine AA (ds:=[wD w,AB A]) (d:=AB A) rfl ?_
 walk_at "r"
 refine AA (ds:=A.map AF) (AD hal) ?_
 walk_at "r"
 refine JE (l:=a) hb (by omega) (ha.real a ham) ?_
 walk_at "r"
 refine AA (ds:=[wD w,AB B]) (d:=AB B) rfl ?_
 walk_at "r"
 refine AA (ds:=B.map AF) (AD hbl) ?_
 walk_at "r"
 refine JE (l:=b) ha (by omega) (hb.real b hbm) ?_
 walk_at "r"
 refine VD ?_
 cases hB1:FZ B t (BN a.2) with
 | none=>
   have m2:=m.step bA l3 hno h1 h2 hak fun x e j hj=>N9 hb.real hB1 x (enA.symm.trans e) j hj
   rw[show BI (UB none)=true from rfl]
   walk_at "r"
   refine Q1 ⟨_,rfl,?_⟩
   walk_at "r"
   refine AA (ds:=[wD w,AB A]) (d:=AB A) rfl ?_
   walk_at "r"
   refine AA (ds:=A.map AF) (AD hal) ?_
   walk_at "r"
   refine VP (by simp;exact zN (show _<=200 by omega) (by decide)) ?_
   walk_at "r"
   refine Q1 ⟨_,rfl,?_⟩
   walk_at "r"
   refine VO ?_
   refine⟨_,?_,h+1,t,C++[a],_,_,rfl,by omega,by omega,by omega,by omega,m2,rfl,by rw[xH];rfl⟩
   omega
 | some k=>
   rw[show BI (UB (some k))=false from rfl]
   walk_at "r"
   refine VD ?_
   cases hA1:FZ A h (BN b.2) with
   | none=>
     have m2:=(m.swap.step bB l3.symm hno.swap h2 h1 hbk fun x e j hj=>N9 ha.real hA1 x (enB.symm.trans e) j hj).swap
     rw[show BI (UB none)=true from rfl]
     walk_at "r"
     refine Q1 ⟨_,rfl,?_⟩
     walk_at "r"
     refine AA (ds:=[wD w,AB B]) (d:=AB B) rfl ?_
     walk_at "r"
     refine AA (ds:=B.map AF) (AD hbl) ?_
     walk_at "r"
     refine VP (by simp;exact zN (show _<=200 by omega) (by decide)) ?_
     walk_at "r"
     refine Q1 ⟨_,rfl,?_⟩
     walk_at "r"
     refine VO ?_
     refine⟨_,?_,h,t+1,C++[b],_,_,rfl,by omega,by omega,by omega,by omega,m2,rfl,by rw[xH];rfl⟩
     omega
   | some i=>
     rw[show BI (UB (some i))=false from rfl]
     obtain⟨k1,b',y2,k2,k3,k4⟩:=S7 hB1
     obtain⟨i1,a',x2,i2,i3,i4⟩:=S7 hA1
     walk_at "r"
     exact fin _ _ _ rfl rfl (.inr ⟨_,rfl,.inr ⟨i,t,k,h,a',b,b',a,x2,y2,rfl,h1,i1,h2,k1,i2,hbk,k2,hak,i3,i4,k3,k4⟩⟩)
end
def F4:List Str:=["_law_pack", "_law_amount", "_law_letters", "_law_turn", "_law_pick", "_law_size"]
def GG:List Str:=["_law_k", "_law_letters"]
def GH:List (Option Nat):=[none,some 2]
theorem LD:GG.Nodup:=by decide +kernel
def GI:List Str:=["_law_k", "_law_letters", "_law_size"]
def DZ:List (Option Nat):=[none,some 2,some 5]
theorem LE:GI.Nodup:=by decide +kernel
theorem IC:FnScope F4 ["_law_pack", "_law_amount"] (AC CH):=⟨rfl,rfl,rfl,by decide +kernel,rfl,by decide +kernel,by decide +kernel⟩
section
local macro_rules | `(tactic| walk_at "cs")=>`(tactic| first | exact @KC _ _ GG GH (AC CH) F4 (by decide +kernel) (by decide +kernel) rfl rfl | exact @KC _ _ GI DZ (AC CH) F4 (by decide +kernel) (by decide +kernel) rfl rfl)
local macro_rules | `(tactic| walk_at "x")=>`(tactic| first | ((with_reducible show PE _ (.BinOp _ .Mult ..) _);exact @EE _ _ _ _ _ _ _ _ (@lL _ K rfl) (by walk_at "e") (by walk_at "e")))
theorem NY {f:Addr}{fd:FuncData}(F:Fun K "_law_names" "_law_names" CH f fd) (n_range:mg "range"=none) (h__law_take:Has P w K mg base "_law_take" 1 ["_law_pack", "_law_size"] B5):FnOk P w K mg base CX0 2 f fd ["_law_pack", "_law_amount"] (spD K 2 CS):=by
 refine fnD F IC fun cdv A outer s H E hr=>?_
 have hu:=hr.units
 have nd:=IC.nd
 have n0:=LD
 have n1:=LE
 refine⟨_,by walk_at "b2", ?_⟩
 clear nd n0 n1
 rintro xs M hl ⟨p,n,o,rfl,m,ho,hn0,hn1⟩
 obtain⟨N,rfl⟩:∃N:Nat,n=(N:Int):=⟨n.toNat,by omega⟩
 have hlz:((a0Q "abcdefghijklmnopqrstuvwxyz"):Str).length<=sizeLine:=by rw[GT];decide
 walk_at "r"
 refine AW m ho (by decide) (by decide) fun v1 o1 hv0 hv1 ho1=>?_
 obtain⟨t,rfl⟩:∃t:Nat,v1=(t:Int):=⟨v1.toNat,by omega⟩
 walk_at "r"
 refine J7 hlz ?_
 walk_at "r"
 refine J7 hlz ?_
 refine MG (zN (Nat.add_le_add (OQ _ _ _ (Nat.le_of_eq GT)) (OQ _ _ _ (Nat.le_of_eq GT))) (by decide)) ?_
 have hRl:TK (a0V (a0Q "abcdefghijklmnopqrstuvwxyz") (some (t:Int)) none++a0V (a0Q "abcdefghijklmnopqrstuvwxyz") none (some (t:Int))):=by
   refine MN (fun c hc=>?_) (fun c hc=>?_)
   · rw[FT] at hc;exact MJ c (a5W hc)
   · exact MJ c (WO hc)
 have hRn:(a0V (a0Q "abcdefghijklmnopqrstuvwxyz") (some (t:Int)) none++a0V (a0Q "abcdefghijklmnopqrstuvwxyz") none (some (t:Int))).cps.toList.length=26:=by
   rw[AQ,yY,FT,FQ,a0K,a1Q,← K6,Z1];exact jL (xQ (Int.ofNat_lt.mp hv1))
 have hRd:(a0V (a0Q "abcdefghijklmnopqrstuvwxyz") (some (t:Int)) none++a0V (a0Q "abcdefghijklmnopqrstuvwxyz") none (some (t:Int))).cps.toList.Nodup:=by
   rw[AQ,FT,FQ];exact X0 t
 have hRrun:Run (a0V (a0Q "abcdefghijklmnopqrstuvwxyz") (some (t:Int)) none++a0V (a0Q "abcdefghijklmnopqrstuvwxyz") none (some (t:Int))).cps.toList:=by
   rw[AQ,FT,FQ];exact jP (ZK t (by omega))
 revert hRl hRn hRd hRrun
 generalize a0V (a0Q "abcdefghijklmnopqrstuvwxyz") (some (t:Int)) none++a0V (a0Q "abcdefghijklmnopqrstuvwxyz") none (some (t:Int))=R
 intro hRl hRn hRd hRrun
 have hRz:R.length<=sizeLine:=by
   have:R.length=R.cps.toList.length:=by simp[Str.length]
   rw[this,hRn];decide
 have hRat:∀k:Nat,k < 26->∃c,atI R.cps.toList (k:Int)=some c/\J8 c=true:=fun k hk=>by
   have hk':k < R.cps.toList.length:=by rw[hRn];exact hk
   exact⟨R.cps.toList[k],AD (zV hk'),hRl _ (b2V hk')⟩
 walk_at "r"
 refine AW zU ho1 (by decide) (by decide) fun v2 o2 _ _ ho2=>?_
 rw[yI]
 walk_at "r"
 refine AW zU ho2 (by decide) (by decide) fun v3 o3 h30 h31 ho3=>?_
 rw[yI]
 obtain⟨s3,rfl⟩:∃s3:Nat,v3=(s3:Int):=⟨v3.toNat,by omega⟩
 have hmid:TK (a0V R (some 3) (some (3+(s3:Int))))/\(a0V R (some 3) (some (3+(s3:Int)))).cps.toList.length<=7/\Run (a0V R (some 3) (some (3+(s3:Int)))).cps.toList:=by
   have e:(a0V R (some 3) (some (3+(s3:Int)))).cps.toList=(R.cps.toList.take (3+s3)).drop 3:=WS R 3 (3+s3)
   refine⟨fun c hc=>?_,?_,?_⟩
   · rw[e] at hc;exact hRl c (a2Z (a5W hc))
   · rw[e,a0K,a1Q];exact jM (Nat.le_of_lt_succ (Int.ofNat_lt.mp h31))
   · rw[e];exact(hRrun.take _).drop _
 have hids:(BK 0 N).length=N:=by simp[BK]
 have hN:N<=26:=Int.ofNat_le.mp hn1
 have hsz:(BK 0 N).length < sizeLine:=by rw[hids];exact zQ hN (by decide)
 have fin:∀(g:PyData->PyData),(∀k:Nat,k < N->∃z,g (.int k) = .str z/\AJ z/\z∉L7)->(∀i j:Nat,i < N->j < N->g (.int i)=g (.int j)->i=j)->∃ys:List Str,((BK 0 N).filter fun _=>true).map g=ys.map .str/\ys.length=N/\(∀z∈ys,AJ z/\z∉L7)/\ys.Nodup:=fun g hg hi=>by
   rw[flt]
   refine⟨(a1X N).map fun(k:Nat)=>OR (g (.int (k:Int))),?_,by simp,?_,?_⟩
   · unfold BK
     rw[zD,zD]
     apply yM
     intro k hk
     obtain⟨z,e,_⟩:=hg k (List.mem_range.mp hk)
     show g (.int (0+(k:Int))) = .str (OR (g (.int k)))
     rw[Int.zero_add,e];rfl
   · intro z hz
     obtain⟨k,hk,rfl⟩:=zL.mp hz
     obtain⟨z,e,h⟩:=hg k (List.mem_range.mp hk)
     rw[e];exact h
   · refine nodup_range fun i j h1 h2 e=>hi i j h1 h2 ?_
     obtain⟨z1,e1,_⟩:=hg i h1
     obtain⟨z2,e2,_⟩:=hg j h2
     rw[e1,e2] at e ⊢
     exact congrArg a0W e
 walk_at "r"
 refine AT rfl rfl ?_
 rw[if_neg nft]
 walk_at "r"
 refine kY (fun h=>?_) (fun h=>?_)
 · walk_at "r"
   refine AI (BB 0) (by simp[GH]) ?_
   refine LN ?_
   walk_at "r"
   refine⟨by omega,by omega,?_⟩
   rw[a4W]
   have hel:∀k:Nat,k < N->∃c,atI R.cps.toList ((k:Int)/8)=some c/\J8 c=true:=fun k hk=>hRat (k/8) (TJ hk hN)
   refine⟨hsz,fun _=>true,nmA R,?_,?_⟩
   · intro d hd M'
     obtain⟨k,hk,rfl⟩:=zL.mp hd
     obtain⟨c,e1,e2⟩:=hel k (List.mem_range.mp hk)
     rw[Int.zero_add]
     walk_at "dl"
     refine⟨rfl,?_⟩
     walk_at "dl"
     refine⟨rfl,rfl,fun _=>?_⟩
     walk_at "r"
     refine PK hRz e1 ?_
     walk_at "r"
     refine jJ (IN _).1 (IN _).2.1 (by show 1<=1000;decide) ?_
     exact⟨by rw[PV e1],rfl⟩
   · have iA:∀i j:Nat,i < N->j < N->(nmA R) (.int i)=(nmA R) (.int j)->i=j:=fun i j h1 h2 e=>by
       obtain⟨c1,q1,_⟩:=hel i h1
       obtain⟨c2,q2,_⟩:=hel j h2
       rw[PV q1,PV q2] at e
       have e':L6 ⟨#[c1]⟩ (1+(i:Int) % 8)=L6 ⟨#[c2]⟩ (1+(j:Int) % 8):=by injection e
       obtain⟨hcc,hmn⟩:=dG (IN _).1 (IN _).1 e'
       subst hcc
       have hq:=MU (i:=i/8) (j:=j/8) hRd q1 q2 (by rw[hRn];exact TJ h1 hN) (by rw[hRn];exact TJ h2 hN)
       exact lN hmn hq
     have hA:∀k:Nat,k < N->∃z,(nmA R) (.int k) = .str z/\AJ z/\z∉L7:=fun k hk=>by
       obtain⟨c,q1,q2⟩:=hel k hk
       have hz:=PP (c:=c) (n:=1+(k:Int) % 8) (IN k).1
       refine⟨L6 ⟨#[c]⟩ (1+(k:Int) % 8),PV q1,?_,dD hz⟩
       refine MM (fun d hd=>?_) ?_ ?_
       · rw[hz] at hd;rw[b6K hd];exact q2
       · rw[hz,a9Z];exact(IN k).2.2.1
       · rw[hz,a9Z];exact(IN k).2.2.2
     obtain⟨ys,e1,e2,e3,e4⟩:=fin (nmA R) hA iA
     rw[e1]
     refine⟨_,zT _,fun p' n' e=>?_⟩
     cases e
     exact⟨ys,o3,rfl,by rw[e2],fun z hz=>(e3 z hz).1,fun z hz=>(e3 z hz).2,e4,ho3,rfl⟩
 · walk_at "r"
   refine AT rfl rfl ?_
   rw[if_neg nft]
   walk_at "r"
   have hel:∀k:Nat,k < N->∃c,atI R.cps.toList (k:Int)=some c/\J8 c=true:=fun k hk=>hRat k (zP hk hN)
   have hszs:∀c:Nat,(⟨#[c]⟩:Str).length+(a0V R (some 3) (some (3+(s3:Int)))).length<=sizeLine:=fun c=>by
     have:(a0V R (some 3) (some (3+(s3:Int)))).length=(a0V R (some 3) (some (3+(s3:Int)))).cps.toList.length:=by simp[Str.length]
     rw[this]
     exact zN (Nat.add_le_add (zR 1) hmid.2.1) (by decide)
   refine kY (fun h2=>?_) (fun h2=>?_)
   · walk_at "r"
     refine AI (BB 0) (by simp[DZ]) ?_
     refine LN ?_
     walk_at "r"
     refine⟨by omega,by omega,?_⟩
     rw[a4W]
     refine⟨hsz,fun _=>true,nmB R (a0V R (some 3) (some (3+(s3:Int)))),?_,?_⟩
     · intro d hd M'
       obtain⟨k,hk,rfl⟩:=zL.mp hd
       obtain⟨c,e1,e2⟩:=hel k (List.mem_range.mp hk)
       rw[Int.zero_add]
       walk_at "dl"
       refine⟨rfl,?_⟩
       walk_at "dl"
       refine⟨rfl,rfl,fun _=>?_⟩
       walk_at "r"
       refine PK hRz e1 ?_
       walk_at "r"
       refine J7 hRz ?_
       refine MG (hszs c) ?_
       exact⟨by rw[PX e1],rfl⟩
     · have iB:∀i j:Nat,i < N->j < N->(nmB R (a0V R (some 3) (some (3+(s3:Int))))) (.int i)=(nmB R (a0V R (some 3) (some (3+(s3:Int))))) (.int j)->i=j:=fun i j h1 h2 e=>by
         obtain⟨c1,q1,_⟩:=hel i h1
         obtain⟨c2,q2,_⟩:=hel j h2
         rw[PX q1,PX q2] at e
         have e':(⟨#[c1]⟩:Str)++a0V R (some 3) (some (3+(s3:Int)))=⟨#[c2]⟩++a0V R (some 3) (some (3+(s3:Int))):=by injection e
         have hc:=ZL e'
         subst hc
         exact MU hRd q1 q2 (by rw[hRn];exact zP h1 hN) (by rw[hRn];exact zP h2 hN)
       have hB:∀k:Nat,k < N->∃z,(nmB R (a0V R (some 3) (some (3+(s3:Int))))) (.int k) = .str z/\AJ z/\z∉L7:=fun k hk=>by
         obtain⟨c,q1,q2⟩:=hel k hk
         refine⟨_,PX q1,?_,dE (c:=c) (by rw[AQ];rfl) hmid.2.2⟩
         refine MM (MN (RJ q2) hmid.1) ?_ ?_
         · rw[AQ,yY];exact b3X 1 _
         · rw[AQ,yY];exact a6Z hmid.2.1 1
       obtain⟨ys,e1,e2,e3,e4⟩:=fin (nmB R (a0V R (some 3) (some (3+(s3:Int))))) hB iB
       rw[e1]
       refine⟨_,zT _,fun p' n' e=>?_⟩
       cases e
       exact⟨ys,o3,rfl,by rw[e2],fun z hz=>(e3 z hz).1,fun z hz=>(e3 z hz).2,e4,ho3,rfl⟩
   · walk_at "r"
     refine AI (BB 0) (by simp[DZ]) ?_
     refine LN ?_
     walk_at "r"
     refine⟨by omega,by omega,?_⟩
     rw[a4W]
     refine⟨hsz,fun _=>true,nmC R (a0V R (some 3) (some (3+(s3:Int)))),?_,?_⟩
     · intro d hd M'
       obtain⟨k,hk,rfl⟩:=zL.mp hd
       obtain⟨c,e1,e2⟩:=hel k (List.mem_range.mp hk)
       rw[Int.zero_add]
       walk_at "dl"
       refine⟨rfl,?_⟩
       walk_at "dl"
       refine⟨rfl,rfl,fun _=>?_⟩
       walk_at "r"
       refine J7 hRz ?_
       walk_at "r"
       refine PK hRz e1 ?_
       refine MG (by rw[Nat.add_comm];exact hszs c) ?_
       exact⟨by rw[PY e1],rfl⟩
     · have iC:∀i j:Nat,i < N->j < N->(nmC R (a0V R (some 3) (some (3+(s3:Int))))) (.int i)=(nmC R (a0V R (some 3) (some (3+(s3:Int))))) (.int j)->i=j:=fun i j h1 h2 e=>by
         obtain⟨c1,q1,_⟩:=hel i h1
         obtain⟨c2,q2,_⟩:=hel j h2
         rw[PY q1,PY q2] at e
         have e':a0V R (some 3) (some (3+(s3:Int)))++(⟨#[c1]⟩:Str)=a0V R (some 3) (some (3+(s3:Int)))++⟨#[c2]⟩:=by injection e
         have hc:=ZM e'
         subst hc
         exact MU hRd q1 q2 (by rw[hRn];exact zP h1 hN) (by rw[hRn];exact zP h2 hN)
       have hC:∀k:Nat,k < N->∃z,(nmC R (a0V R (some 3) (some (3+(s3:Int))))) (.int k) = .str z/\AJ z/\z∉L7:=fun k hk=>by
         obtain⟨c,q1,q2⟩:=hel k hk
         refine⟨_,PY q1,?_,dF (c:=c) (by rw[AQ]) hmid.2.2⟩
         refine MM (MN hmid.1 (RJ q2)) ?_ ?_
         · rw[AQ,yY];exact Nat.le_add_left 1 _
         · rw[AQ,yY];exact b3K hmid.2.1 1
       obtain⟨ys,e1,e2,e3,e4⟩:=fin (nmC R (a0V R (some 3) (some (3+(s3:Int))))) hC iC
       rw[e1]
       refine⟨_,zT _,fun p' n' e=>?_⟩
       cases e
       exact⟨ys,o3,rfl,by rw[e2],fun z hz=>(e3 z hz).1,fun z hz=>(e3 z hz).2,e4,ho3,rfl⟩
end
def NZ:List Str:=["_law_cell"]
theorem ID:FnScope NZ ["_law_cell"] (AC E5):=⟨rfl,rfl,rfl,by decide +kernel,rfl,by decide +kernel,by decide +kernel⟩
section
local macro_rules | `(tactic| walk_at "x")=>`(tactic| first | ((with_reducible show PE _ (.BinOp _ .Mult ..) _);exact @EE _ _ _ _ _ _ _ _ (@lL _ K rfl) (by walk_at "e") (by walk_at "e")))
theorem O0 {f:Addr}{fd:FuncData}(F:Fun K "_law_mixed" "_law_mixed" E5 f fd):FnOk P w K mg base CX0 1 f fd ["_law_cell"] (spD K 1 BM):=by
 refine fnD F ID fun cdv A outer s H E hr=>?_
 have hu:=hr.units
 have nd:=ID.nd
 refine⟨_,by walk_at "b1", ?_⟩
 clear nd
 rintro xs M hl ⟨c,rfl,hc⟩
 walk_at "r"
 refine Z3 (dN hc) ?_
 walk_at "r"
 exact⟨M,zT M,rfl,_,rfl⟩
end
def QG:List Str:=["_law_pack", "_law_size", "_law_digit"]
theorem JR:FnScope QG ["_law_pack", "_law_size"] (AC ES):=⟨rfl,rfl,rfl,by decide +kernel,rfl,by decide +kernel,by decide +kernel⟩
section
local macro_rules | `(tactic| walk_at "x")=>`(tactic| first | ((with_reducible show PS _ (.Assign [.Tuple ..] ..) _);exact @LV _ _ _ _ _ _ (by walk_at "e") (by walk_at "g") (by rfl) (by rfl) (by rfl)) | ((with_reducible show PG _ (.Tuple ..) _);exact @RN _ K _ _ _ _ (2) rfl rfl (by walk_at "j") (by rfl) (by rfl)) | ((with_reducible show PG _ (.Subscript ..) _);exact @gS _ _ _ _ _ _ _ (by walk_at "e") (by walk_at "e") (@XX _) (by intro _;rfl)))
theorem QH {f:Addr}{fd:FuncData}(F:Fun K "_law_take" "_law_take" ES f fd) (n_divmod:mg "divmod"=none):FnOk P w K mg base CX0 1 f fd ["_law_pack", "_law_size"] (spD K 2 B5):=by
 refine fnD F JR fun cdv A outer s H E hr=>?_
 have hu:=hr.units
 have nd:=JR.nd
 refine⟨_,by walk_at "b2", ?_⟩
 clear nd
 rintro xs M hl ⟨p,size,o,rfl,m,⟨v,rfl⟩,h0,h1⟩
 walk_at "dl"
 refine FS ?_
 walk_at "r"
 refine WR h0 h1 ?_
 walk_at "r"
 refine⟨_,zT _,fun p' size' e=>?_⟩
 cases e
 exact⟨_,_,rfl,Int.emod_nonneg _ (by omega),Int.emod_lt_of_pos _ h0,⟨_,rfl⟩,rfl⟩
end
def JS:List Str:=["_law_pack", "_law_some", "_law_spare", "_law_kind", "_law_place", "_law_number", "_law_one", "_law_others"]
def HC:List Str:=["_law_name", "_law_one"]
def HD:List (Option Nat):=[none,some 6]
theorem NI:HC.Nodup:=by decide +kernel
theorem JT:FnScope JS ["_law_pack", "_law_some", "_law_spare"] (AC DY):=⟨rfl,rfl,rfl,by decide +kernel,rfl,by decide +kernel,by decide +kernel⟩
section
local macro_rules | `(tactic| walk_at "cs")=>`(tactic| first | exact @KC _ _ HC HD (AC DY) JS (by decide +kernel) (by decide +kernel) rfl rfl)
local macro_rules | `(tactic| walk_at "x")=>`(tactic| first | ((with_reducible show PT _ (.Compare _ [.In] ..) _);exact @B9 _ _ _ _ _ _ _ _ (@kIn _ K rfl) (by walk_at "e") (by walk_at "e") (by with_unfolding_all rfl)))
theorem QJ {f:Addr}{fd:FuncData}(F:Fun K "_law_deed" "_law_deed" DY f fd) (n_int:mg "int"=none) (n_len:mg "len"=none) (h__law_take:Has P w K mg base "_law_take" 1 ["_law_pack", "_law_size"] B5):FnOk P w K mg base CX0 2 f fd ["_law_pack", "_law_some", "_law_spare"] (spD K 3 DU):=by
 refine fnD F JT fun cdv A outer s H E hr=>?_
 have hu:=hr.units
 have nd:=JT.nd
 have n0:=NI
 refine⟨_,by walk_at "b2", ?_⟩
 clear nd n0
 rintro xs M hl ⟨p,o,so,sp,rfl,m,ho,hno,hne0⟩
 have nd2:∀{z:Str},z∈so->z∉sp:=fun {z} h1 h2=>(List.nodup_append.mp hno.2.1).2.2 z h1 z h2 rfl
 walk_at "r"
 refine C8 ?_
 walk_at "r"
 refine AW m ho (by decide) (by decide) fun v1 o1 a0 a1 ho1=>?_
 obtain⟨kd,ekd,hkd⟩:=LQ (ys:=FX) a0 a1
 refine DJ (d:=.str kd) ekd ?_
 walk_at "r"
 refine AW zU ho1 (by decide) (by decide) fun pl o2 p0 p1 ho2=>?_
 rw[yI]
 walk_at "r"
 refine AW zU ho2 (by decide) (by decide) fun v3 o3 c0 c1 ho3=>?_
 rw[yI]
 walk_at "wks"
 refine IM (fun ρ1 M1=>∃(kd:Str),kd∈FX/\(kd=a0Q "put" ∨ kd=a0Q "name" ∨ kd=a0Q "split" -> sp≠[])/\(kd≠a0Q "put" -> so≠[])/\M1=M.put p o3/\ρ1=[some (.loc p),some (.d (AN so)),some (.d (AN sp)),some (.d (.str kd)),some (.d (.int pl)),some (.d (.int (v3 - 20))),none,none]) ?_ ?_
 · have hs1:zH (AN so)=true:=CV fun z hz=>hno.1 z (by simp[hz])
   have hs2:zH (AN sp)=true:=CV fun z hz=>hno.1 z (by simp[hz])
   have fin:∀b:Bool,sp.isEmpty=b->∃k2:Str,atI [a0W (a0Q "put"),.str (a0Q "move")] (if b then 1 else 0)=some (.str k2)/\k2∈FX/\((b=false/\k2=a0Q "put")∨(b=true/\k2=a0Q "move")):=fun b _=>by
     cases b with
     | true=>exact⟨"move", rfl,by simp[FX],.inr ⟨rfl,rfl⟩⟩
     | false=>exact⟨"put", rfl,by simp[FX],.inl ⟨rfl,rfl⟩⟩
   walk_at "wkd"
   refine AT hs1 rfl ?_
   rw[if_neg nft,CB]
   cases hso:so.isEmpty with
   | true=>
     have so0:so=[]:=List.isEmpty_iff.mp hso
     have sp0:sp≠[]:=hne0.resolve_left fun q=>q so0
     have spe:sp.isEmpty=false:=by cases sp with | nil=>exact absurd rfl sp0 | cons _ _=>rfl
     walk_at "r"
     refine C8 ?_
     walk_at "wkd"
     refine AT hs2 rfl ?_
     rw[if_neg nft,CB,spe]
     walk_at "r"
     refine DJ (d:=.str (a0Q "put")) rfl ?_
     exact⟨"put", by simp[FX],fun _=>sp0,fun q=>absurd rfl q,rfl,rfl⟩
   | false=>
     have so1:so≠[]:=fun q=>by rw[q] at hso;cases hso
     walk_at "wkd"
     refine AT hs2 rfl ?_
     rw[if_neg nft,CB]
     cases hsp:sp.isEmpty with
     | false=>
       have sp1:sp≠[]:=fun q=>by rw[q] at hsp;cases hsp
       walk_at "r"
       exact⟨kd,hkd,fun _=>sp1,fun _=>so1,rfl,rfl⟩
     | true=>
       walk_at "r"
       refine C8 ?_
       walk_at "r"
       refine FP (ys:=["put", "name", "split"]) ?_
       cases hin:decide (kd∈[a0Q "put", "name", "split"]) with
       | false=>
         walk_at "r"
         refine⟨kd,hkd,fun q=>?_,fun _=>so1,rfl,rfl⟩
         have:=of_decide_eq_false hin
         simp only[yX,xW,or_false] at this
         exact absurd q this
       | true=>
         walk_at "r"
         refine C8 ?_
         walk_at "wkd"
         refine AT hs2 rfl ?_
         rw[if_neg nft,CB,hsp]
         walk_at "r"
         refine DJ (d:=.str (a0Q "move")) rfl ?_
         exact⟨"move", by simp[FX],fun q=>by rcases q with q | q | q <;> exact absurd q (by decide +kernel),fun _=>so1,rfl,rfl⟩
 · rintro ρ1 M1 ⟨kd,hkd,k1,k2,rfl,rfl⟩
   generalize v3 - 20=nu
   walk_at "r"
   refine AT (FC hkd) (by decide +kernel) ?_
   rw[if_neg nft,CF]
   cases e1:(kd==a0Q "put") with
   | true=>
     have ek:kd=a0Q "put" := eq_of_beq e1
     walk_at "r"
     obtain⟨s0,sr,rfl⟩:∃s0 sr,sp=s0::sr:=by
       cases sp with
       | nil=>exact absurd rfl (k1 (.inl ek))
       | cons a r=>exact⟨a,r,rfl⟩
     refine DJ (ds:=(s0::sr).map .str) (AD (j:=0) rfl) ?_
     walk_at "r"
     refine⟨_,zT _,fun p' so' sp' e=>?_⟩
     obtain⟨rfl,rfl,rfl⟩:=EO e
     exact⟨.put s0 pl nu,_,rfl,⟨fun z hz=>by simp[Deed.names] at hz;subst hz;exact hno.1 _ (by simp),trivial,⟨p0,by omega⟩⟩,DQ fun n hn=>by simp[Deed.names] at hn;subst hn;simp[Deed.made];exact fun q=>nd2 q (by simp),fun n e=>by simp[Deed.made] at e;subst e;rfl,ho3,rfl⟩
   | false=>
     have kne:kd≠a0Q "put" := fun q=>by rw[q] at e1;simp at e1
     have hso:=k2 kne
     have hsl:0 < so.length:=List.length_pos_iff.mpr hso
     have hs26:so.length<=26:=by have:=hno.2.2;rw[yY] at this;omega
     walk_at "r"
     refine V6 ?_
     rw[zX]
     walk_at "r"
     refine AW zU ho3 (by omega) (by omega) fun v4 o4 d0 d1 ho4=>?_
     rw[yI]
     obtain⟨y1,ey1,my1⟩:=LQ (ys:=so) d0 d1
     have hy1:AJ y1:=hno.1 y1 (by simp[my1])
     refine DJ ey1 ?_
     walk_at "r"
     refine AI (BB 0) (by simp[HD]) ?_
     refine BC ?_
     walk_at "r"
     refine⟨by rw[zX];exact zQ hs26 (by decide),fun d=>!a0X d (.str y1),id,?_,?_⟩
     · intro d hd M'
       obtain⟨z,hz,rfl⟩:=zL.mp hd
       walk_at "r"
       refine⟨rfl,?_⟩
       walk_at "r"
       refine AT (AK (hno.1 z (by simp[hz]))) (AK hy1) ?_
       rw[if_pos rfl]
       walk_at "r"
       refine⟨rfl,rfl,fun _=>?_⟩
       walk_at "r"
       exact⟨rfl,rfl⟩
     rw[DB]
     walk_at "r"
     refine AT (FC hkd) (by decide +kernel) ?_
     rw[if_neg nft,CF]
     cases e2:(kd==a0Q "move") with
     | true=>
       have ek:kd=a0Q "move" := eq_of_beq e2
       walk_at "r"
       refine⟨_,zT _,fun p' so' sp' e=>?_⟩
       obtain⟨rfl,rfl,rfl⟩:=EO e
       exact⟨.move y1 pl,_,rfl,⟨fun z hz=>by simp[Deed.names] at hz;subst hz;exact hy1,trivial,⟨p0,by omega⟩⟩,DQ fun n hn=>by simp[Deed.names] at hn;subst hn;simp[Deed.made,my1],fun n e=>by simp[Deed.made] at e,ho4,rfl⟩
     | false=>
       walk_at "r"
       refine AT (FC hkd) (by decide +kernel) ?_
       rw[if_neg nft,CF]
       cases e3:(kd==a0Q "take") with
       | true=>
         have ek:kd=a0Q "take" := eq_of_beq e3
         walk_at "r"
         refine⟨_,zT _,fun p' so' sp' e=>?_⟩
         obtain⟨rfl,rfl,rfl⟩:=EO e
         exact⟨.take y1,_,rfl,⟨fun z hz=>by simp[Deed.names] at hz;subst hz;exact hy1,trivial,trivial⟩,DQ fun n hn=>by simp[Deed.names] at hn;subst hn;simp[Deed.made,my1],fun n e=>by simp[Deed.made] at e,ho4,rfl⟩
       | false=>
         walk_at "r"
         refine AT (FC hkd) (by decide +kernel) ?_
         rw[if_neg nft,CF]
         cases e4:(kd==a0Q "name") with
         | true=>
           have ek:kd=a0Q "name" := eq_of_beq e4
           walk_at "r"
           obtain⟨s0,sr,rfl⟩:∃s0 sr,sp=s0::sr:=by
             cases sp with
             | nil=>exact absurd rfl (k1 (.inr (.inl ek)))
             | cons a r=>exact⟨a,r,rfl⟩
           have hne:y1≠s0:=fun q=>nd2 my1 (by rw[q];simp)
           have hs0:AJ s0:=hno.1 s0 (by simp)
           refine DJ (ds:=(s0::sr).map .str) (AD (j:=0) rfl) ?_
           walk_at "r"
           refine⟨_,zT _,fun p' so' sp' e=>?_⟩
           obtain⟨rfl,rfl,rfl⟩:=EO e
           exact⟨.name y1 s0,_,rfl,⟨fun z hz=>by simp[Deed.names] at hz;rcases hz with rfl | rfl;exact hy1;exact hs0,hne,trivial⟩,DQ fun n hn=>by simp[Deed.names] at hn;rcases hn with rfl | rfl;(simp[Deed.made,my1];exact fun q=>hne q.symm);(simp[Deed.made];exact fun q=>nd2 q (by simp)),fun n e=>by simp[Deed.made] at e;subst e;rfl,ho4,rfl⟩
         | false=>
           walk_at "r"
           refine AT (FC hkd) (by decide +kernel) ?_
           rw[if_neg nft,CF]
           cases e5:(kd==a0Q "split") with
           | true=>
             have ek:kd=a0Q "split" := eq_of_beq e5
             walk_at "r"
             obtain⟨s0,sr,rfl⟩:∃s0 sr,sp=s0::sr:=by
               cases sp with
               | nil=>exact absurd rfl (k1 (.inr (.inr ek)))
               | cons a r=>exact⟨a,r,rfl⟩
             have hne:y1≠s0:=fun q=>nd2 my1 (by rw[q];simp)
             have hs0:AJ s0:=hno.1 s0 (by simp)
             refine DJ (ds:=(s0::sr).map .str) (AD (j:=0) rfl) ?_
             walk_at "r"
             refine⟨_,zT _,fun p' so' sp' e=>?_⟩
             obtain⟨rfl,rfl,rfl⟩:=EO e
             exact⟨.split y1 s0 pl nu,_,rfl,⟨fun z hz=>by simp[Deed.names] at hz;rcases hz with rfl | rfl;exact hy1;exact hs0,hne,⟨p0,by omega⟩⟩,DQ fun n hn=>by simp[Deed.names] at hn;rcases hn with rfl | rfl;(simp[Deed.made,my1];exact fun q=>hne q.symm);(simp[Deed.made];exact fun q=>nd2 q (by simp)),fun n e=>by simp[Deed.made] at e;subst e;rfl,ho4,rfl⟩
           | false=>
             walk_at "r"
             refine AT (FC hkd) (by decide +kernel) ?_
             rw[if_neg nft,CF]
             cases e6:(kd==a0Q "join") with
             | false=>
               walk_at "r"
               refine⟨_,zT _,fun p' so' sp' e=>?_⟩
               obtain⟨rfl,rfl,rfl⟩:=EO e
               exact⟨.count y1 nu,_,rfl,⟨fun z hz=>by simp[Deed.names] at hz;subst hz;exact hy1,trivial,trivial⟩,DQ fun n hn=>by simp[Deed.names] at hn;subst hn;simp[Deed.made,my1],fun n e=>by simp[Deed.made] at e,ho4,rfl⟩
             | true=>
               walk_at "wkd"
               have hfn:∀z∈so.filter (fun z=>decide (z≠y1)),AJ z:=fun z hz=>hno.1 z (by simp[(yL.mp hz).1])
               refine AT (CV hfn) rfl ?_
               rw[if_pos rfl,show a0X (.list ((so.filter fun z=>decide (z≠y1)).map .str)) (.list [])=(so.filter fun z=>decide (z≠y1)).isEmpty from CB _]
               cases ho:(so.filter fun z=>decide (z≠y1)).isEmpty with
               | true=>
                 walk_at "r"
                 refine⟨_,zT _,fun p' so' sp' e=>?_⟩
                 obtain⟨rfl,rfl,rfl⟩:=EO e
                 exact⟨.count y1 nu,_,rfl,⟨fun z hz=>by simp[Deed.names] at hz;subst hz;exact hy1,trivial,trivial⟩,DQ fun n hn=>by simp[Deed.names] at hn;subst hn;simp[Deed.made,my1],fun n e=>by simp[Deed.made] at e,ho4,rfl⟩
               | false=>
                 have hol:0 < (so.filter fun z=>decide (z≠y1)).length:=by
                   rw[List.length_pos_iff];intro q;rw[q] at ho;cases ho
                 have hol2:(so.filter fun z=>decide (z≠y1)).length<=26:=zN (yJ _ _) hs26
                 walk_at "r"
                 refine V6 ?_
                 rw[zX]
                 walk_at "r"
                 refine AW zU ho4 (by omega) (by omega) fun v5 o5 f0 f1 ho5=>?_
                 rw[yI]
                 obtain⟨y2,ey2,my2⟩:=LQ (ys:=so.filter fun z=>decide (z≠y1)) f0 f1
                 have hy2:=hfn y2 my2
                 have hne:y1≠y2:=fun e=>by have:=(yL.mp my2).2;simp at this;exact this e.symm
                 refine DJ ey2 ?_
                 walk_at "r"
                 refine⟨_,zT _,fun p' so' sp' e=>?_⟩
                 obtain⟨rfl,rfl,rfl⟩:=EO e
                 exact⟨.join y1 y2,_,rfl,⟨fun z hz=>by simp[Deed.names] at hz;rcases hz with rfl | rfl;exact hy1;exact hy2,hne,trivial⟩,DQ fun n hn=>by simp[Deed.names] at hn;rcases hn with rfl | rfl;(simp[Deed.made,my1]);(simp[Deed.made,(yL.mp my2).1]),fun n e=>by simp[Deed.made] at e,ho5,rfl⟩
end
def F5:List Str:=["_law_deed_here", "_law_some", "_law_spare", "_law_stay", "_law_lost"]
def GJ:List Str:=["_law_name", "_law_deed_here"]
def E1:List (Option Nat):=[none,some 0]
theorem LF:GJ.Nodup:=by decide +kernel
def GK:List Str:=["_law_name", "_law_lost"]
def BQ:List (Option Nat):=[none,some 4]
theorem LG:GK.Nodup:=by decide +kernel
theorem IE:FnScope F5 ["_law_deed_here", "_law_some", "_law_spare"] (AC CI):=⟨rfl,rfl,rfl,by decide +kernel,rfl,by decide +kernel,by decide +kernel⟩
section
local macro_rules | `(tactic| walk_at "cs")=>`(tactic| first | exact @KC _ _ GJ E1 (AC CI) F5 (by decide +kernel) (by decide +kernel) rfl rfl | exact @KC _ _ GK BQ (AC CI) F5 (by decide +kernel) (by decide +kernel) rfl rfl)
local macro_rules | `(tactic| walk_at "x")=>`(tactic| first | ((with_reducible show PT _ (.Compare _ [.In] ..) _);exact @B9 _ _ _ _ _ _ _ _ (@kIn _ K rfl) (by walk_at "e") (by walk_at "e") (by with_unfolding_all rfl)) | ((with_reducible show PE _ (.Call (.Attribute _ (a0Q "get") _) ..) _);exact @J2 _ _ _ _ _ _ _ _ _ hu1 (by walk_at "e") (by walk_at "e") (by walk_at "e") (@L2.M2.mk _ _ _ _ _ _ _ rfl rfl rfl rfl)) | ((with_reducible show PE _ (.Dict ..) _);exact @LL _ _ _ _ _ (@C0 _ _ _ _ _ _ _ _ _ (by walk_at "e") (by walk_at "e") (@C0 _ _ _ _ _ _ _ _ _ (by walk_at "e") (by walk_at "e") (@J1 _ _))) rfl rfl (by simp) (by decide)))
theorem O1 {f:Addr}{fd:FuncData}(F:Fun K "_law_after" "_law_after" CI f fd):FnOk P w K mg base CX0 1 f fd ["_law_deed_here", "_law_some", "_law_spare"] (spD K 3 CT):=by
 refine fnD F IE fun cdv A outer s H E hr=>?_
 have hu:=hr.units
 have hu1:=zQ (a6Z (show 1<=64 by decide) _) hu
 have nd:=IE.nd
 have n0:=LF
 have n1:=LG
 refine⟨_,by walk_at "b2", ?_⟩
 clear nd n0 n1
 rintro xs M hl ⟨D,so,sp,rfl,hr,hno,ha⟩
 have hs26:so.length<=26:=by have:=hno.2.2;rw[yY] at this;omega
 walk_at "r"
 cases D with
 | put x pl k=>
   have hx:AJ x:=hr.1 x (by simp[Deed.names])
   rw[show Deed.d (Deed.put x pl k) = .tuple [.str (a0Q "put"),.str x,.int pl,.int k] from rfl]
   refine AA (d:=.str (a0Q "put")) (AD (j:=0) rfl) ?_
   walk_at "r"
   refine F3 (t:=true) (by decide +kernel) ?_
   walk_at "r"
   refine C8 ?_
   walk_at "r"
   refine AA (d:=.str x) (AD (j:=1) rfl) ?_
   walk_at "r"
   refine C9 (by rw[zX];exact zN (b3K hs26 1) (by decide)) ?_
   walk_at "r"
   refine BU ?_
   rw[show D9 (sp.map a0W) (some 1) none=(sp.drop 1).map .str from(CA _ 1).trans (by rw[a3X])]
   walk_at "r"
   refine⟨M,zT M,fun D' so' sp' e=>?_⟩
   obtain⟨rfl,rfl,rfl⟩:=FY (D:=Deed.put x pl k) e
   exact⟨by rw[show(.str x:PyData)=a0W x from rfl];simp[AN,CL,BX,Deed.made],rfl⟩
 | take x=>
   have hx:AJ x:=hr.1 x (by simp[Deed.names])
   rw[show Deed.d (Deed.take x) = .tuple [.str (a0Q "take"),.str x] from rfl]
   refine AA (d:=.str (a0Q "take")) (AD (j:=0) rfl) ?_
   walk_at "r"
   refine F3 (t:=false) (by decide +kernel) ?_
   walk_at "r"
   refine AA (d:=.str (a0Q "take")) (AD (j:=0) rfl) ?_
   walk_at "r"
   refine C8 ?_
   walk_at "r"
   refine FP (ys:=["name", "split"]) ?_
   rw[show decide (a0Q "take" ∈ [a0Q "name", "split"])=false from by decide +kernel]
   walk_at "r"
   refine EJ ?_
   refine EI fun q hq=>?_
   refine B2 ?_
   walk_at "r"
   refine AA (d:=.str x) (AD (j:=1) rfl) ?_
   walk_at "r"
   refine B2 ?_
   walk_at "r"
   refine AA (d:=.str x) rfl ?_
   walk_at "r"
   refine FU ?_
   refine⟨zU,yD rfl,by simp only[zI,a5X];decide +kernel,?_⟩
   rw[yG hq]
   walk_at "r"
   refine AA (d:=.str (a0Q "take")) (AD (j:=0) rfl) ?_
   walk_at "r"
   rw[show(G7 (a0Q "take") (List.map (fun k=>(a0W k.1,k.2)) [(a0Q "take", .str x),(a0Q "join", .str x)])).getD (.str (a0Q "")) = .str x from rfl]
   refine AI (BB 0) (by simp[BQ]) ?_
   refine BC ?_
   walk_at "r"
   refine⟨by rw[zX];exact zQ hs26 (by decide),fun d=>!a0X d (.str x),id,?_,?_⟩
   · intro d hd M'
     obtain⟨z,hz,rfl⟩:=zL.mp hd
     have hzn:AJ z:=hno.1 z (by simp[hz])
     walk_at "r"
     refine⟨rfl,?_⟩
     walk_at "r"
     refine AT (AK hzn) (AK hx) ?_
     rw[if_pos rfl]
     walk_at "r"
     refine⟨rfl,rfl,fun _=>?_⟩
     walk_at "r"
     exact⟨rfl,rfl⟩
   rw[DB]
   walk_at "r"
   refine⟨M,zT M,fun D' so' sp' e=>?_⟩
   obtain⟨rfl,rfl,rfl⟩:=FY (D:=Deed.take x) e
   exact⟨rfl,rfl⟩
 | move x pl=>
   have hx:AJ x:=hr.1 x (by simp[Deed.names])
   rw[show Deed.d (Deed.move x pl) = .tuple [.str (a0Q "move"),.str x,.int pl] from rfl]
   refine AA (d:=.str (a0Q "move")) (AD (j:=0) rfl) ?_
   walk_at "r"
   refine F3 (t:=false) (by decide +kernel) ?_
   walk_at "r"
   refine AA (d:=.str (a0Q "move")) (AD (j:=0) rfl) ?_
   walk_at "r"
   refine C8 ?_
   walk_at "r"
   refine FP (ys:=["name", "split"]) ?_
   rw[show decide (a0Q "move" ∈ [a0Q "name", "split"])=false from by decide +kernel]
   walk_at "r"
   refine EJ ?_
   refine EI fun q hq=>?_
   refine B2 ?_
   walk_at "r"
   refine AA (d:=.str x) (AD (j:=1) rfl) ?_
   walk_at "r"
   refine B2 ?_
   walk_at "r"
   refine AA (d:=.int pl) rfl ?_
   walk_at "r"
   refine FU ?_
   refine⟨zU,yD rfl,by simp only[zI,a5X];decide +kernel,?_⟩
   rw[yG hq]
   walk_at "r"
   refine AA (d:=.str (a0Q "move")) (AD (j:=0) rfl) ?_
   walk_at "r"
   rw[show(G7 (a0Q "move") (List.map (fun k=>(a0W k.1,k.2)) [(a0Q "take", .str x),(a0Q "join", .int pl)])).getD (.str (a0Q "")) = .str (a0Q "") from rfl]
   refine AI (BB 0) (by simp[BQ]) ?_
   refine BC ?_
   walk_at "r"
   refine⟨by rw[zX];exact zQ hs26 (by decide),fun d=>!a0X d (.str (a0Q "")),id,?_,?_⟩
   · intro d hd M'
     obtain⟨z,hz,rfl⟩:=zL.mp hd
     have hzn:AJ z:=hno.1 z (by simp[hz])
     walk_at "r"
     refine⟨rfl,?_⟩
     walk_at "r"
     refine AT (AK hzn) (by decide +kernel) ?_
     rw[if_pos rfl]
     walk_at "r"
     refine⟨rfl,rfl,fun _=>?_⟩
     walk_at "r"
     exact⟨rfl,rfl⟩
   rw[DB]
   walk_at "r"
   refine⟨M,zT M,fun D' so' sp' e=>?_⟩
   obtain⟨rfl,rfl,rfl⟩:=FY (D:=Deed.move x pl) e
   exact⟨by rw[VG fun z hz=>hno.1 z (by simp[hz])];rfl,rfl⟩
 | count x k=>
   have hx:AJ x:=hr.1 x (by simp[Deed.names])
   rw[show Deed.d (Deed.count x k) = .tuple [.str (a0Q "count"),.str x,.int k] from rfl]
   refine AA (d:=.str (a0Q "count")) (AD (j:=0) rfl) ?_
   walk_at "r"
   refine F3 (t:=false) (by decide +kernel) ?_
   walk_at "r"
   refine AA (d:=.str (a0Q "count")) (AD (j:=0) rfl) ?_
   walk_at "r"
   refine C8 ?_
   walk_at "r"
   refine FP (ys:=["name", "split"]) ?_
   rw[show decide (a0Q "count" ∈ [a0Q "name", "split"])=false from by decide +kernel]
   walk_at "r"
   refine EJ ?_
   refine EI fun q hq=>?_
   refine B2 ?_
   walk_at "r"
   refine AA (d:=.str x) (AD (j:=1) rfl) ?_
   walk_at "r"
   refine B2 ?_
   walk_at "r"
   refine AA (d:=.int k) rfl ?_
   walk_at "r"
   refine FU ?_
   refine⟨zU,yD rfl,by simp only[zI,a5X];decide +kernel,?_⟩
   rw[yG hq]
   walk_at "r"
   refine AA (d:=.str (a0Q "count")) (AD (j:=0) rfl) ?_
   walk_at "r"
   rw[show(G7 (a0Q "count") (List.map (fun k=>(a0W k.1,k.2)) [(a0Q "take", .str x),(a0Q "join", .int k)])).getD (.str (a0Q "")) = .str (a0Q "") from rfl]
   refine AI (BB 0) (by simp[BQ]) ?_
   refine BC ?_
   walk_at "r"
   refine⟨by rw[zX];exact zQ hs26 (by decide),fun d=>!a0X d (.str (a0Q "")),id,?_,?_⟩
   · intro d hd M'
     obtain⟨z,hz,rfl⟩:=zL.mp hd
     have hzn:AJ z:=hno.1 z (by simp[hz])
     walk_at "r"
     refine⟨rfl,?_⟩
     walk_at "r"
     refine AT (AK hzn) (by decide +kernel) ?_
     rw[if_pos rfl]
     walk_at "r"
     refine⟨rfl,rfl,fun _=>?_⟩
     walk_at "r"
     exact⟨rfl,rfl⟩
   rw[DB]
   walk_at "r"
   refine⟨M,zT M,fun D' so' sp' e=>?_⟩
   obtain⟨rfl,rfl,rfl⟩:=FY (D:=Deed.count x k) e
   exact⟨by rw[VG fun z hz=>hno.1 z (by simp[hz])];rfl,rfl⟩
 | name x y=>
   have hx:AJ x:=hr.1 x (by simp[Deed.names])
   have hy:AJ y:=hr.1 y (by simp[Deed.names])
   rw[show Deed.d (Deed.name x y) = .tuple [.str (a0Q "name"),.str x,.str y] from rfl]
   refine AA (d:=.str (a0Q "name")) (AD (j:=0) rfl) ?_
   walk_at "r"
   refine F3 (t:=false) (by decide +kernel) ?_
   walk_at "r"
   refine AA (d:=.str (a0Q "name")) (AD (j:=0) rfl) ?_
   walk_at "r"
   refine C8 ?_
   walk_at "r"
   refine FP (ys:=["name", "split"]) ?_
   rw[show decide (a0Q "name" ∈ [a0Q "name", "split"])=true from by decide +kernel]
   walk_at "r"
   refine AI (BB 0) (by simp[E1]) ?_
   refine BC ?_
   walk_at "r"
   refine⟨by rw[zX];exact zQ hs26 (by decide),fun d=>!a0X d (.str x),id,?_,?_⟩
   · intro d hd M'
     obtain⟨z,hz,rfl⟩:=zL.mp hd
     have hzn:AJ z:=hno.1 z (by simp[hz])
     walk_at "r"
     refine⟨rfl,?_⟩
     walk_at "r"
     refine AA (d:=.str x) (AD (j:=1) rfl) ?_
     refine AT (AK hzn) (AK hx) ?_
     rw[if_pos rfl]
     cases hq:a0X (.str z) (.str x) with
     | false=>
       walk_at "r"
       refine⟨rfl,by show _ = !a0X (.str z) (.str x);rw[hq];rfl,fun _=>?_⟩
       walk_at "r"
       exact⟨rfl,rfl⟩
     | true=>
       walk_at "r"
       refine AA (d:=.str (a0Q "name")) (AD (j:=0) rfl) ?_
       walk_at "r"
       refine F3 (t:=false) (by decide +kernel) ?_
       walk_at "r"
       refine⟨rfl,by show _ = !a0X (.str z) (.str x);rw[hq];rfl,fun h=>?_⟩
       have h:(!a0X (.str z) (.str x))=true:=h
       rw[hq] at h;cases h
   rw[DB]
   walk_at "wkd"
   refine AA (d:=.str y) (AD (j:=2) rfl) ?_
   walk_at "r"
   refine C9 (by rw[zX];exact zN (b3K (zN (yJ _ _) hs26) 1) (by decide)) ?_
   walk_at "r"
   refine BU ?_
   rw[show D9 (sp.map a0W) (some 1) none=(sp.drop 1).map .str from(CA _ 1).trans (by rw[a3X])]
   walk_at "r"
   refine⟨M,zT M,fun D' so' sp' e=>?_⟩
   obtain⟨rfl,rfl,rfl⟩:=FY (D:=Deed.name x y) e
   exact⟨by simp[AN,CL,BX,Deed.made],rfl⟩
 | split x y pl k=>
   have hx:AJ x:=hr.1 x (by simp[Deed.names])
   have hy:AJ y:=hr.1 y (by simp[Deed.names])
   rw[show Deed.d (Deed.split x y pl k) = .tuple [.str (a0Q "split"),.str x,.str y,.int pl,.int k] from rfl]
   refine AA (d:=.str (a0Q "split")) (AD (j:=0) rfl) ?_
   walk_at "r"
   refine F3 (t:=false) (by decide +kernel) ?_
   walk_at "r"
   refine AA (d:=.str (a0Q "split")) (AD (j:=0) rfl) ?_
   walk_at "r"
   refine C8 ?_
   walk_at "r"
   refine FP (ys:=["name", "split"]) ?_
   rw[show decide (a0Q "split" ∈ [a0Q "name", "split"])=true from by decide +kernel]
   walk_at "r"
   refine AI (BB 0) (by simp[E1]) ?_
   refine BC ?_
   walk_at "r"
   refine⟨by rw[zX];exact zQ hs26 (by decide),fun _=>true,id,?_,?_⟩
   · intro d hd M'
     obtain⟨z,hz,rfl⟩:=zL.mp hd
     have hzn:AJ z:=hno.1 z (by simp[hz])
     walk_at "r"
     refine⟨rfl,?_⟩
     walk_at "r"
     refine AA (d:=.str x) (AD (j:=1) rfl) ?_
     refine AT (AK hzn) (AK hx) ?_
     rw[if_pos rfl]
     cases hq:a0X (.str z) (.str x) with
     | false=>
       walk_at "r"
       refine⟨rfl,rfl,fun _=>?_⟩
       walk_at "r"
       exact⟨rfl,rfl⟩
     | true=>
       walk_at "r"
       refine AA (d:=.str (a0Q "split")) (AD (j:=0) rfl) ?_
       walk_at "r"
       refine F3 (t:=true) (by decide +kernel) ?_
       walk_at "r"
       refine⟨rfl,rfl,fun _=>?_⟩
       walk_at "r"
       exact⟨rfl,rfl⟩
   rw[ZP,b4X]
   walk_at "wkd"
   refine AA (d:=.str y) (AD (j:=2) rfl) ?_
   walk_at "r"
   refine C9 (by rw[zX];exact zN (b3K (hs26) 1) (by decide)) ?_
   walk_at "r"
   refine BU ?_
   rw[show D9 (sp.map a0W) (some 1) none=(sp.drop 1).map .str from(CA _ 1).trans (by rw[a3X])]
   walk_at "r"
   refine⟨M,zT M,fun D' so' sp' e=>?_⟩
   obtain⟨rfl,rfl,rfl⟩:=FY (D:=Deed.split x y pl k) e
   exact⟨by simp[AN,CL,BX,Deed.made],rfl⟩
 | join x y=>
   have hx:AJ x:=hr.1 x (by simp[Deed.names])
   have hy:AJ y:=hr.1 y (by simp[Deed.names])
   rw[show Deed.d (Deed.join x y) = .tuple [.str (a0Q "join"),.str x,.str y] from rfl]
   refine AA (d:=.str (a0Q "join")) (AD (j:=0) rfl) ?_
   walk_at "r"
   refine F3 (t:=false) (by decide +kernel) ?_
   walk_at "r"
   refine AA (d:=.str (a0Q "join")) (AD (j:=0) rfl) ?_
   walk_at "r"
   refine C8 ?_
   walk_at "r"
   refine FP (ys:=["name", "split"]) ?_
   rw[show decide (a0Q "join" ∈ [a0Q "name", "split"])=false from by decide +kernel]
   walk_at "r"
   refine EJ ?_
   refine EI fun q hq=>?_
   refine B2 ?_
   walk_at "r"
   refine AA (d:=.str x) (AD (j:=1) rfl) ?_
   walk_at "r"
   refine B2 ?_
   walk_at "r"
   refine AA (d:=.str y) rfl ?_
   walk_at "r"
   refine FU ?_
   refine⟨zU,yD rfl,by simp only[zI,a5X];decide +kernel,?_⟩
   rw[yG hq]
   walk_at "r"
   refine AA (d:=.str (a0Q "join")) (AD (j:=0) rfl) ?_
   walk_at "r"
   rw[show(G7 (a0Q "join") (List.map (fun k=>(a0W k.1,k.2)) [(a0Q "take", .str x),(a0Q "join", .str y)])).getD (.str (a0Q "")) = .str y from rfl]
   refine AI (BB 0) (by simp[BQ]) ?_
   refine BC ?_
   walk_at "r"
   refine⟨by rw[zX];exact zQ hs26 (by decide),fun d=>!a0X d (.str y),id,?_,?_⟩
   · intro d hd M'
     obtain⟨z,hz,rfl⟩:=zL.mp hd
     have hzn:AJ z:=hno.1 z (by simp[hz])
     walk_at "r"
     refine⟨rfl,?_⟩
     walk_at "r"
     refine AT (AK hzn) (AK hy) ?_
     rw[if_pos rfl]
     walk_at "r"
     refine⟨rfl,rfl,fun _=>?_⟩
     walk_at "r"
     exact⟨rfl,rfl⟩
   rw[DB]
   walk_at "r"
   refine⟨M,zT M,fun D' so' sp' e=>?_⟩
   obtain⟨rfl,rfl,rfl⟩:=FY (D:=Deed.join x y) e
   exact⟨rfl,rfl⟩
end
def IF:List Str:=["_law_pack", "_law_names_here", "_law_amount", "_law_some"]
def GL:List Str:=["_law_k", "_law_names_here", "_law_pack"]
def GM:List (Option Nat):=[none,some 1,some 0]
theorem LH:GL.Nodup:=by decide +kernel
theorem IG:FnScope IF ["_law_pack", "_law_names_here", "_law_amount"] (AC D5):=⟨rfl,rfl,rfl,by decide +kernel,rfl,by decide +kernel,by decide +kernel⟩
section
local macro_rules | `(tactic| walk_at "cs")=>`(tactic| first | exact @KC _ _ GL GM (AC D5) IF (by decide +kernel) (by decide +kernel) rfl rfl)
theorem O2 {f:Addr}{fd:FuncData}(F:Fun K "_law_start" "_law_start" D5 f fd) (n_range:mg "range"=none) (n_sorted:mg "sorted"=none) (n_tuple:mg "tuple"=none) (h__law_take:Has P w K mg base "_law_take" 1 ["_law_pack", "_law_size"] B5):FnOk P w K mg base CX0 2 f fd ["_law_pack", "_law_names_here", "_law_amount"] (spD K 3 CU):=by
 refine fnD F IG fun cdv A outer s H E hr=>?_
 have hu:=hr.units
 have nd:=IG.nd
 have n0:=LH
 refine⟨_,by walk_at "b2", ?_⟩
 clear nd n0
 rintro xs M hl ⟨p,o,ys,n,rfl,m,ho,hy,hn⟩
 have h26:n<=26:=zN hn hy.2.2
 walk_at "dl";walk_at "dl"
 refine V4 (BB 0) (by simp[GM]) ?_
 refine LN ?_
 walk_at "r"
 refine⟨by omega,by omega,?_⟩
 have hnn:(BK 0 (n:Int).toNat).length=n:=by simp[BK]
 refine⟨by rw[hnn];exact zQ h26 (by decide),fun A hA=>?_⟩
 have hpA:p≠A:=by rintro rfl;rw[m] at hA;cases hA
 refine⟨fun k acc M'=>∃(w:List Th) (o2:MO),acc=w.map thD/\w.length=k/\w.map (·.1)=ys.take k/\(∀t∈w,0<=t.2.1/\t.2.1<=999)/\D6 o2/\M'=(M.put p o2).put A (.l acc),⟨[],o,rfl,rfl,by simp,by simp,ho,by rw[Own.put_self m]⟩,?_,?_,?_⟩
 · rintro k acc M' ⟨w,o2,rfl,hk,-,-,-,rfl⟩
   exact⟨zU,by simp[hk]⟩
 · rintro k d acc M' hd ⟨w,o2,rfl,hk,hw,hb,ho2,rfl⟩
   have hkn:k < n:=by rw[← hnn];exact(yT.mp hd).1
   have ed:d = .int k:=by
     unfold BK at hd
     rw[zF,xZ (by omega)] at hd
     simp at hd;exact hd.symm
   subst ed
   have hky:k < ys.length:=by omega
   have hg:(ys.map a0W)[k]?=some (.str ys[k]):=by rw[zF,zV hky];rfl
   walk_at "r"
   refine DJ (AD hg) ?_
   walk_at "r"
   refine AW (by rw[yH hpA];exact zU) ho2 (by decide) (by decide) fun v o3 h0 h1 ho3=>?_
   walk_at "r"
   refine AW zU ho3 (by decide) (by decide) fun v2 o4 _ _ ho4=>?_
   walk_at "r"
   refine⟨by rw[yI,yH hpA.symm];exact zU,w++[(ys[k],v,v2 - 20)],o4,by simp[thD],by simp[hk],by rw[xH,hw,a7Z,zV hky];rfl,?_,ho4,?_⟩
   · intro t ht
     rcases yW.mp ht with h | h
     · exact hb t h
     · have:t=(ys[k],v,v2 - 20):=by simpa using h
       subst this;exact⟨h0,by show v<=999;omega⟩
   · rw[yI];exact Z0 hpA
 · rintro acc M' ⟨w,o2,rfl,hk,hw,hb,ho2,rfl⟩
   rw[hnn] at hk hw
   rw[yG (by rw[yH hpA.symm];exact hA)]
   walk_at "r"
   have ndw:(w.map (·.1)).Nodup:=by rw[hw];exact hy.2.1.sublist (List.take_sublist _ _)
   rw[← ZT]
   refine ZF (by rw[zD];exact ndw) (by rw[zX];omega) fun ts' hp hlt=>?_
   obtain⟨u1,u2,u3⟩:=ZU hp
   rw[u2]
   walk_at "r"
   refine J3 ?_
   refine⟨M.put p o2,zT _,fun p' ys' n' e=>?_⟩
   simp only[List.cons.injEq,DS.loc.injEq,DS.d.injEq,PyData.int.injEq,Int.ofNat_inj,and_true] at e
   obtain⟨rfl,e,rfl⟩:=e
   have e:=EK e
   subst e
   refine⟨ts'.map unB,o2,rfl,⟨by rw[u3];exact U3 hlt,fun t ht=>?_⟩,by rw[← hw];exact u1.map _,ho2,rfl⟩
   have ht:=u1.mem_iff.mp ht
   refine⟨hy.1 _ ?_,hb t ht⟩
   have:t.1∈ys.take n:=by rw[← hw];exact zL.mpr ⟨t,ht,rfl⟩
   exact a2Z this
end
def O3:List Str:=["_law_some", "_law_spare", "_law_cells", "_law_lines_here", "_law_cell", "_law_digits", "_law_hand", "_law_deed_here"]
theorem IH:FnScope O3 ["_law_some", "_law_spare", "_law_cells"] (AC E6):=⟨rfl,rfl,rfl,by decide +kernel,rfl,by decide +kernel,by decide +kernel⟩
section
local macro_rules | `(tactic| walk_at "x")=>`(tactic| first | ((with_reducible show PS _ (.Assign [.Tuple ..] ..) _);exact @LV _ _ _ _ _ _ (by walk_at "e") (by walk_at "g") (by rfl) (by rfl) (by rfl)) | ((with_reducible show PG _ (.Tuple ..) _);exact @RN _ K _ _ _ _ (2) rfl rfl (by walk_at "j") (by rfl) (by rfl)))
theorem O4 {f:Addr}{fd:FuncData}(F:Fun K "_law_lines" "_law_lines" E6 f fd) (h__law_after:Has P w K mg base "_law_after" 1 ["_law_deed_here", "_law_some", "_law_spare"] CT) (h__law_deed:Has P w K mg base "_law_deed" 2 ["_law_pack", "_law_some", "_law_spare"] DU) (h__law_mixed:Has P w K mg base "_law_mixed" 1 ["_law_cell"] BM) (h__law_take:Has P w K mg base "_law_take" 1 ["_law_pack", "_law_size"] B5):FnOk P w K mg base CX0 3 f fd ["_law_some", "_law_spare", "_law_cells"] (spD K 3 FD):=by
 refine fnD F IH fun cdv A outer s H E hr=>?_
 have hu:=hr.units
 have nd:=IH.nd
 refine⟨_,by walk_at "b2", ?_⟩
 clear nd
 rintro xs M hl ⟨so0,sp0,cs,rfl,hno0,hcs,hcl⟩
 walk_at "r"
 refine LM ?_
 walk_at "r"
 intro A hMA
 walk_at "wks"
 refine IM (fun ρ1 M1=>∃(ls:List Ln) (so sp:List Str) (x1 x2 x3 x4:Option DS),M.Sub M1/\M1 A=some (.l (ls.map AF))/\lnQ so0 sp0 cs ls so sp/\ρ1=[some (.d (AN so)),some (.d (AN sp)),some (.d (.list (cs.map .int))),some (.loc A),x1,x2,x3,x4]) ?_ ?_
 · refine GS ?_
   refine BC ?_
   walk_at "r"
   refine⟨fun k ρ1 M1=>k<=cs.length/\∃(ls:List Ln) (so sp:List Str) (x1 x2 x3 x4:Option DS),M.Sub M1/\M1 A=some (.l (ls.map AF))/\(EL so0 sp0 (ls.map (·.2))/\KR so0 sp0 (ls.map (·.2))=(so,sp))/\(∀l∈ls,AJ l.1)/\ls.length<=k/\namesOK (so++sp)/\ρ1=[some (.d (AN so)),some (.d (AN sp)),some (.d (.list (cs.map .int))),some (.loc A),x1,x2,x3,x4],⟨xR _,[],so0,sp0,_,_,_,_,(zT M).put hMA,zU,⟨trivial,rfl⟩,by simp,by simp,hno0,rfl⟩,?_,?_⟩
   · rintro k d ρ1 M1 hd ⟨hkc,ls,so,sp,x1,x2,x3,x4,hsub,hMa,hb,hnl,hlk,hno,rfl⟩
     have hkl:k < cs.length:=by have:=(yT.mp hd).1;simpa using this
     obtain⟨c,hc,rfl⟩:=zL.mp (yN hd)
     walk_at "r"
     refine LM ?_
     walk_at "r"
     refine IQ (hcs c hc) fun v2=>?_
     walk_at "r"
     intro q hq
     have hqA:q≠A:=by rintro rfl;rw[hMa] at hq;cases hq
     have hMq:M q=none:=by
       cases e:M q with
       | none=>rfl
       | some ob=>rw[hsub q ob e] at hq;cases hq
     walk_at "r"
     refine C8 ?_
     walk_at "r"
     refine AW zU ⟨v2,rfl⟩ (by decide) (by decide) fun v3 o4 b0 b1 ho4=>?_
     rw[yI]
     obtain⟨hd',ehd,mhd⟩:=LQ (ys:=[a0Q "me", "you", "abcdefgh"]) b0 b1
     refine DJ (d:=.str hd') ehd ?_
     have hs1:zH (AN so)=true:=CV fun z hz=>hno.1 z (by simp[hz])
     have hs2:zH (AN sp)=true:=CV fun z hz=>hno.1 z (by simp[hz])
     walk_at "wkd"
     refine AT hs1 rfl ?_
     rw[if_pos rfl,CB]
     have keep:∀ob:MO,M.Sub (M1.put q ob):=fun ob b o e=>by
       rw[yH (by rintro rfl;rw[hMq] at e;cases e)];exact hsub b o e
     cases hso:so.isEmpty with
     | false=>
       have hne:so≠[]∨sp≠[]:=.inl fun q=>by rw[q] at hso;cases hso
       walk_at "r"
       · refine MW zU ho4 hno hne fun D o5 hr ha hm ho5=>?_
         rw[yI]
         walk_at "r"
         refine FS ?_
         walk_at "r"
         refine MX hr hno ha ?_
         walk_at "r"
         refine UY ?_
         walk_at "dl"
         refine⟨V2 (ds:=ls.map AF) (by rw[yH hqA.symm];exact hMa),?_⟩
         walk_at "r"
         refine OO (ds:=ls.map AF) (by rw[yH hqA.symm];exact hMa) (by rw[zX];exact zQ (show _<=50 by omega) (by decide)) ?_
         refine⟨by omega,ls++[(hd',D)],CL so D,BX sp D,_,_,_,_,?_,?_,?_,?_,?_,hno.sub (FB hm),rfl⟩
         · intro b o e
           rw[yH (by rintro rfl;rw[hMA] at e;cases e)]
           exact keep _ b o e
         · rw[xH];exact zU
         · rw[xH];exact IR hb.1 hb.2 ha hm hr
         · intro l hl'
           rcases yW.mp hl' with q1 | q1
           · exact hnl l q1
           · have:l=(hd',D):=by simpa using q1
             subst this;exact S0 _ mhd
         · rw[yY];simp;omega
     | true=>
       walk_at "wkd"
       refine AT hs2 rfl ?_
       rw[if_pos rfl,CB]
       cases hsp:sp.isEmpty with
       | false=>
         have hne:so≠[]∨sp≠[]:=.inr fun q=>by rw[q] at hsp;cases hsp
         walk_at "r"
         · refine MW zU ho4 hno hne fun D o5 hr ha hm ho5=>?_
           rw[yI]
           walk_at "r"
           refine FS ?_
           walk_at "r"
           refine MX hr hno ha ?_
           walk_at "r"
           refine UY ?_
           walk_at "dl"
           refine⟨V2 (ds:=ls.map AF) (by rw[yH hqA.symm];exact hMa),?_⟩
           walk_at "r"
           refine OO (ds:=ls.map AF) (by rw[yH hqA.symm];exact hMa) (by rw[zX];exact zQ (show _<=50 by omega) (by decide)) ?_
           refine⟨by omega,ls++[(hd',D)],CL so D,BX sp D,_,_,_,_,?_,?_,?_,?_,?_,hno.sub (FB hm),rfl⟩
           · intro b o e
             rw[yH (by rintro rfl;rw[hMA] at e;cases e)]
             exact keep _ b o e
           · rw[xH];exact zU
           · rw[xH];exact IR hb.1 hb.2 ha hm hr
           · intro l hl'
             rcases yW.mp hl' with q1 | q1
             · exact hnl l q1
             · have:l=(hd',D):=by simpa using q1
               subst this;exact S0 _ mhd
           · rw[yY];simp;omega
       | true=>
         walk_at "r"
         exact⟨by omega,ls,so,sp,_,_,_,_,keep _,by rw[yH hqA.symm];exact hMa,hb,hnl,by omega,hno,rfl⟩
   · rintro ρ1 M1 ⟨hkc,ls,so,sp,x1,x2,x3,x4,hsub,hMa,hb,hnl,hlk,hno,rfl⟩
     rw[zX] at hlk
     exact⟨ls,so,sp,x1,x2,x3,x4,hsub,hMa,⟨hb.1,hb.2,hnl,hlk,hno⟩,rfl⟩
 · rintro ρ1 M1 ⟨ls,so,sp,x1,x2,x3,x4,hsub,hMa,hq,rfl⟩
   refine WI (i:=3) (a:=A) rfl hMa ?_
   walk_at "r"
   refine⟨M,fun b o e=>?_,fun so' sp' cs' e=>?_⟩
   · have hne:b≠A:=by rintro rfl;rw[hMA] at e;cases e
     unfold Own.del
     rw[if_neg hne]
     exact hsub b o e
   · simp only[List.cons.injEq,DS.d.injEq,and_true] at e
     obtain⟨e1,e2,e3⟩:=e
     obtain rfl:=EK e1
     obtain rfl:=EK e2
     have e3:cs=cs':=(b5V (fun a b h=>PyData.int.inj h)).mp (PyData.list.inj e3)
     subst e3
     exact⟨rfl,ls,so,sp,rfl,hq⟩
end
def O5:List Str:=["_law_head", "_law_pack", "_law_spare", "_law_amount"]
theorem II:FnScope O5 ["_law_head"] (AC E7):=⟨rfl,rfl,rfl,by decide +kernel,rfl,by decide +kernel,by decide +kernel⟩
theorem O6 {f:Addr}{fd:FuncData}(F:Fun K "_law_begun" "_law_begun" E7 f fd) (h__law_mixed:Has P w K mg base "_law_mixed" 1 ["_law_cell"] BM) (h__law_names:Has P w K mg base "_law_names" 2 ["_law_pack", "_law_amount"] CS) (h__law_start:Has P w K mg base "_law_start" 2 ["_law_pack", "_law_names_here", "_law_amount"] CU) (h__law_take:Has P w K mg base "_law_take" 1 ["_law_pack", "_law_size"] B5):FnOk P w K mg base CX0 3 f fd ["_law_head"] (spD K 1 FF):=by
 refine fnD F II fun cdv A outer s H E hr=>?_
 have hu:=hr.units
 have nd:=II.nd
 refine⟨_,by walk_at "b2", ?_⟩
 clear nd
 rintro xs M hl ⟨h,rfl,hh⟩
 walk_at "r"
 refine LM ?_
 walk_at "r"
 refine IQ hh fun v=>?_
 walk_at "r"
 intro p hp
 walk_at "r"
 refine U1 zU ⟨v,rfl⟩ (by decide) (by decide) fun ys o1 hyl hy hyb hyn ho1=>?_
 rw[yI]
 walk_at "r"
 refine AW zU ho1 (by decide) (by decide) fun va o2 a0 a1 ho2=>?_
 rw[yI]
 obtain⟨n,rfl⟩:∃n:Nat,va=(n:Int):=⟨va.toNat,by omega⟩
 have hyok:namesOK ys:=⟨hy,hyn,by omega⟩
 walk_at "r"
 refine U2 zU ho2 hyok (by omega) fun w0 o3 hw0 hpm ho3=>?_
 rw[yI]
 walk_at "r"
 refine BU ?_
 rw[K7,← a5V]
 walk_at "r"
 refine BU ?_
 rw[CA,← a3X]
 walk_at "r"
 exact⟨M,(zT M).put hp,rfl,w0,ys.take n,ys.drop n,rfl,fun t ht=>(hw0.2 t ht).1,by rw[List.take_append_drop];exact hyok,fun x=>hpm.mem_iff,by have:=hpm.length_eq;rw[zX,a1Q] at this;omega⟩
def SS:List Str:=["_law_script", "_law_start_here", "_law_some", "_law_spare", "_law_pack", "_law_lines_here", "_law_stay", "_law_more", "_law_ones", "_law_standing", "_law_rest", "_law_others"]
theorem L0:FnScope SS ["_law_script"] (AC G4):=⟨rfl,rfl,rfl,by decide +kernel,rfl,by decide +kernel,by decide +kernel⟩
section
local macro_rules | `(tactic| walk_at "x")=>`(tactic| first | ((with_reducible show PS _ (.Assign [.Tuple ..] ..) _);exact @LV _ _ _ _ _ _ (by walk_at "e") (by walk_at "g") (by rfl) (by rfl) (by rfl)) | ((with_reducible show PG _ (.Tuple ..) _);exact @RN _ K _ _ _ _ (3) rfl rfl (by walk_at "j") (by rfl) (by rfl)) | ((with_reducible show PE _ (.Subscript ..) _);exact @lZ _ K _ _ _ _ _ _ rfl (by walk_at "e") (by walk_at "e")))
theorem ST {f:Addr}{fd:FuncData}(F:Fun K "_law_two" "_law_two" G4 f fd) (n_sum:mg "sum"=none) (n_tuple:mg "tuple"=none) (h__law_begun:Has P w K mg base "_law_begun" 3 ["_law_head"] FF) (h__law_lines:Has P w K mg base "_law_lines" 3 ["_law_some", "_law_spare", "_law_cells"] FD) (h__law_mixed:Has P w K mg base "_law_mixed" 1 ["_law_cell"] BM) (h__law_take:Has P w K mg base "_law_take" 1 ["_law_pack", "_law_size"] B5):FnOk P w K mg base CX0 4 f fd ["_law_script"] (spD K 1 JF):=by
 refine fnD F L0 fun cdv A outer s H E hr=>?_
 have hu:=hr.units
 have nd:=L0.nd
 refine⟨_,by walk_at "b2", ?_⟩
 clear nd
 rintro xs M hl ⟨ns,rfl,hbits⟩
 have bits:∀a b:Nat,∀c∈(ns.take a).drop b,xI c<=2 ^ 21:=fun a b c hc=>zN (hbits c (a2Z (a5W hc))) (by decide)
 have one:∀a:Nat,xI ((ns.take (a+1)).drop a).sum<=2 ^ 21:=fun a=>by
   rw[List.drop_take,Nat.add_sub_cancel_left]
   have hh:∀c∈ns.drop a,xI c<=2 ^ 20:=fun c hc=>hbits c (a5W hc)
   match ns.drop a,hh with
   | [],_=>decide
   | a::r,hb=>simp only[b4Q,List.take_zero,List.sum_cons,List.sum_nil,Int.add_zero];exact zN (hb a (by simp)) (by decide)
 walk_at "r"
 refine FS ?_
 walk_at "r"
 refine BU ?_
 rw[show D9 (ns.map a8V) none (some 1)=((ns.take 1).drop 0).map .int from(K7 _ 1).trans (by rw[List.drop_zero,a5V])]
 walk_at "r"
 refine ZS ?_
 walk_at "r"
 refine Q6 (one 0) fun w so sp hw hno hS hlw=>?_
 walk_at "r"
 refine LM ?_
 walk_at "r"
 refine BU ?_
 rw[show D9 (ns.map a8V) (some 1) (some 2)=((ns.take 2).drop 1).map .int from(HH _ 1 2).trans (by rw[a3X,a5V])]
 walk_at "r"
 refine ZS ?_
 walk_at "r"
 refine IQ (one 1) fun v0=>?_
 walk_at "r"
 intro p hp
 walk_at "r"
 refine FS ?_
 walk_at "r"
 refine AW zU ⟨v0,rfl⟩ (by decide) (by decide) fun v1 o1 a1 b1 ho1=>?_
 rw[yI]
 obtain⟨n1,rfl⟩:∃n:Nat,v1=(n:Int):=⟨v1.toNat,by omega⟩
 walk_at "r"
 refine BU ?_
 rw[show D9 (ns.map a8V) (some 2) (some (2+(n1:Int)))=((ns.take (2+n1)).drop 2).map .int from by rw[show(2:Int)+(n1:Int)=((2+n1:Nat):Int) by omega];exact(HH _ 2 (2+n1)).trans (by rw[a3X,a5V])]
 walk_at "r"
 refine IU hno (bits _ _) (by rw[a0K,a1Q];omega) fun ls st mo hq=>?_
 walk_at "r"
 refine FS ?_
 walk_at "r"
 refine AW zU ho1 (by decide) (by decide) fun v2 o2 a2 b2 ho2=>?_
 rw[yI]
 obtain⟨n2,rfl⟩:∃n:Nat,v2=(n:Int):=⟨v2.toNat,by omega⟩
 walk_at "r"
 refine BU ?_
 rw[show D9 (ns.map a8V) (some 6) (some (6+(n2:Int)))=((ns.take (6+n2)).drop 6).map .int from by rw[show(6:Int)+(n2:Int)=((6+n2:Nat):Int) by omega];exact(HH _ 6 (6+n2)).trans (by rw[a3X,a5V])]
 walk_at "r"
 refine IU hq.2.2.2.2 (bits _ _) (by rw[a0K,a1Q];omega) fun as so2 sp2 hqa=>?_
 walk_at "wks"
 refine IM (fun ρ1 M1=>∃(mo2:List Str) (x1:Option DS) (o3:MO),D6 o3/\M1=M.put p o3/\mo2.Perm mo/\ρ1=[some (.d (.list (ns.map .int))),some (.d (wD w)),some (.d (AN so)),some (.d (AN sp)),some (.loc p),some (.d (.list (ls.map AF))),some (.d (AN st)),some (.d (AN mo2)),some (.d (.list (as.map AF))),some (.d (AN so2)),some (.d (AN sp2)),x1]) ?_ ?_
 · walk_at "r"
   refine AW zU ho2 (by decide) (by decide) fun v3 o3 a3 b3 ho3=>?_
   rw[yI]
   walk_at "r"
   by_cases h3:0 < v3
   · rw[decide_eq_true h3,if_pos rfl]
     walk_at "r"
     refine dW ?_
     walk_at "dl"
     refine⟨mo.map .str,rfl,?_⟩
     walk_at "r"
     refine⟨rfl,?_⟩
     rw[← List.map_reverse]
     exact⟨mo.reverse,_,o3,ho3,rfl,List.reverse_perm _,rfl⟩
   · rw[decide_eq_false h3,if_neg nft]
     walk_at "r"
     exact⟨mo,_,o3,ho3,rfl,.refl _,rfl⟩
 · rintro ρ1 M1 ⟨mo2,x1,o3,ho3,rfl,hpm,rfl⟩
   have hno2:namesOK (st++mo2):=by
     have:=hq.2.2.2.2
     have pp:=b7X st hpm
     exact⟨fun z hz=>this.1 z (pp.mem_iff.mp hz),pp.nodup_iff.mpr this.2.1,by rw[pp.length_eq];exact this.2.2⟩
   walk_at "r"
   refine FS ?_
   walk_at "r"
   refine AW zU ho3 (by decide) (by decide) fun v4 o4 a4 b4 ho4=>?_
   rw[yI]
   obtain⟨n4,rfl⟩:∃n:Nat,v4=(n:Int):=⟨v4.toNat,by omega⟩
   walk_at "r"
   refine BU ?_
   rw[show D9 (ns.map a8V) (some 14) (some (14+(n4:Int)))=((ns.take (14+n4)).drop 14).map .int from by rw[show(14:Int)+(n4:Int)=((14+n4:Nat):Int) by omega];exact(HH _ 14 (14+n4)).trans (by rw[a3X,a5V])]
   walk_at "r"
   refine IU hno2 (bits _ _) (by rw[a0K,a1Q];omega) fun bs so4 sp4 hqb=>?_
   have l1:=hq.2.2.2.1
   have l2:=hqa.2.2.2.1
   have l3:=hqb.2.2.2.1
   rw[a0K,a1Q] at l1 l2 l3
   walk_at "r"
   refine C9 (by rw[zX,zX];exact zN (show _<=100 by omega) (by decide)) ?_
   rw[← xH]
   walk_at "r"
   refine J3 ?_
   walk_at "r"
   refine C9 (by rw[zX,zX];exact zN (show _<=100 by omega) (by decide)) ?_
   rw[← xH]
   walk_at "r"
   refine J3 ?_
   walk_at "r"
   refine⟨M,(zT M).put hp,rfl,w,ls++as,ls++bs,rfl,⟨hw,N2 hno hq (.refl _) hqa (by rw[a0K,a1Q,a0K,a1Q];omega),N2 hno hq hpm hqb (by rw[a0K,a1Q,a0K,a1Q];omega)⟩,SA hS hno hq (.refl _) hqa,SA hS hno hq hpm hqb,?_,?_,hlw⟩
   · rw[yY];omega
   · rw[yY];omega
end
def QK:List Str:=["_law_deed_here"]
theorem JU:FnScope QK ["_law_deed_here"] (AC ET):=⟨rfl,rfl,rfl,by decide +kernel,rfl,by decide +kernel,by decide +kernel⟩
section
local macro_rules | `(tactic| walk_at "x")=>`(tactic| first | ((with_reducible show PE _ (.Call (.Attribute _ (a0Q "get") _) ..) _);exact @J2 _ _ _ _ _ _ _ _ _ hu1 (by walk_at "e") (by walk_at "e") (by walk_at "e") (@L2.M2.mk _ _ _ _ _ _ _ rfl rfl rfl rfl)) | ((with_reducible show PE _ (.Dict ..) _);exact @LL _ _ _ _ _ (@C0 _ _ _ _ _ _ _ _ _ (by walk_at "e") (by walk_at "e") (@C0 _ _ _ _ _ _ _ _ _ (by walk_at "e") (by walk_at "e") (@C0 _ _ _ _ _ _ _ _ _ (by walk_at "e") (by walk_at "e") (@J1 _ _)))) rfl rfl (by simp) (by decide)))
theorem QM {f:Addr}{fd:FuncData}(F:Fun K "_law_made" "_law_made" ET f fd):FnOk P w K mg base CX0 1 f fd ["_law_deed_here"] (spD K 1 N4):=by
 refine fnD F JU fun cdv A outer s H E hr=>?_
 have hu:=hr.units
 have hu1:=zQ (a6Z (show 1<=64 by decide) _) hu
 have nd:=JU.nd
 refine⟨_,by walk_at "b1", ?_⟩
 clear nd
 rintro xs M hl ⟨D,rfl,hr⟩
 walk_at "r"
 cases D <;> (
   refine EJ ?_
   refine EI fun q hq=>?_
   refine B2 ?_
   walk_at "r"
   refine AS ?_
   walk_at "r"
   refine B2 ?_
   walk_at "r"
   refine AS ?_
   walk_at "r"
   refine B2 ?_
   walk_at "r"
   refine AS ?_
   walk_at "r"
   refine FU ?_
   refine⟨zU,yD rfl,by simp only[zI,a5X];decide +kernel,?_⟩
   rw[yG hq]
   walk_at "r"
   refine AA (d:=_) rfl ?_
   walk_at "r"
   refine⟨M,zT M,fun D' e=>?_⟩
   simp only[List.cons.injEq,DS.d.injEq,and_true] at e
   obtain rfl:=GV e
   exact⟨rfl,rfl⟩)
end
def O7:List Str:=["_law_deed_here"]
theorem IJ:FnScope O7 ["_law_deed_here"] (AC E8):=⟨rfl,rfl,rfl,by decide +kernel,rfl,by decide +kernel,by decide +kernel⟩
section
local macro_rules | `(tactic| walk_at "x")=>`(tactic| first | ((with_reducible show PE _ (.Call (.Attribute _ (a0Q "get") _) ..) _);exact @J2 _ _ _ _ _ _ _ _ _ hu1 (by walk_at "e") (by walk_at "e") (by walk_at "e") (@L2.M2.mk _ _ _ _ _ _ _ rfl rfl rfl rfl)) | ((with_reducible show PE _ (.Dict ..) _);exact @LL _ _ _ _ _ (@C0 _ _ _ _ _ _ _ _ _ (by walk_at "e") (by walk_at "e") (@C0 _ _ _ _ _ _ _ _ _ (by walk_at "e") (by walk_at "e") (@C0 _ _ _ _ _ _ _ _ _ (by walk_at "e") (by walk_at "e") (@J1 _ _)))) rfl rfl (by simp) (by decide)))
theorem O8 {f:Addr}{fd:FuncData}(F:Fun K "_law_ended" "_law_ended" E8 f fd):FnOk P w K mg base CX0 1 f fd ["_law_deed_here"] (spD K 1 KG):=by
 refine fnD F IJ fun cdv A outer s H E hr=>?_
 have hu:=hr.units
 have hu1:=zQ (a6Z (show 1<=64 by decide) _) hu
 have nd:=IJ.nd
 refine⟨_,by walk_at "b1", ?_⟩
 clear nd
 rintro xs M hl ⟨D,rfl,hr⟩
 walk_at "r"
 cases D <;> (
   refine EJ ?_
   refine EI fun q hq=>?_
   refine B2 ?_
   walk_at "r"
   refine AS ?_
   walk_at "r"
   refine B2 ?_
   walk_at "r"
   refine AS ?_
   walk_at "r"
   refine B2 ?_
   walk_at "r"
   refine AS ?_
   walk_at "r"
   refine FU ?_
   refine⟨zU,yD rfl,by simp only[zI,a5X];decide +kernel,?_⟩
   rw[yG hq]
   walk_at "r"
   refine AA (d:=_) rfl ?_
   walk_at "r"
   refine⟨M,zT M,fun D' e=>?_⟩
   simp only[List.cons.injEq,DS.d.injEq,and_true] at e
   obtain rfl:=GV e
   exact⟨rfl,rfl⟩)
end
def NJ:List Str:=["_law_deed_here"]
theorem HE:FnScope NJ ["_law_deed_here"] (AC DK):=⟨rfl,rfl,rfl,by decide +kernel,rfl,by decide +kernel,by decide +kernel⟩
section
local macro_rules | `(tactic| walk_at "x")=>`(tactic| first | ((with_reducible show PE _ (.Call (.Attribute _ (a0Q "get") _) ..) _);exact @J2 _ _ _ _ _ _ _ _ _ hu1 (by walk_at "e") (by walk_at "e") (by walk_at "e") (@L2.M2.mk _ _ _ _ _ _ _ rfl rfl rfl rfl)) | ((with_reducible show PE _ (.Dict ..) _);exact @LL _ _ _ _ _ (@C0 _ _ _ _ _ _ _ _ _ (by walk_at "e") (by walk_at "e") (@C0 _ _ _ _ _ _ _ _ _ (by walk_at "e") (by walk_at "e") (@J1 _ _))) rfl rfl (by simp) (by decide)))
theorem NK {f:Addr}{fd:FuncData}(F:Fun K "_law_wanted" "_law_wanted" DK f fd):FnOk P w K mg base CX0 1 f fd ["_law_deed_here"] (spD K 1 IY):=by
 refine fnD F HE fun cdv A outer s H E hr=>?_
 have hu:=hr.units
 have hu1:=zQ (a6Z (show 1<=64 by decide) _) hu
 have nd:=HE.nd
 refine⟨_,by walk_at "b1", ?_⟩
 clear nd
 rintro xs M hl ⟨D,rfl,hr⟩
 walk_at "r"
 cases D <;> (
   refine EJ ?_
   refine EI fun q hq=>?_
   refine B2 ?_
   walk_at "r"
   refine B2 ?_
   walk_at "r"
   refine AS ?_
   walk_at "r"
   refine FU ?_
   refine⟨zU,yD rfl,by simp only[zI,a5X];decide +kernel,?_⟩
   rw[yG hq]
   walk_at "r"
   refine AA (d:=_) rfl ?_
   walk_at "r"
   refine AS ?_
   walk_at "r"
   refine⟨M,zT M,fun D' e=>?_⟩
   simp only[List.cons.injEq,DS.d.injEq,and_true] at e
   obtain rfl:=GV e
   exact⟨rfl,rfl⟩)
end
def BR:List Str:=["_law_start_here", "_law_lines_here", "_law_standing", "_law_known", "_law_hand", "_law_deed_here", "_law_made_here"]
def EW:List Str:=["_law_thing"]
def BE:List (Option Nat):=[none]
theorem JV:EW.Nodup:=by decide +kernel
def EX:List Str:=["_law_name", "_law_standing"]
def BF:List (Option Nat):=[none,some 2]
theorem JW:EX.Nodup:=by decide +kernel
def EY:List Str:=["_law_name", "_law_known"]
def BG:List (Option Nat):=[none,some 3]
theorem JX:EY.Nodup:=by decide +kernel
def EZ:List Str:=["_law_name", "_law_deed_here"]
def BH:List (Option Nat):=[none,some 5]
theorem JY:EZ.Nodup:=by decide +kernel
theorem GN:FnScope BR ["_law_start_here", "_law_lines_here"] (AC B1):=⟨rfl,rfl,rfl,by decide +kernel,rfl,by decide +kernel,by decide +kernel⟩
section
local macro_rules | `(tactic| walk_at "cs")=>`(tactic| first | exact @KC _ _ EW BE (AC B1) BR (by decide +kernel) (by decide +kernel) rfl rfl | exact @KC _ _ EX BF (AC B1) BR (by decide +kernel) (by decide +kernel) rfl rfl | exact @KC _ _ EY BG (AC B1) BR (by decide +kernel) (by decide +kernel) rfl rfl | exact @KC _ _ EZ BH (AC B1) BR (by decide +kernel) (by decide +kernel) rfl rfl)
local macro_rules | `(tactic| walk_at "x")=>`(tactic| first | ((with_reducible show PG _ (.Tuple ..) _);exact @jF _ K _ _ _ _ (2) rfl rfl (by walk_at "j") (by rfl) (by rfl)) | ((with_reducible show PE _ (.Compare _ [.In] ..) _);exact @EN _ _ _ _ _ _ _ _ (@lR _ K rfl hu) (by walk_at "e") (by walk_at "e") (by with_unfolding_all rfl)) | ((with_reducible show PE _ (.Compare _ [.NotIn] ..) _);exact @EN _ _ _ _ _ _ _ _ (@VH _ K rfl hu) (by walk_at "e") (by walk_at "e") (by with_unfolding_all rfl)) | ((with_reducible show PT _ (.Compare _ [.NotIn] ..) _);exact @B9 _ _ _ _ _ _ _ _ (@VH _ K rfl hu) (by walk_at "e") (by walk_at "e") (by with_unfolding_all rfl)))
local macro_rules | `(tactic| walk_at "y")=>`(tactic| first | ((with_reducible show PE _ (.Call (.Name (a0Q "list") _) ..) _);exact @F7 _ _ _ _ _ _ _ _ _ (@YT _ K rfl) (by rfl) n_list a7X (by walk_at "a") (by decide) (by decide) (by rfl) (by rfl)))
theorem LI {f:Addr}{fd:FuncData}(F:Fun K "_law_is_book" "_law_is_book" B1 f fd) (n_any:mg "any"=none) (n_list:mg "list"=none) (h__law_ended:Has P w K mg base "_law_ended" 1 ["_law_deed_here"] KG) (h__law_made:Has P w K mg base "_law_made" 1 ["_law_deed_here"] N4) (h__law_wanted:Has P w K mg base "_law_wanted" 1 ["_law_deed_here"] IY):FnOk P w K mg base CX0 2 f fd ["_law_start_here", "_law_lines_here"] (spD K 2 CM):=by
 refine fnD F GN fun cdv A outer s H E hr=>?_
 have hu:=hr.units
 have nd:=GN.nd
 have n0:=JV
 have n1:=JW
 have n2:=JX
 have n3:=JY
 refine⟨_,by walk_at "b2", ?_⟩
 clear nd n0 n1 n2 n3
 rintro xs M hl ⟨w,C,rfl,hw,hlw,hreal,hC⟩
 have fin:∀(M1:Own) (b:Bool),M1=M->L8 (B8 w) (B8 w) (dsL C)=b->∃M2:Own,M2.Sub M1/\CM.post (isX w C) M (.d (.bool b)) M2:=fun M1 b e1 hb=>⟨M,e1▸zT M,fun w' C' e=>by
   simp only[List.cons.injEq,DS.d.injEq,PyData.list.injEq,PyData.tuple.injEq,and_true] at e
   obtain⟨g1,g2⟩:=e
   obtain rfl:=B7 g2
   have g3:(B8 w).map a0W=(B8 w').map .str:=by rw[← CO,← CO];injection g1 with g1;rw[g1]
   have g4:B8 w=B8 w':=(b5V (fun a b h=>PyData.str.inj h)).mp g3
   rw[← g4,hb]
   exact⟨rfl,rfl⟩⟩
 walk_at "r"
 refine AI (BB 0) (by simp[BE,BF,BG,BH]) ?_
 refine LO ?_
 walk_at "r"
 refine⟨by rw[zX];exact zQ hlw (by decide),fun _=>true,fTh,?_,?_⟩
 · intro d hd M'
   obtain⟨t,ht,rfl⟩:=zL.mp hd
   walk_at "dl"
   refine⟨rfl,?_⟩
   walk_at "dl"
   refine⟨rfl,rfl,fun _=>?_⟩
   walk_at "r"
   refine AA (ds:=[.str t.1,.int t.2.1,.int t.2.2]) (d:=.str t.1) rfl ?_
   exact⟨rfl,rfl⟩
 rw[ZP,dZ]
 walk_at "r"
 refine aJ ?_
 walk_at "r"
 · refine GS ?_
   refine BC ?_
   walk_at "r"
   refine⟨fun k ρ1 M1=>M1=M/\k<=C.length/\∃(st kn:List Str) (x4 x5 x6:Option DS),st.length<=26+k/\kn.length<=26+k/\(∀z∈st,AJ z)/\(∀z∈kn,AJ z)/\L8 (B8 w) (B8 w) (dsL C)=L8 st kn ((dsL C).drop k)/\ρ1=[some (.d (wD w)),some (.d (.list (C.map AF))),some (.d (AN st)),some (.d (AN kn)),x4,x5,x6],?_,?_,?_⟩
   · have hnz:∀z∈B8 w,AJ z:=fun z hz=>by obtain⟨t,ht,rfl⟩:=zL.mp hz;exact hw t ht
     have hwl:(B8 w).length<=26+0:=by rw[zX];omega
     exact⟨rfl,xR _,B8 w,B8 w,_,_,_,hwl,hwl,hnz,hnz,rfl,rfl⟩
   · rintro k d ρ1 M1 hd ⟨rfl,hk0,st,kn,x4,x5,x6,q1,q2,hz1,hz2,hI,rfl⟩
     rw[zF] at hd
     obtain⟨l,hlk,rfl⟩:=Option.map_eq_some_iff.mp hd
     have hk:=(yT.mp hlk).1
     have hr:=hreal l (yN hlk)
     have hdrop:(dsL C).drop k=l.2::(dsL C).drop (k+1):=by
       rw[List.drop_eq_getElem_cons (by rw[zX];exact hk)]
       congr 1
       rw[List.getElem_map,(yT.mp hlk).2]
     rw[hdrop,L8] at hI
     rw[show AF l = .tuple [.str l.1,l.2.d] from rfl]
     have hl1:(G9 l.2).length<=1:=by unfold G9;cases l.2.made <;> simp
     have hwl:(E2 l.2).length<=2:=by cases l.2 <;> simp[E2]
     have hmz:∀z∈G9 l.2,AJ z:=fun z hz=>N3 hr (DF.mp hz)
     walk_at "r"
     refine IX hr ?_
     walk_at "r"
     refine MF ?_
     walk_at "r"
     refine AI (BB 0) (by simp[BE,BF,BG,BH]) ?_
     refine BC ?_
     walk_at "r"
     refine⟨by rw[zX];exact zQ hl1 (by decide),fun _=>true,fun d=>.bool ((kn.map a0W).any fun e=>a0X e d),?_,?_⟩
     · intro d hd M'
       obtain⟨z,hz,rfl⟩:=zL.mp hd
       walk_at "dl"
       refine⟨rfl,?_⟩
       walk_at "dl"
       refine⟨rfl,rfl,fun _=>?_⟩
       walk_at "r"
       refine ZV (ds:=kn.map .str) (AK (hmz z hz)) (GU fun z hz=>BL (hz2 z hz)) ?_
       exact⟨rfl,rfl⟩
     rw[ZP,dY]
     walk_at "r"
     refine YQ ?_
     rw[OY]
     cases h1:(G9 l.2).any fun x=>decide (x∈kn) with
     | true=>
       walk_at "r"
       exact fin _ false rfl (by rw[hI];unfold Q4;rw[h1];rfl)
     | false=>
       walk_at "r"
       refine AI (BB 0) (by simp[BE,BF,BG,BH]) ?_
       refine LO ?_
       walk_at "r"
       refine IX hr ?_
       refine⟨_,rfl,by rw[zX];exact zQ hwl (by decide),fun _=>true,fun d=>.bool (!((st.map a0W).any fun e=>a0X e d)),?_,?_⟩
       · intro d hd M'
         obtain⟨z,hz,rfl⟩:=zL.mp hd
         walk_at "dl"
         refine⟨rfl,?_⟩
         walk_at "dl"
         refine⟨rfl,rfl,fun _=>?_⟩
         walk_at "r"
         refine ZV (ds:=st.map .str) (AK (OX hr (by rw[LR hr];exact hz))) (GU fun z hz=>BL (hz1 z hz)) ?_
         exact⟨rfl,rfl⟩
       rw[ZP,aM]
       walk_at "r"
       refine YQ ?_
       rw[OY]
       cases h2:(E2 l.2).any fun x=>!decide (x∈st) with
       | true=>
         walk_at "r"
         exact fin _ false rfl (by rw[hI];unfold Q4;rw[h1,h2];rfl)
       | false=>
         walk_at "r"
         refine C9 (by rw[zX,zX];exact zN (show _<=200 by omega) (by decide)) ?_
         rw[← xH]
         walk_at "r"
         refine AI (BB 0) (by simp[BE,BF,BG,BH]) ?_
         refine BC ?_
         walk_at "r"
         refine⟨by rw[zX];exact zQ (show _<=200 by omega) (by decide),m3 (Q3 l.2),id,?_,?_⟩
         · intro d hd M'
           obtain⟨z,hz,rfl⟩:=zL.mp hd
           walk_at "dl"
           refine⟨rfl,?_⟩
           walk_at "r"
           refine IX hr ?_
           refine VI (ds:=(Q3 l.2).map .str) (AK (hz1 z hz)) (KU fun y hy=>JC hr (by simpa [Q3] using hy)) ?_
           refine⟨_,rfl,rfl,rfl,fun _=>?_⟩
           walk_at "r"
           exact⟨rfl,rfl⟩
         rw[aK]
         walk_at "r"
         have hfl:=yJ (fun z=>!decide (z∈Q3 l.2)) st
         refine C9 (by rw[zX,zX];exact zN (show _<=200 by omega) (by decide)) ?_
         rw[← xH]
         walk_at "r"
         refine⟨rfl,by omega,S9 st l.2,kn++G9 l.2,_,_,_,by unfold S9;rw[yY];omega,by rw[yY];omega,fun z hz=>?_,fun z hz=>?_,?_,rfl⟩
         · unfold S9 at hz
           rcases yW.mp hz with q | q
           · exact hz1 z (yL.mp q).1
           · exact hmz z q
         · rcases yW.mp hz with q | q
           · exact hz2 z q
           · exact hmz z q
         · rw[hI];unfold Q4;rw[h1,h2];rfl
   · rintro ρ1 M1 ⟨rfl,_,st,kn,x4,x5,x6,_,_,_,_,hI,rfl⟩
     rw[zX,List.drop_of_length_le (by rw[zX];exact zR _)] at hI
     walk_at "r"
     exact fin _ true rfl hI
end
def NL:List Str:=["_law_one", "_law_other", "_law_found"]
theorem HF:FnScope NL ["_law_one", "_law_other"] (AC DN):=⟨rfl,rfl,rfl,by decide +kernel,rfl,by decide +kernel,by decide +kernel⟩
section
local macro_rules | `(tactic| walk_at "x")=>`(tactic| first | ((with_reducible show PS _ (.While ..) _);exact @QT _ _ _ _ _ _ a8Z (by walk_at "t") (by walk_at "q")))
theorem NM {f:Addr}{fd:FuncData}(F:Fun K "_law_shared" "_law_shared" DN f fd) (n_len:mg "len"=none) (n_min:mg "min"=none):FnOk P w K mg base CX0 1 f fd ["_law_one", "_law_other"] (spD K 2 HL):=by
 refine fnD F HF fun cdv A outer s H E hr=>?_
 have hu:=hr.units
 have nd:=HF.nd
 refine⟨_,by walk_at "b2", ?_⟩
 clear nd
 rintro xs M hl ⟨A,B,rfl,ha,hb⟩
 obtain⟨l1,l2,l3⟩:=JB A B
 have fin:∀(M1:Own),M1=M->∃M2:Own,M2.Sub M1/\HL.post [.d (AB A),.d (AB B)] M (.d (.int (AO A B:Nat))) M2:=fun M1 e1=>⟨M,e1▸zT M,fun A' B' e=>by
   simp only[List.cons.injEq,DS.d.injEq,PyData.tuple.injEq,and_true] at e
   obtain⟨e1,e2⟩:=e
   obtain rfl:=B7 e1
   obtain rfl:=B7 e2
   exact⟨rfl,rfl⟩⟩
 walk_at "r"
 refine S5 (fun m ρ1 M1=>∃k:Nat,M1=M/\k<=AO A B/\m=AO A B - k/\ρ1=[some (.d (AB A)),some (.d (AB B)),some (.d (.int (k:Nat)))]) ⟨_,0,rfl,xR _,rfl,rfl⟩ ?_
 rintro m ρ1 M1 ⟨k,rfl,hk,rfl,rfl⟩
 have hst:=XC hk
 walk_at "r"
 refine B3 ?_
 rw[zX]
 walk_at "r"
 refine B3 ?_
 rw[zX]
 walk_at "r"
 by_cases hc:k < A.length/\k < B.length
 case neg=>
   rw[decide_eq_false (show ¬((k:Nat):Int) < (if (B.length:Int) < (A.length:Int) then (B.length:Int) else (A.length:Int)) by split <;> omega),if_neg nft]
   rw[if_neg nft]
   have:k=AO A B:=by omega
   subst this
   walk_at "r"
   exact fin _ rfl
 rw[decide_eq_true (show((k:Nat):Int) < (if (B.length:Int) < (A.length:Int) then (B.length:Int) else (A.length:Int)) by split <;> omega),if_pos rfl]
 obtain⟨a,hak,ham,hal,had⟩:=CW hc.1
 obtain⟨b,hbk,hbm,hbl,hbd⟩:=CW hc.2
 walk_at "r"
 refine AA (ds:=A.map AF) (AD hal) ?_
 walk_at "r"
 refine AA (ds:=B.map AF) (AD hbl) ?_
 refine AT (B6 (l:=a) (ha.1 a ham).1 (ha.1 a ham).2) (B6 (l:=b) (hb.1 b hbm).1 (hb.1 b hbm).2) ?_
 rw[if_neg nft,show a0X (.tuple [.str a.1,a.2.d]) (.tuple [.str b.1,b.2.d])=eqL a b from rfl]
 cases he:eqL a b with
 | true=>
   have:=hst.mp ⟨a,b,hak,hbk,he⟩
   walk_at "r"
   exact⟨_,(show AO A B - (k+1) < AO A B - k by omega),k+1,rfl,by omega,rfl,rfl⟩
 | false=>
   have hn:¬k < AO A B:=fun q=>by
     obtain⟨a',b',e1,e2,e3⟩:=hst.mpr q
     rw[hak] at e1;rw[hbk] at e2;cases e1;cases e2
     rw[he] at e3;cases e3
   have:k=AO A B:=by omega
   subst this
   walk_at "r"
   exact fin _ rfl
end
def QN:List Str:=["_law_start_here", "_law_done_here", "_law_line"]
theorem JZ:FnScope QN ["_law_start_here", "_law_done_here", "_law_line"] (AC EU):=⟨rfl,rfl,rfl,by decide +kernel,rfl,by decide +kernel,by decide +kernel⟩
theorem QO {f:Addr}{fd:FuncData}(F:Fun K "_law_next" "_law_next" EU f fd) (h__law_is_book:Has P w K mg base "_law_is_book" 2 ["_law_start_here", "_law_lines_here"] CM):FnOk P w K mg base CX0 3 f fd ["_law_start_here", "_law_done_here", "_law_line"] (spD K 3 HB):=by
 refine fnD F JZ fun cdv A outer s H E hr=>?_
 have hu:=hr.units
 have nd:=JZ.nd
 refine⟨_,by walk_at "b1", ?_⟩
 clear nd
 rintro xs M hl ⟨w,C,l,rfl,hw,hlw,hreal,hC⟩
 walk_at "r"
 refine C8 ?_
 walk_at "r"
 refine C9 (by rw[zX];exact zN (show _<=61 by simp;omega) (by decide)) ?_
 walk_at "r"
 rw[show C.map AF++[AF l]=(C++[l]).map AF by simp]
 refine KW hw hlw hreal (by rw[yY];exact hC) ?_
 refine⟨M,zT M,fun w' C' l' e=>?_⟩
 simp only[List.cons.injEq,DS.d.injEq,PyData.list.injEq,PyData.tuple.injEq,and_true] at e
 obtain⟨g1,g2,g3⟩:=e
 obtain rfl:=B7 g2
 obtain rfl:l=l':=List.singleton_inj.mp (B7 (show [l].map AF=[l'].map AF by rw[zI,zI,g3]))
 have g4:(B8 w).map a0W=(B8 w').map .str:=by rw[← CO,← CO];injection g1 with g1;rw[g1]
 have g5:B8 w=B8 w':=(b5V (fun a b h=>PyData.str.inj h)).mp g4
 unfold bkB
 rw[← g5]
 exact⟨rfl,rfl⟩
def NN:List Str:=["_law_start_here", "_law_one", "_law_other", "_law_first", "_law_known", "_law_i", "_law_j", "_law_here"]
theorem CC:FnScope NN ["_law_start_here", "_law_one", "_law_other", "_law_first"] (AC DO):=⟨rfl,rfl,rfl,by decide +kernel,rfl,by decide +kernel,by decide +kernel⟩
theorem NO {f:Addr}{fd:FuncData}(F:Fun K "_law_can_be" "_law_can_be" DO f fd) (n_len:mg "len"=none) (n_list:mg "list"=none) (n_range:mg "range"=none) (h__law_next:Has P w K mg base "_law_next" 3 ["_law_start_here", "_law_done_here", "_law_line"] HB):FnOk P w K mg base CX0 4 f fd ["_law_start_here", "_law_one", "_law_other", "_law_first"] (spD K 4 JK):=by
 refine fnD F CC fun cdv A outer s H E hr=>?_
 have hu:=hr.units
 have hu1:=zQ (a6Z (show 1<=64 by decide) _) hu
 refine⟨_,(@BZ _ _ _ _ _ (@K0 _ _ (4) _ _ _ _ CC.nd rfl (by walk_at "lc") (@SG _ _ _ _ _ _ hu1 (@EF _ _ _ _ _ (@AE _ _ _ _ _ (@pv _ 3 _ _ (by rfl) (by walk_at "lc") (by decide) (by decide)) (@AE _ _ _ _ _ (@pv _ 3 _ _ (by rfl) (by walk_at "lc") (by decide) (by decide)) (@AX _) (by rfl)) (by rfl))) (@F7 _ _ _ _ _ _ _ _ _ (@YT _ (K) rfl) (by rfl) n_list a7X (@AE _ _ _ _ _ (@QX _ _ _ _ _ _ _ _ _ _ (@lJ _ (K) rfl) (@pv _ 1 _ _ (by rfl) (by walk_at "lc") (by decide) (by decide)) (@UT _) (@UU _ _ _ (@pv _ 3 _ _ (by rfl) (by walk_at "lc") (by decide) (by decide)))) (@AX _) (by rfl)) (by decide) (by decide) (by rfl) (by rfl))) (by rfl) (by first   | exact .inl rfl   | exact .inr rfl   | assumption)) (@BZ _ _ _ _ _ (@LY _ _ _ _ _ _ _ _ a8Z rfl (@K1 _ _ _ _ _ _ _ rfl n_range (@AE _ _ _ _ _ (@pv _ 3 _ _ (by rfl) (by walk_at "lc") (by decide) (by decide)) (@AE _ _ _ _ _ (@EE _ _ _ _ _ _ _ _ (@J5 _ (K) rfl) (@AZ _ _ _ _ _ _ _ _ _ (@ME _ (K) rfl) (by rfl) n_len a4K (@AE _ _ _ _ _ (@pv _ 1 _ _ (by rfl) (by walk_at "lc") (by decide) (by decide)) (@AX _) (by rfl)) (by decide) (by decide) (by rfl) (by rfl)) (@FK _ _ _ _)) (@AX _) (by rfl)) (by rfl)) (by rfl) (by rfl)) (@FM _ _ (5) _ CC.nd rfl (by walk_at "lc") (by first   | exact .inl rfl   | exact .inr rfl   | assumption)) (@CD _ _ _ (@LY _ _ _ _ _ _ _ _ a8Z rfl (@K1 _ _ _ _ _ _ _ rfl n_range (@AE _ _ _ _ _ (@pv _ 3 _ _ (by rfl) (by walk_at "lc") (by decide) (by decide)) (@AE _ _ _ _ _ (@EE _ _ _ _ _ _ _ _ (@J5 _ (K) rfl) (@AZ _ _ _ _ _ _ _ _ _ (@ME _ (K) rfl) (by rfl) n_len a4K (@AE _ _ _ _ _ (@pv _ 2 _ _ (by rfl) (by walk_at "lc") (by decide) (by decide)) (@AX _) (by rfl)) (by decide) (by decide) (by rfl) (by rfl)) (@FK _ _ _ _)) (@AX _) (by rfl)) (by rfl)) (by rfl) (by rfl)) (@FM _ _ (6) _ CC.nd rfl (by walk_at "lc") (by first   | exact .inl rfl   | exact .inr rfl   | assumption)) (@CD _ _ _ (@OC _ _ _ _ _ _ _ _ (@gI _ _ _ _ _ _ (@T7 _ _ _ _ _ hu1 (@EF _ _ _ _ _ (@AE _ _ _ _ _ (@pv _ 5 _ _ (by rfl) (by walk_at "lc") (by decide) (by decide)) (@AE _ _ _ _ _ (@pv _ 6 _ _ (by rfl) (by walk_at "lc") (by decide) (by decide)) (@AX _) (by rfl)) (by rfl))) (@pv _ 4 _ _ (by rfl) (by walk_at "lc") (by decide) (by decide))) (by with_unfolding_all rfl)) (@BZ _ _ _ _ _ (@K0 _ _ (7) _ _ _ _ CC.nd rfl (by walk_at "lc") (@bQ _ _ _ _ _ _ hu1 (@pv _ 4 _ _ (by rfl) (by walk_at "lc") (by decide) (by decide)) (@EF _ _ _ _ _ (@AE _ _ _ _ _ (@pv _ 5 _ _ (by rfl) (by walk_at "lc") (by decide) (by decide)) (@AE _ _ _ _ _ (@pv _ 6 _ _ (by rfl) (by walk_at "lc") (by decide) (by decide)) (@AX _) (by rfl)) (by rfl))) (fun _ _=>rfl)) (by rfl) (by first   | exact .inl rfl   | exact .inr rfl   | assumption)) (@BZ _ _ _ _ _ (@OC _ _ _ _ _ _ _ _ (@L2.PW.pt _ _ _ (@pw_and _ _ _ _ _ _ _ (@B9 _ _ _ _ _ _ _ _ (@K5 _) (@pv _ 5 _ _ (by rfl) (by walk_at "lc") (by decide) (by decide)) (@AZ _ _ _ _ _ _ _ _ _ (@ME _ (K) rfl) (by rfl) n_len a4K (@AE _ _ _ _ _ (@pv _ 1 _ _ (by rfl) (by walk_at "lc") (by decide) (by decide)) (@AX _) (by rfl)) (by decide) (by decide) (by rfl) (by rfl)) (@BW _ _ (by decide) (by decide))) (@pw_and1 _ _ _ _ (@SU _ _ _ (@YO _ (K) (P) (w) (mg) (base) _ _ _ _ _ _ _ _ _ rfl rfl rfl rfl rfl h__law_next (hr.mono (by decide)) rfl (@AE _ _ _ _ _ (@pv _ 0 _ _ (by rfl) (by walk_at "lc") (by decide) (by decide)) (@AE _ _ _ _ _ (@pv _ 7 _ _ (by rfl) (by walk_at "lc") (by decide) (by decide)) (@AE _ _ _ _ _ (@M7 _ _ _ _ _ _ _ (@kIx _ (K) rfl) (@pv _ 1 _ _ (by rfl) (by walk_at "lc") (by decide) (by decide)) (@pv _ 5 _ _ (by rfl) (by walk_at "lc") (by decide) (by decide)) (fun _ _=>rfl)) (@AX _) (by rfl)) (by rfl)) (by rfl)) (by decide) (by rfl) (by rfl)) (by intro _;rfl))))) (@CD _ _ _ (@LK _ _ _ _ _ _ _ _ _ hu1 (@pv _ 4 _ _ (by rfl) (by walk_at "lc") (by decide) (by decide)) (@EF _ _ _ _ _ (@AE _ _ _ _ _ (@EE _ _ _ _ _ _ _ _ (@J5 _ (K) rfl) (@pv _ 5 _ _ (by rfl) (by walk_at "lc") (by decide) (by decide)) (@FK _ _ _ _)) (@AE _ _ _ _ _ (@pv _ 6 _ _ (by rfl) (by walk_at "lc") (by decide) (by decide)) (@AX _) (by rfl)) (by rfl))) (@EE _ _ _ _ _ _ _ _ (@J5 _ (K) rfl) (@pv _ 7 _ _ (by rfl) (by walk_at "lc") (by decide) (by decide)) (@T1 _ _ _ _ (@AE _ _ _ _ _ (@M7 _ _ _ _ _ _ _ (@kIx _ (K) rfl) (@pv _ 1 _ _ (by rfl) (by walk_at "lc") (by decide) (by decide)) (@pv _ 5 _ _ (by rfl) (by walk_at "lc") (by decide) (by decide)) (fun _ _=>rfl)) (@AX _) (by rfl)))) (by rfl))) (@HG _)) (@CD _ _ _ (@OC _ _ _ _ _ _ _ _ (@L2.PW.pt _ _ _ (@pw_and _ _ _ _ _ _ _ (@B9 _ _ _ _ _ _ _ _ (@K5 _) (@pv _ 6 _ _ (by rfl) (by walk_at "lc") (by decide) (by decide)) (@AZ _ _ _ _ _ _ _ _ _ (@ME _ (K) rfl) (by rfl) n_len a4K (@AE _ _ _ _ _ (@pv _ 2 _ _ (by rfl) (by walk_at "lc") (by decide) (by decide)) (@AX _) (by rfl)) (by decide) (by decide) (by rfl) (by rfl)) (@BW _ _ (by decide) (by decide))) (@pw_and1 _ _ _ _ (@SU _ _ _ (@YO _ (K) (P) (w) (mg) (base) _ _ _ _ _ _ _ _ _ rfl rfl rfl rfl rfl h__law_next (hr.mono (by decide)) rfl (@AE _ _ _ _ _ (@pv _ 0 _ _ (by rfl) (by walk_at "lc") (by decide) (by decide)) (@AE _ _ _ _ _ (@pv _ 7 _ _ (by rfl) (by walk_at "lc") (by decide) (by decide)) (@AE _ _ _ _ _ (@M7 _ _ _ _ _ _ _ (@kIx _ (K) rfl) (@pv _ 2 _ _ (by rfl) (by walk_at "lc") (by decide) (by decide)) (@pv _ 6 _ _ (by rfl) (by walk_at "lc") (by decide) (by decide)) (fun _ _=>rfl)) (@AX _) (by rfl)) (by rfl)) (by rfl)) (by decide) (by rfl) (by rfl)) (by intro _;rfl))))) (@CD _ _ _ (@LK _ _ _ _ _ _ _ _ _ hu1 (@pv _ 4 _ _ (by rfl) (by walk_at "lc") (by decide) (by decide)) (@EF _ _ _ _ _ (@AE _ _ _ _ _ (@pv _ 5 _ _ (by rfl) (by walk_at "lc") (by decide) (by decide)) (@AE _ _ _ _ _ (@EE _ _ _ _ _ _ _ _ (@J5 _ (K) rfl) (@pv _ 6 _ _ (by rfl) (by walk_at "lc") (by decide) (by decide)) (@FK _ _ _ _)) (@AX _) (by rfl)) (by rfl))) (@EE _ _ _ _ _ _ _ _ (@J5 _ (K) rfl) (@pv _ 7 _ _ (by rfl) (by walk_at "lc") (by decide) (by decide)) (@T1 _ _ _ _ (@AE _ _ _ _ _ (@M7 _ _ _ _ _ _ _ (@kIx _ (K) rfl) (@pv _ 2 _ _ (by rfl) (by walk_at "lc") (by decide) (by decide)) (@pv _ 6 _ _ (by rfl) (by walk_at "lc") (by decide) (by decide)) (fun _ _=>rfl)) (@AX _) (by rfl)))) (by rfl))) (@HG _))))) (@HG _))) (by intro _;rfl))) (by intro _;rfl)) (@CD _ _ _ (@SV _ _ _ _ (@XO _ _ _ _ _ _ (@T7 _ _ _ _ _ hu1 (@EF _ _ _ _ _ (@AE _ _ _ _ _ (@AZ _ _ _ _ _ _ _ _ _ (@ME _ (K) rfl) (by rfl) n_len a4K (@AE _ _ _ _ _ (@pv _ 1 _ _ (by rfl) (by walk_at "lc") (by decide) (by decide)) (@AX _) (by rfl)) (by decide) (by decide) (by rfl) (by rfl)) (@AE _ _ _ _ _ (@AZ _ _ _ _ _ _ _ _ _ (@ME _ (K) rfl) (by rfl) n_len a4K (@AE _ _ _ _ _ (@pv _ 2 _ _ (by rfl) (by walk_at "lc") (by decide) (by decide)) (@AX _) (by rfl)) (by decide) (by decide) (by rfl) (by rfl)) (@AX _) (by rfl)) (by rfl))) (@pv _ 4 _ _ (by rfl) (by walk_at "lc") (by decide) (by decide))) (by with_unfolding_all rfl)))))),?_⟩
 rintro xs M hl ⟨w,A,B,c,rfl,h⟩
 have hA:=h.t.la
 have hB:=h.t.lb
 have ca:=h.ca
 have cb:=h.cb
 walk_at "r"
 refine SL fun p hp=>?_
 walk_at "r"
 refine⟨(c,c),rfl,?_⟩
 walk_at "r"
 refine AS ?_
 rw[K7,← a5V]
 walk_at "r"
 refine MF ?_
 refine⟨_,rfl,zU,?_⟩
 rw[yI]
 walk_at "r"
 refine GS ?_
 refine VJ ?_
 walk_at "r"
 refine B3 ?_
 rw[zX]
 walk_at "r"
 refine⟨(c:Int),(A.length:Int)+1,rfl,⟨by omega,by omega,by omega,by omega⟩,?_⟩
 refine⟨fun k ρ1 M1=>∃(ts:List (NP×PyData)) (x5 x6 x7:Option DS),M1=M.put p (.t (tdP ts))/\ts.length<=1+30*k/\DPI (B8 w) A B c ts (c+k) c/\ρ1=[some (.d (wD w)),some (.d (AB A)),some (.d (AB B)),some (.d (.int (c:Int))),some (.loc p),x5,x6,x7],⟨_,_,_,_,rfl,zR _,DPI.start ca cb h.t.a,rfl⟩,?_,?_⟩
 · rintro k d ρ1 M1 hd ⟨ts,x5,x6,x7,rfl,hlen,hD,rfl⟩
   unfold BK at hd
   rw[zF] at hd
   obtain⟨k',hk,rfl⟩:=Option.map_eq_some_iff.mp hd
   obtain⟨hk1,rfl⟩:k < ((A.length:Int)+1 - c).toNat/\k=k':=by
     have:=yT.mp hk
     obtain⟨h1,h2⟩:=this
     rw[xY] at h1
     rw[List.getElem_range] at h2
     exact⟨h1,h2⟩
   have hkA:c+k<=A.length:=by omega
   walk_at "r"
   refine GS ?_
   refine VJ ?_
   walk_at "r"
   refine B3 ?_
   rw[zX]
   walk_at "r"
   refine⟨(c:Int),(B.length:Int)+1,rfl,⟨by omega,by omega,by omega,by omega⟩,?_⟩
   refine⟨fun n ρ1 M1=>∃(ts:List (NP×PyData)) (x6 x7:Option DS),M1=M.put p (.t (tdP ts))/\ts.length<=1+30*k+2*n/\DPI (B8 w) A B c ts (c+k) (c+n)/\ρ1=[some (.d (wD w)),some (.d (AB A)),some (.d (AB B)),some (.d (.int (c:Int))),some (.loc p),some (.d (.int ((c+k:Nat):Int))),x6,x7],⟨ts,_,_,rfl,hlen,hD,rfl⟩,?_,?_⟩
   · rintro n d ρ1 M1 hd ⟨ts,x6,x7,rfl,hlen,hD,rfl⟩
     unfold BK at hd
     rw[zF] at hd
     obtain⟨n',hn,rfl⟩:=Option.map_eq_some_iff.mp hd
     obtain⟨hn1,rfl⟩:n < ((B.length:Int)+1 - c).toNat/\n=n':=by
       have:=yT.mp hn
       obtain⟨h1,h2⟩:=this
       rw[xY] at h1
       rw[List.getElem_range] at h2
       exact⟨h1,h2⟩
     have hnB:c+n<=B.length:=by omega
     walk_at "r"
     refine QA ?_
     walk_at "r"
     refine⟨(c+k,c+n),rfl,?_⟩
     walk_at "r"
     refine⟨p,ts,rfl,zU,?_⟩
     cases hz:(AU ts (c+k,c+n)).isSome with
     | false=>
       walk_at "r"
       exact⟨ts,_,_,rfl,by omega,hD.skip hnB hz,rfl⟩
     | true=>
       obtain⟨d0,hd0⟩:=xX.mp hz
       obtain⟨C,rfl,m,hC⟩:=hD.sound _ _ hd0
       have m:Mx A B c (c+k) (c+n) C:=m
       have hs0:=hD.sound
       have hCl:=m.len ca
       have hreal:∀x∈C,x.2.real:=fun x hx=>(m.sub x hx).elim (fun q=>h.t.t.2.1.real x q) fun q=>h.t.t.2.2.real x q
       walk_at "r"
       refine aS ?_
       walk_at "r"
       refine⟨(c+k,c+n),rfl,p,ts,_,rfl,zU,hd0,?_⟩
       walk_at "wks"
       refine IM (fun ρ1 M1=>∃ts1:List (NP×PyData),M1=M.put p (.t (tdP ts1))/\ts1.length<=1+30*k+2*n+1/\KH (B8 w) A B c ts1/\(∀z,(AU ts z).isSome=true->(AU ts1 z).isSome=true)/\(∀l,A[c+k]?=some l->BkD (B8 w) (dsL (C++[l]))->(AU ts1 (c+k+1,c+n)).isSome=true)/\ρ1=[some (.d (wD w)),some (.d (AB A)),some (.d (AB B)),some (.d (.int (c:Int))),some (.loc p),some (.d (.int ((c+k:Nat):Int))),some (.d (.int ((c+n:Nat):Int))),some (.d (HA C))]) ?_ ?_
       · walk_at "r"
         refine B3 ?_
         rw[zX]
         walk_at "r"
         by_cases hc:c+k < A.length
         case neg=>
           rw[decide_eq_false (show ¬((c+k:Nat):Int) < (A.length:Int) by omega),if_neg nft]
           walk_at "r"
           exact⟨by omega,hs0,fun z hz=>hz,fun l e q=>(by rw[a0J (by omega)] at e;cases e),rfl⟩
         rw[decide_eq_true (show((c+k:Nat):Int) < (A.length:Int) by omega),if_pos rfl]
         obtain⟨y,hy,hym,hyl,hyd⟩:=CW hc
         walk_at "r"
         refine AA (ds:=A.map AF) (AD hyl) ?_
         walk_at "r"
         refine P1 (C:=C) (l:=y) h.t.t.1 h.t.lw (fun x hx=>(yW.mp hx).elim (hreal x) fun q=>by rw[List.mem_singleton.mp q];exact h.t.t.2.1.real y hym) (by omega) ?_
         cases hb:bkB w (C++[y]) with
         | false=>
           walk_at "r"
           exact⟨by omega,hs0,fun z hz=>hz,fun l e q=>(by rw[hy] at e;cases e;rw[show bkB w (C++[y])=true from GY.mpr q] at hb;cases hb),rfl⟩
         | true=>
           walk_at "r"
           refine JJ ?_
           walk_at "r"
           refine C8 ?_
           walk_at "r"
           refine AA (ds:=A.map AF) (AD hyl) ?_
           walk_at "r"
           refine C9 (by rw[zX];exact zN (show _<=61 by simp;omega) (by decide)) ?_
           rw[show C.map AF++[.tuple [.str y.1,y.2.d]]=(C++[y]).map AF by simp[AF]]
           walk_at "r"
           refine⟨(c+k+1,c+n),rfl,p,ts,_,rfl,rfl,zU,?_,?_⟩
           · rw[sizeLine_eq];omega
           rw[yI]
           have dq:=aT hs0 (k:=(c+k+1,c+n)) (.a m hy) (GY.mp hb)
           exact⟨_,rfl,zN (JG _ _ _) (by omega),dq.1,dq.2.1,fun _ _ _=>dq.2.2,rfl⟩
       · rintro ρ1 M1 ⟨ts1,rfl,hl1,hs1,hm1,hA1,rfl⟩
         have fin2:∀(ts2:List (NP×PyData)) {M1:Own},M1=M.put p (.t (tdP ts2))->ts2.length<=1+30*k+2*n+2->KH (B8 w) A B c ts2->(∀z,(AU ts1 z).isSome=true->(AU ts2 z).isSome=true)->(∀l,B[c+n]?=some l->BkD (B8 w) (dsL (C++[l]))->(AU ts2 (c+k,c+n+1)).isSome=true)->∃(ts:List (NP×PyData)) (x6 x7:Option DS),M1=M.put p (.t (tdP ts))/\ts.length<=1+30*k+2*(n+1)/\DPI (B8 w) A B c ts (c+k) (c+(n+1))/\[some (.d (wD w)),some (.d (AB A)),some (.d (AB B)),some (.d (.int (c:Int))),some (.loc p),some (.d (.int ((c+k:Nat):Int))),some (.d (.int ((c+n:Nat):Int))),some (.d (HA C))]=[some (.d (wD w)),some (.d (AB A)),some (.d (AB B)),some (.d (.int (c:Int))),some (.loc p),some (.d (.int ((c+k:Nat):Int))),x6,x7]:=fun ts2 M1 e h1 h2 h3 h4=>
           ⟨ts2,_,_,e,by omega,hD.cell h.t.a ca h.p m hC h2 (fun z q=>h3 z (hm1 z q)) (fun l e q=>h3 _ (hA1 l e q)) h4,rfl⟩
         walk_at "r"
         refine B3 ?_
         rw[zX]
         walk_at "r"
         by_cases hc:c+n < B.length
         case neg=>
           rw[decide_eq_false (show ¬((c+n:Nat):Int) < (B.length:Int) by omega),if_neg nft]
           walk_at "r"
           exact fin2 ts1 rfl (by omega) hs1 (fun z hz=>hz) fun l e q=>(by rw[a0J (by omega)] at e;cases e)
         rw[decide_eq_true (show((c+n:Nat):Int) < (B.length:Int) by omega),if_pos rfl]
         obtain⟨y,hy,hym,hyl,hyd⟩:=CW hc
         walk_at "r"
         refine AA (ds:=B.map AF) (AD hyl) ?_
         walk_at "r"
         refine P1 (C:=C) (l:=y) h.t.t.1 h.t.lw (fun x hx=>(yW.mp hx).elim (hreal x) fun q=>by rw[List.mem_singleton.mp q];exact h.t.t.2.2.real y hym) (by omega) ?_
         cases hb:bkB w (C++[y]) with
         | false=>
           walk_at "r"
           exact fin2 ts1 rfl (by omega) hs1 (fun z hz=>hz) fun l e q=>(by rw[hy] at e;cases e;rw[show bkB w (C++[y])=true from GY.mpr q] at hb;cases hb)
         | true=>
           walk_at "r"
           refine JJ ?_
           walk_at "r"
           refine C8 ?_
           walk_at "r"
           refine AA (ds:=B.map AF) (AD hyl) ?_
           walk_at "r"
           refine C9 (by rw[zX];exact zN (show _<=61 by simp;omega) (by decide)) ?_
           rw[show C.map AF++[.tuple [.str y.1,y.2.d]]=(C++[y]).map AF by simp[AF]]
           walk_at "r"
           refine⟨(c+k,c+n+1),rfl,p,ts1,_,rfl,rfl,zU,?_,?_⟩
           · rw[sizeLine_eq];omega
           rw[yI]
           have dq:=aT hs1 (k:=(c+k,c+n+1)) (.b m hy) (GY.mp hb)
           exact fin2 _ rfl (zN (JG _ _ _) (by omega)) dq.1 dq.2.1 fun _ _ _=>dq.2.2
   · rintro ρ1 M1 ⟨ts,x6,x7,rfl,hlen,hD,rfl⟩
     have e:(BK (c:Int) ((B.length:Int)+1 - c).toNat).length=B.length+1 - c:=by unfold BK;rw[zX,xY];omega
     rw[e] at hlen hD
     rw[show c+(B.length+1 - c)=B.length+1 by omega] at hD
     exact⟨ts,_,_,_,rfl,by omega,hD.row ca cb,rfl⟩
 · rintro ρ1 M1 ⟨ts,x5,x6,x7,rfl,hlen,hD,rfl⟩
   have e:(BK (c:Int) ((A.length:Int)+1 - c).toNat).length=A.length+1 - c:=by unfold BK;rw[zX,xY];omega
   rw[e,show c+(A.length+1 - c)=A.length+1 by omega] at hD
   walk_at "r"
   refine QA ?_
   walk_at "r"
   refine B3 ?_
   rw[zX]
   walk_at "r"
   refine B3 ?_
   rw[zX]
   walk_at "r"
   refine⟨(A.length,B.length),rfl,?_⟩
   walk_at "r"
   refine⟨p,ts,rfl,zU,?_⟩
   refine⟨M,(zT M).put hp,fun w' A' B' c' e=>⟨rfl,_,rfl,?_⟩⟩
   simp only[List.cons.injEq,DS.d.injEq,PyData.tuple.injEq,PyData.int.injEq,and_true] at e
   obtain⟨g1,g2,g3,g4⟩:=e
   obtain rfl:=B7 g2
   obtain rfl:=B7 g3
   obtain rfl:c=c':=by omega
   have g5:(B8 w).map a0W=(B8 w').map .str:=by rw[← CO,← CO];injection g1 with g1;rw[g1]
   have g6:B8 w=B8 w':=(b5V (fun a b h=>PyData.str.inj h)).mp g5
   rw[← g6]
   exact hD.ends
def KI:List Str:=["_law_lines_here", "_law_ones", "_law_others", "_law_ways_here", "_law_line", "_law_more", "_law_i", "_law_j"]
theorem AY:FnScope KI ["_law_lines_here", "_law_ones", "_law_others"] (AC CK):=⟨rfl,rfl,rfl,by decide +kernel,rfl,by decide +kernel,by decide +kernel⟩
theorem KJ {f:Addr}{fd:FuncData}(F:Fun K "_law_mixed_of" "_law_mixed_of" CK f fd) (n_len:mg "len"=none):FnOk P w K mg base CX0 1 f fd ["_law_lines_here", "_law_ones", "_law_others"] (spD K 3 JL):=by
 refine fnD F AY fun cdv A outer s H E hr=>?_
 have hu:=hr.units
 have hu1:=zQ (a6Z (show 1<=64 by decide) _) hu
 refine⟨_,(@BZ _ _ _ _ _ (@K0 _ _ (3) _ _ _ _ AY.nd rfl (by walk_at "lc") (@SG _ _ _ _ _ _ hu1 (@EF _ _ _ _ _ (@AE _ _ _ _ _ (@FK _ _ _ _) (@AE _ _ _ _ _ (@FK _ _ _ _) (@AX _) (by rfl)) (by rfl))) (@UL _ _ _ _)) (by rfl) (by first   | exact .inl rfl   | exact .inr rfl   | assumption)) (@BZ _ _ _ _ _ (@LY _ _ _ _ _ _ _ _ a8Z rfl (@fS _ (K) _ _ _ rfl (@pv _ 0 _ _ (by rfl) (by walk_at "lc") (by decide) (by decide))) (@FM _ _ (4) _ AY.nd rfl (by walk_at "lc") (by first   | exact .inl rfl   | exact .inr rfl   | assumption)) (@BZ _ _ _ _ _ (@K0 _ _ (5) _ _ _ _ AY.nd rfl (by walk_at "lc") (@Y2 _ _) (by rfl) (by first   | exact .inl rfl   | exact .inr rfl   | assumption)) (@BZ _ _ _ _ _ (@LY _ _ _ _ _ _ _ _ a8Z rfl (@e9 _ _ _ _ (@pv _ 3 _ _ (by rfl) (by walk_at "lc") (by decide) (by decide))) (@jF _ (K) _ _ _ _ (2) rfl rfl (@LU _ _ _ _ _ (@FM _ _ (6) _ AY.nd rfl (by walk_at "lc") (by first   | exact .inl rfl   | exact .inr rfl   | assumption)) (@LU _ _ _ _ _ (@FM _ _ (7) _ AY.nd rfl (by walk_at "lc") (by first   | exact .inl rfl   | exact .inr rfl   | assumption)) (@UO _) (by rfl)) (by rfl)) (by rfl) (by rfl)) (@BZ _ _ _ _ _ (@OC _ _ _ _ _ _ _ _ (@L2.PW.pt _ _ _ (@pw_and _ _ _ _ _ _ _ (@B9 _ _ _ _ _ _ _ _ (@K5 _) (@pv _ 6 _ _ (by rfl) (by walk_at "lc") (by decide) (by decide)) (@AZ _ _ _ _ _ _ _ _ _ (@ME _ (K) rfl) (by rfl) n_len a4K (@AE _ _ _ _ _ (@pv _ 1 _ _ (by rfl) (by walk_at "lc") (by decide) (by decide)) (@AX _) (by rfl)) (by decide) (by decide) (by rfl) (by rfl)) (@BW _ _ (by decide) (by decide))) (@pw_and1 _ _ _ _ (@B9 _ _ _ _ _ _ _ _ (@kEq _ (K) rfl hu) (@M7 _ _ _ _ _ _ _ (@kIx _ (K) rfl) (@pv _ 1 _ _ (by rfl) (by walk_at "lc") (by decide) (by decide)) (@pv _ 6 _ _ (by rfl) (by walk_at "lc") (by decide) (by decide)) (fun _ _=>rfl)) (@pv _ 4 _ _ (by rfl) (by walk_at "lc") (by decide) (by decide)) (@BW _ _ (by decide) (by decide)))))) (@CD _ _ _ (@LK _ _ _ _ _ _ _ _ _ hu1 (@pv _ 5 _ _ (by rfl) (by walk_at "lc") (by decide) (by decide)) (@EF _ _ _ _ _ (@AE _ _ _ _ _ (@EE _ _ _ _ _ _ _ _ (@J5 _ (K) rfl) (@pv _ 6 _ _ (by rfl) (by walk_at "lc") (by decide) (by decide)) (@FK _ _ _ _)) (@AE _ _ _ _ _ (@pv _ 7 _ _ (by rfl) (by walk_at "lc") (by decide) (by decide)) (@AX _) (by rfl)) (by rfl))) (@UL _ _ _ _) (by rfl))) (@HG _)) (@CD _ _ _ (@OC _ _ _ _ _ _ _ _ (@L2.PW.pt _ _ _ (@pw_and _ _ _ _ _ _ _ (@B9 _ _ _ _ _ _ _ _ (@K5 _) (@pv _ 7 _ _ (by rfl) (by walk_at "lc") (by decide) (by decide)) (@AZ _ _ _ _ _ _ _ _ _ (@ME _ (K) rfl) (by rfl) n_len a4K (@AE _ _ _ _ _ (@pv _ 2 _ _ (by rfl) (by walk_at "lc") (by decide) (by decide)) (@AX _) (by rfl)) (by decide) (by decide) (by rfl) (by rfl)) (@BW _ _ (by decide) (by decide))) (@pw_and1 _ _ _ _ (@B9 _ _ _ _ _ _ _ _ (@kEq _ (K) rfl hu) (@M7 _ _ _ _ _ _ _ (@kIx _ (K) rfl) (@pv _ 2 _ _ (by rfl) (by walk_at "lc") (by decide) (by decide)) (@pv _ 7 _ _ (by rfl) (by walk_at "lc") (by decide) (by decide)) (fun _ _=>rfl)) (@pv _ 4 _ _ (by rfl) (by walk_at "lc") (by decide) (by decide)) (@BW _ _ (by decide) (by decide)))))) (@CD _ _ _ (@LK _ _ _ _ _ _ _ _ _ hu1 (@pv _ 5 _ _ (by rfl) (by walk_at "lc") (by decide) (by decide)) (@EF _ _ _ _ _ (@AE _ _ _ _ _ (@pv _ 6 _ _ (by rfl) (by walk_at "lc") (by decide) (by decide)) (@AE _ _ _ _ _ (@EE _ _ _ _ _ _ _ _ (@J5 _ (K) rfl) (@pv _ 7 _ _ (by rfl) (by walk_at "lc") (by decide) (by decide)) (@FK _ _ _ _)) (@AX _) (by rfl)) (by rfl))) (@UL _ _ _ _) (by rfl))) (@HG _)))) (by intro _;rfl)) (@CD _ _ _ (@K0 _ _ (3) _ _ _ _ AY.nd rfl (by walk_at "lc") (@pv _ 5 _ _ (by rfl) (by walk_at "lc") (by decide) (by decide)) (by rfl) (by first   | exact .inl rfl   | exact .inr rfl   | assumption))))) (by intro _;rfl)) (@CD _ _ _ (@SV _ _ _ _ (@XO _ _ _ _ _ _ (@T7 _ _ _ _ _ hu1 (@EF _ _ _ _ _ (@AE _ _ _ _ _ (@AZ _ _ _ _ _ _ _ _ _ (@ME _ (K) rfl) (by rfl) n_len a4K (@AE _ _ _ _ _ (@pv _ 1 _ _ (by rfl) (by walk_at "lc") (by decide) (by decide)) (@AX _) (by rfl)) (by decide) (by decide) (by rfl) (by rfl)) (@AE _ _ _ _ _ (@AZ _ _ _ _ _ _ _ _ _ (@ME _ (K) rfl) (by rfl) n_len a4K (@AE _ _ _ _ _ (@pv _ 2 _ _ (by rfl) (by walk_at "lc") (by decide) (by decide)) (@AX _) (by rfl)) (by decide) (by decide) (by rfl) (by rfl)) (@AX _) (by rfl)) (by rfl))) (@pv _ 3 _ _ (by rfl) (by walk_at "lc") (by decide) (by decide))) (by with_unfolding_all rfl)))))),?_⟩
 rintro xs M hl ⟨L,A,B,rfl,hm,hL,oL,oA,oB⟩
 obtain⟨f,f0,fe,fs⟩:=hm.path rfl
 walk_at "r"
 refine SL fun p0 hp0=>?_
 walk_at "r"
 refine⟨(0,0),rfl,?_⟩
 walk_at "dl"
 refine⟨_,rfl,zU,?_⟩
 rw[yI]
 walk_at "r"
 · refine GS ?_
   refine LO ?_
   walk_at "r"
   refine⟨fun k ρ1 M1=>∃(a:Addr) (ts:List (NP×PyData)) (x4 x5 x6 x7:Option DS),M a=none/\M1=M.put a (.t (tdP ts))/\ts.length<=2 ^ k/\f k∈ts.map (·.1)/\ρ1=[some (.d (AB L)),some (.d (AB A)),some (.d (AB B)),some (.loc a),x4,x5,x6,x7],?_,?_,?_⟩
   · exact⟨p0,_,_,_,_,_,hp0,rfl,zR _,by rw[f0];simp,rfl⟩
   · rintro k d ρ1 M1 hd ⟨a,ts,x4,x5,x6,x7,ha,rfl,hlen,hk,rfl⟩
     rw[zF] at hd
     obtain⟨l,hl2,rfl⟩:=Option.map_eq_some_iff.mp hd
     have hol:=oL.1 l (yN hl2)
     have hkL:k < L.length:=(yT.mp hl2).1
     walk_at "r"
     refine aR fun p hp=>?_
     have hpa:p≠a:=by rintro rfl;rw[zU] at hp;cases hp
     have hMp:M p=none:=by rw[yH hpa] at hp;exact hp
     walk_at "r"
     refine GS ?_
     refine eF ?_
     walk_at "r"
     refine⟨a,ts,rfl,by rw[yH hpa.symm];exact zU,?_⟩
     rw[eJ ha hpa]
     refine⟨fun n ρ1 M1=>∃(ts':List (NP×PyData)) (x6 x7:Option DS),M1=M.put p (.t (tdP ts'))/\ts'.length<=2*n/\(∀(i:Nat) t,i < n->ts[i]?=some t->t.1=f k->f (k+1)∈ts'.map (·.1))/\ρ1=[some (.d (AB L)),some (.d (AB A)),some (.d (AB B)),some (.loc a),some (.d (AF l)),some (.loc p),x6,x7],⟨[],_,_,rfl,xR _,fun i t h=>absurd h (Nat.not_lt_zero _),rfl⟩,?_,?_⟩
     · rintro n d ρ1 M1 hd2 ⟨ts',x6,x7,rfl,hlen',hin,rfl⟩
       rw[zF] at hd2
       obtain⟨⟨⟨i,j⟩,v⟩,ht,rfl⟩:=Option.map_eq_some_iff.mp hd2
       have hnt:n < ts.length:=(yT.mp ht).1
       refine YV (ds:=[.int (i:Int),.int (j:Int)]) rfl ?_
       walk_at "wks"
       refine IM (fun ρ1 M1=>∃ts1:List (NP×PyData),M1=M.put p (.t (tdP ts1))/\ts1.length<=2*n+1/\(∀z∈ts'.map (·.1),z∈ts1.map (·.1))/\(A[i]?=some l->(i+1,j)∈ts1.map (·.1))/\ρ1=[some (.d (AB L)),some (.d (AB A)),some (.d (AB B)),some (.loc a),some (.d (AF l)),some (.loc p),some (.d (.int (i:Int))),some (.d (.int (j:Int)))]) ?_ ?_
       · walk_at "r"
         refine B3 ?_
         rw[zX]
         walk_at "r"
         by_cases hc:i < A.length
         case neg=>
           rw[decide_eq_false (show ¬((i:Nat):Int) < (A.length:Int) by omega),if_neg nft]
           walk_at "r"
           exact⟨by omega,fun z hz=>hz,fun e=>(by rw[a0J (by omega)] at e;cases e),rfl⟩
         rw[decide_eq_true (show((i:Nat):Int) < (A.length:Int) by omega),if_pos rfl]
         obtain⟨y,hy,hym,hyl,hyd⟩:=CW hc
         walk_at "r"
         refine AA (ds:=A.map AF) (AD hyl) ?_
         walk_at "r"
         refine AT (B6 (l:=y) (oA.1 y hym).1 (oA.1 y hym).2) (B6 (l:=l) hol.1 hol.2) ?_
         rw[if_neg nft,show a0X (.tuple [.str y.1,y.2.d]) (AF l)=eqL y l from rfl]
         cases he:eqL y l with
         | false=>
           walk_at "r"
           exact⟨by omega,fun z hz=>hz,fun e=>(by rw[hy] at e;cases e;rw[show eqL l l=true from GX (B6 hol.1 hol.2)] at he;cases he),rfl⟩
         | true=>
           obtain rfl:=U7 he
           walk_at "r"
           refine JJ ?_
           walk_at "r"
           refine⟨(i+1,j),rfl,p,ts',.bool true,rfl,rfl,zU,?_,?_⟩
           · rw[sizeLine_eq];have:=Nat.pow_le_pow_right (n:=2) (by decide) (show k<=23 by omega);omega
           rw[yI]
           exact⟨_,rfl,zN (JG _ _ _) (by omega),fun z hz=>aU hz,fun _=>aV,rfl⟩
       · rintro ρ1 M1 ⟨ts1,rfl,hl1,hm1,hA1,rfl⟩
         have fin2:∀(ts2:List (NP×PyData)) {M1:Own},M1=M.put p (.t (tdP ts2))->ts2.length<=2*n+2->(∀z∈ts1.map (·.1),z∈ts2.map (·.1))->(B[j]?=some l->(i,j+1)∈ts2.map (·.1))->∃(ts':List (NP×PyData)) (x6 x7:Option DS),M1=M.put p (.t (tdP ts'))/\ts'.length<=2*(n+1)/\(∀(i:Nat) t,i < n+1->ts[i]?=some t->t.1=f k->f (k+1)∈ts'.map (·.1))/\[some (.d (AB L)),some (.d (AB A)),some (.d (AB B)),some (.loc a),some (.d (AF l)),some (.loc p),some (.d (.int (i:Int))),some (.d (.int (j:Int)))]=[some (.d (AB L)),some (.d (AB A)),some (.d (AB B)),some (.loc a),some (.d (AF l)),some (.loc p),x6,x7]:=fun ts2 M1 e h1 h2 h3=>by
           refine⟨ts2,_,_,e,by omega,fun i2 t hi2 ht2 e2=>?_,rfl⟩
           by_cases hi3:i2 < n
           · exact h2 _ (hm1 _ (hin i2 t hi3 ht2 e2))
           · obtain rfl:i2=n:=by omega
             rw[ht] at ht2
             cases ht2
             obtain⟨x,hx,q⟩:=fs k hkL
             rw[hl2] at hx
             cases hx
             rw[← e2] at q
             rcases q with ⟨q1,q2⟩ | ⟨q1,q2⟩
             · rw[q2];exact h2 _ (hA1 q1)
             · rw[q2];exact h3 q1
         walk_at "r"
         refine B3 ?_
         rw[zX]
         walk_at "r"
         by_cases hc:j < B.length
         case neg=>
           rw[decide_eq_false (show ¬((j:Nat):Int) < (B.length:Int) by omega),if_neg nft]
           walk_at "r"
           exact fin2 ts1 rfl (by omega) (fun z hz=>hz) fun e=>(by rw[a0J (by omega)] at e;cases e)
         rw[decide_eq_true (show((j:Nat):Int) < (B.length:Int) by omega),if_pos rfl]
         obtain⟨y,hy,hym,hyl,hyd⟩:=CW hc
         walk_at "r"
         refine AA (ds:=B.map AF) (AD hyl) ?_
         walk_at "r"
         refine AT (B6 (l:=y) (oB.1 y hym).1 (oB.1 y hym).2) (B6 (l:=l) hol.1 hol.2) ?_
         rw[if_neg nft,show a0X (.tuple [.str y.1,y.2.d]) (AF l)=eqL y l from rfl]
         cases he:eqL y l with
         | false=>
           walk_at "r"
           exact fin2 ts1 rfl (by omega) (fun z hz=>hz) fun e=>(by rw[hy] at e;cases e;rw[show eqL l l=true from GX (B6 hol.1 hol.2)] at he;cases he)
         | true=>
           obtain rfl:=U7 he
           walk_at "r"
           refine JJ ?_
           walk_at "r"
           refine⟨(i,j+1),rfl,p,ts1,.bool true,rfl,rfl,zU,?_,?_⟩
           · rw[sizeLine_eq];have:=Nat.pow_le_pow_right (n:=2) (by decide) (show k<=23 by omega);omega
           rw[yI]
           exact fin2 _ rfl (zN (JG _ _ _) (by omega)) (fun z hz=>aU hz) fun _=>aV
     · rintro ρ1 M1 ⟨ts',x6,x7,rfl,hlen',hin,rfl⟩
       walk_at "r"
       refine⟨p,ts',_,_,_,_,hMp,rfl,?_,?_,rfl⟩
       · rw[zX] at hlen'
         rw[Nat.pow_succ];omega
       · obtain⟨t,ht,e⟩:=zL.mp hk
         obtain⟨i,hi⟩:=List.getElem?_of_mem ht
         exact hin i t (by rw[zX];exact(yT.mp hi).1) hi e
   · rintro ρ1 M1 ⟨a,ts,x4,x5,x6,x7,ha,rfl,hlen,hk,rfl⟩
     rw[zX,fe] at hk
     walk_at "r"
     refine QA ?_
     walk_at "r"
     refine B3 ?_
     rw[zX]
     walk_at "r"
     refine B3 ?_
     rw[zX]
     walk_at "r"
     refine⟨(A.length,B.length),rfl,?_⟩
     walk_at "r"
     refine⟨a,ts,rfl,zU,?_⟩
     rw[HN.mpr hk]
     exact⟨M,(zT M).put ha,rfl,rfl⟩
def O9:List Str:=["_law_one", "_law_other", "_law_first", "_law_told", "_law_found", "_law_start_here", "_law_lines_here"]
theorem IK:FnScope O9 ["_law_one", "_law_other"] (AC E9):=⟨rfl,rfl,rfl,by decide +kernel,rfl,by decide +kernel,by decide +kernel⟩
section
local macro_rules | `(tactic| walk_at "x")=>`(tactic| first | ((with_reducible show PS _ (.Assign [.Tuple ..] ..) _);exact @LV _ _ _ _ _ _ (by walk_at "e") (by walk_at "g") (by rfl) (by rfl) (by rfl)) | ((with_reducible show PG _ (.Tuple ..) _);exact @RN _ K _ _ _ _ (2) rfl rfl (by walk_at "j") (by rfl) (by rfl)))
local macro_rules | `(tactic| walk_at "y")=>`(tactic| first | ((with_reducible show PE _ (.Call (.Name (a0Q "list") _) ..) _);exact @F7 _ _ _ _ _ _ _ _ _ (@YT _ K rfl) (by rfl) n_list a7X (by walk_at "a") (by decide) (by decide) (by rfl) (by rfl)))
theorem OB {f:Addr}{fd:FuncData}(F:Fun K "_law_right" "_law_right" E9 f fd) (n_bool:mg "bool"=none) (n_int:mg "int"=none) (n_isinstance:mg "isinstance"=none) (n_len:mg "len"=none) (n_list:mg "list"=none) (n_tuple:mg "tuple"=none) (h__law_can_be:Has P w K mg base "_law_can_be" 4 ["_law_start_here", "_law_one", "_law_other", "_law_first"] JK) (h__law_is_book:Has P w K mg base "_law_is_book" 2 ["_law_start_here", "_law_lines_here"] CM) (h__law_mixed_of:Has P w K mg base "_law_mixed_of" 1 ["_law_lines_here", "_law_ones", "_law_others"] JL) (h__law_shared:Has P w K mg base "_law_shared" 1 ["_law_one", "_law_other"] HL) (h_joined:Has P w K mg base "joined" 6 ["one", "other"] DH) (h_shared:Has P w K mg base "shared" 2 ["one", "other"] DD):FnOk P w K mg base CX0 7 f fd ["_law_one", "_law_other"] (spD K 2 FJ):=by
 refine fnD F IK fun cdv A outer s H E hr=>?_
 have hu:=hr.units
 have nd:=IK.nd
 refine⟨_,by walk_at "b2", ?_⟩
 clear nd
 rintro xs M hl ⟨w,A,B,rfl,h⟩
 have hAl:=h.la
 have hBl:=h.lb
 obtain⟨sl1,sl2,sl3⟩:=JB A B
 have hK:K56 w A B (AO A B):=⟨h,sl3,sl1,sl2⟩
 walk_at "r"
 refine AA (ds:=[wD w,AB A]) (d:=AB A) rfl ?_
 walk_at "r"
 refine AA (ds:=[wD w,AB B]) (d:=AB B) rfl ?_
 walk_at "r"
 refine aI h.t.2.1.lns h.t.2.2.lns ?_
 walk_at "r"
 refine KS h.t ?_
 walk_at "r"
 refine NU h.t h.a h.b fun d hd=>?_
 rcases hd with ⟨C,rfl,m,hn⟩ | ⟨q,rfl,hq⟩
 case inr=>
   walk_at "r"
   refine AT rfl rfl ?_
   rw[if_pos rfl,J9,decide_eq_true rfl]
   walk_at "r"
   refine B3 ?_
   walk_at "r"
   refine AT rfl rfl ?_
   rw[if_pos rfl,show a0X (.int (([.str (a0Q "quarrel"),q]:List PyData).length:Nat)) (.int 2)=true from by rw[J9];rfl]
   walk_at "r"
   refine AA (ds:=[wD w,AB A]) (d:=wD w) rfl ?_
   walk_at "r"
   refine AA (ds:=[wD w,AB A]) (d:=AB A) rfl ?_
   walk_at "r"
   refine AA (ds:=[wD w,AB B]) (d:=AB B) rfl ?_
   walk_at "r"
   refine SM hK fun b hb=>?_
   obtain rfl:b=false:=by
     cases b with
     | false=>rfl
     | true=>
       obtain⟨C,m,hbk⟩:=hb.mp rfl
       exact(jZ m h.a h.b sl1 sl2 sl3 hbk h.t.2.1.real h.t.2.2.real hq).elim
   walk_at "r"
   refine AA (ds:=[.str (a0Q "quarrel"),q]) (d:=.str (a0Q "quarrel")) rfl ?_
   walk_at "r"
   refine F3 (t:=true) (by decide +kernel) ?_
   exact⟨_,zT _,rfl,rfl⟩
 case inl=>
   rw[show VN (AL w C) = .tuple [.str (a0Q "joined"),AL w C] from rfl]
   walk_at "r"
   refine AT rfl rfl ?_
   rw[if_pos rfl,J9,decide_eq_true rfl]
   walk_at "r"
   refine B3 ?_
   walk_at "r"
   refine AT rfl rfl ?_
   rw[if_pos rfl,show a0X (.int (([.str (a0Q "joined"),AL w C]:List PyData).length:Nat)) (.int 2)=true from by rw[J9];rfl]
   walk_at "r"
   refine AA (ds:=[wD w,AB A]) (d:=wD w) rfl ?_
   walk_at "r"
   refine AA (ds:=[wD w,AB A]) (d:=AB A) rfl ?_
   walk_at "r"
   refine AA (ds:=[wD w,AB B]) (d:=AB B) rfl ?_
   walk_at "r"
   refine SM hK fun b hb=>?_
   obtain rfl:b=true:=hb.mpr ⟨C,m.mx.2,m.bk⟩
   walk_at "r"
   refine AA (ds:=[.str (a0Q "joined"),AL w C]) (d:=.str (a0Q "joined")) rfl ?_
   walk_at "r"
   refine AT (by decide +kernel) (by decide +kernel) ?_
   rw[if_pos rfl,show a0X (.str (a0Q "joined")) (.str (a0Q "joined"))=true from by decide +kernel]
   walk_at "r"
   refine AA (ds:=[.str (a0Q "joined"),AL w C]) (d:=AL w C) rfl ?_
   walk_at "r"
   refine AA (ds:=[.str (a0Q "joined"),AL w C]) (d:=AL w C) rfl ?_
   walk_at "r"
   refine B3 ?_
   walk_at "r"
   refine AT rfl rfl ?_
   rw[if_pos rfl,show a0X (.int (([wD w,AB C]:List PyData).length:Nat)) (.int 2)=true from by rw[J9];rfl]
   walk_at "r"
   refine FS ?_
   walk_at "r"
   refine AA (ds:=[.str (a0Q "joined"),AL w C]) (d:=AL w C) rfl ?_
   walk_at "r"
   refine VF (ds:=[wD w,AB C]) rfl ?_
   walk_at "r"
   refine AA (ds:=[wD w,AB A]) (d:=wD w) rfl ?_
   walk_at "r"
   refine AT (EA h.t.1) (EA h.t.1) ?_
   rw[if_pos rfl,GX (EA h.t.1)]
   walk_at "r"
   refine AS ?_
   rw[K7,← a5V]
   walk_at "r"
   refine AA (ds:=[wD w,AB A]) (d:=AB A) rfl ?_
   walk_at "r"
   refine AS ?_
   rw[K7,← a5V,m.mx.2.pre sl1 sl2]
   walk_at "r"
   have sT:zH (AB (A.take (AO A B)))=true:=PZ (XD h.t.2.1 _)
   refine AT sT sT ?_
   rw[if_pos rfl,GX sT]
   walk_at "r"
   have hCl:=m.len
   have hCo:∀l∈C,AJ l.1/\l.2.real:=fun l hl=>(m.sub l hl).elim (h.t.2.1.lns.1 l) (h.t.2.2.lns.1 l)
   refine MF ?_
   walk_at "r"
   refine KW h.t.1 h.lw (fun l hl=>(hCo l hl).2) (by omega) ?_
   rw[GY.mpr m.bk]
   walk_at "r"
   refine AS ?_
   rw[CA,← a3X]
   walk_at "r"
   refine AA (ds:=[wD w,AB A]) (d:=AB A) rfl ?_
   walk_at "r"
   refine AS ?_
   rw[CA,← a3X]
   walk_at "r"
   refine AA (ds:=[wD w,AB B]) (d:=AB B) rfl ?_
   walk_at "r"
   refine AS ?_
   rw[CA,← a3X]
   walk_at "r"
   refine aX (by rw[a0K,a0K];exact m.mx.2.drop sl1 sl2) (by rw[a0K];omega) ⟨fun l hl=>hCo l (a5W hl),by rw[a0K];omega⟩ ⟨fun l hl=>h.t.2.1.lns.1 l (a5W hl),by rw[a0K];omega⟩ ⟨fun l hl=>h.t.2.2.lns.1 l (a5W hl),by rw[a0K];omega⟩ ?_
   exact⟨_,zT _,rfl,rfl⟩
end
def k6:List Str:=["_law_script", "_law_one", "_law_other"]
theorem aZ:FnScope k6 ["_law_script"] (AC VX):=⟨rfl,rfl,rfl,by decide +kernel,rfl,by decide +kernel,by decide +kernel⟩
section
local macro_rules | `(tactic| walk_at "x")=>`(tactic| first | ((with_reducible show PS _ (.Assign [.Tuple ..] ..) _);exact @LV _ _ _ _ _ _ (by walk_at "e") (by walk_at "g") (by rfl) (by rfl) (by rfl)) | ((with_reducible show PG _ (.Tuple ..) _);exact @RN _ K _ _ _ _ (2) rfl rfl (by walk_at "j") (by rfl) (by rfl)))
theorem k7 {f:Addr}{fd:FuncData}(F:Fun K "law" "law" VX f fd) (h__law_right:Has P w K mg base "_law_right" 7 ["_law_one", "_law_other"] FJ) (h__law_two:Has P w K mg base "_law_two" 4 ["_law_script"] JF):FnOk P w K mg base CX0 8 f fd ["_law_script"] (spD K 1 RW):=by
 refine fnD F aZ fun cdv A outer s H E hr=>?_
 have hu:=hr.units
 have nd:=aZ.nd
 refine⟨_,by walk_at "b2", ?_⟩
 clear nd
 rintro xs M hl ⟨ns,rfl,hns,hbits⟩
 walk_at "r"
 refine FS ?_
 walk_at "r"
 refine UC hbits fun w A B h=>?_
 walk_at "r"
 refine G1 h ?_
 walk_at "r"
 refine G1 ⟨⟨h.t.1,h.t.2.2,h.t.2.1⟩,h.b,h.a,h.lb,h.la,h.lw⟩ ?_
 walk_at "r"
 refine G1 ⟨⟨h.t.1,h.t.2.1,h.t.2.1⟩,h.a,h.a,h.la,h.la,h.lw⟩ ?_
 exact⟨_,zT _,rfl⟩
end
end
end DL
namespace DL
open PySem PySem.Spec L2
local macro_rules | `(tactic| walk_at "b1")=>`(tactic| exact fun _ _ _ _ _ _ us hl=>match us,hl with | [_],_=>rfl)
local macro_rules | `(tactic| walk_at "b2")=>`(tactic| exact fun _ _ _ _ _ _ us hl=>match us,hl with | [_,_],_=>rfl)
local macro_rules | `(tactic| walk_at "b3")=>`(tactic| exact fun _ _ _ _ _ _ us hl=>match us,hl with | [_,_,_],_=>rfl)
local macro_rules | `(tactic| walk_at "b4")=>`(tactic| exact fun _ _ _ _ _ _ us hl=>match us,hl with | [_,_,_,_],_=>rfl)
theorem k8 {l:PySem.W.OpenLaw}{w:World}{K:Frg}{h:Heap}{mg:Str->Option Value}{fa:Addr}{a_FORMS:Addr}{ep_FORMS:Nat}{tk_FORMS_0 tv_FORMS_0:Tok}{tk_FORMS_1 tv_FORMS_1:Tok}{tk_FORMS_2 tv_FORMS_2:Tok}{tk_FORMS_3 tv_FORMS_3:Tok}{tk_FORMS_4 tv_FORMS_4:Tok}{tk_FORMS_5 tv_FORMS_5:Tok}{tk_FORMS_6 tv_FORMS_6:Tok}
   (X:K.In h) (G:h.Ns mainGlobals mg) (hfa:mg "law"=some (.ref fa))
   (b0:FnIn K "same_ahead" D3)
   (b1:FnIn K "form_of" HP)
   (b2:FnIn K "names_in" G2)
   (b3:FnIn K "made_by" HQ)
   (b4:FnIn K "ended_by" G3)
   (b5:FnIn K "must_stand" D0)
   (b6:FnIn K "asking_for" D4)
   (b7:FnIn K "shared" JM)
   (b8:FnIn K "own_lines" EQ)
   (b9:FnIn K "same_name" ER)
   (b10:FnIn K "first_ahead_of" CG)
   (b11:FnIn K "joined" JN)
   (b12:FnIn K "_law_mixed" E5)
   (b13:FnIn K "_law_take" ES)
   (b14:FnIn K "_law_names" CH)
   (b15:FnIn K "_law_deed" DY)
   (b16:FnIn K "_law_after" CI)
   (b17:FnIn K "_law_start" D5)
   (b18:FnIn K "_law_lines" E6)
   (b19:FnIn K "_law_begun" E7)
   (b20:FnIn K "_law_made" ET)
   (b21:FnIn K "_law_ended" E8)
   (b22:FnIn K "_law_wanted" DK)
   (b23:FnIn K "_law_is_book" B1)
   (b24:FnIn K "_law_two" G4)
   (b25:FnIn K "_law_shared" DN)
   (b26:FnIn K "_law_next" EU)
   (b27:FnIn K "_law_can_be" DO)
   (b28:FnIn K "_law_mixed_of" CK)
   (b29:FnIn K "_law_right" E9)
   (b30:FnIn K "law" VX)
   (z_any:a2W K mainGlobals "any"=some none)
   (z_bool:a2W K mainGlobals "bool"=some none)
   (z_divmod:a2W K mainGlobals "divmod"=some none)
   (z_int:a2W K mainGlobals "int"=some none)
   (z_isinstance:a2W K mainGlobals "isinstance"=some none)
   (z_len:a2W K mainGlobals "len"=some none)
   (z_list:a2W K mainGlobals "list"=some none)
   (z_min:a2W K mainGlobals "min"=some none)
   (z_range:a2W K mainGlobals "range"=some none)
   (z_sorted:a2W K mainGlobals "sorted"=some none)
   (z_str:a2W K mainGlobals "str"=some none)
   (z_sum:a2W K mainGlobals "sum"=some none)
   (z_tuple:a2W K mainGlobals "tuple"=some none)
   (z_zip:a2W K mainGlobals "zip"=some none)
   (y_FORMS:a2W K mainGlobals "FORMS"=some (some (.ref a_FORMS)))
   (x_FORMS:K.lookup a_FORMS=some { cls:=.type "dict", data:=.dict #[{ hash:=a8Q w.params (a0Q "put"),key:=.str (a0Q "put") tk_FORMS_0,val:=.str (a0Q "npk") tv_FORMS_0 },{ hash:=a8Q w.params (a0Q "take"),key:=.str (a0Q "take") tk_FORMS_1,val:=.str (a0Q "n") tv_FORMS_1 },{ hash:=a8Q w.params (a0Q "move"),key:=.str (a0Q "move") tk_FORMS_2,val:=.str (a0Q "np") tv_FORMS_2 },{ hash:=a8Q w.params (a0Q "count"),key:=.str (a0Q "count") tk_FORMS_3,val:=.str (a0Q "nk") tv_FORMS_3 },{ hash:=a8Q w.params (a0Q "name"),key:=.str (a0Q "name") tk_FORMS_4,val:=.str (a0Q "nn") tv_FORMS_4 },{ hash:=a8Q w.params (a0Q "split"),key:=.str (a0Q "split") tk_FORMS_5,val:=.str (a0Q "nnpk") tv_FORMS_5 },{ hash:=a8Q w.params (a0Q "join"),key:=.str (a0Q "join") tk_FORMS_6,val:=.str (a0Q "nn") tv_FORMS_6 }] ep_FORMS })
   (s_FORMS:(a_FORMS==sysModules)=false) :
   ∃fd:FuncData,(∀(s:Shared) (v:Value),BindsTo s fd ⟨[v],[]⟩ [("_law_script", v)])/\∀base:Heap,K.In base->base.Ns mainGlobals mg->FnOk l.prog w K mg base CX0 8 fa fd ["_law_script"] (spD K 1 RW):=by
 obtain⟨f0,d0,A0⟩:=b0.at X G
 obtain⟨f1,d1,A1⟩:=b1.at X G
 obtain⟨f2,d2,A2⟩:=b2.at X G
 obtain⟨f3,d3,A3⟩:=b3.at X G
 obtain⟨f4,d4,A4⟩:=b4.at X G
 obtain⟨f5,d5,A5⟩:=b5.at X G
 obtain⟨f6,d6,A6⟩:=b6.at X G
 obtain⟨f7,d7,A7⟩:=b7.at X G
 obtain⟨f8,d8,A8⟩:=b8.at X G
 obtain⟨f9,d9,A9⟩:=b9.at X G
 obtain⟨f10,d10,A10⟩:=b10.at X G
 obtain⟨f11,d11,A11⟩:=b11.at X G
 obtain⟨f12,d12,A12⟩:=b12.at X G
 obtain⟨f13,d13,A13⟩:=b13.at X G
 obtain⟨f14,d14,A14⟩:=b14.at X G
 obtain⟨f15,d15,A15⟩:=b15.at X G
 obtain⟨f16,d16,A16⟩:=b16.at X G
 obtain⟨f17,d17,A17⟩:=b17.at X G
 obtain⟨f18,d18,A18⟩:=b18.at X G
 obtain⟨f19,d19,A19⟩:=b19.at X G
 obtain⟨f20,d20,A20⟩:=b20.at X G
 obtain⟨f21,d21,A21⟩:=b21.at X G
 obtain⟨f22,d22,A22⟩:=b22.at X G
 obtain⟨f23,d23,A23⟩:=b23.at X G
 obtain⟨f24,d24,A24⟩:=b24.at X G
 obtain⟨f25,d25,A25⟩:=b25.at X G
 obtain⟨f26,d26,A26⟩:=b26.at X G
 obtain⟨f27,d27,A27⟩:=b27.at X G
 obtain⟨f28,d28,A28⟩:=b28.at X G
 obtain⟨f29,d29,A29⟩:=b29.at X G
 obtain⟨f30,d30,A30⟩:=b30.at X G
 have e:=hfa.symm.trans A30.mg_
 cases e
 have n_any:=a1K X G z_any
 have n_bool:=a1K X G z_bool
 have n_divmod:=a1K X G z_divmod
 have n_int:=a1K X G z_int
 have n_isinstance:=a1K X G z_isinstance
 have n_len:=a1K X G z_len
 have n_list:=a1K X G z_list
 have n_min:=a1K X G z_min
 have n_range:=a1K X G z_range
 have n_sorted:=a1K X G z_sorted
 have n_str:=a1K X G z_str
 have n_sum:=a1K X G z_sum
 have n_tuple:=a1K X G z_tuple
 have n_zip:=a1K X G z_zip
 have g_FORMS:∃a,mg "FORMS"=some (.ref a)/\GDict w K a KO:=⟨_,PySem.W.mg_of X G y_FORMS,s_FORMS,by decide +kernel,_,_,x_FORMS,rfl,⟨_,rfl⟩,⟨_,rfl⟩,rfl,⟨_,rfl⟩,⟨_,rfl⟩,rfl,⟨_,rfl⟩,⟨_,rfl⟩,rfl,⟨_,rfl⟩,⟨_,rfl⟩,rfl,⟨_,rfl⟩,⟨_,rfl⟩,rfl,⟨_,rfl⟩,⟨_,rfl⟩,rfl,⟨_,rfl⟩,⟨_,rfl⟩,trivial⟩
 refine⟨d30,fun s v=>?_,fun base _ _=>?_⟩
 · obtain⟨oc,od,kV,doc,pm,an,cdv,ct,osl,e,_,_⟩:=A30.fn.ex
   subst e
   exact .of_eq rfl
 have h_same_ahead:Has l.prog w K mg base "same_ahead" 1 ["things", "others"] CY:=A0.has (NW A0.fn n_zip) (by walk_at "b2")
 have h_form_of:Has l.prog w K mg base "form_of" 1 ["word"] K9:=A1.has (UI A1.fn n_isinstance n_str g_FORMS) (by walk_at "b1")
 have h_names_in:Has l.prog w K mg base "names_in" 2 ["deed"] IP:=A2.has (SO A2.fn h_form_of) (by walk_at "b1")
 have h_made_by:Has l.prog w K mg base "made_by" 1 ["deed"] HI:=A3.has (UK A3.fn ) (by walk_at "b1")
 have h_ended_by:Has l.prog w K mg base "ended_by" 1 ["deed"] FV:=A4.has (SR A4.fn ) (by walk_at "b1")
 have h_must_stand:Has l.prog w K mg base "must_stand" 3 ["deed"] FW:=A5.has (NV A5.fn n_tuple h_made_by h_names_in) (by walk_at "b1")
 have h_asking_for:Has l.prog w K mg base "asking_for" 4 ["book", "numbers", "name"] JD:=A6.has (NX A6.fn n_tuple h_must_stand) (by walk_at "b3")
 have h_shared:Has l.prog w K mg base "shared" 2 ["one", "other"] DD:=A7.has (XG A7.fn h_same_ahead) (by walk_at "b2")
 have h_own_lines:Has l.prog w K mg base "own_lines" 1 ["book", "common"] HK:=A8.has (QD A8.fn n_len n_list n_range) (by walk_at "b2")
 have h_same_name:Has l.prog w K mg base "same_name" 2 ["one", "other", "common"] FH:=A9.has (QF A9.fn h_ended_by h_made_by h_own_lines) (by walk_at "b3")
 have h_first_ahead_of:Has l.prog w K mg base "first_ahead_of" 5 ["book", "number", "line"] EB:=A10.has (JQ A10.fn n_len h_asking_for h_ended_by h_own_lines) (by walk_at "b3")
 have h_joined:Has l.prog w K mg base "joined" 6 ["one", "other"] DH:=A11.has (XJ A11.fn n_len h_first_ahead_of h_same_name h_shared) (by walk_at "b2")
 have h__law_mixed:Has l.prog w K mg base "_law_mixed" 1 ["_law_cell"] BM:=A12.has (O0 A12.fn ) (by walk_at "b1")
 have h__law_take:Has l.prog w K mg base "_law_take" 1 ["_law_pack", "_law_size"] B5:=A13.has (QH A13.fn n_divmod) (by walk_at "b2")
 have h__law_names:Has l.prog w K mg base "_law_names" 2 ["_law_pack", "_law_amount"] CS:=A14.has (NY A14.fn n_range h__law_take) (by walk_at "b2")
 have h__law_deed:Has l.prog w K mg base "_law_deed" 2 ["_law_pack", "_law_some", "_law_spare"] DU:=A15.has (QJ A15.fn n_int n_len h__law_take) (by walk_at "b3")
 have h__law_after:Has l.prog w K mg base "_law_after" 1 ["_law_deed_here", "_law_some", "_law_spare"] CT:=A16.has (O1 A16.fn ) (by walk_at "b3")
 have h__law_start:Has l.prog w K mg base "_law_start" 2 ["_law_pack", "_law_names_here", "_law_amount"] CU:=A17.has (O2 A17.fn n_range n_sorted n_tuple h__law_take) (by walk_at "b3")
 have h__law_lines:Has l.prog w K mg base "_law_lines" 3 ["_law_some", "_law_spare", "_law_cells"] FD:=A18.has (O4 A18.fn h__law_after h__law_deed h__law_mixed h__law_take) (by walk_at "b3")
 have h__law_begun:Has l.prog w K mg base "_law_begun" 3 ["_law_head"] FF:=A19.has (O6 A19.fn h__law_mixed h__law_names h__law_start h__law_take) (by walk_at "b1")
 have h__law_made:Has l.prog w K mg base "_law_made" 1 ["_law_deed_here"] N4:=A20.has (QM A20.fn ) (by walk_at "b1")
 have h__law_ended:Has l.prog w K mg base "_law_ended" 1 ["_law_deed_here"] KG:=A21.has (O8 A21.fn ) (by walk_at "b1")
 have h__law_wanted:Has l.prog w K mg base "_law_wanted" 1 ["_law_deed_here"] IY:=A22.has (NK A22.fn ) (by walk_at "b1")
 have h__law_is_book:Has l.prog w K mg base "_law_is_book" 2 ["_law_start_here", "_law_lines_here"] CM:=A23.has (LI A23.fn n_any n_list h__law_ended h__law_made h__law_wanted) (by walk_at "b2")
 have h__law_two:Has l.prog w K mg base "_law_two" 4 ["_law_script"] JF:=A24.has (ST A24.fn n_sum n_tuple h__law_begun h__law_lines h__law_mixed h__law_take) (by walk_at "b1")
 have h__law_shared:Has l.prog w K mg base "_law_shared" 1 ["_law_one", "_law_other"] HL:=A25.has (NM A25.fn n_len n_min) (by walk_at "b2")
 have h__law_next:Has l.prog w K mg base "_law_next" 3 ["_law_start_here", "_law_done_here", "_law_line"] HB:=A26.has (QO A26.fn h__law_is_book) (by walk_at "b3")
 have h__law_can_be:Has l.prog w K mg base "_law_can_be" 4 ["_law_start_here", "_law_one", "_law_other", "_law_first"] JK:=A27.has (NO A27.fn n_len n_list n_range h__law_next) (by walk_at "b4")
 have h__law_mixed_of:Has l.prog w K mg base "_law_mixed_of" 1 ["_law_lines_here", "_law_ones", "_law_others"] JL:=A28.has (KJ A28.fn n_len) (by walk_at "b3")
 have h__law_right:Has l.prog w K mg base "_law_right" 7 ["_law_one", "_law_other"] FJ:=A29.has (OB A29.fn n_bool n_int n_isinstance n_len n_list n_tuple h__law_can_be h__law_is_book h__law_mixed_of h__law_shared h_joined h_shared) (by walk_at "b2")
 exact k7 A30.fn h__law_right h__law_two
theorem k9 {K:Frg}{H:Hp}{a:Addr}{ns:List Int}(hl:ns.length<=63) (hb:∀i∈ns,xI i<=2 ^ 20) (hS:SqL K H a (ns.map V.int)):spD K 1 RW [.ref a] H (fun v _=>v = .bl true) fun _ _ _=>False:=by
 refine⟨[.d (.list (ns.map .int))],fun _=>none,rfl,(fun a o e=>nomatch e),⟨.ref a,[],rfl,?_,rfl⟩,⟨ns,rfl,hl,hb⟩,fun x M' v H' post st oa si=>?_⟩
 · unfold SI DV
   refine⟨a,ns.map V.int,rfl,?_,GW⟩
   rcases hS with h | h
   · exact .inl ⟨fun w=>w rfl,h⟩
   · exact .inr h
 · have e:x = .d (.bool true):=post
   subst e
   exact fQ si
theorem mM {l:PySem.W.OpenLaw}{q:Program}{loose:List Str}{XP:(Str->Option Value)->Heap->Prop}{YP:World->Heap->Prop}{d:DefRec}{K:Params->Frg}(hn:l.most=some 63) (hdf:d.params.defaults=[])
   (hY:∀(w:World) (h:Heap),YP w h->(K w.params).In h)
   (F:∀(w:World) (mg:Str->Option Value) (fa:Addr) (h:Heap),(K w.params).In h->h.Ns mainGlobals mg->mg d.name=some (.ref fa) ->
     ∃fd:FuncData,(∀(s:Shared) (u:Value),BindsTo s fd ⟨[u],[]⟩ [("_law_script", u)])/\∀base:Heap,(K w.params).In base->base.Ns mainGlobals mg->FnOk l.prog w (K w.params) mg base CX0 8 fa fd ["_law_script"] (spD (K w.params) 1 RW)) :
   PySem.W.WalkO q loose XP YP l.row.toRowW d [] (fun f vs=>PySem.call f vs):=
 L2.Z5 (n:=63) (k:=8) (x:= "_law_script") (CX:=fun _=>CX0) (sp:=fun w=>spD (K w.params) 1 RW) hn (by decide) hdf ⟨rfl,by decide,by decide⟩ hY F (fun _ _ a ns hl hb _ hS=>k9 hl hb hS) fun _ _ _ _ _ z=>z
end DL
open PySem PySem.W PyProof.Rows
set_option maxRecDepth 100000 in
set_option maxHeartbeats 0 in
theorem PySem.Challenge.cw_struckdeeds_k56_joined_or_a_quarrel_holds : PySem.Challenge.rw_struckdeeds_k56_joined_or_a_quarrel.Holds := by
 w_on
 refine PySem.W.holds_law DL.hS fun said=>?_
 refine PySem.W.holds_open (q:=DL.hV) (loose:=[a0Q "FORMS"]) (Xt:=(fun s=>PySem.W.xlAt DL.hV [] s&&PySem.W.recOk (b1X (a9W (b1Z PySem.Challenge.rw_struckdeeds_k56_joined_or_a_quarrel))) s)) (XP:=PySem.W.XL DL.hV []) (Yf:=b5Q (a5J DL.hK DL.hA DL.hE)) (Ya:=b4V (a5J DL.hK DL.hA DL.hE)) (YP:=PySem.W.Hook.says (a5J DL.hK DL.hA DL.hE)) (N:=3148) DL.hL (PySem.W.Hook.of (a5J DL.hK DL.hA DL.hE)) (PySem.W.Hook.keeps (a5J DL.hK DL.hA DL.hE)) (fun s e=>PySem.W.xl_of s (Bool.and_eq_true_iff.mp e).1) PySem.W.XL.keeps (by rfl) (by rfl) (by rfl) (fun s e=>PySem.W.recFacts_of (Bool.and_eq_true_iff.mp e).2) rfl said (by decide +kernel) ⟨rfl,rfl,rfl,rfl,rfl,by decide +kernel⟩ ?hw ?hc
 (case hw=>w_witness2)
 k_fill
 refine DL.mM (l:=PySem.Challenge.rw_struckdeeds_k56_joined_or_a_quarrel) rfl rfl (fun w h Y=>PySem.W.kIn_of Y) ?F
 case F=>
   intro w mg fa h KX G hmg
   refine' DL.k8 KX G hmg ?b0 ?b1 ?b2 ?b3 ?b4 ?b5 ?b6 ?b7 ?b8 ?b9 ?b10 ?b11 ?b12 ?b13 ?b14 ?b15 ?b16 ?b17 ?b18 ?b19 ?b20 ?b21 ?b22 ?b23 ?b24 ?b25 ?b26 ?b27 ?b28 ?b29 ?b30 ?z_any ?z_bool ?z_divmod ?z_int ?z_isinstance ?z_len ?z_list ?z_min ?z_range ?z_sorted ?z_str ?z_sum ?z_tuple ?z_zip ?y_FORMS ?x_FORMS ?s_FORMS
   all_goals (first | (refine' DL.eO ?fa ?fl ?fc ?fk;(case fa=>k_is);(case fl=>k_is);(case fc=>k_is);(case fk=>k_is)) | skip)
   (case z_any=>k_is)
   (case z_bool=>k_is)
   (case z_divmod=>k_is)
   (case z_int=>k_is)
   (case z_isinstance=>k_is)
   (case z_len=>k_is)
   (case z_list=>k_is)
   (case z_min=>k_is)
   (case z_range=>k_is)
   (case z_sorted=>k_is)
   (case z_str=>k_is)
   (case z_sum=>k_is)
   (case z_tuple=>k_is)
   (case z_zip=>k_is)
   (case y_FORMS=>k_is)
   (case x_FORMS=>k_is)
   (case s_FORMS=>decide)
#print axioms PySem.Challenge.cw_struckdeeds_k56_joined_or_a_quarrel_holds
