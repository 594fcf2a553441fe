import PyProof.Rows.All
import Wide.All
import OpenK.AllK
import Wide.FinOn
import PyProof.EqAt
import PyProof.EqKinds
import PyProof.TupleCall
import PyProof.SetKind
import PyProof.DictKinds
import PyProof.Rows.SetFrom
import PyProof.FactsAll.set
import PyProof.WalksS
import PyProof.CollectWalk
import PyProof.Seq
import PyProof.WalkLemmas
import PyProof.Rows.SortStr
import PyProof.Rows.SortWalk
import PyProof.Tail
import PyProof.NeKinds
import PyProof.EnumFor
import PyProof.EnumMake
import KE.KSortTup
import KE.KDictSum
import KE.KRevIter
import KE.KNestM
import Lean
import PySem.Challenge.RW_nextword_k06_whole_trees_read_back
set_option Elab.async false
set_option linter.all false
set_option maxRecDepth 100000
set_option maxHeartbeats 4000000
def aaa:=@PyProof.Rows.F.plain_set_update_loop
def aab:=@List.eq_nil_iff_forall_not_mem
def aac:=@PySem.wpAny_typeNameOfWhole_keyiter
def aad:=@PySem.F.slot_dict_keyiterator_next
def aae:=@PyProof.Rows.callWith_type1
def aaf:=@Array.getD_eq_getD_getElem?
def aag:=@List.getElem?_append_right
def aah:=@List.getD_eq_getElem?_getD
def aai:=@Array.perm_iff_toList_perm
def aaj:=@List.getElem?_eq_some_iff
def aak:=@List.getElem?_append_left
def aal:=@Array.getElem?_eq_getElem
def aam:=@List.pairwise_iff_getElem
def aan:=@List.drop_eq_getElem_cons
def aao:=@List.getElem?_eq_getElem
def aap:=@PyProof.Rows.boot_sorted
def aaq:=@PySem.F.slot_list_extend
def aar:=@PySem.F.type_list_extend
def aas:=@PySem.F.slot_list_append
def aat:=@PySem.F.type_list_append
def aau:=@PySem.wpAny_typeNameOf_keyiter
def aav:=@List.length_eq_zero_iff
def aaw:=@PySem.wpAny_callSpecial?_slot
def aax:=@decide_eq_false_iff_not
def aay:=@PySem.F.plainAttrs_list
def aaz:=@PySem.Heap.get?_push_of_some
def aaA:=@PySem.Calls.callWith_builtin
def aaB:=@PySem.Heap.get?_update_other
def aaC:=@Array.getElem?_eq_none
def aaD:=@List.drop_eq_nil_of_le
def aaE:=@List.take_of_length_le
def aaF:=@List.getElem_cons_drop
def aaG:=@List.mem_append_right
def aaH:=@List.length_singleton
def aaI:=@Array.getElem?_toList
def aaJ:=@PySem.F.slot_dict_get
def aaK:=@PySem.Heap.get?_update_self
def aaL:=@PySem.builtinLookup_eq_fast
def aaM:=@List.getElem?_eq_none
def aaN:=@List.mem_iff_getElem?
def aaO:=@List.concat_eq_append
def aaP:=@PySem.F.slot_list_pop
def aaQ:=@PySem.F.type_list_pop
def aaR:=@List.eq_nil_or_concat
def aaS:=@List.length_filter_le
def aaT:=@List.take_append_drop
def aaU:=@List.mem_cons_of_mem
def aaV:=@List.mem_append_left
def aaW:=@List.mem_of_getElem?
def aaX:=@PySem.Around.under_plainId
def aaY:=@List.mem_of_mem_take
def aaZ:=@List.dropLast_concat
def aa0:=@List.reverse_reverse
def aa1:=@beq_eq_false_iff_ne
def aa2:=@Array.length_toList
def aa3:=@PySem.Heap.get?_push_size
def aa4:=@PySem.mem_of_lookup
def aa5:=@List.replicate_succ
def aa6:=@PySem.Heap.SameBut.update
def aa7:=@PySem.wpAny_setEntries_of
def aa8:=@List.map_congr_left
def aa9:=@List.flatMap_append
def aba:=@List.take_succ_cons
def abb:=@List.length_reverse
def abc:=@List.reverse_append
def abd:=@Nat.lt_of_lt_of_le
def abe:=@List.mem_cons_self
def abf:=@Bool.false_ne_true
def abg:=@PySem.Calls.spliced_cons
def abh:=@PySem.wpAny_Call_Name_kw
def abi:=@List.length_append
def abj:=@PySem.tupleKind_room_in1
def abk:=@Nat.lt_of_le_of_lt
def abl:=@List.mem_singleton
def abm:=@Bool.false_eq_true
def abn:=@List.filter_append
def abo:=@List.mem_replicate
def abp:=@PySem.W.mg_none_of
def abq:=@PySem.wpAny_truthy_bool
def abr:=@List.size_toArray
def abt:=@List.getElem?_map
def abu:=@Int.toNat_natCast
def abv:=@List.flatten_cons
def abw:=@List.append_assoc
def abx:=@of_decide_eq_true
def aby:=@PySem.wpAny_newObj_type
def abz:=@decide_eq_true_eq
def abA:=@List.nodup_append
def abB:=@PySem.wpAny_setState_of
def abC:=@Nat.lt_succ_of_lt
def abD:=@List.length_range
def abE:=@List.ext_getElem?
def abF:=@List.flatMap_cons
def abG:=@PySem.wpAny_dictEntries
def abH:=@List.reverse_cons
def abI:=@List.length_cons
def abJ:=@Nat.lt_succ_self
def abK:=@List.length_take
def abL:=@List.length_drop
def abM:=@PySem.wpAny_askSetting
def abN:=@List.getElem_mem
def abO:=@List.not_mem_nil
def abP:=@PySem.wpAny_call_entry
def abQ:=@PySem.wpAny_isInstance
def abR:=@List.all_eq_true
def abS:=@List.take_length
def abT:=@List.lookup_cons
def abU:=@List.mem_flatMap
def abV:=@List.filter_cons
def abW:=@beq_self_eq_true
def abX:=@decide_eq_false
def abY:=@Option.some.inj
def abZ:=@List.mem_filter
def ab0:=@List.mem_append
def ab1:=@PySem.wpAny_passesOwn
def ab2:=@Bool.eq_iff_iff
def ab3:=@List.length_map
def ab4:=@PySem.W.kia_one
def ab5:=@List.append_nil
def ab6:=@List.nodup_cons
def ab7:=@List.find?_cons
def ab8:=@List.length_nil
def ab9:=@List.map_append
def aca:=@PySem.codeAny_builtin
def acb:=@PySem.wpAny_ite_split
def acd:=@PySem.W.kia_tup
def ace:=@PySem.PassesOwn.never
def acf:=@PyProof.Rows.boot_isinstance
def acg:=@List.mem_range
def ach:=@PySem.Heap.size_push
def aci:=@decide_eq_true
def acj:=@List.nodup_nil
def ack:=@PySem.wpAny_fieldsOf
def acl:=@PySem.wpAny_setField
def acm:=@List.take_succ
def acn:=@PySem.boot_len
def aco:=@PySem.Paired.length
def acp:=@Nat.lt_irrefl
def acq:=@List.mem_cons
def acr:=@List.map_cons
def acs:=@List.any_cons
def act:=@PySem.wpAny_holding
def acu:=@List.sum_cons
def acv:=@PySem.W.mg_of
def acw:=@PySem.Heap.lt_size
def acx:=@Nat.ne_of_lt
def acy:=@Nat.le_trans
def acz:=@Nat.le_of_lt
def acA:=@PySem.codeAny_mono
def acB:=@List.mem_map
def acC:=@PySem.F.called_set
def acD:=@List.map_map
def acE:=@Nat.lt_or_ge
def acF:=@Nat.sub_self
def acG:=@Sum.inr.inj
def acH:=@Nat.le_refl
def acI:=@Nat.zero_le
def acJ:=@PySem.sizeLine_eq
def acK:=@Nat.le_succ
def acL:=@List.map_id
def acM:=@PySem.wpAny_mono
def acN:=@congrArg
def acO:=@if_false
def acP:=@or_false
def acQ:=@Ne.symm
def acR:=@if_pos
def acS:=@if_neg
def acT:1<=PySem.sizeLine:=by decide
def acU:2<=PySem.sizeLine:=by decide
def acV:3<=PySem.sizeLine:=by decide
abbrev acX:=PySem.W.Frag
namespace L2
open PySem PySem.Spec PyProof.Rows
abbrev Key:=Sum Int Str
def jI:Key->Value->Bool
 |.inl k,v=>Value.isInt k v
 |.inr x,v=>Value.isStrOf x v
def Bn(w:World):Key->Int
 |.inl k=>hashInt k
 |.inr x=>hashStr w x
def bY:∀{k:Key} {v:Value},jI k v=true->(∃i t,k=Sum.inl i/\v=Value.int i t)\/(∃x t,k=Sum.inr x/\v=Value.str x t)
 |.inl i,v,h=>by
  obtain⟨t,e⟩:=Value.isInt_shape (k:=i) (v:=v) h;exact .inl ⟨i,t,rfl,e⟩
 |.inr x,v,h=>by
  obtain⟨t,e⟩:=Value.isStrOf_shape (x:=x) (v:=v) h;exact .inr ⟨x,t,rfl,e⟩
def tL(i:Int)(t:Tok):jI (.inl i) (.int i t)=true:=by simp[jI,Value.isInt]
def tM(x:Str)(t:Tok):jI (.inr x) (.str x t)=true:=by simp[jI,Value.isStrOf]
def yW(a b:Int):decide ((Sum.inl a:Key)=Sum.inl b)=(a == b):=by
 by_cases e:a=b
 ·subst e;simp
 ·have h:¬(Sum.inl a:Key)=Sum.inl b:=fun q=>e (Sum.inl.inj q)
  rw[abX h];exact(aa1.mpr e).symm
def yX(a b:Str):decide ((Sum.inr a:Key)=Sum.inr b)=decide (a=b):=by
 by_cases e:a=b
 ·subst e;simp
 ·have h:¬(Sum.inr a:Key)=Sum.inr b:=fun q=>e (acG q)
  rw[abX h,abX e]
def yY(a:Int)(b:Str):decide ((Sum.inl a:Key)=Sum.inr b)=false:=abX (fun q=>nomatch q)
def yZ(a:Str)(b:Int):decide ((Sum.inr a:Key)=Sum.inl b)=false:=abX (fun q=>nomatch q)
def bz(prog:Program)(w:World):PySem.KeyKind prog w Key where
 is:=jI
 hash:=Bn w
 inj:=fun v a b ha hb=>by
  rcases bY ha with ⟨i,t,rfl,rfl⟩|⟨x,t,rfl,rfl⟩
  ·rcases bY hb with ⟨j,u,rfl,e⟩|⟨y,u,rfl,e⟩
   ·injection e with e1 _;rw[e1]
   ·exact nomatch e
  ·rcases bY hb with ⟨j,u,rfl,e⟩|⟨y,u,rfl,e⟩
   ·exact nomatch e
   ·injection e with e1 _;rw[e1]
 byValue:=fun k v h=>by
  rcases bY h with ⟨i,t,rfl,rfl⟩|⟨x,t,rfl,rfl⟩ <;> rfl
 pyHash:=fun hv h=>by
  rcases bY hv with ⟨i,t,rfl,rfl⟩|⟨x,t,rfl,rfl⟩
  ·exact wpAny_pyHash_int h
  ·exact wpAny_pyHash_str h
 eqBool:=fun hu hv h=>by
  rcases bY hu with ⟨i,t,rfl,rfl⟩|⟨x,t,rfl,rfl⟩
  ·rcases bY hv with ⟨j,u,rfl,rfl⟩|⟨y,u,rfl,rfl⟩
   ·rw[yW] at h;exact wpAny_eqBool_int h
   ·rw[yY] at h;exact SeqAt.EqAt.int_str i t y u _ _ _ _ h
  ·rcases bY hv with ⟨j,u,rfl,rfl⟩|⟨y,u,rfl,rfl⟩
   ·rw[yZ] at h;exact SeqAt.EqAt.str_int x t j u _ _ _ _ h
   ·rw[yX] at h;exact wpAny_eqBool_str h
 «strs»:=fun k x t v h=>by
  rcases bY h with ⟨i,u,rfl,e⟩|⟨y,u,rfl,e⟩
  ·exact nomatch e
  ·injection e with e1 _;subst e1;cases v <;> rfl
def qk(prog:Program)(w:World)(i:Int)(t:Tok):(bz prog w).is (.inl i) (.int i t)=true:=tL i t
def qm(prog:Program)(w:World)(x:Str)(t:Tok):(bz prog w).is (.inr x) (.str x t)=true:=tM x t
end L2
namespace L2
open PySem PySem.Spec PyProof.Rows
inductive V where
 |non | bl(b:Bool) | int(i:Int) | str(x:Str) | byt(b:Array UInt8) | flt(b:UInt64) | ref(a:Addr) | ty(n:String)
 deriving DecidableEq
def RelV:V->Value->Prop
 |.non,u=>u=Value.none
 |.bl b,u=>u=Value.bool b
 |.int i,u=>∃t,u=Value.int i t
 |.str x,u=>∃t,u=Value.str x t
 |.byt b,u=>∃t,u=Value.bytes b t
 |.flt b,u=>∃t,u=Value.float b t
 |.ref a,u=>u=Value.ref a
 |.ty n,u=>u=Value.type n
abbrev Vals:List V->List Value->Prop:=Paired RelV
def Vals.length{xs:List V}{us:List Value}(r:Vals xs us):xs.length=us.length:=aco r
def Vals.get:∀{xs:List V} {us:List Value} {i:Nat} {x:V},Vals xs us->xs[i]? =some x->∃u,us[i]? =some u/\RelV x u
 |_,_,_,_,.nil,e=>by simp at e
 |_,_,0,_,.cons r _,e=>by simp at e;subst e;exact⟨_,rfl,r⟩
 |_,_,i+1,x,.cons _ t,e=>by
  obtain⟨u,h1,h2⟩:=Vals.get (i:=i) (x:=x) t (by simpa using e);exact⟨u,by simpa using h1,h2⟩
def Vals.append:∀{xs ys:List V} {us ws:List Value},Vals xs us->Vals ys ws->Vals (xs++ys) (us++ws)
 |_,_,_,_,.nil,s=>s
 |_,_,_,_,.cons r t,s=>.cons r (Vals.append t s)
def Vals.take:∀{xs:List V} {us:List Value} (n:Nat),Vals xs us->Vals (xs.take n) (us.take n)
 |_,_,0,_=>.nil
 |_,_,_+1,.nil=>.nil
 |_,_,n+1,.cons r t=>.cons r (Vals.take n t)
def Vals.drop:∀{xs:List V} {us:List Value} (n:Nat),Vals xs us->Vals (xs.drop n) (us.drop n)
 |_,_,0,r=>r
 |_,_,_+1,.nil=>.nil
 |_,_,n+1,.cons _ t=>Vals.drop n t
def Vals.none_of:∀{xs:List V} {us:List Value} {i:Nat},Vals xs us->xs[i]? =none->us[i]? =none:=fun{xs us i} r e=>by
 have h1:=r.length;have h2:xs.length<=i:=List.getElem?_eq_none_iff.mp e;exact List.getElem?_eq_none_iff.mpr (by omega)
def dw:Option V->Option Value->Prop
 |some v,some u=>RelV v u
 |none,none=>True
 |_,_=>False
def KV{κ:Type}:List (κ×V)->List (κ×Value)->Prop:=Paired fun(p:κ×V) (q:κ×Value)=>p.1=q.1/\RelV p.2 q.2
def kV:Key->V
 |.inl i=>.int i
 |.inr x=>.str x
inductive HO where
 |lst(xs:List V)
 |tup(xs:List V)
 |dK(kvs:List (Key×V)) | dT(kvs:List (List Key×V))
 |set(S:Int->Bool)(n:Nat)
 |ins(C dx:Addr)(fs:List (Str×V))
 |own(x:Addr)
 |xd(fs:List (Str×V))
 |met(f x:Addr)
 |rng(lo hi:Int)
 |frz(o:Obj)(u:HO)
 |tbl(ps:Array Value)
 |ext(φ:Heap->Prop)
abbrev Hp:=Addr->Option HO
def upd(H:Hp)(a:Addr)(o:HO):Hp:=fun b=>if b=a then some o else H b
def aa{H:Hp}{a:Addr}{o:HO}:upd H a o a=some o:=by unfold upd;rw[acR rfl]
def ad{H:Hp}{a b:Addr}{o:HO}(h:b≠a):upd H a o b=H b:=by unfold upd;rw[acS h]
def cu{H:Hp}{a:Addr}{o u:HO}:upd (upd H a o) a u=upd H a u:=by
 funext b;unfold upd;split <;> rfl
def xu{H:Hp}{a b:Addr}{o u:HO}(h:H a=some o)(h':H b=some u)(d:o≠u):a≠b:=by
 intro e;subst e;rw[h] at h';exact d (abY h')
def av{H:Hp}{a b:Addr}{o:HO}(h:H a=some o)(h':H b=none):a≠b:=by
 intro e;subst e;rw[h] at h';cases h'
section
variable (P:Program)(w:World)
def aX(H:Hp)(h:Heap)(a:Addr):HO->Prop
 |.lst xs=>xs.length<=sizeLine/\∃(its:List Value) (n:Nat),Vals xs its/\h.get? a=some {cls:=.type "list",data:=.seq its.toArray n}
 |.tup xs=>xs.length<=sizeLine/\∃its:List Value,Vals xs its/\IsTup h a its.toArray
 |.dK kvs=>kvs.length<=sizeLine/\(a == sysModules)=false/\∃vs,KV kvs vs/\h.DictOf (bz P w) a vs
 |.dT kvs=>kvs.length<=sizeLine/\(a == sysModules)=false/\∃xs:List (List Key×Addr×Value),
   Paired (fun(p:List Key×V) (q:List Key×Addr×Value)=>p.1=q.1/\H q.2.1=some (.tup (p.1.map kV))/\RelV p.2 q.2.2) kvs xs/\
   ∃o es ep,h.get? a=some o/\o.ExactDict/\o.data=.dict es ep/\es.toList=xs.map (entryOfKey (tupleKind (bz P w)))/\(xs.map (·.1)).Nodup
 |.set S n=>h.SetOf (intKind P w) a S n
 |.ins C dx fs=>H dx=some (.own a)/\fs.length<=1000/\dx≠a/\h.get? a=some (PySem.W.instObj C dx)/\
   ∃mA,h.Ns1 dx mA/\(∀f,dw (fs.lookup f) (mA f))/\PySem.Within mA (fs.map (·.1))
 |.own _=>∃o,h.get? a=some o
 |.xd fs=>∃mA,h.Ns1 a mA/\∀f,dw (fs.lookup f) (mA f)
 |.rng lo hi=>∃t u v,h.get? a=some {cls:=.type "range",data:=.fields #[.int lo t,.int hi u,.int 1 v]}
 |.frz o u=>h.get? a=some o/\aX H h a u
 |.tbl ps=>h.get? a=some {cls:=.none,data:=.fields ps}
 |.met f x=>h.get? a=some (PySem.W.methodObj (.ref f) (.ref x))
 |.ext φ=>φ h/\(∃o,h.get? a=some o)/\∀h1 h2:Heap,φ h1->(∀o,h1.get? a=some o->h2.get? a=some o)->φ h2
def HOk(H:Hp)(h:Heap):Prop:=∀a o,H a=some o->aX P w H h a o
end
section
variable {P:Program}{w:World}{H H':Hp}{h h':Heap}{a:Addr}{o:HO}
def aX.lt(x:aX P w H h a o):a<h.objs.size:=by
 cases o with
 |lst xs=>obtain⟨_,_,_,_,e⟩:=x;exact acw e
 |tup xs=>obtain⟨_,_,_,p⟩:=x;exact p.lt
 |dK kvs=>obtain⟨_,_,_,_,o,_,_,e,_⟩:=x;exact acw e
 |dT kvs=>obtain⟨_,_,_,_,o,_,_,e,_⟩:=x;exact acw e
 |set S n=>obtain⟨o,_,_,_,e,_⟩:=x;exact acw e
 |ins C dx fs=>obtain⟨_,_,_,e,_⟩:=x;exact acw e
 |own y=>obtain⟨_,e⟩:=x;exact acw e
 |xd fs=>obtain⟨_,⟨_,_,_,e,_⟩,_⟩:=x;exact acw e
 |rng lo hi=>obtain⟨_,_,_,e⟩:=x;exact acw e
 |frz ob u=>obtain⟨e,_⟩:=x;exact acw e
 |tbl ps=>exact acw (show h.get? a=some _ from x)
 |met f y=>exact acw (show h.get? a=some _ from x)
 |ext φ=>obtain⟨_,⟨_,e⟩,_⟩:=x;exact acw e
def Paired.bp{α β:Type}{F G:α->β->Prop}:∀{l₁:List α} {l₂:List β},Paired F l₁ l₂->(∀a b,F a b->G a b)->Paired G l₁ l₂
 |_,_,.nil,_=>.nil
 |_,_,.cons r t,f=>.cons (f _ _ r) (Paired.bp t f)
def aX.bX(x:aX P w H h a o)(k:∀b u,(b=a\/H b=some (.own a))->h.get? b=some u->h'.get? b=some u)
  (ho:∀b,H b=some (.own a)->H' b=some (.own a))(ht:∀b xs,H b=some (.tup xs)->H' b=some (.tup xs)):aX P w H' h' a o:=by
 induction o with
 |lst xs=>obtain⟨z,its,n,r,e⟩:=x;exact⟨z,its,n,r,k _ _ (.inl rfl) e⟩
 |tup xs=>obtain⟨z,its,r,ob,e,c⟩:=x;exact⟨z,its,r,ob,k _ _ (.inl rfl) e,c⟩
 |dK kvs=>obtain⟨z,y,vs,r,ob,es,ep,e,c⟩:=x;exact⟨z,y,vs,r,ob,es,ep,k _ _ (.inl rfl) e,c⟩
 |dT kvs=>
  obtain⟨z,y,xs,r,ob,es,ep,e,c⟩:=x;exact⟨z,y,xs,Paired.bp r fun p q z=>⟨z.1,ht _ _ z.2.1,z.2.2⟩,ob,es,ep,k _ _ (.inl rfl) e,c⟩
 |set S n=>obtain⟨ob,es,ep,t,e,c⟩:=x;exact⟨ob,es,ep,t,k _ _ (.inl rfl) e,c⟩
 |ins C dx fs=>
  obtain⟨d,z,ne,e,mA,⟨od,es,ep,e2,c⟩,r⟩:=x;exact⟨ho _ d,z,ne,k _ _ (.inl rfl) e,mA,⟨od,es,ep,k _ _ (.inr d) e2,c⟩,r⟩
 |own y=>obtain⟨ob,e⟩:=x;exact⟨ob,k _ _ (.inl rfl) e⟩
 |xd fs=>obtain⟨mA,⟨od,es,ep,e,c⟩,r⟩:=x;exact⟨mA,⟨od,es,ep,k _ _ (.inl rfl) e,c⟩,r⟩
 |rng lo hi=>obtain⟨t,u,v,e⟩:=x;exact⟨t,u,v,k _ _ (.inl rfl) e⟩
 |frz ob u ih=>obtain⟨e,q⟩:=x;exact⟨k _ _ (.inl rfl) e,ih q⟩
 |tbl ps=>
  have e:h.get? a=some {cls:=.none,data:=.fields ps}:=x;show h'.get? a=some {cls:=.none,data:=.fields ps};exact k a _ (.inl rfl) e
 |met f y=>
  have e:h.get? a=some (PySem.W.methodObj (.ref f) (.ref y)):=x;show h'.get? a=some (PySem.W.methodObj (.ref f) (.ref y));exact k a _ (.inl rfl) e
 |ext φ=>obtain⟨p,⟨o,e⟩,st⟩:=x;exact⟨st _ _ p fun o q=>k _ _ (.inl rfl) q,⟨o,k _ _ (.inl rfl) e⟩,st⟩
def HOk.lt(x:HOk P w H h)(e:H a=some o):a<h.objs.size:=(x a o e).lt
def HOk.fresh(x:HOk P w H h)(e:h.objs.size<=a):H a=none:=by
 cases q:H a with
 |none=>rfl
 |some u=>exact absurd (abd (x.lt q) e) (acp _)
def HOk.kept(x:HOk P w H h)(k:∀b u,h.get? b=some u->h'.get? b=some u):HOk P w H h':=fun a o e=>
 (x a o e).bX (fun b u _ q=>k b u q) (fun _ q=>q) fun _ _ q=>q
def HOk.laid(x:HOk P w H h)(k:∀b u,h.get? b=some u->h'.get? b=some u)(hp:h.objs.size<=a)(new:aX P w (upd H a o) h' a o):HOk P w (upd H a o) h':=fun b u e=>by
 have hn:=x.fresh hp
 by_cases hb:b=a
 ·subst hb;rw[aa] at e;cases e;exact new
 ·rw[ad hb] at e;exact(x b u e).bX (fun c v _ q=>k c v q) (fun c q=>by rw[ad (av q hn)];exact q) fun c xs q=>by rw[ad (av q hn)];exact q
end
def Rd(H:Hp)(a:Addr)(u:HO):Prop:=H a=some u\/∃o,H a=some (.frz o u)
def Rd.ok{P:Program}{w:World}{H:Hp}{h:Heap}{a:Addr}{u:HO}(r:Rd H a u)(x:HOk P w H h):aX P w H h a u:=by
 rcases r with r|⟨o,r⟩
 ·exact x a u r
 ·obtain⟨_,q⟩:=x a _ r;exact q
def Mut:Option HO->Prop
 |some (.lst _)=>True
 |some (.dK _)=>True
 |some (.dT _)=>True
 |some (.set _ _)=>True
 |some (.ins _ _ _)=>True
 |some (.ext _)=>True
 |_=>False
section
variable {P:Program}{w:World}{H:Hp}{h h':Heap}{x e:Addr}{o':HO}
def HOk.write(ok:HOk P w H h)(mu:Mut (H x))(he:e=x\/H e=some (.own x))(k:∀b u,b≠e->h.get? b=some u->h'.get? b=some u)(heo:∃u,h'.get? e=some u)
  (new:aX P w (upd H x o') h' x o'):HOk P w (upd H x o') h':=fun b u q=>by
 have nown:∀c y,H c=some (.own y)->c≠x:=fun c y r z=>by subst z;rw[r] at mu;exact mu
 have ntup:∀c xs,H c=some (.tup xs)->c≠x:=fun c xs r z=>by subst z;rw[r] at mu;exact mu
 by_cases hb:b=x
 ·subst hb;rw[aa] at q;cases q;exact new
 ·rw[ad hb] at q
  by_cases hbe:b=e
  ·have q':H b=some (.own x):=by
    rcases he with z|z
    ·exact absurd (hbe.trans z) hb
    ·rw[hbe];exact z
   rw[q] at q';cases q';obtain⟨v,hv⟩:=heo;exact⟨v,by rw[hbe];exact hv⟩
  ·refine(ok b u q).bX (fun c v hc r=>k c v ?_ r) (fun c r=>by rw[ad (nown c b r)];exact r) fun c xs r=>by rw[ad (ntup c xs r)];exact r
   rcases hc with rfl|hc
   ·exact hbe
   ·rintro rfl;rcases he with z|z
    ·exact nown c b hc z
    ·rw[hc] at z;cases z;exact hb rfl
end
structure Un(fs ex:List Addr)(H H':Hp)(h h':Heap):Prop where
 keep:∀b o,h.get? b=some o->H b=none->b ∉ fs->b ∉ ex->h'.get? b=some o
 slot:∀b o,h.get? b=some o->H b=none->b∈fs->b ∉ ex->∃sl,h'.get? b=some {o with slots:=sl}
 free:∀b o,h.get? b=some o->H b=none->b ∉ ex->H' b=none
 there:∀b o,h.get? b=some o->b ∉ ex->∃o',h'.get? b=some o'
 tups:∀b xs,H b=some (.tup xs)->H' b=some (.tup xs)
 frzs:∀b o u,H b=some (.frz o u)->H' b=some (.frz o u)
 tbls:∀b ps,H b=some (.tbl ps)->∃more,H' b=some (.tbl (ps++more))
section
variable {fs fs' ex ex':List Addr}{H H1 H2:Hp}{h h1 h2 h':Heap}{a x e:Addr}{o:HO}
def Un.any(u:Un fs ex H H1 h h1){b:Addr}{ob:Obj}(q:h.get? b=some ob)(n:H b=none)(hx:b ∉ ex):∃sl,h1.get? b=some {ob with slots:=sl}:=by
 by_cases hb:b∈fs
 ·exact u.slot b ob q n hb hx
 ·exact⟨ob.slots,u.keep b ob q n hb hx⟩
def Un.kept(k:∀b u,h.get? b=some u->h'.get? b=some u):Un fs ex H H h h':=
 ⟨fun b ob q _ _ _=>k b ob q,fun b ob q _ _ _=>⟨ob.slots,k b ob q⟩,fun _ _ _ n _=>n,fun b ob q _=>⟨ob,k b ob q⟩,fun _ _ q=>q,fun _ _ _ q=>q,fun _ ps q=>⟨#[],by rw[q];simp⟩⟩
def Un.refl:Un fs ex H H h h:=Un.kept fun _ _ q=>q
def Un.laid(k:∀b u,h.get? b=some u->h'.get? b=some u)(hp:h.objs.size<=a)(hn:H a=none):Un fs ex H (upd H a o) h h' where
 keep:=fun b u q _ _ _=>k b u q
 slot:=fun b u q _ _ _=>⟨u.slots,k b u q⟩
 free:=fun b u q n _=>by rw[ad (acx (abd (acw q) hp))];exact n
 there:=fun b u q _=>⟨u,k b u q⟩
 tups:=fun b xs q=>by rw[ad (av q hn)];exact q
 frzs:=fun b u xs q=>by rw[ad (av q hn)];exact q
 tbls:=fun b ps q=>⟨#[],by rw[ad (av q hn),q];simp⟩
def Un.write(mu:Mut (H x))(he:e=x\/H e=some (.own x))(k:∀b u,b≠e->h.get? b=some u->h'.get? b=some u)(heo:∃u,h'.get? e=some u):Un fs ex H (upd H x o) h h':=by
 have hx:∀b,H b=none->b≠x:=fun b n z=>by subst z;rw[n] at mu;exact mu
 have hb:∀b,H b=none->b≠e:=fun b n z=>by
  subst z;rcases he with r|r
  ·exact hx b n r
  ·rw[n] at r;cases r
 have hm:∀b u,H b=some u->¬Mut (some u)->b≠x:=fun b u q nm z=>by subst z;rw[q] at mu;exact nm mu
 refine⟨fun b u q n _ _=>k b u (hb b n) q,fun b u q n _ _=>⟨u.slots,k b u (hb b n) q⟩,fun b u q n _=>by rw[ad (hx b n)];exact n,fun b u q _=>?_,
  fun b xs q=>by rw[ad (hm b _ q fun z=>z)];exact q,fun b u xs q=>by rw[ad (hm b _ q fun z=>z)];exact q,fun b ps q=>⟨#[],by rw[ad (hm b _ q fun z=>z),q];simp⟩⟩
 by_cases hbe:b=e
 ·subst hbe;exact heo
 ·exact⟨u,k b u hbe q⟩
end
def trk(h:Heap)(H:Hp):List Addr:=(List.range h.objs.size).filter fun a=>(H a).isSome
def g8(h:Heap)(H:Hp):Heap:=PySem.W.hideAll h (trk h H)
def tN(h:Heap)(H:Hp):(g8 h H).objs.size=h.objs.size:=PySem.W.hideAll_size _ _
def vE{h:Heap}{H:Hp}{b:Addr}{o:Obj}(e:h.get? b=some o)(n:H b=none):(g8 h H).get? b=some o:=
 PySem.W.hideAll_get _ e fun hm=>by
  have q:(H b).isSome=true:=(abZ.mp hm).2;rw[n] at q;simp at q
def xV{h:Heap}{H:Hp}{b:Addr}{o:Obj}(e:(g8 h H).get? b=some o):h.get? b=some o/\H b=none:=by
 have e':h.get? b=some o:=PySem.W.of_hideAll (trk h H) e;refine⟨e',?_⟩;cases q:H b with
 |none=>rfl
 |some x=>
  have hm:b∈trk h H:=abZ.mpr ⟨acg.mpr (acw e'),by simp[q]⟩;have z:(g8 h H).get? b=none:=PySem.W.hideAll_none (trk h H) hm;rw[z] at e;cases e
end L2
namespace L2
open PySem PySem.Spec PyProof.Rows
structure Mod(K:acX)(mg:Str->Option Value)(base:Heap):Prop where
 kin:K.In base
 glob:base.Ns mainGlobals mg
 blt:∃mb,base.Ns builtinsNs mb/\∀x:Str,x≠"__name__"->mb x=bootBuiltins x
 nolimit:base.NoLimit
structure Cx where
 prog:Program
 w:World
 K:acX
 mg:Str->Option Value
 base:Heap
 A:Around
 N:List Str
 s₀:Shared
 H₀:Hp
 env:Env
 outer:List Env
 stack:List Env
 ex:List Addr
 fn:Str->Bool
 calm:Bool
 pn:List (Addr×Obj)
 xe:Value->Shared->Prop
def frs(l:List Env):List Addr:=l.filterMap (·.frame)
abbrev Cx.fs(X:Cx):List Addr:=frs X.outer
def Vis(sc:Scope)(x:Str):Prop:=sc.names.lookup x=some .local\/sc.names.lookup x=some .cell\/sc.names.lookup x=some .free
def Loc(sc:Scope)(x:Str):Prop:=sc.names.lookup x=some .local\/sc.names.lookup x=some .cell
def Look(env:Env)(h:Heap)(m:Str->Option Value)(x:Str)(u:Value):Prop:=
 (env.kindOf x=some .local/\m x=some u)\/((env.kindOf x=some .cell\/env.kindOf x=some .free)/\∃c,env.cells.lookup x=some c/\h.IsCell c (some u))
structure Cx.Ok(X:Cx):Prop where
 mod:Mod X.K X.mg X.base
 kind:X.env.scope.kind=.function
 glob:X.env.globals=mainGlobals
 blt:X.env.builtins=builtinsNs
 above:X.s₀.heap.objs.size<=X.env.locals
 inj:∀x y c,X.env.cells.lookup x=some c->X.env.cells.lookup y=some c->x=y
 has:∀x,(X.env.kindOf x=some .cell\/X.env.kindOf x=some .free)->∃c,X.env.cells.lookup x=some c
 cab:∀x c,X.fn x=true->X.env.cells.lookup x=some c->X.s₀.heap.objs.size<=c
 hd:X.calm=true->X.A.handled=none
 frames:X.A.frames=some X.stack
 stk:X.stack=X.outer\/(X.stack=X.env::X.outer/\X.env.frame=some X.env.locals)
 exf:∀b∈X.ex,b≠X.env.locals/\∀x c,X.env.cells.lookup x=some c->c≠b
 bs:∀b o,X.base.get? b=some o->X.s₀.heap.get? b=some o/\X.H₀ b=none
 bsz:X.base.objs.size<=X.s₀.heap.objs.size
 noex:∀b o,X.base.get? b=some o->b ∉ X.ex
 exfs:∀b∈X.ex,b ∉ X.fs
 fm:X.s₀.heap.FunFrames X.base X.outer
 frf:∀b∈X.fs,X.H₀ b=none
structure Inv(X:Cx)(pins:List (Addr×Obj))(σ:List (Option V))(H:Hp)(s:Shared):Prop where
 ok:X.Ok
 os:s.os=X.s₀.os
 bare:AllBare s.gens
 base:Un X.fs X.ex X.H₀ H X.s₀.heap s.heap
 loc:∃m,s.heap.Ns X.env.locals m/\∀(i:Nat) (x:Str) (v:V),X.N[i]? =some x->σ[i]? =some (some v)->Vis X.env.scope x->∃u,RelV v u/\Look X.env s.heap m x u
 cell:∀x c,X.env.cells.lookup x=some c->∃v,s.heap.IsCell c v
 free:H X.env.locals=none
 freeC:∀x c,X.env.cells.lookup x=some c->H c=none
 pin:∀p∈X.pn++pins,s.heap.get? p.1=some p.2/\H p.1=none/\p.1≠X.env.locals/\p.1 ∉ X.fs/\∀v,p.2.data≠.cell v
 hok:HOk X.prog X.w H s.heap
 len:σ.length=X.N.length
section
variable {X:Cx}{pins:List (Addr×Obj)}{σ:List (Option V)}{H H':Hp}{s:Shared}{h':Heap}
def Cx.Ok.Bo(ok:X.Ok){b:Addr}{o:Obj}(e:X.base.get? b=some o):b ∉ X.fs:=fun hb=>by
 have:=(ok.fm.mem hb).1;rw[e] at this;cases this
def Inv.bs(I:Inv X pins σ H s):∀b o,X.base.get? b=some o->s.heap.get? b=some o/\H b=none:=fun b o e=>
 ⟨I.base.keep b o (I.ok.bs b o e).1 (I.ok.bs b o e).2 (I.ok.Bo e) (I.ok.noex b o e),I.base.free b o (I.ok.bs b o e).1 (I.ok.bs b o e).2 (I.ok.noex b o e)⟩
def Inv.bk(I:Inv X pins σ H s):∀b o,X.base.get? b=some o->s.heap.get? b=some o:=fun b o e=>(I.bs b o e).1
def Inv.mod(I:Inv X pins σ H s):Mod X.K X.mg X.base:=I.ok.mod
def Inv.kIn(I:Inv X pins σ H s):X.K.In s.heap:=I.ok.mod.kin.keeps I.bk
def Inv.nolimit(I:Inv X pins σ H s):s.heap.NoLimit:=I.ok.mod.nolimit.keeps I.bk
def Inv.lt(I:Inv X pins σ H s):X.env.locals<s.heap.objs.size:=let ⟨_,hn,_⟩:=I.loc;hn.lt
def Inv.sz(I:Inv X pins σ H s):X.s₀.heap.objs.size<=s.heap.objs.size:=acy I.ok.above (acz I.lt)
def Inv.Bp(I:Inv X pins σ H s){a:Addr}(h:s.heap.objs.size<=a):a ∉ X.fs:=fun hb=>by
 obtain⟨_,o,ho,_⟩:=I.ok.fm.mem hb;exact absurd (abd (acw ho) (acy I.sz h)) (acp _)
def Inv.cne(I:Inv X pins σ H s):∀x c,X.env.cells.lookup x=some c->c≠X.env.locals:=fun x c e z=>by
 obtain⟨v,o,ho,hd⟩:=I.cell x c e;obtain⟨m,⟨o',es,ep,ho',hd',_⟩,_⟩:=I.loc;rw[z,ho'] at ho;cases ho;rw[hd'] at hd;cases hd
def Inv.fm(I:Inv X pins σ H s):s.heap.FunFrames X.base X.outer:=by
 have all:∀(l:List Env),(∀b∈frs l,b∈X.fs)->X.s₀.heap.FunFrames X.base l->s.heap.FunFrames X.base l:=by
  intro l
  induction l with
  |nil=>intro _ _;trivial
  |cons env r ih=>
   intro hs hl;obtain⟨hk,⟨L,o,hf,hn,ho,hd⟩,hr⟩:=hl;have hL:L∈X.fs:=hs L (by unfold frs;rw[List.filterMap_cons,hf];exact abe);obtain⟨sl,e⟩:=I.base.slot L o ho (I.ok.frf L hL) hL fun z=>I.ok.exfs L z hL
   exact⟨hk,⟨L,_,hf,hn,e,hd⟩,ih (fun b hb=>hs b (by unfold frs;rw[List.filterMap_cons,hf];exact aaU _ hb)) hr⟩
 exact all X.outer (fun _ hb=>hb) I.ok.fm
def Inv.stack(I:Inv X pins σ H s):s.heap.FunFrames X.base X.stack:=by
 rcases I.ok.stk with e|⟨e,hf⟩
 ·rw[e];exact I.fm
 ·rw[e];obtain⟨m,hn,_⟩:=I.loc;refine .cons (by rw[I.ok.kind];decide) hf hn ?_ I.fm;exact Heap.get?_none_of_le (acy I.ok.bsz I.ok.above)
def Inv.oj(I:Inv X pins σ H s):∀b∈frs X.stack,b∈X.env.locals::X.fs:=fun b hb=>by
 rcases I.ok.stk with e|⟨e,hf⟩
 ·rw[e] at hb;exact aaU _ hb
 ·rw[e] at hb;unfold frs at hb;rw[List.filterMap_cons,hf] at hb;exact hb
def Inv.lW(I:Inv X pins σ H s):∀b∈frs X.stack,H b=none:=fun b hb=>by
 rcases acq.mp (I.oj b hb) with e|hb
 ·rw[e];exact I.free
 ·obtain⟨_,o,ho,_⟩:=I.ok.fm.mem hb;exact I.base.free b o ho (I.ok.frf b hb) fun z=>I.ok.exfs b z hb
def Inv.step{g':Array GenState}{t':Nat}{d':Drawn}{ch:List Addr}(I:Inv X pins σ H s)
  (hch:∀b∈ch,(b∈X.ex\/X.s₀.heap.objs.size<=b)/\b≠X.env.locals/\(∀x c,X.env.cells.lookup x=some c->c≠b)/\∀p∈X.pn++pins,p.1≠b)
  (keep:∀b o,b≠X.env.locals->b ∉ X.fs->b ∉ ch->s.heap.get? b=some o->H b=none->h'.get? b=some o)
  (slot:∀b o,b≠X.env.locals->b∈X.fs->b ∉ ch->s.heap.get? b=some o->H b=none->∃sl,h'.get? b=some {o with slots:=sl})(free:∀b o,b ∉ ch->s.heap.get? b=some o->H b=none->H' b=none)
  (there:∀b o,b ∉ ch->s.heap.get? b=some o->∃o',h'.get? b=some o')
  (tups:∀b xs,H b=some (.tup xs)->H' b=some (.tup xs))(frzs:∀b o u,H b=some (.frz o u)->H' b=some (.frz o u))(tbls:∀b ps,H b=some (.tbl ps)->∃more,H' b=some (.tbl (ps++more)))
  (ns:∀m,s.heap.Ns X.env.locals m->h'.Ns X.env.locals m)(hok:HOk X.prog X.w H' h')(hg:AllBare g') :
  Inv X pins σ H' {s with heap:=h',gens:=g',drawn:=d',toks:=t'}:=by
 have neL:∀b o,X.s₀.heap.get? b=some o->b≠X.env.locals:=fun b o e=>acx (abd (acw e) I.ok.above)
 have neC:∀b o,X.s₀.heap.get? b=some o->b ∉ X.ex->b ∉ ch:=fun b o e hx hb=>by
  rcases(hch b hb).1 with z|z
  ·exact hx z
  ·exact absurd (abd (acw e) z) (acp _)
 have cellK:∀x c,X.env.cells.lookup x=some c->∀v,s.heap.IsCell c v->h'.IsCell c v:=fun x c e v ⟨o,ho,hd⟩=>by
  have nch:c ∉ ch:=fun z=>(hch c z).2.2.1 x c e rfl
  by_cases hc:c∈X.fs
  ·obtain⟨sl,q⟩:=slot c o (I.cne x c e) hc nch ho (I.freeC x c e);exact⟨_,q,hd⟩
  ·exact⟨o,keep c o (I.cne x c e) hc nch ho (I.freeC x c e),hd⟩
 refine⟨I.ok,I.os,hg,⟨fun b o e n hb hx=>?_,fun b o e n hb hx=>?_,fun b o e n hx=>?_,fun b o e hx=>?_,fun b xs e=>tups b xs (I.base.tups b xs e),fun b o xs e=>frzs b o xs (I.base.frzs b o xs e),fun b ps e=>?_⟩,?_,fun x c e=>?_,?_,fun x c e=>?_,fun p hp=>?_,hok,I.len⟩
 ·exact keep b o (neL b o e) hb (neC b o e hx) (I.base.keep b o e n hb hx) (I.base.free b o e n hx)
 ·obtain⟨sl,e1⟩:=I.base.slot b o e n hb hx;obtain⟨sl',e2⟩:=slot b _ (neL b o e) hb (neC b o e hx) e1 (I.base.free b o e n hx);exact⟨sl',e2⟩
 ·obtain⟨o',e1⟩:=I.base.there b o e hx;exact free b o' (neC b o e hx) e1 (I.base.free b o e n hx)
 ·obtain⟨o',e1⟩:=I.base.there b o e hx;exact there b o' (neC b o e hx) e1
 ·obtain⟨m1,e1⟩:=I.base.tbls b ps e;obtain⟨m2,e2⟩:=tbls b _ e1;exact⟨m1++m2,by rw[e2,Array.append_assoc]⟩
 ·obtain⟨m,hn,hl⟩:=I.loc;refine⟨m,ns m hn,fun i x v e1 e2 e3=>?_⟩;obtain⟨u,r,l⟩:=hl i x v e1 e2 e3;refine⟨u,r,?_⟩;rcases l with l|⟨k,c,e,z⟩
  ·exact .inl l
  ·exact .inr ⟨k,c,e,cellK x c e _ z⟩
 ·obtain⟨v,z⟩:=I.cell x c e;exact⟨v,cellK x c e v z⟩
 ·obtain⟨m,⟨o,_,_,ho,_⟩,_⟩:=I.loc;exact free _ o (fun z=>(hch _ z).2.1 rfl) ho I.free
 ·obtain⟨v,o,ho,hd⟩:=I.cell x c e;exact free c o (fun z=>(hch c z).2.2.1 x c e rfl) ho (I.freeC x c e)
 ·obtain⟨e,n,ne,nf,d⟩:=I.pin p hp;have nch:p.1 ∉ ch:=fun z=>(hch p.1 z).2.2.2 p hp rfl
  exact⟨keep p.1 p.2 ne nf nch e n,free p.1 p.2 nch e n,ne,nf,d⟩
def Inv.un{t':Nat}(I:Inv X pins σ H s)(u:Un X.fs [] H H' s.heap h')(hok:HOk X.prog X.w H' h'):Inv X pins σ H' {s with heap:=h',toks:=t'}:=by
 obtain⟨m,⟨o,es,ep,ho,r⟩,_⟩:=id I.loc;obtain⟨sl,hL⟩:=u.any ho I.free (by simp);exact I.step (g':=s.gens) (d':=s.drawn) (ch:=[]) (fun _ z=>nomatch z) (fun b o _ hb _ e n=>u.keep b o e n hb (by simp)) (fun b o _ hb _ e n=>u.slot b o e n hb (by simp)) (fun b o _ e n=>u.free b o e n (by simp)) (fun b o _ e=>u.there b o e (by simp)) u.tups u.frzs u.tbls (fun m' hm=>by
  obtain⟨o',es',ep',ho',r'⟩:=hm;rw[ho] at ho';cases ho';exact⟨_,es',ep',hL,r'⟩) hok I.bare
def Inv.call{g':Array GenState}{t':Nat}{d':Drawn}{ch:List Addr}(I:Inv X pins σ H s)(u:Un (frs X.stack) ch H H' s.heap h')(hok:HOk X.prog X.w H' h')(hg:AllBare g')
  (hch:∀b∈ch,(b∈X.ex\/X.s₀.heap.objs.size<=b)/\b≠X.env.locals/\(∀x c,X.env.cells.lookup x=some c->c≠b)/\∀p∈X.pn++pins,p.1≠b) :
  Inv X pins σ H' {s with heap:=h',gens:=g',drawn:=d',toks:=t'}:=by
 obtain⟨m,⟨o,es,ep,ho,r⟩,_⟩:=id I.loc;obtain⟨sl,hL⟩:=u.any ho I.free fun z=>(hch _ z).2.1 rfl
 exact I.step (ch:=ch) hch (fun b o hL hb hc e n=>u.keep b o e n (fun z=>(acq.mp (I.oj b z)).elim hL hb) hc) (fun b o _ _ hc e n=>u.any e n hc) (fun b o hc e n=>u.free b o e n hc) (fun b o hc e=>u.there b o e hc) u.tups u.frzs u.tbls (fun m' hm=>by
  obtain⟨o',es',ep',ho',r'⟩:=hm;rw[ho] at ho';cases ho';exact⟨_,es',ep',hL,r'⟩) hok hg
def Inv.turned{t':Nat}{it:Addr}(I:Inv X pins σ H s)(k:∀b o,b≠it->s.heap.get? b=some o->h'.get? b=some o)(hn:H it=none)(hL:it≠X.env.locals)
  (h1:it∈X.ex\/X.s₀.heap.objs.size<=it)(h2:∀x c,X.env.cells.lookup x=some c->c≠it)(h3:∀p∈X.pn++pins,p.1≠it):Inv X pins σ H {s with heap:=h',toks:=t'}:=by
 have nit:∀b u,H b=some u->b≠it:=fun b u e z=>by rw[z,hn] at e;cases e
 refine I.step (g':=s.gens) (d':=s.drawn) (ch:=[it]) (fun b hb=>?_) (fun b o _ _ hc e _=>k b o (fun z=>hc (by simp[z])) e) (fun b o _ _ hc e _=>⟨o.slots,k b o (fun z=>hc (by simp[z])) e⟩) (fun _ _ _ _ n=>n)
  (fun b o hc e=>⟨o,k b o (fun z=>hc (by simp[z])) e⟩) (fun _ _ e=>e) (fun _ _ _ e=>e) (fun b ps e=>⟨#[],by rw[e];simp⟩) (fun m hm=>?_) (fun b u e=>?_) I.bare
 ·have e:b=it:=by simpa using hb
  subst e;exact⟨h1,hL,h2,h3⟩
 ·obtain⟨o,es,ep,ho,r⟩:=hm;exact⟨o,es,ep,k _ o (acQ hL) ho,r⟩
 ·refine(I.hok b u e).bX (fun c v hc q=>k c v ?_ q) (fun _ q=>q) fun _ _ q=>q
  rcases hc with z|z
  ·rw[z];exact nit b u e
  ·exact nit c _ z
def Inv.tok(I:Inv X pins σ H s)(t:Nat):Inv X pins σ H {s with toks:=t}:=I.un (h':=s.heap) (t':=t) Un.refl I.hok
def Inv.kept{t':Nat}(I:Inv X pins σ H s)(k:∀b u,s.heap.get? b=some u->h'.get? b=some u):Inv X pins σ H {s with heap:=h',toks:=t'}:=I.un (Un.kept k) (I.hok.kept k)
def Inv.laid{a:Addr}{o:HO}{t':Nat}(I:Inv X pins σ H s)(k:∀b u,s.heap.get? b=some u->h'.get? b=some u)(hp:s.heap.objs.size<=a)(new:aX X.prog X.w (upd H a o) h' a o) :
  Inv X pins σ (upd H a o) {s with heap:=h',toks:=t'}:=I.un (Un.laid k hp (I.hok.fresh hp)) (I.hok.laid k hp new)
def Inv.write{x e:Addr}{o:HO}{t':Nat}(I:Inv X pins σ H s)(mu:Mut (H x))(he:e=x\/H e=some (.own x))(k:∀b u,b≠e->s.heap.get? b=some u->h'.get? b=some u)(heo:∃u,h'.get? e=some u)
  (new:aX X.prog X.w (upd H x o) h' x o):Inv X pins σ (upd H x o) {s with heap:=h',toks:=t'}:=I.un (Un.write mu he k heo) (I.hok.write mu he k heo new)
def Inv.gi{pins':List (Addr×Obj)}(I:Inv X pins σ H s)(h:∀p∈pins',s.heap.get? p.1=some p.2/\H p.1=none/\p.1≠X.env.locals/\p.1 ∉ X.fs/\∀v,p.2.data≠.cell v):Inv X pins' σ H s:=
 ⟨I.ok,I.os,I.bare,I.base,I.loc,I.cell,I.free,I.freeC,fun p hp=>(ab0.mp hp).elim (fun z=>I.pin p (aaV _ z)) (h p),I.hok,I.len⟩
def iG{N:List Str}(hN:N.Nodup){i j:Nat}{x:Str}(a:N[i]? =some x)(b:N[j]? =some x):i=j:=by
 obtain⟨h1,e1⟩:=aaj.mp a;obtain⟨h2,e2⟩:=aaj.mp b;exact(List.getElem_inj hN).mp (e1.trans e2.symm)
def tO{M:Model}{A:Around}{E:Value->Shared->Prop}{i:Nat}{x:Str}{v:V}{u:Value}{Q:Unit->Shared->Prop}(I:Inv X pins σ H s)(hN:X.N.Nodup)(hi:X.N[i]? =some x)(hx:Loc X.env.scope x)(r:RelV v u)
  (h:∀s',Inv X pins (σ.set i (some v)) H s'->(∃a,Heap.SameBut a s.heap s'.heap/\(a=X.env.locals\/X.env.cells.lookup x=some a))->Q () s')(hf:X.fn x=true\/X.env.scope.names.lookup x=some .local:=by first | exact .inl rfl | exact .inr rfl | assumption):wpAny M A (storeName X.env x u) Q E s:=by
 obtain⟨m,hn,hl⟩:=id I.loc;have hcls:(X.env.scope.kind == .class || (X.env.scope.kind == .module && X.env.locals != X.env.globals))=false:=by rw[I.ok.kind];rfl
 have hiσ:i < σ.length:=by rw[I.len];exact(aaj.mp hi).1
 have cne:=I.cne;have tracked:∀{a:Addr} {h':Heap},(∃o,s.heap.get? a=some o/\H a=none)->Heap.SameBut a s.heap h'->HOk X.prog X.w H h':=fun{a h'} ha hs b ob e=>by
  obtain⟨_,_,hfree⟩:=ha;refine(I.hok b ob e).bX (fun c w' hc q=>(hs.2 c ?_).trans q) (fun _ q=>q) fun _ _ q=>q
  rintro rfl;rcases hc with rfl|hc
  ·rw[hfree] at e;cases e
  ·rw[hfree] at hc;cases hc
 rcases hx with hk|hk
 ·refine wpAny_storeName_local hk hn (fun h' hn' hs=>?_) hcls;obtain⟨oL,_,_,hoL,_⟩:=id hn;refine h _ ⟨I.ok,I.os,I.bare,⟨fun b o e n hb hx=>?_,fun b o e n hb hx=>?_,I.base.free,fun b o e hx=>?_,I.base.tups,I.base.frzs,I.base.tbls⟩,⟨_,hn',fun j y v' e1 e2 e3=>?_⟩,fun y c e=>?_,I.free,I.freeC,fun p hp=>?_,tracked ⟨oL,hoL,I.free⟩ hs,by simpa using I.len⟩ ⟨_,hs,.inl rfl⟩
  ·exact(hs.2 b (acx (abd (acw e) I.ok.above))).trans (I.base.keep b o e n hb hx)
  ·obtain⟨sl,e1⟩:=I.base.slot b o e n hb hx;exact⟨sl,(hs.2 b (acx (abd (acw e) I.ok.above))).trans e1⟩
  ·obtain⟨o',e1⟩:=I.base.there b o e hx;exact⟨o',(hs.2 b (acx (abd (acw e) I.ok.above))).trans e1⟩
  ·by_cases hj:j=i
   ·subst hj;rw[hi] at e1;cases e1;rw[List.getElem?_set_self hiσ] at e2;cases e2
    exact⟨u,r,.inl ⟨hk,by simp⟩⟩
   ·rw[List.getElem?_set_ne (acQ hj)] at e2;obtain⟨u',r',q⟩:=hl j y v' e1 e2 e3;refine⟨u',r',?_⟩;rcases q with ⟨k,e⟩|⟨k,c,e,z⟩
    ·refine .inl ⟨k,?_⟩;have:y≠x:=fun e=>hj (iG hN e1 (e▸hi))
     simp[this,e]
    ·exact .inr ⟨k,c,e,z.sameBut hs (cne y c e)⟩
  ·obtain⟨w',z⟩:=I.cell y c e;exact⟨w',z.sameBut hs (cne y c e)⟩
  ·obtain⟨e,n,ne,nf,d⟩:=I.pin p hp;exact⟨(hs.2 p.1 ne).trans e,n,ne,nf,d⟩
 ·have hfn:X.fn x=true:=by
   rcases hf with z|z
   ·exact z
   ·rw[z] at hk;cases hk
  obtain⟨c,hc⟩:=I.ok.has x (.inl hk);obtain⟨w',z⟩:=I.cell x c hc;refine wpAny_storeName_cell I.ok.kind hk hc z (fun h' hc' hs=>?_);obtain⟨oc,hoc,hocd⟩:=id z;refine h {s with heap:=h'} ⟨I.ok,I.os,I.bare,⟨fun b o e n hb hx=>?_,fun b o e n hb hx=>?_,I.base.free,fun b o e hx=>?_,I.base.tups,I.base.frzs,I.base.tbls⟩,⟨m,hn.sameBut hs (acQ (cne x c hc)),fun j y v' e1 e2 e3=>?_⟩,fun y c' e=>?_,I.free,I.freeC,fun p hp=>?_,tracked ⟨oc,hoc,I.freeC x c hc⟩ hs,by simpa using I.len⟩ ⟨c,hs,.inr hc⟩
  ·exact(hs.2 b (acx (abd (acw e) (I.ok.cab x c hfn hc)))).trans (I.base.keep b o e n hb hx)
  ·obtain⟨sl,e1⟩:=I.base.slot b o e n hb hx;exact⟨sl,(hs.2 b (acx (abd (acw e) (I.ok.cab x c hfn hc)))).trans e1⟩
  ·obtain⟨o',e1⟩:=I.base.there b o e hx;exact⟨o',(hs.2 b (acx (abd (acw e) (I.ok.cab x c hfn hc)))).trans e1⟩
  ·by_cases hj:j=i
   ·subst hj;rw[hi] at e1;cases e1;rw[List.getElem?_set_self hiσ] at e2;cases e2
    exact⟨u,r,.inr ⟨.inl hk,c,hc,hc'⟩⟩
   ·rw[List.getElem?_set_ne (acQ hj)] at e2;obtain⟨u',r',q⟩:=hl j y v' e1 e2 e3;refine⟨u',r',?_⟩;rcases q with q|⟨k,c',e,z'⟩
    ·exact .inl q
    ·refine .inr ⟨k,c',e,z'.sameBut hs ?_⟩;rintro rfl;exact hj (iG hN e1 (I.ok.inj _ _ _ e hc▸hi))
  ·by_cases hcc:c'=c
   ·subst hcc;exact⟨_,hc'⟩
   ·obtain⟨w2,z2⟩:=I.cell y c' e;exact⟨w2,z2.sameBut hs hcc⟩
  ·obtain⟨e,n,ne,nf,d⟩:=I.pin p hp;refine⟨(hs.2 p.1 ?_).trans e,n,ne,nf,d⟩;intro q;rw[q,hoc] at e;have q':oc=p.2:=abY e;exact d w' (by rw[←q'];exact hocd)
def ko{M:Model}{A:Around}{E:Value->Shared->Prop}{i:Nat}{x:Str}{v:V}{u:Value}{Q:Unit->Shared->Prop}(I:Inv X pins σ H s)(hN:X.N.Nodup)(hi:X.N[i]? =some x)(hx:Loc X.env.scope x)(r:RelV v u)
  (h:∀s',Inv X pins (σ.set i (some v)) H s'->Q () s')(hf:X.fn x=true\/X.env.scope.names.lookup x=some .local:=by first | exact .inl rfl | exact .inr rfl | assumption):wpAny M A (storeName X.env x u) Q E s:=
 tO I hN hi hx r (fun s' I' _=>h s' I') hf
def Inv.AI{s':Shared}{ch:List Addr}(I:Inv X pins σ H s)(ho:s'.os=s.os)(u:Un (frs X.stack) ch H H' s.heap s'.heap)(hok:HOk X.prog X.w H' s'.heap)(hg:AllBare s'.gens)
  (hch:∀b∈ch,(b∈X.ex\/X.s₀.heap.objs.size<=b)/\b≠X.env.locals/\(∀x c,X.env.cells.lookup x=some c->c≠b)/\∀p∈X.pn++pins,p.1≠b):Inv X pins σ H' s':=by
 obtain⟨h',g',d',t',o'⟩:=s';have e:o'=s.os:=ho;subst e;exact I.call (g':=g') (t':=t') (d':=d') u hok hg hch
end
abbrev XK:=Value->Option Addr->Hp->Prop
abbrev St:=List (Option V)
abbrev VK:=V->Hp->Prop
abbrev TE:=St->Hp->VK->Prop
abbrev TT:=St->Hp->(Bool->Hp->Prop)->Prop
abbrev TA:=St->Hp->(List V->Hp->Prop)->Prop
structure Ends where
 nx:St->Hp->Prop
 rt:VK
 bk:St->Hp->Prop:=fun _ _=>False
 ct:St->Hp->Prop:=fun _ _=>False
abbrev TS:=Ends->St->Hp->Prop
def EP(X:Cx)(pins:List (Addr×Obj))(σ:St)(Q:VK)(u:Value)(s':Shared):Prop:=∃v H',Inv X pins σ H' s'/\RelV v u/\Q v H'
def TP(X:Cx)(pins:List (Addr×Obj))(σ:St)(Q:Bool->Hp->Prop)(b:Bool)(s':Shared):Prop:=∃H',Inv X pins σ H' s'/\Q b H'
def AP(X:Cx)(pins:List (Addr×Obj))(σ:St)(Q:List V->Hp->Prop)(us:List Value)(s':Shared):Prop:=∃vs H',Inv X pins σ H' s'/\Vals vs us/\Q vs H'
def SP(X:Cx)(pins:List (Addr×Obj))(D:Ends)(f:Flow)(s':Shared):Prop:=
 match f with
 |.next=>∃σ' H',Inv X pins σ' H' s'/\D.nx σ' H'
 |.brk=>∃σ' H',Inv X pins σ' H' s'/\D.bk σ' H'
 |.cont=>∃σ' H',Inv X pins σ' H' s'/\D.ct σ' H'
 |.ret u=>∃v σ' H',Inv X pins σ' H' s'/\RelV v u/\D.rt v H'
def PE(X:Cx)(e:Expr)(t:TE):Prop:=
 ∀(pins:List (Addr×Obj)) (s:Shared) (σ:St) (H:Hp) (Q:VK),Inv X pins σ H s->t σ H Q->wpAny (model X.prog X.w) X.A (eval e X.env) (EP X pins σ Q) X.xe s
def PT(X:Cx)(e:Expr)(t:TT):Prop:=
 ∀(pins:List (Addr×Obj)) (s:Shared) (σ:St) (H:Hp) (Q:Bool->Hp->Prop),Inv X pins σ H s->t σ H Q->wpAny (model X.prog X.w) X.A (isTrue e X.env (eval e X.env)) (TP X pins σ Q) X.xe s
def PW(X:Cx)(e:Expr)(t:TT):Prop:=
 ∀(whole:Sem Value) (pins:List (Addr×Obj)) (s:Shared) (σ:St) (H:Hp) (Q:Bool->Hp->Prop),Inv X pins σ H s->t σ H Q->wpAny (model X.prog X.w) X.A (isTrue e X.env whole) (TP X pins σ Q) X.xe s
def PW.pt{X:Cx}{e:Expr}{t:TT}(h:PW X e t):PT X e t:=h _
def PA(X:Cx)(es:List Expr)(t:TA):Prop:=
 ∀(pos:Pos) (pins:List (Addr×Obj)) (s:Shared) (σ:St) (H:Hp) (Q:List V->Hp->Prop),Inv X pins σ H s->t σ H Q->wpAny (model X.prog X.w) X.A (spliced (backTo pos (starEach es X.env))) (AP X pins σ Q) X.xe s
def PS(X:Cx)(st:Stmt)(t:TS):Prop:=
 ∀(pins:List (Addr×Obj)) (s:Shared) (σ:St) (H:Hp) (D:Ends),Inv X pins σ H s->t D σ H->wpAny (model X.prog X.w) X.A (exec st X.env) (SP X pins D) X.xe s
def PSs(X:Cx)(st:List Stmt)(t:TS):Prop:=
 ∀(pins:List (Addr×Obj)) (s:Shared) (σ:St) (H:Hp) (D:Ends),Inv X pins σ H s->t D σ H->wpAny (model X.prog X.w) X.A (execs st X.env) (SP X pins D) X.xe s
def thn{α:Type}{t:Sem α}{Q Q':α->Shared->Prop}{M:Model}{A:Around}{E:Value->Shared->Prop}{s:Shared}(h:wpAny M A t Q E s)(hQ:∀a s,Q a s->Q' a s):wpAny M A t Q' E s:=acM h hQ fun _ _ x=>x
end L2
namespace L2
open PySem PySem.Spec PyProof.Rows
section
variable {X:Cx}
def vF(i:Nat):TE:=fun σ H Q=>∃v,σ[i]? =some (some v)/\Q v H
def tC(v:V):TE:=fun _ H Q=>Q v H
def tP{i:Nat}{x:Str}{pos:Pos}(hN:X.N[i]? =some x)(hv:Vis X.env.scope x)(hd:(x == ("__debug__":Str))=false:=by decide)(hcd:(x == ("__classdict__":Str))=false:=by decide):PE X (.Name x pos) (vF i):=by
 intro pins s σ H Q I h;obtain⟨v,e,h⟩:=h;obtain⟨m,hn,hl⟩:=I.loc;obtain⟨u,r,l⟩:=hl i x v hN e hv;have fin:EP X pins σ Q u s:=⟨v,H,I,r,h⟩;rcases l with ⟨hk,hm⟩|⟨hk,c,hc,hcell⟩
 ·exact wpAny_Name (wpAny_loadName_local I.ok.kind hk hn hm fin) hd
 ·rcases hk with hk|hk
  ·exact wpAny_Name (wpAny_loadName_cell I.ok.kind hk hc hcell fin) hd
  ·exact wpAny_Name (wpAny_loadName_free I.ok.kind hk hc hcell fin hcd) hd
def aq{i j pos}:PE X (.Constant (.int i) j pos) (tC (.int i)):=fun _ _ _ H _ I h=>wpAny_Constant_int ⟨.int i,H,I.tok _,⟨_,rfl⟩,h⟩
def c8{b j pos}:PE X (.Constant (.bool b) j pos) (tC (.bl b)):=fun _ _ _ H _ I h=>Constant_bool ⟨.bl b,H,I,rfl,h⟩
def i9{j pos}:PE X (.Constant .none j pos) (tC .non):=fun _ _ _ H _ I h=>Constant_none ⟨.non,H,I,rfl,h⟩
def cJ{x j pos}:PE X (.Constant (.str x) j pos) (tC (.str x)):=fun _ _ _ H _ I h=>Calls.Constant_str ⟨.str x,H,I.tok _,⟨_,rfl⟩,h⟩
def Gl(X:Cx)(x:Str):Prop:=X.env.kindOf x=some .globalImplicit
def lX{E:Value->Shared->Prop}{pins:List (Addr×Obj)}{s:Shared}{σ:St}{H:Hp}{x:Str}{u:Value}{pos:Pos}{Q:Value->Shared->Prop}(I:Inv X pins σ H s)(hg:Gl X x)(hm:X.mg x=some u)(h:Q u s)
  (hd:(x == ("__debug__":Str))=false:=by decide):wpAny (model X.prog X.w) X.A (eval (.Name x pos) X.env) Q E s:=
 Calls.Name_function_global I.ok.kind hg (Calls.loadGlobal_global (by rw[I.ok.glob];exact I.mod.glob.keeps I.bk) hm h) hd
def eX{E:Value->Shared->Prop}{pins:List (Addr×Obj)}{s:Shared}{σ:St}{H:Hp}{x:Str}{u:Value}{pos:Pos}{Q:Value->Shared->Prop}(I:Inv X pins σ H s)(hg:Gl X x)(hm:X.mg x=none)(hv:bootBuiltins x=some u)(h:Q u s)
  (hn:x≠"__name__":=by decide)(hd:(x == ("__debug__":Str))=false:=by decide):wpAny (model X.prog X.w) X.A (eval (.Name x pos) X.env) Q E s:=by
 obtain⟨mb,h1,h2⟩:=I.mod.blt;exact Calls.Name_function_global I.ok.kind hg (Calls.loadGlobal_builtin (by rw[I.ok.glob];exact I.mod.glob.keeps I.bk) hm (by rw[I.ok.blt];exact h1.keeps I.bk) ((h2 x hn).trans hv) h) hd
def lY{x:Str}{v:V}{u:Value}{pos:Pos}(hg:Gl X x)(hm:X.mg x=some u)(r:RelV v u)(hd:(x == ("__debug__":Str))=false:=by decide):PE X (.Name x pos) (tC v):=
 fun _ _ _ H _ I h=>lX I hg hm ⟨v,H,I,r,h⟩ hd
def cC{x:Str}{v:V}{u:Value}{pos:Pos}(hg:Gl X x)(hm:X.mg x=none)(hv:bootBuiltins x=some u)(r:RelV v u)(hn:x≠"__name__":=by decide)(hd:(x == ("__debug__":Str))=false:=by decide):PE X (.Name x pos) (tC v):=
 fun _ _ _ H _ I h=>eX I hg hm hv ⟨v,H,I,r,h⟩ hn hd
variable {a b:Expr}{ta tb:TE}{pos:Pos}
def PC(X:Cx)(op:CmpOp)(a b:Expr)(t:TE):Prop:=
 ∀(pins:List (Addr×Obj)) (s:Shared) (σ:St) (H:Hp) (Q:VK),Inv X pins σ H s->t σ H Q->
  wpAny (model X.prog X.w) X.A (eval a X.env) (fun v s₁=>wpAny (model X.prog X.w) X.A (eval b X.env) (fun u s₂=>wpAny (model X.prog X.w) X.A (compareOp op v u) (EP X pins σ Q) X.xe s₂) X.xe s₁) X.xe s
def tB(t:TE):TT:=fun σ H Q=>t σ H fun x H1=>∃c,x=.bl c/\Q c H1
def y4{op:CmpOp}{t:TE}(h:PC X op a b t)(h1:behindInMarks op b=false:=by first | exact nobehind _ (by decide) (by decide) | rfl):PE X (.Compare a [op] [b] pos) t:=fun pins s σ H Q I hw=>wpAny_Compare1 (h pins s σ H Q I hw) h1
def ej{op:CmpOp}{t:TE}(h:PC X op a b t)(h1:behindInMarks op b=false:=by first | exact nobehind _ (by decide) (by decide) | rfl):PT X (.Compare a [op] [b] pos) (tB t):=by
 intro pins s σ H Q I hw;refine wpAny_isTrue_Compare1 (thn (h pins s σ H _ I hw) fun v s1 h1=>thn h1 fun u s2 h2=>thn h2 fun c s3 ⟨x,H1,I1,r1,q1⟩=>?_) h1;obtain⟨d,rfl,q⟩:=q1;cases r1
 exact abq ⟨H1,I1,q⟩
def bN{e:Expr}{t:TE}(h:PE X e t)(he:∀whole,isTrue e X.env whole=(do let v ←whole;standAt e.pos;holding [v] (truthy v)):=by intro _;rfl):PT X e (tB t):=by
 intro pins s σ H Q I hw;refine isTrue_plain (thn (h pins s σ H _ I hw) fun v s1 ⟨x,H1,I1,r1,q1⟩=>?_) (he _);obtain⟨d,rfl,q⟩:=q1;cases r1
 exact abq ⟨H1,I1,q⟩
variable {tA tB':TT}{rest:List Expr}
def Bq(t u:TT):TT:=fun σ H Q=>t σ H fun c H1=>if c=true then u σ H1 Q else Q false H1
def tOr(t u:TT):TT:=fun σ H Q=>t σ H fun c H1=>if c=true then Q true H1 else u σ H1 Q
def Br(t:TT):TT:=fun σ H Q=>t σ H fun c H1=>Q (!c) H1
def qy(ha:PT X a tA):PW X (.BoolOp .And [a] pos) tA:=by
 intro wh pins s σ H Q I h;refine isTrue_and (thn (ha pins s σ H Q I h) fun c s1 e=>?_);cases c with
 |true=>exact isTrue_and_nil e
 |false=>exact e
def k8(ha:PT X a tA):PW X (.BoolOp .Or [a] pos) tA:=by
 intro wh pins s σ H Q I h;refine isTrue_or (thn (ha pins s σ H Q I h) fun c s1 e=>?_);cases c with
 |false=>exact isTrue_or_nil e
 |true=>exact e
def tQ(ha:PT X a tA)(hb:PW X (.BoolOp .And (b::rest) pos) tB'):PW X (.BoolOp .And (a::b::rest) pos) (Bq tA tB'):=by
 intro wh pins s σ H Q I h;refine isTrue_and (thn (ha pins s σ H _ I h) fun c s1 ⟨H1,I1,q1⟩=>?_);cases c with
 |true=>exact hb wh pins s1 σ H1 Q I1 q1
 |false=>exact⟨H1,I1,q1⟩
def k9(ha:PT X a tA)(hb:PW X (.BoolOp .Or (b::rest) pos) tB'):PW X (.BoolOp .Or (a::b::rest) pos) (tOr tA tB'):=by
 intro wh pins s σ H Q I h;refine isTrue_or (thn (ha pins s σ H _ I h) fun c s1 ⟨H1,I1,q1⟩=>?_);cases c with
 |true=>exact⟨H1,I1,q1⟩
 |false=>exact hb wh pins s1 σ H1 Q I1 q1
def eY(ha:PT X a tA):PT X (.UnaryOp .Not a pos) (Br tA):=by
 intro pins s σ H Q I h;exact isTrue_not (ha pins s σ H (fun c H1=>Q (!c) H1) I h)
def Bs(ta tb:TE):TE:=fun σ H Q=>ta σ H fun x H1=>∃c,x=.bl c/\if c=true then Q (.bl true) H1 else tb σ H1 Q
def y8{op}{t:TE}(h:PE X a t):PE X (.BoolOp op [a] pos) t:=fun pins s σ H Q I hw=>BoolOp_one (h pins s σ H Q I hw)
def AJ(ha:PE X a ta)(hb:PE X (.BoolOp .Or (b::rest) pos) tb):PE X (.BoolOp .Or (a::b::rest) pos) (Bs ta tb):=by
 intro pins s σ H Q I h;refine BoolOp_or (thn (ha pins s σ H _ I h) fun v s1 ⟨x,H1,I1,r1,q1⟩=>?_);obtain⟨c,rfl,q1⟩:=q1;cases r1
 refine abq ?_;cases c with
 |false=>exact hb pins s1 σ H1 Q I1 q1
 |true=>exact⟨.bl true,H1,I1,rfl,q1⟩
end
end L2
namespace L2
open PySem PySem.Spec PyProof.Rows
def SqL(K:acX)(H:Hp)(a:Addr)(xs:List V):Prop:=
 Rd H a (.lst xs)\/
  ∃(o:Obj) (its:Array Value) (n:Nat),K.lookup a=some o/\o.cls=.type "list"/\o.dict=none/\o.data=.seq its n/\its.size<=sizeLine/\Vals xs its.toList
def SqT(K:acX)(H:Hp)(a:Addr)(xs:List V):Prop:=
 Rd H a (.tup xs)\/
  ∃(o:Obj) (its:Array Value) (n:Nat),K.lookup a=some o/\o.cls=.type "tuple"/\o.data=.seq its n/\its.size<=sizeLine/\Vals xs its.toList
def Bt:Value->Option V
 |.none=>some .non
 |.bool b=>some (.bl b)
 |.int i _=>some (.int i)
 |.str x _=>some (.str x)
 |.bytes b _=>some (.byt b)
 |.float b _=>some (.flt b)
 |.ref a=>some (.ref a)
 |.type n=>some (.ty n)
 |_=>none
def RelV.abs{x:V}{u:Value}(r:RelV x u):Bt u=some x:=by
 cases x with
 |non=>cases r;rfl
 |bl _=>cases r;rfl
 |int _=>obtain⟨t,rfl⟩:=r;rfl
 |str _=>obtain⟨t,rfl⟩:=r;rfl
 |byt _=>obtain⟨t,rfl⟩:=r;rfl
 |flt _=>obtain⟨t,rfl⟩:=r;rfl
 |ref _=>cases r;rfl
 |ty _=>cases r;rfl
def RelV.inj{x y:V}{u:Value}(r:RelV x u)(q:RelV y u):x=y:=abY (r.abs.symm.trans q.abs)
def Vals.inj:∀{xs ys:List V} {us:List Value},Vals xs us->Vals ys us->xs=ys
 |_,_,_,.nil,.nil=>rfl
 |_,_,_,.cons r t,.cons r' t'=>by rw[r.inj r',Vals.inj t t']
section
variable {X:Cx}{pins:List (Addr×Obj)}{σ:St}{H:Hp}{s:Shared}{a:Addr}{xs ys:List V}
def SqL.of{K:acX}(h:H a=some (.lst xs)):SqL K H a xs:=.inl (.inl h)
def SqT.of{K:acX}(h:H a=some (.tup xs)):SqT K H a xs:=.inl (.inl h)
def Inv.list(I:Inv X pins σ H s)(h:SqL X.K H a xs):∃its:List Value,Vals xs its/\PlainL s.heap a its.toArray/\xs.length<=sizeLine:=by
 rcases h with h|⟨o,its,n,hk,hc,hd,hs,hz,r⟩
 ·obtain⟨z,its,n,r,e⟩:=h.ok I.hok;exact⟨its,r,⟨_,n,e,rfl,rfl,rfl⟩,z⟩
 ·refine⟨its.toList,r,⟨o,n,I.kIn a o hk,hc,hd,by simpa using hs⟩,?_⟩;have e:=r.length;simp only[aa2] at e;omega
def Inv.tuple(I:Inv X pins σ H s)(h:SqT X.K H a xs):∃its:List Value,Vals xs its/\IsTup s.heap a its.toArray/\xs.length<=sizeLine:=by
 rcases h with h|⟨o,its,n,hk,hc,hs,hz,r⟩
 ·obtain⟨z,its,r,p⟩:=h.ok I.hok;exact⟨its,r,p,z⟩
 ·refine⟨its.toList,r,⟨o,I.kIn a o hk,hc,n,by simpa using hs⟩,?_⟩;have e:=r.length;simp only[aa2] at e;omega
def Inv.ku(I:Inv X pins σ H s)(h:SqL X.K H a xs)(h':SqL X.K H a ys):xs=ys:=by
 obtain⟨its,r,⟨o,n,e,_,_,d⟩,_⟩:=I.list h;obtain⟨its',r',⟨o',n',e',_,_,d'⟩,_⟩:=I.list h';rw[e] at e';cases e';rw[d] at d';injection d' with d1 _;have:its=its':=by simpa using acN Array.toList d1
 subst this;exact r.inj r'
end
abbrev Cx.g9(X:Cx)(E:Value->Shared->Prop):Cx:={X with xe:=E}
abbrev Cx.nox(X:Cx):Cx:=X.g9 fun _ _=>False
def Cx.Ok.g9{X:Cx}(ok:X.Ok)(E:Value->Shared->Prop):(X.g9 E).Ok:=
 ⟨ok.mod,ok.kind,ok.glob,ok.blt,ok.above,ok.inj,ok.has,ok.cab,ok.hd,ok.frames,ok.stk,ok.exf,ok.bs,ok.bsz,ok.noex,ok.exfs,ok.fm,ok.frf⟩
def Cx.Ok.fP{X:Cx}{E:Value->Shared->Prop}(ok:(X.g9 E).Ok):X.Ok:=
 ⟨ok.mod,ok.kind,ok.glob,ok.blt,ok.above,ok.inj,ok.has,ok.cab,ok.hd,ok.frames,ok.stk,ok.exf,ok.bs,ok.bsz,ok.noex,ok.exfs,ok.fm,ok.frf⟩
section
variable {X:Cx}{pins:List (Addr×Obj)}{σ:St}{H:Hp}{s:Shared}{E:Value->Shared->Prop}
def Inv.g9(I:Inv X pins σ H s)(E:Value->Shared->Prop):Inv (X.g9 E) pins σ H s:=⟨I.ok.g9 E,I.os,I.bare,I.base,I.loc,I.cell,I.free,I.freeC,I.pin,I.hok,I.len⟩
def Inv.fP(I:Inv (X.g9 E) pins σ H s):Inv X pins σ H s:=⟨I.ok.fP,I.os,I.bare,I.base,I.loc,I.cell,I.free,I.freeC,I.pin,I.hok,I.len⟩
def SP.fP{D:Ends}{f:Flow}{s':Shared}(h:SP (X.g9 E) pins D f s'):SP X pins D f s':=by
 cases f with
 |next=>obtain⟨σ',H',I,q⟩:=h;exact⟨σ',H',I.fP,q⟩
 |brk=>obtain⟨σ',H',I,q⟩:=h;exact⟨σ',H',I.fP,q⟩
 |cont=>obtain⟨σ',H',I,q⟩:=h;exact⟨σ',H',I.fP,q⟩
 |ret u=>obtain⟨v,σ',H',I,r,q⟩:=h;exact⟨v,σ',H',I.fP,r,q⟩
def PSs.nox{st:List Stmt}{t:TS}(h:PSs X.nox st t):PSs X st t:=fun pins s σ H D I hw=>
 acM (h pins s σ H D (I.g9 _) hw) (fun _ _ q=>q.fP) fun _ _ z=>False.elim z
end
section
variable {X:Cx}{st:Stmt}{rest:List Stmt}{t u:TS}{e:Expr}{te:TE}{pos:Pos}
def xv:TS:=fun D σ H=>D.nx σ H
def vG(t u:TS):TS:=fun D σ H=>t {D with nx:=u D} σ H
def bt:PSs X [] xv:=fun _ _ σ H _ I h=>wpAny_execs_nil ⟨σ,H,I,h⟩
def af(h1:PS X st t)(h2:PSs X rest u):PSs X (st::rest) (vG t u):=by
 intro pins s σ H D I h;refine wpAny_execs_cons (thn (h1 pins s σ H {D with nx:=u D} I h) fun f s1 q=>?_);cases f with
 |next=>
  obtain⟨σ',H',I',q⟩:=q;exact h2 pins s1 σ' H' D I' q
 |ret v=>exact q
 |brk=>exact q
 |cont=>exact q
def ag(h1:PS X st t):PSs X [st] t:=by
 intro pins s σ H D I h;refine wpAny_execs_cons (thn (h1 pins s σ H D I h) fun f s1 q=>?_);cases f with
 |next=>exact wpAny_execs_nil q
 |ret v=>exact q
 |brk=>exact q
 |cont=>exact q
def y9:TS:=fun D σ H=>D.bk σ H
def vH:PS X (.Break pos) y9:=fun _ _ σ H _ I h=>wpAny_Break ⟨σ,H,I,h⟩
def Inv.quiet{pins:List (Addr×Obj)}{σ:St}{H:Hp}{s:Shared}(I:Inv X pins σ H s):interactive X.env=false:=by simp[interactive,I.ok.kind]
def xw(te:TE):TS:=fun D σ H=>te σ H fun _ H1=>D.nx σ H1
def bc(he:PE X e te)(hs:swapsWith e none pos.line X.env=pure false:=by rfl):PS X (.Expr e pos) (xw te):=by
 intro pins s σ H D I h;exact wpAny_Expr_any (thn (he pins s σ H _ I h) fun v s1 ⟨x,H1,I1,r1,q1⟩=>⟨σ,H1,I1,q1⟩) I.quiet hs
def za(te:TE):TS:=fun D σ H=>te σ H D.rt
def aO(he:PE X e te):PS X (.Return (some e) pos) (za te):=by
 intro pins s σ H D I h;exact wpAny_Return_some (thn (he pins s σ H _ I h) fun v s1 ⟨x,H1,I1,r1,q1⟩=>⟨x,σ,H1,I1,r1,q1⟩)
def zb(c:TT)(t u:TS):TS:=fun D σ H=>c σ H fun b H1=>if b=true then t D σ H1 else u D σ H1
def bh{c:Expr}{a b:List Stmt}{tc:TT}(hc:PT X c tc)(ha:PSs X a t)(hb:PSs X b u):PS X (.If c a b pos) (zb tc t u):=by
 intro pins s σ H D I h;refine wpAny_If (thn (hc pins s σ H _ I h) fun d s1 ⟨H1,I1,q1⟩=>?_);cases d with
 |true=>exact ha pins s1 σ H1 D I1 q1
 |false=>exact hb pins s1 σ H1 D I1 q1
def zc:TS:=fun _ _ _=>False
def bS{sts:List Stmt}:PSs X sts zc:=fun _ _ _ _ _ _ h=>h.elim
end
abbrev TG:=V->St->Hp->(St->Hp->Prop)->Prop
abbrev TGs:=List V->St->Hp->(St->Hp->Prop)->Prop
def PG(X:Cx)(target:Expr)(t:TG):Prop:=
 ∀(pins:List (Addr×Obj)) (s:Shared) (σ:St) (H:Hp) (v:V) (u:Value) (Q:St->Hp->Prop),Inv X pins σ H s->RelV v u->t v σ H Q->
  wpAny (model X.prog X.w) X.A (assign target X.env u) (fun _ s'=>∃σ' H',Inv X pins σ' H' s'/\Q σ' H') X.xe s
def PGs(X:Cx)(ts:List Expr)(t:TGs):Prop:=
 ∀(pins:List (Addr×Obj)) (s:Shared) (σ:St) (H:Hp) (vs:List V) (us:List Value) (Q:St->Hp->Prop),Inv X pins σ H s->Vals vs us->t vs σ H Q->
  wpAny (model X.prog X.w) X.A (assignInOrder ((assignEach ts X.env).map (·.2)) us) (fun _ s'=>∃σ' H',Inv X pins σ' H' s'/\Q σ' H') X.xe s
section
variable {X:Cx}{pos:Pos}
def iH(i:Nat):TG:=fun v σ H Q=>Q (σ.set i (some v)) H
def ap{i:Nat}{x:Str}(hN:X.N.Nodup)(hi:X.N[i]? =some x)(hx:Loc X.env.scope x)(hf:X.fn x=true\/X.env.scope.names.lookup x=some .local:=by first | exact .inl rfl | exact .inr rfl | assumption):PG X (.Name x pos) (iH i):=by
 intro pins s σ H v u Q I r h;exact wpAny_assign_Name (ko I hN hi hx r (fun s' I'=>⟨_,H,I',h⟩) hf)
def Bu:TGs:=fun vs σ H Q=>vs=[]/\Q σ H
def AK(t:TG)(u:TGs):TGs:=fun vs σ H Q=>∃v r,vs=v::r/\t v σ H fun σ' H'=>u r σ' H' Q
def bT:PGs X [] Bu:=by
 intro pins s σ H vs us Q I r h;obtain⟨e,h⟩:=h;subst e;cases r
 exact assignInOrder_nil ⟨σ,H,I,h⟩
def aH{e:Expr}{es:List Expr}{t:TG}{u:TGs}(h1:PG X e t)(h2:PGs X es u)
  (hs:(assignEach (e::es) X.env).map (·.2)=assign e X.env::(assignEach es X.env).map (·.2):=by rfl):PGs X (e::es) (AK t u):=by
 intro pins s σ H vs us Q I r h;obtain⟨v,vr,e1,h⟩:=h;subst e1;cases r with
 |cons r rr=>
  rw[hs];refine assignInOrder_cons (thn (h1 pins s σ H _ _ _ I r h) fun _ s1 ⟨σ1,H1,I1,q1⟩=>?_);exact h2 pins s1 σ1 H1 _ _ Q I1 rr q1
def zd(K:acX)(n:Nat)(t:TGs):TG:=fun v σ H Q=>∃a xs,v=.ref a/\SqT K H a xs/\xs.length=n/\t xs σ H Q
def cx{es:List Expr}{k:Nat}{t:TGs}{n:Nat}(hc:X.calm=true)(h:PGs X es t)
  (hn:(assignEach es X.env).length=n:=by rfl)(hst:(assignEach es X.env).findIdx? (·.1)=none:=by rfl):PG X (.Tuple es k pos) (zd X.K n t):=by
 intro pins s σ H v u Q I r hw;obtain⟨a,xs,e1,hq,hl,hw⟩:=hw;subst e1;cases r
 obtain⟨its,rv,ht,hz⟩:=I.tuple hq;refine assign_Tuple_tuple (I.ok.hd hc) ht (by simp[hn,←hl,rv.length]) hst fun h' hx=>?_
 have I1:Inv X pins σ H {s with heap:=h'}:=I.kept (t':=s.toks) fun b o e=>hx b o (acx (acw e)) e
 exact h pins _ σ H xs _ Q I1 (by simpa using rv) hw
def rK(te:TE)(g:TG):TS:=fun D σ H=>te σ H fun x H1=>g x σ H1 D.nx
def om{tg e:Expr}{te:TE}{g:TG}(he:PE X e te)(hg:PG X tg g)(hs:swapsWithSole [tg] e pos.line X.env=pure false:=by rfl)(hw:swappedStores [tg] e X.env=pure none:=by rfl)
  (h1:(assignEach [tg] X.env).map (·.2)=[assign tg X.env]:=by rfl):PS X (.Assign [tg] e pos) (rK te g):=by
 intro pins s σ H D I h;refine wpAny_Assign_stores (thn (he pins s σ H _ I h) fun v s1 ⟨x,H1,I1,r1,q1⟩=>?_) hs hw;rw[h1];exact thn (hg pins s1 σ H1 x v _ I1 r1 q1) fun _ s2 q=>q
def ak{i:Nat}{x:Str}{e:Expr}{te:TE}{pos':Pos}(hN:X.N.Nodup)(hi:X.N[i]? =some x)(hx:Loc X.env.scope x)(he:PE X e te)(hs:swapsWith e (some (.Name x pos')) pos.line X.env=pure false:=by rfl)(hf:X.fn x=true\/X.env.scope.names.lookup x=some .local:=by first | exact .inl rfl | exact .inr rfl | assumption) :
  PS X (.Assign [.Name x pos'] e pos) (rK te (iH i)):=by
 intro pins s σ H D I h;refine wpAny_Assign_Name (thn (he pins s σ H _ I h) fun v s1 ⟨y,H1,I1,r1,q1⟩=>?_) hs;exact ko I1 hN hi hx r1 (fun s2 I2=>⟨_,H1,I2,q1⟩) hf
end
section
variable {X:Cx}{pos:Pos}
def ze(c:TT)(tb:TS):TS:=fun D σ H=>∃W:Nat->St->Hp->Prop,(∃m,W m σ H)/\∀m σ H,W m σ H->
 c σ H fun b H1=>if b=true then ∃N:St->Hp->Prop,(∀σ' H',N σ' H'->∃m',m'<m/\W m' σ' H')/\tb {D with nx:=N,ct:=N,bk:=D.nx} σ H1 else D.nx σ H1
def dD{c:Expr}{body:List Stmt}{tc:TT}{tb:TS}(hp:PassesOwn (model X.prog X.w) X.A X.env X.xe)(hc:PT X c tc)(hb:PSs X body tb):PS X (.While c body [] pos) (ze tc tb):=by
 intro pins s σ H D I h;obtain⟨W,⟨m0,w0⟩,turn⟩:=h;refine wpAny_While (codeAny_whileLoop (fun n s'=>∃σ' H',Inv X pins σ' H' s'/\W n σ' H') ?_ m0 ⟨σ,H,I,w0⟩);rintro n s1 ⟨σ1,H1,I1,w1⟩;refine ab1 hp (thn (hc pins s1 σ1 H1 _ I1 (turn n σ1 H1 w1)) fun b s2 ⟨H2,I2,q2⟩=>?_);cases b with
 |true=>
  obtain⟨N,hN,q2⟩:=q2;rw[acR rfl];refine ab1 hp (thn (hb pins s2 σ1 H2 _ I2 q2) fun f s3 q3=>?_);cases f with
  |next=>
   obtain⟨σ3,H3,I3,n3⟩:=q3;obtain⟨m',hm,w3⟩:=hN σ3 H3 n3;exact⟨m',hm,σ3,H3,I3,w3⟩
  |cont=>
   obtain⟨σ3,H3,I3,n3⟩:=q3;obtain⟨m',hm,w3⟩:=hN σ3 H3 n3;exact⟨m',hm,σ3,H3,I3,w3⟩
  |brk=>exact q3
  |ret v=>exact q3
 |false=>
  rw[acS abf];exact wpAny_execs_nil ⟨σ1,H2,I2,q2⟩
end
structure It where
 go:Nat->Hp->Prop
 yld:Nat->Hp->V->Hp->Prop
 stop:Nat->Hp->Prop
def cv(X:Cx)(pins:List (Addr×Obj))(H:Hp)(b:Addr):Prop:=
 H b=none/\b≠X.env.locals/\b ∉ X.fs/\(b∈X.ex\/X.s₀.heap.objs.size<=b)/\(∀x c,X.env.cells.lookup x=some c->c≠b)/\∀p∈X.pn++pins,p.1≠b
def Inv.fY{X:Cx}{pins:List (Addr×Obj)}{σ:St}{H H':Hp}{s:Shared}{b:Addr}(I:Inv X pins σ H s)(hb:s.heap.objs.size<=b)(hn:H' b=none):cv X pins H' b:=by
 refine⟨hn,Nat.ne_of_gt (abd I.lt hb),I.Bp hb,.inr (acy I.sz hb),fun x c e z=>?_,fun p hp z=>?_⟩
 ·obtain⟨v,q⟩:=I.cell x c e;exact absurd (abd q.lt (by rw[z];exact hb)) (acp _)
 ·exact absurd (abd (acw (I.pin p hp).1) (by rw[z];exact hb)) (acp _)
structure Turn(P:Program)(w:World)(K:acX)(tg:Expr)(J:It)(fp:List Addr)(it:Addr)(tn:Nat->Heap->Prop):Prop where
 mem:it∈fp
 obj:∀i h,tn i h->∀b∈fp,∃o,h.get? b=some o/\∀v,o.data≠.cell v
 keep:∀i h h',tn i h->(∀b∈fp,∀o,h.get? b=some o->h'.get? b=some o)->tn i h'
 item:∀(X:Cx),X.prog=P->X.w=w->X.K=K->X.calm=true->∀(i:Nat) (pins:List (Addr×Obj)) (s:Shared) (σ:St) (H:Hp) (E:Value->Shared->Prop),Inv X pins σ H s->(∀b∈fp,cv X pins H b)->tn i s.heap->J.go i H->
  wpAny (model P w) X.A (pyNext (.ref it)) (fun r s1=>∃u,r=some u/\
   wpAny (model P w) X.A (letOwnedTupleGo tg (.ref it) u) (fun _ s2=>∃x H',Inv X pins σ H' s2/\RelV x u/\J.yld i H x H'/\tn (i+1) s2.heap/\∀b∈fp,H' b=none) E s1) E s
 done:∀(X:Cx),X.prog=P->X.w=w->X.K=K->X.calm=true->∀(i:Nat) (pins:List (Addr×Obj)) (s:Shared) (σ:St) (H:Hp) (E:Value->Shared->Prop),Inv X pins σ H s->(∀b∈fp,cv X pins H b)->tn i s.heap->J.stop i H->
  wpAny (model P w) X.A (pyNext (.ref it)) (fun r s1=>r=none/\Inv X pins σ H s1) E s
 self:∀(A:Around) (i:Nat) (s:Shared) (Q:Value->Shared->Prop) (E:Value->Shared->Prop),tn i s.heap->Q (.ref it) s->wpAny (model P w) A (pyIter (.ref it)) Q E s
abbrev TI:=St->Hp->(It->Hp->Prop)->Prop
def PIE(X:Cx)(pins:List (Addr×Obj))(σ:St)(tg:Expr)(R:It->Hp->Prop)(itv:Value)(s2:Shared):Prop:=
 ∃(it:Addr) (fp:List Addr) (tn:Nat->Heap->Prop) (J:It) (H':Hp),itv=.ref it/\Inv X pins σ H' s2/\Turn X.prog X.w X.K tg J fp it tn/\tn 0 s2.heap/\(∀b∈fp,cv X pins H' b)/\R J H'
def PI(X:Cx)(tg iter:Expr)(wi:TI):Prop:=
 ∀(pins:List (Addr×Obj)) (s:Shared) (σ:St) (H:Hp) (R:It->Hp->Prop),Inv X pins σ H s->wi σ H R->
  wpAny (model X.prog X.w) X.A (eval iter X.env) (fun v s1=>wpAny (model X.prog X.w) X.A (pyIter v) (PIE X pins σ tg R) X.xe s1) X.xe s
def lb{M:Model}{A:Around}{E:Value->Shared->Prop}{s:Shared}{tg:Expr}{it:Addr}{u:Value}{o:Obj}{n:String}{vs:Array Value}{Q:Unit->Shared->Prop}(ho:s.heap.get? it=some o)(hc:o.cls=.type n)(hd:o.data=.fields vs)
  (hn:["enumerate","zip","dict_itemiterator","dict_reverseitemiterator","odict_iterator","itertools.zip_longest","itertools.pairwise"].contains n=false)(hQ:Q () s):wpAny M A (letOwnedTupleGo tg (.ref it) u) Q E s:=by
 unfold letOwnedTupleGo;cases tg <;> first
  |exact wpAny_pure hQ
  |(cases u <;> first
    |exact wpAny_pure hQ
    |(refine wpAny_bind (wpAny_load ho ?_);rw[hc,hd];show wpAny M A (if (["enumerate","zip","dict_itemiterator","dict_reverseitemiterator","odict_iterator","itertools.zip_longest","itertools.pairwise"].contains n && vs[0]? == some (rawInt _))=true then _ else _) Q E s;rw[acS (by intro h;rw[hn,Bool.false_and] at h;cases h)];exact wpAny_pure hQ))
def Itl(K:acX)(a:Addr):It:=
 ⟨fun i H=>∃xs x,SqL K H a xs/\xs[i]? =some x,fun i H x H'=>H'=H/\∀xs,SqL K H a xs->xs[i]? =some x,fun i H=>∃xs,SqL K H a xs/\xs.length<=i⟩
def Itr(lo:Int)(n:Nat):It:=⟨fun i _=>i<n,fun i H x H'=>H'=H/\x=.int (lo+i),fun i _=>n<=i⟩
def tR{P:Program}{w:World}{K:acX}{tg:Expr}(a it:Addr):Turn P w K tg (Itl K a) [it] it (fun i h=>h.IsListIter it a i) where
 mem:=by simp
 obj:=fun i h st b hb=>by
  have e:b=it:=by simpa using hb
  subst e;obtain⟨o,e,c,d⟩:=st;exact⟨o,e,fun v z=>by rw[d] at z;cases z⟩
 keep:=fun i h h' st k=>st.at fun o e=>k it (by simp) o e
 item:=by
  intro X hP hw hK hc i pins s σ H E I hf st hg;subst hP hw hK;obtain⟨xs,x,hq,hx⟩:=hg;obtain⟨its,rv,p,hz⟩:=I.list hq;obtain⟨u,hu,ru⟩:=rv.get hx;obtain⟨f0,f1,f2,f3,f4,f5⟩:=hf it (by simp);refine wpAny_pyNext_list_item st p.isList (x:=u) (by simpa using hu) fun h' st' sb=>?_
  have I1:Inv X pins σ H {s with heap:=h'}:=I.turned (t':=s.toks) (fun b o hb e=>(sb.2 b hb).trans e) f0 f1 f3 f4 f5;obtain⟨o,e,c,d⟩:=id st';exact⟨u,rfl,lb (s:={s with heap:=h'}) e c d (by decide) ⟨x,H,I1,ru,⟨rfl,fun ys hy=>by rw[I.ku hy hq];exact hx⟩,st',fun b hb=>(hf b hb).1⟩⟩
 done:=by
  intro X hP hw hK hc i pins s σ H E I hf st hg;subst hP hw hK;obtain⟨xs,hq,hx⟩:=hg;obtain⟨its,rv,p,hz⟩:=I.list hq;obtain⟨f0,f1,f2,f3,f4,f5⟩:=hf it (by simp);have hl:=rv.length;exact wpAny_pyNext_list_end (I.ok.hd hc) st p.isList (by simp;omega) fun h' eb=>⟨rfl,I.turned (t':=s.toks) (fun b o hb e=>eb b o hb e) f0 f1 f3 f4 f5⟩
 self:=fun _ _ _ _ _ st h=>wpAny_pyIter_listiter st h
def rL{P:Program}{w:World}{K:acX}{tg:Expr}(it:Addr)(lo:Int)(n:Nat):Turn P w K tg (Itr lo n) [it] it (fun i h=>IsRangeIter h it (lo+(i:Nat)*1) ((n:Int) - (i:Nat)) 1) where
 mem:=by simp
 obj:=fun i h st b hb=>by
  have e:b=it:=by simpa using hb
  subst e;exact⟨_,st,fun v z=>by
   have z':Data.fields _=Data.cell v:=z;cases z'⟩
 keep:=fun i h h' st k=>k it (by simp) _ st
 item:=by
  intro X hP hw hK hc i pins s σ H E I hf st hg;subst hP hw hK;obtain⟨f0,f1,f2,f3,f4,f5⟩:=hf it (by simp);have W:=Walks.range (prog:=X.prog) (w:=X.w) (I.ok.hd hc) it lo 1 n;refine W.item i s _ _ hg st fun v h' tk hv st' kk=>?_
  obtain⟨t,rfl⟩:=hv;have I1:Inv X pins σ H {s with heap:=h',toks:=tk}:=I.turned (fun b o hb e=>kk b o (by simpa using hb) e) f0 f1 f3 f4 f5;refine⟨_,rfl,lb (s:={s with heap:=h',toks:=tk}) (n:="range_iterator") st' rfl rfl (by decide) ⟨.int (lo+i),H,I1,⟨t,?_⟩,⟨rfl,rfl⟩,st',fun b hb=>(hf b hb).1⟩⟩;rw[Int.mul_one]
 done:=by
  intro X hP hw hK hc i pins s σ H E I hf st hg;subst hP hw hK;obtain⟨f0,f1,f2,f3,f4,f5⟩:=hf it (by simp);exact wpAny_pyNext_range_end (I.ok.hd hc) st (by have:n<=i:=hg;omega) fun h' eb=>⟨rfl,I.turned (t':=s.toks) (fun b o hb e=>eb b o hb e) f0 f1 f3 f4 f5⟩
 self:=fun _ _ _ _ _ st h=>wpAny_pyIter_rangeiter st h
end L2
namespace L2
open PySem PySem.Spec PyProof.Rows
section
variable {X:Cx}{tg:Expr}
def AL(K:acX)(tl:TE):TI:=fun σ H R=>tl σ H fun x H1=>∃a,x=.ref a/\(∃xs,SqL K H1 a xs)/\R (Itl K a) H1
def aS{l:Expr}{tl:TE}(hl:PE X l tl):PI X tg l (AL X.K tl):=by
 intro pins s σ H R I h;refine thn (hl pins s σ H _ I h) fun v s1 ⟨x,H1,I1,r1,q1⟩=>?_
 obtain⟨a,e,⟨xs,hq⟩,q⟩:=q1;subst e;cases r1
 obtain⟨its,rv,p,hz⟩:=I1.list hq;refine wpAny_pyIter_list p.isList ?_;refine⟨s1.heap.objs.size,[s1.heap.objs.size],_,_,H1,rfl,I1.kept (t':=s1.toks) fun b o e=>aaz _ e,tR a _,⟨_,aa3 _ rfl,rfl,rfl⟩,fun b hb=>?_,q⟩;have e:b=s1.heap.objs.size:=by simpa using hb
 subst e;exact I1.fY (acH _) (I1.hok.fresh (acH _))
def vI{pins:List (Addr×Obj)}{σ:St}{H:Hp}{s:Shared}{R:It->Hp->Prop}{E:Value->Shared->Prop}{lo hi:Int}{t u v:Tok}{tk:Nat}(I:Inv X pins σ H s)(h1:-(2 ^ 62)<=lo)(h2:lo<2 ^ 62)(h3:-(2 ^ 62)<=hi)(h4:hi<2 ^ 62)
  (q:R (Itr lo (hi - lo).toNat) H):wpAny (model X.prog X.w) X.A (pyIter (.ref s.heap.objs.size)) (PIE X pins σ tg R) E {s with heap:=s.heap.push {cls:=.type "range",data:=.fields #[.int lo t,.int hi u,.int 1 v]},toks:=tk}:=by
 refine wpAny_pyIter_range (IsRange.new ..) (small_one h1 h2 h3 h4) ?_;have I1:Inv X pins σ H {s with heap:=s.heap.push {cls:=.type "range",data:=.fields #[.int lo t,.int hi u,.int 1 v]},toks:=tk}:=I.kept fun b o e=>aaz _ e
 refine⟨(s.heap.push {cls:=.type "range",data:=.fields #[.int lo t,.int hi u,.int 1 v]}).objs.size,[(s.heap.push {cls:=.type "range",data:=.fields #[.int lo t,.int hi u,.int 1 v]}).objs.size],_,_,H,rfl,
  I1.kept (t':=tk) fun b o e=>aaz _ e,rL _ lo (hi - lo).toNat,?_,fun b hb=>?_,q⟩
 ·have e1:lo+((0:Nat):Int)*1=lo:=by simp
  have e2:(((hi - lo).toNat:Nat):Int) - ((0:Nat):Int)=Builtin.Range.rangeSize lo hi 1:=by rw[rangeSize_one];split <;> omega
  show IsRangeIter _ _ (lo+((0:Nat):Int)*1) ((((hi - lo).toNat:Nat):Int) - ((0:Nat):Int)) 1;rw[e1,e2];exact aa3 _ rfl
 ·have e:b=(s.heap.push {cls:=.type "range",data:=.fields #[.int lo t,.int hi u,.int 1 v]}).objs.size:=by simpa using hb
  subst e;exact I1.fY (acH _) (I1.hok.fresh (acH _))
def AM(ta:TA):TI:=fun σ H R=>ta σ H fun vs H1=>∃j:Int,vs=[.int j]/\-(2 ^ 62)<=j/\j<2 ^ 62/\R (Itr 0 j.toNat) H1
def gM{a:Expr}{ta:TA}{p pos:Pos}(hg:Gl X "range")(hm:X.mg "range"=none)(ha:PA X [a] ta)(hs:starEach [a] X.env=[(false,eval a X.env)]:=by rfl):PI X tg (.Call (.Name "range" p) [a] [] pos) (AM ta):=by
 intro pins s σ H R I h;refine Call_ (eX I hg hm boot_range (aae (thn (ha pos pins s σ H _ I h) fun us s1 ⟨vs,H1,I1,r1,q1⟩=>?_) hs rfl));obtain⟨j,e,q1,q2,q⟩:=q1;subst e;cases r1 with
 |cons r rr=>
  cases rr
  obtain⟨t,rfl⟩:=r;exact call_range_1 (vI I1 (by omega) (by omega) q1 q2 (by simpa using q))
def zf(wi:TI)(g:TG)(tb:TS):TS:=fun D σ H=>wi σ H fun J H1=>∃W:Nat->Nat->St->Hp->Prop,(∃m,W 0 m σ H1)/\∀i m σ H,W i m σ H->
 (J.stop i H/\D.nx σ H)\/(J.go i H/\∃N:St->Hp->Prop,(∀σ' H',N σ' H'->∃m',m'<m/\W (i+1) m' σ' H')/\∀x H',J.yld i H x H'->g x σ H' fun σ2 H2=>tb {D with nx:=N,ct:=N,bk:=D.nx} σ2 H2)
def ja(fp:List Addr)(h:Heap):List (Addr×Obj):=fp.filterMap fun b=>(h.get? b).map fun o=>(b,o)
def f7{fp:List Addr}{h:Heap}{b:Addr}{o:Obj}(hb:b∈fp)(e:h.get? b=some o):(b,o)∈ja fp h:=List.mem_filterMap.mpr ⟨b,hb,by rw[e];rfl⟩
def tS{fp:List Addr}{h:Heap}{p:Addr×Obj}(hp:p∈ja fp h):p.1∈fp/\h.get? p.1=some p.2:=by
 obtain⟨b,hb,e⟩:=List.mem_filterMap.mp hp;cases q:h.get? b with
 |none=>rw[q] at e;cases e
 |some o=>
  rw[q] at e;have e':(b,o)=p:=abY e;subst e';exact⟨hb,q⟩
def Inv.pinned{pins:List (Addr×Obj)}{σ:St}{H:Hp}{s:Shared}{fp:List Addr}(I:Inv X pins σ H s)(hf:∀b∈fp,cv X pins H b)(ho:∀b∈fp,∃o,s.heap.get? b=some o/\∀v,o.data≠.cell v):Inv X (pins++ja fp s.heap) σ H s:=
 I.gi fun p hp=>(ab0.mp hp).elim (fun z=>I.pin p (aaG _ z)) fun z=>by
  obtain⟨hb,e⟩:=tS z;obtain⟨f0,f1,f2,_⟩:=hf p.1 hb;obtain⟨o,e',d⟩:=ho p.1 hb;rw[e] at e';cases e';exact⟨e,f0,f1,f2,d⟩
def Inv.fu{pins pl:List (Addr×Obj)}{σ:St}{H:Hp}{s:Shared}(I:Inv X (pins++pl) σ H s):Inv X pins σ H s:=I.gi fun p hp=>I.pin p (aaG _ (aaV _ hp))
def bf{iter:Expr}{body:List Stmt}{wi:TI}{g:TG}{tb:TS}{pos:Pos}(hp:PassesOwn (model X.prog X.w) X.A X.env X.xe)(hc:X.calm=true)(hi:PI X tg iter wi)(hg:PG X tg g)(hb:PSs X body tb)
  (hs:∀x,foldedSetIterable iter X.env x=pure x:=by intro _;rfl):PS X (.For tg iter body [] pos) (zf wi g tb):=by
 intro pins s σ H D I h;refine wpAny_For (thn (hi pins s σ H _ I h) fun v s1 h1=>thn h1 fun itv s2 h2=>?_) hs;obtain⟨it,fp,tn,J,H2,e,I2,T,st2,f2,W,⟨m0,w0⟩,turn⟩:=h2;subst e;have stat:∀{H':Hp},(∀b∈fp,H' b=none)->∀b∈fp,cv X pins H' b:=fun hn b hb=>⟨hn b hb,(f2 b hb).2⟩
 refine codeAny_forLoop_any (fun n s'=>∃i σ' H',Inv X pins σ' H' s'/\tn i s'.heap/\(∀b∈fp,H' b=none)/\W i n σ' H') ?_ m0 ⟨0,σ,H2,I2,st2,fun b hb=>(f2 b hb).1,w0⟩;rintro n s3 ⟨i,σ3,H3,I3,st3,fr3,w3⟩;rcases turn i n σ3 H3 w3 with ⟨stop,qn⟩|⟨go,N,hN,step⟩
 ·refine ab1 hp (thn (T.done X rfl rfl rfl hc i pins s3 σ3 H3 X.xe I3 (stat fr3) st3 stop) fun r s4 ⟨hr,I4⟩=>?_);subst hr;exact wpAny_execs_nil ⟨σ3,H3,I4,qn⟩
 ·refine ab1 hp (thn (T.item X rfl rfl rfl hc i pins s3 σ3 H3 X.xe I3 (stat fr3) st3 go) fun r s4 ⟨u,hr,h4⟩=>?_);subst hr;refine ab1 hp (thn h4 fun _ s5 ⟨x,H5,I5,r5,y5,st5,fr5⟩=>?_);have I5':=I5.pinned (stat fr5) (T.obj _ _ st5);refine ab1 hp (thn (hg _ s5 σ3 H5 x u _ I5' r5 (step x H5 y5)) fun _ s6 ⟨σ6,H6,I6,q6⟩=>?_);refine ab1 hp (thn (hb _ s6 σ6 H6 _ I6 q6) fun f s7 q7=>?_);have again:∀{σ7:St} {H7:Hp},Inv X (pins++ja fp s5.heap) σ7 H7 s7->N σ7 H7->∃m,m<n/\∃i σ' H',Inv X pins σ' H' s7/\tn i s7.heap/\(∀b∈fp,H' b=none)/\W i m σ' H':=fun{σ7 H7} I7 n7=>by
   obtain⟨m',hm,w7⟩:=hN σ7 H7 n7;refine⟨m',hm,i+1,σ7,H7,I7.fu,T.keep _ _ _ st5 fun b hb o e=>(I7.pin (b,o) (aaG _ (aaG _ (f7 hb e)))).1,fun b hb=>?_,w7⟩;obtain⟨o,e,d⟩:=T.obj _ _ st5 b hb;exact(I7.pin (b,o) (aaG _ (aaG _ (f7 hb e)))).2.1
  cases f with
  |next=>obtain⟨σ7,H7,I7,n7⟩:=q7;exact again I7 n7
  |cont=>obtain⟨σ7,H7,I7,n7⟩:=q7;exact again I7 n7
  |brk=>obtain⟨σ7,H7,I7,q7⟩:=q7;exact⟨σ7,H7,I7.fu,q7⟩
  |ret v=>obtain⟨x7,σ7,H7,I7,r7,q7⟩:=q7;exact⟨x7,σ7,H7,I7.fu,r7,q7⟩
end
def bq{K:acX}{a:Addr}{xs:List V}{g:TG}{tb:TS}{D:Ends}{σ:St}{H:Hp}(Pv:Nat->St->Hp->Prop)(h0:Pv 0 σ H)(hl:∀i σ H,i<=xs.length->Pv i σ H->SqL K H a xs)
  (hs:∀i x σ H,xs[i]? =some x->Pv i σ H->g x σ H fun σ2 H2=>tb {D with nx:=Pv (i+1),ct:=Pv (i+1),bk:=D.nx} σ2 H2)(hd:∀σ H,Pv xs.length σ H->D.nx σ H) :
  ∃W:Nat->Nat->St->Hp->Prop,(∃m,W 0 m σ H)/\∀i m σ H,W i m σ H->
   ((Itl K a).stop i H/\D.nx σ H)\/((Itl K a).go i H/\∃N:St->Hp->Prop,(∀σ' H',N σ' H'->∃m',m'<m/\W (i+1) m' σ' H')/\∀x H',(Itl K a).yld i H x H'->g x σ H' fun σ2 H2=>tb {D with nx:=N,ct:=N,bk:=D.nx} σ2 H2):=by
 refine⟨fun i m σ H=>m=xs.length - i/\i<=xs.length/\Pv i σ H,⟨xs.length,by simp,acI _,h0⟩,?_⟩;rintro i m σ H ⟨rfl,hi,p⟩;have q:=hl i σ H hi p
 by_cases hlt:i<xs.length
 ·refine .inr ⟨⟨xs,xs[i],q,by simp[hlt]⟩,Pv (i+1),fun σ' H' p'=>⟨xs.length - (i+1),by omega,rfl,hlt,p'⟩,fun x H' y=>?_⟩;obtain⟨e,y⟩:=y;subst e;exact hs i x σ _ (y xs q) p
 ·have e:i=xs.length:=by omega
  subst e;exact .inl ⟨⟨xs,q,acH _⟩,hd σ H p⟩
def jb{lo:Int}{n:Nat}{g:TG}{tb:TS}{D:Ends}{σ:St}{H:Hp}(Pv:Nat->St->Hp->Prop)(h0:Pv 0 σ H)
  (hs:∀i σ H,i<n->Pv i σ H->g (.int (lo+i)) σ H fun σ2 H2=>tb {D with nx:=Pv (i+1),ct:=Pv (i+1),bk:=D.nx} σ2 H2)(hd:∀σ H,Pv n σ H->D.nx σ H) :
  ∃W:Nat->Nat->St->Hp->Prop,(∃m,W 0 m σ H)/\∀i m σ H,W i m σ H->
   ((Itr lo n).stop i H/\D.nx σ H)\/((Itr lo n).go i H/\∃N:St->Hp->Prop,(∀σ' H',N σ' H'->∃m',m'<m/\W (i+1) m' σ' H')/\∀x H',(Itr lo n).yld i H x H'->g x σ H' fun σ2 H2=>tb {D with nx:=N,ct:=N,bk:=D.nx} σ2 H2):=by
 refine⟨fun i m σ H=>m=n - i/\i<=n/\Pv i σ H,⟨n,by simp,acI _,h0⟩,?_⟩;rintro i m σ H ⟨rfl,hi,p⟩
 by_cases hlt:i<n
 ·refine .inr ⟨hlt,Pv (i+1),fun σ' H' p'=>⟨n - (i+1),by omega,rfl,hlt,p'⟩,fun x H' y=>?_⟩;obtain⟨e,y⟩:=y;subst e y;exact hs i σ _ hlt p
 ·have e:i=n:=by omega
  subst e;exact .inl ⟨acH _,hd σ H p⟩
end L2
namespace L2
open PySem PySem.Spec PyProof.Rows
abbrev R2:=V->V->Hp->VK->Prop
def OpR(X:Cx)(f:Value->Value->Sem Value)(r:R2):Prop:=
 ∀(pins:List (Addr×Obj)) (s:Shared) (σ:St) (H:Hp) (x y:V) (v u:Value) (Q:VK),Inv X pins σ H s->RelV x v->RelV y u->r x y H Q->
  wpAny (model X.prog X.w) X.A (f v u) (EP X pins σ Q) X.xe s
def dB(X:Cx)(f:Value)(r:List V->Hp->VK->Prop):Prop:=
 ∀(pins:List (Addr×Obj)) (s:Shared) (σ:St) (H:Hp) (xs:List V) (us:List Value) (Q:VK),Inv X pins σ H s->Vals xs us->r xs H Q->
  wpAny (model X.prog X.w) X.A (call f us) (EP X pins σ Q) X.xe s
def Bv(X:Cx)(r:V->Hp->(Bool->Hp->Prop)->Prop):Prop:=
 ∀(pins:List (Addr×Obj)) (s:Shared) (σ:St) (H:Hp) (x:V) (v:Value) (Q:Bool->Hp->Prop),Inv X pins σ H s->RelV x v->r x H Q->
  wpAny (model X.prog X.w) X.A (truthy v) (TP X pins σ Q) X.xe s
def tOp(r:R2)(ta tb:TE):TE:=fun σ H Q=>ta σ H fun x H1=>tb σ H1 fun y H2=>r x y H2 Q
def rI(C:Int->Int->Prop)(g:Int->Int->V):R2:=fun x y H Q=>∃i j,x=.int i/\y=.int j/\C i j/\Q (g i j) H
def rI0(g:Int->Int->V):R2:=fun x y H Q=>∃i j,x=.int i/\y=.int j/\Q (g i j) H
section
variable {X:Cx}{a b c:Expr}{ta tb tc:TE}{pos:Pos}
def vJ(ha:PE X a ta)(hb:PE X b tb){pins:List (Addr×Obj)}{s:Shared}{σ:St}{H:Hp}{R:V->V->Hp->Prop}(I:Inv X pins σ H s)
  (h:ta σ H fun x H1=>tb σ H1 fun y H2=>R x y H2){Q:Value->Shared->Prop}{f:Value->Value->Sem Value}
  (hf:∀v u s2 x y H2,Inv X pins σ H2 s2->RelV x v->RelV y u->R x y H2->wpAny (model X.prog X.w) X.A (f v u) Q X.xe s2) :
  wpAny (model X.prog X.w) X.A (eval a X.env) (fun v s₁=>wpAny (model X.prog X.w) X.A (eval b X.env) (fun u s₂=>wpAny (model X.prog X.w) X.A (f v u) Q X.xe s₂) X.xe s₁) X.xe s:=by
 refine thn (ha pins s σ H _ I h) fun v s1 ⟨x,H1,I1,r1,q1⟩=>?_
 refine thn (hb pins s1 σ H1 _ I1 q1) fun u s2 ⟨y,H2,I2,r2,q2⟩=>?_
 exact hf v u s2 x y H2 I2 r1 r2 q2
def bV{op:Operator}{r:R2}(ho:OpR X (binaryOp op) r)(ha:PE X a ta)(hb:PE X b tb):PE X (.BinOp a op b pos) (tOp r ta tb):=by
 intro pins s σ H Q I h;exact wpAny_BinOp (vJ ha hb I h fun v u s2 x y H2 I2 rx ry q=>ho pins s2 σ H2 x y v u Q I2 rx ry q)
def opI{f:Value->Value->Sem Value}{C:Int->Int->Prop}{g:Int->Int->Int}
  (rule:∀(i j:Int) (t u:Tok) (s:Shared) (Q:Value->Shared->Prop) (E:Value->Shared->Prop),C i j->Q (.int (g i j) s.toks) {s with toks:=s.toks+1}->wpAny (model X.prog X.w) X.A (f (.int i t) (.int j u)) Q E s) :
  OpR X f (rI C fun i j=>.int (g i j)):=by
 intro pins s σ H x y v u Q I rx ry h;obtain⟨i,j,rfl,rfl,hc,q⟩:=h;obtain⟨t,rfl⟩:=rx;obtain⟨t',rfl⟩:=ry;exact rule i j t t' s _ _ hc ⟨.int (g i j),H,I.tok _,⟨_,rfl⟩,q⟩
def zg{f:Value->Value->Sem Value}{g:Int->Int->Int}
  (rule:∀(i j:Int) (t u:Tok) (s:Shared) (Q:Value->Shared->Prop) (E:Value->Shared->Prop),Q (.int (g i j) s.toks) {s with toks:=s.toks+1}->wpAny (model X.prog X.w) X.A (f (.int i t) (.int j u)) Q E s) :
  OpR X f (rI0 fun i j=>.int (g i j)):=by
 intro pins s σ H x y v u Q I rx ry h;obtain⟨i,j,rfl,rfl,q⟩:=h;obtain⟨t,rfl⟩:=rx;obtain⟨t',rfl⟩:=ry;exact rule i j t t' s _ _ ⟨.int (g i j),H,I.tok _,⟨_,rfl⟩,q⟩
def vK{f:Value->Value->Sem Value}{g:Int->Int->Bool}
  (rule:∀(i j:Int) (t u:Tok) (s:Shared) (Q:Value->Shared->Prop) (E:Value->Shared->Prop),Q (.bool (g i j)) s->wpAny (model X.prog X.w) X.A (f (.int i t) (.int j u)) Q E s) :
  OpR X f (rI0 fun i j=>.bl (g i j)):=by
 intro pins s σ H x y v u Q I rx ry h;obtain⟨i,j,rfl,rfl,q⟩:=h;obtain⟨t,rfl⟩:=rx;obtain⟨t',rfl⟩:=ry;exact rule i j t t' s _ _ ⟨.bl (g i j),H,I,rfl,q⟩
def Bw(i j:Int):Prop:=0<j/\j<1073741824
def Bx(i j:Int):Prop:=0<=j/\j<=1000000/\i.natAbs<2 ^ 64
def vL(i j:Int):Prop:=(-(2 ^ 64)<i/\i<2 ^ 64)\/(-(2 ^ 64)<j/\j<2 ^ 64)
def vL.ok{i j:Int}(h:vL i j):IntMulOk i j:=by
 rcases h with ⟨h1,h2⟩|⟨h1,h2⟩
 ·exact .of_left (intBits_le_64 h1 h2)
 ·exact .of_right (intBits_le_64 h1 h2)
def ic:OpR X (binaryOp .Add) (rI0 fun i j=>.int (i+j)):=zg fun _ _ _ _ _ _ _ q=>add_int q
def oo:OpR X (binaryOp .Sub) (rI0 fun i j=>.int (i - j)):=zg fun _ _ _ _ _ _ _ q=>sub_int q
def zh:OpR X (binaryOp .Mult) (rI vL fun i j=>.int (i*j)):=opI fun _ _ _ _ _ _ _ hc q=>mul_int q hc.ok
def jJ:OpR X (binaryOp .FloorDiv) (rI Bw fun i j=>.int (i / j)):=opI fun i j _ _ _ _ _ hc q=>by
 have h1:(0:Int)<j:=hc.1;have h2:j<1073741824:=hc.2;exact floordiv_int (by omega) (by rw[Int.fdiv_eq_ediv_of_nonneg i (by omega)];exact q) (.inl (PyProof.noPylong_small (by omega)))
def dm:OpR X (binaryOp .Mod) (rI (fun _ j=>0<j) fun i j=>.int (i % j)):=opI fun i j _ _ _ _ _ hc q=>by
 have h1:(0:Int)<j:=hc;exact mod_int' (by omega) (by rw[Int.fmod_eq_emod_of_nonneg i (by omega)];exact q)
def zi:OpR X (binaryOp .Pow) (rI Bx fun i j=>.int (i ^ j.toNat)):=opI fun _ _ _ _ _ _ _ hc q=>pow_int_small hc.1 hc.2.1 hc.2.2 q
end
def zj:V->V->Bool
 |.non,.non=>true | .non,.int _=>true | .int _,.non=>true | .non,.bl _=>true | .bl _,.non=>true | .non,.str _=>true | .str _,.non=>true
 |.int _,.int _=>true | .bl _,.bl _=>true | .str _,.str _=>true | .byt _,.byt _=>true
 |.int _,.str _=>true | .str _,.int _=>true | .bl _,.str _=>true | .str _,.bl _=>true
 |_,_=>false
def rEq:R2:=fun x y H Q=>zj x y=true/\Q (.bl (decide (x=y))) H
def rNe:R2:=fun x y H Q=>zj x y=true/\Q (.bl (!decide (x=y))) H
def qz{i j:Int}:decide (V.int i=V.int j)=(i == j):=by
 rw[ab2];simp
def tT{i j:Bool}:decide (V.bl i=V.bl j)=(i == j):=by
 rw[ab2];simp
def qA{i j:Str}:decide (V.str i=V.str j)=(i == j):=by
 rw[ab2];simp
def qB{i j:Array UInt8}:decide (V.byt i=V.byt j)=(i.toList == j.toList):=by
 rw[ab2];cases i
 cases j
 simp
section
variable {X:Cx}{a b c:Expr}{ta tb tc:TE}{pos:Pos}
def bb{pins:List (Addr×Obj)}{σ:St}{H:Hp}{s:Shared}{Q:VK}{k k':Bool}(I:Inv X pins σ H s)(q:Q (.bl k) H)(e:k=k'):EP X pins σ Q (.bool k') s:=by
 subst e;exact⟨.bl k,H,I,rfl,q⟩
def nU:OpR X (compareOp .Eq) rEq:=by
 intro pins s σ H x y v u Q I rx ry h;obtain⟨hs,q⟩:=h;cases x with
 |non=>
  cases rx
  cases y with
  |non=>cases ry;exact PySem.EqNone.eq_none_none (bb I q (by simp))
  |bl j=>cases ry;exact PySem.EqNone.eq_none_bool (bb I q (by simp))
  |int j=>obtain⟨t',rfl⟩:=ry;exact PySem.EqNone.eq_none_int (bb I q (by simp))
  |str j=>obtain⟨t',rfl⟩:=ry;exact PySem.EqNone.eq_none_str (bb I q (by simp))
  |_=>exact absurd (show false=true from hs) abf
 |bl i=>
  cases rx
  cases y with
  |non=>cases ry;exact PySem.EqNone.eq_bool_none (bb I q (by simp))
  |bl j=>cases ry;exact eq_bool (bb I q tT)
  |str j=>obtain⟨t',rfl⟩:=ry;exact PySem.EqMixed.eq_bool_str (bb I q (by simp))
  |_=>exact absurd (show false=true from hs) abf
 |int i=>
  obtain⟨t,rfl⟩:=rx;cases y with
  |non=>cases ry;exact PySem.EqNone.eq_int_none (bb I q (by simp))
  |int j=>obtain⟨t',rfl⟩:=ry;exact eq_int (bb I q qz)
  |str j=>obtain⟨t',rfl⟩:=ry;exact PySem.EqMixed.eq_int_str (bb I q (by simp))
  |_=>exact absurd (show false=true from hs) abf
 |str i=>
  obtain⟨t,rfl⟩:=rx;cases y with
  |non=>cases ry;exact PySem.EqNone.eq_str_none (bb I q (by simp))
  |bl j=>cases ry;exact PySem.EqMixed.eq_str_bool (bb I q (by simp))
  |int j=>obtain⟨t',rfl⟩:=ry;exact PySem.EqMixed.eq_str_int (bb I q (by simp))
  |str j=>obtain⟨t',rfl⟩:=ry;exact eq_str (bb I q qA)
  |_=>exact absurd (show false=true from hs) abf
 |byt i=>
  obtain⟨t,rfl⟩:=rx;cases y with
  |byt j=>obtain⟨t',rfl⟩:=ry;exact PySem.W.eq_bytes (bb I q qB)
  |_=>exact absurd (show false=true from hs) abf
 |_=>cases y <;> exact absurd (show false=true from hs) abf
def lc:OpR X (compareOp .NotEq) rNe:=by
 intro pins s σ H x y v u Q I rx ry h;obtain⟨hs,q⟩:=h;cases x with
 |non=>
  cases rx
  cases y with
  |non=>cases ry;exact PySem.EqNone.ne_none_none (bb I q (by simp))
  |bl j=>cases ry;exact PySem.EqNone.ne_none_bool (bb I q (by simp))
  |int j=>obtain⟨t',rfl⟩:=ry;exact PySem.EqNone.ne_none_int (bb I q (by simp))
  |str j=>obtain⟨t',rfl⟩:=ry;exact PySem.EqNone.ne_none_str (bb I q (by simp))
  |_=>exact absurd (show false=true from hs) abf
 |bl i=>
  cases rx
  cases y with
  |non=>cases ry;exact PySem.EqNone.ne_bool_none (bb I q (by simp))
  |bl j=>cases ry;exact ne_bool (bb I q (acN not tT))
  |str j=>obtain⟨t',rfl⟩:=ry;exact PySem.EqMixed.ne_bool_str (bb I q (by simp))
  |_=>exact absurd (show false=true from hs) abf
 |int i=>
  obtain⟨t,rfl⟩:=rx;cases y with
  |non=>cases ry;exact PySem.EqNone.ne_int_none (bb I q (by simp))
  |int j=>obtain⟨t',rfl⟩:=ry;exact ne_int (bb I q (acN not qz))
  |str j=>obtain⟨t',rfl⟩:=ry;exact PySem.EqMixed.ne_int_str (bb I q (by simp))
  |_=>exact absurd (show false=true from hs) abf
 |str i=>
  obtain⟨t,rfl⟩:=rx;cases y with
  |non=>cases ry;exact PySem.EqNone.ne_str_none (bb I q (by simp))
  |bl j=>cases ry;exact PySem.EqMixed.ne_str_bool (bb I q (by simp))
  |int j=>obtain⟨t',rfl⟩:=ry;exact PySem.EqMixed.ne_str_int (bb I q (by simp))
  |str j=>obtain⟨t',rfl⟩:=ry;exact ne_str (bb I q (acN not qA))
  |_=>exact absurd (show false=true from hs) abf
 |byt i=>
  obtain⟨t,rfl⟩:=rx;cases y with
  |byt j=>obtain⟨t',rfl⟩:=ry;exact PySem.W.ne_bytes (bb I q (acN not qB))
  |_=>exact absurd (show false=true from hs) abf
 |_=>cases y <;> exact absurd (show false=true from hs) abf
def xy:OpR X (compareOp .Lt) (rI0 fun i j=>.bl (decide (i<j))):=vK fun _ _ _ _ _ _ _ q=>lt_int q
def AN:OpR X (compareOp .Gt) (rI0 fun i j=>.bl (decide (j<i))):=vK fun _ _ _ _ _ _ _ q=>gt_int q
def AO:OpR X (compareOp .GtE) (rI0 fun i j=>.bl (decide (j<=i))):=vK fun _ _ _ _ _ _ _ q=>ge_int q
def zk:OpR X (compareOp .Is) (fun x y H Q=>y=.non/\Q (.bl (decide (x=.non))) H):=by
 intro pins s σ H x y v u Q I rx ry h;obtain⟨rfl,q⟩:=h;cases ry
 refine is_none_gen (bb I q ?_);cases x <;> first
  |(cases rx;rfl)
  |(obtain⟨t,rfl⟩:=rx;rfl)
def qC:OpR X (compareOp .IsNot) (fun x y H Q=>y=.non/\Q (.bl (!decide (x=.non))) H):=by
 intro pins s σ H x y v u Q I rx ry h;obtain⟨rfl,q⟩:=h;cases ry
 refine isnot_none_gen (bb I q ?_);cases x <;> first
  |(cases rx;rfl)
  |(obtain⟨t,rfl⟩:=rx;rfl)
def b8(b:Expr){op:CmpOp}(h:op≠.In:=by decide)(h2:op≠.NotIn:=by decide):behindInMarks op b=false:=by
 have e1:(op == CmpOp.In)=false:=by cases op <;> first | rfl | exact absurd rfl h
 have e2:(op == CmpOp.NotIn)=false:=by cases op <;> first | rfl | exact absurd rfl h2
 cases b <;> simp[behindInMarks,e1,e2]
def lZ{op:CmpOp}{r:R2}(ho:OpR X (compareOp op) r)(ha:PE X a ta)(hb:PE X b tb)(hm:behindInMarks op b=false):PE X (.Compare a [op] [b] pos) (tOp r ta tb):=by
 intro pins s σ H Q I h;exact wpAny_Compare1 (vJ ha hb I h fun v u s2 x y H2 I2 rx ry q=>ho pins s2 σ H2 x y v u Q I2 rx ry q) hm
def xz(t:TE):TT:=fun σ H Q=>t σ H fun x H'=>∃k,x=.bl k/\Q k H'
def bA{op:CmpOp}{r:R2}(ho:OpR X (compareOp op) r)(ha:PE X a ta)(hb:PE X b tb)(hm:behindInMarks op b=false):PT X (.Compare a [op] [b] pos) (xz (tOp r ta tb)):=by
 intro pins s σ H Q I h;refine wpAny_isTrue_Compare1 (thn (ha pins s σ H _ I h) fun v s1 ⟨x,H1,I1,r1,q1⟩=>thn (hb pins s1 σ H1 _ I1 q1) fun u s2 ⟨y,H2,I2,r2,q2⟩=>
  thn (ho pins s2 σ H2 x y v u _ I2 r1 r2 q2) fun c s3 ⟨z,H3,I3,r3,k,e,q3⟩=>?_) hm
 subst e;cases r3
 exact abq ⟨H3,I3,q3⟩
def zm(K:acX)(x:V)(H:Hp)(k:Bool):Prop:=
 match x with
 |.non=>k=false
 |.bl b=>k=b
 |.int i=>k=(i != 0)
 |.str y=>y.length<=sizeLine/\k=((y.length:Int) != 0)
 |.byt y=>y.size<=sizeLine/\k=((y.size:Int) != 0)
 |.ref p=>(∃xs,SqL K H p xs/\k=!xs.isEmpty)\/(∃xs,SqT K H p xs/\k=!xs.isEmpty)\/∃kvs,H p=some (.dK kvs)/\k=!kvs.isEmpty
 |_=>False
def rM{κ:Type}{kvs:List (κ×V)}{vs:List (κ×Value)}(r:KV kvs vs):(!vs.isEmpty)=!kvs.isEmpty:=by
 cases r <;> rfl
def lg{xs:List V}{its:List Value}(r:Vals xs its):(!its.toArray.isEmpty)=!xs.isEmpty:=by
 cases r <;> simp
def jc:(sizeLine:Nat)<2 ^ 63:=by rw[acJ];decide
def zn:Bv X (fun x H Q=>∃k,zm X.K x H k/\Q k H):=by
 intro pins s σ H x v Q I rx h;obtain⟨k,e,q⟩:=h;have hl:=jc;have hs:sizeLine=16777216:=acJ;cases x with
 |non=>
  cases rx
  have e':k=false:=e;subst e';exact truthy_none ⟨H,I,q⟩
 |bl b=>
  cases rx
  have e':k=b:=e;subst e';exact abq ⟨H,I,q⟩
 |int i=>
  obtain⟨t,rfl⟩:=rx;have e':k=(i != 0):=e;subst e';exact PySem.P.truthy_int ⟨H,I,q⟩
 |str y=>
  obtain⟨t,rfl⟩:=rx;obtain⟨hy,e'⟩:y.length<=sizeLine/\k=((y.length:Int) != 0):=e;subst e';exact PySem.P.truthy_str (by omega) ⟨H,I.tok _,q⟩
 |byt y=>
  obtain⟨t,rfl⟩:=rx;obtain⟨hy,e'⟩:y.size<=sizeLine/\k=((y.size:Int) != 0):=e;subst e';exact PySem.W.truthy_bytes (by omega) ⟨H,I.tok _,q⟩
 |ref p=>
  cases rx
  have e':(∃xs,SqL X.K H p xs/\k=!xs.isEmpty)\/(∃xs,SqT X.K H p xs/\k=!xs.isEmpty)\/∃kvs,H p=some (.dK kvs)/\k=!kvs.isEmpty:=e;rcases e' with ⟨xs,hx,e'⟩|⟨xs,hx,e'⟩|⟨kvs,hx,e'⟩
  ·subst e';obtain⟨its,r,pl,hz⟩:=I.list hx;have hlen:=r.length;exact wpAny_truthy_list pl.isList (by simp only[abr];omega) ⟨H,I.tok _,by rw[lg r];exact q⟩
  ·subst e';obtain⟨its,r,pl,hz⟩:=I.tuple hx;have hlen:=r.length;exact truthy_tuple pl (by simp only[abr];omega) ⟨H,I.tok _,by rw[lg r];exact q⟩
  ·subst e';obtain⟨hz,hS,vs,r,m⟩:kvs.length<=sizeLine/\(p == sysModules)=false/\∃vs,KV kvs vs/\s.heap.DictOf (bz X.prog X.w) p vs:=I.hok p _ hx;have hlen:kvs.length=vs.length:=aco r;exact wpAny_truthy_dict hS m (by omega) ⟨H,I.tok _,by rw[rM r];exact q⟩
 |_=>exact(show False from e).elim
def vM(ha:PE X a ta)(he:∀whole,isTrue a X.env whole=(do let v ←whole;standAt a.pos;holding [v] (truthy v))) :
  PT X a (fun σ H Q=>ta σ H fun x H'=>∃k,zm X.K x H' k/\Q k H'):=by
 intro pins s σ H Q I h;exact isTrue_plain (thn (ha pins s σ H _ I h) fun v s1 ⟨x,H1,I1,r1,q1⟩=>zn pins s1 σ H1 x v Q I1 r1 q1) (he _)
def iI:OpR X (binaryOp .Add) (fun x y H Q=>∃i j,x=.str i/\y=.str j/\i.length+j.length<=sizeLine/\Q (.str (i++j)) H):=by
 intro pins s σ H x y v u Q I rx ry h;obtain⟨i,j,rfl,rfl,hz,q⟩:=h;obtain⟨t,rfl⟩:=rx;obtain⟨t',rfl⟩:=ry;exact add_str (fun t' tk=>⟨.str (i++j),H,I.tok _,⟨_,rfl⟩,q⟩) hz
def vals1{x:V}{us:List Value}(r:Vals [x] us):∃u,us=[u]/\RelV x u:=by
 cases r with
 |cons r1 r2=>cases r2;exact⟨_,rfl,r1⟩
def vals2{x y:V}{us:List Value}(r:Vals [x,y] us):∃u w',us=[u,w']/\RelV x u/\RelV y w':=by
 cases r with
 |cons r1 r2=>
  cases r2 with
  |cons r3 r4=>cases r4;exact⟨_,_,rfl,r1,r3⟩
def vN:dB X (.builtin "abs") (fun xs H Q=>∃i,xs=[.int i]/\Q (.int (if i<0 then -i else i)) H):=by
 intro pins s σ H xs us Q I r h;obtain⟨i,rfl,q⟩:=h;obtain⟨u,rfl,t,rfl⟩:=vals1 r;exact call_abs_int fun u tk=>⟨.int (if i<0 then -i else i),H,I.tok _,⟨_,rfl⟩,q⟩
end
end L2
namespace L2
open PySem PySem.Spec PyProof.Rows
structure ky(h:Heap)(x dx C:Addr)(mA:Str->Option Value):Prop where
 obj:h.get? x=some (PySem.W.instObj C dx)
 ns:h.Ns1 dx mA
 ne:dx≠x
def tU{h:Heap}{dx:Addr}{mA:Str->Option Value}(n:h.Ns1 dx mA):∃od,h.get? dx=some od/\∀name,PySem.W.lookIn name od=some (mA name):=by
 obtain⟨o,es,ep,ho,hd,hk,_,hm⟩:=n;refine⟨o,ho,fun name=>?_⟩;have e:=hm name;unfold nsFind findBy at e;rw[←Array.find?_toList] at e;unfold PySem.W.lookIn;rw[hd];dsimp only;split
 ·rename_i y q;rw[q] at e;exact acN some e
 ·rename_i q;rw[q] at e;have a:es.toList.any (·.refKey)=false:=by
   rw[List.any_eq_false];intro y hy;obtain⟨z,t,hkey⟩:=hk y (Array.mem_toList_iff.mp hy);simp[DictEntry.refKey,hkey]
  have a':¬es.toList.any (·.refKey)=true:=by rw[a];exact abf
  rw[acS a'];exact acN some e
def ky.look{h:Heap}{x dx C:Addr}{mA:Str->Option Value}(I:ky h x dx C mA):∃od,PySem.W.InstAt h x (PySem.W.instObj C dx) C (some od)/\∀name,PySem.W.lookIn name od=some (mA name):=
 let ⟨od,ho,hl⟩:=tU I.ns
 ⟨od,⟨I.obj,rfl,rfl,ho⟩,hl⟩
section
variable {prog:Program}{w:World}{A:Around}{E:Value->Shared->Prop}{s:Shared}{K:acX}{x dx C f:Addr}{mA:Str->Option Value}{name:Str}{v:Value}
def get_map{expr:Bool}{Q:Value->Shared->Prop}(X:K.In s.heap)(I:ky s.heap x dx C mA)(hg:PySem.W.plainGet K C name=true)(hh:PySem.W.hasDictIn K C=true)
  (ha:PySem.W.findIn K (.ref C) name=some none)(hv:mA name=some v)(hv':PySem.W.handedIn v=true)(h:Q v {s with toks:=s.toks+1}) :
  wpAny (model prog w) A (getAttr (.ref x) name expr) Q E s:=by
 obtain⟨od,J,hl⟩:=I.look;exact PySem.W.get_value X J (PySem.W.plainGet_of hg).1 (PySem.W.findObj_own hh ha rfl (by rw[hl,hv])) hv' h
def vO{pl:Sem Bool}{Q:Value×List Value->Shared->Prop}(X:K.In s.heap)(I:ky s.heap x dx C mA)(hg:PySem.W.plainGet K C name=true)
  (hf:PySem.W.findIn K (.ref C) name=some (some (.ref f)))(ht:PySem.W.isFn K (.ref f)=true)(hv:mA name=none)(h:Q (.ref f,[.ref x]) s) :
  wpAny (model prog w) A (getMethod (.ref x) name pl) Q E s:=by
 obtain⟨od,J,hl⟩:=I.look;exact PySem.W.method_fn X J (PySem.W.plainGet_of hg).1 (PySem.W.plainGet_of hg).2 hf (beq_iff_eq.mp ht) (by show(PySem.W.lookIn name od).map (·.isSome)=some false;rw[hl,hv];rfl) h
def xW{ns:List Str}{Q:Unit->Shared->Prop}(X:K.In s.heap)(I:ky s.heap x dx C mA)
  (hs:PySem.W.findIn K (.ref C) "__setattr__"=some (some (.builtin "object.__setattr__")))(hp:PySem.W.plainOver K C=true)(ht:PySem.W.takerIn K C name=some none)(hh:PySem.W.hasDictIn K C=true)
  (hw:PySem.Within mA ns)(hsz:ns.length<=sizeLine)
  (h:∀h',ky h' x dx C (fun y=>if y=name then some v else mA y)->Heap.SameBut dx s.heap h'->Q () {s with heap:=h',toks:=s.toks+2}) :
  wpAny (model prog w) A (setAttr (.ref x) name v) Q E s:=by
 obtain⟨od,J,hl⟩:=I.look;refine PySem.W.set_plain X J hs (PySem.W.osa_open (s:={s with toks:=s.toks+1}) (r:=none) X J hp ht fun b=>?_);obtain⟨cd,hc,hd'⟩:=PySem.W.any_some hh;have hx:s.heap.get? x=some ⟨.ref C,some dx,.plain,#[]⟩:=I.obj;refine wpAny_bind (wpAny_pure (wpAny_bind (wpAny_bind (wpAny_loadPart hx (wpAny_bind (PySem.W.Looks.here (s:={s with toks:=s.toks+1}) (PySem.W.looks_clsIn X hc) ?_))))));rw[hd'];refine wpAny_pure (a:=some dx) (wpAny_bind (wpAny_pure (wpAny_bind ?_)));refine wpAny_nsSet1 (s:={s with toks:=s.toks+1}) I.ns fun h' hn2 hs2=>?_
 obtain⟨oD,esD,epD,hoD,hdD,hcD⟩:=hn2.count (PySem.Within.cons name v hw);refine wpAny_bind (wpAny_lookBehind hoD (by rw[hdD];exact pastItsLine_dict (acy hcD (by rw[abI];omega))) ?_);exact wpAny_pure (h _ ⟨(hs2.2 _ (acQ I.ne)).trans I.obj,hn2,I.ne⟩ hs2)
def vP{R:Result->Shared->Prop}{vs:List Value}{kw:List (Str×Value)}(X:K.In s.heap)(hm:PySem.W.makesIn K C=true)
  (hi:PySem.W.findIn K (.ref C) "__init__"=some (some (.ref f)))(hf:PySem.W.typeIn K (.ref f)=some (.type "function"))
  (h:codeAny (model prog w) (A.under (.builtin "type.__call__" ⟨.ref C::vs,kw⟩)) (.call (.ref f) ⟨.ref (s.heap.objs.size+1)::vs,kw⟩) (PySem.W.InitBack (s.heap.objs.size+1) R)
   {s with heap:=(s.heap.push PySem.W.emptyDict).push (PySem.W.instObj C s.heap.objs.size)}) :
  codeAny (model prog w) A (.call (.ref C) ⟨vs,kw⟩) R s:=by
 obtain⟨hh,g,d,t,os⟩:=s;exact PySem.W.make_core (PySem.W.makes_of X hm) (PySem.W.looks_findIn X hi) (fun self=>PySem.W.bind_fn X self hf) (.inl rfl) h
end
def aJ(f:Str)(v:V):List (Str×V)->List (Str×V)
 |[]=>[(f,v)]
 |(g,x)::r=>if g=f then (g,v)::r else (g,x)::aJ f v r
def be(f g:Str)(v:V):∀fs:List (Str×V),(aJ f v fs).lookup g=if g=f then some v else fs.lookup g
 |[]=>by
  show List.lookup g [(f,v)]=_
  by_cases h:g=f
  ·have hb:(g == f)=true:=beq_iff_eq.mpr h;simp only[List.lookup,hb,acR h]
  ·have hb:(g == f)=false:=aa1.mpr h;simp only[List.lookup,hb,acS h]
 |(k,x)::r=>by
  have ih:=be f g v r;rw[show aJ f v ((k,x)::r)=(if k=f then (k,v)::r else (k,x)::aJ f v r) from rfl]
  by_cases hk:k=f
  ·rw[acR hk]
   by_cases h:g=k
   ·have hb:(g == k)=true:=beq_iff_eq.mpr h;simp only[List.lookup,hb,acR (h.trans hk)]
   ·have hb:(g == k)=false:=aa1.mpr h;simp only[List.lookup,hb,acS (fun e:g=f=>h (e.trans hk.symm))]
  ·rw[acS hk]
   by_cases h:g=k
   ·have hb:(g == k)=true:=beq_iff_eq.mpr h;simp only[List.lookup,hb,acS (fun e:g=f=>hk (h.symm.trans e))]
   ·have hb:(g == k)=false:=aa1.mpr h;simp only[List.lookup,hb];exact ih
def jd(f:Str)(v:V):∀fs:List (Str×V),f∈(aJ f v fs).map (·.1)/\∀g,g∈fs.map (·.1)->g∈(aJ f v fs).map (·.1)
 |[]=>⟨by simp[aJ],fun g h=>by simp at h⟩
 |(k,x)::r=>by
  obtain⟨i1,i2⟩:=jd f v r;rw[show aJ f v ((k,x)::r)=(if k=f then (k,v)::r else (k,x)::aJ f v r) from rfl]
  by_cases hk:k=f
  ·rw[acR hk];subst hk;exact⟨by simp,fun g h=>by simpa using h⟩
  ·rw[acS hk];refine⟨?_,fun g h=>?_⟩
   ·rw[acr];exact aaU _ i1
   ·rw[acr] at h ⊢;rcases acq.mp h with e|e
    ·exact acq.mpr (.inl e)
    ·exact aaU _ (i2 g e)
def ez(f:Str)(v:V):∀fs:List (Str×V),(aJ f v fs).length<=fs.length+1
 |[]=>by simp[aJ]
 |(k,x)::r=>by
  have ih:=ez f v r;rw[show aJ f v ((k,x)::r)=(if k=f then (k,v)::r else (k,x)::aJ f v r) from rfl]
  by_cases hk:k=f
  ·rw[acR hk,abI,abI];omega
  ·rw[acS hk,abI,abI];omega
def dw.some_of{v:V}{o:Option Value}(r:dw (some v) o):∃u,o=some u/\RelV v u:=by
 cases o with
 |none=>exact(show False from r).elim
 |some u=>exact⟨u,rfl,r⟩
def dw.none_of{o:Option Value}(r:dw none o):o=none:=by
 cases o with
 |none=>rfl
 |some u=>exact(show False from r).elim
def tV{v:V}{u:Value}(r:RelV v u):PySem.W.handedIn u=true:=by
 cases v with
 |non=>cases (show u=Value.none from r);rfl
 |bl b=>cases (show u=Value.bool b from r);rfl
 |int i=>obtain⟨t,e⟩:=(show ∃t,u=Value.int i t from r);cases e;rfl
 |str x=>obtain⟨t,e⟩:=(show ∃t,u=Value.str x t from r);cases e;rfl
 |byt b=>obtain⟨t,e⟩:=(show ∃t,u=Value.bytes b t from r);cases e;rfl
 |flt b=>obtain⟨t,e⟩:=(show ∃t,u=Value.float b t from r);cases e;rfl
 |ref a=>cases (show u=Value.ref a from r);rfl
 |ty n=>cases (show u=Value.type n from r);rfl
section
variable {P:Program}{w:World}{H H':Hp}{h h':Heap}{a C dx:Addr}{fs fs':List (Str×V)}
def ie(hok:HOk P w H h)(e:H a=some (.ins C dx fs)):∃mA,ky h a dx C mA/\(∀f,dw (fs.lookup f) (mA f))/\PySem.Within mA (fs.map (·.1))/\fs.length<=1000/\H dx=some (.own a):=by
 obtain⟨d,z,ne,ob,mA,n,r,q⟩:=(show aX P w H h a (.ins C dx fs) from hok a _ e);exact⟨mA,⟨ob,n,ne⟩,r,q,z,d⟩
end
structure Cls(K:acX)(C:Addr):Prop where
 pg:PySem.W.plainGet K C Str.empty=true
 hd:PySem.W.hasDictIn K C=true
 po:PySem.W.plainOver K C=true
 sa:PySem.W.findIn K (.ref C) "__setattr__"=some (some (.builtin "object.__setattr__"))
def Cls.get{K:acX}{C:Addr}(c:Cls K C)(f:Str):PySem.W.plainGet K C f=true:=c.pg
def cK(K:acX)(C:Addr)(f:Str):Prop:=PySem.W.findIn K (.ref C) f=some none
def cK.AQ{K:acX}{C:Addr}{f:Str}(n:cK K C f):PySem.W.takerIn K C f=some none:=by
 unfold PySem.W.takerIn;rw[show PySem.W.findIn K (.ref C) f=some none from n];rfl
structure Meth(K:acX)(C:Addr)(m:Str)(f:Addr):Prop where
 at_:PySem.W.findIn K (.ref C) m=some (some (.ref f))
 fn:PySem.W.isFn K (.ref f)=true
 kp:PySem.W.keepIn K (.ref f)=true
section
variable {X:Cx}{pins:List (Addr×Obj)}{σ:St}{H:Hp}{s:Shared}{a C dx:Addr}{fs:List (Str×V)}{f:Str}{v:V}{A:Around}{E:Value->Shared->Prop}
def rN{b:Bool}{Q:Value->Shared->Prop}(I:Inv X pins σ H s)(e:H a=some (.ins C dx fs))(c:Cls X.K C)(n:cK X.K C f)(l:fs.lookup f=some v)
  (h:∀u s',Inv X pins σ H s'->RelV v u->Q u s'):wpAny (model X.prog X.w) A (getAttr (.ref a) f b) Q E s:=by
 obtain⟨mA,O,r,_,_,_⟩:=ie I.hok e;obtain⟨u,hu,ru⟩:=dw.some_of (v:=v) (o:=mA f) (by rw[←l];exact r f);exact get_map I.kIn O (c.get f) c.hd n hu (tV ru) (h u _ (I.tok _) ru)
def rO{m:Str}{g:Addr}{pl:Sem Bool}{Q:Value×List Value->Shared->Prop}(I:Inv X pins σ H s)(e:H a=some (.ins C dx fs))(c:Cls X.K C)(k:Meth X.K C m g)(l:fs.lookup m=none)
  (h:Q (.ref g,[.ref a]) s):wpAny (model X.prog X.w) A (getMethod (.ref a) m pl) Q E s:=by
 obtain⟨mA,O,r,_,_,_⟩:=ie I.hok e;have hn:mA m=none:=dw.none_of (by rw[←l];exact r m);exact vO I.kIn O (c.get m) k.at_ k.fn hn h
def rP{y:V}{u:Value}{Q:Unit->Shared->Prop}(I:Inv X pins σ H s)(e:H a=some (.ins C dx fs))(c:Cls X.K C)(n:cK X.K C f)(hl:fs.length<1000)(ry:RelV y u)
  (h:∀s',Inv X pins σ (upd H a (.ins C dx (aJ f y fs))) s'->Q () s'):wpAny (model X.prog X.w) A (setAttr (.ref a) f u) Q E s:=by
 obtain⟨mA,O,r,wi,_,ho⟩:=ie I.hok e;have hz:(fs.map (·.1)).length<=sizeLine:=by rw[ab3,acJ];omega
 refine xW I.kIn O c.sa c.po n.AQ c.hd wi hz fun h' O' sb=>h _ ?_
 have hd:∃o,h'.get? dx=some o:=let ⟨o,_,_,e',_⟩:=O'.ns;⟨o,e'⟩
 refine I.write (x:=a) (e:=dx) (by rw[e];exact True.intro) (.inr ho) (fun b q hb z=>(sb.2 b hb).trans z) hd ?_;refine⟨by rw[ad O.ne];exact ho,?_,O.ne,O'.obj,_,O'.ns,fun g=>?_,fun g hg=>?_⟩
 ·have:=ez f y fs;omega
 ·show dw ((aJ f y fs).lookup g) (if g=f then some u else mA g);rw[be]
  by_cases q:g=f
  ·rw[acR q,acR q];exact ry
  ·rw[acS q,acS q];exact r g
 ·by_cases q:g=f
  ·rw[q];exact(jd f y fs).1
  ·refine(jd f y fs).2 g (wi g fun z=>hg ?_);show(if g=f then some u else mA g)=none;rw[acS q];exact z
def Inv.made(I:Inv X pins σ H s):Inv X pins σ (upd (upd H s.heap.objs.size (.own (s.heap.objs.size+1))) (s.heap.objs.size+1) (.ins C s.heap.objs.size []))
  {s with heap:=(s.heap.push PySem.W.emptyDict).push (PySem.W.instObj C s.heap.objs.size)}:=by
 have e1:(s.heap.push PySem.W.emptyDict).get? s.heap.objs.size=some PySem.W.emptyDict:=aa3 s.heap rfl;have e2:((s.heap.push PySem.W.emptyDict).push (PySem.W.instObj C s.heap.objs.size)).get? (s.heap.objs.size+1)=some (PySem.W.instObj C s.heap.objs.size):=by
  have:=aa3 (s.heap.push PySem.W.emptyDict) (o:=PySem.W.instObj C s.heap.objs.size) rfl
  rwa [ach] at this
 have e3:(s.heap.push PySem.W.emptyDict).Ns s.heap.objs.size (fun _=>none):=⟨PySem.W.emptyDict,#[],_,e1,rfl,(fun e he=>absurd he (by simp)),fun _=>rfl⟩;have I1:=I.laid (a:=s.heap.objs.size) (o:=.own (s.heap.objs.size+1)) (h':=s.heap.push PySem.W.emptyDict) (t':=s.toks) (fun b u q=>aaz _ q) (acH _) ⟨_,e1⟩;refine I1.laid (a:=s.heap.objs.size+1) (o:=.ins C s.heap.objs.size []) (t':=s.toks) (fun b u q=>aaz _ q) (Nat.le_of_eq (ach _ _)) ?_;have ne:s.heap.objs.size≠s.heap.objs.size+1:=acx (abJ _);refine⟨by rw[ad ne,aa],acI _,ne,e2,fun _=>none,(Heap.Ns1.of_empty e3).at fun o q=>aaz _ q,fun _=>True.intro,fun y hy=>absurd rfl hy⟩
def xX{prog:Program}{w:World}{env:Env}{e:Expr}{f:Str}{pos:Pos}{s:Shared}{Q:Value->Shared->Prop}(hb:attributeBase e f env (eval e env)=eval e env)
  (h:wpAny (model prog w) A (eval e env) (fun o s₁=>wpAny (model prog w) A (getAttr o f true) Q E s₁) E s):wpAny (model prog w) A (eval (.Attribute e f pos) env) Q E s:=
 Attribute_any_ h (by rw[arm_eval_Attribute,hb])
end
def By(K:acX)(ta:TE)(f:Str):TE:=fun σ H Q=>ta σ H fun x H1=>∃a C dx fs v,x=.ref a/\H1 a=some (.ins C dx fs)/\Cls K C/\cK K C f/\fs.lookup f=some v/\Q v H1
def Bz(K:acX)(ta tv:TE)(f:Str):TS:=fun D σ H=>tv σ H fun y H1=>ta σ H1 fun x H2=>∃a C dx fs,x=.ref a/\H2 a=some (.ins C dx fs)/\Cls K C/\cK K C f/\fs.length<1000/\
 D.nx σ (upd H2 a (.ins C dx (aJ f y fs)))
section
variable {X:Cx}{o e value:Expr}{f:Str}{pos pos' tpos:Pos}{ta tv:TE}
def fQ(he:PE X e ta)(hb:attributeBase e f X.env (eval e X.env)=eval e X.env):PE X (.Attribute e f pos) (By X.K ta f):=by
 intro pins s σ H Q I h;refine xX hb (thn (he pins s σ H _ I h) fun u s1 ⟨x,H1,I1,rx,a,C,dx,fs,v,ex,ea,c,n,l,q⟩=>?_);subst ex;obtain rfl:u=Value.ref a:=rx;exact rN I1 ea c n l fun u' s2 I2 ru=>⟨v,H1,I2,ru,q⟩
def lh(ha:PE X o ta)(hv:PE X value tv)(hs:swapsWith value (some (.Attribute o f pos')) pos.line X.env=pure false):PS X (.Assign [.Attribute o f pos'] value pos) (Bz X.K ta tv f):=by
 intro pins s σ H D I h;refine plainObj_wpAny_Assign_Attribute (thn (hv pins s σ H _ I h) fun u s1 ⟨y,H1,I1,ry,q⟩=>thn (ha pins s1 σ H1 _ I1 q) fun ov s2 ⟨x,H2,I2,rx,a,C,dx,fs,ex,ea,c,n,l,q2⟩=>?_) hs;subst ex;obtain rfl:ov=Value.ref a:=rx;exact rP I2 ea c n l ry fun s3 I3=>⟨σ,_,I3,q2⟩
end
section
variable {X:Cx}{pins:List (Addr×Obj)}{σ:St}{H:Hp}{s:Shared}{A:Around}{E:Value->Shared->Prop}{Q:Value->Shared->Prop}{c:Value}{b:Bool}
inductive cj(K:acX)(H:Hp):V->Value->Prop where
 |non:cj K H .non (.type "NoneType")
 |bl (x:Bool):cj K H (.bl x) (.type "bool")
 |int (i:Int):cj K H (.int i) (.type "int")
 |str (x:Str):cj K H (.str x) (.type "str")
 |flt (x:UInt64):cj K H (.flt x) (.type "float")
 |lst {a:Addr} {xs:List V} (e:H a=some (.lst xs)):cj K H (.ref a) (.type "list")
 |frz {a:Addr} {o:Obj} {xs:List V} (e:H a=some (.frz o (.lst xs))):cj K H (.ref a) (.type "list")
 |tup {a:Addr} {xs:List V} (e:H a=some (.tup xs)):cj K H (.ref a) (.type "tuple")
 |dK {a:Addr} {kvs:List (Key×V)} (e:H a=some (.dK kvs)):cj K H (.ref a) (.type "dict")
 |dT {a:Addr} {kvs:List (List Key×V)} (e:H a=some (.dT kvs)):cj K H (.ref a) (.type "dict")
 |ins {a C dx:Addr} {fs:List (Str×V)} (e:H a=some (.ins C dx fs)) (cl:Cls K C) (ha:PySem.W.findIn K (.ref C) "__class__"=some (some (.builtin "object.__class__")))
   (hn:PySem.W.specialIn K (.builtin "object.__class__") "__get__"=some (some (.builtin "getset_descriptor.__get__"))) (htk:PySem.W.takesIn K (.builtin "object.__class__")=some true)
   (hm:PySem.W.mroIn K C (.type "object")=some true):cj K H (.ref a) (.ref C)
def tW{x:V}{u t:Value}(I:Inv X pins σ H s)(rx:RelV x u)(ty:cj X.K H x t)(e:PySem.W.kitOne X.K t c=some b)(h:∀tk,Q (.bool b) {s with toks:=tk}) :
  wpAny (model X.prog X.w) A (call (.builtin "isinstance") [u,c]) Q E s:=by
 cases ty with
 |non=>cases (show u=Value.none from rx);exact ab4 PySem.W.kitx_none I.kIn True.intro e (fun z=>nomatch z) h
 |bl y=>cases (show u=Value.bool y from rx);exact ab4 PySem.W.kitx_bool I.kIn True.intro e (fun z=>nomatch z) h
 |int i=>obtain⟨t,q⟩:=(show ∃t,u=Value.int i t from rx);cases q;exact ab4 PySem.W.kitx_int I.kIn True.intro e (fun z=>nomatch z) h
 |str y=>obtain⟨t,q⟩:=(show ∃t,u=Value.str y t from rx);cases q;exact ab4 PySem.W.kitx_str I.kIn True.intro e (fun z=>nomatch z) h
 |flt y=>obtain⟨t,q⟩:=(show ∃t,u=Value.float y t from rx);cases q;exact ab4 PySem.W.kitx_float I.kIn True.intro e (fun z=>nomatch z) h
 |@lst a xs ea=>
  cases (show u=Value.ref a from rx)
  obtain⟨_,_,n,_,h1⟩:=(show aX X.prog X.w H s.heap a (.lst xs) from I.hok a _ ea);exact ab4 PySem.W.kitx_list I.kIn ⟨_,h1,rfl⟩ e (fun z=>nomatch z) h
 |@frz a ob xs ea=>
  cases (show u=Value.ref a from rx)
  obtain⟨_,_,_,n,_,h1⟩:=(show aX X.prog X.w H s.heap a (.frz ob (.lst xs)) from I.hok a _ ea);exact ab4 PySem.W.kitx_list I.kIn ⟨_,h1,rfl⟩ e (fun z=>nomatch z) h
 |@tup a xs ea=>
  cases (show u=Value.ref a from rx)
  obtain⟨_,_,_,p⟩:=(show aX X.prog X.w H s.heap a (.tup xs) from I.hok a _ ea);obtain⟨o,h1,h2,_⟩:=p;exact ab4 PySem.W.kitx_tuple I.kIn ⟨o,h1,h2⟩ e (fun z=>nomatch z) h
 |@dK a kvs ea=>
  cases (show u=Value.ref a from rx)
  obtain⟨_,_,vs,_,p⟩:=(show aX X.prog X.w H s.heap a (.dK kvs) from I.hok a _ ea);obtain⟨o,es,ep,h1,h2,_⟩:=p;exact ab4 PySem.W.kitx_dict I.kIn ⟨o,h1,h2.1⟩ e (fun z=>nomatch z) h
 |@dT a kvs ea=>
  cases (show u=Value.ref a from rx)
  obtain⟨_,_,xs,_,o,es,ep,h1,h2,_⟩:=(show aX X.prog X.w H s.heap a (.dT kvs) from I.hok a _ ea);exact ab4 PySem.W.kitx_dict I.kIn ⟨o,h1,h2.1⟩ e (fun z=>nomatch z) h
 |@ins a C dx fs ea cl ha hn htk hm=>
  cases (show u=Value.ref a from rx)
  obtain⟨mA,O,_⟩:=ie I.hok ea;obtain⟨od,J,_⟩:=O.look;exact ab4 (PySem.W.kitx_own (cl.get _) cl.hd ha hn htk hm) I.kIn J e (fun z=>nomatch z) h
end
end L2
namespace L2
open PySem PySem.Spec PyProof.Rows
structure a9(k:Nat)(A:Around):Prop where
 hd:A.handled=none
 dp:A.depth+3*k+5<recursionLimit
 un:A.units+16*k+200<cLine
def a9.mono{j k:Nat}{A:Around}(r:a9 k A)(h:j<=k):a9 j A:=⟨r.hd,by have:=r.dp;omega,by have:=r.un;omega⟩
def a9.deeper{k:Nat}{A:Around}(r:a9 (k+1) A)(env:Env):a9 k (A.deeper env):=
 ⟨r.hd,by have:=r.dp;show A.depth+1+3*k+5<_;omega,by have:=r.un;show A.units+3+16*k+200<_;omega⟩
def rQ{A:Around}{C:Addr}{us:List Value}{kw:List (Str×Value)}:(A.under (.builtin "type.__call__" ⟨.ref C::us,kw⟩)).depth=A.depth+1:=by
 first | rfl | simp[Around.under,Code.weight,Code.isCreation,Code.isGuard,Code.isCaller,Code.frames,Code.isFrame,guardIds]
def rR{A:Around}{C:Addr}{us:List Value}{kw:List (Str×Value)}:(A.under (.builtin "type.__call__" ⟨.ref C::us,kw⟩)).units=A.units+1:=by
 first | rfl | simp[Around.under,Code.cUnits,Code.frames,Code.isFrame]
def a9.make{k:Nat}{A:Around}(r:a9 (k+1) A)(C:Addr)(us:List Value)(kw:List (Str×Value)):a9 k (A.under (.builtin "type.__call__" ⟨.ref C::us,kw⟩)):=
 ⟨r.hd,by have:=r.dp;rw[rQ];omega,by have:=r.un;rw[rR];omega⟩
def a9.depth{k:Nat}{A:Around}(r:a9 k A):A.depth<recursionLimit:=by have:=r.dp;omega
def a9.units{k:Nat}{A:Around}(r:a9 k A):A.units+64<cLine:=by have:=r.un;omega
def zo:TA:=fun _ H Q=>Q [] H
def rS(ta:TE)(tr:TA):TA:=fun σ H Q=>ta σ H fun x H1=>tr σ H1 fun xs H2=>Q (x::xs) H2
section
variable {X:Cx}{e:Expr}{es:List Expr}{te:TE}{t:TA}{pos:Pos}
def ac:PA X [] zo:=fun _ _ _ _ H Q I h=>Calls.spliced_nil ⟨[],H,I,.nil,h⟩
def ah(ha:PE X e te)(hr:PA X es t)(hs:starEach (e::es) X.env=(false,eval e X.env)::starEach es X.env:=by rfl):PA X (e::es) (rS te t):=by
 intro pos pins s σ H Q I h;rw[hs];show wpAny _ _ (spliced ((false,eval e X.env)::backTo pos (starEach es X.env))) _ _ s;refine abg (thn (ha pins s σ H _ I h) fun u s1 ⟨x,H1,I1,r1,q1⟩=>?_);exact thn (hr pos pins s1 σ H1 _ I1 q1) fun us s2 ⟨xs,H2,I2,r2,q2⟩=>⟨x::xs,H2,I2,.cons r1 r2,q2⟩
def zp(t:TA):TE:=fun σ H Q=>t σ H fun xs H1=>xs.length<=sizeLine/\∀p,H1 p=none->Q (.ref p) (upd H1 p (.tup xs))
def zq(t:TA):TE:=fun σ H Q=>t σ H fun xs H1=>xs.length<=sizeLine/\∀p,H1 p=none->Q (.ref p) (upd H1 p (.lst xs))
def bj{x1}(h:PA X es t):PE X (.Tuple es x1 pos) (zp t):=by
 intro pins s σ H Q I hq;refine wpAny_Tuple_spliced (thn (h pos pins s σ H _ I hq) fun us s1 ⟨xs,H1,I1,r,z,q⟩=>⟨by rw[←r.length];exact z,?_⟩);have hf:H1 s1.heap.objs.size=none:=I1.hok.fresh (acH _);refine⟨.ref s1.heap.objs.size,upd H1 s1.heap.objs.size (.tup xs),I1.laid (t':=s1.toks) (fun b u e=>aaz _ e) (acH _) ?_,rfl,q _ hf⟩;exact⟨z,us,r,⟨_,aa3 _ rfl,rfl,_,rfl⟩⟩
def bg(h:PA X es t):PE X (.List es pos) (zq t):=by
 intro pins s σ H Q I hq;refine wpAny_List_spliced (thn (h pos pins s σ H _ I hq) fun us s1 ⟨xs,H1,I1,r,z,q⟩=>⟨by rw[←r.length];exact z,?_⟩);have hf:H1 s1.heap.objs.size=none:=I1.hok.fresh (acH _);refine⟨.ref s1.heap.objs.size,upd H1 s1.heap.objs.size (.lst xs),I1.laid (t':=s1.toks) (fun b u e=>aaz _ e) (acH _) ?_,rfl,q _ hf⟩;exact⟨z,us,0,r,aa3 _ rfl⟩
end
abbrev Sp:=List V->Hp->VK->XK->Prop
abbrev CXT:=List Env->Hp->Shared->XK->Value->Shared->Prop
structure kz(P:Program)(w:World)(K:acX)(mg:Str->Option Value)(base:Heap)(A:Around)(outer:List Env)(s:Shared)(H:Hp):Prop where
 frames:A.frames=some outer
 mod:Mod K mg base
 bs:∀b o,base.get? b=some o->s.heap.get? b=some o/\H b=none
 bsz:base.objs.size<=s.heap.objs.size
 fm:s.heap.FunFrames base outer
 frf:∀b∈frs outer,H b=none
 hok:HOk P w H s.heap
 bare:AllBare s.gens
def CE(outer:List Env)(P:Program)(w:World)(H:Hp)(s:Shared)(Q:VK)(u:Value)(s':Shared):Prop:=
 ∃v H',s'.os=s.os/\AllBare s'.gens/\Un (frs outer) [] H H' s.heap s'.heap/\HOk P w H' s'.heap/\RelV v u/\Q v H'
def CR(CX:CXT)(outer:List Env)(P:Program)(w:World)(H:Hp)(s:Shared)(Q:VK)(E:XK)(r:Result)(s':Shared):Prop:=
 match r with
 |.ok (.ret u)=>CE outer P w H s Q u s'
 |.ok _=>False
 |.error e=>CX outer H s E e s'
structure aM(P:Program)(w:World)(K:acX)(mg:Str->Option Value)(base:Heap)(CX:CXT)(k:Nat)(f:Addr)(fd:FuncData)(ps:List Str)(sp:Sp):Prop where
 len:∀vs H Q E,sp vs H Q E->vs.length=ps.length
 run:∀(A:Around) (outer:List Env) (s:Shared) (H:Hp) (args:Args) (us:List Value) (vs:List V) (Q:VK) (E:XK),a9 k A->kz P w K mg base A outer s H->BindsTo s fd args (ps.zip us)->Vals vs us->sp vs H Q E->
  codeAny (model P w) A (.call (.ref f) args) (CR CX outer P w H s Q E) s
def aM.imp{P:Program}{w:World}{K:acX}{mg:Str->Option Value}{base:Heap}{CX:CXT}{k:Nat}{f:Addr}{fd:FuncData}{ps:List Str}{sp sp':Sp}(F:aM P w K mg base CX k f fd ps sp)
  (h:∀vs H Q E,sp' vs H Q E->sp vs H Q E):aM P w K mg base CX k f fd ps sp':=
 ⟨fun vs H Q E q=>F.len vs H Q E (h _ _ _ _ q),fun A outer s H args us vs Q E hr he hb hv hs=>F.run A outer s H args us vs Q E hr he hb hv (h _ _ _ _ hs)⟩
def kz.make{P:Program}{w:World}{K:acX}{mg:Str->Option Value}{base:Heap}{A:Around}{outer:List Env}{s:Shared}{H:Hp}(e:kz P w K mg base A outer s H)(C:Addr)(us:List Value)(kw:List (Str×Value)) :
  kz P w K mg base (A.under (.builtin "type.__call__" ⟨.ref C::us,kw⟩)) outer s H:=⟨by first | exact e.frames | (simpa [Around.under,Code.envs,Code.isFrame,pushEnvs] using e.frames),e.mod,e.bs,e.bsz,e.fm,e.frf,e.hok,e.bare⟩
section
variable {X:Cx}{pins:List (Addr×Obj)}{σ:St}{H:Hp}{s s':Shared}
def Inv.zt(I:Inv X pins σ H s):kz X.prog X.w X.K X.mg X.base X.A X.stack s H:=
 ⟨I.ok.frames,I.ok.mod,I.bs,acy I.ok.bsz I.sz,I.stack,I.lW,I.hok,I.bare⟩
def Inv.after{Q:VK}{u:Value}(I:Inv X pins σ H s)(h:CE X.stack X.prog X.w H s Q u s'):EP X pins σ Q u s':=by
 obtain⟨v,H',os,bare,un,hok,r,q⟩:=h;obtain⟨hh,g,d,t,os'⟩:=s';obtain rfl:os'=s.os:=os;exact⟨v,H',I.call (h':=hh) (g':=g) (d':=d) (t':=t) (ch:=[]) un hok bare (fun b z=>absurd z (by simp)),r,q⟩
end
def rT(sp:Sp)(dvs:List V)(E:XK)(t:TA):TE:=fun σ H Q=>t σ H fun vs H1=>sp (vs++dvs) H1 Q E
def xA(C:Addr)(m:Str)(sp:Sp)(dvs:List V)(E:XK)(ta:TE)(t:TA):TE:=fun σ H Q=>ta σ H fun x H1=>∃a dx fs,x=.ref a/\H1 a=some (.ins C dx fs)/\fs.lookup m=none/\
 t σ H1 fun vs H2=>sp (x::(vs++dvs)) H2 Q E
def xB(C:Addr)(sp:Sp)(dvs:List V)(E:XK)(t:TA):TE:=fun σ H Q=>t σ H fun vs H1=>∀x dx,H1 x=none->H1 dx=none->dx≠x->
 sp (.ref x::(vs++dvs)) (upd (upd H1 dx (.own x)) x (.ins C dx [])) (fun v H2=>v=.non/\Q (.ref x) H2) E
def Binds(K:acX)(fd:FuncData)(ps:List Str)(ds:List Value):Prop:=
 ∀(s:Shared) (us:List Value),K.In s.heap->(us++ds).length=ps.length->BindsTo s fd ⟨us,[]⟩ (ps.zip (us++ds))
def Binds.all{K:acX}{fd:FuncData}{ps:List Str}(h:∀us:List Value,us.length=ps.length->bindArgs fd ⟨us,[]⟩=pure (ps.zip us)):Binds K fd ps []:=fun s us _ hl=>by
 rw[ab5] at hl ⊢;exact .of_eq (h us hl)
def Passes(CX:CXT)(X:Cx)(E:XK):Prop:=∀(pins:List (Addr×Obj)) (σ:St) (H:Hp) (s:Shared) (e:Value) (s':Shared),Inv X pins σ H s->CX X.stack H s E e s'->X.xe e s'
section
variable {X:Cx}{CX:CXT}{k:Nat}{f C:Addr}{fd:FuncData}{ps:List Str}{sp:Sp}{dvs:List V}{ds:List Value}{E:XK}{x m:Str}{p pos apos:Pos}{e o:Expr}{es:List Expr}{ta:TE}{t:TA}
def tX{pins:List (Addr×Obj)}{σ:St}{H:Hp}{s:Shared}{Q:VK}{us:List Value}{vs:List V}(F:aM X.prog X.w X.K X.mg X.base CX k f fd ps sp)(hr:a9 k X.A)(hb:Binds X.K fd ps ds)(hd:Vals dvs ds)(hx:Passes CX X E)
  (I:Inv X pins σ H s)(r:Vals vs us)(h:sp (vs++dvs) H Q E):wpAny (model X.prog X.w) X.A (call (.ref f) us) (EP X pins σ Q) X.xe s:=by
 have r2:Vals (vs++dvs) (us++ds):=r.append hd;have hl:(us++ds).length=ps.length:=by rw[←r2.length];exact F.len _ _ _ _ h
 refine wpAny_call (acA (F.run X.A X.stack s H ⟨us,[]⟩ (us++ds) (vs++dvs) Q E hr I.zt (hb s us I.kIn hl) r2 h) fun r s' hq=>?_);cases r with
 |error e=>exact hx pins σ H s e s' I hq
 |ok fl=>
  cases fl with
  |ret u=>exact I.after hq
  |next=>exact False.elim hq
  |brk=>exact False.elim hq
  |cont=>exact False.elim hq
def xY(F:aM X.prog X.w X.K X.mg X.base CX k f fd ps sp)(hr:a9 k X.A)(hg:Gl X x)(hm:X.mg x=some (.ref f))(hk:PySem.W.keepIn X.K (.ref f)=true)(hb:Binds X.K fd ps ds)(hd:Vals dvs ds)(hx:Passes CX X E)
  (ha:PA X (e::es) t)(hdb:(x == ("__debug__":Str))=false:=by decide)(he:starEach (e::es) X.env=(false,eval e X.env)::starEach es X.env:=by rfl)(hpl:(backTo pos (starEach es X.env)).any (·.1)=false:=by rfl) :
  PE X (.Call (.Name x p) (e::es) [] pos) (rT sp dvs E t):=by
 intro pins s σ H Q I h;refine abh (lX I hg hm ?_ hdb);refine PySem.W.callWith_K (h₀:=X.base) I.ok.mod.kin hk (thn (ha pos pins s σ H _ I h) fun us s1 ⟨vs,H1,I1,r,q⟩=>⟨I1.kIn,?_⟩) he hpl;exact tX F hr hb hd hx I1 r q
def xZ{pl:Sem Bool}(he:PE X o ta)(c:Cls X.K C)(hm:Meth X.K C m f)(F:aM X.prog X.w X.K X.mg X.base CX k f fd ps sp)(hr:a9 k X.A)(hb:Binds X.K fd ps ds)(hd:Vals dvs ds)(hx:Passes CX X E)(ha:PA X (e::es) t)
  (hst:starEach (e::es) X.env=(false,eval e X.env)::starEach es X.env:=by rfl)(hpl:(backTo pos (starEach es X.env)).any (·.1)=false:=by rfl)
  (ht:eval (.Call (.Attribute o m apos) (e::es) [] pos) X.env=(do
   let ov ←eval o X.env
   standAt apos.atName
   let (f,first) ←holding [ov] (getMethod ov m pl)
   callWith pos f first (backTo pos (starEach (e::es) X.env)) (backToKw pos (keywordEach [] X.env))):=by rfl) :
  PE X (.Call (.Attribute o m apos) (e::es) [] pos) (xA C m sp dvs E ta t):=by
 intro pins s σ H Q I h;refine PySem.W.methodCall_KW (pl:=pl) (thn (he pins s σ H _ I h) fun u s1 ⟨x,H1,I1,rx,a,dx,fs,ex,ea,l,q⟩=>?_) ht;subst ex;obtain rfl:u=Value.ref a:=rx;refine rO I1 ea c hm l ?_;refine PySem.W.callWith_K (first:=[.ref a]) (h₀:=X.base) I.ok.mod.kin hm.kp (thn (ha pos pins s1 σ H1 _ I1 q) fun us s2 ⟨vs,H2,I2,r,q2⟩=>⟨I2.kIn,?_⟩) hst hpl;exact tX (us:=.ref a::us) (vs:=.ref a::vs) F hr hb hd hx I2 (.cons rfl r) q2
structure Mk(K:acX)(C f:Addr):Prop where
 makes:PySem.W.makesIn K C=true
 init:PySem.W.findIn K (.ref C) "__init__"=some (some (.ref f))
 fn:PySem.W.isFn K (.ref f)=true
 kp:PySem.W.keepIn K (.ref C)=true
def vQ{pins:List (Addr×Obj)}{σ:St}{H:Hp}{s:Shared}{Q:VK}{us:List Value}{vs:List V}(M:Mk X.K C f)(F:aM X.prog X.w X.K X.mg X.base CX k f fd ps sp)(hr:a9 (k+1) X.A)(hb:Binds X.K fd ps ds)(hd:Vals dvs ds)
  (hx:Passes CX X E)(I:Inv X pins σ H s)(r:Vals vs us)
  (h:∀x dx,H x=none->H dx=none->dx≠x->sp (.ref x::(vs++dvs)) (upd (upd H dx (.own x)) x (.ins C dx [])) (fun v H2=>v=.non/\Q (.ref x) H2) E) :
  wpAny (model X.prog X.w) X.A (call (.ref C) us) (EP X pins σ Q) X.xe s:=by
 have hq:=h (s.heap.objs.size+1) s.heap.objs.size (I.hok.fresh (acK _)) (I.hok.fresh (acH _)) (acx (abJ _));have I2:=Inv.made (C:=C) I;have r2:Vals (V.ref (s.heap.objs.size+1)::(vs++dvs)) (Value.ref (s.heap.objs.size+1)::(us++ds)):=.cons rfl (r.append hd);have hl:(Value.ref (s.heap.objs.size+1)::us++ds).length=ps.length:=by
  have e:=r2.length;rw[F.len _ _ _ _ hq] at e;exact e.symm
 refine wpAny_call (vP (f:=f) I.kIn M.makes M.init (beq_iff_eq.mp M.fn) (acA (F.run _ X.stack _ _ ⟨Value.ref (s.heap.objs.size+1)::us,[]⟩ (Value.ref (s.heap.objs.size+1)::(us++ds)) _ _ E (hr.make C us [])
  (I2.zt.make C us []) (hb _ (Value.ref (s.heap.objs.size+1)::us) I2.kIn hl) r2 hq) fun r s' hq'=>?_))
 cases r with
 |error e=>exact hx pins σ _ _ e s' I2 hq'
 |ok fl=>
  cases fl with
  |ret u=>
   obtain⟨v,H',I3,rv,ev,q3⟩:=I2.after hq';subst ev;exact⟨rv,⟨V.ref (s.heap.objs.size+1),H',I3,rfl,q3⟩⟩
  |next=>exact False.elim hq'
  |brk=>exact False.elim hq'
  |cont=>exact False.elim hq'
def x6(M:Mk X.K C f)(F:aM X.prog X.w X.K X.mg X.base CX k f fd ps sp)(hr:a9 (k+1) X.A)(hg:Gl X x)(hm:X.mg x=some (.ref C))(hb:Binds X.K fd ps ds)(hd:Vals dvs ds)(hx:Passes CX X E)
  (ha:PA X (e::es) t)(hdb:(x == ("__debug__":Str))=false:=by decide)(he:starEach (e::es) X.env=(false,eval e X.env)::starEach es X.env:=by rfl)(hpl:(backTo pos (starEach es X.env)).any (·.1)=false:=by rfl) :
  PE X (.Call (.Name x p) (e::es) [] pos) (xB C sp dvs E t):=by
 intro pins s σ H Q I h;refine abh (lX I hg hm ?_ hdb);refine PySem.W.callWith_K (h₀:=X.base) I.ok.mod.kin M.kp (thn (ha pos pins s σ H _ I h) fun us s1 ⟨vs,H1,I1,r,q⟩=>⟨I1.kIn,?_⟩) he hpl;exact vQ M F hr hb hd hx I1 r q
end
section
variable {X:Cx}{CX:CXT}{k:Nat}{f C:Addr}{fd:FuncData}{ps ks:List Str}{sp:Sp}{E:XK}{x m:Str}{p pos apos kpos:Pos}{e o:Expr}{es:List Expr}{kws:List Keyword}{te ta:TE}{t tk:TA}{nm:Option Str}
variable {g:List Value->List Value->List Value}{gV:List V->List V->List V}
end
structure aE(N P:List Str)(sc:Scope):Prop where
 kind:sc.kind=.function
 co:sc.isCoroutine=false
 gen:sc.isGenerator=false
 nd:N.Nodup
 pre:N.take P.length=P
 par:∀x∈P,sc.names.lookup x=some .local\/sc.names.lookup x=some .cell
 nofree:∀y∈sc.names,y.2≠.free
def _root_.acW{N P:List Str}{sc:Scope}(a:sc.kind=.function:=by rfl)(b:sc.isCoroutine=false:=by rfl)(c:sc.isGenerator=false:=by rfl)(d:N.Nodup:=by decide +kernel)(e:N.take P.length=P:=by rfl)(f:∀x∈P,sc.names.lookup x=some .local\/sc.names.lookup x=some .cell:=by decide +kernel)(g:∀y∈sc.names,y.2≠.free:=by decide +kernel):aE N P sc:=⟨a,b,c,d,e,f,g⟩
def mH{kindOf:Str->Option NameKind}{x:Str}:∀{binds:List (Str×Value)} {m:Str->Option Value},(∀v,(x,v) ∉ binds)->bindL kindOf binds m x=m x
 |[],_,_=>rfl
 |(n,v)::r,m,h=>by
  unfold bindL;rw[mH fun w hw=>h w (aaU _ hw)];split
  ·have:x≠n:=by rintro rfl;exact h v abe
   simp[this]
  ·rfl
def mI{kindOf:Str->Option NameKind}{x:Str}:∀{binds:List (Str×Value)} {m:Str->Option Value},(∀v,(x,v) ∉ binds)->bindC kindOf binds m x=m x
 |[],_,_=>rfl
 |(n,v)::r,m,h=>by
  unfold bindC;rw[mI fun w hw=>h w (aaU _ hw)];split
  ·rfl
  ·have:x≠n:=by rintro rfl;exact h v abe
   simp[this]
def mJ{kindOf:Str->Option NameKind}{x:Str}{v:Value}:∀{P:List Str} {vs:List Value} {i:Nat} {m:Str->Option Value},P.Nodup->P[i]? =some x->vs[i]? =some v->kindOf x=some .local->
  bindL kindOf (P.zip vs) m x=some v
 |[],_,_,_,_,h,_,_=>by simp at h
 |_::_,[],_,_,_,_,h,_=>by simp at h
 |p::P,w::vs,0,m,nd,h1,h2,hk=>by
  simp at h1 h2;subst h1;subst h2;show bindL kindOf ((p,w)::P.zip vs) m p=_;unfold bindL;rw[mH fun v hv=>(ab6.mp nd).1 (List.of_mem_zip hv).1,acR hk];simp
 |p::P,w::vs,i+1,m,nd,h1,h2,hk=>by
  show bindL kindOf ((p,w)::P.zip vs) m x=_;unfold bindL;exact mJ (i:=i) (ab6.mp nd).2 (by simpa using h1) (by simpa using h2) hk
def mK{kindOf:Str->Option NameKind}{x:Str}{v:Value}:∀{P:List Str} {vs:List Value} {i:Nat} {m:Str->Option Value},P.Nodup->P[i]? =some x->vs[i]? =some v->kindOf x≠some .local->
  bindC kindOf (P.zip vs) m x=some v
 |[],_,_,_,_,h,_,_=>by simp at h
 |_::_,[],_,_,_,_,h,_=>by simp at h
 |p::P,w::vs,0,m,nd,h1,h2,hk=>by
  simp at h1 h2;subst h1;subst h2;show bindC kindOf ((p,w)::P.zip vs) m p=_;unfold bindC;rw[mI fun v hv=>(ab6.mp nd).1 (List.of_mem_zip hv).1,acS hk];simp
 |p::P,w::vs,i+1,m,nd,h1,h2,hk=>by
  show bindC kindOf ((p,w)::P.zip vs) m x=_;unfold bindC;exact mK (i:=i) (ab6.mp nd).2 (by simpa using h1) (by simpa using h2) hk
def start(N:List Str)(vs:List V):St:=vs.map some++List.replicate (N.length - vs.length) none
def iJ(CX:CXT)(P:Program)(w:World)(K:acX)(mg:Str->Option Value)(base:Heap)(N:List Str)(qual:Str)(scope:Scope)(f:Addr)(cd:Value)(A:Around)(outer:List Env)(s:Shared)(H:Hp)(E:XK):Cx where
 prog:=P
 w:=w
 K:=K
 mg:=mg
 base:=base
 A:=A.deeper (envOfC qual scope s.heap.objs.size f cd)
 N:=N
 s₀:=s
 H₀:=H
 env:=envOfC qual scope s.heap.objs.size f cd
 outer:=outer
 stack:=envOfC qual scope s.heap.objs.size f cd::outer
 ex:=[]
 calm:=true
 fn:=fun _=>true
 pn:=[]
 xe:=fun e s'=>wpAny (model P w) (A.deeper (envOfC qual scope s.heap.objs.size f cd)) (leaving (envOfC qual scope s.heap.objs.size f cd) e) (fun _ s''=>CX outer H s E e s'') (fun e' s''=>CX outer H s E e' s'') s'
def oq{sc:Scope}{n:Nat}{x:Str}(h:sc.names.lookup x=some .cell):∃c,(cellsFrom n sc.names []).lookup x=some c:=by
 have q:=PySem.W.cellsFrom_some sc.names n [] (.inl h);exact Option.isSome_iff_exists.mp q
def tY{CX:CXT}{P:Program}{w:World}{K:acX}{mg:Str->Option Value}{base:Heap}{N ps:List Str}{qual:Str}{scope:Scope}{f:Addr}{cd:Value}{A:Around}{outer:List Env}{s s1:Shared}{H:Hp}{E:XK}{us:List Value}{vs:List V}
  (S:aE N ps scope)(hd:A.handled=none)(e0:kz P w K mg base A outer s H)(hl:vs.length=ps.length)(r:Vals vs us)
  (x:InCallC s s.heap.objs.size (bindL (envOfC qual scope s.heap.objs.size f cd).kindOf (ps.zip us) fun _=>none) (cellsFrom (s.heap.objs.size+1) scope.names []) (bindC (envOfC qual scope s.heap.objs.size f cd).kindOf (ps.zip us) fun _=>none) s1) :
  Inv (iJ CX P w K mg base N qual scope f cd A outer s H E) [] (start N vs) H s1:=by
 have hpl:ps.length<=N.length:=by have:=acN List.length S.pre;rw[abK] at this;omega
 obtain⟨h1,tk,rfl,hk⟩:=x.done;have noA:∀b:Addr,b ∉ (iJ CX P w K mg base N qual scope f cd A outer s H E).ex:=fun b z=>absurd (show b∈([]:List Addr) from z) (by simp)
 refine⟨⟨e0.mod,S.kind,rfl,rfl,acH _,fun y z c h1 h2=>?_,fun y hy=>?_,fun y c _ h=>?_,fun _=>hd,Around.frames_deeper e0.frames,.inr ⟨rfl,rfl⟩,fun b z=>absurd z (noA b),e0.bs,e0.bsz,fun b _ _=>noA b,fun b z=>absurd z (noA b),e0.fm,e0.frf⟩,
  rfl,e0.bare,Un.kept hk,⟨_,x.toInCall.ns,fun i y v h1 h2 h3=>?_⟩,fun y c h=>⟨_,x.cell y c h⟩,e0.hok.fresh (acH _),fun y c h=>?_,fun p hp=>absurd (show p∈([]:List (Addr×Obj)) from hp) (by simp),e0.hok.kept hk,?_⟩
 ·exact name_of_addr x.apart (aa4 h1) (aa4 h2)
 ·have hy:scope.names.lookup y=some .cell\/scope.names.lookup y=some .free:=hy;rcases hy with hy|hy
  ·exact oq hy
  ·exact absurd rfl (S.nofree _ (aa4 hy))
 ·exact acz (x.above y c (aa4 h))
 ·have hi:i<vs.length:=by
   unfold start at h2
   by_cases hi:i<vs.length
   ·exact hi
   ·rw[aag (by simpa using hi)] at h2;rw[List.getElem?_replicate] at h2;split at h2 <;> cases h2
  have ha:vs[i]? =some v:=by
   unfold start at h2;rw[aak (by simpa using hi),abt] at h2;cases e:vs[i]? with
   |none=>rw[e] at h2;cases h2
   |some a=>rw[e] at h2;cases h2;rfl
  obtain⟨u,hu,rv⟩:=r.get ha;have hp:ps[i]? =some y:=by
   rw[←S.pre,List.getElem?_take_of_lt (by omega)];exact h1
  have ndP:ps.Nodup:=by rw[←S.pre];exact S.nd.sublist (List.take_sublist _ _)
  refine⟨u,rv,?_⟩;rcases S.par y (aaW hp) with k|k
  ·exact .inl ⟨k,mJ ndP hp hu k⟩
  ·obtain⟨c,e⟩:=oq (n:=s.heap.objs.size+1) k;refine .inr ⟨.inl k,c,e,?_⟩;have q:=x.cell y c e;rw[mK ndP hp hu (by show scope.names.lookup y≠_;rw[k];decide)] at q;exact q
 ·exact e0.hok.fresh (acz (x.above y c (aa4 h)))
 ·unfold start;show _=N.length;rw[abi,ab3,List.length_replicate];omega
def xC{CX:CXT}{P:Program}{w:World}{K:acX}{mg:Str->Option Value}{base:Heap}{k:Nat}{f:Addr}{name qual:Str}{params:Arguments}{body:List Stmt}{scope:Scope}{dV kV doc pm cdv ct oc:Value}{an od:Option Addr}
  {osl:Array (Option Value)}{N ps:List Str}{sp:Sp}(lk:K.lookup f=some ⟨oc,od,.func (PySem.W.fnOf name qual params body scope dV kV doc pm an cdv ct),osl⟩)(hcd:PySem.W.codeIn K cdv qual=true)(S:aE N ps scope)
  (len:∀vs H Q E,sp vs H Q E->vs.length=ps.length)
  (hbody:∀(A:Around) (outer:List Env) (s:Shared) (H:Hp) (vs:List V) (Q:VK) (E:XK),a9 k (A.deeper (envOfC qual scope s.heap.objs.size f cdv))->sp vs H Q E->
   ∃t,PSs (iJ CX P w K mg base N qual scope f cdv A outer s H E) body t/\t {nx:=fun _ H'=>Q .non H',rt:=Q} (start N vs) H) :
  aM P w K mg base CX (k+1) f (PySem.W.fnOf name qual params body scope dV kV doc pm an cdv ct) ps sp:=by
 refine⟨len,fun A outer s H args us vs Q E hr e0 hb r hsp=>?_⟩;have hl:=len _ _ _ _ hsp;have KX:K.In s.heap:=e0.mod.kin.keeps fun b o e=>(e0.bs b o e).1
 have lim:s.heap.NoLimit:=e0.mod.nolimit.keeps fun b o e=>(e0.bs b o e).1
 have hkind:∀y∈ps.zip us,scope.names.lookup y.1=some .local\/(scope.names.lookup y.1=some .cell/\((cellsFrom (s.heap.objs.size+1) scope.names []).lookup y.1).isSome=true):=fun⟨n,v⟩ hy=>by
  rcases S.par n (List.of_mem_zip hy).1 with q|q
  ·exact .inl q
  ·exact .inr ⟨q,PySem.W.cellsFrom_some _ _ _ (.inl q)⟩
 refine codeAny_call_function hr.depth (KX _ _ lk) rfl S.co S.gen rfl (PySem.W.codeRec_of KX hcd) (hb _ _ _ _ ?_);refine wpAny_newFunctionEnv_cells S.kind hkind fun env he s1 x=>?_
 subst he;refine⟨lim.keeps x.toInCall.keep,codeAny_func ?_⟩;obtain⟨t,ht,hq⟩:=hbody A outer s H vs Q E (hr.deeper _) hsp;have I:Inv (iJ CX P w K mg base N qual scope f cdv A outer s H E) [] (start N vs) H s1:=tY S hr.hd e0 hl r x;refine acM (ht [] s1 (start N vs) H _ I hq) (fun fl s' hs=>?_) fun e s' hs=>hs
 have fin:∀{σ':St} {H':Hp} {v:V} {u:Value},Inv (iJ CX P w K mg base N qual scope f cdv A outer s H E) [] σ' H' s'->RelV v u->Q v H'->CE outer P w H s Q u s':=
  fun{σ' H' v u} J rv q=>⟨v,H',J.os,J.bare,J.base,J.hok,rv,q⟩
 cases fl with
 |ret u=>
  obtain⟨v,σ',H',J,rv,q⟩:=hs;exact fin J rv q
 |next=>
  obtain⟨σ',H',J,q⟩:=hs;exact fin (v:=V.non) (u:=Value.none) J rfl q
 |brk=>
  obtain⟨_,_,_,q⟩:=hs;exact False.elim q
 |cont=>
  obtain⟨_,_,_,q⟩:=hs;exact False.elim q
end L2
namespace L2
open PySem PySem.Spec PyProof.Rows
section
variable {X:Cx}{x:Str}{p pos:Pos}{e:Expr}{es:List Expr}{t:TA}{id T:String}{r:List V->Hp->VK->Prop}
def tCB(r:List V->Hp->VK->Prop)(t:TA):TE:=fun σ H Q=>t σ H fun vs H1=>r vs H1 Q
def aB(hc:dB X (.builtin id) r)(hg:Gl X x)(hm:X.mg x=none)(hv:bootBuiltins x=some (.builtin id))(ha:PA X (e::es) t)(hn:x≠"__name__":=by decide)(hdb:(x == ("__debug__":Str))=false:=by decide)
  (he:starEach (e::es) X.env=(false,eval e X.env)::starEach es X.env:=by rfl)(hpl:(backTo pos (starEach es X.env)).any (·.1)=false:=by rfl):PE X (.Call (.Name x p) (e::es) [] pos) (tCB r t):=by
 intro pins s σ H Q I h;refine abh (eX I hg hm hv ?_ hn hdb);exact PyProof.Rows.callWith_builtin1 (thn (ha pos pins s σ H _ I h) fun us s1 ⟨vs,H1,I1,r1,q1⟩=>hc pins s1 σ H1 vs us Q I1 r1 q1) he hpl
def c6(hc:dB X (.type T) r)(hg:Gl X x)(hm:X.mg x=none)(hv:bootBuiltins x=some (.type T))(ha:PA X (e::es) t)(hn:x≠"__name__":=by decide)(hdb:(x == ("__debug__":Str))=false:=by decide)
  (he:starEach (e::es) X.env=(false,eval e X.env)::starEach es X.env:=by rfl)(hpl:(backTo pos (starEach es X.env)).any (·.1)=false:=by rfl):PE X (.Call (.Name x p) (e::es) [] pos) (tCB r t):=by
 intro pins s σ H Q I h;refine abh (eX I hg hm hv ?_ hn hdb);exact aae (thn (ha pos pins s σ H _ I h) fun us s1 ⟨vs,H1,I1,r1,q1⟩=>hc pins s1 σ H1 vs us Q I1 r1 q1) he hpl
end
end L2
namespace HT
open PySem PyProof.Rows
section
open PySem.SeqAt
open PySem.MeetsSeq PySem.MeetsSeq2 PySem.MeetsSeq3
end
section
variable {prog:Program}{w:World}{A:Around}{E:Value->Shared->Prop}{s:Shared}
def sIx(n d:Nat):Option Int->Nat
 |none=>d
 |some v=>if v<0 then (v+(n:Int)).toNat else min v.toNat n
def iK(n d:Nat):sIx n d none=d:=rfl
def gj(n d k:Nat):sIx n d (some (k:Int))=min k n:=by
 show(if (k:Int)<0 then ((k:Int)+(n:Int)).toNat else min (k:Int).toNat n)=min k n;rw[acS (by omega),abu]
end
end HT
namespace L2
open PySem PySem.Spec PyProof.Rows
abbrev TO:=St->Hp->(Option Int->Hp->Prop)->Prop
def PO(X:Cx)(e:Option Expr)(t:TO):Prop:=
 ∀(pins:List (Addr×Obj)) (s:Shared) (σ:St) (H:Hp) (Q:Option Int->Hp->Prop),Inv X pins σ H s->t σ H Q->
  wpAny (model X.prog X.w) X.A (evalPart e X.env) (fun u s'=>∃o H',Inv X pins σ H' s'/\IsPart u o/\Q o H') X.xe s
def x8:TO:=fun _ H Q=>Q none H
def AR(t:TE):TO:=fun σ H Q=>t σ H fun x H1=>∃i,x=.int i/\Q (some i) H1
def intsAre_of{ns:List Int}:∀{us:List Value},Vals (ns.map V.int) us->IntsAre us ns:=by
 induction ns with
 |nil=>intro us r;rw[List.map_nil] at r;cases r;exact .nil
 |cons n ns ih=>
  intro us r;rw[acr] at r;cases r with
  |cons r1 r2=>
   obtain⟨t,e⟩:=r1;subst e;exact .cons n t (ih r2)
section
variable {X:Cx}{e:Expr}{te:TE}{lo hi:Option Expr}{tl th:TO}{pos p2:Pos}
def ig:PO X none x8:=by
 intro pins s σ H Q I h;rw[evalPart_none];exact wpAny_pure ⟨none,H,I,.none,h⟩
def fw(h:PE X e te):PO X (some e) (AR te):=by
 intro pins s σ H Q I hw;rw[evalPart_some];refine thn (h pins s σ H _ I hw) fun u s1 ⟨x,H1,I1,r1,q1⟩=>?_
 obtain⟨i,rfl,q⟩:=q1;obtain⟨t,rfl⟩:=r1;exact⟨some i,H1,I1,.int i t,q⟩
def SlR(X:Cx)(r:V->Option Int->Option Int->Hp->VK->Prop):Prop:=
 ∀(pins:List (Addr×Obj)) (s:Shared) (σ:St) (H:Hp) (x:V) (v vl vu:Value) (lo hi:Option Int) (sl:Addr) (Q:VK),Inv X pins σ H s->RelV x v->s.heap.IsSliceOf sl vl vu .none->IsPart vl lo->IsPart vu hi->r x lo hi H Q->
  ∃T id,typeLookup (.type T) "__getitem__"=pure (some (.builtin id))/\s.TypeIs v T/\wpAny (model X.prog X.w) X.A (getItem v (.ref sl)) (EP X pins σ Q) X.xe s
def tSl(r:V->Option Int->Option Int->Hp->VK->Prop)(te:TE)(tl th:TO):TE:=fun σ H Q=>te σ H fun x H1=>tl σ H1 fun l H2=>th σ H2 fun u H3=>r x l u H3 Q
def fA{r:V->Option Int->Option Int->Hp->VK->Prop}(hr:SlR X r)(he:PE X e te)(hl:PO X lo tl)(hu:PO X hi th):PE X (.Subscript e (.Slice lo hi none p2) pos) (tSl r te tl th):=by
 intro pins s σ H Q I h;refine Subscript_ (thn (he pins s σ H _ I h) fun v s1 ⟨x,H1,I1,r1,q1⟩=>?_);refine wpAny_Slice (thn (hl pins s1 σ H1 _ I1 q1) fun vl s2 ⟨l,H2,I2,pl,q2⟩=>thn (hu pins s2 σ H2 _ I2 q2) fun vu s3 ⟨u,H3,I3,pu,q3⟩=>?_);rw[evalPart_none];refine wpAny_pure ?_;have I4:Inv X pins σ H3 {s3 with heap:=s3.heap.push {cls:=.type "slice",data:=.fields #[vl,vu,.none]}}:=I3.kept (t':=s3.toks) fun b ob q=>aaz _ q
 obtain⟨T,id,hT,ht,hg⟩:=hr pins {s3 with heap:=s3.heap.push {cls:=.type "slice",data:=.fields #[vl,vu,.none]}} σ H3 x v vl vu l u s3.heap.objs.size Q I4 r1 (Heap.IsSliceOf.new ..) pl pu q3;show wpAny (model X.prog X.w) X.A (subscriptTail e (.Slice lo hi none p2) v (.ref s3.heap.objs.size)) (EP X pins σ Q) X.xe {s3 with heap:=s3.heap.push {cls:=.type "slice",data:=.fields #[vl,vu,.none]}};exact tail_any (ops:=[.ref s3.heap.objs.size,v]) ht hT hg (by with_unfolding_all rfl)
def dy(xs:List V)(lo hi:Option Int):List V:=(xs.drop (HT.sIx xs.length 0 lo)).take (HT.sIx xs.length xs.length hi - HT.sIx xs.length 0 lo)
def qo(xs:List V)(lo hi:Option Int):(dy xs lo hi).length<=xs.length:=by
 unfold dy;rw[abK,abL];omega
end
end L2
namespace L2
open PySem PySem.Spec PyProof.Rows
def ixN(n:Nat)(i:Int):Option Nat:=if 0<=i then (if i<n then some i.toNat else none) else if -(n:Int)<=i then some (i+n).toNat else none
def atI{α:Type}(xs:List α)(i:Int):Option α:=(ixN xs.length i).bind fun j=>xs[j]?
def x9{n:Nat}{i:Int}{j:Nat}(h:ixN n i=some j):seqIndex? i n=some j/\j<n/\-(n:Int)<=i/\i<n:=by
 unfold ixN at h
 by_cases h0:0<=i
 ·rw[acR h0] at h
  by_cases h1:i<n
  ·rw[acR h1] at h;have e:i.toNat=j:=abY h;exact⟨by rw[seqIndex_of h0 h1,e],by omega,by omega,h1⟩
  ·rw[acS h1] at h;cases h
 ·rw[acS h0] at h
  by_cases h1:-(n:Int)<=i
  ·rw[acR h1] at h;have e:(i+n).toNat=j:=abY h;exact⟨by rw[seqIndex_neg (by omega) h1,e],by omega,h1,by omega⟩
  ·rw[acS h1] at h;cases h
def l3{α:Type}{xs:List α}{i:Int}{v:α}(h:atI xs i=some v):∃j,seqIndex? i xs.length=some j/\xs[j]? =some v/\j<xs.length/\-(xs.length:Int)<=i/\i<xs.length:=by
 unfold atI at h;cases e:ixN xs.length i with
 |none=>rw[e] at h;cases h
 |some j=>
  rw[e] at h;obtain⟨h1,h2,h3,h4⟩:=x9 e;exact⟨j,h1,h,h2,h3,h4⟩
def au{α:Type}{xs:List α}{j:Nat}{v:α}(h:xs[j]? =some v):atI xs (j:Int)=some v:=by
 have hj:j<xs.length:=(aaj.mp h).1;have e:ixN xs.length (j:Int)=some j:=by
  unfold ixN;rw[acR (by omega),acR (by omega)];simp
 unfold atI;rw[e];exact h
def qD(b:Expr):Prop:=∀o i,subscripted b false o i=operate [o,i] (getItem o i)
def IxR(X:Cx)(r:R2):Prop:=
 ∀(value slice:Expr) (pins:List (Addr×Obj)) (s:Shared) (σ:St) (H:Hp) (x y:V) (v u:Value) (Q:VK),Inv X pins σ H s->RelV x v->RelV y u->r x y H Q->
  subscripted slice false v u=operate [v,u] (getItem v u)->wpAny (model X.prog X.w) X.A (subscriptTail value slice v u) (EP X pins σ Q) X.xe s
def MtR(X:Cx)(id:String)(r:V->List V->Hp->VK->Prop):Prop:=
 ∀(pins:List (Addr×Obj)) (s:Shared) (σ:St) (H:Hp) (x:V) (xs:List V) (v:Value) (us:List Value) (Q:VK),Inv X pins σ H s->RelV x v->Vals xs us->r x xs H Q->
  wpAny (model X.prog X.w) X.A (call (.builtin id) (v::us)) (EP X pins σ Q) X.xe s
section
variable {X:Cx}{a b:Expr}{ta tb:TE}{pos:Pos}
def IxR.or{r r':R2}(h:IxR X r)(h':IxR X r'):IxR X (fun x y H Q=>r x y H Q\/r' x y H Q):=by
 intro value slice pins s σ H x y v u Q I rx ry q hs;rcases q with q|q
 ·exact h value slice pins s σ H x y v u Q I rx ry q hs
 ·exact h' value slice pins s σ H x y v u Q I rx ry q hs
def aG{r:R2}(hr:IxR X r)(ha:PE X a ta)(hb:PE X b tb)(hs:qD b):PE X (.Subscript a b pos) (tOp r ta tb):=by
 intro pins s σ H Q I h;exact Subscript_ (vJ ha hb I h fun v u s2 x y H2 I2 rx ry q=>hr a b pins s2 σ H2 x y v u Q I2 rx ry q (hs _ _))
def fB(K:acX):R2:=fun x y H Q=>∃p xs i v,x=.ref p/\y=.int i/\SqL K H p xs/\atI xs i=some v/\Q v H
def hV(K:acX):R2:=fun x y H Q=>∃p xs i v,x=.ref p/\y=.int i/\SqT K H p xs/\atI xs i=some v/\Q v H
def rU:R2:=fun x y H Q=>∃z i c,x=.str z/\y=.int i/\z.length<=sizeLine/\atI z.cps.toList i=some c/\Q (.str ⟨#[c]⟩) H
def a0:IxR X (fB X.K):=by
 intro value slice pins s σ H x y v u Q I rx ry h hs;obtain⟨p,xs,i,z,rfl,rfl,hq,he,q⟩:=h;cases rx
 obtain⟨t,rfl⟩:=ry;obtain⟨its,r,pl,hz⟩:=I.list hq;obtain⟨j,h1,h2,h3,h4,h5⟩:=l3 he;obtain⟨w,ew,rw'⟩:=r.get h2;have hl:=r.length;have hn:=jc;have fin:EP X pins σ Q w s:=⟨z,H,I,rw',q⟩
 by_cases h0:0<=i
 ·have hj:i.toNat=j:=by
   rw[seqIndex_of h0 h5] at h1;exact abY h1
  exact item_listR pl.isList h0 (by omega) (by rw[hj];simpa using ew) fin hs
 ·have hj:(i+(its.toArray.size:Int)).toNat=j:=by
   rw[seqIndex_neg (by omega) h4] at h1;rw[abr,←hl];exact abY h1
  exact subscriptTail_builtinR (x:=w) pl.isList.typeIs slot_list_getitem.lookup
   (wpAny_getItem_list_neg (Q:=fun r s'=>r=w/\EP X pins σ Q r s') pl.isList (by omega) (by rw[abr] <;> omega) (by omega) (by rw[hj];simpa using ew) ⟨rfl,fin⟩) hs
def aR:IxR X (hV X.K):=by
 intro value slice pins s σ H x y v u Q I rx ry h hs;obtain⟨p,xs,i,z,rfl,rfl,hq,he,q⟩:=h;cases rx
 obtain⟨t,rfl⟩:=ry;obtain⟨its,r,pl,hz⟩:=I.tuple hq;obtain⟨j,h1,h2,h3,h4,h5⟩:=l3 he;obtain⟨w,ew,rw'⟩:=r.get h2;have hl:=r.length;have hn:=jc;have fin:EP X pins σ Q w s:=⟨z,H,I,rw',q⟩;exact subscriptTail_builtinR (x:=w) pl.typeIs slot_tuple_getitem.lookup
  (getItem_tuple (j:=j) (Q:=fun r s'=>r=w/\EP X pins σ Q r s') pl (by omega) (by omega) (by rw[abr,←hl];exact h1) (by simpa using ew) ⟨rfl,fin⟩) hs
def ot:IxR X rU:=by
 intro value slice pins s σ H x y v u Q I rx ry h hs;obtain⟨z,i,c,rfl,rfl,hz,he,q⟩:=h;obtain⟨t,rfl⟩:=rx;obtain⟨t',rfl⟩:=ry;obtain⟨j,h1,h2,h3,h4,h5⟩:=l3 he;have hl:z.cps.toList.length=z.length:=by simp[Str.length]
 rw[hl] at h1 h4 h5;have hn:=jc;exact tail_any (typeIs_str s z t) slot_str_getitem.lookup (getItem_str (c:=c) (by
  have e1:decide (i < -(2 ^ 63:Int))=false:=abX (by omega);have e2:decide (i ≥ 2 ^ 63)=false:=abX (by omega);rw[e1,e2,Bool.or_false]) (by rw[h1];simpa using h2) ⟨.str ⟨#[c]⟩,H,I.tok _,⟨_,rfl⟩,q⟩) hs
def rIx(K:acX):R2:=fun x y H Q=>fB K x y H Q\/hV K x y H Q\/rU x y H Q
def tZ:IxR X (rIx X.K):=a0.or (aR.or ot)
def ou(lo hi:Option Int)(n:Nat):(sliceBounds lo hi none n).1=((HT.sIx n 0 lo:Nat):Int)/\(sliceBounds lo hi none n).2.1=((HT.sIx n n hi:Nat):Int)/\(sliceBounds lo hi none n).2.2=1:=by
 refine⟨?_,?_,rfl⟩
 ·cases lo with
  |none=>simp[sliceBounds,HT.sIx]
  |some i=>
   simp only[sliceBounds,HT.sIx,Option.getD_none,show(1:Int) > 0 by decide,if_true]
   by_cases h:i<0
   ·simp only[h,if_true] <;> omega
   ·simp only[h,acO] <;> omega
 ·cases hi with
  |none=>simp[sliceBounds,HT.sIx]
  |some i=>
   simp only[sliceBounds,HT.sIx,Option.getD_none,show(1:Int) > 0 by decide,if_true]
   by_cases h:i<0
   ·simp only[h,if_true] <;> omega
   ·simp only[h,acO] <;> omega
def nH(its:List Value)(lo hi:Option Int):slicePick its.toArray lo hi none=((its.drop (HT.sIx its.length 0 lo)).take (HT.sIx its.length its.length hi - HT.sIx its.length 0 lo)).toArray:=by
 obtain⟨h1,h2,h3⟩:=ou lo hi its.toArray.size;unfold slicePick;rw[h1,h2,h3];simp only[sliceRange_one,pick_run,abr] <;> rfl
def BA(K:acX):V->Option Int->Option Int->Hp->VK->Prop:=fun x lo hi H Q=>∃a xs,x=.ref a/\SqL K H a xs/\∀p,H p=none->Q (.ref p) (upd H p (.lst (dy xs lo hi)))
def gl:SlR X (BA X.K):=by
 intro pins s σ H x v vl vu lo hi sl Q I rx hs pl pu h;obtain⟨a,xs,rfl,hx,q⟩:=h;cases rx
 obtain⟨its,r,ht,hz⟩:=I.list hx;have hlen:=r.length;refine⟨"list",_,slot_list_getitem.lookup,ht.isList.typeIs,?_⟩;refine wpAny_getItem_list_slice ht.isList hs pl pu .none (by simp) ?_ (by rw[abr] <;> omega);rw[nH,←hlen];refine⟨.ref s.heap.objs.size,_,I.laid (t':=s.toks) (o:=.lst (dy xs lo hi)) (fun b ob q=>aaz _ q) (acH _) ?_,rfl,q _ (I.hok.fresh (acH _))⟩;exact⟨acy (qo xs lo hi) hz,_,0,(r.drop (HT.sIx xs.length 0 lo)).take (HT.sIx xs.length xs.length hi - HT.sIx xs.length 0 lo),aa3 _ rfl⟩
def f8:V->Bool
 |.non=>true
 |.bl _=>true
 |.int _=>true
 |.str _=>true
 |_=>false
def eqV:V->V->Bool
 |.non,.non=>true
 |.bl a,.bl b=>a == b
 |.bl a,.int b=>(if a then 1 else 0) == b
 |.int a,.bl b=>a == (if b then 1 else 0)
 |.int a,.int b=>a == b
 |.str a,.str b=>a == b
 |_,_=>false
def ox{A:Around}{s:Shared}{y x:V}{u v:Value}(ry:RelV y u)(rx:RelV x v)(fy:f8 y=true)(fx:f8 x=true):SeqAt.EqAt A s u v (eqV y x):=by
 cases y with
 |non=>
  cases ry
  cases x with
  |non=>cases rx;exact SeqAt.EqAt.same _
  |bl b=>cases rx;exact SeqAt.EqAt.none_bool b
  |int b=>obtain⟨t,rfl⟩:=rx;exact SeqAt.EqAt.none_int b t
  |str b=>obtain⟨t,rfl⟩:=rx;exact SeqAt.EqAt.none_str b t
  |_=>exact absurd (show false=true from fx) abf
 |bl a=>
  cases ry
  cases x with
  |non=>cases rx;exact SeqAt.EqAt.bool_none a
  |bl b=>cases rx;exact SeqAt.EqAt.bool_bool a b
  |int b=>obtain⟨t,rfl⟩:=rx;exact SeqAt.EqAt.bool_int a b t
  |str b=>obtain⟨t,rfl⟩:=rx;exact SeqAt.EqAt.bool_str a b t
  |_=>exact absurd (show false=true from fx) abf
 |int a=>
  obtain⟨t',rfl⟩:=ry;cases x with
  |non=>cases rx;exact SeqAt.EqAt.int_none a t'
  |bl b=>cases rx;exact SeqAt.EqAt.int_bool a t' b
  |int b=>obtain⟨t,rfl⟩:=rx;exact SeqAt.EqAt.int_int a t' b t
  |str b=>obtain⟨t,rfl⟩:=rx;exact SeqAt.EqAt.int_str a t' b t
  |_=>exact absurd (show false=true from fx) abf
 |str a=>
  obtain⟨t',rfl⟩:=ry;cases x with
  |non=>cases rx;exact SeqAt.EqAt.str_none a t'
  |bl b=>cases rx;exact SeqAt.EqAt.str_bool a t' b
  |int b=>obtain⟨t,rfl⟩:=rx;exact SeqAt.EqAt.str_int a t' b t
  |str b=>obtain⟨t,rfl⟩:=rx;exact SeqAt.EqAt.str_str a t' b t
  |_=>exact absurd (show false=true from fx) abf
 |_=>exact absurd (show false=true from fy) abf
def eqU(x:V)(u:Value):Bool:=match u with
 |.none=>eqV .non x
 |.bool b=>eqV (.bl b) x
 |.int i _=>eqV (.int i) x
 |.str z _=>eqV (.str z) x
 |_=>false
def t6{x y:V}{u:Value}(r:RelV y u)(f:f8 y=true):eqU x u=eqV y x:=by
 cases y with
 |non=>cases r;rfl
 |bl b=>cases r;rfl
 |int i=>obtain⟨t,rfl⟩:=r;rfl
 |str z=>obtain⟨t,rfl⟩:=r;rfl
 |_=>exact absurd (show false=true from f) abf
def ii{x:V}:∀{xs:List V} {us:List Value},Vals xs us->xs.all f8=true->us.any (eqU x)=xs.any fun y=>eqV y x
 |_,_,.nil,_=>rfl
 |y::xs,u::us,.cons r t,f=>by
  rw[List.all_cons,Bool.and_eq_true] at f;rw[acs,acs,t6 r f.1,ii t f.2]
def gu{A:Around}{s:Shared}{x:V}{v:Value}(rx:RelV x v)(fx:f8 x=true):∀{xs:List V} {us:List Value},Vals xs us->xs.all f8=true->∀u∈us,SeqAt.EqAt A s u v (eqU x u)
 |_,_,.nil,_=>fun u hu=>by cases hu
 |y::xs,u::us,.cons r t,f=>fun u' hu=>by
  rw[List.all_cons,Bool.and_eq_true] at f;rcases acq.mp hu with rfl|hu
  ·rw[t6 r f.1];exact ox r rx f.1 fx
  ·exact gu rx fx t f.2 u' hu
def inV(x:V)(xs:List V):Bool:=xs.any fun y=>eqV y x
def rIn(K:acX)(neg:Bool):R2:=fun x y H Q=>∃p xs,y=.ref p/\(SqL K H p xs\/SqT K H p xs)/\f8 x=true/\xs.all f8=true/\Q (.bl (if neg then !inV x xs else inV x xs)) H
def je:OpR X (compareOp .In) (rIn X.K false):=by
 intro pins s σ H x y v u Q I rx ry h;obtain⟨p,xs,rfl,hq,fx,fs,q⟩:=h;cases ry
 rcases hq with hq|hq
 ·obtain⟨its,r,pl,hz⟩:=I.list hq;refine SeqAt.in_listAt (eqU x) pl.isList (fun w hw=>gu rx fx r fs w (by simpa using hw)) ⟨.bl _,H,I,rfl,?_⟩;rw[show its.toArray.any (eqU x)=its.any (eqU x) by simp,ii r fs];exact q
 ·obtain⟨its,r,pl,hz⟩:=I.tuple hq;refine SeqAt.in_tupleAt (eqU x) pl (fun w hw=>gu rx fx r fs w (by simpa using hw)) ⟨.bl _,H,I,rfl,?_⟩;rw[show its.toArray.any (eqU x)=its.any (eqU x) by simp,ii r fs];exact q
def gv:OpR X (compareOp .NotIn) (rIn X.K true):=by
 intro pins s σ H x y v u Q I rx ry h;obtain⟨p,xs,rfl,hq,fx,fs,q⟩:=h;cases ry
 rcases hq with hq|hq
 ·obtain⟨its,r,pl,hz⟩:=I.list hq;refine SeqAt.notIn_listAt (eqU x) pl.isList (fun w hw=>gu rx fx r fs w (by simpa using hw)) ⟨.bl _,H,I,rfl,?_⟩;rw[show its.toArray.any (eqU x)=its.any (eqU x) by simp,ii r fs];exact q
 ·obtain⟨its,r,pl,hz⟩:=I.tuple hq;refine SeqAt.notIn_tupleAt (eqU x) pl (fun w hw=>gu rx fx r fs w (by simpa using hw)) ⟨.bl _,H,I,rfl,?_⟩;rw[show its.toArray.any (eqU x)=its.any (eqU x) by simp,ii r fs];exact q
def aZ:dB X (.builtin "len") (fun xs H Q=>∃p ys,xs=[.ref p]/\(SqL X.K H p ys\/SqT X.K H p ys)/\Q (.int ys.length) H):=by
 intro pins s σ H xs us Q I r h;obtain⟨p,ys,rfl,hq,q⟩:=h;obtain⟨u,rfl,rx⟩:=vals1 r;cases rx
 have hn:=jc;rcases hq with hq|hq
 ·obtain⟨its,r',pl,hz⟩:=I.list hq;have hlen:=r'.length;exact Calls.call_len_list pl.isList (by simp only[abr] <;> omega) ⟨.int ys.length,H,I.tok _,⟨s.toks+1,by rw[abr,hlen]⟩,q⟩
 ·obtain⟨its,r',pl,hz⟩:=I.tuple hq;have hlen:=r'.length;exact len_tuple pl (by simp only[abr] <;> omega) ⟨.int ys.length,H,I.tok _,⟨s.toks+1,by rw[abr,hlen]⟩,q⟩
def oz:dB X (.type "list") (fun xs H Q=>∃p ys,xs=[.ref p]/\(SqL X.K H p ys\/SqT X.K H p ys)/\∀l,H l=none->Q (.ref l) (upd H l (.lst ys))):=by
 intro pins s σ H xs us Q I r h;obtain⟨p,ys,rfl,hq,q⟩:=h;obtain⟨u,rfl,rx⟩:=vals1 r;cases rx
 have fin:∀(its:List Value),Vals ys its->ys.length<=sizeLine->∀(h':Heap) (c':Nat),(∀b o',s.heap.get? b=some o'->h'.get? b=some o')->
   h'.get? s.heap.objs.size=some {cls:=.type "list",dict:=none,data:=.seq its.toArray c',slots:=#[]}->EP X pins σ Q (.ref s.heap.objs.size) {s with heap:=h'}:=fun its r' hz h' c' kp e=>
  ⟨.ref s.heap.objs.size,_,I.laid (t':=s.toks) kp (acH _) (show aX X.prog X.w _ h' _ (.lst ys) from ⟨hz,its,c',r',e⟩),rfl,q _ (I.hok.fresh (acH _))⟩
 rcases hq with hq|hq
 ·obtain⟨its,r',pl,hz⟩:=I.list hq;have hlen:=r'.length;obtain⟨o,ho,hc,n,hd⟩:=pl.isList;exact call_list_seq p (.inl rfl) ho hc hd (fun h' c' kp e=>fin its r' hz h' c' kp e) (by simp only[abr] <;> omega)
 ·obtain⟨its,r',pl,hz⟩:=I.tuple hq;have hlen:=r'.length;obtain⟨o,ho,hc,n,hd⟩:=pl;exact call_list_seq p (.inr rfl) ho hc hd (fun h' c' kp e=>fin its r' hz h' c' kp e) (by simp only[abr] <;> omega)
def tyV(K:acX)(T:String)(x:V)(H:Hp):Prop:=match x with
 |.str _=>T="str"
 |.int _=>T="int"
 |.ref p=>(T="list"/\∃xs,SqL K H p xs)\/(T="tuple"/\∃o,K.lookup p=some o/\o.cls=.type "tuple"/\o.dict=none)\/
   (T="dict"/\((∃kvs,H p=some (.dK kvs))\/∃kvs,H p=some (.dT kvs)))\/(T="set"/\∃S n,H p=some (.set S n))
 |_=>False
def t7{pins:List (Addr×Obj)}{σ:St}{H:Hp}{s:Shared}{T:String}{x:V}{v:Value}(I:Inv X pins σ H s)(r:RelV x v)(ty:tyV X.K T x H) :
  s.TypeIs v T/\∀a,v=.ref a->∃ob,s.heap.get? a=some ob/\ob.dict=none:=by
 cases x with
 |str z=>
  obtain⟨t,rfl⟩:=r;cases (show T="str" from ty)
  exact⟨typeIs_str s z t,fun _ e=>nomatch e⟩
 |int i=>
  obtain⟨t,rfl⟩:=r;cases (show T="int" from ty)
  exact⟨typeIs_int s i t,fun _ e=>nomatch e⟩
 |ref p=>
  cases r
  rcases ty with ⟨rfl,xs,hq⟩|⟨rfl,o,hk,hc,hd⟩|⟨rfl,hk⟩|⟨rfl,S,n,hk⟩
  ·obtain⟨its,_,pl,_⟩:=I.list hq;refine⟨pl.isList.typeIs,fun a e=>?_⟩;cases e
   obtain⟨o,n,e,c,hd,_⟩:=pl;exact⟨o,e,hd⟩
  ·refine⟨⟨o,I.kIn p o hk,hc⟩,fun a e=>?_⟩;cases e
   exact⟨o,I.kIn _ o hk,hd⟩
  ·have z:∃o,s.heap.get? p=some o/\o.ExactDict:=by
    rcases hk with ⟨kvs,hk⟩|⟨kvs,hk⟩
    ·obtain⟨_,_,_,_,o,_,_,e,ex,_⟩:=I.hok p _ hk;exact⟨o,e,ex⟩
    ·obtain⟨_,_,_,_,o,_,_,e,ex,_⟩:=I.hok p _ hk;exact⟨o,e,ex⟩
   obtain⟨o,e,ex⟩:=z;refine⟨⟨o,e,ex.1⟩,fun a e2=>?_⟩;cases e2
   exact⟨o,e,ex.2.1⟩
  ·obtain⟨o,_,_,_,e,ex,_⟩:=I.hok p _ hk;refine⟨⟨o,e,ex.1⟩,fun a e2=>?_⟩;cases e2
   exact⟨o,e,ex.2.1⟩
 |_=>exact False.elim ty
def BB(K:acX)(T:String)(r:V->List V->Hp->VK->Prop)(to:TE):TE:=fun σ H Q=>to σ H fun x H1=>tyV K T x H1/\r x [] H1 Q
def tBM(K:acX)(T:String)(r:V->List V->Hp->VK->Prop)(to:TE)(t:TA):TE:=fun σ H Q=>to σ H fun x H1=>tyV K T x H1/\t σ H1 fun xs H2=>r x xs H2 Q
variable {o e:Expr}{es:List Expr}{to:TE}{t:TA}{name:Str}{apos cpos:Pos}{T id:String}{r:V->List V->Hp->VK->Prop}
def jf(pa:PlainAttrs T)(slot:Slot T name id)(hty:typeOf (.builtin id)=pure (.type "method_descriptor"))(hm:MtR X id r)(ho:PE X o to)
  (hbase:attributeBase o name X.env (eval o X.env)=eval o X.env:=by rfl)(hline:(apos.endLine == cpos.line)=true:=by rfl):PE X (.Call (.Attribute o name apos) [] [] cpos) (BB X.K T r to):=by
 intro pins s σ H Q I h;refine wpAny_Call_method0_late hbase hline (thn (ho pins s σ H _ I h) fun v s1 ⟨x,H1,I1,r1,ty,q1⟩=>?_);obtain⟨h1,h2⟩:=t7 I1 r1 ty;exact⟨T,id,pa,slot,hty,h1,h2,aaA rfl (PySem.evalArgs_none (hm pins s1 σ H1 x [] v [] Q I1 r1 .nil q1))⟩
def bW(pa:PlainAttrs T)(slot:Slot T name id)(hty:typeOf (.builtin id)=pure (.type "method_descriptor"))(hm:MtR X id r)(ho:PE X o to)(ha:PA X (e::es) t)
  (hbase:attributeBase o name X.env (eval o X.env)=eval o X.env:=by rfl)
  (hfew:((backTo cpos (starEach (e::es) X.env)).all (fun x=>!x.1) && (backToKw cpos (keywordEach [] X.env)).all (fun x=>x.1.isSome)
   && decide ((e::es).length+([]:List Keyword).length+(if ([]:List Keyword).isEmpty then 0 else 1)<30))=true:=by rfl)
  (hline:(apos.endLine == cpos.line)=true:=by rfl)(hs:starEach (e::es) X.env=(false,eval e X.env)::starEach es X.env:=by rfl)(hplain:(backTo cpos (starEach es X.env)).any (·.1)=false:=by rfl) :
  PE X (.Call (.Attribute o name apos) (e::es) [] cpos) (tBM X.K T r to t):=by
 intro pins s σ H Q I h;refine wpAny_Call_method_late hbase hfew hline rfl (thn (ho pins s σ H _ I h) fun v s1 ⟨x,H1,I1,r1,ty,q1⟩=>?_);obtain⟨h1,h2⟩:=t7 I1 r1 ty;refine⟨T,id,pa,slot,hty,h1,h2,?_⟩;have hA:=ha cpos pins s1 σ H1 _ I1 q1;rw[hs] at hA ⊢;refine aaA (by show(false || (backTo cpos (starEach es X.env)).any (·.1))=false;rw[hplain] <;> rfl) (Calls.evalArgs_plain ?_);exact thn hA fun us s2 ⟨vs,H2,I2,r2,q2⟩=>hm pins s2 σ H2 x vs v us Q I2 r1 r2 q2
end
end L2
namespace L2
open PySem PySem.Spec PyProof.Rows
def MtM(X:Cx)(id:String)(r:V->List V->Hp->VK->Prop):Prop:=
 ∀(pins:List (Addr×Obj)) (s:Shared) (σ:St) (H:Hp) (x:V) (xs:List V) (v:Value) (us:List Value) (Q:VK),Inv X pins σ H s->RelV x v->Vals xs us->r x xs H Q->
  wpAny (model X.prog X.w) X.A (call (.builtin id) (v::us)) (EP X pins σ Q) X.xe s
def Vals.one:∀{x:V} {us:List Value},Vals [x] us->∃u,us=[u]/\RelV x u
 |_,_,.cons r .nil=>⟨_,rfl,r⟩
def Vals.two:∀{x y:V} {us:List Value},Vals [x,y] us->∃u v,us=[u,v]/\RelV x u/\RelV y v
 |_,_,_,.cons r (.cons q .nil)=>⟨_,_,rfl,r,q⟩
def Vals.zero:∀{us:List Value},Vals [] us->us=[]
 |_,.nil=>rfl
def Vals.dropLast{xs:List V}{us:List Value}(h:Vals xs us):Vals xs.dropLast us.dropLast:=by
 induction h with
 |nil=>exact .nil
 |cons r t ih=>
  cases t with
  |nil=>exact .nil
  |cons q t'=>exact .cons r ih
def Vals.rep{xs:List V}{us:List Value}(h:Vals xs us):∀k:Nat,Vals (List.replicate k xs).flatten (List.replicate k us).flatten
 |0=>.nil
 |k+1=>by
  rw[aa5,aa5,abv,abv];exact Vals.append h (Vals.rep h k)
def rV{α:Type}(l:List α):l.eraseIdx (l.length - 1)=l.dropLast:=by
 induction l with
 |nil=>rfl
 |cons a r ih=>
  cases r with
  |nil=>rfl
  |cons b r=>
   have e:(a::b::r).length - 1=((b::r).length - 1)+1:=by
    have h1:(a::b::r).length=r.length+2:=rfl;have h2:(b::r).length=r.length+1:=rfl;omega
   rw[e,List.eraseIdx_cons_succ,ih]
   all_goals rfl
def foldl_rep(its:List Value):∀(k:Nat) (acc:List Value),
  List.foldl (fun x1 x2=>x1++x2) acc.toArray (List.replicate k its.toArray)=(acc++(List.replicate k its).flatten).toArray
 |0,acc=>by simp
 |k+1,acc=>by
  have e:acc.toArray++its.toArray=(acc++its).toArray:=by simp
  have e2:(acc++its)++(List.replicate k its).flatten=acc++(List.replicate (k+1) its).flatten:=by
   rw[aa5,abv,abw]
  rw[←e2,←foldl_rep its k (acc++its),←e,aa5,List.foldl_cons]
section
variable {X:Cx}{pins:List (Addr×Obj)}{σ:St}{H:Hp}{s:Shared}{l b:Addr}{xs ys zs:List V}
def Inv.vR{its its':List Value}{n:Nat}{f:Array Value->Array Value}{t':Nat}(I:Inv X pins σ H s)(hH:H l=some (.lst xs))
  (e:s.heap.get? l=some {cls:=.type "list",data:=.seq its.toArray n})(hf:f its.toArray=its'.toArray)(hv:Vals ys its')(hz:ys.length<=sizeLine) :
  Inv X pins σ (upd H l (.lst ys)) {s with heap:=s.heap.update l (Obj.mapSeq f),toks:=t'}:=by
 have q:=PySem.IsL.update e f;rw[hf] at q;refine I.write (x:=l) (e:=l) (by rw[hH];exact trivial) (.inl rfl) (fun b' u hb hu=>(aaB s.heap (Obj.mapSeq f) (acQ hb)).trans hu) ⟨_,q⟩ ?_;exact⟨hz,its',_,hv,q⟩
def Inv.vS{its:List Value}{t':Nat}(I:Inv X pins σ H s)(hv:Vals ys its)(hz:ys.length<=sizeLine) :
  Inv X pins σ (upd H s.heap.objs.size (.lst ys)) {s with heap:=s.heap.push {cls:=.type "list",data:=.seq its.toArray},toks:=t'}:=
 I.laid (fun _ _ q=>aaz _ q) (acH _) ⟨hz,its,0,hv,aa3 _ rfl⟩
def Inv.fresh(I:Inv X pins σ H s):H s.heap.objs.size=none:=I.hok.fresh (acH _)
def Inv.kA(I:Inv X pins σ H s)(hH:H l=some (.lst xs)):xs.length<=sizeLine/\∃(its:List Value) (n:Nat),Vals xs its/\xs.length=its.length/\s.heap.get? l=some {cls:=.type "list",data:=.seq its.toArray n}:=by
 obtain⟨z,its,n,r,e⟩:=I.hok l _ hH;exact⟨z,its,n,r,r.length,e⟩
def oA{n:Nat}(h:n<=sizeLine):Builtin.List.listTooLong n=false:=by
 unfold Builtin.List.listTooLong;exact abX (by omega)
end
section
variable {X:Cx}
def ya:V->List V->Hp->VK->Prop:=fun x vs H Q=>∃l xs y,x=.ref l/\vs=[y]/\H l=some (.lst xs)/\xs.length<sizeLine/\Q .non (upd H l (.lst (xs++[y])))
def aY:MtM X "list.append" ya:=by
 intro pins s σ H x vs v us Q I rx rv h;obtain⟨l,xs,y,rfl,rfl,hH,hz,q⟩:=h;cases rx
 obtain⟨u,rfl,ru⟩:=rv.one;obtain⟨z,its,n,r,hl,e⟩:=I.kA hH;refine call_meets F.slot_list_append ⟨_,e,rfl⟩ F.entry_list_append (F.args_list_append_2 _ _) (PySem.list_append l its.toArray n u (by rw[abr];omega)) ⟨e,?_⟩;refine⟨.non,_,I.vR (its':=its++[u]) hH e (by simp) (r.append (.cons ru .nil)) ?_,rfl,q⟩;rw[abi,aaH];omega
def yb:V->List V->Hp->VK->Prop:=fun x vs H Q=>∃l b xs zs,x=.ref l/\vs=[.ref b]/\H l=some (.lst xs)/\H b=some (.lst zs)/\xs.length+zs.length<=sizeLine/\Q .non (upd H l (.lst (xs++zs)))
def dE:MtM X "list.extend" yb:=by
 intro pins s σ H x vs v us Q I rx rv h;obtain⟨l,b,xs,zs,rfl,rfl,hH,hB,hz,q⟩:=h;cases rx
 obtain⟨u,rfl,ru⟩:=rv.one;cases ru
 obtain⟨z,its,n,r,hl,e⟩:=I.kA hH;obtain⟨z2,its2,n2,r2,hl2,e2⟩:=I.kA hB;have hsz:its.toArray.size+its2.toArray.size<=sizeLine:=by rw[abr,abr];omega
 have hlong:¬(!its.toArray.isEmpty && Builtin.List.listTooLong (its.toArray.size+its2.toArray.size))=true:=by
  rw[oA hsz,Bool.and_false];exact abf
 refine call_meets F.slot_list_extend ⟨_,e,rfl⟩ F.entry_list_extend (F.args_list_extend_2 _ _)
  (AutoSeq1.list_extend_list_list_0 l its.toArray n b its2.toArray n2 hlong (by rw[abr];omega) (by omega)) ⟨e,e2,?_⟩
 refine⟨.non,_,I.vR (its':=its++its2) hH e (by simp) (r.append r2) ?_,rfl,q⟩;rw[abi];omega
def BC:V->List V->Hp->VK->Prop:=fun x vs H Q=>∃l xs y,x=.ref l/\vs=[]/\H l=some (.lst xs)/\xs[xs.length - 1]? =some y/\Q y (upd H l (.lst xs.dropLast))
def jg:MtM X "list.pop" BC:=by
 intro pins s σ H x vs v us Q I rx rv h;obtain⟨l,xs,y,rfl,rfl,hH,hy,q⟩:=h;cases rx
 have hus:=rv.zero;subst hus;obtain⟨z,its,n,r,hl,e⟩:=I.kA hH;obtain⟨u,hu,ru⟩:=r.get hy;have hy':its.toArray[its.toArray.size - 1]? =some u:=by
  show its.toArray[its.length - 1]? =some u;rw[←aaI,←hl];exact hu
 refine call_meets F.slot_list_pop ⟨_,e,rfl⟩ F.entry_list_pop (F.args_list_pop_1 _) (MeetsSeq.list_pop_last l its.toArray n u hy' (by rw[abr];omega)) ⟨e,?_⟩;refine⟨y,_,I.vR (its':=its.dropLast) hH e ?_ r.dropLast ?_,ru,q⟩
 ·show its.toArray.eraseIdxIfInBounds (its.toArray.size - 1)=its.dropLast.toArray;rw[abr,List.eraseIdxIfInBounds_toArray,rV]
 ·rw[List.length_dropLast];omega
def BD:R2:=fun x y H Q=>∃l b xs zs,x=.ref l/\y=.ref b/\H l=some (.lst xs)/\H b=some (.lst zs)/\xs.length+zs.length<=sizeLine/\∀p,H p=none->Q (.ref p) (upd H p (.lst (xs++zs)))
def ij:OpR X (binaryOp .Add) BD:=by
 intro pins s σ H x y v u Q I rx ry h;obtain⟨l,b,xs,zs,rfl,rfl,hH,hB,hz,q⟩:=h;cases rx
 cases ry
 obtain⟨z,its,n,r,hl,e⟩:=I.kA hH;obtain⟨z2,its2,n2,r2,hl2,e2⟩:=I.kA hB;refine PySem.P.add_list e e2 ?_ (by rw[abr,abr];omega);have ea:its.toArray++its2.toArray=(its++its2).toArray:=by simp
 rw[ea];exact⟨.ref _,_,I.vS (t':=s.toks) (r.append r2) (by rw[abi];omega),rfl,q _ I.fresh⟩
def BE:R2:=fun x y H Q=>∃l k xs,x=.ref l/\y=.int k/\H l=some (.lst xs)/\-(2 ^ 63)<=k/\k<2 ^ 63/\xs.length*k.toNat<=sizeLine/\
 ∀p,H p=none->Q (.ref p) (upd H p (.lst (List.replicate k.toNat xs).flatten))
def len_rep{α:Type}(xs:List α)(k:Nat):(List.replicate k xs).flatten.length=k*xs.length:=by
 induction k with
 |zero=>simp
 |succ k ih=>rw[aa5,abv,abi,ih,Nat.succ_mul,Nat.add_comm]
def zu:OpR X (binaryOp .Mult) BE:=by
 intro pins s σ H x y v u Q I rx ry h;obtain⟨l,k,xs,rfl,rfl,hH,h1,h2,hz,q⟩:=h;cases rx
 obtain⟨t,rfl⟩:=ry;obtain⟨z,its,n,r,hl,e⟩:=I.kA hH;have hlen:its.toArray.size*k.toNat<=sizeLine:=by rw[abr,←hl];exact hz
 have hcap:¬its.toArray.size*k.toNat > (2 ^ 63 - 1) / 8:=by
  have:(sizeLine:Nat)<=(2 ^ 63 - 1) / 8:=by decide
  omega
 have hfit:¬(!Builtin.List.listFitsIndex k)=true:=by
  rw[fitsIndex_both h1 h2];exact abf
 have hlong:¬Builtin.List.listTooLong (its.toArray.size*k.toNat)=true:=by
  rw[oA hlen];exact abf
 have hnew:List.foldl (fun x1 x2=>x1++x2) #[] (List.replicate (if its.toArray.isEmpty=true then 0 else k.toNat) its.toArray)=(List.replicate k.toNat its).flatten.toArray:=by
  have f0:∀m:Nat,List.foldl (fun x1 x2=>x1++x2) #[] (List.replicate m its.toArray)=(List.replicate m its).flatten.toArray:=fun m=>by
   have:=foldl_rep its m [];rw[List.nil_append] at this;exact this
  rw[f0];cases its with
  |nil=>simp
  |cons a r'=>rw[acS (by simp)]
 refine wpAny_binaryOp_repeat_ref (T:="list") (U:="int") (by decide) ⟨_,e,rfl⟩ (fun s'=>typeIs_int s' k t) noFill_list_mul F.fills_int_mul F.slot_int_rmul repeat_list F.slot_int_index.lookup
  (call_meets F.slot_int_rmul (typeIs_int s k t) F.entry_int_rmul (F.args_int_rmul_2 _ _) (int___rmul___int_list k t l its.toArray n)
   ⟨e,rfl,⟨_,e,rfl⟩,call_meets F.slot_list_mul ⟨_,e,rfl⟩ F.entry_list_mul (F.args_list_mul_2 _ _) (AutoListH.list___mul___list_int_3 l its.toArray n k t hfit hcap hlong) ⟨e,?_⟩⟩)
 rw[hnew];exact⟨.ref _,_,I.vS (t':=s.toks) (r.rep k.toNat) (by rw[len_rep,Nat.mul_comm];exact hz),rfl,q _ I.fresh⟩
end
section
variable {prog:Program}{w:World}{A:Around}{E:Value->Shared->Prop}{s:Shared}
end
section
variable {X:Cx}
end
end L2
namespace L2
open PySem PySem.Spec PyProof.Rows
section
variable {κ:Type}[DecidableEq κ]
def aD(kvs:List (κ×V))(k:κ):Option V:=(kvs.find? fun kv=>decide (kv.1=k)).map (·.2)
def putK(kvs:List (κ×V))(k:κ)(v:V):List (κ×V):=
 if (kvs.any fun kv=>decide (kv.1=k))=true then kvs.map (fun kv=>if kv.1=k then (kv.1,v) else kv) else kvs++[(k,v)]
def bB{p:κ×V}{r:List (κ×V)}{k:κ}(e:p.1=k):aD (p::r) k=some p.2:=by simp[aD,ab7,e]
def bi{p:κ×V}{r:List (κ×V)}{k:κ}(e:¬p.1=k):aD (p::r) k=aD r k:=by simp[aD,ab7,e]
def eK(k:κ):∀kvs:List (κ×V),(kvs.any fun kv=>decide (kv.1=k))=(aD kvs k).isSome
 |[]=>rfl
 |p::r=>by
  rw[acs]
  by_cases e:p.1=k
  ·simp only[bB e,aci e,Bool.true_or,Option.isSome_some]
  ·rw[bi e,abX e,Bool.false_or];exact eK k r
def oB(k j:κ)(y:V):∀kvs:List (κ×V),aD (kvs.map fun kv=>if kv.1=k then (kv.1,y) else kv) j=(aD kvs j).map fun x=>if j=k then y else x
 |[]=>rfl
 |p::r=>by
  have ih:=oB k j y r;rw[acr]
  by_cases h:p.1=k
  ·rw[acR h]
   by_cases e:p.1=j
   ·rw[bB (p:=(p.1,y)) e,bB e,Option.map_some,acR (e.symm.trans h)]
   ·rw[bi (p:=(p.1,y)) e,bi e,ih]
  ·rw[acS h]
   by_cases e:p.1=j
   ·rw[bB (p:=p) e,bB e,Option.map_some,acS (fun z=>h (e.trans z))]
   ·rw[bi (p:=p) e,bi e,ih]
def mL(k j:κ)(y:V):∀kvs:List (κ×V),aD kvs k=none->aD (kvs++[(k,y)]) j=if j=k then some y else aD kvs j
 |[],_=>by
  by_cases e:k=j
  ·rw[acR e.symm];exact bB (p:=(k,y)) e
  ·rw[acS (fun z=>e z.symm)];exact bi (p:=(k,y)) e
 |p::r,hn=>by
  rw[List.cons_append];have hk:¬p.1=k:=fun z=>by rw[bB z] at hn;cases hn
  rw[bi hk] at hn;have ih:=mL k j y r hn
  by_cases e:p.1=j
  ·rw[bB e,bB e,acS (fun z=>hk (e.trans z))]
  ·rw[bi e,bi e,ih]
def eM(kvs:List (κ×V))(k j:κ)(y:V):aD (putK kvs k y) j=if j=k then some y else aD kvs j:=by
 unfold putK
 by_cases a:(kvs.any fun kv=>decide (kv.1=k))=true
 ·rw[acR a,oB];rw[eK] at a
  by_cases e:j=k
  ·obtain⟨x,hx⟩:=Option.isSome_iff_exists.mp a;rw[acR e,e,hx,Option.map_some,acR rfl]
  ·rw[acS e];cases aD kvs j with
   |none=>rfl
   |some x=>rw[Option.map_some,acS e]
 ·rw[acS a];refine mL k j y kvs ?_;rw[eK] at a;cases q:aD kvs k with
  |none=>rfl
  |some x=>rw[q] at a;exact(a rfl).elim
def dq(kvs:List (κ×V))(k:κ)(v:V):(putK kvs k v).length<=kvs.length+1:=by
 unfold putK;split
 ·rw[ab3];omega
 ·rw[abi,abI,ab8];omega
def gw{kvs:List (κ×V)}{k:κ}(v:V)(h:aD kvs k=none):putK kvs k v=kvs++[(k,v)]:=by
 unfold putK;rw[eK,h];exact acS (by decide)
def dw.fR{o:Option V}{u:Option Value}(r:dw o u):o.isSome=u.isSome:=by
 cases o with
 |none=>cases u with
  |none=>rfl
  |some _=>exact(show False from r).elim
 |some _=>cases u with
  |none=>exact(show False from r).elim
  |some _=>rfl
def dw.getD{o:Option V}{u:Option Value}{d:V}{d':Value}(r:dw o u)(rd:RelV d d'):RelV (o.getD d) (u.getD d'):=by
 cases o with
 |none=>cases u with
  |none=>exact rd
  |some _=>exact(show False from r).elim
 |some _=>cases u with
  |none=>exact(show False from r).elim
  |some _=>exact r
def KV.val{kvs:List (κ×V)}{vs:List (κ×Value)}(r:KV kvs vs)(k:κ):dw (aD kvs k) (valueAt vs k):=by
 unfold KV at r
 induction r with
 |nil=>exact True.intro
 |@cons p q ps qs h t ih=>
  obtain⟨h1,h2⟩:=h
  by_cases e:p.1=k
  ·have e':q.1=k:=h1.symm.trans e;have b:valueAt (q::qs) k=some q.2:=by simp[valueAt,ab7,e']
   rw[bB e,b];exact h2
  ·have e':¬q.1=k:=fun z=>e (h1.trans z)
   have b:valueAt (q::qs) k=valueAt qs k:=by simp[valueAt,ab7,e']
   rw[bi e,b];exact ih
def KV.any{kvs:List (κ×V)}{vs:List (κ×Value)}(r:KV kvs vs)(k:κ):(kvs.any fun kv=>decide (kv.1=k))=vs.any fun kv=>decide (kv.1=k):=by
 unfold KV at r
 induction r with
 |nil=>rfl
 |cons h t ih=>rw[acs,acs,ih,h.1]
def KV.vT{kvs:List (κ×V)}{vs:List (κ×Value)}(r:KV kvs vs)(k:κ){y:V}{u:Value}(ry:RelV y u) :
  KV (kvs.map fun kv=>if kv.1=k then (kv.1,y) else kv) (vs.map fun kv=>if kv.1=k then (kv.1,u) else kv):=by
 unfold KV at r ⊢
 induction r with
 |nil=>exact .nil
 |@cons p q ps qs h t ih=>
  rw[acr,acr];refine .cons ?_ ih;obtain⟨h1,h2⟩:=h
  by_cases e:p.1=k
  ·rw[acR e,acR (h1.symm.trans e)];exact⟨h1,ry⟩
  ·rw[acS e,acS (fun z=>e (h1.trans z))];exact⟨h1,h2⟩
def KV.put{kvs:List (κ×V)}{vs:List (κ×Value)}(r:KV kvs vs)(k:κ){y:V}{u:Value}(ry:RelV y u):KV (putK kvs k y) (stored vs k u):=by
 unfold putK stored;rw[r.any k]
 by_cases e:(vs.any fun kv=>decide (kv.1=k))=true
 ·rw[acR e,acR e];exact r.vT k ry
 ·rw[acS e,acS e];exact Paired.snoc r ⟨rfl,ry⟩
def KV.keys{kvs:List (κ×V)}{vs:List (κ×Value)}(r:KV kvs vs):kvs.map (·.1)=vs.map (·.1):=by
 unfold KV at r
 induction r with
 |nil=>rfl
 |cons h t ih=>rw[acr,acr,ih,h.1]
def KV.length{kvs:List (κ×V)}{vs:List (κ×Value)}(r:KV kvs vs):kvs.length=vs.length:=aco r
end
def iL{P:Program}{w:World}{k:Key}{u:Value}(r:RelV (kV k) u):(bz P w).is k u=true:=by
 cases k with
 |inl i=>obtain⟨t,e⟩:=(show ∃t,u=Value.int i t from r);subst e;exact qk P w i t
 |inr x=>obtain⟨t,e⟩:=(show ∃t,u=Value.str x t from r);subst e;exact qm P w x t
def mM{P:Program}{w:World}:∀{ks:List Key} {us:List Value},Vals (ks.map kV) us->ItemsAre (bz P w) ks us
 |[],_,r=>by rw[List.map_nil] at r;cases r;exact .nil
 |k::ks,_,r=>by
  rw[acr] at r;cases r with
  |cons h t=>exact .cons (iL h) (mM t)
abbrev KT(H:Hp):List (List Key×V)->List (List Key×Addr×Value)->Prop:=Paired fun p q=>p.1=q.1/\H q.2.1=some (.tup (p.1.map kV))/\RelV p.2 q.2.2
def KT.val{H:Hp}{kvs:List (List Key×V)}{xs:List (List Key×Addr×Value)}(r:KT H kvs xs)(k:List Key):dw (aD kvs k) ((atKey xs k).map (·.2)):=by
 induction r with
 |nil=>exact True.intro
 |@cons p q ps qs h t ih=>
  obtain⟨h1,_,h2⟩:=h
  by_cases e:p.1=k
  ·have e':q.1=k:=h1.symm.trans e;have b:atKey (q::qs) k=some q.2:=by simp[atKey,ab7,e']
   rw[bB e,b];exact h2
  ·have e':¬q.1=k:=fun z=>e (h1.trans z)
   have b:atKey (q::qs) k=atKey qs k:=by simp[atKey,ab7,e']
   rw[bi e,b];exact ih
def KT.vT{H:Hp}{kvs:List (List Key×V)}{xs:List (List Key×Addr×Value)}(r:KT H kvs xs)(k:List Key){y:V}{u:Value}(ry:RelV y u) :
  KT H (kvs.map fun kv=>if kv.1=k then (kv.1,y) else kv) (xs.map (putAt k u)):=by
 induction r with
 |nil=>exact .nil
 |@cons p q ps qs h t ih=>
  rw[acr,acr];refine .cons ?_ ih;obtain⟨h1,h2,h3⟩:=h;unfold putAt
  by_cases e:p.1=k
  ·rw[acR e,acR (h1.symm.trans e)];exact⟨h1,h2,ry⟩
  ·rw[acS e,acS (fun z=>e (h1.trans z))];exact⟨h1,h2,h3⟩
def KT.put{H:Hp}{kvs:List (List Key×V)}{xs:List (List Key×Addr×Value)}(r:KT H kvs xs)(k:List Key){b:Addr}{y:V}{u:Value}(hb:H b=some (.tup (k.map kV)))(ry:RelV y u) :
  KT H (putK kvs k y) (storedH xs k b u):=by
 have e:(kvs.any fun kv=>decide (kv.1=k))=(atKey xs k).isSome:=by
  rw[eK,(r.val k).fR,Option.isSome_map]
 unfold putK storedH;rw[e]
 by_cases q:(atKey xs k).isSome=true
 ·rw[acR q,acR q];exact r.vT k ry
 ·rw[acS q,acS q];exact Paired.snoc r ⟨rfl,hb,ry⟩
def KT.keeps{H H':Hp}{kvs:List (List Key×V)}{xs:List (List Key×Addr×Value)}(r:KT H kvs xs)(ht:∀b ys,H b=some (.tup ys)->H' b=some (.tup ys)):KT H' kvs xs:=
 Paired.bp r fun _ _ z=>⟨z.1,ht _ _ z.2.1,z.2.2⟩
section
variable {P:Program}{w:World}{H:Hp}{h:Heap}{a:Addr}
def xD{u:HO}(ok:HOk P w H h)(e:Rd H a u):aX P w H h a u:=e.ok ok
def iM{kvs:List (Key×V)}(ok:HOk P w H h)(e:Rd H a (.dK kvs)):kvs.length<=sizeLine/\(a == sysModules)=false/\∃vs,KV kvs vs/\h.DictOf (bz P w) a vs:=
 show aX P w H h a (.dK kvs) from xD ok e
def nW{kvs:List (Key×V)}(ok:HOk P w H h)(e:H a=some (.dK kvs)):kvs.length<=sizeLine/\(a == sysModules)=false/\∃vs,KV kvs vs/\h.DictOf (bz P w) a vs:=iM ok (.inl e)
def gy{ks:List Key}(ok:HOk P w H h)(e:H a=some (.tup (ks.map kV))):(tupleKind (bz P w)).is h ks a:=by
 obtain⟨_,its,r,o,h1,h2,n,h3⟩:=(show aX P w H h a (.tup (ks.map kV)) from ok a _ e);exact⟨o,its.toArray,n,h1,h2,h3,by simpa using mM r⟩
def gN{kvs:List (List Key×V)}(ok:HOk P w H h)(e:Rd H a (.dT kvs)):kvs.length<=sizeLine/\(a == sysModules)=false/\
  ∃xs,KT H kvs xs/\h.DictOfH (tupleKind (bz P w)) a xs:=by
 obtain⟨z,y,xs,r,o,es,ep,h1,h2,h3,h4,h5⟩:=(show aX P w H h a (.dT kvs) from xD ok e);refine⟨z,y,xs,r,o,es,ep,h1,h2,h3,h4,fun x hx=>?_,h5⟩;have all:∀{l:List (List Key×V)} {m:List (List Key×Addr×Value)},KT H l m->∀x∈m,(tupleKind (bz P w)).is h x.1 x.2.1:=by
  intro l m q
  induction q with
  |nil=>intro x hx;exact nomatch hx
  |@cons p q ps qs hq t ih=>
   intro x hx;rcases acq.mp hx with e|hx
   ·subst e;exact gy ok (by rw[←hq.1];exact hq.2.1)
   ·exact ih x hx
 exact all r x hx
def xE{kvs:List (List Key×V)}(ok:HOk P w H h)(e:H a=some (.dT kvs)):kvs.length<=sizeLine/\(a == sysModules)=false/\
  ∃xs,KT H kvs xs/\h.DictOfH (tupleKind (bz P w)) a xs:=gN ok (.inl e)
end
def bu(H:Hp)(a:Addr)(y:V)(r:Option V):Prop:=
 (∃kvs k,Rd H a (.dK kvs)/\y=kV k/\r=aD kvs k)\/∃kvs k b,Rd H a (.dT kvs)/\y=.ref b/\H b=some (.tup (k.map kV))/\r=aD kvs k
def d8(H:Hp)(a:Addr)(y v:V)(H':Hp):Prop:=
 (∃kvs k,H a=some (.dK kvs)/\y=kV k/\kvs.length<sizeLine/\H'=upd H a (.dK (putK kvs k v)))\/
 ∃kvs k b,H a=some (.dT kvs)/\y=.ref b/\H b=some (.tup (k.map kV))/\kvs.length<sizeLine/\H'=upd H a (.dT (putK kvs k v))
def bu.k{H:Hp}{a:Addr}{kvs:List (Key×V)}{k:Key}(e:H a=some (.dK kvs)):bu H a (kV k) (aD kvs k):=.inl ⟨kvs,k,.inl e,rfl,rfl⟩
def bu.t{H:Hp}{a b:Addr}{kvs:List (List Key×V)}{k:List Key}(e:H a=some (.dT kvs))(eb:H b=some (.tup (k.map kV))):bu H a (.ref b) (aD kvs k):=.inr ⟨kvs,k,b,.inl e,rfl,eb,rfl⟩
def d8.k{H:Hp}{a:Addr}{kvs:List (Key×V)}{k:Key}{v:V}(e:H a=some (.dK kvs))(hl:kvs.length<sizeLine):d8 H a (kV k) v (upd H a (.dK (putK kvs k v))):=.inl ⟨kvs,k,e,rfl,hl,rfl⟩
def d8.t{H:Hp}{a b:Addr}{kvs:List (List Key×V)}{k:List Key}{v:V}(e:H a=some (.dT kvs))(eb:H b=some (.tup (k.map kV)))(hl:kvs.length<sizeLine) :
  d8 H a (.ref b) v (upd H a (.dT (putK kvs k v))):=.inr ⟨kvs,k,b,e,rfl,eb,hl,rfl⟩
section
variable {X:Cx}{pins:List (Addr×Obj)}{σ:St}{H:Hp}{s:Shared}{a:Addr}{y v:V}{u r:Value}{o:Option V}{A:Around}{E:Value->Shared->Prop}
def Inv.big(I:Inv X pins σ H s):sysModules<s.heap.objs.size:=by
 have h:mainGlobals<s.heap.objs.size:=(I.mod.glob.keeps I.bk).lt;exact Nat.lt_trans (by decide) h
def t8{Q:Value->Shared->Prop}(hu:A.units+1<cLine)(I:Inv X pins σ H s)(g:bu H a y (some v))(ry:RelV y u)(h:∀w' s',Inv X pins σ H s'->RelV v w'->Q w' s') :
  wpAny (model X.prog X.w) A (getItem (.ref a) u) Q E s:=by
 rcases g with ⟨kvs,k,e,ey,l⟩|⟨kvs,k,b,e,ey,eb,l⟩
 ·subst ey;obtain⟨z,hd,vs,rel,dd⟩:=iM I.hok e;obtain⟨w',hw,rw'⟩:=dw.some_of (v:=v) (o:=valueAt vs k) (by rw[l];exact rel.val k);exact wpAny_getItem_of (iL ry) dd.mapOf hw (h w' _ (I.tok _) rw')
 ·subst ey;cases (show u=Value.ref b from ry)
  obtain⟨z,hd,xs,rel,dd⟩:=gN I.hok e;obtain⟨w',hw,rw'⟩:=dw.some_of (v:=v) (o:=(atKey xs k).map (·.2)) (by rw[l];exact rel.val k);obtain⟨p,hp,hp2⟩:=Option.map_eq_some_iff.mp hw;refine wpAny_getItem_heap (abj hu) (gy I.hok eb) dd hp ?_;rw[hp2];exact h w' _ (I.tok _) rw'
def zv{Q:Value->Shared->Prop}(hu:A.units+1<cLine)(I:Inv X pins σ H s)(g:bu H a y o)(ry:RelV y u)(h:∀s',Inv X pins σ H s'->Q (.bool o.isSome) s') :
  wpAny (model X.prog X.w) A (compareOp .In u (.ref a)) Q E s:=by
 rcases g with ⟨kvs,k,e,ey,l⟩|⟨kvs,k,b,e,ey,eb,l⟩
 ·subst ey;obtain⟨z,hd,vs,rel,dd⟩:=iM I.hok e;refine wpAny_in_of (iL ry) hd dd.mapOf ?_;rw[←(rel.val k).fR,←l];exact h _ (I.tok _)
 ·subst ey;cases (show u=Value.ref b from ry)
  obtain⟨z,hd,xs,rel,dd⟩:=gN I.hok e;refine wpAny_in_heap (abj hu) (gy I.hok eb) hd dd ?_;have q:=(rel.val k).fR;rw[Option.isSome_map] at q;rw[←q,←l];exact h _ (I.tok _)
def yc{Q:Value->Shared->Prop}(hu:A.units+1<cLine)(I:Inv X pins σ H s)(g:bu H a y o)(ry:RelV y u)(h:∀s',Inv X pins σ H s'->Q (.bool (!o.isSome)) s') :
  wpAny (model X.prog X.w) A (compareOp .NotIn u (.ref a)) Q E s:=by
 rcases g with ⟨kvs,k,e,ey,l⟩|⟨kvs,k,b,e,ey,eb,l⟩
 ·subst ey;obtain⟨z,hd,vs,rel,dd⟩:=iM I.hok e;refine wpAny_notIn_of (iL ry) hd dd.mapOf ?_;rw[←(rel.val k).fR,←l];exact h _ (I.tok _)
 ·subst ey;cases (show u=Value.ref b from ry)
  obtain⟨z,hd,xs,rel,dd⟩:=gN I.hok e;refine wpAny_notIn_heap (abj hu) (gy I.hok eb) hd dd ?_;have q:=(rel.val k).fR;rw[Option.isSome_map] at q;rw[←q,←l];exact h _ (I.tok _)
def jK{h':Heap}{t':Nat}{ob:HO}(I:Inv X pins σ H s)(mu:Mut (H a))(hs:Heap.SameBut a s.heap h')(he:∃q,h'.get? a=some q)(new:aX X.prog X.w (upd H a ob) h' a ob) :
  Inv X pins σ (upd H a ob) {s with heap:=h',toks:=t'}:=
 I.write (x:=a) (e:=a) mu (.inl rfl) (fun b q hb z=>(hs.2 b hb).trans z) he new
def t9{P:Program}{w:World}{H':Hp}{h':Heap}{kvs:List (Key×V)}{vs:List (Key×Value)}(z:kvs.length<=sizeLine)(hd:(a == sysModules)=false)(rel:KV kvs vs)(dd:h'.DictOf (bz P w) a vs) :
  aX P w H' h' a (.dK kvs):=⟨z,hd,vs,rel,dd⟩
def uc{H':Hp}{Q:Unit->Shared->Prop}(hu:A.units+1<cLine)(I:Inv X pins σ H s)(g:d8 H a y v H')(ry:RelV y u)(rv:RelV v r)(h:∀s',Inv X pins σ H' s'->Q () s') :
  wpAny (model X.prog X.w) A (setItem (.ref a) u r) Q E s:=by
 rcases g with ⟨kvs,k,e,ey,l,eH⟩|⟨kvs,k,b,e,ey,eb,l,eH⟩
 ·subst ey eH;obtain⟨z,hd,vs,rel,dd⟩:=nW I.hok e;have hz:vs.length<=sizeLine:=by rw[←rel.length];exact z
  have hl:(putK kvs k v).length<=sizeLine:=by have:=dq kvs k v;omega
  refine wpAny_setItem_pairs (hsz:=hz) (iL ry) dd fun h' dd' hs=>h _ ?_
  have he:∃q,h'.get? a=some q:=let ⟨q,_,_,hq,_⟩:=dd';⟨q,hq⟩
  exact jK I (by rw[e];exact True.intro) hs he (t9 hl hd (rel.put k rv) dd')
 ·subst ey eH;cases (show u=Value.ref b from ry)
  obtain⟨z,hd,xs,rel,dd⟩:=xE I.hok e;have hz:xs.length<=sizeLine:=by rw[←aco rel];exact z
  have hl:(putK kvs k v).length<=sizeLine:=by have:=dq kvs k v;omega
  refine wpAny_setItem_heap (hsz:=hz) (abj hu) (gy I.hok eb) dd fun h' dd' hs=>h _ ?_
  obtain⟨q,es,ep,hq,h2,h3,h4,_,h5⟩:=dd';refine jK I (by rw[e];exact True.intro) hs ⟨q,hq⟩ ⟨hl,hd,_,(rel.put k eb rv).keeps fun c ys ec=>?_,q,es,ep,hq,h2,h3,h4,h5⟩;rw[ad (xu ec e (fun z=>nomatch z))];exact ec
end
section
variable {X:Cx}{pins:List (Addr×Obj)}{σ:St}{H:Hp}{s:Shared}{a:Addr}{kvs:List (Key×V)}{k:Key}{u:Value}{A:Around}{E:Value->Shared->Prop}
end
def zw(i:Expr):Prop:=∀ov iv,subscripted i false ov iv=operate [ov,iv] (getItem ov iv)
def yd{prog:Program}{w:World}{A:Around}{E:Value->Shared->Prop}{s:Shared}{env:Env}{value slice:Expr}{pos:Pos}{T id:String}{Q:Value->Shared->Prop}
  (hl:typeLookup (.type T) "__getitem__"=pure (some (.builtin id)))(hs:zw slice)
  (h:wpAny (model prog w) A (eval value env) (fun o s₁=>wpAny (model prog w) A (eval slice env) (fun i s₂=>s₂.TypeIs o T/\wpAny (model prog w) A (getItem o i) Q E s₂) E s₁) E s) :
  wpAny (model prog w) A (eval (.Subscript value slice pos) env) Q E s:=by
 refine Subscript_ (acM h (fun o s₁ h₁=>acM h₁ (fun i s₂ h₂=>?_) fun _ _ x=>x) fun _ _ x=>x);obtain⟨hT,h₂⟩:=h₂;unfold subscriptTail;refine wpAny_bind ?_;rw[getitemInPython_of_ne hT.not_modules];refine wpAny_bind (wpAny_specialOf hT hl ?_);have fin:wpAny (model prog w) A (subscripted slice false o i) (fun r s₃=>wpAny (model prog w) A (letTemporaryGo value o r >>= fun _=>pure r) Q E s₃) E s₂:=by
  rw[hs o i];exact wpAny_operating (acM h₂ (fun r s₃ h₃=>wpAny_bind (wpAny_letTemporaryGo (wpAny_pure h₃))) fun _ _ x=>x)
 first
  |exact wpAny_pure (wpAny_bind fin)
  |exact wpAny_bind (wpAny_pure (wpAny_bind fin))
  |exact wpAny_bind fin
def qq{X:Cx}{pins:List (Addr×Obj)}{σ:St}{H:Hp}{s:Shared}{a:Addr}{y:V}{o:Option V}(I:Inv X pins σ H s)(g:bu H a y o):s.TypeIs (.ref a) "dict":=by
 rcases g with ⟨kvs,k,e,_,_⟩|⟨kvs,k,b,e,_,_,_⟩
 ·obtain⟨_,_,vs,_,dd⟩:=iM I.hok e;exact dd.typeIs
 ·obtain⟨_,_,xs,_,dd⟩:=gN I.hok e;exact dd.typeIs
def AS(td ty:TE):TE:=fun σ H Q=>td σ H fun x H1=>ty σ H1 fun y H2=>∃a v,x=.ref a/\bu H2 a y (some v)/\Q v H2
def BF(ty td:TE):TE:=fun σ H Q=>ty σ H fun y H1=>td σ H1 fun x H2=>∃a o,x=.ref a/\bu H2 a y o/\Q (.bl o.isSome) H2
def ye(ty td:TE):TE:=fun σ H Q=>ty σ H fun y H1=>td σ H1 fun x H2=>∃a o,x=.ref a/\bu H2 a y o/\Q (.bl (!o.isSome)) H2
def AT(td ty tv:TE):TS:=fun D σ H=>tv σ H fun v H1=>td σ H1 fun x H2=>ty σ H2 fun y H3=>∃a H4,x=.ref a/\d8 H3 a y v H4/\D.nx σ H4
section
variable {X:Cx}{o i e value:Expr}{pos pos' tpos:Pos}{td ty tv:TE}
def bK(hu:X.A.units+1<cLine)(ho:PE X o td)(hi:PE X i ty)(hs:zw i):PE X (.Subscript o i pos) (AS td ty):=by
 intro pins s σ H Q I h;refine yd PySem.F.slot_dict_getitem.lookup hs (thn (ho pins s σ H _ I h) fun u s1 ⟨x,H1,I1,rx,q1⟩=>thn (hi pins s1 σ H1 _ I1 q1) fun iv s2 ⟨y,H2,I2,ry,a,v,ex,g,q2⟩=>?_);subst ex;obtain rfl:u=Value.ref a:=rx;exact⟨qq I2 g,t8 hu I2 g ry fun w' s3 I3 rw'=>⟨v,H2,I3,rw',q2⟩⟩
def ik(hu:X.A.units+1<cLine)(hi:PE X i ty)(ho:PE X o td):PC X .In i o (BF ty td):=by
 intro pins s σ H Q I h;refine thn (hi pins s σ H _ I h) fun iv s1 ⟨y,H1,I1,ry,q1⟩=>thn (ho pins s1 σ H1 _ I1 q1) fun u s2 ⟨x,H2,I2,rx,a,ov,ex,g,q2⟩=>?_
 subst ex;obtain rfl:u=Value.ref a:=rx;exact zv hu I2 g ry fun s3 I3=>⟨.bl ov.isSome,H2,I3,rfl,q2⟩
def fS(hu:X.A.units+1<cLine)(hi:PE X i ty)(ho:PE X o td):PC X .NotIn i o (ye ty td):=by
 intro pins s σ H Q I h;refine thn (hi pins s σ H _ I h) fun iv s1 ⟨y,H1,I1,ry,q1⟩=>thn (ho pins s1 σ H1 _ I1 q1) fun u s2 ⟨x,H2,I2,rx,a,ov,ex,g,q2⟩=>?_
 subst ex;obtain rfl:u=Value.ref a:=rx;exact yc hu I2 g ry fun s3 I3=>⟨.bl (!ov.isSome),H2,I3,rfl,q2⟩
def dN(hu:X.A.units+1<cLine)(ho:PE X o td)(hi:PE X i ty)(hv:PE X value tv)(hs:swapsWith value (some (.Subscript o i pos')) pos.line X.env=pure false) :
  PS X (.Assign [.Subscript o i pos'] value pos) (AT td ty tv):=by
 intro pins s σ H D I h;refine wpAny_Assign_Subscript (thn (hv pins s σ H _ I h) fun r s1 ⟨v,H1,I1,rv,q1⟩=>thn (ho pins s1 σ H1 _ I1 q1) fun u s2 ⟨x,H2,I2,rx,q2⟩=>thn (hi pins s2 σ H2 _ I2 q2) fun iv s3 ⟨y,H3,I3,ry,a,H4,ex,g,q3⟩=>?_) hs;subst ex;obtain rfl:u=Value.ref a:=rx;exact uc hu I3 g ry rv fun s4 I4=>⟨σ,H4,I4,q3⟩
end
def oE{P:Program}{w:World}{H:Hp}(h:Heap)(hb:sysModules<h.objs.size):aX P w H (h.push {cls:=.type "dict",data:=.dict #[]}) h.objs.size (.dK []):=
 ⟨acI _,aa1.mpr (acQ (acx hb)),[],.nil,Heap.DictOf.new h⟩
def vU{P:Program}{w:World}{H:Hp}(h:Heap)(hb:sysModules<h.objs.size):aX P w H (h.push {cls:=.type "dict",data:=.dict #[]}) h.objs.size (.dT []):=
 ⟨acI _,aa1.mpr (acQ (acx hb)),[],.nil,_,#[],0,aa3 _ rfl,⟨rfl,rfl,rfl⟩,rfl,rfl,acj⟩
def zx:TE:=fun _ H Q=>∀p,H p=none->Q (.ref p) (upd H p (.dK []))
def zy:TE:=fun _ H Q=>∀p,H p=none->Q (.ref p) (upd H p (.dT []))
section
variable {X:Cx}{pos:Pos}
def eO:PE X (.Dict [] [] pos) zx:=fun pins s σ H Q I h=>
 wpAny_Dict_empty ⟨.ref s.heap.objs.size,_,I.laid (a:=s.heap.objs.size) (o:=.dK []) (t':=s.toks) (fun _ _ q=>aaz _ q) (acH _) (oE s.heap I.big),rfl,h _ (I.hok.fresh (acH _))⟩
def iN:PE X (.Dict [] [] pos) zy:=fun pins s σ H Q I h=>
 wpAny_Dict_empty ⟨.ref s.heap.objs.size,_,I.laid (a:=s.heap.objs.size) (o:=.dT []) (t':=s.toks) (fun _ _ q=>aaz _ q) (acH _) (vU s.heap I.big),rfl,h _ (I.hok.fresh (acH _))⟩
end
def oF:List (TE×TE)->St->Hp->(List (V×V)->Hp->Prop)->Prop
 |[],_,H,Q=>Q [] H
 |(tk,tv)::r,σ,H,Q=>tk σ H fun x H1=>tv σ H1 fun y H2=>oF r σ H2 fun ps H3=>Q ((x,y)::ps) H3
abbrev VV:List (V×V)->List (Value×Value)->Prop:=Paired fun p q=>RelV p.1 q.1/\RelV p.2 q.2
def PPs(X:Cx)(pos:Pos)(keys:List (Option Expr))(values:List Expr)(trs:List (TE×TE)):Prop:=
 ∀(pins:List (Addr×Obj)) (s:Shared) (σ:St) (H:Hp) (Q:List (V×V)->Hp->Prop),Inv X pins σ H s->oF trs σ H Q->
  wpAny (model X.prog X.w) X.A (evalPairs (pairTrees keys values X.env pos)) (fun vs s'=>∃ps H',Inv X pins σ H' s'/\VV ps vs/\Q ps H') X.xe s
def qE{X:Cx}{pos:Pos}:PPs X pos [] [] []:=fun pins s σ H Q I h=>pairTrees_nil_walk ⟨[],H,I,.nil,h⟩
def iO{X:Cx}{pos:Pos}{k v:Expr}{ks:List (Option Expr)}{vs:List Expr}{tk tv:TE}{trs:List (TE×TE)}(hk:PE X k tk)(hv:PE X v tv)(hr:PPs X pos ks vs trs) :
  PPs X pos (some k::ks) (v::vs) ((tk,tv)::trs):=fun pins s σ H Q I h=>
 pairTrees_cons_walk (thn (hk pins s σ H _ I h) fun u s1 ⟨x,H1,I1,rx,q1⟩=>thn (hv pins s1 σ H1 _ I1 q1) fun w2 s2 ⟨y,H2,I2,ry,q2⟩=>
  thn (hr pins s2 σ H2 _ I2 q2) fun ws s3 ⟨ps,H3,I3,rel,q3⟩=>⟨(x,y)::ps,H3,I3,.cons ⟨rx,ry⟩ rel,q3⟩)
def eA(kvs more:List (Key×V)):List (Key×V):=more.foldl (fun acc kv=>putK acc kv.1 kv.2) kvs
def KV.merge:∀{more:List (Key×V)} {rs:List (Key×Value)} {kvs:List (Key×V)} {vs:List (Key×Value)},KV more rs->KV kvs vs->KV (eA kvs more) (merged vs rs):=by
 intro more rs kvs vs r;unfold KV at r
 induction r generalizing kvs vs with
 |nil=>intro q;exact q
 |@cons p q ps qs h t ih=>
  intro r0;have e:KV (putK kvs p.1 p.2) (stored vs q.1 q.2):=by
   have:=r0.put p.1 h.2;rw[←h.1];exact this
  exact ih e
def i6:∀(more kvs:List (Key×V)),(eA kvs more).length<=kvs.length+more.length
 |[],kvs=>by show kvs.length<=kvs.length+0;omega
 |p::r,kvs=>by
  have h1:=i6 r (putK kvs p.1 p.2);have h2:=dq kvs p.1 p.2;show(eA (putK kvs p.1 p.2) r).length<=_;rw[abI];omega
def li{P:Program}{w:World}:∀{kvs:List (Key×V)} {ws:List (Value×Value)},VV (kvs.map fun kv=>(kV kv.1,kv.2)) ws->∃rs,Carries (bz P w) ws rs/\KV kvs rs
 |[],_,r=>by rw[List.map_nil] at r;cases r;exact⟨[],True.intro,.nil⟩
 |p::kvs,_,r=>by
  rw[acr] at r;cases r with
  |@cons a b as bs h t=>
   obtain⟨rs,c,q⟩:=li (P:=P) (w:=w) t;obtain⟨b1,b2⟩:=b;exact⟨(p.1,b2)::rs,⟨iL h.1,rfl,c⟩,.cons ⟨rfl,h.2⟩ q⟩
def xF(trs:List (TE×TE)):TE:=fun σ H Q=>∀p,H p=none->oF trs σ (upd H p (.dK [])) fun ps H2=>H2 p=some (.dK [])/\∃kvs:List (Key×V),ps=kvs.map (fun kv=>(kV kv.1,kv.2))/\kvs.length<=15/\Q (.ref p) (upd H2 p (.dK (eA [] kvs)))
def qF{X:Cx}{pos:Pos}{keys:List (Option Expr)}{values:List Expr}{trs:List (TE×TE)}(h:PPs X pos keys values trs)(hall:keys.all (·.isSome)=true)(hl:keys.length=values.length)(h0:keys≠[])
  (h15:keys.length<=15):PE X (.Dict keys values pos) (xF trs):=by
 intro pins s σ H Q I q;have hn:=I.hok.fresh (acH s.heap.objs.size);have I1:=I.laid (a:=s.heap.objs.size) (o:=.dK []) (h':=s.heap.push {cls:=.type "dict",data:=.dict #[]}) (t':=s.toks) (fun _ _ q=>aaz _ q) (acH _) (oE s.heap I.big);refine wpAny_Dict_walk (knd:=bz X.prog X.w) hall hl h0 h15 (thn (h pins _ σ _ _ I1 (q _ hn)) fun ws s2 ⟨ps,H2,I2,rel,e,kvs,ep,lk,q2⟩=>?_);subst ep;obtain⟨rs,c,rk⟩:=li (P:=X.prog) (w:=X.w) rel;obtain⟨z,hd,vs0,r0,dd⟩:=nW I2.hok e;cases r0
 refine⟨rs,c,dd,fun h' dd' hs=>⟨.ref s.heap.objs.size,_,?_,rfl,q2⟩⟩;have hz:(eA [] kvs).length<=sizeLine:=by
  have h1:=i6 kvs [];rw[ab8] at h1;rw[acJ];omega
 have he:∃q,h'.get? s.heap.objs.size=some q:=let ⟨q,_,_,hq,_⟩:=dd';⟨q,hq⟩
 exact jK I2 (by rw[e];exact True.intro) hs he (t9 hz hd (rk.merge .nil) dd')
structure M2(X:Cx)(o:Expr)(m:Str)(apos:Pos)(e f:Expr)(cpos:Pos):Prop where
 base:attributeBase o m X.env (eval o X.env)=eval o X.env
 few:((backTo cpos (starEach [e,f] X.env)).all (fun x=>!x.1) && (backToKw cpos (keywordEach [] X.env)).all (fun x=>x.1.isSome)
  && decide (([e,f]:List Expr).length+([]:List Keyword).length+(if ([]:List Keyword).isEmpty then 0 else 1)<30))=true
 line:(apos.endLine == cpos.line)=true
 trees:backTo cpos (starEach [e,f] X.env)=[(false,eval e X.env),(false,eval f X.env)]
def IsD(H:Hp)(a:Addr):Prop:=(∃kvs,Rd H a (.dK kvs))\/∃kvs,Rd H a (.dT kvs)
def oG{X:Cx}{pins:List (Addr×Obj)}{σ:St}{H:Hp}{s:Shared}{a:Addr}(I:Inv X pins σ H s)(d:IsD H a) :
  s.TypeIs (.ref a) "dict"/\(∀b,Value.ref a=.ref b->∃ob,s.heap.get? b=some ob/\ob.dict=none)/\(a == sysModules)=false:=by
 rcases d with ⟨kvs,e⟩|⟨kvs,e⟩
 ·obtain⟨_,hd,vs,_,dd⟩:=iM I.hok e;refine⟨dd.typeIs,fun b q=>?_,hd⟩;cases q
  obtain⟨ob,_,_,h1,h2,_⟩:=dd;exact⟨ob,h1,h2.2.1⟩
 ·obtain⟨_,hd,xs,_,dd⟩:=gN I.hok e;refine⟨dd.typeIs,fun b q=>?_,hd⟩;cases q
  obtain⟨ob,_,_,h1,h2,_⟩:=dd;exact⟨ob,h1,h2.2.1⟩
section
variable {X:Cx}{pins:List (Addr×Obj)}{σ:St}{H:Hp}{s:Shared}{a:Addr}{y d:V}{u r:Value}{o:Option V}{A:Around}{E:Value->Shared->Prop}
def ud{Q:Value->Shared->Prop}(hu:A.units+1<cLine)(I:Inv X pins σ H s)(g:bu H a y o)(ry:RelV y u)(rd:RelV d r)(h:∀w' s',Inv X pins σ H s'->RelV (o.getD d) w'->Q w' s') :
  wpAny (model X.prog X.w) A (call (.builtin "dict.get") [.ref a,u,r]) Q E s:=by
 rcases g with ⟨kvs,k,e,ey,l⟩|⟨kvs,k,b,e,ey,eb,l⟩
 ·subst ey;obtain⟨z,hd,vs,rel,dd⟩:=iM I.hok e;refine call_meetsIn aaJ dd.typeIs PySem.F.entry_dict_get (PySem.F.args_dict_get_3 _ _ _) (meets_dict_get_default (bz X.prog X.w) a (iL ry) hd r) ⟨_,dd.mapOf,h _ _ (I.tok _) ?_⟩;rw[l];exact(rel.val k).getD rd
 ·subst ey;cases (show u=Value.ref b from ry)
  obtain⟨z,hd,xs,rel,dd⟩:=gN I.hok e;refine call_meetsIn aaJ dd.typeIs PySem.F.entry_dict_get (PySem.F.args_dict_get_3 _ _ _) (meetsH_dict_get_default (tupleKind (bz X.prog X.w)) a b hd r) ⟨abj hu,k,xs,gy I.hok eb,dd,h _ _ (I.tok _) ?_⟩;rw[l];exact(rel.val k).getD rd
end
def zz(td ty tx:TE):TE:=fun σ H Q=>td σ H fun x H1=>∃a,x=.ref a/\IsD H1 a/\ty σ H1 fun y H2=>tx σ H2 fun z H3=>∃o,bu H3 a y o/\Q (o.getD z) H3
section
variable {X:Cx}{o e f:Expr}{apos cpos:Pos}{td ty tx:TE}
def iP(hu:X.A.units+1<cLine)(ho:PE X o td)(he:PE X e ty)(hf:PE X f tx)(m:M2 X o "get" apos e f cpos):PE X (.Call (.Attribute o "get" apos) [e,f] [] cpos) (zz td ty tx):=by
 intro pins s σ H Q I h;refine wpAny_Call_method m.base m.few m.line PySem.F.plainAttrs_dict aaJ PySem.F.type_dict_get (thn (ho pins s σ H _ I h) fun u s1 ⟨x,H1,I1,rx,a,ex,d,q1⟩=>?_);subst ex;obtain rfl:u=Value.ref a:=rx;obtain⟨t1,t2,_⟩:=oG I1 d;refine⟨t1,t2,?_⟩;rw[m.trees];refine aaA rfl (Calls.evalArgs_plain (abg (thn (he pins s1 σ H1 _ I1 q1) fun iv s2 ⟨y,H2,I2,ry,q2⟩=>
  abg (thn (hf pins s2 σ H2 _ I2 q2) fun fv s3 ⟨z,H3,I3,rz,ov,g,q3⟩=>Calls.spliced_nil ?_))))
 exact ud hu I3 g ry rz fun w' s4 I4 rw'=>⟨_,H3,I4,rw',q3⟩
end
section
variable {X:Cx}{pins:List (Addr×Obj)}{σ:St}{H:Hp}{s:Shared}{a:Addr}{kvs:List (Key×V)}{A:Around}{E:Value->Shared->Prop}
end
section
variable {X:Cx}{pins:List (Addr×Obj)}{σ:St}{H:Hp}{s:Shared}{a:Addr}{y:V}{u:Value}{A:Around}{E:Value->Shared->Prop}
end
end L2
namespace Att
open PySem PySem.W PySem.Calls PyProof.Rows
def lj{P:Params}{h:Heap}:∀(ns:List Int) (vs:List Value),WellAll P h vs (ns.map WData.int)->IntsAre vs ns:=by
 intro ns
 induction ns with
 |nil=>
  intro vs w;rw[List.map_nil] at w;cases w
  exact .nil
 |cons n ns ih=>
  intro vs w;rw[acr] at w;cases w with
  |cons a b=>
   cases a
   exact .cons _ _ (ih _ b)
def uf{l:OpenLaw}{n:Nat}(hn:l.most=some n){P:Params}{h:Heap}{args:List WData}{vals:List Value}
  (hpre:l.row.toRowW.claim.pre args=true)(hwl:WellAll P h vals args) :
  ∃a vs ns,vals=[Value.ref a]/\args=[WData.list (ns.map WData.int)]/\h.get? a=some {cls:=.type "list",data:=.seq vs.toArray}/\IntsAre vs ns/\ns.length<=n:=by
 have hsh:WShape.hasAll [] args [.list .int]=true:=(pre_splitW hpre).1;have hc:l.pre.holds [] {args:=args}=true:=(pre_splitW hpre).2;obtain⟨d,r,rfl,h1,h2⟩:=hasAllW_cons hsh;obtain rfl:=hasAllW_nil h2;obtain⟨xs,rfl,h3⟩:=hasW_list h1;obtain⟨ns,rfl⟩:=items_int h3;have hlen:ns.length<=n:=by
  unfold OpenLaw.pre at hc;have h4:(WTm.not (.lt (.lit (.int (n:Int))) (.len (.arg 0)))).holds [] {args:=[.list (ns.map .int)]}=true:=by
   have h4:=(holds_andW hc).1;rw[hn] at h4;exact h4
  have h5:=condW_of h4 (w_not (w_lt w_lit (w_len_list (w_arg rfl))));rw[ab3] at h5;refine Nat.le_of_not_lt fun q=>?_
  have q':(n:Int)<((ns.length:Nat):Int):=by omega
  first
   |(rw[aci q'] at h5;exact absurd h5 (by decide))
   |(simp at h5;omega)
 cases hwl with
 |cons w1 w2=>
  cases w2
  cases w1 with
  |list ho hall=>exact⟨_,_,ns,rfl,rfl,ho,lj ns _ hall,hlen⟩
def ug(l:OpenLaw)(args:List WData):l.row.toRowW.claim.post args (.bool true) args=true:=
 postW_of (r:=l.row.toRowW) (X:=(true == true))
  (show WShape.has [] (.bool true) .bool=true by first | rfl | decide | simp[WShape.has,WShape.arms,WShape.armsAll])
  (show(WTm.eq .res (.lit (.bool true))).value [] {args:=args,res:=some (.bool true),after:=args}=some (.bool (true == true)) from w_eq_bool (w_res rfl) w_lit) rfl
def qr{l:OpenLaw}{n:Nat}{q:Program}{loose:List Str}{XP:(Str->Option Value)->Heap->Prop}{YP:World->Heap->Prop}{d:DefRec}
  (hn:l.most=some n)(hdf:d.params.defaults=[])
  (call:∀(w:World) (s₀ s₁:Shared) (mg mb:Str->Option Value) (fa:Addr) (o:Obj) (pm cd doc:Value) (a:Addr) (vs:List Value) (ns:List Int),
   Ground q loose [] XP w s₀ mg mb s₁.heap->YP w s₁.heap->
   s₁.heap.get? fa=some o->o.data=.func (docDef d.name d.params d.body d.scope pm cd doc)->s₁.heap.CodeRec cd d.name->mg d.name=some (.ref fa)->
   s₁.heap.get? a=some {cls:=.type "list",data:=.seq vs.toArray}->IntsAre vs ns->ns.length<=n->s₁.gens=#[]->
   codeAny (model l.prog w) callerA (.call (.ref fa) ⟨[.ref a],[]⟩) (fun r s'=>r=.ok (.ret (.bool true))/\OldK s₁.heap s'.heap/\s'.os=s₁.os/\AllBare s'.gens) s₁) :
  WalkO q loose XP YP l.row.toRowW d [] (fun f vs=>PySem.call f vs):=by
 intro w s₀ s₁ mg mb G Y fa o pm cd doc dV kV ho hd hcd hD hmg hg args vals as hpre hlay hrd hwl hlo;obtain rfl:dV=.none:=Dflts.none hD hdf;obtain rfl:kV=.none:=Dflts.noKw hD;obtain⟨a,vs,ns,rfl,rfl,hobj,hints,hlen⟩:=uf hn hpre hwl;refine enter_call (acA (call w s₀ s₁ mg mb fa o pm cd doc a vs ns G Y ho (fd_plain hd) hcd hmg hobj hints hlen hg) fun r s' hq=>?_);obtain⟨rfl,h2,h3,h4⟩:=hq;exact⟨.inl ⟨.bool true,.bool true,[],rfl,fun _=>rfl,.bool true,ug l _,fun _=>⟨List.Pairwise.nil,fun _ hm=>(nomatch hm)⟩⟩,h2,h3,h4⟩
section
variable {prog:Program}{w:World}{A:Around}{E:Value->Shared->Prop}{s:Shared}{K:Frag}
end
end Att
namespace L2
open PySem PySem.Spec PyProof.Rows
def mN:∀{vs:List Value} {ns:List Int},IntsAre vs ns->Vals (ns.map V.int) vs
 |_,_,.nil=>.nil
 |_,_,.cons n t h=>.cons ⟨t,rfl⟩ (mN h)
end L2
namespace L2
open PySem PySem.Spec PyProof.Rows
end L2
namespace L2
open PySem PySem.Spec PyProof.Rows
def inClass(s:Stmt)(j:Nat):Stmt:=match s with
 |.ClassDef _ _ _ body _ _ _ _ _ _ _=>body.getD j (.Pass ⟨0,0,0,0⟩)
 |_=>.Pass ⟨0,0,0,0⟩
def fD(s:Stmt):Arguments:=match s with
 |.FunctionDef _ a _ _ _ _ _ _ _ _=>a
 |_=>{posonlyargs:=[],args:=[],vararg:=none,kwonlyargs:=[],kw_defaults:=[],kwarg:=none,defaults:=[]}
def dO(s:Stmt):List Stmt:=match s with
 |.FunctionDef _ _ b _ _ _ _ _ _ _=>b
 |_=>[]
def am(s:Stmt):Scope:=match s with
 |.FunctionDef _ _ _ _ _ _ sc _ _ _=>sc
 |_=>{kind:=.function,names:=[],isGenerator:=false,isCoroutine:=false}
abbrev CX0:CXT:=fun _ _ _ _ _ _=>False
abbrev E0:XK:=fun _ _ _=>False
def rW{X:Cx}:Passes CX0 X E0:=fun _ _ _ _ _ _ _ h=>h.elim
structure Fun(K:acX)(x qual:Str)(st:Stmt)(f:Addr)(fd:FuncData):Prop where
 ex:∃(oc:Value) (od:Option Addr) (kV doc pm:Value) (an:Option Addr) (cdv ct:Value) (osl:Array (Option Value)),
  fd=PySem.W.fnOf x qual (fD st) (dO st) (am st) .none kV doc pm an cdv ct/\K.lookup f=some ⟨oc,od,.func fd,osl⟩/\PySem.W.codeIn K cdv qual=true
 kp:PySem.W.keepIn K (.ref f)=true
section
variable {P:Program}{w:World}{K:acX}{mg:Str->Option Value}{base:Heap}
def Fun.ok{x qual:Str}{st:Stmt}{f:Addr}{fd:FuncData}{N ps:List Str}{k:Nat}{sp:Sp}(F:Fun K x qual st f fd)(S:aE N ps (am st))(len:∀vs H Q E,sp vs H Q E->vs.length=ps.length)
  (hbody:∀(cdv:Value) (A:Around) (outer:List Env) (s:Shared) (H:Hp) (vs:List V) (Q:VK) (E:XK),a9 k (A.deeper (envOfC qual (am st) s.heap.objs.size f cdv))->sp vs H Q E->
   ∃t,PSs (iJ CX0 P w K mg base N qual (am st) f cdv A outer s H E).nox (dO st) t/\t {nx:=fun _ H'=>Q .non H',rt:=Q} (start N vs) H):aM P w K mg base CX0 (k+1) f fd ps sp:=by
 obtain⟨oc,od,kV,doc,pm,an,cdv,ct,osl,rfl,lk,hcd⟩:=F.ex;refine xC lk hcd S len fun A outer s H vs Q E hr hsp=>?_
 obtain⟨t,h,q⟩:=hbody cdv A outer s H vs Q E hr hsp;exact⟨t,h.nox,q⟩
def Fun.binds{x qual:Str}{st:Stmt}{f:Addr}{fd:FuncData}{ps:List Str}(F:Fun K x qual st f fd)
  (h:∀(kV doc pm:Value) (an:Option Addr) (cdv ct:Value) (us:List Value),us.length=ps.length->bindArgs (PySem.W.fnOf x qual (fD st) (dO st) (am st) .none kV doc pm an cdv ct) ⟨us,[]⟩=pure (ps.zip us)):Binds K fd ps []:=by
 obtain⟨oc,od,kV,doc,pm,an,cdv,ct,osl,rfl,lk,hcd⟩:=F.ex;exact .all (h kV doc pm an cdv ct)
def oH{x qual:Str}{st:Stmt}{f:Addr}{oc:Value}{od an:Option Addr}{osl:Array (Option Value)}{kV doc pm cdv ct:Value}(l:K.lookup f=some ⟨oc,od,.func (PySem.W.fnOf x qual (fD st) (dO st) (am st) .none kV doc pm an cdv ct),osl⟩)
  (c:PySem.W.codeIn K cdv qual=true)(k:PySem.W.keepIn K (.ref f)=true):Fun K x qual st f (PySem.W.fnOf x qual (fD st) (dO st) (am st) .none kV doc pm an cdv ct):=⟨⟨oc,od,kV,doc,pm,an,cdv,ct,osl,rfl,l,c⟩,k⟩
end
def bO{A:Around}{k:Nat}(hr:a9 k A):A.units+1<cLine:=abk (Nat.add_le_add_left (by decide:1<=64) _) hr.units
def az{n:Nat}(h:n<=1000):n<sizeLine:=abk h (by decide)
section
variable {X:Cx}
def pv(i:Nat){x:Str}{pos:Pos}(hN:X.N[i]? =some x:=by rfl)(hv:Vis X.env.scope x:=by first | exact Or.inl rfl | exact Or.inr (Or.inl rfl) | exact Or.inr (Or.inr rfl))(hd:(x == ("__debug__":Str))=false:=by decide)
  (hcd:(x == ("__classdict__":Str))=false:=by decide):PE X (.Name x pos) (vF i):=tP hN hv hd hcd
end
def aT{A B:Prop}(h:B):if false=true then A else B:=by
 rw[acS abf];exact h
def bC{A B:Prop}(h:A):if true=true then A else B:=by
 rw[acR rfl];exact h
def zA{c A B:Prop}[Decidable c](h1:c->A)(h2:¬c->B):if c then A else B:=by
 by_cases h:c
 ·rw[acR h];exact h1 h
 ·rw[acS h];exact h2 h
def ll{c A B:Prop}[Decidable c](hc:c)(h:B):if (!decide c)=true then A else B:=by
 rw[aci hc];exact aT h
def ab(H H':Hp):Prop:=∀b o,H b=some o->H' b=some o
def ab.refl(H:Hp):ab H H:=fun _ _ h=>h
def ab.trans{H H1 H2:Hp}(a:ab H H1)(b:ab H1 H2):ab H H2:=fun c o h=>b c o (a c o h)
def ab.free{H H':Hp}(e:ab H H'){l:Addr}(h:H' l=Option.none):H l=Option.none:=by
 cases q:H l with
 |none=>rfl
 |some o=>
  rw[e l o q] at h;cases h
def ab.seq{K:acX}{H H':Hp}{a:Addr}{xs:List V}(e:ab H H')(h:SqL K H a xs):SqL K H' a xs:=by
 rcases h with (h|⟨o,h⟩)|h
 ·exact .inl (.inl (e _ _ h))
 ·exact .inl (.inr ⟨o,e _ _ h⟩)
 ·exact .inr h
section
variable {κ:Type}[DecidableEq κ]
def yf{kvs:List (κ×V)}{k:κ}{v:V}(h:aD kvs k=some v):k∈kvs.map (·.1):=by
 have q:(kvs.any fun kv=>decide (kv.1=k))=true:=by
  rw[eK,h]
  all_goals rfl
 obtain⟨p,hp,e⟩:=List.any_eq_true.mp q;exact acB.mpr ⟨p,hp,abx e⟩
def fE:∀{l:List κ} {k:κ},l.Nodup->¬k∈l->(l++[k]).Nodup
 |[],k,_,_=>by simp
 |a::r,k,h,hk=>by
  obtain⟨h1,h2⟩:=ab6.mp h;show(a::(r++[k])).Nodup;refine ab6.mpr ⟨fun m=>?_,fE h2 fun m=>hk (acq.mpr (Or.inr m))⟩;rcases ab0.mp m with q|q
  ·exact h1 q
  ·exact hk (acq.mpr (Or.inl (abl.mp q).symm))
end
end L2
namespace L2
open PySem PySem.Spec PyProof.Rows
section
variable {prog:Program}{w:World}{A:Around}{R:Result->Shared->Prop}{s:Shared}
def oI{elt target iter:Expr}{ifs:List Expr}{scope:Scope}{pos:Pos}{it acc:Value}{env:Env}(I:Nat->Shared->Prop)
  (turn:∀n s,I n s->wpAny (model prog w) A (pyNext it) (fun r s₁=>match r with
   |none=>R (.ok .next) s₁
   |some v=>wpAny (model prog w) A (letOwnedTupleGo target it v) (fun _ s₁'=>wpAny (model prog w) A (assign target env v) (fun _ s₂=>
     wpAny (model prog w) A (forIn ifs true fun c r=>if r=true then do let ok ←isTrue c env (eval c env);pure (ForInStep.yield ok) else pure (ForInStep.yield r)) (fun ok s₃=>
      if ok=true then wpAny (model prog w) A (eval elt env) (fun x s₄=>
       wpAny (model prog w) A (call (.builtin "list.append") [acc,x]) (fun _ s₅=>∃m,m<n/\I m s₅) (fun _ _=>False) s₄) (fun _ _=>False) s₃
      else ∃m,m<n/\I m s₃) (fun _ _=>False) s₂) (fun _ _=>False) s₁') (fun _ _=>False) s₁) (fun _ _=>False) s)
  (n:Nat)(h:I n s) :
  codeAny (model prog w) A (.compLoop (.ListComp elt [⟨target,iter,ifs,0⟩] scope pos) 0 it acc env) R s:=by
 refine codeAny_loop rfl I (fun n s hI=>?_) n h;show wpAny _ A ((compTurn (.ListComp elt [⟨target,iter,ifs,0⟩] scope pos) 0 it acc env).onRaise (fun x=>do noteFrame x env;theTreesLotGoes x)) _ _ s;refine wpAny_noted ?_;rw[compTurn_list];refine wpAny_bind (wpAny_standAt (wpAny_bind (acM (turn n s hI) (fun r s₁ h₁=>?_) fun _ _ h'=>h'.elim)));cases r with
 |none=>exact wpAny_pure h₁
 |some v=>
  refine wpAny_bind (acM h₁ (fun _ s₁' h₁'=>?_) fun _ _ h'=>h'.elim);refine wpAny_bind (acM h₁' (fun _ s₂ h₂=>wpAny_bind (acM h₂ (fun ok s₃ h₃=>?_) fun _ _ h'=>h'.elim)) fun _ _ h'=>h'.elim);cases ok with
  |false=>exact wpAny_pure ⟨rfl,h₃⟩
  |true=>
   exact wpAny_bind (wpAny_bind (acM h₃ (fun x s₄ h₄=>wpAny_bind (acM h₄ (fun _ s₅ h₅=>wpAny_pure (wpAny_pure ⟨rfl,h₅⟩)) fun _ _ h'=>h'.elim)) fun _ _ h'=>h'.elim))
end
def PIf(X:Cx)(ifs:List Expr)(t:TT):Prop:=
 ∀(pins:List (Addr×Obj)) (s:Shared) (σ:St) (H:Hp) (Q:Bool->Hp->Prop),Inv X pins σ H s->t σ H Q->
  wpAny (model X.prog X.w) X.A (forIn ifs true fun c r=>if r=true then do let ok ←isTrue c X.env (eval c X.env);pure (ForInStep.yield ok) else pure (ForInStep.yield r)) (TP X pins σ Q) X.xe s
def lm:TT:=fun _ H Q=>Q true H
def cI{X:Cx}:PIf X [] lm:=fun _ _ _ H _ I h=>wpAny_tests_nil ⟨H,I,h⟩
def qG{X:Cx}{c:Expr}{t:TT}(h:PT X c t):PIf X [c] t:=fun pins s σ H Q I hw=>wpAny_tests_one (h pins s σ H Q I hw)
def dP(sel:List (Option Nat))(σ:St):St:=sel.map fun o=>match o with
 |some i=>(σ[i]?).join
 |none=>none
def b9(X:Cx)(scope:Scope)(cl:List (Str×Addr))(N:List Str)(s₃:Shared)(H₃:Hp)(fp:List Addr):Cx where
 prog:=X.prog
 w:=X.w
 K:=X.K
 mg:=X.mg
 base:=X.base
 A:=X.A
 N:=N
 s₀:=s₃
 H₀:=H₃
 env:=compEnvC scope cl s₃.heap.objs.size X.env
 outer:=X.stack
 stack:=X.stack
 ex:=fp
 fn:=fun _=>false
 calm:=X.calm
 pn:=[]
 xe:=fun _ _=>False
structure aU(X:Cx)(scope:Scope)(cl:List (Str×Addr))(N:List Str)(sel:List (Option Nat)):Prop where
 clos:closureFor scope X.env=pure cl
 nocell:∀y∈scope.names,y.2≠.cell
 kind:scope.kind=.function
 locs:∀y∈scope.names,y.2=.local->scope.names.lookup y.1=some .local
 cells:∀x c,cl.lookup x=some c->X.env.cells.lookup x=some c
 has:∀x,(Vis (relabel scope X.env) x/\(relabel scope X.env).names.lookup x≠some .local)->∃c,cl.lookup x=some c
 len:sel.length=N.length
 names:∀(j i:Nat),sel[j]? =some (some i)->∃x,X.N[i]? =some x/\N[j]? =some x/\(Vis X.env.scope x/\X.env.scope.names.lookup x≠some .local)/\(relabel scope X.env).names.lookup x≠some .local
def gP(sel:List (Option Nat))(J:It)(D:Addr)(g:TG)(tc:TT)(te:TE)(σ:St)(H1:Hp)(Q:VK):Prop:=
 ∃W:Nat->Nat->St->Hp->Prop,(∃m,W 0 m (dP sel σ) (upd H1 D (.lst [])))/\∀i m τ H2,W i m τ H2->
  (J.stop i H2/\Q (.ref D) H2)\/(J.go i H2/\∃N:St->Hp->Prop,(∀τ' H',N τ' H'->∃m',m'<m/\W (i+1) m' τ' H')/\∀x H3,J.yld i H2 x H3->g x τ H3 fun τ2 H4=>tc τ2 H4 fun b H5=>
   if b=true then te τ2 H5 fun y H6=>∃ys,H6 D=some (.lst ys)/\ys.length<sizeLine/\N τ2 (upd H6 D (.lst (ys++[y])))
   else N τ2 H5)
def rX(sel:List (Option Nat))(wi:TI)(g:TG)(tc:TT)(te:TE):TE:=fun σ H Q=>wi σ H fun J H1=>∀D,H1 D=none->gP sel J D g tc te σ H1 Q
def uh{sel:List (Option Nat)}{σ:St}{j:Nat}{v:V}(h:(dP sel σ)[j]? =some (some v)):∃i,sel[j]? =some (some i)/\σ[i]? =some (some v):=by
 unfold dP at h;rw[abt] at h;cases e:sel[j]? with
 |none=>rw[e] at h;cases h
 |some o=>
  rw[e] at h;cases o with
  |none=>cases h
  |some i=>
   refine⟨i,rfl,?_⟩;have h:(σ[i]?).join=some v:=by simpa using h
   cases q:σ[i]? with
   |none=>rw[q] at h;cases h
   |some o=>
    rw[q] at h;have h:o=some v:=h;rw[h]
section
variable {X:Cx}{pins:List (Addr×Obj)}{σ:St}{H:Hp}{s:Shared}{scope:Scope}{cl:List (Str×Addr)}{N:List Str}{sel:List (Option Nat)}
def aU.ok(C:aU X scope cl N sel){s₃:Shared}{H₃:Hp}{fp:List Addr}(I:Inv X pins σ H₃ s₃)(hf:∀b∈fp,cv X pins H₃ b)(hlt:∀b∈fp,b<s₃.heap.objs.size):(b9 X scope cl N s₃ H₃ fp).Ok where
 mod:=I.ok.mod
 kind:=C.kind
 glob:=I.ok.glob
 blt:=I.ok.blt
 above:=acH _
 inj:=fun x y c h1 h2=>I.ok.inj x y c (C.cells x c h1) (C.cells y c h2)
 has:=fun x hx=>C.has x (by
  rcases hx with k|k
  ·exact⟨.inr (.inl k),by rw[show(relabel scope X.env).names.lookup x=some .cell from k];decide⟩
  ·exact⟨.inr (.inr k),by rw[show(relabel scope X.env).names.lookup x=some .free from k];decide⟩)
 cab:=fun x c h=>absurd (show false=true from h) (by decide)
 hd:=I.ok.hd
 frames:=I.ok.frames
 stk:=.inl rfl
 exf:=fun b hb=>⟨acx (hlt b hb),fun x c h=>(hf b hb).2.2.2.2.1 x c (C.cells x c h)⟩
 bs:=I.bs
 bsz:=acy I.ok.bsz I.sz
 noex:=fun b o e hb=>by
  rcases(hf b hb).2.2.2.1 with z|z
  ·exact I.ok.noex b o e z
  ·exact absurd (abd (acw (I.ok.bs b o e).1) z) (acp _)
 exfs:=fun b hb z=>by
  rcases acq.mp (I.oj b z) with e|e
  ·exact(hf b hb).2.1 e
  ·exact(hf b hb).2.2.1 e
 fm:=I.stack
 frf:=I.lW
def aU.start(C:aU X scope cl N sel){s₃:Shared}{H₃:Hp}{fp:List Addr}{h':Heap}(I:Inv X pins σ H₃ s₃)(hf:∀b∈fp,cv X pins H₃ b)(hlt:∀b∈fp,b<s₃.heap.objs.size)
  (hn:h'.Ns s₃.heap.objs.size (fun _=>none))(k:∀b o,s₃.heap.get? b=some o->h'.get? b=some o)(tk:Nat):Inv (b9 X scope cl N s₃ H₃ fp) [] (dP sel σ) H₃ {s₃ with heap:=h',toks:=tk}:=by
 refine⟨C.ok I hf hlt,rfl,I.bare,Un.kept k,⟨_,hn,fun j x v h1 h2 h3=>?_⟩,fun x c h=>?_,I.hok.fresh (acH _),fun x c h=>I.freeC x c (C.cells x c h),fun p hp=>absurd (show p∈([]:List (Addr×Obj)) from hp) (by simp),I.hok.kept k,?_⟩
 ·obtain⟨i,e1,e2⟩:=uh h2;obtain⟨y,n1,n2,⟨vis,nl⟩,nl'⟩:=C.names j i e1;have e:x=y:=by
   have z:N[j]? =some x:=h1;rw[n2] at z;exact(abY z).symm
  subst e;obtain⟨m,hm,hl⟩:=I.loc;obtain⟨u,r,l⟩:=hl i x v n1 e2 vis;rcases l with ⟨k1,_⟩|⟨_,c,hc,hcell⟩
  ·exact absurd k1 nl
  ·refine⟨u,r,.inr ⟨?_,?_⟩⟩
   ·rcases h3 with z|z|z
    ·exact absurd z nl'
    ·exact .inl z
    ·exact .inr z
   ·obtain⟨c',hc'⟩:=C.has x ⟨h3,nl'⟩;have e:=C.cells x c' hc';rw[hc] at e;cases e
    obtain⟨o,ho,hd⟩:=hcell;exact⟨c,hc',o,k c o ho,hd⟩
 ·obtain⟨v,o,ho,hd⟩:=I.cell x c (C.cells x c h);exact⟨v,o,k c o ho,hd⟩
 ·unfold dP;rw[ab3];exact C.len
def aU.back(C:aU X scope cl N sel){s₃ s':Shared}{H₃ H':Hp}{fp:List Addr}{τ:St}{pl:List (Addr×Obj)}(I:Inv X pins σ H₃ s₃)(hf:∀b∈fp,cv X pins H₃ b)
  (J:Inv (b9 X scope cl N s₃ H₃ fp) pl τ H' s'){h':Heap}(hs:Heap.SameBut s₃.heap.objs.size s'.heap h'):Inv X pins σ H' {s' with heap:=h'}:=by
 have fr:H' s₃.heap.objs.size=none:=J.free;have lt:∀b o,s₃.heap.get? b=some o->b≠s₃.heap.objs.size:=fun b o e=>acx (acw e)
 have u:Un (frs X.stack) fp H₃ H' s₃.heap h':=by
  have u0:Un (frs X.stack) fp H₃ H' s₃.heap s'.heap:=J.base;exact⟨fun b o e n h1 h2=>hs.extBut b o (lt b o e) (u0.keep b o e n h1 h2),fun b o e n h1 h2=>by
    obtain⟨sl,q⟩:=u0.slot b o e n h1 h2;exact⟨sl,hs.extBut b _ (lt b o e) q⟩,u0.free,fun b o e h1=>by
    obtain⟨o',q⟩:=u0.there b o e h1;exact⟨o',hs.extBut b _ (lt b o e) q⟩,u0.tups,u0.frzs,u0.tbls⟩
 refine I.AI (s':={s' with heap:=h'}) (ch:=fp) J.os u (fun a o e=>?_) J.bare fun b hb=>⟨(hf b hb).2.2.2.1,(hf b hb).2.1,(hf b hb).2.2.2.2.1,(hf b hb).2.2.2.2.2⟩
 have ne:∀b x,H' b=some x->b≠s₃.heap.objs.size:=fun b x q z=>by rw[z,fr] at q;cases q
 refine(J.hok a o e).bX (fun b u hb q=>hs.extBut b u ?_ q) (fun _ q=>q) fun _ _ q=>q
 rcases hb with z|z
 ·rw[z];exact ne a o e
 ·exact ne b _ z
def mO(C:aU X scope cl N sel){tg iter elt:Expr}{ifs:List Expr}{wi:TI}{g:TG}{tc:TT}{te:TE}{pos:Pos}(hc:X.calm=true)(hi:PI X tg iter wi)
  (hg:∀s₃ H₃ fp,PG (b9 X scope cl N s₃ H₃ fp) tg g)(ht:∀s₃ H₃ fp,PIf (b9 X scope cl N s₃ H₃ fp) ifs tc)(he:∀s₃ H₃ fp,PE (b9 X scope cl N s₃ H₃ fp) elt te)
  {RR:Value->Addr->Result->Shared->Prop}{R:VK}(I:Inv X pins σ H s)(h:rX sel wi g tc te σ H R)
  (fin:∀D C' H' s' m,R (.ref D) H'->s'.heap.Ns C' m->cv X pins H' C'->(∀h',Heap.SameBut C' s'.heap h'->Inv X pins σ H' {s' with heap:=h'})->RR (.ref D) C' (.ok .next) s') :
  wpAny (model X.prog X.w) X.A (eval iter X.env) (fun x s₁=>wpAny (model X.prog X.w) X.A (pyIter x) (fun it s₂=>wpAny (model X.prog X.w) X.A (newList []) (fun acc s₃=>
   wpAny (model X.prog X.w) X.A (newFunctionEnv scope X.env.globals cl [] X.env.qual none .none (some X.env)) (fun cenv s₄=>
    codeAny (model X.prog X.w) X.A (.compStart (.ListComp elt [⟨tg,iter,ifs,0⟩] scope pos) 0 it acc {cenv with scope:=relabel scope X.env}) (RR acc cenv.locals) s₄) X.xe s₃) X.xe s₂) X.xe s₁) X.xe s:=by
 refine thn (hi pins s σ H _ I h) fun v s1 h1=>thn h1 fun itv s2 h2=>?_
 obtain⟨it,fp,tn,J,H2,e,I2,T,st2,f2,hD⟩:=h2;subst e;have frD:H2 s2.heap.objs.size=none:=I2.fresh;obtain⟨W,⟨m0,w0⟩,turn⟩:=hD s2.heap.objs.size frD;refine aby ?_;have I3:Inv X pins σ (upd H2 s2.heap.objs.size (.lst [])) {s2 with heap:=s2.heap.push {cls:=.type "list",data:=.seq ([]:List Value).toArray},toks:=s2.toks}:=I2.vS (its:=[]) .nil (acI _);have lt2:∀b∈fp,b<s2.heap.objs.size:=fun b hb=>by
  obtain⟨o,e,_⟩:=T.obj _ _ st2 b hb;exact acw e
 have f3:∀b∈fp,cv X pins (upd H2 s2.heap.objs.size (.lst [])) b:=fun b hb=>⟨by rw[ad (acx (lt2 b hb))];exact(f2 b hb).1,(f2 b hb).2⟩
 generalize eH:upd H2 s2.heap.objs.size (.lst [])=H3 at I3 f3 w0;have hD3:H3 s2.heap.objs.size=some (.lst []):=by rw[←eH];exact aa
 generalize es:({s2 with heap:=s2.heap.push {cls:=.type "list",data:=.seq ([]:List Value).toArray},toks:=s2.toks}:Shared)=s3 at I3;have st3:tn 0 s3.heap:=by
  rw[←es];exact T.keep _ _ _ st2 fun b _ o e=>aaz _ e
 have lt3:∀b∈fp,b<s3.heap.objs.size:=fun b hb=>by
  obtain⟨o,e,_⟩:=T.obj _ _ st3 b hb;exact acw e
 refine wpAny_newFunctionEnv C.nocell (fun x hx=>by simp at hx) (fun h4 hn4 hs4=>?_) C.kind;have k4:∀b o,s3.heap.get? b=some o->h4.get? b=some o:=fun b o e=>hs4.extBut b o (acx (acw e)) (aaz _ e)
 have I4:=C.start (tk:=s3.toks+([]:List (Str×Value)).length) I3 f3 lt3 (by simpa using hn4) k4;have st4:tn 0 h4:=T.keep _ _ _ st3 fun b _ o e=>k4 b o e
 have stat:∀{H':Hp},(∀b∈fp,H' b=none)->∀b∈fp,cv (b9 X scope cl N s3 H3 fp) [] H' b:=fun hn b hb=>
  ⟨hn b hb,acx (lt3 b hb),(C.ok I3 f3 lt3).exfs b hb,.inl hb,fun x c h=>(f3 b hb).2.2.2.2.1 x c (C.cells x c h),fun p hp=>absurd (show p∈([]:List (Addr×Obj)) from hp) (by simp)⟩
 have loop:codeAny (model X.prog X.w) X.A (.compLoop (.ListComp elt [⟨tg,iter,ifs,0⟩] scope pos) 0 (.ref it) (.ref s2.heap.objs.size) (compEnvC scope cl s3.heap.objs.size X.env)) (RR (.ref s2.heap.objs.size) s3.heap.objs.size)
   {s3 with heap:=h4,toks:=s3.toks+([]:List (Str×Value)).length}:=by
  refine oI (fun n s'=>∃i τ H',Inv (b9 X scope cl N s3 H3 fp) [] τ H' s'/\tn i s'.heap/\(∀b∈fp,H' b=none)/\W i n τ H') ?_ m0 ⟨0,dP sel σ,H3,I4,st4,fun b hb=>(f3 b hb).1,w0⟩;rintro n s5 ⟨i,τ5,H5,I5,st5,fr5,w5⟩;rcases turn i n τ5 H5 w5 with ⟨stop,q⟩|⟨go,Nx,hNx,step⟩
  ·refine thn (T.done (b9 X scope cl N s3 H3 fp) rfl rfl rfl hc i [] s5 τ5 H5 _ I5 (stat fr5) st5 stop) fun r s6 ⟨hr,I6⟩=>?_
   subst hr;obtain⟨m6,hn6,_⟩:=id I6.loc;exact fin _ _ H5 s6 m6 q hn6 (I3.fY (acH _) I6.free) fun h' hs'=>C.back I3 f3 I6 hs'
  ·refine thn (T.item (b9 X scope cl N s3 H3 fp) rfl rfl rfl hc i [] s5 τ5 H5 _ I5 (stat fr5) st5 go) fun r s6 ⟨u,hr,h6⟩=>?_
   subst hr;refine thn h6 fun _ s7 ⟨x,H7,I7,r7,y7,st7,fr7⟩=>?_
   have I7':=I7.pinned (stat fr7) (T.obj _ _ st7);have cP:∀{τ':St} {H':Hp} {s':Shared},Inv (b9 X scope cl N s3 H3 fp) ([]++ja fp s7.heap) τ' H' s'->tn (i+1) s'.heap/\∀b∈fp,H' b=none:=fun{τ' H' s'} Iz=>
    ⟨T.keep _ _ _ st7 fun b hb o e=>(Iz.pin (b,o) (aaG _ (aaG _ (f7 hb e)))).1,fun b hb=>by
     obtain⟨o,e,d⟩:=T.obj _ _ st7 b hb;exact(Iz.pin (b,o) (aaG _ (aaG _ (f7 hb e)))).2.1⟩
   refine thn (hg s3 H3 fp _ s7 τ5 H7 x u _ I7' r7 (step x H7 y7)) fun _ s8 ⟨τ8,H8,I8,q8⟩=>?_
   refine thn (ht s3 H3 fp _ s8 τ8 H8 _ I8 q8) fun ok s9 ⟨H9,I9,q9⟩=>?_
   cases ok with
   |false=>
    obtain⟨m',hm,w9⟩:=hNx _ _ (show Nx τ8 H9 from q9);exact⟨m',hm,i+1,τ8,H9,I9.fu,(cP I9).1,(cP I9).2,w9⟩
   |true=>
    have q9:te τ8 H9 _:=q9;refine thn (he s3 H3 fp _ s9 τ8 H9 _ I9 q9) fun y s10 ⟨yv,H10,I10,r10,q10⟩=>?_
    obtain⟨ys,hys,hl,n10⟩:=q10;obtain⟨m',hm,w10⟩:=hNx _ _ n10;refine thn (aY (X:=b9 X scope cl N s3 H3 fp) _ s10 τ8 H10 (.ref s2.heap.objs.size) [yv] (.ref s2.heap.objs.size) [y] (fun _ H'=>W (i+1) m' τ8 H') I10 rfl (.cons r10 .nil) ⟨_,ys,yv,rfl,rfl,hys,hl,w10⟩) fun _ s11 ⟨_,H11,I11,_,w11⟩=>?_
    exact⟨m',hm,i+1,τ8,H11,I11.fu,(cP I11).1,(cP I11).2,w11⟩
 exact codeAny_compStart_list loop (T.self X.A 0 _ _ _ st4 loop)
def cV(C:aU X scope cl N sel){tg iter elt:Expr}{ifs:List Expr}{wi:TI}{g:TG}{tc:TT}{te:TE}{pos:Pos}(hc:X.calm=true)(hi:PI X tg iter wi)
  (hg:∀s₃ H₃ fp,PG (b9 X scope cl N s₃ H₃ fp) tg g)(ht:∀s₃ H₃ fp,PIf (b9 X scope cl N s₃ H₃ fp) ifs tc)(he:∀s₃ H₃ fp,PE (b9 X scope cl N s₃ H₃ fp) elt te)
  (hs:∀x,foldedSetIterable iter X.env x=pure x:=by intro _;rfl):PE X (.ListComp elt [⟨tg,iter,ifs,0⟩] scope pos) (rX sel wi g tc te):=by
 intro pins s σ H Q I h;rw[eval_ListComp];refine wpAny_comprehension_free (use:=none) rfl hs C.clos C.kind C.locs (mO C hc hi hg ht he I h (R:=Q) fun D C' H' s' m q hn _ back=>?_);exact⟨m,hn,fun h' hs'=>⟨.ref D,H',back h' hs',rfl,q⟩⟩
def iQ(C:aU X scope cl N sel){tg iter elt:Expr}{ifs:List Expr}{wi:TI}{g:TG}{tc:TT}{te:TE}{pos spos py:Pos}{y:Str}{k:Nat}(hc:X.calm=true)(hN:X.N.Nodup)(hk:X.N[k]? =some y)(hy:Loc X.env.scope y)(hi:PI X tg iter wi)
  (hg:∀s₃ H₃ fp,PG (b9 X scope cl N s₃ H₃ fp) tg g)(ht:∀s₃ H₃ fp,PIf (b9 X scope cl N s₃ H₃ fp) ifs tc)(he:∀s₃ H₃ fp,PE (b9 X scope cl N s₃ H₃ fp) elt te)
  (hsw:swapsWith (.ListComp elt [⟨tg,iter,ifs,0⟩] scope pos) (some (.Name y py)) spos.line X.env=pure true:=by rfl)
  (hs:∀x,foldedSetIterable iter X.env x=pure x:=by intro _;rfl)(hf:X.fn y=true\/X.env.scope.names.lookup y=some .local:=by first | exact .inl rfl | exact .inr rfl | assumption) :
  PS X (.Assign [.Name y py] (.ListComp elt [⟨tg,iter,ifs,0⟩] scope pos) spos) (rK (rX sel wi g tc te) (iH k)):=by
 intro pins s σ H D I h;rw[exec_Assign_Name_used _ _ _ _ hsw];refine wpAny_bind (wpAny_standAt (wpAny_bind ?_));show wpAny _ X.A (do let _ ←comprehension (.ListComp elt [⟨tg,iter,ifs,0⟩] scope pos) scope X.env _ (newList []) false (eval iter X.env) (some (assign (.Name y py) X.env))) _ _ s;refine wpAny_bind (acM (wpAny_comprehension_free (use:=some (assign (.Name y py) X.env)) (Q:=fun _ s'=>SP X pins D .next s') rfl hs C.clos C.kind C.locs
  (mO C hc hi hg ht he I h (R:=fun x H1=>D.nx (σ.set k (some x)) H1) fun D' C' H' s' m q hn fC back=>?_)) (fun _ s' hq=>wpAny_pure (wpAny_pure hq)) fun _ _ e=>e)
 show wpAny (model X.prog X.w) X.A (assign (.Name y py) X.env (.ref D')) _ _ s';have I':Inv X pins σ H' s':=back s'.heap (.refl ..);obtain⟨oC,hoC,hdC⟩:∃o,s'.heap.get? C'=some o/\∀v,o.data≠.cell v:=by
  obtain⟨o,es,ep,ho,hd,_⟩:=id hn;exact⟨o,ho,fun v z=>by rw[hd] at z;cases z⟩
 have I'':Inv X (pins++[(C',oC)]) σ H' s':=I'.gi fun p hp=>by
  rcases ab0.mp hp with z|z
  ·exact I'.pin p (aaG _ z)
  ·have e:p=(C',oC):=by simpa using z
   subst e;exact⟨hoC,fC.1,fC.2.1,fC.2.2.1,hdC⟩
 refine wpAny_assign_Name (ko I'' hN hk hy (v:=.ref D') rfl (fun s2 I2=>?_) hf);have p2:=I2.pin (C',oC) (aaG _ (aaG _ (by simp)));refine⟨m,?_,fun h' hs'=>⟨σ.set k (some (.ref D')),H',?_,q⟩⟩
 ·obtain⟨o,es,ep,ho,r⟩:=hn;rw[hoC] at ho;cases ho;exact⟨oC,es,ep,p2.1,r⟩
 ·exact I2.fu.turned (t':=s2.toks) (fun b o hb e=>hs'.extBut b o hb e) fC.1 fC.2.1 fC.2.2.2.1 fC.2.2.2.2.1 fC.2.2.2.2.2
end
end L2
namespace SL
open PySem
def cD:Value->Str
 |.str x _=>x
 |_=>Str.empty
def f9(w:World)(e:Int×Value):Prop:=∃k t,e=(hashStr w k,Value.str k t)
def aV(w:World)(h:Heap)(a:Addr)(L:List Str):Prop:=
 ∃o es ep t,h.get? a=some o/\o.ExactSet/\o.data=.set es ep t/\(∀e∈es.toList,f9 w e)/\(es.toList.map fun e=>cD e.2).Perm L/\L.Nodup/\es.size<scanBound/\t.fits es.size=true
  /\t.led=(!w.params.followText "set-order")/\(t.plain=true->es.size=0)
def yg(t:SetTable)(j:Nat):(t.put j).1.led=t.led:=by
 unfold SetTable.put;first | rfl | (split <;> rfl) | (dsimp only;split <;> rfl)
def ui(t:SetTable)(j:Nat):(t.put j).1.plain=t.plain:=by
 unfold SetTable.put;first | rfl | (split <;> rfl) | (dsimp only;split <;> rfl)
def nJ(t:SetTable)(n:Nat):(t.orStandIn n).led=t.led:=by
 unfold SetTable.orStandIn;split <;> rfl
def lp(t:SetTable)(n:Nat)(h:t.plain=false):(t.orStandIn n).plain=false:=by
 unfold SetTable.orStandIn;split
 ·exact h
 ·rfl
def rY(t:SetTable)(es:Array (Int×Value))(h:Int)(x:Value):(layNew t es h x).2.1.led=t.led:=by
 unfold layNew;split
 ·dsimp only;rw[nJ,yg]
 ·rfl
def oJ(t:SetTable)(es:Array (Int×Value))(h:Int)(x:Value)(hp:t.plain=false):(layNew t es h x).2.1.plain=false:=by
 unfold layNew;split
 ·dsimp only;exact lp _ _ (by rw[ui];exact hp)
 ·rfl
def lq{t t':SetTable}{hs:Array Int}{n:Nat}{o:Array Nat}(e:t.relaid hs n=some (t',o)):t'.led=t.led/\t'.plain=t.plain:=by
 unfold SetTable.relaid SetTable.laid at e;cases q:SetTable.layClean (SetTable.sizeAbove n - 1) hs with
 |none=>rw[q] at e;cases e
 |some ow=>
  rw[q] at e;simp only[Option.bind_eq_bind,Option.bind_some] at e;have e:=abY e;have e1:=acN Prod.fst e;constructor
  ·exact(acN SetTable.led e1).symm
  ·exact(acN SetTable.plain e1).symm
def oK(t:SetTable)(es:Array (Int×Value))(n:Nat):(relayAll t es n).2.1.led=t.led:=by
 unfold relayAll;split
 ·rename_i t' o e;dsimp only;split
  ·exact(lq e).1
  ·rfl
 ·rfl
def l4(t:SetTable)(es:Array (Int×Value))(n:Nat)(h:t.plain=false):(relayAll t es n).2.1.plain=false:=by
 unfold relayAll;split
 ·rename_i t' o e;dsimp only;split
  ·rw[(lq e).2];exact h
  ·rfl
 ·rfl
end SL
namespace SL
open PySem
section
variable {prog:Program}{w:World}{A:Around}{E:Value->Shared->Prop}{s:Shared}{a:Addr}{L:List Str}
def f9.of{w:World}(prog:Program){e:Int×Value}(h:f9 w e):(∃k,(strKind prog w).is k e.2=true/\e.1=(strKind prog w).hash k)/\e.2.scannable=true:=by
 obtain⟨k,t,rfl⟩:=h;exact⟨⟨k,by simp[strKind,Value.isStrOf],rfl⟩,rfl⟩
def lv{w:World}{prog:Program}{e:Int×Value}(h:f9 w e)(k:Str):(strKind prog w).is k e.2=true↔cD e.2=k:=by
 obtain⟨x,t,rfl⟩:=h;show Value.isStrOf k (.str x t)=true↔x=k;constructor
 ·intro q;obtain⟨u,e⟩:=Value.isStrOf_shape q;injection e
 ·intro e;subst e;simp[Value.isStrOf]
def l5{w:World}(prog:Program){l:List (Int×Value)}(h:∀e∈l,f9 w e):ElemsOf (strKind prog w) l:=fun e he=>(h e he).of prog
def aV.setOf(prog:Program){h:Heap}(S:aV w h a L):h.SetOf (strKind prog w) a (fun k=>decide (k∈L)) L.length:=by
 obtain⟨o,es,ep,t,ho,hex,hd,hel,hp,nd,hb,hf,_,_⟩:=S;refine⟨o,es,ep,t,ho,hex,hd,l5 prog hel,fun k=>?_,hb,hf,?_⟩
 ·rw[abz,←hp.mem_iff,acB];exact⟨fun⟨e,he,q⟩=>⟨e,he,(lv (hel e he) k).mpr q⟩,fun⟨e,he,q⟩=>⟨e,he,(lv (hel e he) k).mp q⟩⟩
 ·have:=hp.length_eq;rw[ab3,aa2] at this;exact this
def aV.at{h h':Heap}(S:aV w h a L)(k:∀o,h.get? a=some o->h'.get? a=some o):aV w h' a L:=by
 obtain⟨o,es,ep,t,ho,r⟩:=S;exact⟨o,es,ep,t,k o ho,r⟩
def aV.there{h:Heap}(S:aV w h a L):∃o,h.get? a=some o:=by
 obtain⟨o,es,ep,t,ho,r⟩:=S;exact⟨o,ho⟩
def vV{Q:Value->Shared->Prop}
  (h:∀h',aV w h' s.heap.objs.size []->(∀b o,s.heap.get? b=some o->h'.get? b=some o)->Q (.ref s.heap.objs.size) {s with heap:=h'}) :
  wpAny (model prog w) A (newSet (.type "set")) Q E s:=by
 unfold newSet setsByText;refine wpAny_bind (wpAny_bind (abM (wpAny_pure ?_)));dsimp only;simp only[newObj];refine wpAny_bind (wpAny_alloc (wpAny_pure (h _ ⟨_,#[],0,_,aa3 _ rfl,⟨rfl,rfl,rfl⟩,rfl,fun e he=>by simp at he,.refl _,acj,by decide,by rfl,rfl,fun _=>rfl⟩ fun b o e=>aaz _ e)))
def cy(L:List Str)(x:Str):List Str:=if x∈L then L else L++[x]
def iR{L:List Str}{x:Str}(h:L.Nodup):(cy L x).Nodup:=by
 unfold cy;split
 ·exact h
 ·rename_i hx;rw[abA];refine⟨h,by simp,fun a ha b hb=>?_⟩;rw[abl] at hb;subst hb;exact fun e=>hx (e▸ha)
def oM{L:List Str}{x y:Str}:y∈cy L x↔y∈L\/y=x:=by
 unfold cy;split
 ·rename_i hx;exact⟨.inl,fun z=>z.elim id fun e=>e▸hx⟩
 ·rw[ab0,abl]
def j5{x:Str}{t₀:Tok}{Q:Bool->Shared->Prop}(S:aV w s.heap a L)(hroom:L.length+1<scanBound)
  (h:∀h',Heap.SameBut a s.heap h'->aV w h' a (cy L x)->Q (!decide (x∈L)) {s with heap:=h'}) :
  wpAny (model prog w) A (setAddHashed a (.str x t₀) (hashStr w x)) Q E s:=by
 have hkey:(strKind prog w).is x (.str x t₀)=true:=by simp[strKind,Value.isStrOf]
 obtain⟨o,es,ep,t,ho,hex,hd,hel,hp,nd,hb,hf,hled,hpl⟩:=id S;have hn:es.size=L.length:=by
  have:=hp.length_eq;rw[ab3,aa2] at this;exact this
 have hb1:es.size+1<scanBound:=by rw[hn];exact hroom
 unfold setAddHashed setAddHashedIn;refine act (wpAny_bind (abB ho hd hf ?_));dsimp only;rw[byScan_of (knd:=strKind prog w) rfl hb (l5 prog hel)];simp only[↓reduceIte];unfold setAddByScan;refine wpAny_bind ?_;refine wpAny_bind (wpAny_rule ?_);refine wpAny_bind (wpAny_setScan_of (knd:=strKind prog w) (k:=x) hkey ho hd hf (l5 prog hel) ?_);cases hr:List.findIdx? (fun e=>(strKind prog w).is x e.2) es.toList with
 |some j=>
  dsimp only;obtain⟨hj,hpj,_⟩:=List.findIdx?_eq_some_iff_getElem.mp hr;have hx:x∈L:=by
   rw[←hp.mem_iff,acB];exact⟨_,abN hj,(lv (hel _ (abN hj)) x).mp hpj⟩
  refine wpAny_pure (wpAny_pure ?_);have e:s={s with heap:=s.heap}:=by cases s;rfl
  have q:=h s.heap (Heap.SameBut.refl a s.heap) (by rw[cy,acR hx];exact S);rw[aci hx] at q;rw[e];exact q
 |none=>
  dsimp only;have hx:¬x∈L:=by
   rw[←hp.mem_iff,acB];rintro⟨e,he,q⟩;have z:=List.findIdx?_eq_none_iff.mp hr e he;rw[(lv (hel e he) x).mpr q] at z;cases z
  have hgw:∀(b:Bool) {s₁:Shared} {Q':Unit->Shared->Prop},Q' () s₁->wpAny (model prog w) A (match b with | true=>rule "set.scan.the-table-gave-way" | false=>pure ()) Q' E s₁:=
   fun b s₁ Q' hq=>by cases b <;> first | exact wpAny_pure hq | exact wpAny_rule hq
  have hperm:=layNew_perm t es (hashStr w x) (.str x t₀);have hfits:=layNew_fits t es (hashStr w x) (.str x t₀);have hledN:=rY t es (hashStr w x) (.str x t₀);have hplN:=oJ t es (hashStr w x) (.str x t₀);generalize hL:layNew t es (hashStr w x) (.str x t₀)=L0 at hperm hfits hledN hplN ⊢;obtain⟨es1,t1,wasDummy,gave⟩:=L0;dsimp only at hperm hfits hledN hplN ⊢;rw[Array.toList_push] at hperm;have hel1:∀e∈es1.toList,f9 w e:=fun e he=>by
   rcases ab0.mp (hperm.mem_iff.mp he) with z|z
   ·exact hel e z
   ·rw[abl] at z;exact⟨x,t₀,z⟩
  have hp1:(es1.toList.map fun e=>cD e.2).Perm (L++[x]):=by
   refine(hperm.map _).trans ?_;rw[ab9];exact hp.append_right _
  have hsz1:es1.size=es.size+1:=by rw[←aa2,hperm.length_eq,abi,aa2];rfl
  have hb1':es1.size<scanBound:=by rw[hsz1];exact hb1
  have nd1:(L++[x]).Nodup:=by
   have:=iR (x:=x) nd;rw[cy,acS hx] at this;exact this
  refine wpAny_bind (hgw _ ?_);have tail:∀t2:SetTable,t2.fits es1.size=true->t2.led=t.led->t2.plain=false->wpAny (model prog w) A (do
    storeSet a es1 t2
    if (!wasDummy && t2.tooFull)=true then do
      (match (relayAll t2 es1 (SetTable.grown es1.size)).2.2 with | true=>rule "set.scan.the-table-gave-way" | false=>pure ())
      storeSet a (relayAll t2 es1 (SetTable.grown es1.size)).1 (relayAll t2 es1 (SetTable.grown es1.size)).2.1
      pure (some true)
     else pure (some true)) (fun r s'=>r=some true/\∃h',s'={s with heap:=h'}/\Heap.SameBut a s.heap h'/\aV w h' a (L++[x])) E s:=by
   intro t2 f2 l2 p2;refine wpAny_bind (wpAny_storeSet_of ho hd ?_ (fits_of_scanBound hb1'));have hsb1:=aa6 s.heap a (Obj.putSet es1 t2);have ho1:(s.heap.update a (Obj.putSet es1 t2)).get? a=some {o with data:=.set es1 (ep+1) t2}:=by
    have:=aaK (Obj.putSet es1 t2) ho (by rw[putSet_of es1 t2 hd];rfl);rw[putSet_of es1 t2 hd] at this;exact this
   have fin:∀{h1:Heap} {o1:Obj} {e2:Array (Int×Value)} {n2:Nat} {t3:SetTable},h1.get? a=some o1->o1.ExactSet->o1.data=.set e2 n2 t3->e2.toList.Perm es1.toList->t3.fits e2.size=true->t3.led=t.led->t3.plain=false->aV w h1 a (L++[x]):=by
    intro h1 o1 e2 n2 t3 q1 q2 q3 pq q4 q5 q6;refine⟨o1,e2,n2,t3,q1,q2,q3,fun e he=>hel1 e (pq.mem_iff.mp he),(pq.map _).trans hp1,nd1,?_,q4,q5.trans hled,fun z=>by rw[q6] at z;cases z⟩;have:e2.size=es1.size:=by rw[←aa2,pq.length_eq,aa2]
    rw[this];exact hb1'
   split
   ·have hpr:=relayAll_perm t2 es1 (SetTable.grown es1.size);have hfr:=relayAll_fits t2 es1 (SetTable.grown es1.size);have hlr:=oK t2 es1 (SetTable.grown es1.size);have hplr:=l4 t2 es1 (SetTable.grown es1.size) p2;generalize hRl:relayAll t2 es1 (SetTable.grown es1.size)=Rl at hpr hfr hlr hplr ⊢;obtain⟨es2,t3,gave2⟩:=Rl;dsimp only at hpr hfr hlr hplr ⊢;have hsz:es2.size=es1.size:=by rw[←aa2,hpr.length_eq,aa2]
    have hb2:es2.size<scanBound:=by rw[hsz];exact hb1'
    refine wpAny_bind (hgw _ ?_);refine wpAny_bind (wpAny_storeSet_of ho1 rfl ?_ (fits_of_scanBound hb2));have ho2:=aaK (Obj.putSet es2 t3) ho1 (by rw[putSet_of es2 t3 rfl];rfl);rw[putSet_of es2 t3 rfl] at ho2;exact wpAny_pure ⟨rfl,_,rfl,hsb1.trans (aa6 _ a _),fin ho2 hex rfl hpr hfr (hlr.trans l2) hplr⟩
   ·exact wpAny_pure ⟨rfl,_,rfl,hsb1,fin ho1 hex rfl (.refl _) f2 l2 p2⟩
  have done:∀r s',(r=some true/\∃h',s'={s with heap:=h'}/\Heap.SameBut a s.heap h'/\aV w h' a (L++[x]))->r=some true/\Q true s':=by
   rintro r s' ⟨rfl,h',rfl,hs,S'⟩;have q:=h h' hs (by rw[cy,acS hx];exact S');rw[abX hx] at q;exact⟨rfl,q⟩
  split
  ·rename_i hp1';refine wpAny_bind ?_;rw[hashByValue_scannable 8 (show(Value.str x t₀).scannable=true from rfl)];refine wpAny_pure ?_;refine acM (tail _ ?_ ?_ ?_) (fun r s' q=>?_) fun _ _ e=>e
   ·exact SetTable.fits_plain_off hfits
   ·exact hledN
   ·rfl
   ·obtain⟨rfl,q'⟩:=done r s' q;exact wpAny_pure q'
  ·rename_i hp1';refine wpAny_bind (wpAny_pure ?_);simp only[↓reduceIte];refine acM (tail t1 hfits hledN (by cases z:t1.plain with | false=>rfl | true=>exact absurd z hp1')) (fun r s' q=>?_) fun _ _ e=>e
   obtain⟨rfl,q'⟩:=done r s' q;exact wpAny_pure q'
def zB{x:Str}{t₀:Tok}{Q:Option Nat->Shared->Prop}(S:aV w s.heap a L)(h:∀r:Option Nat,r.isSome=decide (x∈L)->Q r s) :
  wpAny (model prog w) A (setFind a (.str x t₀) (hashStr w x)) Q E s:=
 wpAny_setFind_of (knd:=strKind prog w) (k:=x) (by simp[strKind,Value.isStrOf]) rfl (S.setOf prog) h
end
end SL
namespace SL
open PySem PySem.Spec
def gz(val:Nat->Str)(i:Nat):List Str:=((List.range i).map val).foldl cy []
def mP(val:Nat->Str)(i:Nat):gz val (i+1)=cy (gz val i) (val i):=by
 unfold gz;rw[List.range_succ,ab9,List.foldl_append];rfl
def kB(L:List Str)(x:Str):(cy L x).length<=L.length+1:=by
 unfold cy;split
 ·omega
 ·simp
def oN(val:Nat->Str):∀i,(gz val i).length<=i
 |0=>acH _
 |i+1=>by
  rw[mP];have:=kB (gz val i) (val i);have:=oN val i;omega
def aj(ss:List Str):List Str:=ss.foldl cy []
def mQ:∀(ss L:List Str) (x:Str),x∈ss.foldl cy L↔x∈L\/x∈ss
 |[],L,x=>by simp
 |y::r,L,x=>by
  rw[List.foldl_cons,mQ r,oM,acq,or_assoc]
def j6:∀(ss L:List Str),L.Nodup->(ss.foldl cy L).Nodup
 |[],L,h=>h
 |y::r,L,h=>j6 r _ (iR h)
def bE{ss:List Str}{x:Str}:x∈aj ss↔x∈ss:=by
 unfold aj;rw[mQ];simp
def bZ(ss:List Str):(aj ss).Nodup:=j6 ss [] acj
def mR:∀(ss L:List Str),(ss.foldl cy L).length<=L.length+ss.length
 |[],L=>by simp
 |y::r,L=>by
  have h1:=mR r (cy L y);have h2:=kB L y;rw[List.foldl_cons,abI];omega
def gQ(ss:List Str):(aj ss).length<=ss.length:=by
 have:=mR ss [];simpa [aj] using this
def uj(ss:List Str):gz (fun i=>ss.getD i Str.empty) ss.length=aj ss:=by
 unfold gz aj;have e:(List.range ss.length).map (fun i=>ss.getD i Str.empty)=ss:=by
  apply List.ext_getElem
  ·simp
  ·intro i h1 h2;simp only[List.getElem_map,List.getElem_range];rw[aah,aao h2];rfl
 rw[e]
section
variable {prog:Program}{w:World}{A:Around}{R:Result->Shared->Prop}{I:Addr}{fp wr:List Addr}{G:Array GenState->Array GenState->Prop}{n:Nat}{P:Nat->Value->Prop}{St:Nat->Shared->Prop}
def nM(W:WalksS prog w A.in1 I fp wr G n P St)(S:Addr)(hSf:S ∉ fp)
  (val:Nat->Str)(hval:∀i v,P i v->∃t,v=.str (val i) t)(hb:n+1<scanBound) :
  ∀(k i:Nat) (s:Shared),n - i=k->i<=n->St i s->aV w s.heap S (gz val i)->
   (∀s',Moved (S::wr) G s s'->aV w s'.heap S (gz val n)->R (.ok (.ret .none)) s')->
   codeAny (model prog w) A (.builtin "set.update.loop" ⟨[.ref S,.ref I],[]⟩) R s:=by
 have hSw:S ∉ wr:=fun h=>hSf (W.sub _ h)
 have hsub:∀b∈wr,b∈S::wr:=fun b hb=>aaU _ hb
 intro k
 induction k with
 |zero=>
  intro i s hk hi hst hS hR;have hin:i=n:=by omega
  subst hin;refine aca PyProof.Rows.F.entry_set_update_loop ?_;rw[aaX aaa _];show wpAny _ A.in1 (pyNext (.ref I) >>= _) _ _ s;refine wpAny_bind (W.done s _ _ hst fun s' hm=>?_);show wpAny _ A.in1 (ret Value.none) _ _ s';exact wpAny_pure (hR s' (hm.mono hsub) (hS.at fun o e=>hm.heap S _ hSw e))
 |succ k ih=>
  intro i s hk hi hst hS hR;have hlt:i<n:=by omega
  refine aca PyProof.Rows.F.entry_set_update_loop ?_;rw[aaX aaa _];show wpAny _ A.in1 (pyNext (.ref I) >>= _) _ _ s;refine wpAny_bind (W.item i s _ _ hlt hst fun v s' hP hst' hm=>?_);obtain⟨t,rfl⟩:=hval i v hP;have hS':aV w s'.heap S (gz val i):=hS.at fun o e=>hm.heap S _ hSw e
  show wpAny _ A.in1 (holding [Value.str (val i) t] (setAdd S (.str (val i) t)) >>= _) _ _ s';refine wpAny_bind (act ?_);unfold setAdd;refine act ?_;refine wpAny_bind ((strKind prog w).pyHash (k:=val i) (by simp[strKind,Value.isStrOf]) ?_);have hroom:(gz val i).length+1<scanBound:=by have:=oN val i;omega
  refine j5 (x:=val i) (t₀:=t) (s:={s' with toks:=s'.toks+1}) hS' hroom fun h' hsb hS2=>?_
  rw[←mP] at hS2;refine wpAny_pure ⟨plainId_quiet aaa _,ih (i+1) _ (by omega) hlt (W.frame _ s' _ _ hst' (acK _) fun b hb o e=>?_) hS2 fun s'' hm'' hS''=>?_⟩
  ·rw[hsb.2 b (fun h:b=S=>hSf (by rw[←h];exact hb))];exact e
  ·refine hR s'' (Moved.trans W.gtrans ((hm.mono hsub).then_heap (acK _) fun b o hb e=>?_) hm'') hS'';rw[hsb.2 b (fun h:b=S=>hb (by rw[h];exact abe))];exact e
end
section
variable {prog:Program}{w:World}{A:Around}{E:Value->Shared->Prop}{s:Shared}
abbrev cn(w:World):Obj:={cls:=.type "set",dict:=none,data:=.set #[] 0 (.fresh 0 0 (!w.params.followText "set-order"))}
def yh{h:Heap}{a:Addr}(e:h.get? a=some (cn w)):aV w h a []:=
 ⟨_,#[],0,_,e,⟨rfl,rfl,rfl⟩,rfl,fun e he=>by simp at he,.refl _,acj,by decide,by rfl,rfl,fun _=>rfl⟩
def l6(a:Value){Q₁:Value->Shared->Prop}(h:Q₁ (.ref s.heap.objs.size) {s with heap:=s.heap.push (cn w)}) :
  codeAny (model prog w) A (.call (.builtin "set.__new__") ⟨[.type "set",a],[]⟩) (wants Q₁ E) s:=by
 refine codeAny_of_tree ?_;show wpAny _ A.in1 (do checkBuiltinCall "set.__new__" ⟨[.type "set",a],[]⟩;again (.builtin "set.__new__" ⟨[.type "set",a],[]⟩)) _ _ s;refine wpAny_bind (wpAny_of_eq (F.newCall_set_1 a) (wpAny_pure ⟨plainId_quiet F.plain_set_new _,aca F.entry_set_new ?_⟩));rw[aaX F.plain_set_new _];unfold Builtin.«set.__new__» Builtin.Frozenset.newClass;have hsub:=sub_set_self;obtain⟨hp,g,d,tk,os⟩:=s;dsimp only
 wp_walk
 refine abM (wpAny_pure ?_);dsimp only;simp only[newObj];refine wpAny_bind (wpAny_alloc (wpAny_pure ?_));exact wpAny_pure h
set_option maxHeartbeats 8000000 in
def nO{l:Addr}{items:Array Value}{ss:List Str}{Q:Value->Shared->Prop}
  (hh:A.handled=none)(hl:s.heap.IsList l items)(hi:∀(i:Nat) (v:Value),items[i]? =some v->∃t,v=.str (ss.getD i Str.empty) t)(hn:items.size=ss.length)(hb:items.size+1<scanBound)
  (h:∀(h':Heap) (tk:Nat),aV w h' s.heap.objs.size (aj ss)->
   (∀b o,b<s.heap.objs.size->s.heap.get? b=some o->h'.get? b=some o)->Q (.ref s.heap.objs.size) {s with heap:=h',toks:=tk}) :
  wpAny (model prog w) A (call (.type "set") [.ref l]) Q E s:=by
 obtain⟨c,tl,hmro⟩:=acC.mro;have hmade:=acC.made;have hsub:=acC.sub;refine wpAny_call (codeAny_of_tree ?_);show wpAny _ _ (callAny (.type "set") _) _ _ _;refine wpAny_pure ⟨Code.quiet_builtin _ (by decide +kernel),aca F.entry_type_call ?_⟩;rw[Around.under_plain (weight_type_call_type "set" [.ref l] []) rfl];have h1:=acC.notType;have h2:=acC.canCreate;have hct:=F.typeCall_set_1 (.ref l)
 repeat (any_goals (first | assumption | wp_step))
 refine acA (l6 (.ref l) (E:=E) (Q₁:=fun obj s₁=>obj=.ref s.heap.objs.size/\s₁={s with heap:=s.heap.push (cn w)}) ⟨rfl,rfl⟩) fun r s₁ hr=>?_
 cases r with
 |error e=>exact hr
 |ok fl=>
  cases fl with
  |ret obj=>
   obtain⟨rfl,rfl⟩:=hr;have hS:(s.heap.push (cn w)).get? s.heap.objs.size=some (cn w):=aa3 _ rfl;have hT:Shared.TypeIs {s with heap:=s.heap.push (cn w)} (.ref s.heap.objs.size) "set":=⟨_,hS,rfl⟩;have hli:=acC.init.lookup;have hbi:=acC.init.bind (.ref s.heap.objs.size)
   repeat (any_goals (first | assumption | wp_step))
   refine acA (codeAny_call_builtin (R:=wants (fun r s₂=>r=.none/\∃h' tk,s₂={s with heap:=h',toks:=tk}/\aV w h' s.heap.objs.size (aj ss)/\
     (∀b o,b<s.heap.objs.size->s.heap.get? b=some o->h'.get? b=some o)) E) acC.init.plain F.entry_set_init (check_set_init_1 hT ?_)) fun r₂ s₂ hr₂=>?_
   ·obtain⟨ol,hol,hcl,nl,hdl⟩:=hl;obtain⟨ocls,odict,odata,oslots⟩:=ol;simp only at hcl hdl;subst hcl;subst hdl;have hol':(s.heap.push (cn w)).get? l=some {cls:=.type "list",dict:=odict,data:=.seq items nl,slots:=oslots}:=aaz _ hol;have hsls:=F.sub_list_set;have hslf:=F.sub_list_frozenset;have hne:(Value.type "list" == Value.type "dict")=false:=by decide
    have hl1:(s.heap.push (cn w)).IsList l items:=⟨_,hol',rfl,nl,rfl⟩;unfold Builtin.«set.__init__» noKeywords Builtin.Frozenset.updateFrom;generalize hPI:pyIter=PI
    wp_walk
    subst hPI;refine wpAny_pyIter_list hl1 ?_;refine wpAny_bind (wpAny_runValue ?_);have hlS:l<s.heap.objs.size:=acw hol;have hh3:A.in1.in1.in1.handled=none:=by simp[hh]
    have hneI:l≠(s.heap.push (cn w)).objs.size:=by
     rw[ach];exact acx (abC hlS)
    have hSf:s.heap.objs.size ∉ [(s.heap.push (cn w)).objs.size,l]:=by
     rw[ach];simp only[acq,abl,abO,acP,not_or];exact⟨acx (abJ _),Nat.ne_of_gt hlS⟩
    refine nM ((Walks.list hh3 _ l hneI items).toS) s.heap.objs.size
     hSf (fun i=>ss.getD i Str.empty) hi hb (items.size - 0) 0 _ (by omega) (acI _)
     ⟨⟨_,aa3 _ rfl,rfl,rfl⟩,(hl1.push _)⟩ ?hS0 ?hR
    case hS0=>exact yh (aaz _ hS)
    case hR=>
     intro s' hm hS';rw[hn,uj] at hS';obtain⟨h',g',d',tk',os'⟩:=s';have eg:g'=s.gens:=hm.gens;have ed:d'=s.drawn:=hm.drawn;have eo:os'=s.os:=hm.os;subst eg;subst ed;subst eo;show wpAny _ _ _ _ _ _;refine wpAny_pure ?_;show wpAny _ _ (ret Value.none) _ _ _;refine wpAny_pure ⟨rfl,h',tk',rfl,hS',fun b o hb e=>?_⟩;have hb1:b≠s.heap.objs.size:=acx hb;have hb2:b≠(s.heap.push (cn w)).objs.size:=by
      rw[ach];exact acx (abC hb)
     exact hm.heap b o (by simp only[acq,abl,abO,acP,not_or];exact⟨hb1,hb2⟩) (aaz _ (aaz _ e))
   ·cases r₂ with
    |error e=>exact hr₂
    |ok fl₂=>
     cases fl₂ with
     |ret r=>
      obtain⟨rfl,h',tk,rfl,hS',hk'⟩:=hr₂
      repeat (any_goals (first | assumption | wp_step))
      exact h _ _ hS' hk'
     |_=>exact hr₂.elim
  |_=>exact hr.elim
end
end SL
namespace SL
open PySem
def fZ{α:Type}:∀(l:List α) (i:Nat) (h:i<l.length),(l[i]::l.eraseIdx i).Perm l
 |[],i,h=>by simp at h
 |x::r,0,h=>.refl _
 |x::r,i+1,h=>by
  have hi:i<r.length:=by simpa using h
  have:=fZ r i hi;show(r[i]::x::r.eraseIdx i).Perm (x::r);exact(List.Perm.swap _ _ _).trans (List.Perm.cons _ this)
def qH{α:Type}(next:Nat->Nat):∀(fuel k:Nat) (left:List α) (out:Array α),left.length<=fuel->(pickOrder.go next fuel k left out).toList.Perm (out.toList++left)
 |0,k,left,out,h=>by
  have e:left=[]:=aav.mp (by omega);subst e;unfold pickOrder.go;simp
 |fuel+1,k,left,out,h=>by
  unfold pickOrder.go;cases e:left[next k % left.length]? with
  |none=>
   have hl:left.length=0:=by
    rcases Nat.eq_zero_or_pos left.length with z|z
    ·exact z
    ·have:=Nat.mod_lt (next k) z;rw[aao this] at e;cases e
   have:left=[]:=aav.mp hl;subst this;simp
  |some x=>
   dsimp only;obtain⟨hi,hx⟩:=aaj.mp e;have hlen:(left.eraseIdx (next k % left.length)).length<=fuel:=by
    rw[List.length_eraseIdx_of_lt hi];omega
   refine(qH next fuel (k+1) _ (out.push x) hlen).trans ?_;rw[Array.toList_push,abw];refine List.Perm.append_left _ ?_;have:=fZ left _ hi;rw[hx] at this;exact this
def im{α:Type}(next:Nat->Nat)(xs:Array α):(pickOrder next xs).toList.Perm xs.toList:=by
 unfold pickOrder;have:=qH next xs.size 0 xs.toList #[] (by simp);simpa using this
section
variable {M:Model}{A:Around}{E:Value->Shared->Prop}
def oO{src:Source}{n:Nat}{s:Shared}{Q:Nat->Shared->Prop}(hn:n≠0)(h:∀i,i<n->Q i {s with drawn:=s.drawn.bump src}):wpAny M A (choose src n) Q E s:=by
 have hlt:M.w.draws src (s.drawn.get src) % n<n:=Nat.mod_lt _ (Nat.pos_of_ne_zero hn);exact fun _ _ _=>⟨hn,h _ hlt⟩
def io{α:Type}:∀(n:Nat) (xs:List α) (s:Shared) {Q:List α->Shared->Prop},xs.length=n->(∀ys d,ys.Perm xs->Q ys {s with drawn:=d})->wpAny M A (drawOrder n xs) Q E s
 |0,xs,s,Q,hl,h=>by
  have e:xs=[]:=aav.mp hl;subst e;exact wpAny_pure (h [] s.drawn (.refl _))
 |n+1,[],s,Q,hl,h=>by simp at hl
 |n+1,x::xs,s,Q,hl,h=>by
  unfold drawOrder;refine wpAny_bind (oO (by simp) fun i hi=>?_);have e:(x::xs)[i]? =some (x::xs)[i]:=aao hi;rw[e];dsimp only;refine wpAny_bind (io n _ _ ?_ fun ys d hp=>wpAny_pure ?_)
  ·rw[List.length_eraseIdx_of_lt hi];simp at hl ⊢;exact hl
  ·refine h _ d ?_;exact(List.Perm.cons _ hp).trans (fZ (x::xs) i hi)
end
def rZ{xs:Array Nat}(h:xs.size<=1):SetTable.below xs 0=0:=by
 unfold SetTable.below;rcases Nat.eq_zero_or_pos xs.size with z|z
 ·rw[z];rfl
 ·have e:xs.size=1:=by omega
  rw[e];unfold SetTable.below.go;simp[SetTable.below.go]
def r6{xs:Array Nat}(h:xs.size=1):SetTable.below xs (xs.getD 0 0+1)=1:=by
 unfold SetTable.below;rw[h];obtain⟨j,hj⟩:∃j,xs[0]? =some j:=⟨xs[0],aal (by omega)⟩;have e1:xs.getD 0 0=j:=by rw[aaf,hj];rfl
 have e2:xs.getD 0 (j+1)=j:=by rw[aaf,hj];rfl
 rw[e1];unfold SetTable.below.go;simp only[Nat.zero_lt_one,if_true,Nat.zero_add,show 1 / 2=0 from rfl,e2,abJ];unfold SetTable.below.go;rfl
def cW:Slot "set_iterator" "__next__" "set_iterator.__next__":=
 .of (owner:="set_iterator") (n:="__next__") (by rw[typeLookup_type,aaL];kernel_rfl) (by decide +kernel) (by decide +kernel) (by decide +kernel)
  (by first | exact .inl (by decide +kernel) | exact .inr (by decide +kernel)) (by rw[isSubtype_type];kernel_rfl)
def i7:entryFor table "set_iterator.__next__"=some Builtin.«set_iterator.__next__»:=entryFor_of_tree (by kernel_rfl)
def oQ:Manifest.owners.lookup (String.ofList ['r','o','t','a','r','e','t','i','_','t','e','s'].reverse)=some Manifest.sig_set_iterator:=by kernel_rfl
def jh(a:Value):argsOk "set_iterator.__next__" ⟨[a],[]⟩:=by
 unfold argsOk;rw[signature?_of (id:="set_iterator.__next__") (n:=['_','_','t','x','e','n','_','_']) (o:=['r','o','t','a','r','e','t','i','_','t','e','s']) (by kernel_rfl) oQ];kernel_rfl
def ji:Slot "set_iterator" "__iter__" "set_iterator.__iter__":=
 .of (owner:="set_iterator") (n:="__iter__") (by rw[typeLookup_type,aaL];kernel_rfl) (by decide +kernel) (by decide +kernel) (by decide +kernel)
  (by first | exact .inl (by decide +kernel) | exact .inr (by decide +kernel)) (by rw[isSubtype_type];kernel_rfl)
def nQ:entryFor table "set_iterator.__iter__"=some Builtin.«dict_keyiterator.__iter__»:=entryFor_alias (id':="dict_keyiterator.__iter__") (by kernel_rfl) rfl (by decide +kernel) (by kernel_rfl)
def oR(a:Value):argsOk "set_iterator.__iter__" ⟨[a],[]⟩:=by
 unfold argsOk;rw[signature?_of (id:="set_iterator.__iter__") (n:=['_','_','r','e','t','i','_','_']) (o:=['r','o','t','a','r','e','t','i','_','t','e','s']) (by kernel_rfl) oQ];kernel_rfl
def l8:entryFor table "set.__iter__"=some Builtin.«frozenset.__iter__»:=entryFor_alias (id':="frozenset.__iter__") (by kernel_rfl) rfl (by decide +kernel) (by kernel_rfl)
inductive SIt(w:World)(h:Heap)(I a tp:Addr)(vs:List Value)(i:Nat):Prop where
 |txt {o:Obj} {es:Array (Int×Value)} {ep:Nat} {t:SetTable} {sl:Int} (ho:h.get? a=some o) (hd:o.data=.set es ep t) (hf:t.fits es.size=true) (by_:w.params.followText "set-order"=true)
   (hv:vs=(pickOrder (w.params.setOrder a ep) es).toList.map (·.2)) (hI:h.get? I=some {cls:=.type "set_iterator",data:=.fields #[.int sl 0,.int i 0,.ref a,.int es.size 0,.int ep 0]}):SIt w h I a tp vs i
 |drw {o:Obj} {es:Array (Int×Value)} {ep:Nat} {t:SetTable} {ps:List Nat} (ho:h.get? a=some o) (hd:o.data=.set es ep t) (hf:t.fits es.size=true)
   (hv:vs.map some=ps.map fun p=>(es[p]?).map (·.2)) (ht:h.get? tp=some {cls:=.type "tuple",data:=.seq (ps.map fun(p:Nat)=>rawInt p).toArray})
   (hI:h.get? I=some {cls:=.type "set_iterator",data:=.fields #[.ref tp,.int i 0,.ref a,.int es.size 0,.int ep 0]}):SIt w h I a tp vs i
 |one {o:Obj} {es:Array (Int×Value)} {ep:Nat} {t:SetTable} (ho:h.get? a=some o) (hd:o.data=.set es ep t) (hf:t.fits es.size=true) (by_:w.params.followText "set-order"=false) (hl:t.led=true) (hz:es.size<=1)
   (hv:vs=es.toList.map (·.2)) (hI:h.get? I=some {cls:=.type "set_iterator",data:=.fields #[.int (if i=0 then 0 else (t.place.getD 0 0:Nat)+1) 0,.int i 0,.ref a,.int es.size 0,.int ep 0]}):SIt w h I a tp vs i
def SIt.keep{w:World}{h h':Heap}{I a tp:Addr}{vs:List Value}{i:Nat}(x:SIt w h I a tp vs i)(k:∀b∈[I,a,tp],∀o,h.get? b=some o->h'.get? b=some o):SIt w h' I a tp vs i:=by
 have kI:=k I (by simp);have ka:=k a (by simp);have kt:=k tp (by simp);cases x with
 |txt ho hd hf b hv hI=>exact .txt (ka _ ho) hd hf b hv (kI _ hI)
 |drw ho hd hf hv ht hI=>exact .drw (ka _ ho) hd hf hv (kt _ ht) (kI _ hI)
 |one ho hd hf b hl hz hv hI=>exact .one (ka _ ho) hd hf b hl hz hv (kI _ hI)
def SIt.typeIs{w:World}{s:Shared}{I a tp:Addr}{vs:List Value}{i:Nat}(x:SIt w s.heap I a tp vs i):s.TypeIs (.ref I) "set_iterator":=by
 cases x with
 |txt ho hd hf b hv hI=>exact⟨_,hI,rfl⟩
 |drw ho hd hf hv ht hI=>exact⟨_,hI,rfl⟩
 |one ho hd hf b hl hz hv hI=>exact⟨_,hI,rfl⟩
section
variable {prog:Program}{w:World}{A:Around}{E:Value->Shared->Prop}{s:Shared}{I a tp:Addr}{vs:List Value}{i:Nat}
def j7{o:Obj}{es:Array (Int×Value)}{ep:Nat}{t:SetTable}{Q:Array (Int×Value)->Shared->Prop}(ho:s.heap.get? a=some o)(hd:o.data=.set es ep t)(hf:t.fits es.size=true)(b:w.params.followText "set-order"=true)
  (h:Q (pickOrder (w.params.setOrder a ep) es) s):wpAny (model prog w) A (setWalk a) Q E s:=by
 unfold setWalk setsByText;refine wpAny_bind (abB ho hd hf ?_);dsimp only;refine wpAny_bind (wpAny_bind (abM (wpAny_pure ?_)));show wpAny _ _ (if (w.params.followText "set-order")=true then _ else _) _ _ _;rw[acR b];exact wpAny_bind (abM (wpAny_pure h))
def yi{v:Value}{Q:Option Value->Shared->Prop}(x:SIt w s.heap I a tp vs i)(hIa:I≠a)(hIt:I≠tp)(hv:vs[i]? =some v)
  (h:∀h',SIt w h' I a tp vs (i+1)->(∀b o,b≠I->s.heap.get? b=some o->h'.get? b=some o)->Q (some v) {s with heap:=h'}):wpAny (model prog w) A (pyNext (.ref I)) Q E s:=by
 unfold pyNext;refine wpAny_bind (wpAny_attempt (aaw (name:=Str.ofString "__next__") x.typeIs cW
  (abP cW x.typeIs i7 ?_ (jh _))))
 unfold Builtin.«set_iterator.__next__»;refine wpAny_bind (wpAny_pure ?_);cases x with
 |@txt o es ep t sl ho hd hf b hve hI=>
  refine wpAny_bind (ack hI rfl ?_);dsimp only;refine wpAny_bind (aa7 ho hd hf ?_);rw[acS (by simp)];unfold setNext setsByText;refine wpAny_bind (wpAny_bind (abB ho hd hf ?_));dsimp only;refine wpAny_bind (wpAny_bind (abM (wpAny_pure ?_)));show wpAny _ _ (if (w.params.followText "set-order")=true then _ else _) _ _ _;rw[acR b,acS (by simp)];refine wpAny_bind (j7 ho hd hf b (wpAny_pure ?_));have e:((pickOrder (w.params.setOrder a ep) es)[(i:Int).toNat]?).map (fun e=>(e.2,(sl).toNat))=some (v,sl.toNat):=by
   rw[hve,abt,aaI] at hv;rw[abu];cases q:(pickOrder (w.params.setOrder a ep) es)[i]? with
   |none=>rw[q] at hv;cases hv
   |some z=>
    rw[q] at hv;have hv:some z.2=some v:=hv;injection hv with hv;rw[←hv];rfl
  rw[e];dsimp only;refine wpAny_bind (acl hI rfl (by simp) ?_);have hI1:=aaK (Obj.mapFields (·.setIfInBounds 0 (rawInt sl.toNat))) hI rfl;refine wpAny_bind (acl hI1 rfl (by simp[Obj.mapFields]) ?_);have hI2:=aaK (Obj.mapFields (·.setIfInBounds 1 (rawInt ((i:Int)+1)))) hI1 rfl;have oth:∀b o,b≠I->s.heap.get? b=some o->((s.heap.update I (Obj.mapFields (·.setIfInBounds 0 (rawInt sl.toNat)))).update I (Obj.mapFields (·.setIfInBounds 1 (rawInt ((i:Int)+1))))).get? b=some o:=fun b o hb e=>
   (aaB _ _ (acQ hb)).trans ((aaB _ _ (acQ hb)).trans e)
  refine wpAny_pure ⟨_,rfl,wpAny_pure (h _ (.txt (oth _ _ (acQ hIa) ho) hd hf b hve (sl:=sl.toNat) ?_) oth)⟩;exact hI2
 |@drw o es ep t ps ho hd hf hve ht hI=>
  refine wpAny_bind (ack hI rfl ?_);dsimp only;refine wpAny_bind (aa7 ho hd hf ?_);rw[acS (by simp)];refine wpAny_bind (wpAny_seqItems ht rfl ?_);dsimp only;have hp:∃p,ps[i]? =some p/\∃e,es[p]? =some e/\e.2=v:=by
   have q:=acN (fun l=>l[i]?) hve;simp only[abt] at q;rw[hv] at q;cases z:ps[i]? with
   |none=>rw[z] at q;cases q
   |some p=>
    rw[z] at q;have q:some (some v)=some ((es[p]?).map (·.2)):=q;injection q with q;cases y:es[p]? with
    |none=>rw[y] at q;cases q
    |some e=>
     rw[y] at q;have q:some v=some e.2:=q;injection q with q;exact⟨p,rfl,e,y,q.symm⟩
  obtain⟨p,hps,e,he,rfl⟩:=hp;have e1:((ps.map fun(p:Nat)=>rawInt p).toArray)[(i:Int).toNat]? =some (rawInt p):=by
   rw[abu,List.getElem?_toArray,abt,hps];rfl
  rw[e1];show wpAny _ _ (setNextDrawn a (p:Int).toNat (ep:Int).toNat >>= _) _ _ _;unfold setNextDrawn;refine wpAny_bind (wpAny_bind (abB ho hd hf ?_));dsimp only;rw[acS (by simp),abu,he];dsimp only;refine wpAny_pure ?_;refine wpAny_bind (acl hI rfl (by simp) ?_);have hI2:=aaK (Obj.mapFields (·.setIfInBounds 1 (rawInt ((i:Int)+1)))) hI rfl;have oth:∀b o,b≠I->s.heap.get? b=some o->(s.heap.update I (Obj.mapFields (·.setIfInBounds 1 (rawInt ((i:Int)+1))))).get? b=some o:=fun b o hb e=>
   (aaB _ _ (acQ hb)).trans e
  refine wpAny_pure ⟨_,rfl,wpAny_pure (h _ (.drw (oth _ _ (acQ hIa) ho) hd hf hve (oth _ _ (acQ hIt) ht) ?_) oth)⟩;exact hI2
 |@one o es ep t ho hd hf b hl hz hve hI=>
  have h0:i=0/\∃e,es[0]? =some e/\e.2=v/\es.size=1:=by
   rw[hve,abt,aaI] at hv;cases q:es[i]? with
   |none=>rw[q] at hv;cases hv
   |some e=>
    rw[q] at hv;have hv:some e.2=some v:=hv;injection hv with hv;obtain⟨hlt,_⟩:=Array.getElem?_eq_some_iff.mp q;have:i=0:=by omega
    subst this;exact⟨rfl,e,q,hv,by omega⟩
  obtain⟨rfl,e,he,rfl,hsz⟩:=h0;have hpl:t.place.size=1:=by
   simp only[SetTable.fits,Bool.and_eq_true,beq_iff_eq] at hf;rw[hf.1,hsz]
  obtain⟨j,hj⟩:∃j,t.place[0]? =some j:=⟨t.place[0],aal (by omega)⟩;have hjd:t.place.getD 0 0=j:=by
   rw[aaf,hj];rfl
  refine wpAny_bind (ack hI rfl ?_);dsimp only;refine wpAny_bind (aa7 ho hd hf ?_);rw[acS (by simp)];unfold setNext setsByText;refine wpAny_bind (wpAny_bind (abB ho hd hf ?_));dsimp only;refine wpAny_bind (wpAny_bind (abM (wpAny_pure ?_)));show wpAny _ _ (if (w.params.followText "set-order")=true then _ else _) _ _ _;rw[acS (by rw[b];decide)];refine acb (fun hab=>absurd (show(!t.plain && decide (es.size > 1))=true from hab) (by rw[hsz];simp)) fun _=>?_
  refine wpAny_bind ?_;show wpAny _ _ (if (!t.led && !es.isEmpty)=true then _ else _) _ _ _;rw[acS (by rw[hl];simp)];refine wpAny_pure ?_;show wpAny (model prog w) A.in1 (pure (match es[SetTable.below t.place 0]?,t.place[SetTable.below t.place 0]? with
     |some (_,x),some j=>some (x,j+1)
     |_,_=>none)) _ _ _
  rw[rZ (by omega),he,hj];refine wpAny_pure ?_;dsimp only;refine wpAny_bind (acl hI rfl (by simp) ?_);have hI1:=aaK (Obj.mapFields (·.setIfInBounds 0 (rawInt ((j+1:Nat):Int)))) hI rfl;refine wpAny_bind (acl hI1 rfl (by simp[Obj.mapFields]) ?_);have hI2:=aaK (Obj.mapFields (·.setIfInBounds 1 (rawInt (((0:Nat):Int)+1)))) hI1 rfl;have oth:∀b o,b≠I->s.heap.get? b=some o->((s.heap.update I (Obj.mapFields (·.setIfInBounds 0 (rawInt ((j+1:Nat):Int))))).update I (Obj.mapFields (·.setIfInBounds 1 (rawInt (((0:Nat):Int)+1))))).get? b=some o:=fun b o hb e=>
   (aaB _ _ (acQ hb)).trans ((aaB _ _ (acQ hb)).trans e)
  refine wpAny_pure ⟨_,rfl,wpAny_pure (h _ (.one (oth _ _ (acQ hIa) ho) hd hf b hl hz hve ?_) oth)⟩;rw[hjd];exact hI2
def yj{Q:Option Value->Shared->Prop}(hh:A.handled=none)(x:SIt w s.heap I a tp vs i)(hv:vs.length=i)
  (h:∀h',(∀b o,b≠I->s.heap.get? b=some o->h'.get? b=some o)->Q none {s with heap:=h'}):wpAny (model prog w) A (pyNext (.ref I)) Q E s:=by
 unfold pyNext;refine wpAny_bind (wpAny_attempt (aaw (name:=Str.ofString "__next__") x.typeIs cW
  (abP cW x.typeIs i7 ?_ (jh _))))
 unfold Builtin.«set_iterator.__next__»;refine wpAny_bind (wpAny_pure ?_);have fin:∀(h1:Heap),(∀b o,b≠I->s.heap.get? b=some o->h1.get? b=some o)->wpAny (model prog w) A.in1 (newExc (.type "StopIteration") [] >>= fun e=>raiseNew e)
   (fun fin s'=>∃v,fin=PySem.Fin.done (Flow.ret v)/\wpAny (model prog w) A (pure (some v)) Q E s')
   (fun e s'=>wpAny (model prog w) A (do if ←isInstance e (.type "StopIteration") then pure none else throw e) Q E s') {s with heap:=h1}:=by
  intro h1 k;refine wpAny_bind ?_;simp only[newExc,newTuple];refine wpAny_bind (aby ?_ (by size_fits));refine wpAny_bind (m:=firstArgMember _ _) (wpAny_of_eq (a:=Value.none) (by first | rfl | (simp only[firstArgMember];rfl)) ?_);refine aby ?_ (by size_fits);simp only[raiseNew];refine wpAny_bind (wpAny_handled ?_);rw[show A.in1.handled=none from hh];refine wpAny_bind (wpAny_pure (wpAny_throw ?_));refine wpAny_bind (abQ (T:="StopIteration") (b:=true) ⟨_,aa3 _ rfl,rfl⟩ isSubtype_stop ?_);exact wpAny_pure (h _ fun b o hb e=>aaz _ (aaz _ (k b o hb e)))
 have oth1:∀(f:Obj->Obj) b o,b≠I->s.heap.get? b=some o->(s.heap.update I f).get? b=some o:=fun f b o hb e=>(aaB _ _ (acQ hb)).trans e
 cases x with
 |@txt o es ep t sl ho hd hf b hve hI=>
  refine wpAny_bind (ack hI rfl ?_);dsimp only;refine wpAny_bind (aa7 ho hd hf ?_);rw[acS (by simp)];unfold setNext setsByText;refine wpAny_bind (wpAny_bind (abB ho hd hf ?_));dsimp only;refine wpAny_bind (wpAny_bind (abM (wpAny_pure ?_)));show wpAny _ _ (if (w.params.followText "set-order")=true then _ else _) _ _ _;rw[acR b,acS (by simp)];refine wpAny_bind (j7 ho hd hf b (wpAny_pure ?_));have e:(pickOrder (w.params.setOrder a ep) es)[(i:Int).toNat]? =none:=by
   rw[abu];refine aaC ?_;rw[←aa2,←hv,hve,ab3];exact acH _
  rw[e];show wpAny _ _ (setField (.ref I) 2 .none >>= _) _ _ _;refine wpAny_bind (acl hI rfl (by simp) ?_);exact fin _ (oth1 _)
 |@drw o es ep t ps ho hd hf hve ht hI=>
  refine wpAny_bind (ack hI rfl ?_);dsimp only;refine wpAny_bind (aa7 ho hd hf ?_);rw[acS (by simp)];refine wpAny_bind (wpAny_seqItems ht rfl ?_);dsimp only;have hl:ps.length=i:=by
   have:=acN List.length hve;rw[ab3,ab3] at this;omega
  have e1:((ps.map fun(p:Nat)=>rawInt p).toArray)[(i:Int).toNat]? =none:=by
   rw[abu];refine aaC ?_;simp[hl]
  rw[e1];dsimp only;refine wpAny_bind (acl hI rfl (by simp) ?_);have hI1:=aaK (Obj.mapFields (·.setIfInBounds 0 (rawInt 0))) hI rfl;refine wpAny_bind (acl hI1 rfl (by simp[Obj.mapFields]) ?_);exact fin _ fun b o hb e=>(aaB _ _ (acQ hb)).trans (oth1 _ b o hb e)
 |@one o es ep t ho hd hf b hl hz hve hI=>
  have hsz:es.size=i:=by rw[←hv,hve,ab3,aa2]
  have hpl:t.place.size=es.size:=by
   simp only[SetTable.fits,Bool.and_eq_true,beq_iff_eq] at hf;exact hf.1
  refine wpAny_bind (ack hI rfl ?_);dsimp only;refine wpAny_bind (aa7 ho hd hf ?_);rw[acS (by simp)];unfold setNext setsByText;refine wpAny_bind (wpAny_bind (abB ho hd hf ?_));dsimp only;refine wpAny_bind (wpAny_bind (abM (wpAny_pure ?_)));show wpAny _ _ (if (w.params.followText "set-order")=true then _ else _) _ _ _;rw[acS (by rw[b];decide)];refine acb (fun hab=>absurd (show(!t.plain && decide (es.size > 1))=true from hab) (by
   have:decide (es.size > 1)=false:=abX (by omega);rw[this];simp)) fun _=>?_
  refine wpAny_bind ?_;show wpAny _ _ (if (!t.led && !es.isEmpty)=true then _ else _) _ _ _;rw[acS (by rw[hl];simp)];refine wpAny_pure ?_;have e:es[SetTable.below t.place (if i=0 then (0:Int) else (t.place.getD 0 0:Nat)+1).toNat]? =none:=by
   refine aaC ?_;rcases Nat.eq_zero_or_pos i with z|z
   ·omega
   ·have h1:t.place.size=1:=by omega
    rw[acS (by omega)];rw[show(((t.place.getD 0 0:Nat):Int)+1).toNat=t.place.getD 0 0+1 from by omega,r6 h1];exact hz
  rw[e];refine wpAny_pure ?_;show wpAny _ _ (setField (.ref I) 2 .none >>= _) _ _ _;refine wpAny_bind (acl hI rfl (by simp) ?_);exact fin _ (oth1 _)
def yk{Q:Value->Shared->Prop}(x:SIt w s.heap I a tp vs i)(h:Q (.ref I) s):wpAny (model prog w) A (pyIter (.ref I)) Q E s:=by
 refine wpAny_pyIter_slot x.typeIs ji (abP ji x.typeIs nQ ?_ (oR _));show wpAny _ _ (ret (.ref I)) _ _ s;exact wpAny_pure ⟨_,rfl,"set_iterator",_,x.typeIs,cW.lookup,h⟩
def uk(hh:A.handled=none)(hIa:I≠a)(hIt:I≠tp):Walks prog w A I [I,a,tp] [I] vs.length (fun i v=>vs[i]? =some v) (fun i h=>SIt w h I a tp vs i) where
 sub:=fun b hb=>by simp at hb;simp[hb]
 frame:=fun _ _ _ st hk=>st.keep hk
 item:=fun i s Q E hi st hQ=>by
  refine yi st hIa hIt (aao hi) fun h' st' k=>hQ _ h' s.toks (aao hi) st' fun b o hb e=>k b o (fun z=>hb (by simp[z])) e
 done:=fun s Q E st hQ=>yj hh st rfl fun h' k=>hQ h' s.toks fun b o hb e=>k b o (fun z=>hb (by simp[z])) e
 self:=fun _ _ _ _ st hQ=>yk st hQ
end
end SL
namespace SL
open PySem PyProof.Rows
def leS(a b:Str):Bool:=!decide (b.cps.toList<a.cps.toList)
def jj(a b:Str):(leS a b || leS b a)=true:=by
 unfold leS
 by_cases h:b.cps.toList<a.cps.toList
 ·have:¬a.cps.toList<b.cps.toList:=fun z=>List.lt_irrefl _ (List.lt_trans h z)
  simp[this]
 ·simp[h]
def jk(a b c:Str)(h1:leS a b=true)(h2:leS b c=true):leS a c=true:=by
 unfold leS at *;simp only[Bool.not_eq_true',aax] at *;have h1:a.cps.toList<=b.cps.toList:=List.not_lt.mp h1;have h2:b.cps.toList<=c.cps.toList:=List.not_lt.mp h2;exact List.not_lt.mpr (List.le_trans h1 h2)
def yl{a b:Str}(h:a.cps.toList=b.cps.toList):a=b:=by
 cases a;cases b
 simp only[Str.mk.injEq];exact Array.toList_inj.mp h
def oS(a b:Str)(h1:leS a b=true)(h2:leS b a=true):a=b:=by
 unfold leS at *;simp only[Bool.not_eq_true',aax] at *;exact yl (List.le_antisymm (List.not_lt.mp h1) (List.not_lt.mp h2))
def srt(l:List Str):List Str:=l.mergeSort leS
def gA(l:List Str):(srt l).Perm l:=List.mergeSort_perm l leS
def ul(l:List Str):(srt l).Pairwise (fun a b=>leS a b=true):=List.pairwise_mergeSort jk jj l
def AU{l l':List Str}(h:l.Pairwise (fun a b=>leS a b=true))(h':l'.Pairwise (fun a b=>leS a b=true))(p:l.Perm l'):l=l':=
 List.Perm.eq_of_pairwise (fun a b _ _=>oS a b) h h' p
def um{l l':List Str}(h:l'.Pairwise (fun a b=>leS a b=true))(p:l'.Perm l):l'=srt l:=AU h (ul l) (p.trans (gA l).symm)
def uo{l l':List Str}(p:l.Perm l'):srt l=srt l':=um (ul l) ((gA l).trans p)
def cg{l:List Str}{x:Str}:x∈srt l↔x∈l:=(gA l).mem_iff
def dQ(l:List Str):(srt l).length=l.length:=(gA l).length_eq
def gR{l:List Str}(h:l.Nodup):(srt l).Nodup:=(gA l).nodup_iff.mpr h
def qt{l l':List Str}(h:l.Nodup)(h':l'.Nodup)(e:∀x,x∈l↔x∈l'):l.Perm l':=(List.perm_ext_iff_of_nodup h h').mpr e
def zC{vs:List Value}{ss:List Str}(hS:StrsAre vs ss){xs:Array Keyed}(hp:xs.Perm (pairsOf vs))(hs:SortedToK PyProof.Rows.strKind xs (pairsOf vs).size):StrsAre (xs.map (·.2)).toList (srt ss):=by
 have hl:xs.toList.Perm (vs.zip vs):=by rw[←pairsOf_toList];exact aai.mp hp
 have hmem:∀p,p∈xs.toList->p.1=p.2/\p.1∈vs:=fun p hp'=>mem_zip_self (hl.mem_iff.mp hp')
 have h1:StrsAre (xs.map (·.2)).toList (xs.toList.map (fun p=>strOf p.1)):=by
  have e:(xs.map (·.2)).toList=xs.toList.map (·.1):=by
   rw[Array.toList_map];exact aa8 fun p hp'=>(hmem p hp').1.symm
  rw[e];have h1:=strsAre_map (xs.toList.map (·.1)) (by
   intro v hv;obtain⟨p,hp',rfl⟩:=acB.mp hv;exact hS.all _ (hmem p hp').2)
  rwa [acD] at h1
 have h2:(xs.toList.map (fun p=>strOf p.1)).Perm ss:=by
  have h1:=hl.map (fun p=>strOf p.1);have e2:(vs.zip vs).map (fun p=>strOf p.1)=ss:=by
   have:(vs.zip vs).map (fun p=>strOf p.1)=((vs.zip vs).map Prod.fst).map strOf:=by rw[acD];rfl
   rw[this,List.map_fst_zip (acH _),hS.strs]
  rwa [e2] at h1
 have h3:(xs.toList.map (fun p=>strOf p.1)).Pairwise (fun a b=>leS a b=true):=by
  rw[aam];intro i j hi hj hij;have hi':i<xs.size:=by simpa using hi
  have hj':j<xs.size:=by simpa using hj
  have h1:=hs i j (acz hij) (by rw[←hp.size_eq];exact hj');obtain⟨x,t,ex⟩:=hS.all _ (hmem xs[i] (by simp)).2;obtain⟨y,u,ey⟩:=hS.all _ (hmem xs[j] (by simp)).2;rw[KK_str hi' (x:=x) (t:=t) (q:=xs[i].2) (Prod.ext ex rfl),KK_str hj' (x:=y) (t:=u) (q:=xs[j].2) (Prod.ext ey rfl)] at h1;change decide (y.cps.toList<x.cps.toList)=false at h1;simp only[List.getElem_map,Array.getElem_toList];rw[show strOf xs[i].1=x by rw[ex];rfl,show strOf xs[j].1=y by rw[ey];rfl];unfold leS;rw[h1];rfl
 rw[←um h3 h2];exact h1
section
variable {prog:Program}{w:World}{A:Around}{E:Value->Shared->Prop}{s:Shared}
def ut{x:Value}{Q:Value->Shared->Prop}(hcol:wpAny (model prog w) A.in1 (collect x) (fun vs s₁=>∃ss,StrsAre vs ss/\vs.length<64/\
   ∀(out:List Value) (e:Nat) (h':Heap),StrsAre out (srt ss)->(∀b o,s₁.heap.get? b=some o->h'.get? b=some o)->h'.get? s₁.heap.objs.size=some {cls:=.type "list",data:=.seq out.toArray e}->Q (.ref s₁.heap.objs.size) {s₁ with heap:=h'}) E s) :
  wpAny (model prog w) A (call (.builtin "sorted") [x]) Q E s:=by
 refine Calls.call_function_entry kind_sorted plain_sorted entry_sorted (args_sorted1 _) ?_;unfold Builtin.«sorted»;refine wpAny_bind (m:=checkCount "sorted" 1 1 _) (wpAny_pure ?_);refine wpAny_bind (acM hcol (fun vs s₁ h₁=>?_) fun _ _ e=>e);obtain⟨ss,hS,h64,fin⟩:=h₁;refine wpAny_bind (wpAny_newList ?_ (by rw[acJ];omega));have hoL:(s₁.heap.push (seqObj "list" vs.toArray 0)).get? s₁.heap.objs.size=some (seqObj "list" vs.toArray 0):=aa3 _ rfl;show wpAny _ _ _ _ _ {s₁ with heap:=s₁.heap.push (seqObj "list" vs.toArray 0)};refine wpAny_bind (act (abP slot_list_sort ⟨_,hoL,rfl⟩ entry_list_sort (list_sort_treeK strKind_oneLt hoL hS.keysOf (fun v₁ v₂ rest e=>keyKind_strs (by rw[←e];exact hS)) h64 fun st' a1 a2=>⟨_,rfl,?_⟩) (args_list_sort _)));obtain⟨e,he⟩:=sortedHeap_at (out:=(arrOf st').map (·.2)) hoL;refine wpAny_pure ⟨_,rfl,fin _ e _ (zC hS a1 a2) (fun b o q=>?_) (by rw[Array.toArray_toList];exact he)⟩;have hlt:=acw q;rw[sortedHeap_old (acx hlt) (by rw[size_push'];exact abC hlt)];exact aaz _ q
end
end SL
namespace SL
open PySem PyProof.Rows
def ym{prog:Program}{w:World}{A:Around}{E:Value->Shared->Prop}{s:Shared}{r:Addr}{Q:Bool->Shared->Prop}(hT:s.TypeIs (.ref r) "set")(h:Q false s):wpAny (model prog w) A (Builtin.List.listLengthHint (.ref r)) Q E s:=by
 unfold Builtin.List.listLengthHint;refine wpAny_bind (wpAny_specialOf hT PySem.F.slot_set_len.lookup ?_);generalize hid:("set.__len__":String)=id0
 wp_delta
 rw[show splitId id0=some ("set","__len__") from by subst hid;decide +kernel];subst hid;refine wpAny_bind (abQ (T:="set") (b:=true) hT (by rw[isSubtype_type];kernel_rfl) ?_);refine acb (fun hab=>absurd hab (by decide)) (fun _=>?_);refine acb (fun _=>?_) (fun hab=>absurd (by decide +kernel) hab);refine wpAny_bind (wpAny_typeOf hT ?_);exact wpAny_pure h
structure jl(vs:List Value)(L:List Str):Prop where
 str:∀v∈vs,∃x t,v=Value.str x t
 perm:(vs.map cD).Perm L
def jl.of{w:World}{es:Array (Int×Value)}{L:List Str}(hel:∀e∈es.toList,f9 w e)(hp:(es.toList.map fun e=>cD e.2).Perm L){vs:List Value}(h:vs.Perm (es.toList.map (·.2))):jl vs L:=by
 refine⟨fun v hv=>?_,?_⟩
 ·obtain⟨e,he,rfl⟩:=acB.mp (h.mem_iff.mp hv);obtain⟨k,t,rfl⟩:=hel e he;exact⟨k,t,rfl⟩
 ·refine(h.map cD).trans ?_;rw[acD];exact hp
def oT{wr:List Addr}{s s':Shared}(hm:Moved wr (fun a b=>b=a) s s'):s'={s with heap:=s'.heap,toks:=s'.toks}:=by
 obtain⟨h',g',d',tk',os'⟩:=s';have eg:g'=s.gens:=hm.gens;have ed:d'=s.drawn:=hm.drawn;have eo:os'=s.os:=hm.os;subst eg;subst ed;subst eo;rfl
section
variable {prog:Program}{w:World}{A:Around}{E:Value->Shared->Prop}{s:Shared}{a:Addr}{L:List Str}
def aV.typeIs(S:aV w s.heap a L):s.TypeIs (.ref a) "set":=by
 obtain⟨o,es,ep,t,ho,hex,_⟩:=S;exact⟨o,ho,hex.1⟩
def map_range{es:Array (Int×Value)}:(List.range es.size).map (fun p=>((es[p]?).map (·.2)).getD Value.none)=es.toList.map (·.2):=by
 apply List.ext_getElem
 ·simp
 ·intro i h1 h2;have hi:i<es.size:=by simpa using h1
  simp[hi]
def vW{Q:Value->Shared->Prop}(S:aV w s.heap a L)
  (h:∀(I tp:Addr) (vs:List Value) (h':Heap) (d:Drawn),SIt w h' I a tp vs 0->I≠a->I≠tp->s.heap.objs.size<=I->(tp=a\/s.heap.objs.size<=tp)->I<h'.objs.size->tp<h'.objs.size->jl vs L->(∀b o,s.heap.get? b=some o->h'.get? b=some o)->Q (.ref I) {s with heap:=h',drawn:=d}) :
  wpAny (model prog w) A (pyIter (.ref a)) Q E s:=by
 have hT:=S.typeIs;obtain⟨o,es,ep,t,ho,hex,hd,hel,hp,nd,hb,hf,hled,hpl⟩:=S;have halt:a<s.heap.objs.size:=acw ho;have hsl:es.size<=sizeLine:=fits_of_scanBound hb;refine wpAny_pyIter_slot hT PySem.F.slot_set_iter (abP PySem.F.slot_set_iter hT l8 ?_ (PySem.F.args_set_iter_1 _));unfold Builtin.«frozenset.__iter__»;refine wpAny_bind (wpAny_pure ?_);refine wpAny_bind ?_;unfold Builtin.Frozenset.sizeOf;refine wpAny_bind (aa7 ho hd hf (wpAny_pure ?_));unfold setDrawn setsByText;refine wpAny_bind (wpAny_bind (abB ho hd hf ?_));dsimp only;refine wpAny_bind (wpAny_bind (abM (wpAny_pure ?_)));refine wpAny_pure ?_;have fin:∀(first:Value) (h1:Heap) (d:Drawn) (tp:Addr) (vs:List Value),(∀b o,s.heap.get? b=some o->h1.get? b=some o)->s.heap.objs.size<=h1.objs.size->(tp=a\/s.heap.objs.size<=tp)->tp<h1.objs.size->jl vs L->
   (∀h',(∀b o,h1.get? b=some o->h'.get? b=some o)->h'.get? h1.objs.size=some {cls:=.type "set_iterator",data:=.fields #[first,rawInt 0,.ref a,rawInt es.size,rawInt ep]}->SIt w h' h1.objs.size a tp vs 0)->
   wpAny (model prog w) A.in1 (do ret (←newFields "set_iterator" [first,rawInt 0,.ref a,rawInt es.size,rawInt (←setEpoch a)])) (fun fin s'=>∃it,fin=PySem.Fin.done (.ret it)/\∃(T:String) (id:Value),s'.TypeIs it T/\typeLookup (.type T) "__next__"=pure (some id)/\Q it s') (fun e s'=>E e s') {s with heap:=h1,drawn:=d}:=by
  intro first h1 d tp vs k1 hsz htp htl ho2 mk;refine wpAny_bind (wpAny_setEpoch_of (k1 _ _ ho) hd hf ?_);unfold newFields;refine wpAny_bind (aby ?_ (by size_fits));have hI:(h1.push {cls:=.type "set_iterator",data:=.fields #[first,rawInt 0,.ref a,rawInt es.size,rawInt ep]}).get? h1.objs.size=some {cls:=.type "set_iterator",data:=.fields #[first,rawInt 0,.ref a,rawInt es.size,rawInt ep]}:=aa3 _ rfl;refine wpAny_pure ⟨_,rfl,"set_iterator",_,⟨_,hI,rfl⟩,cW.lookup,?_⟩;refine h h1.objs.size tp vs _ d (mk _ (fun b o e=>aaz _ e) hI) (acQ (acx (abd halt hsz))) (acQ (acx htl)) hsz htp ?_ ?_ ho2 fun b o e=>aaz _ (k1 b o e)
  ·show h1.objs.size<(h1.push _).objs.size;rw[ach];exact abJ _
  ·show tp<(h1.push _).objs.size;rw[ach];exact abC htl
 by_cases b:w.params.followText "set-order"=true
 ·
  refine acb (fun hab=>absurd (show(!(w.params.followText "set-order") && (!t.plain && decide (es.size > 1)))=true from hab) (by rw[b];simp)) fun _=>?_
  refine wpAny_bind (wpAny_pure ?_);refine fin (rawInt 0) s.heap s.drawn a _ (fun _ _ e=>e) (acH _) (.inl rfl) halt (jl.of hel hp ((im (w.params.setOrder a ep) es).map (·.2))) fun h' k hI=>?_
  exact .txt (sl:=0) (k _ _ ho) hd hf b rfl hI
 ·have b:w.params.followText "set-order"=false:=by simpa using b
  refine acb (fun hab=>?_) (fun hab=>?_)
  ·refine wpAny_bind (io _ _ _ (abD) fun ps d hps=>?_);have hlen:ps.length=es.size:=by rw[hps.length_eq,abD]
   refine wpAny_bind (wpAny_newTuple ?_ (by rw[ab3,hlen];exact hsl));have hv:((ps.map fun p=>((es[p]?).map (·.2)).getD Value.none).map some)=ps.map fun p=>(es[p]?).map (·.2):=by
    rw[acD];refine aa8 fun p hpm=>?_
    have hlt:p<es.size:=acg.mp (hps.mem_iff.mp hpm);simp[hlt]
   refine fin _ _ d s.heap.objs.size (ps.map fun p=>((es[p]?).map (·.2)).getD Value.none) (fun _ _ e=>aaz _ e) (by rw[ach];exact acK _) (.inr (acH _)) (by rw[ach];exact abJ _)
    (jl.of hel hp (by rw[←map_range];exact hps.map _)) fun h' k hI=>?_
   exact .drw (k _ _ (aaz _ ho)) hd hf hv (k _ _ (aa3 _ rfl)) hI
  ·refine wpAny_bind (wpAny_pure ?_);have hdr:¬(!t.plain && decide (es.size > 1))=true:=fun z=>hab (show(!(w.params.followText "set-order") && (!t.plain && decide (es.size > 1)))=true by rw[b,z];rfl)
   have hz:es.size<=1:=by
    rcases acE 1 es.size with z|z
    ·cases q:t.plain with
     |true=>have:=hpl q;omega
     |false=>
      rw[q] at hdr;simp at hdr;omega
    ·exact z
   refine fin (rawInt 0) s.heap s.drawn a _ (fun _ _ e=>e) (acH _) (.inl rfl) halt (jl.of hel hp (.refl _)) fun h' k hI=>?_
   exact .one (k _ _ ho) hd hf b (by rw[hled,b];rfl) hz rfl hI
def qu{Q:List Value->Shared->Prop}(hh:A.handled=none)(S:aV w s.heap a L)
  (h:∀(vs:List Value) (h':Heap) (tk:Nat) (d:Drawn),jl vs L->(∀b o,s.heap.get? b=some o->h'.get? b=some o)->Q vs {s with heap:=h',toks:=tk,drawn:=d}) :
  wpAny (model prog w) A (collect (.ref a)) Q E s:=by
 obtain⟨oa,hoa⟩:=S.there;have halt:a<s.heap.objs.size:=acw hoa;have hLs:L.length<=sizeLine:=by
  obtain⟨o,es,ep,t,ho,hex,hd,hel,hp,nd,hb,_⟩:=id S;have:=hp.length_eq;rw[ab3,aa2] at this;rw[←this];exact fits_of_scanBound hb
 unfold collect;refine wpAny_bind (wpAny_runValue (aca entry_proto_collect' ?_));rw[aaX PySem.F.plain_proto_collect _];show wpAny _ A.in1 (newList [] >>= fun l=>again (.builtin "list.__iadd__" ⟨[l,.ref a],[]⟩)) _ _ s;refine wpAny_bind (aby ?_);refine wpAny_pure ⟨plainId_quiet PySem.F.plain_list_iadd _,aca entry_list_iadd' ?_⟩;rw[aaX PySem.F.plain_list_iadd _];have hS₁:(s.heap.push {cls:=.type "list",data:=.seq ([]:List Value).toArray}).get? s.heap.objs.size=some {cls:=.type "list",data:=.seq #[]}:=aa3 _ rfl;generalize hs1:s.heap.push {cls:=.type "list",data:=.seq ([]:List Value).toArray}=h1 at hS₁;have k1:∀b o,s.heap.get? b=some o->h1.get? b=some o:=fun b o e=>by rw[←hs1];exact aaz _ e
 have z1:h1.objs.size=s.heap.objs.size+1:=by rw[←hs1,ach]
 have S1:aV w h1 a L:=S.at fun o e=>k1 _ _ e
 show wpAny _ A.in1 (Builtin.List.listExtendWith (.ref s.heap.objs.size) (.ref a) (.ref s.heap.objs.size)) _ _ {s with heap:=h1};unfold Builtin.List.listExtendWith;have hT1:Shared.TypeIs {s with heap:=h1} (.ref a) "set":=aV.typeIs (s:={s with heap:=h1}) S1;refine wpAny_bind (wpAny_typeOf hT1 ?_);have e1:Builtin.List.listSameRef (.ref s.heap.objs.size) (.ref a)=false:=by simp[Builtin.List.listSameRef,acQ (acx halt)]
 have e2:(Value.type "set" == Value.type "list")=false:=by decide
 have e3:(Value.type "set" == Value.type "tuple")=false:=by decide
 simp only[e1,e2,e3,Bool.or_false,abm,acO];refine wpAny_bind (vW (s:={s with heap:=h1}) S1 fun I tp vs h2 d st hIa hIt hI htp hIl htl hO k2=>?_);have hI:h1.objs.size<=I:=hI;rw[z1] at hI;have hvl:vs.length<=sizeLine:=by
  have:=hO.perm.length_eq;rw[ab3] at this;rw[this];exact hLs
 have hT2:Shared.TypeIs {s with heap:=h2,drawn:=d} (.ref a) "set":=aV.typeIs (s:={s with heap:=h2,drawn:=d}) (S1.at fun o e=>k2 _ _ e);refine wpAny_bind (act (ym hT2 ?_));have hSf:s.heap.objs.size ∉ [I,a,tp]:=by
  simp only[acq,abO,acP,not_or];refine⟨by omega,acQ (acx halt),?_⟩;rcases htp with z|z
  ·rw[z];exact acQ (acx halt)
  ·have z:h1.objs.size<=tp:=z;rw[z1] at z;omega
 have hh2:A.in1.handled=none:=hh;have key:∀(h3:Heap) (c tk:Nat),SIt w h3 I a tp vs 0->(∀b o,b≠s.heap.objs.size->h2.get? b=some o->h3.get? b=some o)->h3.get? s.heap.objs.size=some {cls:=.type "list",data:=.seq #[] c}->
   codeAny (model prog w) A (.builtin "list.extend.loop" ⟨[.ref s.heap.objs.size,.ref I,.ref s.heap.objs.size],[]⟩)
    (fun(q:Result) (s':Shared)=>∃(h':Heap) (tk:Nat) (acc':Array Value) (c':Nat),q=.ok (.ret (.ref s.heap.objs.size))/\s'={s with heap:=h',toks:=tk,drawn:=d}/\
     (∀b o,s.heap.get? b=some o->h'.get? b=some o)/\h'.get? s.heap.objs.size=some {cls:=.type "list",dict:=none,data:=.seq acc' c',slots:=#[]}/\acc'.toList=vs)
    {s with heap:=h3,toks:=tk,drawn:=d}:=by
  intro h3 c tk st3 k3 hS3;refine codeAny_extend_loopS (uk (A:=A.in1) hh2 hIa hIt).toS hvl _ hSf _ vs.length 0 _ #[] c rfl (acI _) st3 hS3 (ItemsOf.nil _) fun s' acc' c' hm hS' hacc=>?_
  refine⟨s'.heap,s'.toks,acc',c',rfl,?_,fun b o e=>?_,hS',?_⟩
  ·exact oT hm
  ·have hb:b<s.heap.objs.size:=acw e;refine hm.heap b o (fun z=>?_) (k3 b o (acx hb) (k2 b o (k1 b o e)));simp only[acq,abO,acP] at z;have hI0:s.heap.objs.size<I:=by omega
   rcases z with z|z
   ·exact absurd z (acx hb)
   ·exact absurd (z▸hb) (Nat.not_lt.mpr (acz hI0))
  ·apply abE;intro j;rcases acE j vs.length with z|z
   ·have hj:j<acc'.size:=by rw[hacc.1];exact z
    have q:=hacc.2 j acc'[j] (aal hj);rw[aaI,aal hj];exact q.symm
   ·rw[aaM z,aaM (by rw[aa2,hacc.1];exact z)]
 have hS2:h2.get? s.heap.objs.size=some {cls:=.type "list",data:=.seq #[]}:=k2 _ _ hS₁;refine acb (fun _=>?_) (fun _=>?_)
 ·refine wpAny_bind (wpAny_rule ?_);refine wpAny_bind ?_;show wpAny _ _ (updateSeq s.heap.objs.size (·.push .none) >>= fun _=>updateSeq s.heap.objs.size (·.pop)) _ _ _;refine wpAny_bind (wpAny_updateSeq hS2 rfl ?_);have hS3:=aaK (Obj.mapSeq (·.push Value.none)) hS2 rfl;refine wpAny_updateSeq (hz:=by seq_fits) hS3 rfl ?_;have hS4:=aaK (Obj.mapSeq (·.pop)) hS3 rfl;have oth:∀b o,b≠s.heap.objs.size->h2.get? b=some o->((h2.update s.heap.objs.size (Obj.mapSeq (·.push Value.none))).update s.heap.objs.size (Obj.mapSeq (·.pop))).get? b=some o:=fun b o hb e=>
   (aaB _ _ (acQ hb)).trans ((aaB _ _ (acQ hb)).trans e)
  refine wpAny_pure ⟨plainId_quiet PySem.F.plain_extend_loop _,acA (key _ _ s.toks (st.keep fun b hb o e=>oth b o (fun z=>hSf (z▸hb)) e) oth hS4) fun q s' y=>?_⟩;obtain⟨h',tk,acc',c',rfl,rfl,k,hS',rfl⟩:=y;show wpAny _ A (load s.heap.objs.size >>= _) _ _ _;refine wpAny_bind (wpAny_load hS' ?_);exact wpAny_pure (h _ h' tk d hO k)
 ·refine wpAny_pure ⟨plainId_quiet PySem.F.plain_extend_loop _,acA (key h2 _ s.toks st (fun _ _ _ e=>e) hS2) fun q s' y=>?_⟩;obtain⟨h',tk,acc',c',rfl,rfl,k,hS',rfl⟩:=y;show wpAny _ A (load s.heap.objs.size >>= _) _ _ _;refine wpAny_bind (wpAny_load hS' ?_);exact wpAny_pure (h _ h' tk d hO k)
end
end SL
namespace SL
open PySem PyProof.Rows
def nS:entryFor table "set.__sub__"=some Builtin.«frozenset.__sub__»:=entryFor_alias (id':="frozenset.__sub__") (by kernel_rfl) rfl (by decide +kernel) (by kernel_rfl)
def sub_set_set:isSubtype (.type "set") (.type "set")=pure true:=by rw[isSubtype_type];kernel_rfl
section
variable {prog:Program}{w:World}{A:Around}{E:Value->Shared->Prop}{s:Shared}{a b r:Addr}{L M:List Str}
def zD(w:World)(es:List (Int×Value))(L:List Str):Prop:=(∀e∈es,f9 w e)/\(es.map fun e=>cD e.2).Perm L
def aV.data{h:Heap}(S:aV w h a L):∃o es ep t,h.get? a=some o/\o.data=.set es ep t/\t.fits es.size=true/\zD w es.toList L/\t.led=(!w.params.followText "set-order")/\(t.plain=true->es.size=0)/\es.size=L.length:=by
 obtain⟨o,es,ep,t,ho,hex,hd,hel,hp,nd,hb,hf,hled,hpl⟩:=S;have:=hp.length_eq;rw[ab3,aa2] at this;exact⟨o,es,ep,t,ho,hd,hf,⟨hel,hp⟩,hled,hpl,this⟩
def r8:∀{as:List Addr} {s:Shared},(∀x∈as,∃L,aV w s.heap x L)->∀{Q:Bool->Shared->Prop},Q true s->wpAny (model prog w) A (setsQuiet as) Q E s:=by
 intro as s hS Q h;unfold setsQuiet;refine wpAny_bind (wpAny_forIn_list _ (fun rest (r:Option Bool×Unit) s'=>r=(none,())/\s'=s/\∀x∈rest,∃L,aV w s.heap x L) _ ?_ ?_ as _ ⟨rfl,rfl,hS⟩)
 ·rintro x rest r s' ⟨rfl,rfl,hr⟩;obtain⟨L',S'⟩:=hr x (abe ..);obtain⟨o,es,ep,t,ho,hd,hf,hE,_,_,_⟩:=S'.data;refine wpAny_bind (aa7 ho hd hf ?_);refine wpAny_bind (wpAny_forIn_array' _ (fun rest (r:Option Bool×Unit) s''=>r=(none,())/\s''=s'/\∀e∈rest,f9 w e) _ ?_ ?_ es _ ⟨rfl,rfl,hE.1⟩)
  ·rintro e rest r s'' ⟨rfl,rfl,he⟩;obtain⟨k,tk,rfl⟩:=he e (abe ..);exact wpAny_pure ⟨rfl,rfl,fun e' h'=>he e' (aaU _ h')⟩
  ·rintro r s'' ⟨rfl,rfl,_⟩;exact wpAny_pure ⟨rfl,rfl,fun y hy=>hr y (aaU _ hy)⟩
 ·rintro r s' ⟨rfl,rfl,_⟩;exact wpAny_pure h
def oU{others:List Addr}{Q:Array (Int×Value)->Shared->Prop}(S:aV w s.heap a L)(F:aV w s.heap r [])(hne:a≠r)(ho:∀x∈others,∃L,aV w s.heap x L)
  (h:∀(es:Array (Int×Value)) (h':Heap) (d:Drawn),zD w es.toList L->Heap.SameBut r s.heap h'->aV w h' r []->Q es {s with heap:=h',drawn:=d}) :
  wpAny (model prog w) A (setWalkUnseen a others (some r)) Q E s:=by
 obtain⟨o,es,ep,t,hoa,hd,hf,hE,hled,hpl,hn⟩:=S.data;unfold setWalkUnseen setsByText;refine wpAny_bind (abB hoa hd hf ?_);dsimp only;refine wpAny_bind (wpAny_bind (abM (wpAny_pure ?_)));have walk:(w.params.followText "set-order"=true\/es.size<=1)->wpAny (model prog w) A (setWalk a) Q E s:=by
  intro hc;unfold setWalk setsByText;refine wpAny_bind (abB hoa hd hf ?_);dsimp only;refine wpAny_bind (wpAny_bind (abM (wpAny_pure ?_)));refine acb (fun hb=>?_) (fun hb=>?_)
  ·refine wpAny_bind (abM (wpAny_pure ?_));have p:=im (w.params.setOrder a ep) es;exact h _ s.heap s.drawn ⟨fun e he=>hE.1 e (p.mem_iff.mp he),(p.map _).trans hE.2⟩ (.refl ..) F
  ·have hz:es.size<=1:=hc.resolve_left hb;refine acb (fun hab=>absurd (show(!t.plain && decide (es.size > 1))=true from hab) (by
    have:decide (es.size > 1)=false:=abX (by omega);rw[this];simp)) fun _=>?_
   refine wpAny_bind ?_;show wpAny _ _ (if (!t.led && decide (es.size > 1))=true then _ else _) _ _ _;rw[acS (by
    have:decide (es.size > 1)=false:=abX (by omega);rw[this];simp)]
   exact wpAny_pure (wpAny_pure (h es s.heap s.drawn hE (.refl ..) F))
 refine acb (fun hab=>?_) (fun hab=>?_)
 ·have hab:((w.params.followText "set-order" || (t.led && t.plain)) || decide (es.size<=1))=true:=hab;refine acM (walk ?_) (fun _ _ q=>?_) fun _ _ e=>e
  ·by_cases b:w.params.followText "set-order"=true
   ·exact .inl b
   ·right
    cases q:t.plain with
    |true=>have:=hpl q;omega
    |false=>
     rw[q] at hab;simp at hab;rcases hab with z|z
     ·exact absurd z b
     ·exact z
  ·first | exact wpAny_pure q | exact q
 ·refine wpAny_bind (r8 (as:=a::others) (fun x hx=>?_) ?_)
  ·rcases acq.mp hx with rfl|hx
   ·exact⟨L,S⟩
   ·exact ho x hx
  ·simp only[Bool.not_true,abm,acO];refine wpAny_bind (wpAny_rule ?_);obtain⟨of,ef,epf,tf,hof,hexf,hdf,helf,hpf,ndf,hbf,hff,hledf,hplf⟩:=id F;refine wpAny_bind (abB hof hdf hff ?_);dsimp only;have hz:ef.size=0:=by
    have:=hpf.length_eq;rw[ab3,aa2] at this;exact this
   refine acb (fun _=>?_) (fun _=>?_)
   ·refine wpAny_bind (wpAny_storeSet_of hof hdf ?_ (by omega));have ho2:=aaK (Obj.putSet ef {tf with led:=tf.led && t.led,plain:=tf.plain && t.plain}) hof (by rw[putSet_of ef _ hdf];rfl);rw[putSet_of ef _ hdf] at ho2;refine wpAny_pure (h es _ s.drawn hE (aa6 ..) ⟨_,ef,epf+1,_,ho2,hexf,rfl,helf,hpf,ndf,hbf,?_,?_,fun _=>hz⟩)
    ·cases tf;exact hff
    ·show(tf.led && t.led)=_;rw[hledf,hled,Bool.and_self]
   ·exact wpAny_pure (h es s.heap s.drawn hE (.refl ..) F)
def cX(es:List (Int×Value))(M:List Str)(acc:List Str):List Str:=es.foldl (fun acc e=>if cD e.2∈M then acc else cy acc (cD e.2)) acc
def mT(M:List Str):∀(es:List (Int×Value)) (acc:List Str) (x:Str),x∈cX es M acc↔x∈acc\/(x∈es.map (fun e=>cD e.2)/\¬x∈M)
 |[],acc,x=>by simp[cX]
 |e::r,acc,x=>by
  have ih:=mT M r (if cD e.2∈M then acc else cy acc (cD e.2)) x;show x∈cX r M (if cD e.2∈M then acc else cy acc (cD e.2))↔_;rw[ih,acr,acq]
  by_cases h:cD e.2∈M
  ·rw[acR h];constructor
   ·rintro(z|⟨z,y⟩)
    ·exact .inl z
    ·exact .inr ⟨.inr z,y⟩
   ·rintro(z|⟨rfl|z,y⟩)
    ·exact .inl z
    ·exact absurd h y
    ·exact .inr ⟨z,y⟩
  ·rw[acS h,oM];constructor
   ·rintro((z|rfl)|⟨z,y⟩)
    ·exact .inl z
    ·exact .inr ⟨.inl rfl,h⟩
    ·exact .inr ⟨.inr z,y⟩
   ·rintro(z|⟨rfl|z,y⟩)
    ·exact .inl (.inl z)
    ·exact .inl (.inr rfl)
    ·exact .inr ⟨z,y⟩
def j8(M:List Str):∀(es:List (Int×Value)) (acc:List Str),acc.Nodup->(cX es M acc).Nodup
 |[],acc,h=>h
 |e::r,acc,h=>by
  refine j8 M r _ ?_;show(if cD e.2∈M then acc else cy acc (cD e.2)).Nodup;split
  ·exact h
  ·exact iR h
def mU(M:List Str):∀(es:List (Int×Value)) (acc:List Str),(cX es M acc).length<=acc.length+es.length
 |[],acc=>by simp[cX]
 |e::r,acc=>by
  have ih:=mU M r (if cD e.2∈M then acc else cy acc (cD e.2));show(cX r M (if cD e.2∈M then acc else cy acc (cD e.2))).length<=_;have h2:=kB acc (cD e.2);rw[abI];split at ih <;> simp_all <;> omega
def ip{h:Heap}(S:aV w h a L):L.length<scanBound:=by
 obtain⟨o,es,ep,t,ho,hex,hd,hel,hp,nd,hb,_⟩:=S;have:=hp.length_eq;rw[ab3,aa2] at this;omega
def oV{Q:Bool->Shared->Prop}(S:aV w s.heap a L)(h:Q true s):wpAny (model prog w) A (Builtin.Frozenset.isAnySet (.ref a)) Q E s:=by
 unfold Builtin.Frozenset.isAnySet;refine wpAny_bind (abQ S.typeIs sub_set_set ?_);exact wpAny_pure h
def vX{Q:Value->Shared->Prop}(S:aV w s.heap a L)(h:Q (.type "set") s):wpAny (model prog w) A (Builtin.Frozenset.baseOf a) Q E s:=by
 unfold Builtin.Frozenset.baseOf;refine wpAny_bind (abQ S.typeIs sub_set_set ?_);exact wpAny_pure h
def oW{Q:Nat->Shared->Prop}(S:aV w s.heap a L)(h:Q L.length s):wpAny (model prog w) A (Builtin.Frozenset.sizeOf a) Q E s:=by
 obtain⟨oa,esa,epa,ta,hoa,hda,hfa,_,_,_,hna⟩:=S.data;unfold Builtin.Frozenset.sizeOf;refine wpAny_bind (aa7 hoa hda hfa (wpAny_pure ?_));rw[hna];exact h
def zE{Q:Value->Shared->Prop}(S:aV w s.heap a L)(T:aV w s.heap b M)(hsm:L.length / 4<=M.length)
  (h:∀(D:List Str) (h':Heap) (tk:Nat) (d:Drawn),D.Nodup->(∀x,x∈D↔x∈L/\¬x∈M)->aV w h' s.heap.objs.size D->(∀b o,s.heap.get? b=some o->h'.get? b=some o)->Q (.ref s.heap.objs.size) {s with heap:=h',toks:=tk,drawn:=d}) :
  wpAny (model prog w) A (binaryOp .Sub (.ref a) (.ref b)) Q E s:=by
 refine wpAny_binaryOp_same S.typeIs T.typeIs PySem.F.fills_set_sub PySem.F.slot_set_sub ?_;refine abP PySem.F.slot_set_sub S.typeIs nS ?_ (PySem.F.args_set_sub_2 _ _);obtain⟨oa,esa,epa,ta,hoa,hda,hfa,hEa,_,_,hna⟩:=S.data;obtain⟨ob,esb,epb,tb,hob,hdb,hfb,hEb,_,_,hnb⟩:=T.data;have lta:=acw hoa;have ltb:=acw hob;show wpAny _ _ (do
  let (self,other) ←Builtin.Frozenset.slot1 "__sub__" ⟨[.ref a,.ref b],[]⟩
  let (l,r):=if false then (other,self) else (self,other)
  if !(←Builtin.Frozenset.isAnySet l <&&> Builtin.Frozenset.isAnySet r) then rule s!"frozenset.__sub__.declined";return ←ret .notImplemented
  ret (←Builtin.Frozenset.difference s!"frozenset.__sub__" (←Builtin.Frozenset.addrOf l) r)) _ _ s
 refine wpAny_bind (wpAny_pure ?_);show wpAny _ _ (do
  let d ←Builtin.Frozenset.isAnySet (.ref a) <&&> Builtin.Frozenset.isAnySet (.ref b)
  if (!d)=true then do rule (toString "frozenset.__sub__.declined");ret .notImplemented
  else do
   let x ←Builtin.Frozenset.addrOf (.ref a)
   let y ←Builtin.Frozenset.difference (toString "frozenset.__sub__") x (.ref b)
   ret y) _ _ s
 refine wpAny_bind ?_;refine wpAny_bind (oV S ?_);refine oV T ?_;rw[acS (by decide)];refine wpAny_bind (wpAny_pure ?_);refine wpAny_bind ?_;unfold Builtin.Frozenset.difference;refine wpAny_bind (oV T ?_);simp only[Bool.not_true,abm,acO,Bool.false_and,if_true];refine wpAny_bind (wpAny_pure ?_);refine wpAny_bind (oW T ?_);refine wpAny_bind (oW S ?_);rw[acS (by omega)];refine wpAny_bind (vX S ?_);refine wpAny_bind (vV fun h1 F1 k1=>?_);refine wpAny_bind (wpAny_pure ?_);have S1:aV w h1 a L:=S.at fun o e=>k1 _ _ e
 have T1:aV w h1 b M:=T.at fun o e=>k1 _ _ e
 have hna1:a≠s.heap.objs.size:=acx lta;have hnb1:b≠s.heap.objs.size:=acx ltb;refine wpAny_bind (wpAny_setEpoch_of (k1 _ _ hoa) hda hfa ?_);refine wpAny_bind (act ?_);have hlen:L.length<scanBound:=ip S;refine wpAny_bind (oU (s:={s with heap:=h1}) S1 F1 hna1 (fun x hx=>?_) fun es h2 d hE sb2 F2=>?_)
 ·simp only[acq,abO,acP] at hx;rcases hx with rfl|rfl
  ·exact⟨M,T1⟩
  ·exact⟨[],F1⟩
 have hel:es.toList.length=L.length:=by
  have:=hE.2.length_eq;rw[ab3] at this;exact this
 have hoa2:h2.get? a=some oa:=sb2.extBut _ _ hna1 (k1 _ _ hoa);refine wpAny_bind (wpAny_forIn_array' _ (fun rest (_:PUnit) s'=>∃(done:List (Int×Value)) (h3:Heap) (tk:Nat),es.toList=done++rest/\s'={s with heap:=h3,toks:=tk,drawn:=d}/\
   aV w h3 s.heap.objs.size (cX done M [])/\(∀x o,x≠s.heap.objs.size->h2.get? x=some o->h3.get? x=some o)) _ ?_ ?_ es _ ⟨[],h2,s.toks,rfl,rfl,F2,fun _ _ _ e=>e⟩)
 ·rintro e rest u s' ⟨done,h3,tk,hsp,rfl,F3,k3⟩;obtain⟨k,tk',rfl⟩:=hE.1 e (by rw[hsp];simp);have T3:aV w h3 b M:=T1.at fun o e=>k3 _ _ hnb1 (sb2.extBut _ _ hnb1 e)
  have hdl:(cX done M []).length+1<scanBound:=by
   have h1:=mU M done [];have h2:done.length+(rest.length+1)=L.length:=by rw[←hel,hsp];simp
   simp at h1;omega
  have step:∀(h4:Heap) (tk4:Nat) (P:ForInStep PUnit->Shared->Prop),(∀x o,x≠s.heap.objs.size->h2.get? x=some o->h4.get? x=some o)->P (.yield PUnit.unit) {s with heap:=h4,toks:=tk4,drawn:=d}->
    wpAny (model prog w) A.in1 (do Builtin.Frozenset.unchanged (toString "frozenset.__sub__") a epa;pure (ForInStep.yield PUnit.unit)) P E {s with heap:=h4,toks:=tk4,drawn:=d}:=by
   intro h4 tk4 P k4 hP;refine wpAny_bind ?_;unfold Builtin.Frozenset.unchanged;refine wpAny_bind (wpAny_setEpoch_of (k4 _ _ hna1 hoa2) hda hfa ?_);rw[acS (by simp)];exact wpAny_pure (wpAny_pure hP)
  have em:cX (done++[(hashStr w k,Value.str k tk')]) M []=if k∈M then cX done M [] else cy (cX done M []) k:=by
   unfold cX;rw[List.foldl_append];rfl
  refine wpAny_bind (act ?_);refine wpAny_bind (zB (s:={s with heap:=h3,toks:=tk,drawn:=d}) T3 fun o ho=>?_);refine wpAny_bind (wpAny_pure ?_)
  by_cases hk:k∈M
  ·rw[acS (by rw[ho,aci hk];decide)];refine wpAny_pure (step h3 tk _ k3 ⟨done++[(hashStr w k,Value.str k tk')],h3,tk,by rw[hsp];simp,rfl,?_,k3⟩);rw[em,acR hk];exact F3
  ·rw[acR (by rw[ho,abX hk];rfl)];refine wpAny_bind (j5 (s:={s with heap:=h3,toks:=tk,drawn:=d}) F3 hdl fun h4 sb4 F4=>?_);have k4:∀x o,x≠s.heap.objs.size->h2.get? x=some o->h4.get? x=some o:=fun x o hx e=>sb4.extBut _ _ hx (k3 x o hx e)
   refine wpAny_pure (step h4 tk _ k4 ⟨done++[(hashStr w k,Value.str k tk')],h4,tk,by rw[hsp];simp,rfl,?_,k4⟩);rw[em,acS hk];exact F4
 ·rintro u s' ⟨done,h3,tk,hsp,rfl,F3,k3⟩;have hsp:es.toList=done:=by rw[hsp];simp
  subst hsp;refine wpAny_pure (wpAny_pure (wpAny_pure ⟨_,rfl,(by intro z;cases z),h _ h3 tk d (j8 M _ _ acj) (fun x=>?_) F3 fun x o e=>?_⟩))
  ·rw[mT];rw[hE.2.mem_iff];simp
  ·have hlt:x≠s.heap.objs.size:=acx (acw e);exact k3 x o hlt (sb2.extBut _ _ hlt (k1 x o e))
end
end SL
namespace L2
open PySem PySem.Spec PyProof.Rows
open SL (aV aj srt ip)
section
variable {X:Cx}{pins:List (Addr×Obj)}{σ:St}{H:Hp}{s:Shared}
def Inv.draw(I:Inv X pins σ H s)(d:Drawn):Inv X pins σ H {s with drawn:=d}:=⟨I.ok,I.os,I.bare,I.base,I.loc,I.cell,I.free,I.freeC,I.pin,I.hok,I.len⟩
def l9:∀{ss:List Str} {us:List Value},Vals (ss.map V.str) us->StrsAre us ss
 |[],us,h=>by cases h;exact .nil
 |x::r,us,h=>by
  cases h with
  |cons e t=>
   obtain⟨tk,rfl⟩:=e;exact .cons x tk (l9 t)
def jm:∀{us:List Value} {ss:List Str},StrsAre us ss->Vals (ss.map V.str) us
 |_,_,.nil=>.nil
 |_,_,.cons x t h=>.cons ⟨t,rfl⟩ (jm h)
def j9{us:List Value}{ss:List Str}(h:StrsAre us ss):us.length=ss.length:=by
 have:=(jm h).length;rw[ab3] at this;exact this.symm
def ke:∀{us:List Value} {ss:List Str},StrsAre us ss->∀(i:Nat) (v:Value),us[i]? =some v->∃t,v=.str (ss.getD i Str.empty) t
 |_,_,.nil,i,v,h=>by simp at h
 |_,_,.cons x t r,0,v,h=>by simp at h;exact⟨t,by rw[←h];rfl⟩
 |_,_,.cons x t r,i+1,v,h=>by
  simp only[List.getElem?_cons_succ] at h;obtain⟨t',e⟩:=ke r i v h;exact⟨t',by rw[e];rfl⟩
def c9(w:World)(a:Addr)(L:List Str):HO:=.ext fun h=>aV w h a L
def qI{P:Program}{w:World}{H:Hp}{h:Heap}{a:Addr}{L:List Str}(S:aV w h a L):aX P w H h a (c9 w a L):=⟨S,S.there,fun _ _ S k=>S.at k⟩
def Inv.vY{a:Addr}{L:List Str}(I:Inv X pins σ H s)(h:H a=some (c9 X.w a L)):aV X.w s.heap a L:=(I.hok a _ h).1
def Inv.newList{its:List Value}{ys:List V}{n:Nat}{h':Heap}{a:Addr}{tk:Nat}(I:Inv X pins σ H s)(k:∀b o,s.heap.get? b=some o->h'.get? b=some o)(ha:s.heap.objs.size<=a)(e:h'.get? a=some {cls:=.type "list",data:=.seq its.toArray n})(r:Vals ys its)(hz:ys.length<=sizeLine) :
  Inv X pins σ (upd H a (.lst ys)) {s with heap:=h',toks:=tk}:=I.laid (t':=tk) k ha (show aX X.prog X.w _ h' _ (.lst ys) from ⟨hz,its,n,r,e⟩)
end
section
variable {X:Cx}
def fF(hc:X.calm=true):dB X (.type "set") (fun xs H Q=>∃p ss,xs=[.ref p]/\SqL X.K H p (ss.map V.str)/\ss.length+1<scanBound/\∀q,H q=none->Q (.ref q) (upd H q (c9 X.w q (aj ss)))):=by
 intro pins s σ H xs us Q I r h;obtain⟨p,ss,rfl,hq,hb,q⟩:=h;obtain⟨u,rfl,rx⟩:=vals1 r;cases rx
 obtain⟨its,r',pl,hz⟩:=I.list hq;have hS:=l9 r';have hl:=j9 hS;refine SL.nO (I.ok.hd hc) pl.isList (ss:=ss) (fun i v e=>ke hS i v (by simpa using e)) (by simpa using hl) (by simp only[abr];omega) fun h' tk S k=>?_
 exact⟨.ref _,_,I.laid (t':=tk) (fun b o e=>k b o (acw e) e) (acH _) (qI S),rfl,q _ I.fresh⟩
def yn:OpR X (binaryOp .Sub) (fun x y H Q=>∃a b L M,x=.ref a/\y=.ref b/\H a=some (c9 X.w a L)/\H b=some (c9 X.w b M)/\L.length / 4<=M.length/\
  ∀q D,H q=none->D.Nodup->(∀z,z∈D↔z∈L/\¬z∈M)->Q (.ref q) (upd H q (c9 X.w q D))):=by
 intro pins s σ H x y v u Q I rx ry h;obtain⟨a,b,L,M,rfl,rfl,h1,h2,hl,q⟩:=h;cases rx
 cases ry
 refine SL.zE (I.vY h1) (I.vY h2) hl fun D h' tk d nd hm S k=>?_
 have J:Inv X pins σ (upd H s.heap.objs.size (c9 X.w s.heap.objs.size D)) {s with heap:=h',toks:=tk}:=I.laid (t':=tk) k (acH _) (qI S);exact⟨.ref _,_,J.draw d,rfl,q _ D I.fresh nd hm⟩
def BG(X:Cx)(H:Hp)(p:Addr)(ss:List Str):Prop:=SqL X.K H p (ss.map V.str)\/H p=some (c9 X.w p ss)\/∃kvs,H p=some (.dK kvs)/\kvs.map (·.1)=ss.map Sum.inr
def cR(hc:X.calm=true):dB X (.builtin "sorted") (fun xs H Q=>∃p ss,xs=[.ref p]/\BG X H p ss/\ss.length<64/\∀q,H q=none->Q (.ref q) (upd H q (.lst ((srt ss).map V.str)))):=by
 intro pins s σ H xs us Q I r h;obtain⟨p,ss,rfl,hq,h64,q⟩:=h;obtain⟨u,rfl,rx⟩:=vals1 r;cases rx
 have hh:X.A.in1.handled=none:=I.ok.hd hc;have hz:((srt ss).map V.str).length<=sizeLine:=by rw[ab3,SL.dQ,acJ];omega
 have fin:∀(vs:List Value) (ss':List Str) (h1:Heap) (tk:Nat) (d:Drawn),StrsAre vs ss'->ss'.Perm ss->(∀b o,s.heap.get? b=some o->h1.get? b=some o)->
   ∃ss,StrsAre vs ss/\vs.length<64/\∀(out:List Value) (e:Nat) (h':Heap),StrsAre out (srt ss)->(∀b o,h1.get? b=some o->h'.get? b=some o)->h'.get? h1.objs.size=some {cls:=.type "list",data:=.seq out.toArray e}->
    EP X pins σ Q (.ref h1.objs.size) {s with heap:=h',toks:=tk,drawn:=d}:=by
  intro vs ss' h1 tk d hS hp k;have I1:Inv X pins σ H {s with heap:=h1,toks:=tk}:=I.kept (t':=tk) k;refine⟨ss',hS,by rw[j9 hS,hp.length_eq];exact h64,fun out e h' hO k' he=>?_⟩;rw[SL.uo hp] at hO;have J:=I1.newList (tk:=tk) k' (acH _) he (jm hO) hz;exact⟨.ref _,_,J.draw d,rfl,q _ I1.fresh⟩
 refine SL.ut ?_;rcases hq with hq|hq|⟨kvs,hq,hk⟩
 ·obtain⟨its,r',pl,hz'⟩:=I.list hq;have hS:=l9 r';refine collect_list pl.isList ?_;refine fin its ss _ s.toks s.drawn hS (.refl _) (fun b o e=>?_);refine(aaB _ _ ?_).trans (aaz _ e);exact acQ (acx (acw e))
 ·refine SL.qu hh (I.vY hq) fun vs h' tk d hO k=>?_
  have hS:=strsAre_map vs hO.str;have e:vs.map strOf=vs.map SL.cD:=aa8 fun v hv=>by
   obtain⟨x,t,rfl⟩:=hO.str v hv;rfl
  exact fin vs _ h' tk d hS (by rw[e];exact hO.perm) k
 ·obtain⟨z,hsm,vs,rel,dd⟩:=nW I.hok hq;obtain⟨ep,hat⟩:=dd.dictAt;have hlen:vs.length=ss.length:=by
   have h1:=rel.length;have h2:=acN List.length hk;rw[ab3,ab3] at h2;omega
  refine PySem.W.kdu_collect (PySem.W.kdl_dict (knd:=bz X.prog X.w) (kvs:=vs) (ep:=ep) hsm) hh hat (by rw[hlen,acJ];omega) fun h' tk acc k hacc=>?_
  have hS:StrsAre acc.toList ss:=by
   have hks:vs.map (·.1)=ss.map Sum.inr:=by rw[←rel.keys];exact hk
   have hst:∀(j:Nat) (v:Value),acc[j]? =some v->∃t,v=.str (ss.getD j Str.empty) t:=fun j v e=>by
    obtain⟨k',x,h1,h2⟩:=hacc.2 j v e;have h3:=acN (fun l=>l[j]?) hks;simp only[abt,h1] at h3;cases q3:ss[j]? with
    |none=>rw[q3] at h3;cases h3
    |some y=>
     rw[q3] at h3;have h3:some k'=some (Sum.inr y):=h3;injection h3 with h3;subst h3;obtain⟨t,rfl⟩:=Value.isStrOf_shape (x:=y) (v:=v) h2;exact⟨t,by rw[aah,q3];rfl⟩
   have ha:∀v,v∈acc.toList->∃x t,v=Value.str x t:=fun v hv=>by
    obtain⟨j,hj,e⟩:=List.mem_iff_getElem.mp hv;obtain⟨t,e'⟩:=hst j v (by rw[←aaI,aao hj,e]);exact⟨_,t,e'⟩
   have h4:=strsAre_map acc.toList ha;have h5:acc.toList.map strOf=ss:=by
    apply abE;intro j;rw[abt,aaI];cases q4:acc[j]? with
    |none=>
     have:ss.length<=j:=by
      rw[Array.getElem?_eq_none_iff] at q4;rw[hacc.1,hlen] at q4;exact q4
     rw[aaM this];rfl
    |some v=>
     obtain⟨t,rfl⟩:=hst j v q4;have hj:j<ss.length:=by
      obtain⟨hlt,_⟩:=Array.getElem?_eq_some_iff.mp q4;rw[hacc.1,hlen] at hlt;exact hlt
     rw[aah,aao hj];rfl
   rw[h5] at h4;exact h4
  exact fin _ ss h' tk s.drawn hS (.refl _) k
def oX(hc:X.calm=true):dB X (.builtin "all") (fun xs H Q=>∃(p:Addr) (bs:List Bool),xs=[.ref p]/\SqL X.K H p (bs.map V.bl)/\Q (.bl (bs.all id)) H):=by
 intro pins s σ H xs us Q I r h;obtain⟨p,bs,rfl,hq,q⟩:=h;obtain⟨u,rfl,rx⟩:=vals1 r;cases rx
 obtain⟨its,r',pl,hz⟩:=I.list hq;have hplt:p<s.heap.objs.size:=by
  obtain⟨o,n,e,_⟩:=pl;exact acw e
 have hb:∀(i:Nat) (v:Value),its.toArray[i]? =some v->v=.bool (bs.getD i true)/\i<bs.length:=fun i v e=>by
  have e:its[i]? =some v:=by simpa using e
  cases q1:(bs.map V.bl)[i]? with
  |none=>
   have:=Vals.none_of r' q1;rw[this] at e;cases e
  |some x=>
   obtain⟨u,h1,h2⟩:=Vals.get r' q1;rw[e] at h1;cases h1;rw[abt] at q1;cases q2:bs[i]? with
   |none=>rw[q2] at q1;cases q1
   |some b=>
    rw[q2] at q1;have q1:some (V.bl b)=some x:=q1;injection q1 with q1;subst q1;cases h2
    rw[aah,q2];exact⟨rfl,(aaj.mp q2).1⟩
 have hl:its.length=bs.length:=by
  have:=r'.length;rw[ab3] at this;exact this.symm
 refine call_all_walk (wpAny_pyIter_list pl.isList ?_);refine⟨s.heap.objs.size,_,_,_,_,_,fun i=>bs.getD i true,rfl,Walks.list (show X.A.in1.handled=none from I.ok.hd hc) s.heap.objs.size p (acx hplt) its.toArray,⟨⟨_,aa3 _ rfl,rfl,rfl⟩,pl.isList.push _⟩,?_,fun h' tk k=>?_⟩
 ·intro i v s' Q' E' hP h';obtain⟨rfl,_⟩:=hb i v hP;exact abq h'
 ·have e:((List.range its.toArray.size).all fun i=>bs.getD i true)=bs.all id:=by
   rw[abr,hl,ab2,abR,abR];constructor
   ·intro z b hb';obtain⟨i,hi,e⟩:=List.mem_iff_getElem.mp hb';have:=z i (acg.mpr hi);rw[aah,aao hi] at this;rw[←e];exact this
   ·intro z i hi;have hi:=acg.mp hi;rw[aah,aao hi];exact z _ (abN hi)
  rw[e];refine⟨.bl _,H,I.kept (t':=tk) fun b o z=>?_,rfl,q⟩;exact k b o (by simp only[abl];exact acx (acw z)) (aaz _ z)
def preSum_eq(ns:List Int):∀n,n<=ns.length->preSum (fun i=>ns.getD i 0) n=(ns.take n).sum
 |0,_=>rfl
 |n+1,h=>by
  show preSum _ n+ns.getD n 0=_;rw[preSum_eq ns n (by omega),acm,List.sum_append,aah,aao (by omega)];simp
def vZ(hc:X.calm=true):dB X (.builtin "sum") (fun xs H Q=>∃(p:Addr) (ns:List Int),xs=[.ref p]/\SqL X.K H p (ns.map V.int)/\Q (.int ns.sum) H):=by
 intro pins s σ H xs us Q I r h;obtain⟨p,ns,rfl,hq,q⟩:=h;obtain⟨u,rfl,rx⟩:=vals1 r;cases rx
 obtain⟨its,r',pl,hz⟩:=I.list hq;have hI:=intsAre_of r';have hplt:p<s.heap.objs.size:=by
  obtain⟨o,n,e,_⟩:=pl;exact acw e
 have hl:its.length=ns.length:=hI.length;refine call_sum_walkAnyS (wpAny_pyIter_list pl.isList ?_);refine⟨s.heap.objs.size,_,_,_,_,_,_,fun i=>ns.getD i 0,rfl,(Walks.list (show X.A.in1.handled=none from I.ok.hd hc) s.heap.objs.size p (acx hplt) its.toArray).toS,⟨⟨_,aa3 _ rfl,rfl,rfl⟩,pl.isList.push _⟩,fun b hb=>?_,fun i v e=>IntsAre.int_at hI i v (by simpa using e),fun s' t' hm=>?_⟩
 ·simp only[acq,abO,acP] at hb;show b<(s.heap.push _).objs.size;rw[ach];rcases hb with rfl|rfl
  ·exact abJ _
  ·exact abC hplt
 ·have e:preSum (fun i=>ns.getD i 0) its.toArray.size=ns.sum:=by
   rw[abr,hl,preSum_eq ns _ (acH _),abS]
  rw[e,SL.oT hm];refine⟨.int _,H,I.kept (t':=s'.toks) fun b o z=>?_,⟨_,rfl⟩,q⟩;exact hm.heap b o (by simp only[abl];exact acx (acw z)) (aaz _ z)
end
end L2
namespace L2
open PySem PySem.Spec PyProof.Rows
open SL (aV aj srt ip)
def Itd(o:Obj)(d:Addr)(kvs:List (Key×V)):It:=
 ⟨fun i H=>H d=some (.frz o (.dK kvs))/\i<kvs.length,fun i H x H'=>H'=H/\∃k v,kvs[i]? =some (k,v)/\x=kV k,fun i H=>H d=some (.frz o (.dK kvs))/\kvs.length<=i⟩
def yo{P:Program}{w:World}{k:Key}{u:Value}(h:(bz P w).is k u=true):RelV (kV k) u:=by
 rcases bY (k:=k) (v:=u) h with ⟨i,t,rfl,rfl⟩|⟨x,t,rfl,rfl⟩
 ·exact⟨t,rfl⟩
 ·exact⟨t,rfl⟩
def uu{P:Program}{w:World}{K:acX}{tg:Expr}(d it:Addr)(o:Obj)(kvs:List (Key×V))(n ep:Nat)(hn:n=kvs.length)(hep:∃es,o.data=.dict es ep):Turn P w K tg (Itd o d kvs) [it] it (fun i h=>h.IsKeyIter it d i n ep) where
 mem:=by simp
 obj:=fun i h st b hb=>by
  have e:b=it:=by simpa using hb
  subst e;obtain⟨o',ho,hc,hd⟩:=st;exact⟨o',ho,fun v z=>by rw[hd] at z;cases z⟩
 keep:=fun i h h' st k=>by
  obtain⟨o',ho,r⟩:=st;exact⟨o',k it (by simp) o' ho,r⟩
 item:=by
  intro X hP hw hK hc i pins s σ H E I f st go;subst hP;subst hw;subst hK;obtain⟨e,hi⟩:=go;obtain⟨ho,ob⟩:=I.hok d _ e;obtain⟨z,hsm,vs,rel,o2,es2,ep2,h1,h2,h3,h4,h5,h6⟩:=ob;rw[ho] at h1;cases h1;obtain⟨es,hes⟩:=hep;rw[hes] at h3;injection h3 with h3 h3';subst h3';have hvl:vs.length=n:=by rw[hn,←rel.length]
  have hat:s.heap.DictAt (bz X.prog X.w) d vs ep:=⟨o,es2,ho,h2,by rw[hes,h3],h4,h5,h6⟩;subst hvl;obtain⟨kv,hkv⟩:∃kv,kvs[i]? =some kv:=⟨kvs[i],aao hi⟩;have hvi:∃u,vs[i]? =some (kv.1,u):=by
   have hk:=acN (fun l=>l[i]?) rel.keys;simp only[abt,hkv] at hk;cases q:vs[i]? with
   |none=>rw[q] at hk;cases hk
   |some p=>
    rw[q] at hk;have hk:some kv.1=some p.1:=hk;injection hk with hk;exact⟨p.2,by rw[hk]⟩
  obtain⟨u,hu⟩:=hvi;have hf:=f it (by simp);refine wpAny_pyNext_dict_item st hat hu fun key h' hkey st' hs=>?_
  obtain⟨oi,hoi,hci,hdi⟩:=id st';refine⟨key,rfl,lb (n:="dict_keyiterator") hoi hci hdi (by decide) ?_⟩;exact⟨kV kv.1,H,I.turned (t':=s.toks) (fun b o hb e=>hs.extBut b o hb e) hf.1 hf.2.1 hf.2.2.2.1 hf.2.2.2.2.1 hf.2.2.2.2.2,yo hkey,⟨rfl,kv.1,kv.2,hkv,rfl⟩,st',fun b hb=>by
   have e:b=it:=by simpa using hb
   subst e;exact hf.1⟩
 done:=by
  intro X hP hw hK hc i pins s σ H E I f st stop;subst hP;subst hw;subst hK;obtain⟨e,hi⟩:=stop;obtain⟨ho,ob⟩:=I.hok d _ e;obtain⟨z,hsm,vs,rel,o2,es2,ep2,h1,h2,h3,h4,h5,h6⟩:=ob;rw[ho] at h1;cases h1;obtain⟨es,hes⟩:=hep;rw[hes] at h3;injection h3 with h3 h3';subst h3';have hvl:vs.length=n:=by rw[hn,←rel.length]
  have hat:s.heap.DictAt (bz X.prog X.w) d vs ep:=⟨o,es2,ho,h2,by rw[hes,h3],h4,h5,h6⟩;subst hvl;have hf:=f it (by simp);refine wpAny_pyNext_dict_end (I.ok.hd hc) st hat (aaM (by rw[←rel.length];exact hi)) fun h' hs=>?_
  exact⟨rfl,I.turned (t':=s.toks) (fun b o hb e=>hs b o hb e) hf.1 hf.2.1 hf.2.2.2.1 hf.2.2.2.2.1 hf.2.2.2.2.2⟩
 self:=fun A i s Q E st h=>wpAny_pyIter_keyiter st h
def AV(tl:TE):TI:=fun σ H R=>tl σ H fun x H1=>∃d kvs,x=.ref d/\H1 d=some (.dK kvs)/\∀o,R (Itd o d kvs) (upd H1 d (.frz o (.dK kvs)))
section
variable {X:Cx}{tg:Expr}
def Inv.freeze{pins:List (Addr×Obj)}{σ:St}{H:Hp}{s:Shared}{d:Addr}{kvs:List (Key×V)}{o:Obj}(I:Inv X pins σ H s)(e:H d=some (.dK kvs))(ho:s.heap.get? d=some o):Inv X pins σ (upd H d (.frz o (.dK kvs))) s:=by
 have mu:Mut (H d):=by rw[e];trivial
 have hok:HOk X.prog X.w (upd H d (.frz o (.dK kvs))) s.heap:=I.hok.write mu (.inl rfl) (fun _ _ _ q=>q) ⟨o,ho⟩ ⟨ho,(I.hok d _ e).bX (fun _ _ _ q=>q) (fun b q=>by
   rw[ad (fun z=>by rw[z,e] at q;cases q)];exact q) fun b xs q=>by rw[ad (fun z=>by rw[z,e] at q;cases q)];exact q⟩
 have:=I.un (t':=s.toks) (h':=s.heap) (H':=upd H d (.frz o (.dK kvs))) (Un.write mu (.inl rfl) (fun _ _ _ q=>q) ⟨o,ho⟩) hok;exact this
def yp{l:Expr}{tl:TE}(hl:PE X l tl):PI X tg l (AV tl):=by
 intro pins s σ H R I h;refine thn (hl pins s σ H _ I h) fun v s1 ⟨x,H1,I1,r1,q1⟩=>?_
 obtain⟨d,kvs,rfl,hd,q⟩:=q1;cases r1
 obtain⟨z,hsm,vs,rel,dd⟩:=nW I1.hok hd;obtain⟨ep,hat⟩:=dd.dictAt;obtain⟨o,es,ho,h2,h3,h4⟩:=id hat;refine wpAny_pyIter_dict hsm hat ?_;have I2:=I1.freeze hd ho;have I3:Inv X pins σ (upd H1 d (.frz o (.dK kvs))) {s1 with heap:=s1.heap.push {cls:=.type "dict_keyiterator",data:=.fields #[.ref d,.int 0 0,.int vs.length 0,.int ep 0]}}:=I2.kept (t':=s1.toks) fun b o e=>aaz _ e
 refine⟨s1.heap.objs.size,[s1.heap.objs.size],_,Itd o d kvs,_,rfl,I3,uu d s1.heap.objs.size o kvs vs.length ep rel.length.symm ⟨es,h3⟩,⟨_,aa3 _ rfl,rfl,rfl⟩,fun b hb=>?_,q o⟩;have e:b=s1.heap.objs.size:=by simpa using hb
 subst e;exact I2.fY (acH _) I2.fresh
def v5{o:Obj}{d:Addr}{kvs:List (Key×V)}{g:TG}{tb:TS}{D:Ends}{σ:St}{H:Hp}(Pv:Nat->St->Hp->Prop)(h0:Pv 0 σ H)(hl:∀i σ H,Pv i σ H->H d=some (.frz o (.dK kvs)))
  (hs:∀i k v σ H,kvs[i]? =some (k,v)->Pv i σ H->g (kV k) σ H fun σ2 H2=>tb {D with nx:=Pv (i+1),ct:=Pv (i+1),bk:=D.nx} σ2 H2)(hd:∀σ H,Pv kvs.length σ H->D.nx σ H) :
  ∃W:Nat->Nat->St->Hp->Prop,(∃m,W 0 m σ H)/\∀i m σ H,W i m σ H->
   ((Itd o d kvs).stop i H/\D.nx σ H)\/((Itd o d kvs).go i H/\∃N:St->Hp->Prop,(∀σ' H',N σ' H'->∃m',m'<m/\W (i+1) m' σ' H')/\∀x H',(Itd o d kvs).yld i H x H'->g x σ H' fun σ2 H2=>tb {D with nx:=N,ct:=N,bk:=D.nx} σ2 H2):=by
 refine⟨fun i m σ H=>Pv i σ H/\i<=kvs.length/\m=kvs.length - i,⟨_,h0,acI _,rfl⟩,fun i m σ H ⟨p,hi,hm⟩=>?_⟩;rcases acE i kvs.length with hlt|hge
 ·refine .inr ⟨⟨hl i σ H p,hlt⟩,Pv (i+1),fun σ' H' n=>⟨kvs.length - (i+1),by omega,n,hlt,rfl⟩,fun x H' y=>?_⟩;obtain⟨rfl,k,v,e,rfl⟩:=y;exact hs i k v σ _ e p
 ·have e:i=kvs.length:=by omega
  subst e;exact .inl ⟨⟨hl _ σ H p,acH _⟩,hd σ H p⟩
end
end L2
namespace L2
open PySem PySem.Spec PyProof.Rows
open SL (aV aj srt ip)
section
variable {X:Cx}
def cE:dB X (.builtin "isinstance") (fun xs H Q=>∃x c t b,xs=[x,.ty c]/\cj X.K H x t/\PySem.W.kitOne X.K t (.type c)=some b/\Q (.bl b) H):=by
 intro pins s σ H xs us Q I r h;obtain⟨x,c,t,b,rfl,ty,e,q⟩:=h;obtain⟨u,w',rfl,rx,ry⟩:=vals2 r;cases ry
 exact tW I rx ty e fun tk=>⟨.bl b,H,I.tok tk,rfl,q⟩
def uv:dB X (.builtin "isinstance") (fun xs H Q=>∃(x:V) (tp:Addr) (cs:List String) (t:Value) (b:Bool),xs=[x,.ref tp]/\H tp=some (.tup (cs.map V.ty))/\cj X.K H x t/\PySem.W.kitAny X.K t (cs.map Value.type)=some b/\Q (.bl b) H):=by
 intro pins s σ H xs us Q I r h;obtain⟨x,tp,cs,t,b,rfl,htp,ty,e,q⟩:=h;obtain⟨u,w',rfl,rx,ry⟩:=vals2 r;cases ry
 obtain⟨_,its,rv,⟨o,ho,hoc,n,hod⟩⟩:=I.hok tp _ htp;have ei:its=cs.map Value.type:=by
  clear e htp ho hod;have:∀(cs:List String) (its:List Value),Vals (cs.map V.ty) its->its=cs.map Value.type:=by
   intro cs
   induction cs with
   |nil=>intro its h;cases h;rfl
   |cons c r ih=>
    intro its h;cases h with
    |cons h1 h2=>
     have h1:_=Value.type c:=h1;rw[h1,ih _ h2];rfl
  exact this cs its rv
 obtain⟨oc,od,odt,osl⟩:=o;simp only at hoc hod;subst hoc;subst hod;rw[ei] at ho;have fin:∀tk,EP X pins σ Q (.bool b) {s with toks:=tk}:=fun tk=>⟨.bl b,H,I.tok tk,rfl,q⟩
 cases ty with
 |non=>cases (show u=Value.none from rx);exact acd PySem.W.kitx_none I.kIn True.intro ho e (fun z=>nomatch z) fin
 |bl y=>cases (show u=Value.bool y from rx);exact acd PySem.W.kitx_bool I.kIn True.intro ho e (fun z=>nomatch z) fin
 |int i=>obtain⟨t,q⟩:=(show ∃t,u=Value.int i t from rx);cases q;exact acd PySem.W.kitx_int I.kIn True.intro ho e (fun z=>nomatch z) fin
 |str y=>obtain⟨t,q⟩:=(show ∃t,u=Value.str y t from rx);cases q;exact acd PySem.W.kitx_str I.kIn True.intro ho e (fun z=>nomatch z) fin
 |flt y=>obtain⟨t,q⟩:=(show ∃t,u=Value.float y t from rx);cases q;exact acd PySem.W.kitx_float I.kIn True.intro ho e (fun z=>nomatch z) fin
 |@lst a xs ea=>
  cases (show u=Value.ref a from rx)
  obtain⟨_,_,n,_,h1⟩:=(show aX X.prog X.w H s.heap a (.lst xs) from I.hok a _ ea);exact acd PySem.W.kitx_list I.kIn ⟨_,h1,rfl⟩ ho e (fun z=>nomatch z) fin
 |@frz a ob xs ea=>
  cases (show u=Value.ref a from rx)
  obtain⟨_,_,_,n,_,h1⟩:=(show aX X.prog X.w H s.heap a (.frz ob (.lst xs)) from I.hok a _ ea);exact acd PySem.W.kitx_list I.kIn ⟨_,h1,rfl⟩ ho e (fun z=>nomatch z) fin
 |@tup a xs ea=>
  cases (show u=Value.ref a from rx)
  obtain⟨_,_,_,p⟩:=(show aX X.prog X.w H s.heap a (.tup xs) from I.hok a _ ea);obtain⟨o,h1,h2,_⟩:=p;exact acd PySem.W.kitx_tuple I.kIn ⟨o,h1,h2⟩ ho e (fun z=>nomatch z) fin
 |@dK a kvs ea=>
  cases (show u=Value.ref a from rx)
  obtain⟨_,_,vs,_,p⟩:=(show aX X.prog X.w H s.heap a (.dK kvs) from I.hok a _ ea);obtain⟨o,es,ep,h1,h2,_⟩:=p;exact acd PySem.W.kitx_dict I.kIn ⟨o,h1,h2.1⟩ ho e (fun z=>nomatch z) fin
 |@dT a kvs ea=>
  cases (show u=Value.ref a from rx)
  obtain⟨_,_,xs,_,o,es,ep,h1,h2,_⟩:=(show aX X.prog X.w H s.heap a (.dT kvs) from I.hok a _ ea);exact acd PySem.W.kitx_dict I.kIn ⟨o,h1,h2.1⟩ ho e (fun z=>nomatch z) fin
 |@ins a C dx fs ea cl ha hn htk hm=>
  cases (show u=Value.ref a from rx)
  obtain⟨mA,O,_⟩:=ie I.hok ea;obtain⟨od,J,_⟩:=O.look;exact acd (PySem.W.kitx_own (cl.get _) cl.hd ha hn htk hm) I.kIn J ho e (fun z=>nomatch z) fin
end
end L2
namespace L2
open PySem PySem.Spec PyProof.Rows
open SL (aV aj srt ip)
section
variable {X:Cx}
def kC(hu:X.A.units<cLine):OpR X (compareOp .NotEq) (fun x y H Q=>∃a b xs,x=.ref a/\y=.ref b/\SqL X.K H a xs/\SqL X.K H b []/\Q (.bl (!xs.isEmpty)) H):=by
 intro pins s σ H x y v u Q I rx ry h;obtain⟨a,b,xs,rfl,rfl,h1,h2,q⟩:=h;cases rx
 cases ry
 obtain⟨its,r,pl,hz⟩:=I.list h1;obtain⟨its2,r2,pl2,hz2⟩:=I.list h2;cases r2
 have hl:=r.length;cases xs with
 |nil=>
  cases r
  refine SeqAt.RcNeAt.lists (e:=fun _=>true) pl.isList pl2.isList rfl hu (fun j h1 h2=>absurd h1 (by simp)) X.prog X.w _ _ ?_;exact⟨.bl false,H,I,rfl,q⟩
 |cons x xr=>
  refine SeqAt.RcNeAt.lists_lengths pl.isList pl2.isList ?_ hu X.prog X.w _ _ ?_
  ·simp only[abr];rw[←hl];simp
  ·exact⟨.bl true,H,I,rfl,q⟩
end
abbrev Row:=Str×List Str
def ao(H:Hp)(a:Addr)(ss:List Str):Prop:=H a=some (.lst (ss.map V.str))
def cU(H:Hp)(v:V)(p:Row):Prop:=∃t b,v=.ref t/\H t=some (.tup [.str p.1,.ref b])/\ao H b p.2
def aQ(H:Hp)(a:Addr)(R:List Row):Prop:=∃vs,H a=some (.lst vs)/\Paired (cU H) vs R
def ao.mono{H H':Hp}(e:ab H H'){a:Addr}{ss:List Str}(h:ao H a ss):ao H' a ss:=e _ _ h
def cU.mono{H H':Hp}(e:ab H H'){v:V}{p:Row}(h:cU H v p):cU H' v p:=by
 obtain⟨t,b,h1,h2,h3⟩:=h;exact⟨t,b,h1,e _ _ h2,h3.mono e⟩
def aQ.mono{H H':Hp}(e:ab H H'){a:Addr}{R:List Row}(h:aQ H a R):aQ H' a R:=by
 obtain⟨vs,h1,h2⟩:=h;exact⟨vs,e _ _ h1,Paired.bp h2 fun _ _ q=>q.mono e⟩
def ba{α β:Type}{F:α->β->Prop}:∀{l₁:List α} {l₂:List β},Paired F l₁ l₂->∀(i:Nat) (x:α),l₁[i]? =some x->∃y,l₂[i]? =some y/\F x y
 |_,_,.nil,i,x,e=>by simp at e
 |_,_,.cons h _,0,x,e=>by simp at e;subst e;exact⟨_,rfl,h⟩
 |_,_,.cons _ t,i+1,x,e=>by
  obtain⟨y,h1,h2⟩:=ba t i x (by simpa using e);exact⟨y,by simpa using h1,h2⟩
def b7{α β:Type}{F:α->β->Prop}:∀{l₁:List α} {l₂:List β},Paired F l₁ l₂->∀{x:α} {y:β},F x y->Paired F (l₁++[x]) (l₂++[y])
 |_,_,.nil,x,y,h=>.cons h .nil
 |_,_,.cons h t,x,y,h'=>.cons h (b7 t h')
def ab.upd{H:Hp}{a:Addr}{o:HO}(h:H a=none):ab H (upd H a o):=fun b u e=>by rw[ad (av e h)];exact e
def ab.bG{H H1:Hp}{a:Addr}{o:HO}(e:ab H H1)(h:H a=none):ab H (L2.upd H1 a o):=fun b u q=>by rw[ad (av q h)];exact e b u q
section
variable {A:Around}{s:Shared}{P:Program}{w:World}{H:Hp}
def ux(A:Around)(s:Shared):∀{ss rs:List Str} {us vs:List Value},Vals (ss.map V.str) us->Vals (rs.map V.str) vs->∀(j:Nat) (h1:j<us.toArray.size) (h2:j<vs.toArray.size),SeqAt.EqAt A s us.toArray[j] vs.toArray[j] (decide (ss[j]? =rs[j]?)):=by
 intro ss rs us vs r1 r2 j h1 h2;have e1:us[j]? =some us.toArray[j]:=by rw[←List.getElem?_toArray,aal h1]
 have e2:vs[j]? =some vs.toArray[j]:=by rw[←List.getElem?_toArray,aal h2]
 have l1:=r1.length;have l2:=r2.length;rw[ab3] at l1 l2;have hj1:j<ss.length:=by rw[l1];simpa using h1
 have hj2:j<rs.length:=by rw[l2];simpa using h2
 obtain⟨u,hu,ru⟩:=Vals.get r1 (i:=j) (x:=.str ss[j]) (by rw[abt,aao hj1];rfl);obtain⟨v,hv,rv⟩:=Vals.get r2 (i:=j) (x:=.str rs[j]) (by rw[abt,aao hj2];rfl);rw[e1] at hu;cases hu;rw[e2] at hv;cases hv;have:=ox (A:=A) (s:=s) ru rv rfl rfl;have e:decide (ss[j]? =rs[j]?)=eqV (.str ss[j]) (.str rs[j]):=by
  rw[aao hj1,aao hj2];show _=(ss[j] == rs[j])
  by_cases z:ss[j]=rs[j]
  ·rw[z];simp
  ·rw[abX (fun q=>z (abY q))];exact(aa1.mpr z).symm
 rw[e];exact this
def r9{ss rs:List Str}(hl:ss.length=rs.length):((List.range ss.length).all fun j=>decide (ss[j]? =rs[j]?))=decide (ss=rs):=by
 rw[ab2,abR,abz];constructor
 ·intro h;apply abE;intro j;rcases acE j ss.length with z|z
  ·exact abx (h j (acg.mpr z))
  ·rw[aaM z,aaM (by omega)]
 ·intro h j _;rw[h];simp
def v6{t t' b b':Addr}{l l':Str}{r r':List Str}(ok:HOk P w H s.heap)(hu1:A.units<cLine)(hu2:A.in1.units<cLine)(h1:H t=some (.tup [.str l,.ref b]))(h2:ao H b r)(h1':H t'=some (.tup [.str l',.ref b']))(h2':ao H b' r')(ht:t≠t')(hb:b≠b') :
  SeqAt.EqAt A s (.ref t) (.ref t') (decide ((l,r)=(l',r'))):=by
 obtain⟨_,its,rv,tp⟩:=ok t _ h1;obtain⟨_,its',rv',tp'⟩:=ok t' _ h1';obtain⟨_,us,n,ru,eu⟩:=ok b _ h2;obtain⟨_,us',n',ru',eu'⟩:=ok b' _ h2';obtain⟨x1,x2,rfl,rx1,rx2⟩:∃x1 x2,its=[x1,x2]/\RelV (.str l) x1/\RelV (.ref b) x2:=Vals.two rv;obtain⟨y1,y2,rfl,ry1,ry2⟩:∃x1 x2,its'=[x1,x2]/\RelV (.str l') x1/\RelV (.ref b') x2:=Vals.two rv';cases rx2
 cases ry2
 have l1:us.length=r.length:=by have:=ru.length;rw[ab3] at this;exact this.symm
 have l2:us'.length=r'.length:=by have:=ru'.length;rw[ab3] at this;exact this.symm
 have il:s.heap.IsList b us.toArray:=⟨_,eu,rfl,n,rfl⟩;have il':s.heap.IsList b' us'.toArray:=⟨_,eu',rfl,n',rfl⟩;have eL:SeqAt.EqAt A.in1 s (.ref b) (.ref b') (decide (r=r')):=by
  refine SeqAt.EqAt.of_refs hb ?_
  by_cases hl:r.length=r'.length
  ·have:=SeqAt.RcAt.lists (A:=A.in1) (e:=fun j=>decide (r[j]? =r'[j]?)) il il' (by simp[l1,l2,hl]) hu2 (fun j h1 h2=>ux _ _ ru ru' j h1 h2);rw[abr,l1,r9 hl] at this;exact this
  ·have e:decide (r=r')=false:=abX fun z=>hl (by rw[z])
   rw[e];exact SeqAt.RcAt.lists_lengths (A:=A.in1) il il' (by simp[l1,l2,hl]) hu2
 have eS:SeqAt.EqAt A.in1 s x1 y1 (decide (l=l')):=by
  have:=ox (A:=A.in1) (s:=s) rx1 ry1 rfl rfl;have e:eqV (.str l) (.str l')=decide (l=l'):=by
   show(l == l')=_
   by_cases z:l=l'
   ·rw[z];simp
   ·rw[abX z];exact aa1.mpr z
  rw[e] at this;exact this
 refine SeqAt.EqAt.of_refs ht ?_;have:=SeqAt.RcAt.tuples (A:=A) (e:=fun j=>if j=0 then decide (l=l') else decide (r=r')) tp tp' hu1 (fun j h1 h2=>by
  have hj:j<2:=h1;rcases j with _|_|j
  ·exact eS
  ·exact eL
  ·omega)
 have e2:((List.range (min ([x1,Value.ref b]:List Value).toArray.size ([y1,Value.ref b']:List Value).toArray.size)).all (fun j=>if j=0 then decide (l=l') else decide (r=r')) && ([x1,Value.ref b]:List Value).toArray.size == ([y1,Value.ref b']:List Value).toArray.size)=decide ((l,r)=(l',r')):=by
  show((decide (l=l') && (decide (r=r') && true)) && true)=_
  by_cases z1:l=l'
  ·by_cases z2:r=r'
   ·subst z1;subst z2;simp
   ·simp[z1,z2]
  ·simp[z1]
 rw[e2] at this;exact this
end
def iS(H:Hp)(p:Row):Value->Bool
 |.ref t=>match H t with
  |some (.tup [.str l,.ref b])=>match H b with
   |some (.lst xs)=>decide (l=p.1/\xs=p.2.map V.str)
   |_=>false
  |_=>false
 |_=>false
def qv{a b:List Str}(h:a.map V.str=b.map V.str):a=b:=by
 induction a generalizing b with
 |nil=>cases b with | nil=>rfl | cons _ _=>cases h
 |cons x r ih=>cases b with
  |nil=>cases h
  |cons y q=>
   rw[acr,acr] at h;injection h with h1 h2;injection h1 with h1;rw[h1,ih h2]
def v7{H:Hp}{p p':Row}{t b:Addr}(h1:H t=some (.tup [.str p'.1,.ref b]))(h2:ao H b p'.2):iS H p (.ref t)=decide (p'=p):=by
 have h2:H b=some (.lst (p'.2.map V.str)):=h2;unfold iS;dsimp only;rw[h1];dsimp only;rw[h2];dsimp only
 by_cases z:p'=p
 ·subst z;simp
 ·rw[abX z,abX];rintro⟨e1,e2⟩;exact z (Prod.ext e1 (qv e2))
section
variable {X:Cx}
def oY(hu1:X.A.in1.units<cLine)(hu2:X.A.in1.in1.units<cLine):OpR X (compareOp .NotIn) (fun x y H Q=>∃(t b a:Addr) (p:Row) (R:List Row),x=.ref t/\y=.ref a/\H t=some (.tup [.str p.1,.ref b])/\ao H b p.2/\
  (∃vs,H a=some (.lst vs)/\Paired (cU H) vs R/\∀v∈vs,∀t' b' l',v=.ref t'->H t'=some (.tup [.str l',.ref b'])->t'≠t/\b'≠b)/\Q (.bl (!decide (p∈R))) H):=by
 intro pins s σ H x y v u Q I rx ry h;obtain⟨t,b,a,p,R,rfl,rfl,h1,h2,⟨vs,h3,h4,h5⟩,q⟩:=h;cases rx
 cases ry
 obtain⟨_,its,n,rv,e⟩:=I.hok a _ h3;have il:s.heap.IsList a its.toArray:=⟨_,e,rfl,n,rfl⟩;have key:∀{vs:List V} {its:List Value} {R:List Row},Vals vs its->Paired (cU H) vs R->(∀v∈vs,∀t' b' l',v=.ref t'->H t'=some (.tup [.str l',.ref b'])->t'≠t/\b'≠b)->
   (∀z∈its,SeqAt.EqAt X.A.in1 s z (.ref t) (iS H p z))/\its.any (iS H p)=decide (p∈R):=by
  intro vs its R rv
  induction rv generalizing R with
  |nil=>intro h4 _;cases h4;exact⟨fun z hz=>(by cases hz),by simp⟩
  |@cons v u vr ur hvu _ ih=>
   intro h4 h5;cases h4 with
   |@cons _ p' _ Rr hp hrest=>
    obtain⟨hf,ha⟩:=ih hrest fun v hv=>h5 v (aaU _ hv)
    obtain⟨t',b',rfl,g1,g2⟩:=hp;cases hvu
    obtain⟨nt,nb⟩:=h5 _ (abe ..) t' b' p'.1 rfl g1;have ee:=v6 (A:=X.A.in1) I.hok hu1 hu2 g1 g2 h1 h2 nt nb;have er:=v7 (p:=p) g1 g2;refine⟨fun z hz=>?_,?_⟩
    ·rcases acq.mp hz with e|hz
     ·subst e;rw[er];exact ee
     ·exact hf z hz
    ·rw[acs,er,ha,ab2,Bool.or_eq_true,abz,abz,abz,acq];exact⟨fun z=>z.imp Eq.symm id,fun z=>z.imp Eq.symm id⟩
 obtain⟨hf,ha⟩:=key rv h4 h5;refine SeqAt.notIn_listAt (iS H p) il (fun z hz=>hf z (by simpa using hz)) ⟨.bl _,H,I,rfl,?_⟩;rw[show its.toArray.any (iS H p)=its.any (iS H p) by simp,ha];exact q
end
end L2
namespace L2
open PySem PySem.Spec PyProof.Rows
def lookup_mem{α β:Type}[BEq α][LawfulBEq α]:∀{l:List (α×β)} {a:α} {b:β},l.lookup a=some b->(a,b)∈l
 |[],_,_,h=>by cases h
 |(x,y)::r,a,b,h=>by
  rw[abT] at h;cases e:a == x with
  |true=>
   rw[e] at h;have h:some y=some b:=h;injection h with h;rw[eq_of_beq e,h];exact abe ..
  |false=>
   rw[e] at h;exact aaU _ (lookup_mem h)
def aU.plain{X:Cx}{scope:Scope}{N:List Str}(hall:scope.names.all (fun y=>y.2 == .local)=true)(hk:scope.kind=.function)(hl:∀y∈scope.names,y.2=.local->scope.names.lookup y.1=some .local):aU X scope [] N (List.replicate N.length none) where
 clos:=closureFor_none fun y hy=>by
  have:=abR.mp hall y hy;intro z;rw[z] at this;exact absurd this (by decide)
 nocell:=fun y hy z=>by
  have:=abR.mp hall y hy;rw[z] at this;exact absurd this (by decide)
 kind:=hk
 locs:=hl
 cells:=fun x c h=>by cases h
 has:=fun x ⟨v,n⟩=>by
  exfalso;have e:(relabel scope X.env).names=scope.names:=map_eq_self fun y hy=>by
   obtain⟨a,k⟩:=y;have h:(k == NameKind.local)=true:=abR.mp hall (a,k) hy;have h:k=.local:=eq_of_beq h;subst h;rfl
  have key:∀kd:NameKind,(relabel scope X.env).names.lookup x=some kd->kd=.local:=fun kd h=>by
   rw[e] at h;have:=abR.mp hall _ (lookup_mem h);exact eq_of_beq this
  rcases v with z|z|z
  ·exact n z
  ·cases key _ z
  ·cases key _ z
 len:=by simp
 names:=fun j i h=>by
  rw[List.getElem?_replicate] at h;split at h <;> cases h
section
variable {sel:List (Option Nat)}{g:TG}{tc:TT}{te:TE}{σ:St}{H:Hp}{Q:VK}
def jn{K:acX}{a D:Addr}{xs:List V}(Pv:Nat->St->Hp->Prop)(h0:Pv 0 (dP sel σ) (upd H D (.lst [])))
  (hl:∀i τ H1,Pv i τ H1->SqL K H1 a xs)
  (hs:∀i x τ H1,xs[i]? =some x->Pv i τ H1->g x τ H1 fun τ2 H4=>tc τ2 H4 fun b H5=>if b=true then te τ2 H5 fun y H6=>∃ys,H6 D=some (.lst ys)/\ys.length<sizeLine/\Pv (i+1) τ2 (upd H6 D (.lst (ys++[y]))) else Pv (i+1) τ2 H5)
  (hd:∀τ H1,Pv xs.length τ H1->Q (.ref D) H1) :
  gP sel (Itl K a) D g tc te σ H Q:=by
 refine⟨fun i m τ H1=>Pv i τ H1/\i<=xs.length/\m=xs.length - i,⟨_,h0,acI _,rfl⟩,?_⟩;rintro i m τ H2 ⟨p,hi,hm⟩;have sq:=hl i τ H2 p;rcases acE i xs.length with hlt|hge
 ·refine .inr ⟨⟨xs,xs[i],sq,aao hlt⟩,Pv (i+1),fun τ' H' n=>⟨xs.length - (i+1),by omega,n,hlt,rfl⟩,?_⟩;rintro x H3 ⟨rfl,hx⟩;exact hs i x τ _ (hx xs sq) p
 ·have e:i=xs.length:=by omega
  subst e;exact .inl ⟨⟨xs,sq,acH _⟩,hd τ H2 p⟩
def da{K:acX}{a D:Addr}{xs:List V}{n:Nat}(Pv:Nat->St->Hp->Prop)(h0:Pv 0 (dP sel σ) (upd H D (.lst [])))
  (hl:∀i τ H1,Pv i τ H1->SqL K H1 a xs)
  (hs:∀i x τ H1,xs[i]? =some x->Pv i τ H1->te (τ.set n (some x)) H1 fun y H6=>∃ys,H6 D=some (.lst ys)/\ys.length<sizeLine/\Pv (i+1) (τ.set n (some x)) (upd H6 D (.lst (ys++[y]))))
  (hd:∀τ H1,Pv xs.length τ H1->Q (.ref D) H1):gP sel (Itl K a) D (iH n) lm te σ H Q:=
 jn Pv h0 hl (fun i x τ H1 e p=>bC (B:=Pv (i+1) (τ.set n (some x)) H1) (hs i x τ H1 e p)) hd
def se{K:acX}{a D:Addr}{xs:List V}{n:Nat}(Pv:Nat->St->Hp->Prop)(h0:Pv 0 (dP sel σ) (upd H D (.lst [])))
  (hl:∀i τ H1,Pv i τ H1->SqL K H1 a xs)
  (hs:∀i x τ H1,xs[i]? =some x->Pv i τ H1->tc (τ.set n (some x)) H1 fun b H5=>if b=true then te (τ.set n (some x)) H5 fun y H6=>∃ys,H6 D=some (.lst ys)/\ys.length<sizeLine/\Pv (i+1) (τ.set n (some x)) (upd H6 D (.lst (ys++[y]))) else Pv (i+1) (τ.set n (some x)) H5)
  (hd:∀τ H1,Pv xs.length τ H1->Q (.ref D) H1):gP sel (Itl K a) D (iH n) tc te σ H Q:=
 jn Pv h0 hl hs hd
end
end L2
namespace Gram
variable {α:Type}[DecidableEq α]
inductive Made(R:List (α×List α))(W:α->Prop):α->Prop
 |mk {l:α} {r:List α}:(l,r)∈R->(∀s,s∈r->¬W s->Made R W s)->Made R W l
def ma{R:List (α×List α)}{W:α->Prop}{ks:List α}(closed:∀l r,(l,r)∈R->(∀s,s∈r->W s\/s∈ks)->l∈ks):∀{x:α},Made R W x->x∈ks:=by
 intro x h
 induction h with
 |mk hm _ ih=>
  refine closed _ _ hm fun s hs=>?_
  by_cases w:W s
  ·exact .inl w
  ·exact .inr (ih s hs w)
def uy{R:List (α×List α)}{W:α->Prop}{ks:List α}(sound:∀x,x∈ks->Made R W x){l:α}{r:List α}(hm:(l,r)∈R)(h:∀s,s∈r->W s\/s∈ks):Made R W l:=
 .mk hm fun s hs nw=>sound s ((h s hs).resolve_left nw)
def Made.left{R:List (α×List α)}{W:α->Prop}{x:α}(h:Made R W x):x∈R.map (·.1):=by
 cases h with
 |mk hm _=>exact acB.mpr ⟨_,hm,rfl⟩
def Made.mono{R:List (α×List α)}{W W':α->Prop}(hw:∀x,W x->W' x){x:α}(h:Made R W x):Made R W' x:=by
 induction h with
 |mk hm _ ih=>exact .mk hm fun s hs nw=>ih s hs fun z=>nw (hw s z)
inductive Reach(f:α->List α)(a:α):α->Prop
 |refl:Reach f a a
 |step {b c:α}:Reach f a b->c∈f b->Reach f a c
def Reach.head{f:α->List α}{a c b:α}(hc:c∈f a)(h:Reach f c b):Reach f a b:=by
 induction h with
 |refl=>exact .step .refl hc
 |step _ hd ih=>exact .step ih hd
def gS{f:α->List α}{a:α}{ks:List α}(h0:a∈ks)(closed:∀x,x∈ks->∀y,y∈f x->y∈ks){b:α}(h:Reach f a b):b∈ks:=by
 induction h with
 |refl=>exact h0
 |step _ hc ih=>exact closed _ ih _ hc
def Reach.congr{f g:α->List α}(e:∀x y,y∈f x->y∈g x){a b:α}(h:Reach f a b):Reach g a b:=by
 induction h with
 |refl=>exact .refl
 |step _ hc ih=>exact .step ih (e _ _ hc)
def lead(E:List α):List α->List α
 |[]=>[]
 |s::r=>s::(if s∈E then lead E r else [])
def dF(E:List α):∀(r:List α) (x:α),x∈lead E r->x∈r
 |[],x,h=>h
 |s::r,x,h=>by
  unfold lead at h;rcases acq.mp h with e|h
  ·exact acq.mpr (.inl e)
  ·split at h
   ·exact acq.mpr (.inr (dF E r x h))
   ·cases h
def dS{E E':List α}(h:∀x,x∈E↔x∈E'):∀r:List α,lead E r=lead E' r
 |[]=>rfl
 |s::r=>by
  unfold lead;rw[dS h r]
  by_cases z:s∈E
  ·rw[acR z,acR ((h s).mp z)]
  ·rw[acS z,acS fun y=>z ((h s).mpr y)]
def gB(E:List α):∀r:List α,(lead E r).length<=r.length
 |[]=>acH _
 |s::r=>by
  unfold lead;have:=gB E r;split
  ·simp;omega
  ·simp
def sorts(R:List (α×List α)):List α:=R.map (·.1)
inductive Beg(R:List (α×List α))(E:List α):α->α->Prop
 |word {l w:α} {r:List α}:(l,r)∈R->w∈lead E r->¬w∈sorts R->Beg R E l w
 |sort {l b w:α} {r:List α}:(l,r)∈R->b∈lead E r->b∈sorts R->Beg R E b w->Beg R E l w
def own(R:List (α×List α))(E:List α)(l:α):List α:=R.flatMap fun p=>if p.1=l then (lead E p.2).filter (fun s=>¬s∈sorts R) else []
def links(R:List (α×List α))(E:List α)(l:α):List α:=R.flatMap fun p=>if p.1=l then (lead E p.2).filter (fun s=>s∈sorts R) else []
def jL{R:List (α×List α)}{E:List α}{l w:α}:w∈own R E l↔∃r,(l,r)∈R/\w∈lead E r/\¬w∈sorts R:=by
 unfold own;rw[abU];constructor
 ·rintro⟨⟨l',r⟩,hm,h⟩;split at h
  ·rename_i e;have e:l'=l:=e;subst e;obtain⟨h1,h2⟩:=abZ.mp h;exact⟨r,hm,h1,abx h2⟩
  ·cases h
 ·rintro⟨r,hm,h1,h2⟩;refine⟨(l,r),hm,?_⟩;rw[acR rfl];exact abZ.mpr ⟨h1,aci h2⟩
def gT{R:List (α×List α)}{E:List α}{l w:α}:w∈links R E l↔∃r,(l,r)∈R/\w∈lead E r/\w∈sorts R:=by
 unfold links;rw[abU];constructor
 ·rintro⟨⟨l',r⟩,hm,h⟩;split at h
  ·rename_i e;have e:l'=l:=e;subst e;obtain⟨h1,h2⟩:=abZ.mp h;exact⟨r,hm,h1,abx h2⟩
  ·cases h
 ·rintro⟨r,hm,h1,h2⟩;refine⟨(l,r),hm,?_⟩;rw[acR rfl];exact abZ.mpr ⟨h1,aci h2⟩
def yq{R:List (α×List α)}{E:List α}{a w:α}:(∃b,Reach (links R E) a b/\w∈own R E b)↔Beg R E a w:=by
 constructor
 ·rintro⟨b,hr,hw⟩;obtain⟨r,hm,h1,h2⟩:=jL.mp hw;have hb:Beg R E b w:=.word hm h1 h2;clear hw hm h1 h2
  induction hr with
  |refl=>exact hb
  |step _ hc ih=>
   obtain⟨r',hm',h1',h2'⟩:=gT.mp hc;exact ih (.sort hm' h1' h2' hb)
 ·intro h
  induction h with
  |word hm h1 h2=>exact⟨_,.refl,jL.mpr ⟨_,hm,h1,h2⟩⟩
  |sort hm h1 h2 _ ih=>
   obtain⟨b,hr,hw⟩:=ih;exact⟨b,Reach.head (gT.mpr ⟨_,hm,h1,h2⟩) hr,hw⟩
def Beg.sign{R:List (α×List α)}{E:List α}{l w:α}(h:Beg R E l w):¬w∈sorts R/\∃p∈R,w∈p.2:=by
 induction h with
 |word hm h1 h2=>exact⟨h2,_,hm,dF _ _ _ h1⟩
 |sort _ _ _ _ ih=>exact ih
def bU:∀{l m:List α},l.Nodup->(∀x,x∈l->x∈m)->l.length<=m.length
 |[],m,_,_=>acI _
 |x::r,m,nd,h=>by
  obtain⟨hx,nd'⟩:=ab6.mp nd;have hm:x∈m:=h x (abe ..);have h2:r.length<=(m.erase x).length:=bU nd' fun y hy=>by
   have:y≠x:=fun e=>hx (e▸hy)
   exact(List.mem_erase_of_ne this).mpr (h y (aaU _ hy))
  rw[List.length_erase_of_mem hm] at h2;have:0<m.length:=List.length_pos_of_mem hm;simp only[abI];omega
end Gram
namespace Nw
inductive X1_3 {a:Sort _}(A B C:a->Prop):Prop|mk(x0:a)(_:A x0)(_:B x0)(_:C x0):X1_3 A B C
inductive X1_4 {a:Sort _}(A B C D:a->Prop):Prop|mk(x0:a)(_:A x0)(_:B x0)(_:C x0)(_:D x0):X1_4 A B C D
inductive X1_5 {a:Sort _}(A B C D E:a->Prop):Prop|mk(x0:a)(_:A x0)(_:B x0)(_:C x0)(_:D x0)(_:E x0):X1_5 A B C D E
inductive X1_6 {a:Sort _}(A B C D E F:a->Prop):Prop|mk(x0:a)(_:A x0)(_:B x0)(_:C x0)(_:D x0)(_:E x0)(_:F x0):X1_6 A B C D E F
inductive X1_7 {a:Sort _}(A B C D E F G:a->Prop):Prop|mk(x0:a)(_:A x0)(_:B x0)(_:C x0)(_:D x0)(_:E x0)(_:F x0)(_:G x0):X1_7 A B C D E F G
inductive X1_8 {a:Sort _}(A B C D E F G H:a->Prop):Prop|mk(x0:a)(_:A x0)(_:B x0)(_:C x0)(_:D x0)(_:E x0)(_:F x0)(_:G x0)(_:H x0):X1_8 A B C D E F G H
inductive X2_2 {a:Sort _}{b:Sort _}(A B:a->b->Prop):Prop|mk(x0:a)(x1:b)(_:A x0 x1)(_:B x0 x1):X2_2 A B
inductive X2_3 {a:Sort _}{b:Sort _}(A B C:a->b->Prop):Prop|mk(x0:a)(x1:b)(_:A x0 x1)(_:B x0 x1)(_:C x0 x1):X2_3 A B C
inductive X2_4 {a:Sort _}{b:Sort _}(A B C D:a->b->Prop):Prop|mk(x0:a)(x1:b)(_:A x0 x1)(_:B x0 x1)(_:C x0 x1)(_:D x0 x1):X2_4 A B C D
inductive X2_5 {a:Sort _}{b:Sort _}(A B C D E:a->b->Prop):Prop|mk(x0:a)(x1:b)(_:A x0 x1)(_:B x0 x1)(_:C x0 x1)(_:D x0 x1)(_:E x0 x1):X2_5 A B C D E
inductive X2_6 {a:Sort _}{b:Sort _}(A B C D E F:a->b->Prop):Prop|mk(x0:a)(x1:b)(_:A x0 x1)(_:B x0 x1)(_:C x0 x1)(_:D x0 x1)(_:E x0 x1)(_:F x0 x1):X2_6 A B C D E F
inductive X2_7 {a:Sort _}{b:Sort _}(A B C D E F G:a->b->Prop):Prop|mk(x0:a)(x1:b)(_:A x0 x1)(_:B x0 x1)(_:C x0 x1)(_:D x0 x1)(_:E x0 x1)(_:F x0 x1)(_:G x0 x1):X2_7 A B C D E F G
inductive X2_8 {a:Sort _}{b:Sort _}(A B C D E F G H:a->b->Prop):Prop|mk(x0:a)(x1:b)(_:A x0 x1)(_:B x0 x1)(_:C x0 x1)(_:D x0 x1)(_:E x0 x1)(_:F x0 x1)(_:G x0 x1)(_:H x0 x1):X2_8 A B C D E F G H
inductive X3_2 {a:Sort _}{b:Sort _}{c:Sort _}(A B:a->b->c->Prop):Prop|mk(x0:a)(x1:b)(x2:c)(_:A x0 x1 x2)(_:B x0 x1 x2):X3_2 A B
inductive X3_3 {a:Sort _}{b:Sort _}{c:Sort _}(A B C:a->b->c->Prop):Prop|mk(x0:a)(x1:b)(x2:c)(_:A x0 x1 x2)(_:B x0 x1 x2)(_:C x0 x1 x2):X3_3 A B C
inductive X3_4 {a:Sort _}{b:Sort _}{c:Sort _}(A B C D:a->b->c->Prop):Prop|mk(x0:a)(x1:b)(x2:c)(_:A x0 x1 x2)(_:B x0 x1 x2)(_:C x0 x1 x2)(_:D x0 x1 x2):X3_4 A B C D
inductive X3_5 {a:Sort _}{b:Sort _}{c:Sort _}(A B C D E:a->b->c->Prop):Prop|mk(x0:a)(x1:b)(x2:c)(_:A x0 x1 x2)(_:B x0 x1 x2)(_:C x0 x1 x2)(_:D x0 x1 x2)(_:E x0 x1 x2):X3_5 A B C D E
inductive X3_6 {a:Sort _}{b:Sort _}{c:Sort _}(A B C D E F:a->b->c->Prop):Prop|mk(x0:a)(x1:b)(x2:c)(_:A x0 x1 x2)(_:B x0 x1 x2)(_:C x0 x1 x2)(_:D x0 x1 x2)(_:E x0 x1 x2)(_:F x0 x1 x2):X3_6 A B C D E F
inductive X3_7 {a:Sort _}{b:Sort _}{c:Sort _}(A B C D E F G:a->b->c->Prop):Prop|mk(x0:a)(x1:b)(x2:c)(_:A x0 x1 x2)(_:B x0 x1 x2)(_:C x0 x1 x2)(_:D x0 x1 x2)(_:E x0 x1 x2)(_:F x0 x1 x2)(_:G x0 x1 x2):X3_7 A B C D E F G
inductive X3_8 {a:Sort _}{b:Sort _}{c:Sort _}(A B C D E F G H:a->b->c->Prop):Prop|mk(x0:a)(x1:b)(x2:c)(_:A x0 x1 x2)(_:B x0 x1 x2)(_:C x0 x1 x2)(_:D x0 x1 x2)(_:E x0 x1 x2)(_:F x0 x1 x2)(_:G x0 x1 x2)(_:H x0 x1 x2):X3_8 A B C D E F G H
inductive X4_2 {a:Sort _}{b:Sort _}{c:Sort _}{d:Sort _}(A B:a->b->c->d->Prop):Prop|mk(x0:a)(x1:b)(x2:c)(x3:d)(_:A x0 x1 x2 x3)(_:B x0 x1 x2 x3):X4_2 A B
inductive X4_3 {a:Sort _}{b:Sort _}{c:Sort _}{d:Sort _}(A B C:a->b->c->d->Prop):Prop|mk(x0:a)(x1:b)(x2:c)(x3:d)(_:A x0 x1 x2 x3)(_:B x0 x1 x2 x3)(_:C x0 x1 x2 x3):X4_3 A B C
inductive X4_4 {a:Sort _}{b:Sort _}{c:Sort _}{d:Sort _}(A B C D:a->b->c->d->Prop):Prop|mk(x0:a)(x1:b)(x2:c)(x3:d)(_:A x0 x1 x2 x3)(_:B x0 x1 x2 x3)(_:C x0 x1 x2 x3)(_:D x0 x1 x2 x3):X4_4 A B C D
inductive X4_5 {a:Sort _}{b:Sort _}{c:Sort _}{d:Sort _}(A B C D E:a->b->c->d->Prop):Prop|mk(x0:a)(x1:b)(x2:c)(x3:d)(_:A x0 x1 x2 x3)(_:B x0 x1 x2 x3)(_:C x0 x1 x2 x3)(_:D x0 x1 x2 x3)(_:E x0 x1 x2 x3):X4_5 A B C D E
inductive X4_6 {a:Sort _}{b:Sort _}{c:Sort _}{d:Sort _}(A B C D E F:a->b->c->d->Prop):Prop|mk(x0:a)(x1:b)(x2:c)(x3:d)(_:A x0 x1 x2 x3)(_:B x0 x1 x2 x3)(_:C x0 x1 x2 x3)(_:D x0 x1 x2 x3)(_:E x0 x1 x2 x3)(_:F x0 x1 x2 x3):X4_6 A B C D E F
inductive X4_7 {a:Sort _}{b:Sort _}{c:Sort _}{d:Sort _}(A B C D E F G:a->b->c->d->Prop):Prop|mk(x0:a)(x1:b)(x2:c)(x3:d)(_:A x0 x1 x2 x3)(_:B x0 x1 x2 x3)(_:C x0 x1 x2 x3)(_:D x0 x1 x2 x3)(_:E x0 x1 x2 x3)(_:F x0 x1 x2 x3)(_:G x0 x1 x2 x3):X4_7 A B C D E F G
inductive X4_8 {a:Sort _}{b:Sort _}{c:Sort _}{d:Sort _}(A B C D E F G H:a->b->c->d->Prop):Prop|mk(x0:a)(x1:b)(x2:c)(x3:d)(_:A x0 x1 x2 x3)(_:B x0 x1 x2 x3)(_:C x0 x1 x2 x3)(_:D x0 x1 x2 x3)(_:E x0 x1 x2 x3)(_:F x0 x1 x2 x3)(_:G x0 x1 x2 x3)(_:H x0 x1 x2 x3):X4_8 A B C D E F G H
inductive X5_2 {a:Sort _}{b:Sort _}{c:Sort _}{d:Sort _}{e:Sort _}(A B:a->b->c->d->e->Prop):Prop|mk(x0:a)(x1:b)(x2:c)(x3:d)(x4:e)(_:A x0 x1 x2 x3 x4)(_:B x0 x1 x2 x3 x4):X5_2 A B
inductive X5_3 {a:Sort _}{b:Sort _}{c:Sort _}{d:Sort _}{e:Sort _}(A B C:a->b->c->d->e->Prop):Prop|mk(x0:a)(x1:b)(x2:c)(x3:d)(x4:e)(_:A x0 x1 x2 x3 x4)(_:B x0 x1 x2 x3 x4)(_:C x0 x1 x2 x3 x4):X5_3 A B C
inductive X5_4 {a:Sort _}{b:Sort _}{c:Sort _}{d:Sort _}{e:Sort _}(A B C D:a->b->c->d->e->Prop):Prop|mk(x0:a)(x1:b)(x2:c)(x3:d)(x4:e)(_:A x0 x1 x2 x3 x4)(_:B x0 x1 x2 x3 x4)(_:C x0 x1 x2 x3 x4)(_:D x0 x1 x2 x3 x4):X5_4 A B C D
inductive X5_5 {a:Sort _}{b:Sort _}{c:Sort _}{d:Sort _}{e:Sort _}(A B C D E:a->b->c->d->e->Prop):Prop|mk(x0:a)(x1:b)(x2:c)(x3:d)(x4:e)(_:A x0 x1 x2 x3 x4)(_:B x0 x1 x2 x3 x4)(_:C x0 x1 x2 x3 x4)(_:D x0 x1 x2 x3 x4)(_:E x0 x1 x2 x3 x4):X5_5 A B C D E
inductive X5_6 {a:Sort _}{b:Sort _}{c:Sort _}{d:Sort _}{e:Sort _}(A B C D E F:a->b->c->d->e->Prop):Prop|mk(x0:a)(x1:b)(x2:c)(x3:d)(x4:e)(_:A x0 x1 x2 x3 x4)(_:B x0 x1 x2 x3 x4)(_:C x0 x1 x2 x3 x4)(_:D x0 x1 x2 x3 x4)(_:E x0 x1 x2 x3 x4)(_:F x0 x1 x2 x3 x4):X5_6 A B C D E F
inductive X5_7 {a:Sort _}{b:Sort _}{c:Sort _}{d:Sort _}{e:Sort _}(A B C D E F G:a->b->c->d->e->Prop):Prop|mk(x0:a)(x1:b)(x2:c)(x3:d)(x4:e)(_:A x0 x1 x2 x3 x4)(_:B x0 x1 x2 x3 x4)(_:C x0 x1 x2 x3 x4)(_:D x0 x1 x2 x3 x4)(_:E x0 x1 x2 x3 x4)(_:F x0 x1 x2 x3 x4)(_:G x0 x1 x2 x3 x4):X5_7 A B C D E F G
inductive X5_8 {a:Sort _}{b:Sort _}{c:Sort _}{d:Sort _}{e:Sort _}(A B C D E F G H:a->b->c->d->e->Prop):Prop|mk(x0:a)(x1:b)(x2:c)(x3:d)(x4:e)(_:A x0 x1 x2 x3 x4)(_:B x0 x1 x2 x3 x4)(_:C x0 x1 x2 x3 x4)(_:D x0 x1 x2 x3 x4)(_:E x0 x1 x2 x3 x4)(_:F x0 x1 x2 x3 x4)(_:G x0 x1 x2 x3 x4)(_:H x0 x1 x2 x3 x4):X5_8 A B C D E F G H
inductive X6_2 {a:Sort _}{b:Sort _}{c:Sort _}{d:Sort _}{e:Sort _}{f:Sort _}(A B:a->b->c->d->e->f->Prop):Prop|mk(x0:a)(x1:b)(x2:c)(x3:d)(x4:e)(x5:f)(_:A x0 x1 x2 x3 x4 x5)(_:B x0 x1 x2 x3 x4 x5):X6_2 A B
inductive X6_3 {a:Sort _}{b:Sort _}{c:Sort _}{d:Sort _}{e:Sort _}{f:Sort _}(A B C:a->b->c->d->e->f->Prop):Prop|mk(x0:a)(x1:b)(x2:c)(x3:d)(x4:e)(x5:f)(_:A x0 x1 x2 x3 x4 x5)(_:B x0 x1 x2 x3 x4 x5)(_:C x0 x1 x2 x3 x4 x5):X6_3 A B C
inductive X6_4 {a:Sort _}{b:Sort _}{c:Sort _}{d:Sort _}{e:Sort _}{f:Sort _}(A B C D:a->b->c->d->e->f->Prop):Prop|mk(x0:a)(x1:b)(x2:c)(x3:d)(x4:e)(x5:f)(_:A x0 x1 x2 x3 x4 x5)(_:B x0 x1 x2 x3 x4 x5)(_:C x0 x1 x2 x3 x4 x5)(_:D x0 x1 x2 x3 x4 x5):X6_4 A B C D
inductive X6_5 {a:Sort _}{b:Sort _}{c:Sort _}{d:Sort _}{e:Sort _}{f:Sort _}(A B C D E:a->b->c->d->e->f->Prop):Prop|mk(x0:a)(x1:b)(x2:c)(x3:d)(x4:e)(x5:f)(_:A x0 x1 x2 x3 x4 x5)(_:B x0 x1 x2 x3 x4 x5)(_:C x0 x1 x2 x3 x4 x5)(_:D x0 x1 x2 x3 x4 x5)(_:E x0 x1 x2 x3 x4 x5):X6_5 A B C D E
inductive X6_6 {a:Sort _}{b:Sort _}{c:Sort _}{d:Sort _}{e:Sort _}{f:Sort _}(A B C D E F:a->b->c->d->e->f->Prop):Prop|mk(x0:a)(x1:b)(x2:c)(x3:d)(x4:e)(x5:f)(_:A x0 x1 x2 x3 x4 x5)(_:B x0 x1 x2 x3 x4 x5)(_:C x0 x1 x2 x3 x4 x5)(_:D x0 x1 x2 x3 x4 x5)(_:E x0 x1 x2 x3 x4 x5)(_:F x0 x1 x2 x3 x4 x5):X6_6 A B C D E F
inductive X6_7 {a:Sort _}{b:Sort _}{c:Sort _}{d:Sort _}{e:Sort _}{f:Sort _}(A B C D E F G:a->b->c->d->e->f->Prop):Prop|mk(x0:a)(x1:b)(x2:c)(x3:d)(x4:e)(x5:f)(_:A x0 x1 x2 x3 x4 x5)(_:B x0 x1 x2 x3 x4 x5)(_:C x0 x1 x2 x3 x4 x5)(_:D x0 x1 x2 x3 x4 x5)(_:E x0 x1 x2 x3 x4 x5)(_:F x0 x1 x2 x3 x4 x5)(_:G x0 x1 x2 x3 x4 x5):X6_7 A B C D E F G
inductive X6_8 {a:Sort _}{b:Sort _}{c:Sort _}{d:Sort _}{e:Sort _}{f:Sort _}(A B C D E F G H:a->b->c->d->e->f->Prop):Prop|mk(x0:a)(x1:b)(x2:c)(x3:d)(x4:e)(x5:f)(_:A x0 x1 x2 x3 x4 x5)(_:B x0 x1 x2 x3 x4 x5)(_:C x0 x1 x2 x3 x4 x5)(_:D x0 x1 x2 x3 x4 x5)(_:E x0 x1 x2 x3 x4 x5)(_:F x0 x1 x2 x3 x4 x5)(_:G x0 x1 x2 x3 x4 x5)(_:H x0 x1 x2 x3 x4 x5):X6_8 A B C D E F G H
inductive X7_2 {a:Sort _}{b:Sort _}{c:Sort _}{d:Sort _}{e:Sort _}{f:Sort _}{g:Sort _}(A B:a->b->c->d->e->f->g->Prop):Prop|mk(x0:a)(x1:b)(x2:c)(x3:d)(x4:e)(x5:f)(x6:g)(_:A x0 x1 x2 x3 x4 x5 x6)(_:B x0 x1 x2 x3 x4 x5 x6):X7_2 A B
inductive X7_3 {a:Sort _}{b:Sort _}{c:Sort _}{d:Sort _}{e:Sort _}{f:Sort _}{g:Sort _}(A B C:a->b->c->d->e->f->g->Prop):Prop|mk(x0:a)(x1:b)(x2:c)(x3:d)(x4:e)(x5:f)(x6:g)(_:A x0 x1 x2 x3 x4 x5 x6)(_:B x0 x1 x2 x3 x4 x5 x6)(_:C x0 x1 x2 x3 x4 x5 x6):X7_3 A B C
inductive X7_4 {a:Sort _}{b:Sort _}{c:Sort _}{d:Sort _}{e:Sort _}{f:Sort _}{g:Sort _}(A B C D:a->b->c->d->e->f->g->Prop):Prop|mk(x0:a)(x1:b)(x2:c)(x3:d)(x4:e)(x5:f)(x6:g)(_:A x0 x1 x2 x3 x4 x5 x6)(_:B x0 x1 x2 x3 x4 x5 x6)(_:C x0 x1 x2 x3 x4 x5 x6)(_:D x0 x1 x2 x3 x4 x5 x6):X7_4 A B C D
inductive X7_5 {a:Sort _}{b:Sort _}{c:Sort _}{d:Sort _}{e:Sort _}{f:Sort _}{g:Sort _}(A B C D E:a->b->c->d->e->f->g->Prop):Prop|mk(x0:a)(x1:b)(x2:c)(x3:d)(x4:e)(x5:f)(x6:g)(_:A x0 x1 x2 x3 x4 x5 x6)(_:B x0 x1 x2 x3 x4 x5 x6)(_:C x0 x1 x2 x3 x4 x5 x6)(_:D x0 x1 x2 x3 x4 x5 x6)(_:E x0 x1 x2 x3 x4 x5 x6):X7_5 A B C D E
inductive X7_6 {a:Sort _}{b:Sort _}{c:Sort _}{d:Sort _}{e:Sort _}{f:Sort _}{g:Sort _}(A B C D E F:a->b->c->d->e->f->g->Prop):Prop|mk(x0:a)(x1:b)(x2:c)(x3:d)(x4:e)(x5:f)(x6:g)(_:A x0 x1 x2 x3 x4 x5 x6)(_:B x0 x1 x2 x3 x4 x5 x6)(_:C x0 x1 x2 x3 x4 x5 x6)(_:D x0 x1 x2 x3 x4 x5 x6)(_:E x0 x1 x2 x3 x4 x5 x6)(_:F x0 x1 x2 x3 x4 x5 x6):X7_6 A B C D E F
inductive X7_7 {a:Sort _}{b:Sort _}{c:Sort _}{d:Sort _}{e:Sort _}{f:Sort _}{g:Sort _}(A B C D E F G:a->b->c->d->e->f->g->Prop):Prop|mk(x0:a)(x1:b)(x2:c)(x3:d)(x4:e)(x5:f)(x6:g)(_:A x0 x1 x2 x3 x4 x5 x6)(_:B x0 x1 x2 x3 x4 x5 x6)(_:C x0 x1 x2 x3 x4 x5 x6)(_:D x0 x1 x2 x3 x4 x5 x6)(_:E x0 x1 x2 x3 x4 x5 x6)(_:F x0 x1 x2 x3 x4 x5 x6)(_:G x0 x1 x2 x3 x4 x5 x6):X7_7 A B C D E F G
inductive X7_8 {a:Sort _}{b:Sort _}{c:Sort _}{d:Sort _}{e:Sort _}{f:Sort _}{g:Sort _}(A B C D E F G H:a->b->c->d->e->f->g->Prop):Prop|mk(x0:a)(x1:b)(x2:c)(x3:d)(x4:e)(x5:f)(x6:g)(_:A x0 x1 x2 x3 x4 x5 x6)(_:B x0 x1 x2 x3 x4 x5 x6)(_:C x0 x1 x2 x3 x4 x5 x6)(_:D x0 x1 x2 x3 x4 x5 x6)(_:E x0 x1 x2 x3 x4 x5 x6)(_:F x0 x1 x2 x3 x4 x5 x6)(_:G x0 x1 x2 x3 x4 x5 x6)(_:H x0 x1 x2 x3 x4 x5 x6):X7_8 A B C D E F G H
inductive X8_2 {a:Sort _}{b:Sort _}{c:Sort _}{d:Sort _}{e:Sort _}{f:Sort _}{g:Sort _}{h:Sort _}(A B:a->b->c->d->e->f->g->h->Prop):Prop|mk(x0:a)(x1:b)(x2:c)(x3:d)(x4:e)(x5:f)(x6:g)(x7:h)(_:A x0 x1 x2 x3 x4 x5 x6 x7)(_:B x0 x1 x2 x3 x4 x5 x6 x7):X8_2 A B
inductive X8_3 {a:Sort _}{b:Sort _}{c:Sort _}{d:Sort _}{e:Sort _}{f:Sort _}{g:Sort _}{h:Sort _}(A B C:a->b->c->d->e->f->g->h->Prop):Prop|mk(x0:a)(x1:b)(x2:c)(x3:d)(x4:e)(x5:f)(x6:g)(x7:h)(_:A x0 x1 x2 x3 x4 x5 x6 x7)(_:B x0 x1 x2 x3 x4 x5 x6 x7)(_:C x0 x1 x2 x3 x4 x5 x6 x7):X8_3 A B C
inductive X8_4 {a:Sort _}{b:Sort _}{c:Sort _}{d:Sort _}{e:Sort _}{f:Sort _}{g:Sort _}{h:Sort _}(A B C D:a->b->c->d->e->f->g->h->Prop):Prop|mk(x0:a)(x1:b)(x2:c)(x3:d)(x4:e)(x5:f)(x6:g)(x7:h)(_:A x0 x1 x2 x3 x4 x5 x6 x7)(_:B x0 x1 x2 x3 x4 x5 x6 x7)(_:C x0 x1 x2 x3 x4 x5 x6 x7)(_:D x0 x1 x2 x3 x4 x5 x6 x7):X8_4 A B C D
inductive X8_5 {a:Sort _}{b:Sort _}{c:Sort _}{d:Sort _}{e:Sort _}{f:Sort _}{g:Sort _}{h:Sort _}(A B C D E:a->b->c->d->e->f->g->h->Prop):Prop|mk(x0:a)(x1:b)(x2:c)(x3:d)(x4:e)(x5:f)(x6:g)(x7:h)(_:A x0 x1 x2 x3 x4 x5 x6 x7)(_:B x0 x1 x2 x3 x4 x5 x6 x7)(_:C x0 x1 x2 x3 x4 x5 x6 x7)(_:D x0 x1 x2 x3 x4 x5 x6 x7)(_:E x0 x1 x2 x3 x4 x5 x6 x7):X8_5 A B C D E
inductive X8_6 {a:Sort _}{b:Sort _}{c:Sort _}{d:Sort _}{e:Sort _}{f:Sort _}{g:Sort _}{h:Sort _}(A B C D E F:a->b->c->d->e->f->g->h->Prop):Prop|mk(x0:a)(x1:b)(x2:c)(x3:d)(x4:e)(x5:f)(x6:g)(x7:h)(_:A x0 x1 x2 x3 x4 x5 x6 x7)(_:B x0 x1 x2 x3 x4 x5 x6 x7)(_:C x0 x1 x2 x3 x4 x5 x6 x7)(_:D x0 x1 x2 x3 x4 x5 x6 x7)(_:E x0 x1 x2 x3 x4 x5 x6 x7)(_:F x0 x1 x2 x3 x4 x5 x6 x7):X8_6 A B C D E F
inductive X8_7 {a:Sort _}{b:Sort _}{c:Sort _}{d:Sort _}{e:Sort _}{f:Sort _}{g:Sort _}{h:Sort _}(A B C D E F G:a->b->c->d->e->f->g->h->Prop):Prop|mk(x0:a)(x1:b)(x2:c)(x3:d)(x4:e)(x5:f)(x6:g)(x7:h)(_:A x0 x1 x2 x3 x4 x5 x6 x7)(_:B x0 x1 x2 x3 x4 x5 x6 x7)(_:C x0 x1 x2 x3 x4 x5 x6 x7)(_:D x0 x1 x2 x3 x4 x5 x6 x7)(_:E x0 x1 x2 x3 x4 x5 x6 x7)(_:F x0 x1 x2 x3 x4 x5 x6 x7)(_:G x0 x1 x2 x3 x4 x5 x6 x7):X8_7 A B C D E F G
inductive X9_2 {a:Sort _}{b:Sort _}{c:Sort _}{d:Sort _}{e:Sort _}{f:Sort _}{g:Sort _}{h:Sort _}{i:Sort _}(A B:a->b->c->d->e->f->g->h->i->Prop):Prop|mk(x0:a)(x1:b)(x2:c)(x3:d)(x4:e)(x5:f)(x6:g)(x7:h)(x8:i)(_:A x0 x1 x2 x3 x4 x5 x6 x7 x8)(_:B x0 x1 x2 x3 x4 x5 x6 x7 x8):X9_2 A B
inductive X9_3 {a:Sort _}{b:Sort _}{c:Sort _}{d:Sort _}{e:Sort _}{f:Sort _}{g:Sort _}{h:Sort _}{i:Sort _}(A B C:a->b->c->d->e->f->g->h->i->Prop):Prop|mk(x0:a)(x1:b)(x2:c)(x3:d)(x4:e)(x5:f)(x6:g)(x7:h)(x8:i)(_:A x0 x1 x2 x3 x4 x5 x6 x7 x8)(_:B x0 x1 x2 x3 x4 x5 x6 x7 x8)(_:C x0 x1 x2 x3 x4 x5 x6 x7 x8):X9_3 A B C
inductive X9_4 {a:Sort _}{b:Sort _}{c:Sort _}{d:Sort _}{e:Sort _}{f:Sort _}{g:Sort _}{h:Sort _}{i:Sort _}(A B C D:a->b->c->d->e->f->g->h->i->Prop):Prop|mk(x0:a)(x1:b)(x2:c)(x3:d)(x4:e)(x5:f)(x6:g)(x7:h)(x8:i)(_:A x0 x1 x2 x3 x4 x5 x6 x7 x8)(_:B x0 x1 x2 x3 x4 x5 x6 x7 x8)(_:C x0 x1 x2 x3 x4 x5 x6 x7 x8)(_:D x0 x1 x2 x3 x4 x5 x6 x7 x8):X9_4 A B C D
inductive X9_5 {a:Sort _}{b:Sort _}{c:Sort _}{d:Sort _}{e:Sort _}{f:Sort _}{g:Sort _}{h:Sort _}{i:Sort _}(A B C D E:a->b->c->d->e->f->g->h->i->Prop):Prop|mk(x0:a)(x1:b)(x2:c)(x3:d)(x4:e)(x5:f)(x6:g)(x7:h)(x8:i)(_:A x0 x1 x2 x3 x4 x5 x6 x7 x8)(_:B x0 x1 x2 x3 x4 x5 x6 x7 x8)(_:C x0 x1 x2 x3 x4 x5 x6 x7 x8)(_:D x0 x1 x2 x3 x4 x5 x6 x7 x8)(_:E x0 x1 x2 x3 x4 x5 x6 x7 x8):X9_5 A B C D E
inductive X9_6 {a:Sort _}{b:Sort _}{c:Sort _}{d:Sort _}{e:Sort _}{f:Sort _}{g:Sort _}{h:Sort _}{i:Sort _}(A B C D E F:a->b->c->d->e->f->g->h->i->Prop):Prop|mk(x0:a)(x1:b)(x2:c)(x3:d)(x4:e)(x5:f)(x6:g)(x7:h)(x8:i)(_:A x0 x1 x2 x3 x4 x5 x6 x7 x8)(_:B x0 x1 x2 x3 x4 x5 x6 x7 x8)(_:C x0 x1 x2 x3 x4 x5 x6 x7 x8)(_:D x0 x1 x2 x3 x4 x5 x6 x7 x8)(_:E x0 x1 x2 x3 x4 x5 x6 x7 x8)(_:F x0 x1 x2 x3 x4 x5 x6 x7 x8):X9_6 A B C D E F
inductive X15_10 {a:Sort _}{b:Sort _}{c:Sort _}{d:Sort _}{e:Sort _}{f:Sort _}{g:Sort _}{h:Sort _}{i:Sort _}{j:Sort _}{k:Sort _}{l:Sort _}{m:Sort _}{n:Sort _}{o:Sort _}(A B C D E F G H I J:a->b->c->d->e->f->g->h->i->j->k->l->m->n->o->Prop):Prop|mk(x0:a)(x1:b)(x2:c)(x3:d)(x4:e)(x5:f)(x6:g)(x7:h)(x8:i)(x9:j)(x10:k)(x11:l)(x12:m)(x13:n)(x14:o)(_:A x0 x1 x2 x3 x4 x5 x6 x7 x8 x9 x10 x11 x12 x13 x14)(_:B x0 x1 x2 x3 x4 x5 x6 x7 x8 x9 x10 x11 x12 x13 x14)(_:C x0 x1 x2 x3 x4 x5 x6 x7 x8 x9 x10 x11 x12 x13 x14)(_:D x0 x1 x2 x3 x4 x5 x6 x7 x8 x9 x10 x11 x12 x13 x14)(_:E x0 x1 x2 x3 x4 x5 x6 x7 x8 x9 x10 x11 x12 x13 x14)(_:F x0 x1 x2 x3 x4 x5 x6 x7 x8 x9 x10 x11 x12 x13 x14)(_:G x0 x1 x2 x3 x4 x5 x6 x7 x8 x9 x10 x11 x12 x13 x14)(_:H x0 x1 x2 x3 x4 x5 x6 x7 x8 x9 x10 x11 x12 x13 x14)(_:I x0 x1 x2 x3 x4 x5 x6 x7 x8 x9 x10 x11 x12 x13 x14)(_:J x0 x1 x2 x3 x4 x5 x6 x7 x8 x9 x10 x11 x12 x13 x14):X15_10 A B C D E F G H I J
end Nw
open Lean in
def Nw.bndV (bs : Syntax) : Array (Syntax × Option Syntax) := Id.run do
 let b := bs[0]
 let mut r := #[]
 if b.getKind == ``Lean.unbracketedExplicitBinders then
  for i in b[0].getArgs do r := r.push (i, if b[1].getNumArgs == 0 then none else some b[1][1])
 else
  for c in b.getArgs do
   for i in c[1].getArgs do r := r.push (i, some c[3])
 return r
open Lean in
def Nw.exV : Nat → Term → MacroM (Array (Syntax × Option Syntax) × Term)
 | 0, t => return (#[], t)
 | n+1, t => do
  match t with
  | `(∃ $bs:explicitBinders, $b) =>
   let (r, b) ← Nw.exV n b
   return (Nw.bndV bs ++ r, b)
  | _ => return (#[], t)
open Lean in
def Nw.anV : Nat → Term → MacroM (Array Term)
 | 0, t => return #[t]
 | n+1, t => do
  match t with
  | `($a ∧ $b) => return #[a] ++ (← Nw.anV n b)
  | _ => return #[t]
open Lean in
local macro_rules
 | `(∃ $bs:explicitBinders, $b) => do
  let (r, b) ← Nw.exV 20 b
  let r := Nw.bndV bs ++ r
  let cs ← Nw.anV 20 b
  let nm := (Name.mkSimple "Nw").str s!"X{r.size}_{cs.size}"
  if !(← Macro.hasDecl nm) then Macro.throwUnsupported
  let st := match cs[0]! with
   | `($l:ident = $_) => l.getId.toString.startsWith "σ"
   | `([$_,*] = $_) => true
   | _ => false
  if !st then Macro.throwUnsupported
  let mut fs : Array Term := #[]
  for c in cs do
   let mut t := c
   for (i, ty) in r.reverse do
    let id : Term ← if i[0].isIdent then pure ⟨i[0]⟩ else `(_)
    t ← match ty with
     | some ty => `(fun ($id : $(⟨ty⟩)) => $t)
     | none => `(fun $id => $t)
   fs := fs.push t
  `($(mkCIdent nm) $fs*)
open Lean in
local macro_rules
 | `(tactic| refine ⟨fun $x:ident $y:ident => $b, $rs,*⟩) => do
  if (b.raw.find? (·.getKind == `termIfThenElse)).isSome then Macro.throwUnsupported
  `(tactic| first | refine' (let J : L2.St → L2.Hp → Prop := fun $x $y => $b; ⟨J, $rs,*⟩) | fail)
 | `(tactic| refine ⟨fun $x:ident $y:ident $z:ident => $b, $rs,*⟩) => do
  if (b.raw.find? (·.getKind == `termIfThenElse)).isSome then Macro.throwUnsupported
  `(tactic| first | refine' (let J : Nat → L2.St → L2.Hp → Prop := fun $x $y $z => $b; ⟨J, $rs,*⟩) | fail)
open Lean in
local macro_rules
 | `(tactic| rintro $[$ps]*) => do
  let mut ns : Array Ident := #[]
  let mut ts : Array (TSyntax `tactic) := #[]
  for i in [0:ps.size] do
   let q := ps[i]!.raw
   if q.getKind != ``Parser.Tactic.rintroPat.one then Macro.throwUnsupported
   let q := q[0]
   let x := mkIdent (Name.mkSimple s!"y{i}'")
   if q.getKind == ``Parser.Tactic.rcasesPat.one && q[0].getId != `rfl then ns := ns.push ⟨q[0]⟩
   else if q.getKind == ``Parser.Tactic.rcasesPat.ignore then ns := ns.push x
   else if q.getKind == ``Parser.Tactic.rcasesPat.one then
    ns := ns.push x
    ts := ts.push (← `(tactic| subst $x))
   else
    ns := ns.push x
    let m : TSyntax ``Parser.Tactic.rcasesPatMed := ⟨mkNode ``Parser.Tactic.rcasesPatMed #[mkNullNode #[q]]⟩
    ts := ts.push (← `(tactic| obtain $m:rcasesPatMed := $x:ident))
  if ts.isEmpty then Macro.throwUnsupported
  let l ← `(tactic| try first | refine' (let dd : L2.Ends := _; (?_ : (_ : L2.TS) dd _ _)) | fail)
  `(tactic| (intro $[$ns]*; $l; $[$ts];*))
namespace Nw
open PySem L2
open SL (aj srt)
def top(i:Nat):Stmt:=PySem.Challenge.pw_nextword_k06_whole_trees_read_back.main.body.getD i (.Pass ⟨0,0,0,0⟩)
abbrev kE:Stmt:=top 6
def uz:aE ["rows"] ["rows"] (am kE):=acW
structure Txt(mg:Str->Option Value):Prop where
 srt:mg "sorted"=none
 set:mg "set"=none
 all:mg "all"=none
 lst:mg "list"=none
 tup:mg "tuple"=none
 str:mg "str"=none
 bl:mg "bool"=none
 int:mg "int"=none
 len:mg "len"=none
 rng:mg "range"=none
 isi:mg "isinstance"=none
 abs:mg "abs"=none
 sum:mg "sum"=none
structure Small(R:List Row):Prop where
 len:R.length<=14
 wid:∀p∈R,p.2.length<=20
 few:∃U:List Str,U.length<=40/\∀p∈R,∀x∈p.2,x∈U
 dif:(aj (R.flatMap (·.2))).length / 4<=(aj (R.map (·.1))).length
 ne:R≠[]
def kF:∀{R:List Row},(∀p∈R,p.2.length<=20)->(R.flatMap (·.2)).length<=20*R.length
 |[],_=>by simp
 |p::r,h=>by
  have h1:=h p (abe ..);have h2:=kF (R:=r) fun q hq=>h q (aaU _ hq)
  rw[abF,abi,abI];omega
def Small.signs{R:List Row}(S:Small R):(R.flatMap (·.2)).length<=280:=by
 have:=kF S.wid;have:=S.len;omega
def uA{R:List Row}{x:Str}:x∈R.flatMap (·.2)↔∃p∈R,x∈p.2:=abU
def Small.me{R:List Row}(S:Small R){D:List Str}(nd:D.Nodup)(h:∀z∈D,∃p∈R,z∈p.2):D.length<=40:=by
 obtain⟨U,hU,hm⟩:=S.few;exact acy (Gram.bU nd fun z hz=>by obtain⟨p,hp,hz'⟩:=h z hz;exact hm p hp z hz') hU
structure Def(P:Program)(w:World)(K:acX)(mg:Str->Option Value)(base:Heap)(x:Str)(k:Nat)(ps:List Str)(sp:Sp):Prop where
 ex:∃f fd,mg x=some (.ref f)/\PySem.W.keepIn K (.ref f)=true/\aM P w K mg base CX0 k f fd ps sp/\Binds K fd ps []
def aA{X:Cx}{x:Str}{k:Nat}{ps:List Str}{sp:Sp}{p pos:Pos}{e:Expr}{es:List Expr}{t:TA}(D:Def X.prog X.w X.K X.mg X.base x k ps sp)(hr:a9 k X.A)(hg:Gl X x)(ha:PA X (e::es) t)(hdb:(x == ("__debug__":Str))=false:=by decide)
  (he:starEach (e::es) X.env=(false,eval e X.env)::starEach es X.env:=by rfl)(hpl:(backTo pos (starEach es X.env)).any (·.1)=false:=by rfl):PE X (.Call (.Name x p) (e::es) [] pos) (rT sp [] E0 t):=by
 obtain⟨f,fd,h1,h2,h3,h4⟩:=D.ex;exact xY h3 hr hg h1 h2 h4 .nil rW ha hdb he hpl
def fT:Sp:=fun vs H Q _=>∃(a:Addr) (R:List Row),vs=[.ref a]/\aQ H a R/\Small R/\∀q H',ab H H'->H q=none->ao H' q (srt (aj (R.map (·.1))))->Q (.ref q) H'
section
variable {P:Program}{w:World}{K:acX}{mg:Str->Option Value}{base:Heap}
def si{f:Addr}{fd:FuncData}(F:Fun K "sorts_of" "sorts_of" kE f fd)(T:Txt mg):aM P w K mg base CX0 1 f fd ["rows"] fT:=by
 refine F.ok uz (fun vs H Q E h=>?_) (fun cdv A outer s H vs Q E hr h=>?_)
 ·obtain⟨a,R,rfl,_⟩:=h;rfl
 ·obtain⟨a,R,rfl,hR,hsm,k⟩:=h;have hn:R.length<64:=by have:=hsm.len;omega
  refine⟨_,ag (aO (aB (cR rfl) (by rfl) T.srt aap (ah
   (c6 (fF rfl) (by rfl) T.set (by decide +kernel) (ah
    (cV (aU.plain (N:=["row"]) (by rfl) (by rfl) (by decide)) rfl (aS (pv 0)) (fun s₃ H₃ fp=>ap (i:=0) (show(["row"]:List Str).Nodup by decide) rfl (Or.inl rfl)) (fun s₃ H₃ fp=>cI)
     (fun s₃ H₃ fp=>aG (r:=hV K) aR (pv 0) aq (fun _ _=>rfl))) ac)) ac))),?_⟩
  obtain⟨vs,hv,hp⟩:=hR;have hlen:vs.length=R.length:=aco hp;refine⟨_,rfl,a,rfl,⟨vs,SqL.of hv⟩,fun D hD=>da (K:=K) (xs:=vs) (fun i τ H1=>(∃o,τ=[o])/\H1=upd H D (.lst ((R.take i).map fun p=>V.str p.1))) ⟨⟨_,rfl⟩,rfl⟩ ?_ ?_ ?_⟩
  ·rintro i τ H1 ⟨_,rfl⟩;exact(ab.upd hD).seq (SqL.of hv)
  ·rintro i x τ H1 hx ⟨⟨o,rfl⟩,rfl⟩;obtain⟨p,hpi,t,b,rfl,ht,hb⟩:=ba hp i x hx;have hil:i<R.length:=(aaj.mp hpi).1;refine⟨_,rfl,t,_,0,_,rfl,rfl,SqT.of (ab.upd hD _ _ ht),au (j:=0) rfl,_,aa,?_,⟨_,rfl⟩,?_⟩
   ·rw[ab3,abK];exact az (by omega)
   ·rw[cu,acm,hpi,ab9];rfl
  ·rintro τ H1 ⟨_,rfl⟩;rw[hlen,abS];have em:(R.map fun p=>V.str p.1)=(R.map (·.1)).map V.str:=by rw[acD];rfl
   rw[em];refine⟨D,R.map (·.1),rfl,SqL.of aa,?_,fun q hq=>?_⟩
   ·rw[ab3];unfold scanBound;omega
   ·refine⟨q,aj (R.map (·.1)),rfl,.inr (.inl aa),?_,fun q2 hq2=>?_⟩
    ·have:=SL.gQ (R.map (·.1));rw[ab3] at this;omega
    ·have s1:=(ab.upd (o:=.lst ((R.map (·.1)).map V.str)) hD);have n1:H q=none:=s1.free hq;have s2:ab H (upd (upd H D (.lst ((R.map (·.1)).map V.str))) q (c9 w q (aj (R.map (·.1))))):=s1.trans (ab.upd hq);exact k q2 _ (s2.trans (ab.upd hq2)) (s2.free hq2) aa
end
end Nw
namespace Nw
open PySem L2
open SL (aj srt)
abbrev kG:Stmt:=top 7
def jo:aE ["rows","signs","row"] ["rows"] (am kG):=acW
def mV:Sp:=fun vs H Q _=>∃(a:Addr) (R:List Row),vs=[.ref a]/\aQ H a R/\Small R/\∀q ws H',ab H H'->H q=none->(∀z,z∈ws↔(∃p∈R,z∈p.2)/\¬z∈R.map (·.1))->ao H' q ws->Q (.ref q) H'
section
variable {P:Program}{w:World}{K:acX}{mg:Str->Option Value}{base:Heap}
def sj{f:Addr}{fd:FuncData}(F:Fun K "words_of" "words_of" kG f fd)(T:Txt mg)(D1:Def P w K mg base "sorts_of" 1 ["rows"] fT):aM P w K mg base CX0 2 f fd ["rows"] mV:=by
 refine F.ok jo (fun vs H Q E h=>?_) (fun cdv A outer s H vs Q E hr h=>?_)
 ·obtain⟨a,R,rfl,_⟩:=h;rfl
 ·obtain⟨a,R,rfl,hR,hsm,k⟩:=h;refine⟨_,af (ak (i:=1) jo.nd rfl (Or.inl rfl) (bg ac))
   (af (bf ace rfl (aS (pv 0)) (ap (i:=2) jo.nd rfl (Or.inl rfl))
    (ag (bc (bW aay aaq aar dE (pv 1) (ah (aG aR (pv 2) aq (fun _ _=>rfl)) ac)))))
   (ag (aO (aB (cR rfl) (by rfl) T.srt aap (ah
    (bV yn (c6 (fF rfl) (by rfl) T.set (by decide +kernel) (ah (pv 1) ac))
     (c6 (fF rfl) (by rfl) T.set (by decide +kernel) (ah (aA D1 hr (by rfl) (ah (pv 0) ac)) ac))) ac))))),?_⟩
  obtain⟨vs,hv,hp⟩:=id hR;have hlen:vs.length=R.length:=aco hp;refine⟨by decide,fun l hl=>?_⟩;have s0:ab H (upd H l (.lst [])):=ab.upd hl;refine⟨_,rfl,a,rfl,⟨_,s0.seq (SqL.of hv)⟩,bq (K:=K) (a:=a) (xs:=vs) (fun i σ H1=>(∃o,σ=[some (.ref a),some (.ref l),o])/\H1=upd H l (.lst (((R.take i).flatMap (·.2)).map V.str))) ⟨⟨_,rfl⟩,rfl⟩ ?_ ?_ ?_⟩
  ·rintro i σ H1 _ ⟨_,rfl⟩;exact(ab.upd hl).seq (SqL.of hv)
  ·rintro i x σ H1 hx ⟨⟨o,rfl⟩,rfl⟩;obtain⟨p,hpi,t,b,rfl,ht,hb⟩:=ba hp i x hx;have hil:i<R.length:=(aaj.mp hpi).1;have sl:=ab.upd (o:=HO.lst (((R.take i).flatMap (·.2)).map V.str)) hl;refine⟨_,rfl,.inl ⟨rfl,_,SqL.of aa⟩,_,rfl,t,_,1,_,rfl,rfl,SqT.of (sl _ _ ht),au (j:=1) rfl,l,b,_,_,rfl,rfl,aa,sl _ _ hb,?_,⟨_,rfl⟩,?_⟩
   ·have h1:=kF (R:=R.take i) fun q hq=>hsm.wid q (aaY hq)
    have h2:=hsm.wid p (aaW hpi);have h3:=hsm.len;rw[abK] at h1;rw[ab3,ab3];exact acz (az (by omega))
   ·rw[cu,acm,hpi,aa9,ab9];simp
  ·rintro σ H1 ⟨⟨o,rfl⟩,rfl⟩;rw[hlen,abS];have sg:=hsm.signs;have s1:=ab.upd (o:=HO.lst ((R.flatMap (·.2)).map V.str)) hl;refine⟨_,rfl,l,R.flatMap (·.2),rfl,SqL.of aa,by unfold scanBound;omega,fun q1 hq1=>?_⟩;have s2:=s1.trans (ab.upd (o:=c9 w q1 (aj (R.flatMap (·.2)))) hq1);refine⟨_,rfl,a,R,rfl,hR.mono s2,hsm,fun q2 H2 s3 n2 hS=>?_⟩;have hso:(srt (aj (R.map (·.1)))).length<=14:=by
    rw[SL.dQ];have:=SL.gQ (R.map (·.1));rw[ab3] at this;have:=hsm.len;omega
   refine⟨q2,_,rfl,SqL.of hS,by unfold scanBound;omega,fun q3 hq3=>?_⟩;have h1:H2 q1=some (c9 w q1 (aj (R.flatMap (·.2)))):=s3 _ _ aa;have s4:=ab.upd (H:=H2) (o:=c9 w q3 (aj (srt (aj (R.map (·.1)))))) hq3;have hon:(aj (srt (aj (R.map (·.1))))).length=(aj (R.map (·.1))).length:=by
    have:=SL.qt (SL.bZ (srt (aj (R.map (·.1))))) (SL.bZ (R.map (·.1))) fun x=>by rw[SL.bE,SL.cg]
    exact this.length_eq
   refine⟨q1,q3,_,_,rfl,rfl,s4 _ _ h1,aa,by rw[hon];exact hsm.dif,fun q4 D hq4 nd hm=>?_⟩;have hD:∀z,z∈D↔(∃p∈R,z∈p.2)/\¬z∈R.map (·.1):=fun z=>by
    rw[hm z,SL.bE,uA,SL.bE,SL.cg,SL.bE]
   refine⟨q4,D,rfl,.inr (.inl aa),?_,fun q5 hq5=>?_⟩
   ·have:=hsm.me nd fun z hz=>((hD z).mp hz).1
    omega
   ·have s5:ab H (upd (upd H2 q3 (c9 w q3 (aj (srt (aj (R.map (·.1))))))) q4 (c9 w q4 D)):=((s2.trans s3).trans s4).trans (ab.upd hq4);exact k q5 (srt D) _ (s5.trans (ab.upd hq5)) (s5.free hq5) (fun z=>by rw[SL.cg,hD z]) aa
end
end Nw
namespace L2
open PySem PySem.Spec PyProof.Rows
def kg{β:Type}(g:Str->NameKind->NameKind):∀(l:List (Str×NameKind)) (x:Str),(l.map fun y=>(y.1,g y.1 y.2)).lookup x=(l.lookup x).map (g x)
 |[],x=>rfl
 |(n,k)::r,x=>by
  rw[acr,abT,abT];cases e:x == n with
  |true=>
   dsimp only;rw[eq_of_beq e];rfl
  |false=>exact kg (β:=β) g r x
def dU(scope:Scope)(env:Env)(x:Str):(relabel scope env).names.lookup x=(scope.names.lookup x).map fun k=>if (k == NameKind.free && env.scope.kind == .function && env.kindOf x == some .cell)=true then NameKind.cell else k:=by
 have e:(relabel scope env).names=scope.names.map fun y=>(y.1,(fun n k=>if (k == NameKind.free && env.scope.kind == .function && env.kindOf n == some .cell)=true then NameKind.cell else k) y.1 y.2):=by
  unfold relabel;refine aa8 fun y _=>?_
  obtain⟨n,k⟩:=y;dsimp only;split <;> rfl
 rw[e,kg (β:=Unit) (fun n k=>if (k == NameKind.free && env.scope.kind == .function && env.kindOf n == some .cell)=true then NameKind.cell else k)]
def aU.free{X:Cx}{scope:Scope}{cl:List (Str×Addr)}{N:List Str}{sel:List (Option Nat)}(fr:List Str)(clos:closureFor scope X.env=pure cl)(hk:scope.kind=.function)(hek:X.env.scope.kind=.function)
  (hn:∀y∈scope.names,y.2=.local\/(y.2=.free/\y.1∈fr))(hl:∀y∈scope.names,y.2=.local->scope.names.lookup y.1=some .local)
  (hfr:∀x∈fr,X.env.kindOf x=some .cell/\scope.names.lookup x=some .free/\∃c,cl.lookup x=some c/\X.env.cells.lookup x=some c)(hcl:∀y∈cl,y.1∈fr)
  (hlen:sel.length=N.length)(hsel:∀(j i:Nat),sel[j]? =some (some i)->∃x∈fr,X.N[i]? =some x/\N[j]? =some x):aU X scope cl N sel where
 clos:=clos
 nocell:=fun y hy z=>by
  rcases hn y hy with e|⟨e,_⟩
  ·rw[e] at z;cases z
  ·rw[e] at z;cases z
 kind:=hk
 locs:=hl
 cells:=fun x c h=>by
  obtain⟨_,_,c',h1,h2⟩:=hfr x (hcl _ (lookup_mem h));rw[h] at h1;cases h1
  exact h2
 has:=fun x ⟨v,n⟩=>by
  have key:∀kd:NameKind,(relabel scope X.env).names.lookup x=some kd->kd≠.local->∃c,cl.lookup x=some c:=fun kd h hne=>by
   rw[dU] at h;cases q:scope.names.lookup x with
   |none=>rw[q] at h;cases h
   |some k0=>
    rw[q] at h;rcases hn _ (lookup_mem q) with e|⟨_,e⟩
    ·have e:k0=.local:=e;subst e;have h:some NameKind.local=some kd:=h;injection h with h;exact absurd h.symm hne
    ·obtain⟨_,_,c,h1,_⟩:=hfr x e;exact⟨c,h1⟩
  rcases v with z|z|z
  ·exact absurd z n
  ·exact key _ z (by decide)
  ·exact key _ z (by decide)
 len:=hlen
 names:=fun j i h=>by
  obtain⟨x,hx,h1,h2⟩:=hsel j i h;obtain⟨k1,k2,_⟩:=hfr x hx;have k1:X.env.scope.names.lookup x=some .cell:=k1;refine⟨x,h1,h2,⟨.inr (.inl k1),by rw[k1];decide⟩,?_⟩;rw[dU,k2];show some (if _ then _ else _)≠_;split <;> decide
end L2
namespace Nw
open PySem L2
open SL (aj srt)
abbrev oZ:Stmt:=top 8
def yr:aE ["rows"] ["rows"] (am oZ):=acW
def jM:Sp:=fun vs H Q _=>∃(a:Addr) (p:Row) (R:List Row),vs=[.ref a]/\aQ H a (p::R)/\Q (.str p.1) H
abbrev su:Stmt:=top 9
def gC:aE ["rows","words","made","grown","left","right"] ["rows","words"] (am su):=acW
def o0:Sp:=fun vs H Q _=>∃(a b:Addr) (R:List Row) (ws:List Str),vs=[.ref a,.ref b]/\aQ H a R/\Small R/\ao H b ws/\∀q ms H',ab H H'->H q=none->ms.Nodup->(∀z,z∈ms↔Gram.Made R (·∈ws) z)->ao H' q (srt ms)->Q (.ref q) H'
def kd(ms:List Str):List (Key×V):=ms.map fun m=>((Sum.inr m:Key),V.bl true)
def jp:∀(ms:List Str) (x:Str),aD (kd ms) (Sum.inr x:Key)=if x∈ms then some (V.bl true) else none
 |[],x=>rfl
 |m::r,x=>by
  show aD (((Sum.inr m:Key),V.bl true)::kd r) (Sum.inr x)=_
  by_cases e:m=x
  ·subst e;rw[bB rfl,acR (abe ..)]
  ·rw[bi (fun z=>e (acG z)),jp r x]
   by_cases h:x∈r
   ·rw[acR h,acR (aaU _ h)]
   ·rw[acS h,acS fun z=>(acq.mp z).elim (fun q=>e q.symm) h]
def uB{ms:List Str}{x:Str}(h:¬x∈ms):putK (kd ms) (Sum.inr x:Key) (V.bl true)=kd (ms++[x]):=by
 rw[gw _ (by rw[jp,acS h])];unfold kd;rw[ab9];rfl
def qJ(ms:List Str):(kd ms).map (·.1)=ms.map Sum.inr:=by
 unfold kd;rw[acD];rfl
def eP(x:Str):∀ws:List Str,inV (.str x) (ws.map V.str)=decide (x∈ws)
 |[]=>rfl
 |y::r=>by
  have ih:=eP x r;unfold inV at ih ⊢;rw[acr,acs,ih];show((y == x) || decide (x∈r))=_
  by_cases e:y=x
  ·subst e;simp
  ·have e1:(y == x)=false:=aa1.mpr e;have e2:¬x=y:=fun z=>e z.symm
   simp[e1,e2]
def dG:∀ws:List Str,(ws.map V.str).all f8=true
 |[]=>rfl
 |_::r=>dG r
def cL{H:Hp}{vs:List V}{R:List Row}(hp:Paired (cU H) vs R){i:Nat}{x:V}(hx:vs[i]? =some x):∃p t b,R[i]? =some p/\x=.ref t/\H t=some (.tup [.str p.1,.ref b])/\ao H b p.2:=by
 obtain⟨p,hpi,t,b,rfl,ht,hb⟩:=ba hp i x hx;exact⟨p,t,b,hpi,rfl,ht,hb⟩
section
variable {P:Program}{w:World}{K:acX}{mg:Str->Option Value}{base:Heap}
def v8{f:Addr}{fd:FuncData}(F:Fun K "first_sort" "first_sort" oZ f fd):aM P w K mg base CX0 1 f fd ["rows"] jM:=by
 refine F.ok yr (fun vs H Q E h=>?_) (fun cdv A outer s H vs Q E hr h=>?_)
 ·obtain⟨a,p,R,rfl,_⟩:=h;rfl
 ·obtain⟨a,p,R,rfl,hR,k⟩:=h;refine⟨_,ag (aO (aG aR (aG a0 (pv 0) aq (fun _ _=>rfl)) aq (fun _ _=>rfl))),?_⟩;obtain⟨vs,hv,hp⟩:=hR;cases hp with
  |@cons v _ vr _ h1 h2=>
   obtain⟨t,b,rfl,ht,hb⟩:=h1;exact⟨_,rfl,a,_,0,_,rfl,rfl,SqL.of hv,au (j:=0) rfl,t,_,0,_,rfl,rfl,SqT.of ht,au (j:=0) rfl,k⟩
def yt{f:Addr}{fd:FuncData}(F:Fun K "sorts_made_of" "sorts_made_of" su f fd)(T:Txt mg):aM P w K mg base CX0 1 f fd ["rows","words"] o0:=by
 refine F.ok gC (fun vs H Q E h=>?_) (fun cdv A outer s H vs Q E hr h=>?_)
 ·obtain⟨a,b,R,ws,rfl,_⟩:=h;rfl
 ·obtain⟨a,b,R,ws,rfl,hR,hsm,hW,k⟩:=h;have hu:=bO hr;refine⟨_,af (ak (i:=2) gC.nd rfl (Or.inr rfl) eO)
   (af (ak (i:=3) gC.nd rfl (Or.inl rfl) c8)
   (af (dD ace (bN (pv 3))
    (af (ak (i:=3) gC.nd rfl (Or.inl rfl) c8)
    (ag (bf ace rfl (aS (pv 0)) (cx (n:=2) rfl (aH (ap (i:=4) gC.nd rfl (Or.inl rfl)) (aH (ap (i:=5) gC.nd rfl (Or.inl rfl)) bT)))
     (ag (bh (PW.pt (tQ (ej (fS hu (pv 4) (pv 2))) (qy (bN (aB (oX rfl) (by rfl) T.all PyProof.Rows.boot_all (ah
       (cV (aU.free (N:=["sign","words","made"]) (sel:=[none,some 1,some 2]) ["words","made"] (by rfl) (by rfl) (by rfl) ?c1 ?c2 ?c3 ?c4 (by rfl) ?c5) rfl (aS (pv 5)) (fun s₃ H₃ fp=>ap (i:=0) (show(["sign","words","made"]:List Str).Nodup by decide) rfl (Or.inl rfl)) (fun s₃ H₃ fp=>cI)
        (fun s₃ H₃ fp=>AJ (lZ (r:=rIn K false) je (pv 0) (pv 1) (by with_unfolding_all rfl)) (y8 (y4 (ik (X:=b9 _ _ _ _ _ _ _) hu (pv 0) (pv 2)))))) ac))))))
      (af (dN hu (pv 2) (pv 4) c8 rfl) (ag (ak (i:=3) gC.nd rfl (Or.inl rfl) c8))) bt))))))
   (ag (aO (aB (cR rfl) (by rfl) T.srt aap (ah (pv 2) ac)))))),?_⟩
  case c1=>decide
  case c2=>decide
  case c3=>
   intro x hx;rcases acq.mp hx with rfl|hx
   ·exact⟨rfl,rfl,_,rfl,rfl⟩
   ·rcases acq.mp hx with rfl|hx
    ·exact⟨rfl,rfl,_,rfl,rfl⟩
    ·cases hx
  case c4=>
   intro y hy;rcases acq.mp hy with rfl|hy
   ·exact abe ..
   ·rcases acq.mp hy with rfl|hy
    ·exact aaU _ (abe ..)
    ·cases hy
  case c5=>
   intro j i h;rcases j with _|_|_|j
   ·cases h
   ·cases h;exact⟨"words",abe ..,rfl,rfl⟩
   ·cases h;exact⟨"made",aaU _ (abe ..),rfl,rfl⟩
   ·cases h
  obtain⟨vs,hv,hp⟩:=id hR;have hlen:vs.length=R.length:=aco hp;have hRl:=hsm.len;intro d hd;refine⟨fun m σ H1=>∃ms g l r,σ=[some (.ref a),some (.ref b),some (.ref d),some (.bl g),l,r]/\ab H H1/\H1 d=some (.dK (kd ms))/\ms.Nodup/\(∀x∈ms,Gram.Made R (·∈ws) x)/\
    (g=false->∀l r,(l,r)∈R->(∀s∈r,s∈ws\/s∈ms)->l∈ms)/\m=(if g=true then 1 else 0)+2*(R.length - ms.length),
   ⟨_,[],true,none,none,rfl,ab.upd hd,aa,acj,fun x hx=>(by cases hx),fun z=>(by cases z),rfl⟩,?_⟩
  rintro m0 σ H1 ⟨ms0,g0,l0,r0,rfl,s1,hd1,nd0,so0,cl0,rfl⟩;refine⟨_,rfl,g0,rfl,?_⟩;have lenR:∀{ms:List Str},ms.Nodup->(∀x∈ms,Gram.Made R (·∈ws) x)->ms.length<=R.length:=fun nd so=>by
   have:=Gram.bU nd fun x hx=>(so x hx).left
   rw[ab3] at this;exact this
  cases g0 with
  |false=>
   refine aT ?_;have cl:=cl0 rfl;have l14:=lenR nd0 so0;refine⟨_,rfl,d,ms0,rfl,.inr (.inr ⟨_,hd1,qJ ms0⟩),by omega,fun q hq=>?_⟩;exact k q ms0 _ (s1.trans (ab.upd hq)) (s1.free hq) nd0 (fun z=>⟨so0 z,fun h=>Gram.ma cl h⟩) aa
  |true=>
   refine bC ?_;refine⟨fun σ H2=>∃ms g l r,σ=[some (.ref a),some (.ref b),some (.ref d),some (.bl g),l,r]/\ab H H2/\H2 d=some (.dK (kd ms))/\ms.Nodup/\(∀x∈ms,Gram.Made R (·∈ws) x)/\
     (g=false->ms=ms0/\∀l r,(l,r)∈R->(∀s∈r,s∈ws\/s∈ms0)->l∈ms0)/\(g=true->ms0.length<ms.length),?_,?_⟩
   ·rintro σ' H' ⟨ms,g,l,r,rfl,s2,hd2,nd,so,cf,ct⟩;have l14:=lenR nd so;refine⟨(if g=true then 1 else 0)+2*(R.length - ms.length),?_,ms,g,l,r,rfl,s2,hd2,nd,so,fun z=>?_,rfl⟩
    ·rw[acR rfl];cases g with
     |true=>
      have:=ct rfl;rw[acR rfl];omega
     |false=>
      have:=(cf rfl).1;rw[acS (by decide),this];omega
    ·obtain⟨e,cl⟩:=cf z;rw[e];exact cl
   refine⟨_,rfl,a,rfl,⟨_,s1.seq (SqL.of hv)⟩,bq (K:=K) (a:=a) (xs:=vs)
    (fun i σ H2=>∃ms g l r,σ=[some (.ref a),some (.ref b),some (.ref d),some (.bl g),l,r]/\ab H H2/\H2 d=some (.dK (kd ms))/\ms.Nodup/\(∀x∈ms,Gram.Made R (·∈ws) x)/\ms0.length<=ms.length/\
     (g=false->ms=ms0/\∀j l r,j<i->R[j]? =some (l,r)->(∀s∈r,s∈ws\/s∈ms0)->l∈ms0)/\(g=true->ms0.length<ms.length))
    ⟨ms0,false,l0,r0,rfl,s1,hd1,nd0,so0,acH _,fun _=>⟨rfl,fun j l r hj=>absurd hj (Nat.not_lt_zero _)⟩,fun z=>(by cases z)⟩ ?_ ?_ ?_⟩
   ·rintro i σ H2 _ ⟨_,_,_,_,_,s2,_⟩;exact s2.seq (SqL.of hv)
   ·rintro i x σ H2 hx ⟨ms,g,l,r,rfl,s2,hd2,nd,so,le,cf,ct⟩;obtain⟨p,t,c,hpi,rfl,ht,hc⟩:=cL hp hx;have hpm:(p.1,p.2)∈R:=aaW hpi;refine⟨t,_,rfl,SqT.of (s2 _ _ ht),rfl,_,_,rfl,_,_,rfl,rfl,?_⟩;refine⟨_,rfl,_,rfl,d,_,rfl,bu.k (k:=Sum.inr p.1) hd2,_,rfl,?_⟩;rw[jp]
    by_cases hin:p.1∈ms
    ·rw[acR hin];refine aT (aT ?_);refine⟨ms,g,_,_,rfl,s2,hd2,nd,so,le,fun z=>?_,ct⟩;obtain⟨e,cl⟩:=cf z;refine⟨e,fun j l r hj hR' hs=>?_⟩;rcases acE j i with q|q
     ·exact cl j l r q hR' hs
     ·have:j=i:=by omega
      subst this;rw[hpi] at hR';cases hR'
      rw[←e];exact hin
    ·rw[acS hin];refine bC ?_;have hc2:H2 c=some (.lst (p.2.map V.str)):=s2 _ _ hc;have hw2:H2 b=some (.lst (ws.map V.str)):=s2 _ _ hW;refine⟨_,rfl,c,rfl,⟨_,SqL.of hc2⟩,fun D hD=>da (K:=K) (xs:=p.2.map V.str)
      (fun i τ H3=>(∃o,τ=[o,some (.ref b),some (.ref d)])/\H3=upd H2 D (.lst ((p.2.take i).map fun s=>V.bl (decide (s∈ws\/s∈ms))))) ⟨⟨_,rfl⟩,rfl⟩ ?_ ?_ ?_⟩
     ·rintro i τ H3 ⟨_,rfl⟩;exact(ab.upd hD).seq (SqL.of hc2)
     ·rintro i x τ H3 hx ⟨⟨o,rfl⟩,rfl⟩;obtain⟨sg,hsg,rfl⟩:∃sg,p.2[i]? =some sg/\V.str sg=x:=by
       rw[abt] at hx;cases e:p.2[i]? with
       |none=>rw[e] at hx;cases hx
       |some sg=>rw[e] at hx;exact⟨sg,rfl,abY hx⟩
      have sD:=ab.upd (o:=HO.lst ((p.2.take i).map fun s=>V.bl (decide (s∈ws\/s∈ms)))) hD;have hil:i<p.2.length:=(aaj.mp hsg).1;have fin:∀bo:Bool,bo=decide (sg∈ws\/sg∈ms)->∃ys,upd H2 D (.lst ((p.2.take i).map fun s=>V.bl (decide (s∈ws\/s∈ms)))) D=some (.lst ys)/\ys.length<sizeLine/\
        (∃o',[some (V.str sg),some (V.ref b),some (V.ref d)]=[o',some (.ref b),some (.ref d)])/\upd (upd H2 D (.lst ((p.2.take i).map fun s=>V.bl (decide (s∈ws\/s∈ms))))) D (.lst (ys++[V.bl bo]))=upd H2 D (.lst ((p.2.take (i+1)).map fun s=>V.bl (decide (s∈ws\/s∈ms)))):=by
       rintro bo rfl;refine⟨_,aa,?_,⟨_,rfl⟩,?_⟩
       ·rw[ab3,abK];have:=hsm.wid p (aaW hpi);exact az (by omega)
       ·rw[cu,acm,hsg,ab9];rfl
      refine⟨_,rfl,_,rfl,b,_,rfl,.inl (SqL.of (sD _ _ hw2)),rfl,dG ws,_,rfl,?_⟩;rw[eP]
      by_cases hin1:sg∈ws
      ·rw[aci hin1];refine bC (fin true ?_);rw[aci (.inl hin1)]
      ·rw[abX hin1];refine aT ?_;refine⟨_,rfl,_,rfl,d,_,rfl,bu.k (k:=Sum.inr sg) (sD _ _ hd2),?_⟩;rw[jp]
       by_cases hin2:sg∈ms
       ·rw[acR hin2];exact fin true (by rw[aci (.inr hin2)])
       ·rw[acS hin2];exact fin false (by rw[abX];rintro(z|z);exact hin1 z;exact hin2 z)
     ·rintro τ H3 ⟨_,rfl⟩;rw[ab3,abS];have sD:=ab.upd (o:=HO.lst (p.2.map fun s=>V.bl (decide (s∈ws\/s∈ms)))) hD;have s3:ab H _:=s2.trans sD;refine⟨D,p.2.map fun s=>decide (s∈ws\/s∈ms),rfl,SqL.of (by rw[aa,acD];rfl),_,rfl,?_⟩;have hall:((p.2.map fun s=>decide (s∈ws\/s∈ms)).all id=true)↔∀s∈p.2,s∈ws\/s∈ms:=by
       rw[List.all_map,abR];exact⟨fun h s hs=>abx (h s hs),fun h s hs=>aci (h s hs)⟩
      cases hb:(p.2.map fun s=>decide (s∈ws\/s∈ms)).all id with
      |true=>
       refine bC ?_;have ha:=hall.mp hb;have l14:=lenR nd so;have hd3:upd H2 D (.lst (p.2.map fun s=>V.bl (decide (s∈ws\/s∈ms)))) d=some (.dK (kd ms)):=sD _ _ hd2;refine⟨_,rfl,_,rfl,d,_,rfl,d8.k (k:=Sum.inr p.1) hd3 (by unfold kd;rw[ab3];exact az (by omega)),?_⟩;rw[uB hin];refine⟨ms++[p.1],true,_,_,rfl,s3.bG hd,aa,fE nd hin,fun x hx=>?_,by rw[abi];omega,fun z=>(by cases z),fun _=>by rw[abi,aaH];omega⟩;rcases ab0.mp hx with q|q
       ·exact so x q
       ·rw[abl.mp q];exact Gram.uy so hpm ha
      |false=>
       refine aT ?_;refine⟨ms,g,_,_,rfl,s3,sD _ _ hd2,nd,so,le,fun z=>?_,ct⟩;obtain⟨e,cl⟩:=cf z;refine⟨e,fun j l r hj hR' hs=>?_⟩;rcases acE j i with q|q
       ·exact cl j l r q hR' hs
       ·have:j=i:=by omega
        subst this;rw[hpi] at hR';cases hR'
        exfalso;have:=hall.mpr (by rw[e];exact hs);rw[hb] at this;cases this
   ·rintro σ H2 ⟨ms,g,l,r,rfl,s2,hd2,nd,so,le,cf,ct⟩;rw[hlen] at cf;refine⟨ms,g,l,r,rfl,s2,hd2,nd,so,fun z=>?_,ct⟩;obtain⟨e,cl⟩:=cf z;refine⟨e,fun l r hm hs=>?_⟩;obtain⟨j,hj⟩:=aaN.mp hm;exact cl j l r (aaj.mp hj).1 hj hs
end
end Nw
namespace Nw
open PySem L2
open SL (aj srt)
abbrev Tab:=List (Str×List Str)
def ga(H:Hp)(kv:Key×V)(e:Str×List Str):Prop:=kv.1=Sum.inr e.1/\∃l,kv.2=.ref l/\ao H l e.2
def dW(H:Hp)(a:Addr)(f:Tab):Prop:=∃kvs,Rd H a (.dK kvs)/\Paired (ga H) kvs f
def getL(f:Tab)(x:Str):List Str:=(f.lookup x).getD []
def yu{H H':Hp}(e:ab H H'){a:Addr}{u:HO}(h:Rd H a u):Rd H' a u:=by
 rcases h with h|⟨o,h⟩
 ·exact .inl (e _ _ h)
 ·exact .inr ⟨o,e _ _ h⟩
def dW.mono{H H':Hp}(e:ab H H'){a:Addr}{f:Tab}(h:dW H a f):dW H' a f:=by
 obtain⟨kvs,h1,h2⟩:=h;exact⟨kvs,yu e h1,Paired.bp h2 fun _ _ ⟨q1,l,q2,q3⟩=>⟨q1,l,q2,e _ _ q3⟩⟩
def fG{H:Hp}:∀{kvs:List (Key×V)} {f:Tab},Paired (ga H) kvs f->∀(x:Str),(f.lookup x=none/\aD kvs (Sum.inr x:Key)=none)\/∃ys l,f.lookup x=some ys/\aD kvs (Sum.inr x:Key)=some (.ref l)/\ao H l ys
 |_,_,.nil,x=>.inl ⟨rfl,rfl⟩
 |_,_,@Paired.cons _ _ _ kv e _ _ ⟨h1,l,h2,h3⟩ t,x=>by
  obtain⟨k,v⟩:=kv;obtain⟨n,ys⟩:=e;have h1:k=Sum.inr n:=h1;have h2:v=.ref l:=h2;subst h1;subst h2;rw[abT]
  by_cases q:n=x
  ·subst q
   right
   refine⟨ys,l,?_,bB rfl,h3⟩;simp
  ·have q':(x == n)=false:=aa1.mpr fun z=>q z.symm
   rw[q',bi (fun z=>q (acG z))];exact fG t x
def cm:∀{f:Tab} {x:Str},x∈f.map (·.1)->∃ys,f.lookup x=some ys/\(x,ys)∈f
 |[],x,h=>by cases h
 |(n,ys)::r,x,h=>by
  rw[abT];cases e:x == n with
  |true=>
   have e:=eq_of_beq e;subst e;exact⟨ys,rfl,abe ..⟩
  |false=>
   rcases acq.mp h with z|z
   ·rw[z] at e;simp at e
   ·obtain⟨ys',h1,h2⟩:=cm z;exact⟨ys',h1,aaU _ h2⟩
def dW.get{H:Hp}{a:Addr}{f:Tab}(h:dW H a f){x:Str}(hx:x∈f.map (·.1)):∃l,bu H a (.str x) (some (.ref l))/\ao H l (getL f x):=by
 obtain⟨kvs,h1,h2⟩:=h;obtain⟨ys,e,_⟩:=cm hx;rcases fG h2 x with ⟨z,_⟩|⟨ys',l,z,v,hl⟩
 ·rw[e] at z;cases z
 ·refine⟨l,.inl ⟨kvs,Sum.inr x,h1,rfl,v.symm⟩,?_⟩;unfold getL;rw[z];exact hl
def wsum(f:Tab)(ms:List Str):Nat:=(f.map fun e=>if e.1∈ms then 0 else e.2.length).sum
def mf:∀(f:Tab) (ms:List Str),wsum f ms<=(f.map fun e=>e.2.length).sum
 |[],_=>acH _
 |e::r,ms=>by
  have:=mf r ms;unfold wsum at this ⊢;rw[acr,acu,acr,acu];split <;> omega
def pb:∀{f:Tab} {ms:List Str} {x:Str},¬x∈f.map (·.1)->wsum f (ms++[x])=wsum f ms
 |[],_,_,_=>rfl
 |e::r,ms,x,h=>by
  have h1:¬e.1=x:=fun z=>h (by rw[←z];exact abe ..)
  have h2:=pb (f:=r) (ms:=ms) (x:=x) fun z=>h (aaU _ z)
  unfold wsum at h2 ⊢;rw[acr,acu,acr,acu,h2];have:(e.1∈ms++[x])↔e.1∈ms:=by rw[ab0,abl];exact⟨fun z=>z.resolve_right h1,.inl⟩
  by_cases z:e.1∈ms
  ·rw[acR z,acR (this.mpr z)]
  ·rw[acS z,acS fun q=>z (this.mp q)]
def mh:∀{f:Tab} {ms:List Str} {x:Str},(f.map (·.1)).Nodup->x∈f.map (·.1)->¬x∈ms->wsum f (ms++[x])+(getL f x).length=wsum f ms
 |[],_,_,_,h,_=>by cases h
 |e::r,ms,x,nd,h,hx=>by
  rw[acr,ab6] at nd;obtain⟨n,ys⟩:=e
  by_cases q:n=x
  ·subst q;have h1:=pb (f:=r) (ms:=ms) (x:=n) nd.1;unfold wsum at h1 ⊢;rw[acr,acu,acr,acu,h1];have:getL ((n,ys)::r) n=ys:=by unfold getL;simp
   rw[this,acR (by simp),acS hx];show 0+_+ys.length=ys.length+_;omega
  ·have hr:x∈r.map (·.1):=by
    rcases acq.mp h with z|z
    ·exact absurd z.symm q
    ·exact z
   have h1:=mh (f:=r) nd.2 hr hx;have q':(x == n)=false:=aa1.mpr fun z=>q z.symm
   have:getL ((n,ys)::r) x=getL r x:=by unfold getL;rw[abT,q']
   rw[this];unfold wsum at h1 ⊢;rw[acr,acu,acr,acu];have e2:(n∈ms++[x])↔n∈ms:=by rw[ab0,abl];exact⟨fun z=>z.resolve_right q,.inl⟩
   by_cases z:n∈ms
   ·rw[acR z,acR (e2.mpr z)];omega
   ·rw[acS z,acS fun q=>z (e2.mp q)];show ys.length+_+_=ys.length+_;omega
def gb{wi:List Str}{here y:Str}:y∈wi.concat here↔y∈wi\/y∈[here]:=by rw[aaO,ab0]
structure Links(f:Tab):Prop where
 nd:(f.map (·.1)).Nodup
 cl:∀e∈f,∀y∈e.2,y∈f.map (·.1)
 len:f.length<=14
 sz:(f.map fun e=>e.2.length).sum<=10000
abbrev pc:Stmt:=top 10
def jN:aE ["links","sort","reached","waiting","here"] ["links","sort"] (am pc):=acW
def mi:Sp:=fun vs H Q _=>∃(a:Addr) (x:Str) (f:Tab),vs=[.ref a,.str x]/\dW H a f/\Links f/\x∈f.map (·.1)/\∀q ms H',ab H H'->H q=none->ms.Nodup->(∀z,z∈ms↔Gram.Reach (getL f) x z)->ao H' q (srt ms)->Q (.ref q) H'
def cS{n:Nat}(h:n<=20000):n<=sizeLine:=by rw[PySem.sizeLine_eq];omega
section
variable {P:Program}{w:World}{K:acX}{mg:Str->Option Value}{base:Heap}
def v9{f:Addr}{fd:FuncData}(F:Fun K "sorts_reached" "sorts_reached" pc f fd)(T:Txt mg):aM P w K mg base CX0 1 f fd ["links","sort"] mi:=by
 refine F.ok jN (fun vs H Q E h=>?_) (fun cdv A outer s H vs Q E hr h=>?_)
 ·obtain⟨a,x,f,rfl,_⟩:=h;rfl
 ·obtain⟨a,x,f,rfl,hL,hf,hx,k⟩:=h;have hu:=bO hr;refine⟨_,af (ak (i:=2) jN.nd rfl (Or.inl rfl) eO)
   (af (ak (i:=3) jN.nd rfl (Or.inl rfl) (bg (ah (pv 1) ac)))
   (af (dD ace (vM (pv 3) (fun _=>rfl))
    (af (ak (i:=4) jN.nd rfl (Or.inl rfl) (jf aay aaP aaQ jg (pv 3)))
    (ag (bh (ej (fS hu (pv 4) (pv 2)))
     (af (dN hu (pv 2) (pv 4) c8 rfl)
     (ag (bc (bW aay aaq aar dE (pv 3) (ah (bK hu (pv 0) (pv 4) (fun _ _=>rfl)) ac)))))
     bt))))
   (ag (aO (aB (cR rfl) (by rfl) T.srt aap (ah (pv 2) ac)))))),?_⟩
  intro d hd;refine⟨_,rfl,acT,fun wl hwl=>?_⟩;have hwd:H wl=none:=(ab.upd (o:=HO.dK []) hd).free hwl;have ndw:wl≠d:=fun z=>by rw[z,aa] at hwl;cases hwl
  have hfl:=hf.len;refine⟨fun m σ H1=>∃ms ws o,σ=[some (.ref a),some (.str x),some (.ref d),some (.ref wl),o]/\ab H H1/\H1 d=some (.dK (kd ms))/\ao H1 wl ws/\ms.Nodup/\(∀z∈ms,z∈f.map (·.1)/\Gram.Reach (getL f) x z)/\
    (∀z∈ws,z∈f.map (·.1)/\Gram.Reach (getL f) x z)/\(x∈ms\/x∈ws)/\(∀z∈ms,∀y∈getL f z,y∈ms\/y∈ws)/\m=ws.length+wsum f ms/\m<=1+(f.map fun e=>e.2.length).sum,
   ⟨_,[],[x],none,rfl,(ab.upd hd).trans (ab.upd hwl),by rw[ad (acQ ndw),aa];rfl,aa,acj,fun z hz=>(by cases hz),fun z hz=>by
    rw[abl.mp hz];exact⟨hx,.refl⟩,.inr (abe ..),fun z hz=>(by cases hz),rfl,by have:=mf f [];simp only[aaH];omega⟩,?_⟩
  rintro m σ H1 ⟨ms,ws,o,rfl,s1,hd1,hw1,nd,so,sw,st,cl,rfl,hm⟩;refine⟨_,rfl,_,.inl ⟨_,SqL.of hw1,rfl⟩,?_⟩;have lenM:ms.length<=f.length:=by
   have:=Gram.bU nd fun z hz=>(so z hz).1
   rw[ab3] at this;exact this
  rcases aaR ws with rfl|⟨wi,here,rfl⟩
  ·refine aT ?_;refine⟨_,rfl,d,ms,rfl,.inr (.inr ⟨_,hd1,qJ ms⟩),by omega,fun q hq=>?_⟩;refine k q ms _ (s1.trans (ab.upd hq)) (s1.free hq) nd (fun z=>⟨fun h=>(so z h).2,fun h=>?_⟩) aa;refine Gram.gS (st.resolve_right (by intro z;cases z)) (fun z hz y hy=>(cl z hz y hy).resolve_right (by intro z;cases z)) h
  ·have e0:(!((wi.concat here).map V.str).isEmpty)=true:=by simp
   rw[e0];refine bC ?_;have hw1:H1 wl=some (.lst ((wi.map V.str)++[V.str here])):=by
    have:=hw1;unfold ao at this;rw[this];simp
   obtain⟨hk,hre⟩:=sw here (by simp);have nwd:H1 wl≠H1 d:=by rw[hw1,hd1];intro z;cases z
   have hwld:wl≠d:=ndw;have s2:ab H (upd H1 wl (.lst (wi.map V.str))):=s1.bG hwd;have hd2:upd H1 wl (.lst (wi.map V.str)) d=some (.dK (kd ms)):=by rw[ad (acQ hwld)];exact hd1
   refine⟨fun σ H2=>∃ms' ws' o,σ=[some (.ref a),some (.str x),some (.ref d),some (.ref wl),o]/\ab H H2/\H2 d=some (.dK (kd ms'))/\ao H2 wl ws'/\ms'.Nodup/\(∀z∈ms',z∈f.map (·.1)/\Gram.Reach (getL f) x z)/\
    (∀z∈ws',z∈f.map (·.1)/\Gram.Reach (getL f) x z)/\(x∈ms'\/x∈ws')/\(∀z∈ms',∀y∈getL f z,y∈ms'\/y∈ws')/\ws'.length+wsum f ms'+1=(wi.concat here).length+wsum f ms,?_,?_⟩
   ·rintro σ' H' ⟨ms',ws',o',rfl,q1,q2,q3,q4,q5,q6,q7,q8,q9⟩;exact⟨_,by omega,ms',ws',o',rfl,q1,q2,q3,q4,q5,q6,q7,q8,rfl,by omega⟩
   refine⟨_,rfl,.inl ⟨rfl,_,SqL.of hw1⟩,wl,_,V.str here,rfl,rfl,hw1,by simp,?_⟩;rw[aaZ];refine⟨_,rfl,_,rfl,d,_,rfl,bu.k (k:=Sum.inr here) hd2,_,rfl,?_⟩;rw[jp]
   by_cases hin:here∈ms
   ·rw[acR hin];refine aT ?_;refine⟨ms,wi,_,rfl,s2,hd2,aa,nd,so,fun z hz=>sw z (by simp[hz]),?_,fun z hz y hy=>?_,by simp;omega⟩
    ·rcases st with z|z
     ·exact .inl z
     ·rcases gb.mp z with q|q
      ·exact .inr q
      ·exact .inl (by rw[abl.mp q];exact hin)
    ·rcases cl z hz y hy with q|q
     ·exact .inl q
     ·rcases gb.mp q with q|q
      ·exact .inr q
      ·exact .inl (by rw[abl.mp q];exact hin)
   ·rw[acS hin];refine bC ?_;refine⟨_,rfl,_,rfl,d,_,rfl,d8.k (k:=Sum.inr here) hd2 (by unfold kd;rw[ab3];exact az (by omega)),?_⟩;rw[uB hin];have s3:ab H (upd (upd H1 wl (.lst (wi.map V.str))) d (.dK (kd (ms++[here])))):=s2.bG hd;have hw3:upd (upd H1 wl (.lst (wi.map V.str))) d (.dK (kd (ms++[here]))) wl=some (.lst (wi.map V.str)):=by rw[ad hwld,aa]
    obtain⟨l,hg,hl⟩:=(hL.mono s3).get hk;have hws:=mh (ms:=ms) hf.nd hk hin;have hgl:∀y∈getL f here,y∈f.map (·.1)/\Gram.Reach (getL f) x y:=fun y hy=>by
     refine⟨?_,.step hre hy⟩;obtain⟨ys,e1,e2⟩:=cm hk;unfold getL at hy;rw[e1] at hy;exact hf.cl _ e2 y hy
    refine⟨_,rfl,.inl ⟨rfl,_,SqL.of hw3⟩,_,rfl,_,rfl,a,_,rfl,hg,wl,l,_,_,rfl,rfl,hw3,hl,?_,?_⟩
    ·rw[ab3,ab3];have:=hf.sz;simp only[List.length_concat] at hm;exact cS (by omega)
    ·refine⟨ms++[here],wi++getL f here,_,rfl,s3.bG hwd,?_,?_,fE nd hin,fun z hz=>?_,fun z hz=>?_,?_,fun z hz y hy=>?_,?_⟩
     ·rw[ad (acQ hwld),aa]
     ·unfold ao;rw[aa,ab9]
     ·rcases ab0.mp hz with q|q
      ·exact so z q
      ·rw[abl.mp q];exact⟨hk,hre⟩
     ·rcases ab0.mp hz with q|q
      ·exact sw z (by simp[q])
      ·exact hgl z q
     ·rcases st with z|z
      ·exact .inl (aaV _ z)
      ·rcases gb.mp z with q|q
       ·exact .inr (aaV _ q)
       ·exact .inl (aaG _ q)
     ·rcases ab0.mp hz with q|q
      ·rcases cl z q y hy with r|r
       ·exact .inl (aaV _ r)
       ·rcases gb.mp r with r|r
        ·exact .inr (aaV _ r)
        ·exact .inl (aaG _ r)
      ·rw[abl.mp q] at hy;exact .inr (aaG _ hy)
     ·simp only[abi,List.length_concat];omega
end
end Nw
namespace Nw
open PySem L2
open SL (aj srt)
abbrev KA:=List (Str×Addr)
def kvsOf(ka:KA):List (Key×V):=ka.map fun e=>((Sum.inr e.1:Key),V.ref e.2)
structure Ka(H:Hp)(d:Addr)(ka:KA):Prop where
 ndk:(ka.map (·.1)).Nodup
 nda:(ka.map (·.2)).Nodup
 ne:∀e∈ka,e.2≠d
 fr:∀e∈ka,H e.2=none
 frd:H d=none
structure bv(H:Hp)(d:Addr)(ka:KA)(v:Str->List Str):Prop where
 dk:H d=some (.dK (kvsOf ka))
 at_:∀e∈ka,H e.2=some (.lst ((v e.1).map V.str))
def iq:∀{ka:KA},(ka.map (·.1)).Nodup->∀(x:Str),(¬x∈ka.map (·.1)/\aD (kvsOf ka) (Sum.inr x:Key)=none)\/∃a,(x,a)∈ka/\aD (kvsOf ka) (Sum.inr x:Key)=some (.ref a)
 |[],_,x=>.inl ⟨fun h=>(by cases h),rfl⟩
 |(n,a)::r,nd,x=>by
  rw[acr,ab6] at nd;show _\/∃a',(x,a')∈(n,a)::r/\aD (((Sum.inr n:Key),V.ref a)::kvsOf r) (Sum.inr x)=some (.ref a')
  by_cases q:n=x
  ·subst q;exact .inr ⟨a,abe ..,bB rfl⟩
  ·have e:aD (((Sum.inr n:Key),V.ref a)::kvsOf r) (Sum.inr x:Key)=aD (kvsOf r) (Sum.inr x:Key):=bi fun z=>q (acG z)
   rcases iq nd.2 x with ⟨h1,h2⟩|⟨a',h1,h2⟩
   ·left
    refine⟨fun z=>?_,by show aD (((Sum.inr n:Key),V.ref a)::kvsOf r) (Sum.inr x)=none;rw[e];exact h2⟩;rcases acq.mp z with z|z
    ·exact q z.symm
    ·exact h1 z
   ·right
    exact⟨a',aaU _ h1,by rw[e];exact h2⟩
def bv.get{H H0:Hp}{d:Addr}{ka:KA}{v:Str->List Str}(h:bv H d ka v)(g:Ka H0 d ka){x:Str}(hx:x∈ka.map (·.1)):∃a,(x,a)∈ka/\bu H d (.str x) (some (.ref a))/\H a=some (.lst ((v x).map V.str)):=by
 rcases iq g.ndk x with ⟨z,_⟩|⟨a,h1,h2⟩
 ·exact absurd hx z
 ·exact⟨a,h1,.inl ⟨_,Sum.inr x,.inl h.dk,rfl,h2.symm⟩,h.at_ _ h1⟩
def bv.has{H H0:Hp}{d:Addr}{ka:KA}{v:Str->List Str}(h:bv H d ka v)(g:Ka H0 d ka)(x:Str):∃o,bu H d (.str x) o/\o.isSome=decide (x∈ka.map (·.1)):=by
 refine⟨_,bu.k (k:=Sum.inr x) h.dk,?_⟩;rcases iq g.ndk x with ⟨z,h2⟩|⟨a,h1,h2⟩
 ·rw[h2,abX z];rfl
 ·rw[h2,aci (acB.mpr ⟨_,h1,rfl⟩)];rfl
def bv.keep{H H':Hp}{d:Addr}{ka:KA}{v:Str->List Str}(h:bv H d ka v)(k:ab H H'):bv H' d ka v:=⟨k _ _ h.dk,fun e he=>k _ _ (h.at_ e he)⟩
def bv.congr{H:Hp}{d:Addr}{ka:KA}{v v':Str->List Str}(h:bv H d ka v)(e:∀x∈ka.map (·.1),v x=v' x):bv H d ka v':=
 ⟨h.dk,fun y hy=>by rw[←e y.1 (acB.mpr ⟨y,hy,rfl⟩)];exact h.at_ y hy⟩
def pd:∀{ka:KA},(ka.map (·.2)).Nodup->∀{x y:Str} {a:Addr},(x,a)∈ka->(y,a)∈ka->x=y
 |[],_,_,_,_,h,_=>by cases h
 |(n,b)::r,nd,x,y,a,h1,h2=>by
  rw[acr,ab6] at nd;rcases acq.mp h1 with e1|e1
  ·rcases acq.mp h2 with e2|e2
   ·cases e1;cases e2;rfl
   ·cases e1
    exact absurd (acB.mpr ⟨_,e2,rfl⟩) nd.1
  ·rcases acq.mp h2 with e2|e2
   ·cases e2
    exact absurd (acB.mpr ⟨_,e1,rfl⟩) nd.1
   ·exact pd nd.2 e1 e2
def bv.app{H H0:Hp}{d:Addr}{ka:KA}{v:Str->List Str}(h:bv H d ka v)(g:Ka H0 d ka){x:Str}{a:Addr}(ha:(x,a)∈ka)(more:List Str) :
  bv (upd H a (.lst ((v x++more).map V.str))) d ka (fun y=>if y=x then v x++more else v y):=by
 refine⟨by rw[ad (acQ (g.ne _ ha))];exact h.dk,fun e he=>?_⟩;obtain⟨y,b⟩:=e
 by_cases q:b=a
 ·subst q;have:y=x:=pd g.nda he ha;subst this;rw[aa,acR rfl]
 ·rw[ad q];have:y≠x:=fun z=>by
   subst z;apply q;have key:∀{ka:KA},(ka.map (·.1)).Nodup->∀{y:Str} {a b:Addr},(y,a)∈ka->(y,b)∈ka->b=a:=by
    intro ka
    induction ka with
    |nil=>intro _ y a b h;cases h
    |cons p r ih=>
     intro nd y a b h1 h2;rw[acr,ab6] at nd;rcases acq.mp h1 with e1|e1
     ·rcases acq.mp h2 with e2|e2
      ·rw[←e1] at e2;exact(Prod.mk.inj e2).2
      ·exact absurd (acB.mpr ⟨_,e2,by rw[←e1]⟩) nd.1
     ·rcases acq.mp h2 with e2|e2
      ·exact absurd (acB.mpr ⟨_,e1,by rw[←e2]⟩) nd.1
      ·exact ih nd.2 e1 e2
   exact key g.ndk ha he
  show H b=some (.lst ((if y=x then v x++more else v y).map V.str));rw[acS this];exact h.at_ _ he
def bv.new{H H0:Hp}{d p:Addr}{ka:KA}{v:Str->List Str}{x:Str}(h:bv H d ka v)(g:Ka H0 d ka)(hx:¬x∈ka.map (·.1))(hp:H p=none)(hv:v x=[]) :
  bv (upd (upd H p (.lst [])) d (.dK (putK (kvsOf ka) (Sum.inr x:Key) (.ref p)))) d (ka++[(x,p)]) v:=by
 have hpd:p≠d:=fun z=>by rw[z,h.dk] at hp;cases hp
 refine⟨?_,fun e he=>?_⟩
 ·rw[aa]
  congr 2
  rw[gw]
  ·unfold kvsOf;rw[ab9];rfl
  ·rcases iq g.ndk x with ⟨_,h2⟩|⟨a,h1,_⟩
   ·exact h2
   ·exact absurd (acB.mpr ⟨_,h1,rfl⟩) hx
 ·rcases ab0.mp he with q|q
  ·have:e.2≠p:=fun z=>by rw[←z,h.at_ e q] at hp;cases hp
   rw[ad (g.ne e q),ad this];exact h.at_ e q
  ·rw[abl.mp q];show upd (upd H p (.lst [])) d _ p=_;rw[ad hpd,aa];show _=some (HO.lst ((v x).map V.str));rw[hv];rfl
def Ka.new{H0 H:Hp}{d p:Addr}{ka:KA}{x:Str}(g:Ka H0 d ka)(hx:¬x∈ka.map (·.1))(hp0:H0 p=none)(hpd:p≠d)(hpa:¬p∈ka.map (·.2)):Ka H0 d (ka++[(x,p)]) where
 ndk:=by rw[ab9];exact fE g.ndk hx
 nda:=by rw[ab9];exact fE g.nda hpa
 ne:=fun e he=>by
  rcases ab0.mp he with q|q
  ·exact g.ne e q
  ·rw[abl.mp q];exact hpd
 fr:=fun e he=>by
  rcases ab0.mp he with q|q
  ·exact g.fr e q
  ·rw[abl.mp q];exact hp0
 frd:=g.frd
def tabOf(ka:KA)(v:Str->List Str):Tab:=ka.map fun e=>(e.1,v e.1)
def bn(ka:KA)(v:Str->List Str):(tabOf ka v).map (·.1)=ka.map (·.1):=by unfold tabOf;rw[acD];rfl
def bv.nX{H:Hp}{d:Addr}{ka:KA}{v:Str->List Str}(h:bv H d ka v):dW H d (tabOf ka v):=by
 refine⟨kvsOf ka,.inl h.dk,?_⟩;have:∀(l:KA),(∀e∈l,H e.2=some (.lst ((v e.1).map V.str)))->Paired (ga H) (kvsOf l) (tabOf l v):=by
  intro l
  induction l with
  |nil=>intro _;exact .nil
  |cons e r ih=>intro q;exact .cons ⟨rfl,e.2,rfl,q e (abe ..)⟩ (ih fun z hz=>q z (aaU _ hz))
 exact this ka h.at_
def dX(v:Str->List Str)(x:Str):∀(ka:KA),getL (tabOf ka v) x=if x∈ka.map (·.1) then v x else []
 |[]=>rfl
 |(n,a)::r=>by
  have ih:=dX v x r;unfold getL tabOf at ih ⊢;rw[acr,abT,acr];cases e:x == n with
  |true=>
   have e:=eq_of_beq e;subst e;simp
  |false=>
   have:x≠n:=fun z=>by rw[z] at e;simp at e
   dsimp only;rw[ih]
   by_cases q:x∈r.map (·.1)
   ·rw[acR q,acR (aaU _ q)]
   ·rw[acS q,acS fun z=>(acq.mp z).elim this q]
def jq{ka:KA}{v:Str->List Str}{b:Nat}(h:∀e∈ka,(v e.1).length<=b):((tabOf ka v).map fun e=>e.2.length).sum<=b*ka.length:=by
 induction ka with
 |nil=>simp[tabOf]
 |cons e r ih=>
  have h1:=h e (abe ..);have h2:=ih fun z hz=>h z (aaU _ hz)
  unfold tabOf at h2 ⊢;rw[acr,acr,acu,abI];show(v e.1).length+_<=_;rw[Nat.mul_succ];omega
end Nw
namespace Nw
open PySem L2
open SL (aj srt)
def a8(R:List Row):List Str:=srt (aj (R.map (·.1)))
def aN{R:List Row}{x:Str}:x∈a8 R↔x∈R.map (·.1):=by unfold a8;rw[SL.cg,SL.bE]
def eZ(R:List Row):(a8 R).Nodup:=SL.gR (SL.bZ _)
def fL(R:List Row):(a8 R).length<=R.length:=by
 unfold a8;rw[SL.dQ];have:=SL.gQ (R.map (·.1));rw[ab3] at this;exact this
def ir{H:Hp}{d:Addr}{ka:KA}{v:Str->List Str}(h:bv H d ka v){p:Addr}(hp:H p=none):¬p∈ka.map (·.2):=fun z=>by
 obtain⟨e,he,rfl⟩:=acB.mp z;rw[h.at_ e he] at hp;cases hp
def pe{ka:KA}{ss:List Str}{i:Nat}{x:Str}(hk:ka.map (·.1)=ss.take i)(nd:ss.Nodup)(hx:ss[i]? =some x):¬x∈ka.map (·.1):=by
 rw[hk];intro z;obtain⟨j,hj⟩:=aaN.mp z;rw[List.getElem?_take] at hj;split at hj
 ·rename_i hlt;have:=iG nd hj hx;omega
 ·cases hj
def bH{ss:List Str}{i:Nat}{x:V}(hx:(ss.map V.str)[i]? =some x):∃y,ss[i]? =some y/\x=.str y:=by
 rw[abt] at hx;cases e:ss[i]? with
 |none=>rw[e] at hx;cases hx
 |some sg=>rw[e] at hx;exact⟨sg,rfl,(abY hx).symm⟩
abbrev pf:Stmt:=top 28
def mj:aE ["rows","lists","sort"] ["rows"] (am pf):=acW
def ml:Sp:=fun vs H Q _=>∃(a:Addr) (R:List Row),vs=[.ref a]/\aQ H a R/\Small R/\∀d ka H',ab H H'->Ka H d ka->ka.map (·.1)=a8 R->bv H' d ka (fun _=>[])->Q (.ref d) H'
def rl(R:List Row)(x:Str):List Str:=R.flatMap fun p=>if p.1=x then p.2.filter (fun s=>decide (s∈R.map (·.1))) else []
def lw{R:List Row}{x y:Str}:y∈rl R x↔∃r,(x,r)∈R/\y∈r/\y∈R.map (·.1):=by
 unfold rl;rw[abU];constructor
 ·rintro⟨⟨l,r⟩,hm,h⟩;split at h
  ·rename_i e;have e:l=x:=e;subst e;obtain⟨h1,h2⟩:=abZ.mp h;exact⟨r,hm,h1,abx h2⟩
  ·cases h
 ·rintro⟨r,hm,h1,h2⟩;refine⟨(x,r),hm,?_⟩;rw[acR rfl];exact abZ.mpr ⟨h1,aci h2⟩
def gc{R:List Row}{x:Str}{g:List Str->List Str}(hg:∀r,(g r).length<=r.length)(hw:∀p∈R,p.2.length<=20):(R.flatMap fun p=>if p.1=x then g p.2 else []).length<=20*R.length:=by
 induction R with
 |nil=>simp
 |cons p r ih=>
  have h1:=ih fun q hq=>hw q (aaU _ hq)
  have h2:=hw p (abe ..);have h3:=hg p.2;rw[abF,abi,abI];split
  ·omega
  ·rw[ab8];omega
abbrev ph:Stmt:=top 11
def iu:aE ["rows","links","sort","left","right"] ["rows"] (am ph):=acW
def qK:Sp:=fun vs H Q _=>∃(a:Addr) (p:Row) (R:List Row),vs=[.ref a]/\aQ H a (p::R)/\Small (p::R)/\∀q ms H',ab H H'->H q=none->ms.Nodup->(∀z,z∈ms↔Gram.Reach (rl (p::R)) p.1 z)->ao H' q (srt ms)->Q (.ref q) H'
section
variable {P:Program}{w:World}{K:acX}{mg:Str->Option Value}{base:Heap}
def wa{f:Addr}{fd:FuncData}(F:Fun K "lists_by_sort" "lists_by_sort" pf f fd)(T:Txt mg)(D1:Def P w K mg base "sorts_of" 1 ["rows"] fT):aM P w K mg base CX0 2 f fd ["rows"] ml:=by
 refine F.ok mj (fun vs H Q E h=>?_) (fun cdv A outer s H vs Q E hr h=>?_)
 ·obtain⟨a,R,rfl,_⟩:=h;rfl
 ·obtain⟨a,R,rfl,hR,hsm,k⟩:=h;have hu:=bO hr;refine⟨_,af (ak (i:=1) mj.nd rfl (Or.inl rfl) eO)
   (af (bf ace rfl (aS (aA D1 hr (by rfl) (ah (pv 0) ac))) (ap (i:=2) mj.nd rfl (Or.inl rfl))
    (ag (dN hu (pv 1) (pv 2) (bg ac) rfl)))
   (ag (aO (pv 1)))),?_⟩
  intro d hd;have hl14:=fL R;have hR14:=hsm.len;refine⟨_,rfl,a,R,rfl,hR.mono (ab.upd hd),hsm,fun q H1 s1 n1 hS=>?_⟩;have hS:H1 q=some (.lst ((a8 R).map V.str)):=hS;have s01:ab H H1:=(ab.upd hd).trans s1;have hqd:q≠d:=fun z=>by rw[z,aa] at n1;cases n1
  refine⟨q,rfl,⟨_,SqL.of hS⟩,bq (K:=K) (a:=q) (xs:=(a8 R).map V.str)
   (fun i σ H2=>∃ka o,σ=[some (.ref a),some (.ref d),o]/\ab H H2/\H2 q=some (.lst ((a8 R).map V.str))/\Ka H d ka/\ka.map (·.1)=(a8 R).take i/\bv H2 d ka (fun _=>[]))
   ⟨[],none,rfl,s01,hS,⟨acj,acj,fun e he=>(by cases he),fun e he=>(by cases he),hd⟩,rfl,⟨s1 _ _ aa,fun e he=>(by cases he)⟩⟩ ?_ ?_ ?_⟩
  ·rintro i σ H2 _ ⟨_,_,_,_,h,_⟩;exact SqL.of h
  ·rintro i x σ H2 hx ⟨ka,o,rfl,s2,hq2,gk,hk,tv⟩;obtain⟨y,hy,rfl⟩:=bH hx;have hny:=pe hk (eZ R) hy;refine⟨by decide,fun p hp=>?_⟩;have hpd:p≠d:=fun z=>by rw[z,tv.dk] at hp;cases hp
   have hpq:p≠q:=fun z=>by rw[z,hq2] at hp;cases hp
   have hp0:H p=none:=s2.free hp;have hkl:ka.length<=14:=by
    have:=acN List.length hk;rw[ab3,abK] at this;omega
   refine⟨_,rfl,_,rfl,d,_,rfl,d8.k (k:=Sum.inr y) (kvs:=kvsOf ka) (by rw[ad (acQ hpd)];exact tv.dk) (by unfold kvsOf;rw[ab3];exact az (by omega)),?_⟩;refine⟨ka++[(y,p)],_,rfl,(s2.trans (ab.upd hp)).bG hd,?_,gk.new (H:=H2) hny hp0 hpd (ir tv hp),?_,tv.new gk hny hp rfl⟩
   ·rw[ad hqd,ad (acQ hpq)];exact hq2
   ·rw[ab9,hk,acm,hy];rfl
  ·rintro σ H2 ⟨ka,o,rfl,s2,hq2,gk,hk,tv⟩;rw[ab3,abS] at hk;exact⟨_,rfl,k d ka H2 s2 gk hk tv⟩
def wb{f:Addr}{fd:FuncData}(F:Fun K "sorts_in_trees_of_lines" "sorts_in_trees_of_lines" ph f fd)(T:Txt mg)(D1:Def P w K mg base "sorts_of" 1 ["rows"] fT)(D2:Def P w K mg base "sorts_reached" 1 ["links","sort"] mi)
  (D3:Def P w K mg base "first_sort" 1 ["rows"] jM):aM P w K mg base CX0 2 f fd ["rows"] qK:=by
 refine F.ok iu (fun vs H Q E h=>?_) (fun cdv A outer s H vs Q E hr h=>?_)
 ·obtain⟨a,p,R,rfl,_⟩:=h;rfl
 ·obtain⟨a,p0,R0,rfl,hR,hsm,k⟩:=h;have hu:=bO hr;refine⟨_,af (ak (i:=1) iu.nd rfl (Or.inr rfl) eO)
   (af (bf ace rfl (aS (aA D1 hr (by rfl) (ah (pv 0) ac))) (ap (i:=2) iu.nd rfl (Or.inl rfl))
    (ag (dN hu (pv 1) (pv 2) (bg ac) rfl)))
   (af (bf ace rfl (aS (pv 0)) (cx (n:=2) rfl (aH (ap (i:=3) iu.nd rfl (Or.inl rfl)) (aH (ap (i:=4) iu.nd rfl (Or.inl rfl)) bT)))
    (ag (bc (bW aay aaq aar dE (bK hu (pv 1) (pv 3) (fun _ _=>rfl)) (ah
     (cV (aU.free (N:=["sign","links"]) (sel:=[none,some 1]) ["links"] (by rfl) (by rfl) (by rfl) ?c1 ?c2 ?c3 ?c4 (by rfl) ?c5) rfl (aS (pv 4)) (fun s₃ H₃ fp=>ap (i:=0) (show(["sign","links"]:List Str).Nodup by decide) rfl (Or.inl rfl))
      (fun s₃ H₃ fp=>qG (ej (ik (X:=b9 _ _ _ _ _ _ _) hu (pv 0) (pv 1)))) (fun s₃ H₃ fp=>pv 0)) ac)))))
   (ag (aO (aA D2 hr (by rfl) (ah (pv 1) (ah (aA D3 hr (by rfl) (ah (pv 0) ac)) ac))))))),?_⟩
  case c1=>decide
  case c2=>decide
  case c3=>
   intro x hx;rcases acq.mp hx with rfl|hx
   ·exact⟨rfl,rfl,_,rfl,rfl⟩
   ·cases hx
  case c4=>
   intro y hy;rcases acq.mp hy with rfl|hy
   ·exact abe ..
   ·cases hy
  case c5=>
   intro j i h;rcases j with _|_|j
   ·cases h
   ·cases h;exact⟨"links",abe ..,rfl,rfl⟩
   ·cases h
  generalize hRR:p0::R0=R at hR hsm k;intro d hd;have hl14:=fL R;have hR14:=hsm.len;refine⟨_,rfl,a,R,rfl,hR.mono (ab.upd hd),hsm,fun q H1 s1 n1 hS=>?_⟩;have hS:H1 q=some (.lst ((a8 R).map V.str)):=hS;have s01:ab H H1:=(ab.upd hd).trans s1;have hqd:q≠d:=fun z=>by rw[z,aa] at n1;cases n1
  refine⟨q,rfl,⟨_,SqL.of hS⟩,bq (K:=K) (a:=q) (xs:=(a8 R).map V.str)
   (fun i σ H2=>∃ka o,σ=[some (.ref a),some (.ref d),o,none,none]/\ab H H2/\H2 q=some (.lst ((a8 R).map V.str))/\Ka H d ka/\ka.map (·.1)=(a8 R).take i/\bv H2 d ka (fun _=>[]))
   ⟨[],none,rfl,s01,hS,⟨acj,acj,fun e he=>(by cases he),fun e he=>(by cases he),hd⟩,rfl,⟨s1 _ _ aa,fun e he=>(by cases he)⟩⟩ ?_ ?_ ?_⟩
  ·rintro i σ H2 _ ⟨_,_,_,_,h,_⟩;exact SqL.of h
  ·rintro i x σ H2 hx ⟨ka,o,rfl,s2,hq2,gk,hk,tv⟩;obtain⟨y,hy,rfl⟩:=bH hx;have hny:=pe hk (eZ R) hy;refine⟨by decide,fun p hp=>?_⟩;have hpd:p≠d:=fun z=>by rw[z,tv.dk] at hp;cases hp
   have hpq:p≠q:=fun z=>by rw[z,hq2] at hp;cases hp
   have hp0:H p=none:=s2.free hp;have hkl:ka.length<=14:=by
    have:=acN List.length hk;rw[ab3,abK] at this;omega
   refine⟨_,rfl,_,rfl,d,_,rfl,d8.k (k:=Sum.inr y) (kvs:=kvsOf ka) (by rw[ad (acQ hpd)];exact tv.dk) (by unfold kvsOf;rw[ab3];exact az (by omega)),?_⟩;refine⟨ka++[(y,p)],_,rfl,(s2.trans (ab.upd hp)).bG hd,?_,gk.new (H:=H2) hny hp0 hpd (ir tv hp),?_,tv.new gk hny hp rfl⟩
   ·rw[ad hqd,ad (acQ hpq)];exact hq2
   ·rw[ab9,hk,acm,hy];rfl
  ·rintro σ H2 ⟨ka,o,rfl,s2,hq2,gk,hk,tv⟩;rw[ab3,abS] at hk;have hkm:∀x,x∈ka.map (·.1)↔x∈R.map (·.1):=fun x=>by rw[hk,aN]
   obtain⟨vs,hv,hp⟩:=id hR;have hlen:vs.length=R.length:=aco hp;refine⟨_,rfl,a,rfl,⟨_,s2.seq (SqL.of hv)⟩,bq (K:=K) (a:=a) (xs:=vs)
    (fun i σ H3=>∃o1 o2 o3,σ=[some (.ref a),some (.ref d),o1,o2,o3]/\ab H H3/\bv H3 d ka (fun x=>(R.take i).flatMap fun p=>if p.1=x then p.2.filter (fun s=>decide (s∈R.map (·.1))) else []))
    ⟨_,_,_,rfl,s2,tv⟩ ?_ ?_ ?_⟩
   ·rintro i σ H3 _ ⟨_,_,_,_,s3,_⟩;exact s3.seq (SqL.of hv)
   ·rintro i x σ H3 hx ⟨o1,o2,o3,rfl,s3,tv3⟩;obtain⟨p,t,c,hpi,rfl,ht,hc⟩:=cL hp hx;have hpm:(p.1,p.2)∈R:=aaW hpi;have hpw:=hsm.wid p hpm;have hil:i<R.length:=(aaj.mp hpi).1;have hpk:p.1∈ka.map (·.1):=(hkm _).mpr (acB.mpr ⟨_,hpm,rfl⟩);obtain⟨al,hal,hg,hll⟩:=tv3.get gk hpk;refine⟨t,_,rfl,SqT.of (s3 _ _ ht),rfl,_,_,rfl,_,_,rfl,rfl,?_⟩;have hc3:H3 c=some (.lst (p.2.map V.str)):=s3 _ _ hc;refine⟨_,rfl,_,rfl,d,_,rfl,hg,.inl ⟨rfl,_,SqL.of hll⟩,_,rfl,c,rfl,⟨_,SqL.of hc3⟩,fun D hD=>se (K:=K) (xs:=p.2.map V.str)
     (fun i τ H4=>(∃o,τ=[o,some (.ref d)])/\H4=upd H3 D (.lst (((p.2.take i).filter (fun s=>decide (s∈R.map (·.1)))).map V.str))) ⟨⟨_,rfl⟩,rfl⟩ ?_ ?_ ?_⟩
    ·rintro i τ H4 ⟨_,rfl⟩;exact(ab.upd hD).seq (SqL.of hc3)
    ·rintro j x τ H4 hx ⟨⟨o,rfl⟩,rfl⟩;obtain⟨y,hy,rfl⟩:=bH hx;have sD:=ab.upd (o:=HO.lst (((p.2.take j).filter (fun s=>decide (s∈R.map (·.1)))).map V.str)) hD;obtain⟨o',g',ho'⟩:=(tv3.keep sD).has gk y;refine⟨_,rfl,_,rfl,d,o',rfl,g',_,rfl,?_⟩;rw[ho'];have hjl:j<p.2.length:=(aaj.mp hy).1;have hle:((p.2.take j).filter (fun s=>decide (s∈R.map (·.1)))).length<=p.2.length:=acy (aaS _ _) (by rw[abK];omega)
     by_cases hyk:y∈R.map (·.1)
     ·rw[aci ((hkm y).mpr hyk)];refine bC ⟨_,rfl,_,aa,by rw[ab3];exact az (by omega),⟨_,rfl⟩,?_⟩;rw[cu,acm,hy,abn,ab9];have:(some y).toList.filter (fun s=>decide (s∈R.map (·.1)))=[y]:=by
       show List.filter (fun s=>decide (s∈R.map (·.1))) [y]=[y];rw[abV,acR (aci hyk)];rfl
      rw[this];rfl
     ·rw[abX fun z=>hyk ((hkm y).mp z)];refine aT ⟨⟨_,rfl⟩,?_⟩;rw[acm,hy,abn];have:(some y).toList.filter (fun s=>decide (s∈R.map (·.1)))=[]:=by
       show List.filter (fun s=>decide (s∈R.map (·.1))) [y]=[];rw[abV,acS (by rw[abX hyk];decide)];rfl
      rw[this,ab5]
    ·rintro τ H4 ⟨_,rfl⟩;rw[ab3,abS];have sD:=ab.upd (o:=HO.lst ((p.2.filter (fun s=>decide (s∈R.map (·.1)))).map V.str)) hD;have hll4:=sD _ _ hll;have hfl:=aaS (fun s=>decide (s∈R.map (·.1))) p.2;refine⟨al,D,_,_,rfl,rfl,hll4,aa,?_,⟨_,_,_,rfl,(s3.trans sD).bG (gk.fr _ hal),?_⟩⟩
     ·rw[ab3,ab3];have:=gc (R:=R.take i) (x:=p.1) (g:=fun r=>r.filter (fun s=>decide (s∈R.map (·.1)))) (fun r=>aaS _ _) fun q hq=>hsm.wid q (aaY hq)
      rw[abK] at this;exact acz (az (by omega))
     ·have:=(tv3.keep sD).app gk hal (p.2.filter (fun s=>decide (s∈R.map (·.1))));rw[←ab9];refine this.congr fun y hy=>?_
      rw[acm,hpi,aa9]
      by_cases q:y=p.1
      ·subst q;rw[acR rfl];show _=_++((if p.1=p.1 then p.2.filter (fun s=>decide (s∈R.map (·.1))) else [])++[]);rw[acR rfl,ab5]
      ·rw[acS q];show _=_++((if p.1=y then p.2.filter (fun s=>decide (s∈R.map (·.1))) else [])++[]);rw[acS fun z=>q z.symm,ab5,ab5]
   ·rintro σ H3 ⟨o1,o2,o3,rfl,s3,tv3⟩;rw[hlen,abS] at tv3;have tv3:bv H3 d ka (rl R):=tv3;have hg:∀x,getL (tabOf ka (rl R)) x=rl R x:=fun x=>by
     rw[dX]
     by_cases q:x∈ka.map (·.1)
     ·rw[acR q]
     ·rw[acS q]
      symm
      apply aab.mpr;intro y hy;obtain⟨r,hm,_⟩:=lw.mp hy;exact q ((hkm x).mpr (acB.mpr ⟨_,hm,rfl⟩))
    subst hRR;refine⟨_,rfl,_,rfl,a,p0,R0,rfl,hR.mono s3,?_⟩;refine⟨d,p0.1,tabOf ka (rl (p0::R0)),rfl,tv3.nX,⟨?_,?_,?_,?_⟩,?_,?_⟩
    ·rw[bn];exact gk.ndk
    ·intro e he y hy;rw[bn,hkm];unfold tabOf at he;obtain⟨z,hz,rfl⟩:=acB.mp he;obtain⟨r,_,_,h⟩:=lw.mp hy;exact h
    ·have:=acN List.length (bn ka (rl (p0::R0)));have h2:=acN List.length hk;rw[ab3,ab3] at this;rw[ab3] at h2;omega
    ·have:=jq (ka:=ka) (v:=rl (p0::R0)) (b:=280) fun e he=>by
      have:=gc (R:=p0::R0) (x:=e.1) (g:=fun r=>r.filter (fun s=>decide (s∈(p0::R0).map (·.1)))) (fun r=>aaS _ _) hsm.wid;unfold rl;omega
     have h2:=acN List.length hk;rw[ab3] at h2;have:280*ka.length<=280*14:=Nat.mul_le_mul_left _ (by omega);omega
    ·rw[bn,hkm];exact abe ..
    ·intro q5 ms H5 s5 n5 nd5 hm5 hS5;refine k q5 ms H5 (s3.trans s5) (s3.free n5) nd5 (fun z=>?_) hS5;rw[hm5 z];exact⟨fun h=>h.congr fun x y hy=>by rw[hg] at hy;exact hy,fun h=>h.congr fun x y hy=>by rw[hg];exact hy⟩
end
end Nw
namespace Nw
open PySem L2
open SL (aj srt)
def pi(R:List Row)(z:Str):Prop:=(∃p∈R,z∈p.2)/\¬z∈R.map (·.1)
def bP:List Row->Str
 |p::_=>p.1
 |[]=>Str.empty
structure Good(R:List Row):Prop where
 small:Small R
 made:∀x∈R.map (·.1),Gram.Made R (pi R) x
 reach:∀x∈R.map (·.1),Gram.Reach (rl R) (bP R) x
abbrev pj:Stmt:=top 12
def iw:aE ["rows","ended","sort","used"] ["rows"] (am pj):=acW
def qL:Sp:=fun vs H Q _=>∃(a:Addr) (R:List Row),vs=[.ref a]/\aQ H a R/\Good R/\∀H',ab H H'->Q .non H'
abbrev pk:Stmt:=top 26
def yw:aE ["rows"] ["rows"] (am pk):=acW
def jO:Sp:=fun vs H Q _=>∃(a:Addr) (R:List Row),vs=[.ref a]/\aQ H a R/\Good R/\∀q ms H',ab H H'->H q=none->ms.Nodup->(∀z,z∈ms↔Gram.Made R (fun _=>False) z)->ao H' q (srt ms)->Q (.ref q) H'
abbrev sv:Stmt:=top 29
def pw:aE ["signs","empties","leading","sign"] ["signs","empties"] (am sv):=acW
def px:Sp:=fun vs H Q _=>∃(a b:Addr) (r es:List Str),vs=[.ref a,.ref b]/\ao H a r/\ao H b es/\r.length<=900/\∀q H',ab H H'->H q=none->ao H' q (Gram.lead es r)->Q (.ref q) H'
def mW:∀{es r:List Str} {i:Nat} {x:Str},(∀s∈r.take i,s∈es)->r[i]? =some x->¬x∈es->Gram.lead es r=r.take (i+1)
 |es,[],i,x,_,h,_=>by simp at h
 |es,s::r,0,x,_,h,hx=>by
  simp at h;subst h;unfold Gram.lead;rw[acS hx];rfl
 |es,s::r,i+1,x,ha,h,hx=>by
  have hs:s∈es:=ha s (by simp);unfold Gram.lead;rw[acR hs,mW (i:=i) (fun y hy=>ha y (by rw[aba];exact aaU _ hy)) (by simpa using h) hx];rfl
def pz:∀{es r:List Str},(∀s∈r,s∈es)->Gram.lead es r=r
 |es,[],_=>rfl
 |es,s::r,h=>by
  unfold Gram.lead;rw[acR (h s (abe ..)),pz fun y hy=>h y (aaU _ hy)]
section
variable {P:Program}{w:World}{K:acX}{mg:Str->Option Value}{base:Heap}
def yx{f:Addr}{fd:FuncData}(F:Fun K "leading_signs" "leading_signs" sv f fd):aM P w K mg base CX0 1 f fd ["signs","empties"] px:=by
 refine F.ok pw (fun vs H Q E h=>?_) (fun cdv A outer s H vs Q E hr h=>?_)
 ·obtain⟨a,b,r,es,rfl,_⟩:=h;rfl
 ·obtain⟨a,b,r,es,rfl,hA,hB,hl,k⟩:=h;refine⟨_,af (ak (i:=2) pw.nd rfl (Or.inl rfl) (bg ac))
   (af (bf ace rfl (aS (pv 0)) (ap (i:=3) pw.nd rfl (Or.inl rfl))
    (af (bc (bW aay aas aat aY (pv 2) (ah (pv 3) ac)))
    (ag (bh (bA gv (pv 3) (pv 1) (by with_unfolding_all rfl)) (ag vH) bt))))
   (ag (aO (pv 2)))),?_⟩
  refine⟨by decide,fun q hq=>?_⟩;refine⟨_,rfl,a,rfl,⟨_,SqL.of (ab.upd hq _ _ hA)⟩,bq (K:=K) (a:=a) (xs:=r.map V.str)
   (fun i σ H1=>(∃o,σ=[some (.ref a),some (.ref b),some (.ref q),o])/\H1=upd H q (.lst ((r.take i).map V.str))/\∀s∈r.take i,s∈es) ⟨⟨_,rfl⟩,rfl,fun s hs=>(by cases hs)⟩ ?_ ?_ ?_⟩
  ·rintro i σ H1 _ ⟨_,rfl,_⟩;exact SqL.of (ab.upd hq _ _ hA)
  ·rintro i x σ H1 hx ⟨⟨o,rfl⟩,rfl,hall⟩;obtain⟨y,hy,rfl⟩:=bH hx;have hil:i<r.length:=(aaj.mp hy).1;refine⟨_,rfl,.inl ⟨rfl,_,SqL.of aa⟩,_,rfl,q,_,_,rfl,rfl,aa,by rw[ab3,abK];exact az (by omega),?_⟩;rw[cu];have et:(r.take i).map V.str++[V.str y]=(r.take (i+1)).map V.str:=by rw[acm,hy,ab9];rfl
   rw[et];refine⟨_,rfl,_,rfl,b,_,rfl,.inl (SqL.of (ab.upd hq _ _ hB)),rfl,dG es,_,rfl,?_⟩;show if (!inV (.str y) (es.map V.str))=true then _ else _
   rw[eP]
   by_cases hin:y∈es
   ·rw[aci hin];refine aT ⟨⟨_,rfl⟩,rfl,fun s hs=>?_⟩;rw[acm,hy] at hs;rcases ab0.mp hs with z|z
    ·exact hall s z
    ·have:s=y:=by simpa using z
     rw[this];exact hin
   ·rw[abX hin];refine bC ?_;refine⟨_,rfl,k q _ (ab.upd hq) hq ?_⟩;rw[mW hall hy hin];exact aa
  ·rintro σ H1 ⟨⟨o,rfl⟩,rfl,hall⟩;rw[ab3,abS] at hall;refine⟨_,rfl,k q _ (ab.upd hq) hq ?_⟩;rw[pz hall,ab3,abS];exact aa
def wc{f:Addr}{fd:FuncData}(F:Fun K "check_rows" "check_rows" pj f fd)(D1:Def P w K mg base "sorts_of" 1 ["rows"] fT)(D2:Def P w K mg base "words_of" 2 ["rows"] mV)
  (D3:Def P w K mg base "sorts_made_of" 1 ["rows","words"] o0)(D4:Def P w K mg base "sorts_in_trees_of_lines" 2 ["rows"] qK):aM P w K mg base CX0 3 f fd ["rows"] qL:=by
 refine F.ok iw (fun vs H Q E h=>?_) (fun cdv A outer s H vs Q E hr h=>?_)
 ·obtain⟨a,R,rfl,_⟩:=h;rfl
 ·obtain⟨a,R,rfl,hR,hg,k⟩:=h;have hr1:a9 1 _:=hr.mono (by decide);refine⟨_,af (ak (i:=1) iw.nd rfl (Or.inl rfl) (aA D3 hr1 (by rfl) (ah (pv 0) (ah (aA D2 hr (by rfl) (ah (pv 0) ac)) ac))))
   (af (bf ace rfl (aS (aA D1 hr1 (by rfl) (ah (pv 0) ac))) (ap (i:=2) iw.nd rfl (Or.inl rfl))
    (ag (bh (bA gv (pv 2) (pv 1) (by with_unfolding_all rfl)) bS bt)))
   (af (ak (i:=3) iw.nd rfl (Or.inl rfl) (aA D4 hr (by rfl) (ah (pv 0) ac)))
   (ag (bf ace rfl (aS (aA D1 hr1 (by rfl) (ah (pv 0) ac))) (ap (i:=2) iw.nd rfl (Or.inl rfl))
    (ag (bh (bA gv (pv 2) (pv 3) (by with_unfolding_all rfl)) bS bt)))))),?_⟩
  refine⟨_,rfl,_,rfl,a,R,rfl,hR,hg.small,fun q1 ws H1 s1 n1 hw hS1=>?_⟩;refine⟨a,q1,R,ws,rfl,hR.mono s1,hg.small,hS1,fun q2 ms H2 s2 n2 nd2 hm2 hS2=>?_⟩;have s12:=s1.trans s2;have hme:∀x∈R.map (·.1),x∈srt ms:=fun x hx=>by
   rw[SL.cg,hm2 x];exact(hg.made x hx).mono fun z hz=>(hw z).mpr hz
  refine⟨_,rfl,a,R,rfl,hR.mono s12,hg.small,fun q3 H3 s3 n3 hS3=>?_⟩;have s13:=s12.trans s3;have hS3:H3 q3=some (.lst ((a8 R).map V.str)):=hS3;refine⟨q3,rfl,⟨_,SqL.of hS3⟩,bq (K:=K) (a:=q3) (xs:=(a8 R).map V.str) (fun i σ H'=>(∃o,σ=[some (.ref a),some (.ref q2),o,none])/\H'=H3) ⟨⟨_,rfl⟩,rfl⟩ ?_ ?_ ?_⟩
  ·rintro i σ H' _ ⟨_,rfl⟩;exact SqL.of hS3
  ·rintro i x σ H' hx ⟨⟨o,rfl⟩,rfl⟩;obtain⟨y,hy,rfl⟩:=bH hx;refine⟨_,rfl,_,rfl,q2,_,rfl,.inl (SqL.of (s3 _ _ hS2)),rfl,dG _,_,rfl,?_⟩;show if (!inV (.str y) ((srt ms).map V.str))=true then _ else _
   rw[eP,aci (hme y (aN.mp (aaW hy)))];exact aT ⟨⟨_,rfl⟩,rfl⟩
  ·rintro σ H' ⟨⟨o,rfl⟩,rfl⟩;have hRne:∃p R',R=p::R':=by
    cases R with
    |nil=>exact absurd rfl hg.small.ne
    |cons p R'=>exact⟨p,R',rfl⟩
   obtain⟨p,R',rfl⟩:=hRne;refine⟨_,rfl,a,p,R',rfl,hR.mono s13,hg.small,fun q4 ms' H4 s4 n4 nd4 hm4 hS4=>?_⟩;have s14:=s13.trans s4;have hru:∀x∈(p::R').map (·.1),x∈srt ms':=fun x hx=>by
    rw[SL.cg,hm4 x];exact hg.reach x hx
   refine⟨_,rfl,a,p::R',rfl,hR.mono s14,hg.small,fun q5 H5 s5 n5 hS5=>?_⟩;have s15:=s14.trans s5;have hS5:H5 q5=some (.lst ((a8 (p::R')).map V.str)):=hS5;refine⟨q5,rfl,⟨_,SqL.of hS5⟩,bq (K:=K) (a:=q5) (xs:=(a8 (p::R')).map V.str) (fun i σ H'=>(∃o,σ=[some (.ref a),some (.ref q2),o,some (.ref q4)])/\H'=H5) ⟨⟨_,rfl⟩,rfl⟩ ?_ ?_ ?_⟩
   ·rintro i σ H' _ ⟨_,rfl⟩;exact SqL.of hS5
   ·rintro i x σ H' hx ⟨⟨o,rfl⟩,rfl⟩;obtain⟨y,hy,rfl⟩:=bH hx;refine⟨_,rfl,_,rfl,q4,_,rfl,.inl (SqL.of (s5 _ _ hS4)),rfl,dG _,_,rfl,?_⟩;show if (!inV (.str y) ((srt ms').map V.str))=true then _ else _
    rw[eP,aci (hru y (aN.mp (aaW hy)))];exact aT ⟨⟨_,rfl⟩,rfl⟩
   ·rintro σ H' ⟨⟨o,rfl⟩,rfl⟩;exact k _ s15
def we{f:Addr}{fd:FuncData}(F:Fun K "empty_sorts" "empty_sorts" pk f fd)(D1:Def P w K mg base "check_rows" 3 ["rows"] qL)(D3:Def P w K mg base "sorts_made_of" 1 ["rows","words"] o0):aM P w K mg base CX0 4 f fd ["rows"] jO:=by
 refine F.ok yw (fun vs H Q E h=>?_) (fun cdv A outer s H vs Q E hr h=>?_)
 ·obtain⟨a,R,rfl,_⟩:=h;rfl
 ·obtain⟨a,R,rfl,hR,hg,k⟩:=h;have hr1:a9 1 _:=hr.mono (by decide);refine⟨_,af (bc (aA D1 hr (by rfl) (ah (pv 0) ac)))
   (ag (aO (aA D3 hr1 (by rfl) (ah (pv 0) (ah (bg ac) ac))))),?_⟩
  refine⟨_,rfl,a,R,rfl,hR,hg,fun H1 s1=>?_⟩;refine⟨_,rfl,by decide,fun q1 hq1=>?_⟩;have s2:=s1.trans (ab.upd (o:=HO.lst []) hq1);refine⟨a,q1,R,[],rfl,hR.mono s2,hg.small,aa,fun q2 ms H2 s3 n2 nd hm hS=>?_⟩;refine k q2 ms H2 (s2.trans s3) (s2.free n2) nd (fun z=>?_) hS;rw[hm z];exact⟨fun h=>h.mono fun _ q=>(by cases q),fun h=>h.mono fun _ q=>q.elim⟩
end
end Nw
namespace Nw
open PySem L2
open SL (aj srt)
def Canon(P:Str->Prop)(L:List Str):Prop:=∃D,L=srt D/\D.Nodup/\∀z,z∈D↔P z
def cM(H:Hp)(a:Addr)(f:Tab):Prop:=∃kvs,H a=some (.dK kvs)/\Paired (ga H) kvs f
def cM.mono{H H':Hp}(e:ab H H'){a:Addr}{f:Tab}(h:cM H a f):cM H' a f:=by
 obtain⟨kvs,h1,h2⟩:=h;exact⟨kvs,e _ _ h1,Paired.bp h2 fun _ _ ⟨q1,l,q2,q3⟩=>⟨q1,l,q2,e _ _ q3⟩⟩
abbrev sx:Stmt:=top 32
def jr:aE ["own","links","words","sort","found","other"] ["own","links"] (am sx):=acW
def pA:Sp:=fun vs H Q _=>∃(a b:Addr) (f1 f2:Tab),vs=[.ref a,.ref b]/\a≠b/\cM H a f1/\cM H b f2/\Links f2/\f1.map (·.1)=f2.map (·.1)/\(f1.map fun e=>e.2.length).sum<=4000/\(∃U:List Str,U.length<=40/\∀e∈f1,∀z∈e.2,z∈U)/\
 ∀d res H',(∀x o,H x=some o->x≠a->H' x=some o)->H d=none->cM H' d res->res.map (·.1)=f1.map (·.1)->(∀e∈res,Canon (fun z=>∃y,Gram.Reach (getL f2) e.1 y/\z∈getL f1 y) e.2)->Q (.ref d) H'
def mX{f:Tab}:∀{ks:List Str},ks.Nodup->(∀k∈ks,k∈f.map (·.1))->(f.map (·.1)).Nodup->(ks.flatMap (getL f)).length<=(f.map fun e=>e.2.length).sum:=by
 intro ks nd hk ndf;have h:∀{ks ms:List Str},(∀k∈ks,k∈f.map (·.1))->(ms++ks).Nodup->(ks.flatMap (getL f)).length+wsum f (ms++ks)=wsum f ms:=by
  intro ks
  induction ks with
  |nil=>intro ms _ _;simp
  |cons x r ih=>
   intro ms hk nd;have hx:=hk x (abe ..);have nd':((ms++[x])++r).Nodup:=by rw[abw];exact nd
   have h1:=ih (ms:=ms++[x]) (fun y hy=>hk y (aaU _ hy)) nd';have hxm:¬x∈ms:=by
    rw[abA] at nd;intro z;exact nd.2.2 x z x (abe ..) rfl
   have h2:=mh ndf hx hxm;rw[abw] at h1;rw[abF,abi];show _+wsum f (ms++([x]++r))=_;omega
 have h1:=h (ks:=ks) (ms:=[]) hk (by simpa using nd);have h2:=mf f [];omega
section
variable {P:Program}{w:World}{K:acX}{mg:Str->Option Value}{base:Heap}
def yy{f:Addr}{fd:FuncData}(F:Fun K "gathered" "gathered" sx f fd)(T:Txt mg)(D2:Def P w K mg base "sorts_reached" 1 ["links","sort"] mi):aM P w K mg base CX0 2 f fd ["own","links"] pA:=by
 refine F.ok jr (fun vs H Q E h=>?_) (fun cdv A outer s H vs Q E hr h=>?_)
 ·obtain⟨a,b,f1,f2,rfl,_⟩:=h;rfl
 ·obtain⟨a,b,f1,f2,rfl,hab,hO,hL,hlk,hkeys,hsz,⟨U,hU,hUm⟩,k⟩:=h;have hu:=bO hr;refine⟨_,af (ak (i:=2) jr.nd rfl (Or.inl rfl) eO)
   (af (bf ace rfl (yp (pv 0)) (ap (i:=3) jr.nd rfl (Or.inl rfl))
    (af (ak (i:=4) jr.nd rfl (Or.inl rfl) (bg ac))
    (af (bf ace rfl (aS (aA D2 hr (by rfl) (ah (pv 1) (ah (pv 3) ac)))) (ap (i:=5) jr.nd rfl (Or.inl rfl))
     (ag (bc (bW aay aaq aar dE (pv 4) (ah (bK hu (pv 0) (pv 5) (fun _ _=>rfl)) ac)))))
    (ag (dN hu (pv 2) (pv 3) (aB (cR rfl) (by rfl) T.srt aap (ah (c6 (fF rfl) (by rfl) T.set (by decide +kernel) (ah (pv 4) ac)) ac)) rfl)))))
   (ag (aO (pv 2)))),?_⟩
  intro d hd;obtain⟨kvs,ha,hp⟩:=hO;obtain⟨kvs2,hb,hp2⟩:=hL;have had:a≠d:=fun z=>by rw[z,hd] at ha;cases ha
  have hl14:=hlk.len;have hkl:kvs.length=f1.length:=aco hp;have hfl:f1.length=f2.length:=by have:=acN List.length hkeys;rw[ab3,ab3] at this;exact this
  refine⟨_,rfl,a,kvs,rfl,by rw[ad had];exact ha,fun o=>?_⟩;generalize hH1:upd (upd H d (.dK [])) a (.frz o (.dK kvs))=H1;have x1:∀x ob,H x=some ob->x≠a->H1 x=some ob:=fun x ob e hx=>by
   rw[←hH1,ad hx,ad (av e hd)];exact e
  have ha1:H1 a=some (.frz o (.dK kvs)):=by rw[←hH1,aa]
  have hd1:H1 d=some (.dK []):=by rw[←hH1,ad (acQ had),aa]
  have fr1:∀x,H1 x=none->H x=none:=fun x e=>by
   rw[←hH1] at e
   by_cases q:x=a
   ·rw[q,aa] at e;cases e
   ·rw[ad q] at e;exact(ab.upd hd).free e
  have ent:∀{kv:Key×V} {e:Str×List Str},ga H kv e->ga H1 kv e:=fun{kv e} ⟨q1,l,q2,q3⟩=>⟨q1,l,q2,x1 _ _ q3 fun z=>by
   have q3:H l=some _:=q3;rw[z,ha] at q3;cases q3⟩
  have hO1:dW H1 a f1:=⟨kvs,.inr ⟨o,ha1⟩,Paired.bp hp fun _ _ q=>ent q⟩;have hL1:dW H1 b f2:=⟨kvs2,.inl (x1 _ _ hb (acQ hab)),Paired.bp hp2 fun _ _ q=>ent q⟩;refine v5 (o:=o) (d:=a) (kvs:=kvs) (fun i σ H2=>∃(ka:KA) (v:Str->List Str) (o1 o2 o3:Option V),σ=[some (.ref a),some (.ref b),some (.ref d),o1,o2,o3]/\(∀x ob,H1 x=some ob->x≠d->H2 x=some ob)/\
    Ka H d ka/\ka.map (·.1)=(f1.map (·.1)).take i/\bv H2 d ka v/\∀x∈ka.map (·.1),Canon (fun z=>∃y,Gram.Reach (getL f2) x y/\z∈getL f1 y) (v x))
   ⟨[],fun _=>[],none,none,none,rfl,fun _ _ e _=>e,⟨acj,acj,fun e he=>(by cases he),fun e he=>(by cases he),hd⟩,rfl,⟨hd1,fun e he=>(by cases he)⟩,fun x hx=>(by cases hx)⟩ ?_ ?_ ?_
  ·rintro i σ H2 ⟨ka,v,o1,o2,o3,rfl,x2,_⟩;exact x2 _ _ ha1 had
  ·rintro i kk vv σ H2 hi ⟨ka,v,o1,o2,o3,rfl,x2,gk,hk,tv,hc⟩;obtain⟨e,hei,he1,he2⟩:=ba hp i _ hi;have he1:kk=Sum.inr e.1:=he1;subst he1;have hkx:(f1.map (·.1))[i]? =some e.1:=by rw[abt,hei];rfl
   have ndk:(f1.map (·.1)).Nodup:=by rw[hkeys];exact hlk.nd
   have hnx:=pe hk ndk hkx;have hex:e.1∈f2.map (·.1):=by rw[←hkeys];exact aaW hkx
   have hS2:∀{H3:Hp},ab H2 H3->dW H3 a f1/\dW H3 b f2:=fun{H3} s3=>by
    have fz:∀x ob,H1 x=some ob->x≠d->H3 x=some ob:=fun x ob q hx=>s3 _ _ (x2 x ob q hx)
    have ne_d:∀{l:Addr} {ss:List Str},ao H1 l ss->l≠d:=fun{l ss} q z=>by
     have q:H1 l=some _:=q;rw[z,hd1] at q;cases q
    have en:∀{kv:Key×V} {e:Str×List Str},ga H1 kv e->ga H3 kv e:=fun{kv e} ⟨q1,l,q2,q3⟩=>⟨q1,l,q2,fz _ _ q3 (ne_d q3)⟩
    refine⟨⟨kvs,.inr ⟨o,fz _ _ ha1 had⟩,Paired.bp hp fun _ _ q=>en (ent q)⟩,⟨kvs2,.inl (fz _ _ (x1 _ _ hb (acQ hab)) fun z=>?_),Paired.bp hp2 fun _ _ q=>en (ent q)⟩⟩;rw[z,hd] at hb;cases hb
   refine⟨by decide,fun fl hfl0=>?_⟩;have hfd:fl≠d:=fun z=>by rw[z,tv.dk] at hfl0;cases hfl0
   have s2':=ab.upd (o:=HO.lst []) hfl0;refine⟨_,rfl,_,rfl,b,e.1,f2,rfl,(hS2 s2').2,hlk,hex,fun q3 ms H3 s3 n3 nd3 hm3 hS3=>?_⟩;have s23:ab H2 H3:=s2'.trans s3;have hS3:H3 q3=some (.lst ((srt ms).map V.str)):=hS3;have hf3:H3 fl=some (.lst []):=s3 _ _ aa;have hq3f:q3≠fl:=fun z=>by rw[z,hf3] at hS3;injection hS3 with q;injection q with q;rw[z,aa] at n3;cases n3
   have hmk:∀z∈srt ms,z∈f1.map (·.1):=fun z hz=>by
    rw[hkeys];have hr:=(hm3 z).mp (SL.cg.mp hz);refine Gram.gS (ks:=f2.map (·.1)) hex (fun x hx y hy=>?_) hr;obtain⟨ys,e1,e2⟩:=cm hx;unfold getL at hy;rw[e1] at hy;exact hlk.cl _ e2 y hy
   refine⟨q3,rfl,⟨_,SqL.of hS3⟩,bq (K:=K) (a:=q3) (xs:=(srt ms).map V.str)
    (fun j σ H4=>(∃o4,σ=[some (.ref a),some (.ref b),some (.ref d),some (.str e.1),some (.ref fl),o4])/\H4=upd H3 fl (.lst ((((srt ms).take j).flatMap (getL f1)).map V.str))) ⟨⟨_,rfl⟩,?_⟩ ?_ ?_ ?_⟩
   ·funext x
    unfold upd;split
    ·rename_i q;rw[q,hf3];rfl
    ·rfl
   ·rintro j σ H4 _ ⟨_,rfl⟩;exact SqL.of (by rw[ad hq3f];exact hS3)
   ·rintro j x σ H4 hx ⟨⟨o4,rfl⟩,rfl⟩;obtain⟨y,hy,rfl⟩:=bH hx;have hyk:=hmk y (aaW hy);have s4:ab H2 (upd H3 fl (.lst ((((srt ms).take j).flatMap (getL f1)).map V.str))):=s23.bG hfl0;obtain⟨l,hg,hl⟩:=(hS2 s4).1.get hyk;refine⟨_,rfl,.inl ⟨rfl,_,SqL.of aa⟩,_,rfl,_,rfl,a,_,rfl,hg,fl,l,_,_,rfl,rfl,aa,hl,?_,⟨_,rfl⟩,?_⟩
    ·have h1:=mX (f:=f1) (ks:=(srt ms).take (j+1)) ((SL.gR nd3).sublist (List.take_sublist _ _)) (fun z hz=>hmk z (aaY hz)) ndk;rw[acm,hy,aa9,abi] at h1;have e2:((some y).toList.flatMap (getL f1)).length=(getL f1 y).length:=by simp
     rw[e2] at h1;rw[ab3,ab3];exact cS (by omega)
    ·rw[cu,acm,hy,aa9,ab9];simp
   ·rintro σ H4 ⟨⟨o4,rfl⟩,rfl⟩;rw[ab3,abS];generalize hfo:(srt ms).flatMap (getL f1)=fo;have hfo4:fo.length<=4000:=by
     have:=mX (f:=f1) (ks:=srt ms) (SL.gR nd3) hmk ndk;rw[hfo] at this;omega
    have hfm:∀z,z∈fo↔∃y,Gram.Reach (getL f2) e.1 y/\z∈getL f1 y:=fun z=>by
     rw[←hfo,abU];exact⟨fun⟨y,h1,h2⟩=>⟨y,(hm3 y).mp (SL.cg.mp h1),h2⟩,fun⟨y,h1,h2⟩=>⟨y,SL.cg.mpr ((hm3 y).mpr h1),h2⟩⟩
    have hfU:∀z∈aj fo,z∈U:=fun z hz=>by
     obtain⟨y,h1,h2⟩:=(hfm z).mp (SL.bE.mp hz);have hyk:=hmk y (SL.cg.mpr ((hm3 y).mpr h1));obtain⟨ys,e1,e2⟩:=cm hyk;unfold getL at h2;rw[e1] at h2;exact hUm _ e2 z h2
    have h40:(aj fo).length<=40:=acy (Gram.bU (SL.bZ fo) hfU) hU;have s4:ab H2 (upd H3 fl (.lst (fo.map V.str))):=s23.bG hfl0;refine⟨_,rfl,fl,fo,rfl,SqL.of aa,by unfold scanBound;omega,fun q5 hq5=>?_⟩;refine⟨q5,aj fo,rfl,.inr (.inl aa),by omega,fun q6 hq6=>?_⟩;have s6:ab H2 (upd (upd (upd H3 fl (.lst (fo.map V.str))) q5 (c9 w q5 (aj fo))) q6 (.lst ((srt (aj fo)).map V.str))):=(s4.trans (ab.upd hq5)).trans (ab.upd hq6);have n6:H2 q6=none:=(s4.trans (ab.upd hq5)).free hq6;have hq6d:q6≠d:=fun z=>by rw[z,tv.dk] at n6;cases n6
    have hq6a:¬q6∈ka.map (·.2):=ir tv n6;have hq6H:H q6=none:=fr1 _ (by
     cases q:H1 q6 with
     |none=>rfl
     |some ob=>rw[x2 _ _ q hq6d] at n6;cases n6)
    have hkal:ka.length<=14:=by
     have:=acN List.length hk;rw[ab3,abK,ab3] at this;omega
    have tv6:=tv.keep s6;refine⟨_,rfl,_,rfl,d,_,rfl,d8.k (k:=Sum.inr e.1) (kvs:=kvsOf ka) tv6.dk (by unfold kvsOf;rw[ab3];exact az (by omega)),?_⟩;refine⟨ka++[(e.1,q6)],fun y=>if y=e.1 then srt (aj fo) else v y,_,_,_,rfl,fun x ob q hx=>?_,gk.new (H:=H2) hnx hq6H hq6d hq6a,?_,⟨?_,fun z hz=>?_⟩,fun x hx=>?_⟩
    ·rw[ad hx];exact s6 _ _ (x2 x ob q hx)
    ·rw[ab9,hk,acm,hkx];rfl
    ·rw[aa]
     congr 2
     rw[gw]
     ·unfold kvsOf;rw[ab9];rfl
     ·rcases iq gk.ndk e.1 with ⟨_,h2⟩|⟨a',h1,_⟩
      ·exact h2
      ·exact absurd (acB.mpr ⟨_,h1,rfl⟩) hnx
    ·rcases ab0.mp hz with q|q
     ·have hne:z.1≠e.1:=fun y=>hnx (y▸acB.mpr ⟨z,q,rfl⟩)
      rw[ad (gk.ne z q)];exact(tv6.at_ z q).trans (by rw[acS hne])
     ·rw[abl.mp q];dsimp only;rw[ad hq6d,acR rfl];exact aa
    ·rw[ab9] at hx;rcases ab0.mp hx with q|q
     ·have hne:x≠e.1:=fun y=>hnx (y▸q)
      show Canon _ (if x=e.1 then _ else v x);rw[acS hne];exact hc x q
     ·have:x=e.1:=by simpa using q
      subst this;show Canon _ (if e.1=e.1 then _ else v e.1);rw[acR rfl];exact⟨aj fo,rfl,SL.bZ fo,fun z=>by rw[SL.bE];exact hfm z⟩
  ·rintro σ H2 ⟨ka,v,o1,o2,o3,rfl,x2,gk,hk,tv,hc⟩;rw[hkl,←ab3 (f:=(·.1)),abS] at hk;refine⟨_,rfl,k d (tabOf ka v) H2 (fun x ob e hx=>x2 _ _ (x1 x ob e hx) (av e hd)) hd ?_ ?_ fun e he=>?_⟩
   ·obtain⟨kv,h1,h2⟩:=tv.nX;refine⟨kvsOf ka,tv.dk,?_⟩;rcases h1 with h1|⟨_,h1⟩
    ·rw[tv.dk] at h1;cases h1
     exact h2
    ·rw[tv.dk] at h1;cases h1
   ·rw[bn,hk]
   ·unfold tabOf at he;obtain⟨z,hz,rfl⟩:=acB.mp he;exact hc z.1 (acB.mpr ⟨z,hz,rfl⟩)
end
end Nw
namespace Nw
open PySem L2
open SL (aj srt)
def dC(R:List Row)(x z:Str):Prop:=∃es,(∀y,y∈es↔Gram.Made R (fun _=>False) y)/\Gram.Beg R es x z
def uC{R:List Row}{es es':List Str}(h:∀x,x∈es↔x∈es'){x z:Str}(b:Gram.Beg R es x z):Gram.Beg R es' x z:=by
 induction b with
 |word hm h1 h2=>exact .word hm (by rw[←Gram.dS h];exact h1) h2
 |sort hm h1 h2 _ ih=>exact .sort hm (by rw[←Gram.dS h];exact h1) h2 ih
def uD{R:List Row}{es:List Str}(h:∀y,y∈es↔Gram.Made R (fun _=>False) y){x z:Str}:dC R x z↔Gram.Beg R es x z:=
 ⟨fun⟨es',h',b⟩=>uC (fun y=>(h' y).trans (h y).symm) b,fun b=>⟨es,h,b⟩⟩
def bv.lz{H:Hp}{d a:Addr}{o:HO}{ka:KA}{v:Str->List Str}(h:bv H d ka v)(h1:a≠d)(h2:¬a∈ka.map (·.2)):bv (upd H a o) d ka v:=
 ⟨by rw[ad (acQ h1)];exact h.dk,fun e he=>by
  have ne:e.2≠a:=fun z=>h2 (acB.mpr ⟨e,he,z⟩)
  rw[ad ne];exact h.at_ e he⟩
abbrev wf:Stmt:=top 27
def iT:aE ["rows","empties","own","links","left","right","sign"] ["rows"] (am wf):=acW
def nY:Sp:=fun vs H Q _=>∃(a:Addr) (R:List Row),vs=[.ref a]/\aQ H a R/\Good R/\∀d res H',ab H H'->H d=none->cM H' d res->res.map (·.1)=a8 R->(∀e∈res,Canon (dC R e.1) e.2)->Q (.ref d) H'
def gat(g:List Str->List Str)(R:List Row)(x:Str):List Str:=R.flatMap fun p=>if p.1=x then g p.2 else []
def pB(g:List Str->List Str){R:List Row}{i:Nat}{p:Row}(h:R[i]? =some p)(x:Str):gat g (R.take (i+1)) x=gat g (R.take i) x++(if p.1=x then g p.2 else []):=by
 unfold gat;rw[acm,h,aa9];show _++((if p.1=x then g p.2 else [])++[])=_;rw[ab5]
section
variable {P:Program}{w:World}{K:acX}{mg:Str->Option Value}{base:Heap}
def zF{f:Addr}{fd:FuncData}(F:Fun K "words_to_begin" "words_to_begin" wf f fd)(D1:Def P w K mg base "empty_sorts" 4 ["rows"] jO)(D2:Def P w K mg base "lists_by_sort" 2 ["rows"] ml)
  (D3:Def P w K mg base "leading_signs" 1 ["signs","empties"] px)(D4:Def P w K mg base "gathered" 2 ["own","links"] pA):aM P w K mg base CX0 5 f fd ["rows"] nY:=by
 refine F.ok iT (fun vs H Q E h=>?_) (fun cdv A outer s H vs Q E hr h=>?_)
 ·obtain⟨a,R,rfl,_⟩:=h;rfl
 ·obtain⟨a,R,rfl,hR,hg,k⟩:=h;have hu:=bO hr;have hr2:a9 2 _:=hr.mono (by decide);have hr1:a9 1 _:=hr.mono (by decide);refine⟨_,af (ak (i:=1) iT.nd rfl (Or.inl rfl) (aA D1 hr (by rfl) (ah (pv 0) ac)))
   (af (ak (i:=2) iT.nd rfl (Or.inl rfl) (aA D2 hr2 (by rfl) (ah (pv 0) ac)))
   (af (ak (i:=3) iT.nd rfl (Or.inl rfl) (aA D2 hr2 (by rfl) (ah (pv 0) ac)))
   (af (bf ace rfl (aS (pv 0)) (cx (n:=2) rfl (aH (ap (i:=4) iT.nd rfl (Or.inl rfl)) (aH (ap (i:=5) iT.nd rfl (Or.inl rfl)) bT)))
    (ag (bf ace rfl (aS (aA D3 hr1 (by rfl) (ah (pv 5) (ah (pv 1) ac)))) (ap (i:=6) iT.nd rfl (Or.inl rfl))
     (ag (bh (ej (ik hu (pv 6) (pv 3)))
      (ag (bc (bW aay aas aat aY (bK hu (pv 3) (pv 4) (fun _ _=>rfl)) (ah (pv 6) ac))))
      (ag (bc (bW aay aas aat aY (bK hu (pv 2) (pv 4) (fun _ _=>rfl)) (ah (pv 6) ac)))))))))
   (ag (aO (aA D4 hr2 (by rfl) (ah (pv 2) (ah (pv 3) ac)))))))),?_⟩
  obtain⟨vs,hv,hp⟩:=id hR;have hlen:vs.length=R.length:=aco hp;have hR14:=hg.small.len;refine⟨_,rfl,a,R,rfl,hR,hg,fun qe ms H1 s1 n1 nd1 hm1 hS1=>?_⟩;generalize hes:srt ms=es at hS1;have hem:∀y,y∈es↔Gram.Made R (fun _=>False) y:=fun y=>by rw[←hes,SL.cg];exact hm1 y
  refine⟨_,rfl,a,R,rfl,hR.mono s1,hg.small,fun d1 ka1 H2 s2 g1 hk1 tv1=>?_⟩;have s12:=s1.trans s2;refine⟨_,rfl,a,R,rfl,hR.mono s12,hg.small,fun d2 ka2 H3 s3 g2 hk2 tv2=>?_⟩;have s13:=s12.trans s3;have tv1':=tv1.keep s3;have hkm1:∀x,x∈ka1.map (·.1)↔x∈R.map (·.1):=fun x=>by rw[hk1,aN]
  have hkm2:∀x,x∈ka2.map (·.1)↔x∈R.map (·.1):=fun x=>by rw[hk2,aN]
  have frH1:∀{x:Addr},H1 x=none->H x=none:=fun{x} e=>s1.free e
  have ap2:∀e∈ka2,e.2≠d1/\¬e.2∈ka1.map (·.2):=fun e he=>by
   have:=g2.fr e he;exact⟨fun z=>(by rw[z,tv1.dk] at this;cases this),ir tv1 this⟩
  have ap1:∀e∈ka1,e.2≠d2/\¬e.2∈ka2.map (·.2):=fun e he=>by
   refine⟨fun z=>?_,fun z=>?_⟩
   ·have:=g2.frd;rw[←z,tv1.at_ e he] at this;cases this
   ·obtain⟨e',he',q⟩:=acB.mp z;have:=g2.fr e' he';rw[q,tv1.at_ e he] at this;cases this
  have hd12:d1≠d2:=fun z=>by
   have:=g2.frd;rw[←z,tv1.dk] at this;cases this
  have gH1:∀e∈ka1,H e.2=none:=fun e he=>frH1 (g1.fr e he)
  have gH2:∀e∈ka2,H e.2=none:=fun e he=>s12.free (g2.fr e he)
  refine⟨_,rfl,a,rfl,⟨_,s13.seq (SqL.of hv)⟩,bq (K:=K) (a:=a) (xs:=vs)
   (fun i σ H4=>(∃o1 o2 o3,σ=[some (.ref a),some (.ref qe),some (.ref d1),some (.ref d2),o1,o2,o3])/\ab H H4/\ao H4 qe es/\
    bv H4 d1 ka1 (gat (fun r=>(Gram.lead es r).filter (fun s=>¬s∈R.map (·.1))) (R.take i))/\bv H4 d2 ka2 (gat (fun r=>(Gram.lead es r).filter (fun s=>s∈R.map (·.1))) (R.take i)))
   ⟨⟨_,_,_,rfl⟩,s13,s3 _ _ (s2 _ _ hS1),tv1',tv2⟩ ?_ ?_ ?_⟩
  ·rintro i σ H4 _ ⟨_,s4,_⟩;exact s4.seq (SqL.of hv)
  ·rintro i x σ H4 hx ⟨⟨o1,o2,o3,rfl⟩,s4,hE4,t1,t2⟩;obtain⟨p,t,c,hpi,rfl,ht,hc⟩:=cL hp hx;have hpm:(p.1,p.2)∈R:=aaW hpi;have hpw:=hg.small.wid p hpm;have hil:i<R.length:=(aaj.mp hpi).1;have hpl:p.1∈R.map (·.1):=acB.mpr ⟨_,hpm,rfl⟩;refine⟨t,_,rfl,SqT.of (s4 _ _ ht),rfl,_,_,rfl,_,_,rfl,rfl,?_⟩;refine⟨_,rfl,_,rfl,c,qe,p.2,es,rfl,s4 _ _ hc,hE4,by omega,fun ql H5 s5 n5 hl5=>?_⟩;generalize hld:Gram.lead es p.2=ld at hl5;have hldl:ld.length<=20:=by rw[←hld];exact acy (Gram.gB es p.2) hpw
   have s45:=s4.trans s5;have nqe:ql≠qe:=fun z=>by
    have q:H4 qe=some _:=hE4;rw[←z,n5] at q;cases q
   refine⟨ql,rfl,⟨_,SqL.of hl5⟩,bq (K:=K) (a:=ql) (xs:=ld.map V.str)
    (fun j σ H6=>(∃o3,σ=[some (.ref a),some (.ref qe),some (.ref d1),some (.ref d2),some (.str p.1),some (.ref c),o3])/\ab H H6/\ao H6 qe es/\ao H6 ql ld/\
     bv H6 d1 ka1 (fun x=>gat (fun r=>(Gram.lead es r).filter (fun s=>¬s∈R.map (·.1))) (R.take i) x++(if p.1=x then (ld.take j).filter (fun s=>¬s∈R.map (·.1)) else []))/\
     bv H6 d2 ka2 (fun x=>gat (fun r=>(Gram.lead es r).filter (fun s=>s∈R.map (·.1))) (R.take i) x++(if p.1=x then (ld.take j).filter (fun s=>s∈R.map (·.1)) else [])))
    ⟨⟨_,rfl⟩,s45,s5 _ _ hE4,hl5,(t1.keep s5).congr fun x _=>by simp,(t2.keep s5).congr fun x _=>by simp⟩ ?_ ?_ ?_⟩
   ·rintro j σ H6 _ ⟨_,_,_,h,_⟩;exact SqL.of h
   ·rintro j x σ H6 hx ⟨⟨o3,rfl⟩,s6,hE6,hl6,u1,u2⟩;obtain⟨y,hy,rfl⟩:=bH hx;have hjl:j<ld.length:=(aaj.mp hy).1;obtain⟨o',g',ho'⟩:=u2.has g2 y;refine⟨_,rfl,_,rfl,d2,o',rfl,g',_,rfl,?_⟩;rw[ho'];have fitl:∀(g:Str->Bool),(gat (fun r=>(Gram.lead es r).filter g) (R.take i) p.1++(if p.1=p.1 then (ld.take j).filter g else [])).length<=900:=fun g=>by
     have h1:=gc (R:=R.take i) (x:=p.1) (g:=fun r=>(Gram.lead es r).filter g) (fun r=>acy (aaS _ _) (Gram.gB es r)) fun q hq=>hg.small.wid q (aaY hq)
     have h2:((ld.take j).filter g).length<=20:=acy (aaS _ _) (by rw[abK];omega);rw[acR rfl,abi];have h3:(gat (fun r=>(Gram.lead es r).filter g) (R.take i) p.1).length<=20*(R.take i).length:=h1;rw[abK] at h3;omega
    have grow:∀(g:Str->Bool),g y=true->∀x,(if x=p.1 then (gat (fun r=>(Gram.lead es r).filter g) (R.take i) p.1++(if p.1=p.1 then (ld.take j).filter g else []))++[y] else (gat (fun r=>(Gram.lead es r).filter g) (R.take i) x++(if p.1=x then (ld.take j).filter g else [])))=
      gat (fun r=>(Gram.lead es r).filter g) (R.take i) x++(if p.1=x then (ld.take (j+1)).filter g else []):=fun g hgy x=>by
     by_cases q:x=p.1
     ·subst q;rw[acR rfl,acR rfl,acR rfl,acm,hy,abn,abw]
      congr 2
      show [y]=List.filter g [y];rw[abV,acR hgy];rfl
     ·rw[acS q,acS fun z=>q z.symm,acS fun z=>q z.symm]
    have bX:∀(g:Str->Bool),g y=false->∀x,gat (fun r=>(Gram.lead es r).filter g) (R.take i) x++(if p.1=x then (ld.take j).filter g else [])=gat (fun r=>(Gram.lead es r).filter g) (R.take i) x++(if p.1=x then (ld.take (j+1)).filter g else []):=fun g hgy x=>by
     rw[acm,hy,abn];have:List.filter g (some y).toList=[]:=by
      show List.filter g [y]=[];rw[abV,acS (by rw[hgy];decide)];rfl
     rw[this,ab5]
    by_cases hys:y∈R.map (·.1)
    ·rw[aci ((hkm2 y).mpr hys)];refine bC ?_;obtain⟨al,hal,hgl,hll⟩:=u2.get g2 ((hkm2 p.1).mpr hpl);refine⟨_,rfl,_,rfl,d2,_,rfl,hgl,.inl ⟨rfl,_,SqL.of hll⟩,_,rfl,al,_,_,rfl,rfl,hll,by rw[ab3];exact az (acy (fitl _) (by decide)),?_⟩;have ae:∀(L:List Str),L.map V.str++[V.str y]=(L++[y]).map V.str:=fun L=>by rw[ab9];rfl
     rw[ae];have nal:=ap2 _ hal;refine⟨⟨_,rfl⟩,s6.bG (gH2 _ hal),?_,?_,(u1.lz nal.1 nal.2).congr fun x _=>bX _ (by simp[hys]) x,(u2.app g2 hal [y]).congr fun x _=>grow _ (by simp[hys]) x⟩
     ·have:qe≠al:=fun z=>by
       have q:=g2.fr _ hal;have q1:H2 qe=some _:=s2 _ _ hS1;rw[z] at q1;rw[q1] at q;cases q
      show upd H6 al _ qe=_;rw[ad this];exact hE6
     ·have:ql≠al:=fun z=>by
       have q:H4 al=some _:=t2.at_ _ hal;rw[←z,n5] at q;cases q
      show upd H6 al _ ql=_;rw[ad this];exact hl6
    ·rw[abX fun z=>hys ((hkm2 y).mp z)];refine aT ?_;obtain⟨al,hal,hgl,hll⟩:=u1.get g1 ((hkm1 p.1).mpr hpl);refine⟨_,rfl,_,rfl,d1,_,rfl,hgl,.inl ⟨rfl,_,SqL.of hll⟩,_,rfl,al,_,_,rfl,rfl,hll,by rw[ab3];exact az (acy (fitl _) (by decide)),?_⟩;have ae:∀(L:List Str),L.map V.str++[V.str y]=(L++[y]).map V.str:=fun L=>by rw[ab9];rfl
     rw[ae];have nal:=ap1 _ hal;refine⟨⟨_,rfl⟩,s6.bG (gH1 _ hal),?_,?_,(u1.app g1 hal [y]).congr fun x _=>grow _ (by simp[hys]) x,(u2.lz nal.1 nal.2).congr fun x _=>bX _ (by simp[hys]) x⟩
     ·have:qe≠al:=fun z=>by
       have q:=g1.fr _ hal;have q1:H1 qe=some _:=hS1;rw[z] at q1;rw[q1] at q;cases q
      show upd H6 al _ qe=_;rw[ad this];exact hE6
     ·have:ql≠al:=fun z=>by
       have q:H4 al=some _:=t1.at_ _ hal;rw[←z,n5] at q;cases q
      show upd H6 al _ ql=_;rw[ad this];exact hl6
   ·rintro σ H6 ⟨⟨o3,rfl⟩,s6,hE6,hl6,u1,u2⟩;rw[ab3,abS] at u1 u2;refine⟨⟨_,_,_,rfl⟩,s6,hE6,u1.congr fun x _=>?_,u2.congr fun x _=>?_⟩
    ·rw[pB _ hpi,hld]
    ·rw[pB _ hpi,hld]
  ·rintro σ H4 ⟨⟨o1,o2,o3,rfl⟩,s4,hE4,t1,t2⟩;rw[hlen,abS] at t1 t2;have e1:∀x,gat (fun r=>(Gram.lead es r).filter (fun s=>¬s∈R.map (·.1))) R x=Gram.own R es x:=fun x=>rfl
   have e2:∀x,gat (fun r=>(Gram.lead es r).filter (fun s=>s∈R.map (·.1))) R x=Gram.links R es x:=fun x=>rfl
   have gO:∀x,getL (tabOf ka1 (Gram.own R es)) x=Gram.own R es x:=fun x=>by
    rw[dX]
    by_cases q:x∈ka1.map (·.1)
    ·rw[acR q]
    ·rw[acS q]
     symm
     apply aab.mpr;intro y hy;obtain⟨r,hm,_⟩:=Gram.jL.mp hy;exact q ((hkm1 x).mpr (acB.mpr ⟨_,hm,rfl⟩))
   have gL:∀x,getL (tabOf ka2 (Gram.links R es)) x=Gram.links R es x:=fun x=>by
    rw[dX]
    by_cases q:x∈ka2.map (·.1)
    ·rw[acR q]
    ·rw[acS q]
     symm
     apply aab.mpr;intro y hy;obtain⟨r,hm,_⟩:=Gram.gT.mp hy;exact q ((hkm2 x).mpr (acB.mpr ⟨_,hm,rfl⟩))
   have hkl:∀{ka:KA},ka.map (·.1)=a8 R->ka.length<=14:=fun{ka} h=>by
    have:=acN List.length h;rw[ab3] at this;have:=fL R;omega
   have dR:∀{d:Addr} {ka:KA} {v:Str->List Str},bv H4 d ka v->cM H4 d (tabOf ka v):=fun{d ka v} tv=>by
    obtain⟨kv,h1,h2⟩:=tv.nX;refine⟨kvsOf ka,tv.dk,?_⟩;rcases h1 with h1|⟨_,h1⟩
    ·rw[tv.dk] at h1;cases h1
     exact h2
    ·rw[tv.dk] at h1;cases h1
   have szb:∀(g:Str->Bool) (x:Str),(gat (fun r=>(Gram.lead es r).filter g) R x).length<=280:=fun g x=>by
    have h1:=gc (R:=R) (x:=x) (g:=fun r=>(Gram.lead es r).filter g) (fun r=>acy (aaS _ _) (Gram.gB es r)) hg.small.wid;have h3:(gat (fun r=>(Gram.lead es r).filter g) R x).length<=20*R.length:=h1;omega
   obtain⟨U,hU,hUm⟩:=hg.small.few;refine⟨_,rfl,_,rfl,d1,d2,tabOf ka1 (Gram.own R es),tabOf ka2 (Gram.links R es),rfl,hd12,dR t1,dR t2,⟨?_,?_,?_,?_⟩,?_,?_,⟨U,hU,?_⟩,?_⟩
   ·rw[bn];exact g2.ndk
   ·intro e he y hy;rw[bn,hkm2];unfold tabOf at he;obtain⟨z,hz,rfl⟩:=acB.mp he;obtain⟨r,_,_,h⟩:=Gram.gT.mp hy;exact h
   ·have:=acN List.length (bn ka2 (Gram.links R es));rw[ab3,ab3] at this;have:=hkl hk2;omega
   ·have:=jq (ka:=ka2) (v:=Gram.links R es) (b:=280) fun e he=>szb _ _
    have h2:280*ka2.length<=280*14:=Nat.mul_le_mul_left _ (hkl hk2);omega
   ·rw[bn,bn,hk1,hk2]
   ·have:=jq (ka:=ka1) (v:=Gram.own R es) (b:=280) fun e he=>szb _ _
    have h2:280*ka1.length<=280*14:=Nat.mul_le_mul_left _ (hkl hk1);omega
   ·intro e he z hz;unfold tabOf at he;obtain⟨y,hy,rfl⟩:=acB.mp he;obtain⟨r,hm,h1,_⟩:=Gram.jL.mp hz;exact hUm _ hm z (Gram.dF _ _ _ h1)
   ·intro d res H5 x5 n5 hD hkr hcan;refine k d res H5 (fun b o e=>x5 b o (s4 _ _ e) (av e (frH1 g1.frd))) (s4.free n5) hD (by rw[hkr,bn,hk1]) fun e he=>?_
    obtain⟨D,h1,h2,h3⟩:=hcan e he;refine⟨D,h1,h2,fun z=>?_⟩;rw[h3 z,uD hem,←Gram.yq];constructor
    ·rintro⟨y,q1,q2⟩;refine⟨y,q1.congr fun x y hy=>?_,?_⟩
     ·rw[gL] at hy;exact hy
     ·rw[gO] at q2;exact q2
    ·rintro⟨y,q1,q2⟩;refine⟨y,q1.congr fun x y hy=>?_,?_⟩
     ·rw[gL];exact hy
     ·rw[gO];exact q2
end
end Nw
namespace Nw
open PySem L2
open SL (aj srt)
inductive D where
 |str(s:Str)
 |int(i:Int)
 |tup(ds:List D)
 |lst(ds:List D)
mutual
def D.sz:D->Nat
 |.str _=>1
 |.int _=>1
 |.tup ds=>1+D.szs ds
 |.lst ds=>1+D.szs ds
def D.szs:List D->Nat
 |[]=>0
 |d::r=>D.sz d+D.szs r
end
def D.mn:∀(a b:List D),D.szs (a++b)=D.szs a+D.szs b
 |[],b=>by simp[D.szs]
 |d::r,b=>by
  show D.sz d+D.szs (r++b)=D.sz d+D.szs r+D.szs b;rw[D.mn r b];omega
def D.gD(d:D):1<=d.sz:=by cases d <;> simp[D.sz] <;> omega
def D.mo:∀ds:List D,ds.length<=D.szs ds
 |[]=>acH _
 |d::r=>by
  have:=D.gD d;have:=D.mo r;show r.length+1<=D.sz d+D.szs r;omega
inductive Rep(H:Hp):V->D->Prop
 |str (s:Str):Rep H (.str s) (.str s)
 |int (i:Int):Rep H (.int i) (.int i)
 |tup {a:Addr} {xs:List V} {ds:List D}:H a=some (.tup xs)->xs.length=ds.length->(∀(i:Nat) (x:V) (d:D),xs[i]? =some x->ds[i]? =some d->Rep H x d)->Rep H (.ref a) (.tup ds)
 |lst {a:Addr} {xs:List V} {ds:List D}:H a=some (.lst xs)->xs.length=ds.length->(∀(i:Nat) (x:V) (d:D),xs[i]? =some x->ds[i]? =some d->Rep H x d)->Rep H (.ref a) (.lst ds)
def Rep.mono{H H':Hp}(e:ab H H'){v:V}{d:D}(h:Rep H v d):Rep H' v d:=by
 induction h with
 |str s=>exact .str s
 |int i=>exact .int i
 |tup h1 h2 _ ih=>exact .tup (e _ _ h1) h2 ih
 |lst h1 h2 _ ih=>exact .lst (e _ _ h1) h2 ih
abbrev sSo:Stmt:=top 51
def pC:aE ["_law_found","_law_due","_law_todo","_law_one","_law_other","_law_k"] ["_law_found","_law_due"] (am sSo):=acW
def zG:Sp:=fun vs H Q _=>∃(x y:V) (d:D),vs=[x,y]/\Rep H x d/\Rep H y d/\d.sz<=10000/\∀H',ab H H'->Q (.bl true) H'
def eB(H H1:Hp)(v:V)(d:D):Prop:=∃t x y,v=.ref t/\H1 t=some (.tup [x,y])/\Rep H x d/\Rep H y d
def mq:bootBuiltins "list"=some (.type "list"):=by decide +kernel
def iU:bootBuiltins "tuple"=some (.type "tuple"):=by decide +kernel
def pD:bootBuiltins "str"=some (.type "str"):=by decide +kernel
def qM:bootBuiltins "bool"=some (.type "bool"):=by decide +kernel
def zH:bootBuiltins "int"=some (.type "int"):=by decide +kernel
def acf:bootBuiltins "isinstance"=some (.builtin "isinstance"):=by decide +kernel
section
variable {K:acX}
def wg:PySem.W.kitAny K (.type "str") (["list","tuple"].map Value.type)=some false:=by rfl
def wj:PySem.W.kitAny K (.type "int") (["list","tuple"].map Value.type)=some false:=by rfl
def uF:PySem.W.kitAny K (.type "list") (["list","tuple"].map Value.type)=some true:=by rfl
def wk:PySem.W.kitAny K (.type "tuple") (["list","tuple"].map Value.type)=some true:=by rfl
def BH:PySem.W.kitOne K (.type "list") (.type "list")=some true:=by rfl
def k_lt:PySem.W.kitOne K (.type "list") (.type "tuple")=some false:=by rfl
def BI:PySem.W.kitOne K (.type "tuple") (.type "list")=some false:=by rfl
def zI:PySem.W.kitOne K (.type "tuple") (.type "tuple")=some true:=by rfl
def wm:PySem.W.kitOne K (.type "str") (.type "str")=some true:=by rfl
def k_is:PySem.W.kitOne K (.type "int") (.type "str")=some false:=by rfl
def zJ:PySem.W.kitOne K (.type "int") (.type "bool")=some false:=by rfl
def BJ:PySem.W.kitOne K (.type "int") (.type "int")=some true:=by rfl
end
section
variable {P:Program}{w:World}{K:acX}{mg:Str->Option Value}{base:Heap}
def AW{f:Addr}{fd:FuncData}(F:Fun K "_law_so" "_law_so" sSo f fd)(T:Txt mg):aM P w K mg base CX0 1 f fd ["_law_found","_law_due"] zG:=by
 refine F.ok pC (fun vs H Q E h=>?_) (fun cdv A outer s H vs Q E hr h=>?_)
 ·obtain⟨x,y,d,rfl,_⟩:=h;rfl
 ·obtain⟨x0,y0,d0,rfl,hx0,hy0,hsz,k⟩:=h;have hu:=bO hr;have hu0:(A.deeper (PyProof.Rows.envOfC "_law_so" (am sSo) s.heap.objs.size f cdv)).units<cLine:=Nat.lt_of_succ_lt hu;refine⟨_,af (ak (i:=2) pC.nd rfl (Or.inl rfl) (bg (ah (bj (ah (pv 0) (ah (pv 1) ac))) ac)))
   (af (dD ace (bA (kC hu0) (pv 2) (bg ac) (b8 _))
    (af (om (jf aay aaP aaQ jg (pv 2)) (cx (n:=2) rfl (aH (ap (i:=3) pC.nd rfl (Or.inl rfl)) (aH (ap (i:=4) pC.nd rfl (Or.inl rfl)) bT))))
    (ag (bh (bN (aB uv (by rfl) T.isi acf (ah (pv 4) (ah (bj (ah (cC (v:=.ty "list") (by rfl) T.lst mq rfl) (ah (cC (v:=.ty "tuple") (by rfl) T.tup iU rfl) ac))) ac))))
     (af (bh (bA lc (aB cE (by rfl) T.isi acf (ah (pv 3) (ah (cC (v:=.ty "list") (by rfl) T.lst mq rfl) ac))) (aB cE (by rfl) T.isi acf (ah (pv 4) (ah (cC (v:=.ty "list") (by rfl) T.lst mq rfl) ac))) (b8 _)) bS bt)
     (af (bh (bA lc (aB cE (by rfl) T.isi acf (ah (pv 3) (ah (cC (v:=.ty "tuple") (by rfl) T.tup iU rfl) ac))) (aB cE (by rfl) T.isi acf (ah (pv 4) (ah (cC (v:=.ty "tuple") (by rfl) T.tup iU rfl) ac))) (b8 _)) bS bt)
     (af (bh (bA lc (aB aZ (by rfl) T.len acn (ah (pv 3) ac)) (aB aZ (by rfl) T.len acn (ah (pv 4) ac)) (b8 _)) bS bt)
     (ag (bf ace rfl (gM (by rfl) T.rng (ah (aB aZ (by rfl) T.len acn (ah (pv 4) ac)) ac)) (ap (i:=5) pC.nd rfl (Or.inl rfl))
      (ag (bc (bW aay aas aat aY (pv 2) (ah (bj (ah (aG tZ (pv 3) (pv 5) (fun _ _=>rfl)) (ah (aG tZ (pv 4) (pv 5) (fun _ _=>rfl)) ac))) ac)))))))))
     (ag (bh (bN (aB cE (by rfl) T.isi acf (ah (pv 4) (ah (cC (v:=.ty "str") (by rfl) T.str pD rfl) ac))))
      (ag (bh (PW.pt (k9 (eY (bN (aB cE (by rfl) T.isi acf (ah (pv 3) (ah (cC (v:=.ty "str") (by rfl) T.str pD rfl) ac))))) (k8 (bA lc (pv 3) (pv 4) (b8 _))))) bS bt))
      (ag (bh (bN (aB cE (by rfl) T.isi acf (ah (pv 4) (ah (cC (v:=.ty "bool") (by rfl) T.bl qM rfl) ac)))) bS
       (ag (bh (bA zk (pv 4) i9 (b8 _)) bS
        (ag (bh (PW.pt (k9 (eY (bN (aB cE (by rfl) T.isi acf (ah (pv 3) (ah (cC (v:=.ty "int") (by rfl) T.int zH rfl) ac)))))
         (k9 (bN (aB cE (by rfl) T.isi acf (ah (pv 3) (ah (cC (v:=.ty "bool") (by rfl) T.bl qM rfl) ac)))) (k8 (bA lc (pv 3) (pv 4) (b8 _)))))) bS bt))))))))))))
   (ag (aO c8))),?_⟩
  refine⟨_,rfl,_,rfl,acU,fun t0 ht0=>⟨acT,fun tl htl=>?_⟩⟩;have s0:ab H (upd H t0 (.tup [x0,y0])):=ab.upd ht0;have htlH:H tl=none:=s0.free htl;refine⟨fun m σ H1=>∃ts vs o1 o2 o3,σ=[some x0,some y0,some (.ref tl),o1,o2,o3]/\ab H H1/\H1 tl=some (.lst vs)/\Paired (eB H H1) vs ts/\m=D.szs ts/\m<=10000,
   ⟨_,[d0],_,none,none,none,rfl,s0.trans (ab.upd htl),aa,.cons ⟨t0,x0,y0,rfl,by rw[ad (av (aa (H:=H)) htl)];exact aa,hx0,hy0⟩ .nil,rfl,by show d0.sz+0<=_;omega⟩,?_⟩
  rintro m σ H1 ⟨ts,vs,o1,o2,o3,rfl,s1,hl1,hp1,rfl,hm⟩;refine⟨_,rfl,by decide,fun qn hqn=>?_⟩;have hqt:tl≠qn:=av hl1 hqn;have sn:ab H1 (upd H1 qn (.lst [])):=ab.upd hqn;refine⟨tl,qn,vs,rfl,rfl,SqL.of (sn _ _ hl1),SqL.of aa,_,rfl,?_⟩;rcases aaR vs with rfl|⟨vi,vl,rfl⟩
  ·exact aT (k _ (s1.trans sn))
  ·rw[show(!(vi.concat vl).isEmpty)=true by simp];refine bC ?_;obtain⟨ti,dl,rfl,hpi,hpl⟩:∃ti dl,ts=ti++[dl]/\Paired (eB H H1) vi ti/\eB H H1 vl dl:=by
    have key:∀{vi:List V} {ts:List D},Paired (eB H H1) (vi++[vl]) ts->∃ti dl,ts=ti++[dl]/\Paired (eB H H1) vi ti/\eB H H1 vl dl:=by
     intro vi
     induction vi with
     |nil=>
      intro ts h;cases h with
      |cons h1 h2=>cases h2;exact⟨[],_,rfl,.nil,h1⟩
     |cons v r ih=>
      intro ts h;cases h with
      |cons h1 h2=>
       obtain⟨ti,dl,rfl,q1,q2⟩:=ih h2;exact⟨_::ti,dl,rfl,.cons h1 q1,q2⟩
    exact key (by rw[←aaO];exact hp1)
   obtain⟨t,x,y,rfl,ht,hx,hy⟩:=hpl;have hsz2:D.szs (ti++[dl])=D.szs ti+dl.sz:=by rw[D.mn];rfl
   have s1n:=s1.trans sn;generalize hH2:upd H1 qn (.lst [])=H2 at sn s1n;have hl2:H2 tl=some (.lst (vi++[V.ref t])):=by rw[←aaO];exact sn _ _ hl1
   refine⟨fun σ H4=>∃ts' vs' o1 o2 o3,σ=[some x0,some y0,some (.ref tl),o1,o2,o3]/\ab H H4/\H4 tl=some (.lst vs')/\Paired (eB H H4) vs' ts'/\D.szs ts'<D.szs (ti++[dl]),?_,?_⟩
   ·rintro σ' H4 ⟨ts',vs',o1,o2,o3,rfl,q1,q2,q3,q4⟩;exact⟨_,q4,ts',vs',o1,o2,o3,rfl,q1,q2,q3,rfl,by omega⟩
   refine⟨_,rfl,.inl ⟨rfl,_,SqL.of hl2⟩,tl,_,V.ref t,rfl,rfl,hl2,by simp,?_⟩;rw[aaZ];generalize hH3:upd H2 tl (.lst vi)=H3;have s3:ab H H3:=by rw[←hH3];exact s1n.bG htlH
   have cP:∀{H4:Hp} {b:Addr} {xs:List V},(∀z o,H2 z=some o->z≠tl->H4 z=some o)->H1 b=some (.tup xs)->H4 b=some (.tup xs):=fun{H4 b xs} h e=>by
    have e2:=sn _ _ e;refine h _ _ e2 fun z=>?_
    rw[z,hl2] at e2;cases e2
   have x3:∀z o,H2 z=some o->z≠tl->H3 z=some o:=fun z o e hz=>by rw[←hH3,ad hz];exact e
   have hl3:H3 tl=some (.lst vi):=by rw[←hH3,aa]
   have ht3:H3 t=some (.tup [x,y]):=cP x3 ht;have keepP:∀{H4:Hp},(∀z o,H2 z=some o->z≠tl->H4 z=some o)->Paired (eB H H4) vi ti:=fun{H4} h=>Paired.bp hpi fun _ _ ⟨t',x',y',q1,q2,q3,q4⟩=>⟨t',x',y',q1,cP h q2,q3,q4⟩
   have same3:∀{H4:Hp},ab H3 H4->∀z o,H2 z=some o->z≠tl->H4 z=some o:=fun{H4} h z o e hz=>h _ _ (x3 z o e hz)
   refine⟨t,_,rfl,SqT.of ht3,rfl,x,_,rfl,y,_,rfl,rfl,?_⟩;refine⟨_,rfl,acU,fun tp htp=>?_⟩;have s4:ab H3 (upd H3 tp (.tup [.ty "list",.ty "tuple"])):=ab.upd htp;generalize hH4:upd H3 tp (.tup [.ty "list",.ty "tuple"])=H4 at s4;have htp4:H4 tp=some (.tup (["list","tuple"].map V.ty)):=by rw[←hH4];exact aa
   have s34:=s3.trans s4;have hl4:H4 tl=some (.lst vi):=s4 _ _ hl3;have done:∀o3':Option V,∃ts' vs' o1 o2 o3,[some x0,some y0,some (V.ref tl),some x,some y,o3']=[some x0,some y0,some (.ref tl),o1,o2,o3]/\ab H H4/\H4 tl=some (.lst vs')/\Paired (eB H H4) vs' ts'/\D.szs ts'<D.szs (ti++[dl]):=fun _=>
    ⟨ti,vi,_,_,_,rfl,s34,hl4,keepP (same3 s4),by rw[hsz2];have:=D.gD dl;omega⟩
   have parts:∀(b:Bool) (ax ay:Addr) (xs ys:List V) (ds:List D),x=.ref ax->y=.ref ay->dl.sz=1+D.szs ds->xs.length=ds.length->ys.length=ds.length->
     (∀(i:Nat) (u:V) (d:D),xs[i]? =some u->ds[i]? =some d->Rep H u d)->(∀(i:Nat) (u:V) (d:D),ys[i]? =some u->ds[i]? =some d->Rep H u d)->
     (if b=true then H ax=some (.tup xs)/\H ay=some (.tup ys) else H ax=some (.lst xs)/\H ay=some (.lst ys))->∃tn:String,(∀H5,ab H H5->cj K H5 (.ref ax) (.type tn)/\cj K H5 (.ref ay) (.type tn))/\
      PySem.W.kitAny K (.type tn) (["list","tuple"].map Value.type)=some true/\PySem.W.kitOne K (.type tn) (.type "list")=some (!b)/\PySem.W.kitOne K (.type tn) (.type "tuple")=some b/\
      (∀H5,ab H H5->(SqL K H5 ax xs\/SqT K H5 ax xs)/\(SqL K H5 ay ys\/SqT K H5 ay ys))/\
      (∀(H5:Hp) (i:Nat) (u:V) (Q:VK),ab H H5->xs[i]? =some u->Q u H5->rIx K (.ref ax) (.int (0+(i:Int))) H5 Q)/\(∀(H5:Hp) (i:Nat) (u:V) (Q:VK),ab H H5->ys[i]? =some u->Q u H5->rIx K (.ref ay) (.int (0+(i:Int))) H5 Q):=by
    intro b ax ay xs ys ds _ _ _ _ _ _ _ hb;cases b with
    |true=>
     obtain⟨h1,h2⟩:=hb;refine⟨"tuple",fun H5 e=>⟨cj.tup (e _ _ h1),cj.tup (e _ _ h2)⟩,wk,BI,zI,fun H5 e=>⟨.inr (SqT.of (e _ _ h1)),.inr (SqT.of (e _ _ h2))⟩,fun H5 i u Q e hi q=>?_,fun H5 i u Q e hi q=>?_⟩
     ·exact .inr (.inl ⟨ax,xs,_,u,rfl,rfl,SqT.of (e _ _ h1),by rw[Int.zero_add];exact au hi,q⟩)
     ·exact .inr (.inl ⟨ay,ys,_,u,rfl,rfl,SqT.of (e _ _ h2),by rw[Int.zero_add];exact au hi,q⟩)
    |false=>
     obtain⟨h1,h2⟩:=hb;refine⟨"list",fun H5 e=>⟨cj.lst (e _ _ h1),cj.lst (e _ _ h2)⟩,uF,BH,k_lt,fun H5 e=>⟨.inl (SqL.of (e _ _ h1)),.inl (SqL.of (e _ _ h2))⟩,fun H5 i u Q e hi q=>?_,fun H5 i u Q e hi q=>?_⟩
     ·exact .inl ⟨ax,xs,_,u,rfl,rfl,SqL.of (e _ _ h1),by rw[Int.zero_add];exact au hi,q⟩
     ·exact .inl ⟨ay,ys,_,u,rfl,rfl,SqL.of (e _ _ h2),by rw[Int.zero_add];exact au hi,q⟩
   have kinds:(∃s,x=.str s/\y=.str s)\/(∃i,x=.int i/\y=.int i)\/∃(b:Bool) (ax ay:Addr) (xs ys:List V) (ds:List D),x=.ref ax/\y=.ref ay/\dl.sz=1+D.szs ds/\xs.length=ds.length/\ys.length=ds.length/\
     (∀(i:Nat) (u:V) (d:D),xs[i]? =some u->ds[i]? =some d->Rep H u d)/\(∀(i:Nat) (u:V) (d:D),ys[i]? =some u->ds[i]? =some d->Rep H u d)/\
     (if b=true then H ax=some (.tup xs)/\H ay=some (.tup ys) else H ax=some (.lst xs)/\H ay=some (.lst ys)):=by
    cases hy with
    |str sy=>cases hx with | str=>exact .inl ⟨_,rfl,rfl⟩
    |int i=>cases hx with | int=>exact .inr (.inl ⟨_,rfl,rfl⟩)
    |tup h1 h2 h3=>cases hx with | tup g1 g2 g3=>exact .inr (.inr ⟨true,_,_,_,_,_,rfl,rfl,rfl,g2,h2,g3,h3,g1,h1⟩)
    |lst h1 h2 h3=>cases hx with | lst g1 g2 g3=>exact .inr (.inr ⟨false,_,_,_,_,_,rfl,rfl,rfl,g2,h2,g3,h3,g1,h1⟩)
   rcases kinds with ⟨sy,rfl,rfl⟩|⟨iy,rfl,rfl⟩|⟨b,ax,ay,xs,ys,ds,ex,ey,esz,lx,ly,rx,ry,hb⟩
   ·refine⟨.str sy,tp,["list","tuple"],_,_,rfl,htp4,cj.str _,wg,_,rfl,aT ?_⟩;refine⟨_,rfl,_,_,_,_,rfl,cj.str _,wm,_,rfl,bC ?_⟩;refine⟨_,rfl,_,_,_,_,rfl,cj.str _,wm,_,rfl,aT ?_⟩;exact⟨_,rfl,_,rfl,rfl,_,rfl,ll rfl (done _)⟩
   ·refine⟨.int iy,tp,["list","tuple"],_,_,rfl,htp4,cj.int _,wj,_,rfl,aT ?_⟩;refine⟨_,rfl,_,_,_,_,rfl,cj.int _,k_is,_,rfl,aT ?_⟩;refine⟨_,rfl,_,_,_,_,rfl,cj.int _,zJ,_,rfl,aT ?_⟩;refine⟨_,rfl,rfl,_,rfl,aT ?_⟩;refine⟨_,rfl,_,_,_,_,rfl,cj.int _,BJ,_,rfl,aT ?_⟩;refine⟨_,rfl,_,_,_,_,rfl,cj.int _,zJ,_,rfl,aT ?_⟩;exact⟨_,rfl,_,rfl,rfl,_,rfl,ll rfl (done _)⟩
   ·obtain⟨tn,ty,ka,kl,kt,sq,ix1,ix2⟩:=parts b ax ay xs ys ds ex ey esz lx ly rx ry hb;subst ex;subst ey;obtain⟨ty1,ty2⟩:=ty H4 s34;obtain⟨sq1,sq2⟩:=sq H4 s34;have hlen:xs.length=ys.length:=lx.trans ly.symm;have hds:ds.length<=10000:=by
     have:=D.mo ds;omega
    refine⟨.ref ay,tp,["list","tuple"],_,_,rfl,htp4,ty2,ka,_,rfl,bC ?_⟩;refine⟨_,rfl,_,_,_,_,rfl,ty1,kl,_,rfl,_,_,_,_,rfl,ty2,kl,rfl,_,rfl,ll rfl ?_⟩;refine⟨_,rfl,_,_,_,_,rfl,ty1,kt,_,rfl,_,_,_,_,rfl,ty2,kt,rfl,_,rfl,ll rfl ?_⟩;refine⟨_,rfl,ax,_,rfl,sq1,_,rfl,ay,_,rfl,sq2,rfl,_,rfl,ll (by rw[hlen]) ?_⟩;refine⟨_,rfl,ay,_,rfl,sq2,_,rfl,by omega,by omega,jb (n:=(ys.length:Int).toNat) (fun i σ H5=>∃vs' o3,σ=[some x0,some y0,some (.ref tl),some (.ref ax),some (.ref ay),o3]/\ab H H5/\H5 tl=some (.lst vs')/\Paired (eB H H5) vs' (ti++ds.take i))
     ⟨vi,_,rfl,s34,hl4,by rw[List.take_zero,ab5];exact keepP (same3 s4)⟩ ?_ ?_⟩
    ·rintro i σ H5 hi ⟨vs',o3',rfl,s5,hl5,hp5⟩;have hi':i<ds.length:=by rw[abu] at hi;omega
     have hxi:xs[i]? =some xs[i]:=aao (by omega);have hyi:ys[i]? =some ys[i]:=aao (by omega);have hdi:ds[i]? =some ds[i]:=aao hi';have hvl:vs'.length<=20000:=by
      have h1:=aco hp5;rw[abi,abK] at h1;have h2:=D.mo ti;omega
     refine⟨_,rfl,.inl ⟨rfl,_,SqL.of hl5⟩,_,rfl,_,rfl,ix1 H5 i _ _ s5 hxi ?_⟩;refine⟨_,rfl,_,rfl,ix2 H5 i _ _ s5 hyi ⟨acU,fun p hp=>?_⟩⟩;have hpt:tl≠p:=av hl5 hp;have sp:ab H5 (upd H5 p (.tup [xs[i],ys[i]])):=ab.upd hp;refine⟨tl,vs',_,rfl,rfl,sp _ _ hl5,abk hvl (by rw[PySem.sizeLine_eq];decide),vs'++[.ref p],_,rfl,(s5.trans sp).bG htlH,aa,?_⟩;have kt5:∀{b:Addr} {us:List V},H5 b=some (.tup us)->upd (upd H5 p (.tup [xs[i],ys[i]])) tl (.lst (vs'++[.ref p])) b=some (.tup us):=fun{b us} e=>by
      have e2:=sp _ _ e;rw[ad fun z=>by rw[z,hl5] at e;cases e];exact e2
     rw[acm,hdi,←abw];refine b7 (Paired.bp hp5 fun _ _ ⟨t',x',y',q1,q2,q3,q4⟩=>⟨t',x',y',q1,kt5 q2,q3,q4⟩) ⟨p,_,_,rfl,?_,rx i _ _ hxi hdi,ry i _ _ hyi hdi⟩;rw[ad (acQ hpt),aa]
    ·rintro σ H5 ⟨vs',o3',rfl,s5,hl5,hp5⟩;rw[abu,ly,abS] at hp5;exact⟨_,vs',_,_,_,rfl,s5,hl5,hp5,by rw[hsz2,D.mn];omega⟩
end
end Nw
namespace Nw
open PySem L2
open SL (aj srt)
def cb(es:List Str)(f:Tab)(r:List Str):List Str:=(Gram.lead es r).flatMap fun s=>(f.lookup s).getD [s]
def uG{f:Tab}{x:Str}{ys:List Str}(h:f.lookup x=some ys):(x,ys)∈f:=lookup_mem h
def lA{es:List Str}{f:Tab}(hf:∀e∈f,e.2.length<=40):∀(l:List Str),(l.flatMap fun s=>(f.lookup s).getD [s]).length<=40*l.length
 |[]=>by simp
 |s::r=>by
  have ih:=lA (es:=es) hf r;rw[abF,abi,abI];have:((f.lookup s).getD [s]).length<=40:=by
   cases e:f.lookup s with
   |none=>simp
   |some ys=>exact hf _ (uG e)
  omega
section
variable {P:Program}{w:World}{K:acX}{mg:Str->Option Value}{base:Heap}
end
end Nw
namespace Nw
open PySem L2
open SL (aj srt)
def gE(v:Str->List Str)(x:Str)(ys:List Str):Str->List Str:=fun y=>if y=x then ys else v y
def fU{v:Str->List Str}{x:Str}{ys:List Str}:gE v x ys x=ys:=acR rfl
def iz{v:Str->List Str}{x y:Str}{ys:List Str}(h:y≠x):gE v x ys y=v y:=acS h
def cM.l{H:Hp}{d:Addr}{f:Tab}(h:cM H d f):dW H d f:=by
 obtain⟨kvs,h1,h2⟩:=h;exact⟨kvs,.inl h1,h2⟩
def tot(ks:List Str)(v:Str->List Str):Nat:=(ks.map fun x=>(v x).length).sum
def jP:∀{ks:List Str} {v:Str->List Str} {x:Str} {ys:List Str},ks.Nodup->x∈ks->tot ks (gE v x ys)+(v x).length=tot ks v+ys.length
 |[],_,_,_,_,h=>by cases h
 |k::r,v,x,ys,nd,h=>by
  rw[ab6] at nd;show(gE v x ys k).length+tot r (gE v x ys)+_=(v k).length+tot r v+_
  by_cases q:k=x
  ·subst q;have e:tot r (gE v k ys)=tot r v:=by
    unfold tot
    congr 1
    apply aa8;intro y hy;have:y≠k:=fun z=>nd.1 (z▸hy)
    rw[iz this]
   rw[fU,e];omega
  ·have hr:x∈r:=(acq.mp h).resolve_left fun z=>q z.symm
   have ih:=jP (v:=v) (ys:=ys) nd.2 hr;rw[iz q];omega
def zK{es:List Str}{f:Tab}{r:List Str}{z:Str}:z∈cb es f r↔∃s∈Gram.lead es r,z∈(f.lookup s).getD [s]:=abU
section
variable {P:Program}{w:World}{K:acX}{mg:Str->Option Value}{base:Heap}
end
end Nw
namespace L2
open PySem PySem.Spec PyProof.Rows
section
variable {X:Cx}{st:Stmt}{rest:List Stmt}{t u:TS}
def zL(t u:TS):TS:=fun D σ H=>∃N:St->Hp->Prop,t {D with nx:=N} σ H/\∀σ' H',N σ' H'->u D σ' H'
def fH(h1:PS X st t)(h2:PSs X rest u):PSs X (st::rest) (zL t u):=by
 intro pins s σ H D I h;obtain⟨N,h,k⟩:=h;refine wpAny_execs_cons (thn (h1 pins s σ H {D with nx:=N} I h) fun f s1 q=>?_);cases f with
 |next=>
  obtain⟨σ',H',I',q⟩:=q;exact h2 pins s1 σ' H' D I' (k _ _ q)
 |ret v=>exact q
 |brk=>exact q
 |cont=>exact q
end
def fV{e:Expr}{es:List Expr}{env:Env}(h:∀a p,e≠.Starred a p):starEach (e::es) env=(false,eval e env)::starEach es env:=by
 rw[starEach];intro a p z;exact h a p z
def ai{X:Cx}{e:Expr}{es:List Expr}{te:TE}{t:TA}(ha:PE X e te)(hr:PA X es t)(hs:∀a p,e≠Expr.Starred a p:=by intro _ _ h;cases h):PA X (e::es) (rS te t):=ah ha hr (fV hs)
def zM{X:Cx}{o e:Expr}{to:TE}{t:TA}{name:Str}{apos cpos:Pos}{T id:String}{r:V->List V->Hp->VK->Prop}(pa:PlainAttrs T)(slot:Slot T name id)(hty:typeOf (.builtin id)=pure (.type "method_descriptor"))(hm:MtR X id r)(ho:PE X o to)(ha:PA X [e] t)
  (hbase:attributeBase o name X.env (eval o X.env)=eval o X.env:=by rfl)(hline:(apos.endLine == cpos.line)=true:=by rfl)(hs:∀a p,e≠Expr.Starred a p:=by intro _ _ h;cases h):PE X (.Call (.Attribute o name apos) [e] [] cpos) (tBM X.K T r to t):=
 bW pa slot hty hm ho ha hbase (by rw[fV hs];rfl) hline (fV hs) rfl
def kh(a b:Str):(a++b).length=a.length+b.length:=by
 show(a.cps++b.cps).size=a.cps.size+b.cps.size;rw[Array.size_append]
end L2
namespace Nw
open PySem L2
open SL (aj srt)
abbrev wn:Stmt:=top 49
def lB:aE ["_law_cell","_law_left","_law_word"] ["_law_cell"] (am wn):=acW
def xG:Sp:=fun vs H Q _=>∃(c:Int),vs=[.int c]/\∀z:Str,z.length<=40->Q (.str z) H
def boot_abs:bootBuiltins "abs"=some (.builtin "abs"):=by decide +kernel
def gF{α:Type}{xs:List α}{n:Int}(hn:n=(xs.length:Int))(h0:0<n)(c:Int):∃(j:Nat) (v:α),xs[j]? =some v/\c % n=(j:Int)/\atI xs (c % n)=some v:=by
 have h1:=Int.emod_nonneg c (Int.ne_of_gt h0);have h2:=Int.emod_lt_of_pos c h0;obtain⟨j,hj⟩:=Int.eq_ofNat_of_zero_le h1;have hjl:j<xs.length:=by omega
 have hg:xs[j]? =some xs[j]:=aao hjl;exact⟨j,xs[j],hg,hj,by rw[hj];exact au hg⟩
def pow_step{l:Int}{e:Nat}(h0:0<=l)(h:l<26 ^ e)(h1:0<=l / 26 - 1):∃e',e=e'+1/\l / 26 - 1<26 ^ e':=by
 cases e with
 |zero=>simp at h;omega
 |succ e=>
  refine⟨e,rfl,?_⟩;rw[Int.pow_succ] at h;generalize (26:Int) ^ e=p at *;omega
section
variable {P:Program}{w:World}{K:acX}{mg:Str->Option Value}{base:Heap}
def zN{f:Addr}{fd:FuncData}(F:Fun K "_law_any_word" "_law_any_word" wn f fd)(T:Txt mg):aM P w K mg base CX0 1 f fd ["_law_cell"] xG:=by
 refine F.ok lB (fun vs H Q E h=>?_) (fun cdv A outer s H vs Q E hr h=>?_)
 ·obtain⟨c,rfl,_⟩:=h;rfl
 ·obtain⟨c,rfl,k⟩:=h;refine⟨_,af (ak (i:=1) lB.nd rfl (Or.inl rfl) (bV dm (aB vN (by rfl) T.abs boot_abs (ah (pv 0) ac)) (bV zi aq aq)))
   (af (ak (i:=2) lB.nd rfl (Or.inl rfl) cJ)
   (af (dD ace (bA AO (pv 1) aq (b8 _))
    (af (ak (i:=2) lB.nd rfl (Or.inl rfl) (bV iI (aG (r:=rU) ot cJ (bV dm (pv 1) aq) (fun _ _=>rfl)) (pv 2)))
    (ag (ak (i:=1) lB.nd rfl (Or.inl rfl) (bV oo (bV jJ (pv 1) aq) aq)))))
   (ag (aO (pv 2))))),?_⟩
  refine⟨_,rfl,c,rfl,_,_,rfl,rfl,⟨by decide,by decide,by decide⟩,_,_,rfl,rfl,(show(0:Int)<(10:Int) ^ (39:Int).toNat by decide +kernel),?_⟩;show vG _ _ _ _ _;dsimp only;generalize hn:(if c<0 then -c else c)=n;have b0:=Int.emod_nonneg n (show(10:Int) ^ (39:Int).toNat≠0 by decide +kernel);have b1:=Int.emod_lt_of_pos n (show(0:Int)<(10:Int) ^ (39:Int).toNat by decide +kernel);have b2:(10:Int) ^ (39:Int).toNat<26 ^ 28:=by decide +kernel
  generalize n % (10:Int) ^ (39:Int).toNat=l0 at b0 b1;refine⟨fun m σ H1=>∃(l:Int) (z:Str),σ=[some (.int c),some (.int l),some (.str z)]/\H1=H/\m=(l+1).toNat/\((l<0/\z.length<=30)\/(0<=l/\∃e,l<26 ^ e/\z.length+e<=29)),
   ⟨_,l0,"",rfl,rfl,rfl,.inr ⟨b0,28,Int.lt_trans b1 b2,by decide⟩⟩,?_⟩
  rintro m σ H1 ⟨l,z,rfl,rfl,rfl,alt⟩;refine⟨_,rfl,_,_,rfl,rfl,_,rfl,?_⟩
  by_cases hl:0<=l
  ·rw[aci hl];obtain⟨_,e,he,hz⟩:=alt.resolve_left fun q=>by omega
   refine bC ⟨fun σ H2=>∃(l':Int) (z':Str),σ=[some (.int c),some (.int l'),some (.str z')]/\H2=H1/\l'<l/\((l'<0/\z'.length<=30)\/(0<=l'/\∃e,l'<26 ^ e/\z'.length+e<=29)),?_,?_⟩
   ·rintro σ' H2 ⟨l',z',rfl,rfl,q1,q2⟩;exact⟨_,by omega,l',z',rfl,rfl,rfl,q2⟩
   ·obtain⟨j,ch,hj,_,hat⟩:=gF (xs:=(Str.ofString "abcdefghijklmnopqrstuvwxyz").cps.toList) (n:=26) (by decide +kernel) (by decide) l;have hlen:((⟨#[ch]⟩:Str)++z).length=1+z.length:=kh _ _;refine⟨_,rfl,_,_,rfl,rfl,(show(0:Int)<26 by decide),_,_,ch,rfl,rfl,by decide +kernel,hat,_,rfl,_,_,rfl,rfl,?_,?_⟩
    ·show 1+z.length<=_;exact cS (by omega)
    refine⟨_,rfl,_,_,rfl,rfl,⟨by decide,by decide⟩,_,_,rfl,rfl,l / 26 - 1,_,rfl,rfl,by omega,?_⟩;rcases Int.lt_or_le (l / 26 - 1) 0 with q|q
    ·exact .inl ⟨q,by rw[hlen];omega⟩
    ·obtain⟨e',rfl,h2⟩:=pow_step hl he q;exact .inr ⟨q,e',h2,by rw[hlen];omega⟩
  ·rw[abX hl];refine aT ⟨_,rfl,k z ?_⟩;rcases alt with q|q
   ·omega
   ·exact absurd q.1 hl
end
end Nw
namespace Nw
open PySem L2
open SL (aj srt)
abbrev js:Stmt:=top 46
def dY:aE ["_law_cells","_law_wild","_law_rows","_law_k","_law_word","_law_left","_law_rights","_law_row"] ["_law_cells","_law_wild"] (am js):=acW
def bF:List Row:=[("S",["s","A"]),("A",["t","B"]),("B",["u"])]
def cY:List Str:=["S","A","B"]
def cN:List Str:=["S","A","B","s","t","u","x"]
structure Drawn(k:Nat)(R:List Row):Prop where
 sh:∃more,R=bF++more/\more.length<=k
 lf:∀p∈R,p.1∈cY
 wd:∀p∈R,p.2.length<=14
 sg:∃U:List Str,U.length<=k/\∀p∈R,∀x∈p.2,x∈U++cN
 ne:∀p∈R,¬("":Str)∈p.2
def zO:Drawn 0 bF where
 sh:=⟨[],rfl,acH _⟩
 lf:=by decide +kernel
 wd:=by decide +kernel
 sg:=⟨[],acH _,by decide +kernel⟩
 ne:=by decide +kernel
def Drawn.bX{k:Nat}{R:List Row}(h:Drawn k R):Drawn (k+1) R where
 sh:=let ⟨m,e,q⟩:=h.sh;⟨m,e,by omega⟩
 lf:=h.lf
 wd:=h.wd
 sg:=let ⟨U,e,q⟩:=h.sg;⟨U,by omega,q⟩
 ne:=h.ne
def Drawn.add{k:Nat}{R:List Row}(h:Drawn k R){p:Row}{w:Str}(h1:p.1∈cY)(h2:p.2.length<=14)(h3:∀x∈p.2,x=w\/x∈cN)(h4:w≠""):Drawn (k+1) (R++[p]) where
 ne:=fun q hq=>by
  rcases ab0.mp hq with z|z
  ·exact h.ne q z
  ·rw[abl.mp z];intro y;rcases h3 _ y with e|e
   ·exact h4 e.symm
   ·revert e;decide +kernel
 sh:=let ⟨m,e,q⟩:=h.sh;⟨m++[p],by rw[e,abw],by rw[abi,aaH];omega⟩
 lf:=fun q hq=>by
  rcases ab0.mp hq with z|z
  ·exact h.lf q z
  ·rw[abl.mp z];exact h1
 wd:=fun q hq=>by
  rcases ab0.mp hq with z|z
  ·exact h.wd q z
  ·rw[abl.mp z];exact h2
 sg:=let ⟨U,e,q⟩:=h.sg;⟨w::U,by rw[abI];omega,fun p' hp x hx=>by
  rcases ab0.mp hp with z|z
  ·exact aaU _ (q p' z x hx)
  ·rw[abl.mp z] at hx;rcases h3 x hx with r|r
   ·rw[r];exact abe ..
   ·exact aaU _ (aaG _ r)⟩
def Drawn.toK{k m:Nat}{R:List Row}(dr:Drawn k R)(h:k<=m):Drawn m R:=
 ⟨let ⟨m,e,q⟩:=dr.sh;⟨m,e,by omega⟩,dr.lf,dr.wd,let ⟨U,e,q⟩:=dr.sg;⟨U,by omega,q⟩,dr.ne⟩
def sA(H0 H:Hp)(r:Addr)(v:V)(ss:List Str):Prop:=∃b,v=.ref b/\ao H b ss/\H0 b=none/\b≠r
def Chs(H0 H:Hp)(r:Addr)(sss:List (List Str)):Prop:=∃vs,H r=some (.lst vs)/\Paired (sA H0 H r) vs sss/\H0 r=none
def sA.mono{H0 H H':Hp}{r:Addr}{v:V}{ss:List Str}(s:ab H H')(h:sA H0 H r v ss):sA H0 H' r v ss:=by
 obtain⟨b,h1,h2,h3,h4⟩:=h;exact⟨b,h1,s _ _ h2,h3,h4⟩
def Chs.mono{H0 H H':Hp}{r:Addr}{sss:List (List Str)}(s:ab H H')(h:Chs H0 H r sss):Chs H0 H' r sss:=by
 obtain⟨vs,h1,h2,h3⟩:=h;exact⟨vs,s _ _ h1,Paired.bp h2 fun _ _ q=>q.mono s,h3⟩
def e7(H0 H:Hp)(v:V)(ss:List Str):Prop:=∃b,v=.ref b/\ao H b ss/\H0 b=none
def e7.mono{H0 H H':Hp}{v:V}{ss:List Str}(s:ab H H')(h:e7 H0 H v ss):e7 H0 H' v ss:=by
 obtain⟨b,h1,h2,h3⟩:=h;exact⟨b,h1,s _ _ h2,h3⟩
def e7.mk{H0 H:Hp}{p:Addr}(s:ab H0 H)(hp:H p=none)(ss:List Str){xs:List V}(e:xs=ss.map V.str):e7 H0 (upd H p (.lst xs)) (.ref p) ss:=
 ⟨p,rfl,by subst e;exact aa,s.free hp⟩
def Chs.mk{H0 H:Hp}{r:Addr}{vs:List V}{sss:List (List Str)}(s:ab H0 H)(h:Paired (e7 H0 H) vs sss)(hr:H r=none):Chs H0 (upd H r (.lst vs)) r sss:=by
 refine⟨vs,aa,Paired.bp h fun _ _ ⟨b,h1,h2,h3⟩=>?_,s.free hr⟩;have ne:b≠r:=av h2 hr;exact⟨b,h1,ab.upd hr _ _ h2,h3,ne⟩
def Chs.app{H0 H:Hp}{r p:Addr}{ss:List Str}{sss:List (List Str)}(h:Chs H0 H r sss)(hp:ao H p ss)(h0:H0 p=none)(hne:p≠r):∃vs,H r=some (.lst vs)/\vs.length=sss.length/\Chs H0 (upd H r (.lst (vs++[.ref p]))) r (sss++[ss]):=by
 obtain⟨vs,h1,h2,h3⟩:=h;refine⟨vs,h1,aco h2,vs++[.ref p],aa,?_,h3⟩;refine b7 (Paired.bp h2 fun _ _ ⟨b,q1,q2,q3,q4⟩=>⟨b,q1,?_,q3,q4⟩) ⟨p,rfl,?_,h0,hne⟩
 ·unfold ao;rw[ad hne];exact hp
 ·unfold ao;rw[ad q4];exact q2
def chs(w:Str)(n:Nat):List (List Str):=[[],[w],[w,"A"],[w,"B","x"],[w,"S","x"],[w,"A","x","B"],w::List.replicate n "x",["A",w],["B","A"],["t",w],["u"],["A","B",w]]
def zQ(w:Str){n:Nat}(hn:n<=13):∀ss∈chs w n,ss.length<=14/\∀x∈ss,x=w\/x∈cN:=by
 have m1:(("A":Str))∈cN:=by decide +kernel
 have m2:(("B":Str))∈cN:=by decide +kernel
 have m3:(("S":Str))∈cN:=by decide +kernel
 have m4:(("x":Str))∈cN:=by decide +kernel
 have m5:(("t":Str))∈cN:=by decide +kernel
 have m6:(("u":Str))∈cN:=by decide +kernel
 intro ss hs;unfold chs at hs;simp only[acq,abO,acP] at hs;rcases hs with rfl|rfl|rfl|rfl|rfl|rfl|rfl|rfl|rfl|rfl|rfl|rfl
 all_goals refine⟨?_,fun x hx=>?_⟩
 all_goals first
  |(cases hx;done)
  |(simp only[abI,ab8,List.length_replicate];omega)
  |(simp only[acq,abO,acP,abo] at hx;rcases hx with rfl|rfl|rfl|rfl <;> simp_all)
  |(simp only[acq,abO,acP,abo] at hx;rcases hx with rfl|rfl|rfl <;> simp_all)
  |(simp only[acq,abO,acP,abo] at hx;rcases hx with rfl|rfl <;> simp_all)
  |(simp only[acq,abO,acP,abo] at hx;rcases hx with rfl|⟨_,rfl⟩ <;> simp_all)
  |(simp only[acq,abO,acP,abo] at hx;simp_all)
def qN{H:Hp}{vs:List V}{R:List Row}(h:Paired (cU H) vs R)(hR:R≠[]){ar b:Addr}{ss:List Str}(ha:H ar=some (.lst vs))(hb:ao H b ss):b≠ar:=fun z=>by
 have hb:H b=some _:=hb;rw[z,ha] at hb;injection hb with hb;injection hb with hb;cases h with
 |nil=>exact hR rfl
 |cons h1 h2=>
  obtain⟨t,b,rfl,_⟩:=h1;cases ss with
  |nil=>cases hb
  |cons x r=>injection hb with q;cases q
end Nw
namespace L2
open PySem PySem.Spec PyProof.Rows
@[irreducible] def PEi (X:Cx) (e:Expr) (t:TE):Prop:=PE X e t
@[irreducible] def PTi (X:Cx) (e:Expr) (t:TT):Prop:=PT X e t
@[irreducible] def PAi (X:Cx) (es:List Expr) (t:TA):Prop:=PA X es t
@[irreducible] def PSi (X:Cx) (st:Stmt) (t:TS):Prop:=PS X st t
@[irreducible] def d9 (X:Cx) (st:List Stmt) (t:TS):Prop:=PSs X st t
@[irreducible] def hX (X:Cx) (pos:Pos) (ks:List (Option Expr)) (vs:List Expr) (trs:List (TE×TE)):Prop:=PPs X pos ks vs trs
section
variable {X:Cx}{e a b c:Expr}{es:List Expr}{te ta tb:TE}{tt:TT}{tA:TA}{st:Stmt}{sts:List Stmt}{t u:TS}{pos p:Pos}
def PEi.of(h:PE X e te):PEi X e te:=by unfold PEi;exact h
def PEi.to(h:PEi X e te):PE X e te:=by unfold PEi at h;exact h
def PTi.of(h:PT X e tt):PTi X e tt:=by unfold PTi;exact h
def PTi.to(h:PTi X e tt):PT X e tt:=by unfold PTi at h;exact h
def PAi.of(h:PA X es tA):PAi X es tA:=by unfold PAi;exact h
def PAi.to(h:PAi X es tA):PA X es tA:=by unfold PAi at h;exact h
def PSi.of(h:PS X st t):PSi X st t:=by unfold PSi;exact h
def PSi.to(h:PSi X st t):PS X st t:=by unfold PSi at h;exact h
def d9.of(h:PSs X sts t):d9 X sts t:=by unfold d9;exact h
def d9.to(h:d9 X sts t):PSs X sts t:=by unfold d9 at h;exact h
def hX.of{ks:List (Option Expr)}{vs:List Expr}{trs:List (TE×TE)}(h:PPs X pos ks vs trs):hX X pos ks vs trs:=by unfold hX;exact h
def hX.to{ks:List (Option Expr)}{vs:List Expr}{trs:List (TE×TE)}(h:hX X pos ks vs trs):PPs X pos ks vs trs:=by unfold hX at h;exact h
def eC{i j pos}:PEi X (.Constant (.int i) j pos) (tC (.int i)):=.of aq
def aF{x j pos}:PEi X (.Constant (.str x) j pos) (tC (.str x)):=.of cJ
def iv(i:Nat){x:Str}{pos:Pos}(hN:X.N[i]? =some x:=by rfl)(hv:Vis X.env.scope x:=by first | exact Or.inl rfl | exact Or.inr (Or.inl rfl) | exact Or.inr (Or.inr rfl))(hd:(x == ("__debug__":Str))=false:=by decide)
  (hcd:(x == ("__classdict__":Str))=false:=by decide):PEi X (.Name x pos) (vF i):=.of (tP hN hv hd hcd)
def aW:PAi X [] zo:=.of ac
def aI(ha:PEi X e te)(hr:PAi X es tA)(hs:∀a p,e≠Expr.Starred a p:=by intro _ _ h;cases h):PAi X (e::es) (rS te tA):=.of (ai ha.to hr.to hs)
def bI(h:PAi X es tA):PEi X (.List es pos) (zq tA):=.of (bg h.to)
def jt{x1}(h:PAi X es tA):PEi X (.Tuple es x1 pos) (zp tA):=.of (bj h.to)
def dc{op:Operator}{r:R2}(ho:OpR X (binaryOp op) r)(ha:PEi X a ta)(hb:PEi X b tb):PEi X (.BinOp a op b pos) (tOp r ta tb):=.of (bV ho ha.to hb.to)
def fM{r:R2}(hr:IxR X r)(ha:PEi X a ta)(hb:PEi X b tb)(hs:qD b):PEi X (.Subscript a b pos) (tOp r ta tb):=.of (aG hr ha.to hb.to hs)
def qO{op:CmpOp}{r:R2}(ho:OpR X (compareOp op) r)(ha:PEi X a ta)(hb:PEi X b tb)(hm:behindInMarks op b=false):PTi X (.Compare a [op] [b] pos) (xz (tOp r ta tb)):=.of (bA ho ha.to hb.to hm)
def zR(h:PEi X e te)(he:∀whole,isTrue e X.env whole=(do let v ←whole;standAt e.pos;holding [v] (truthy v)):=by intro _;rfl):PTi X e (tB te):=.of (bN h.to he)
def wo{x:Str}{id:String}{r:List V->Hp->VK->Prop}(hc:dB X (.builtin id) r)(hg:Gl X x)(hm:X.mg x=none)(hv:bootBuiltins x=some (.builtin id))(ha:PAi X [e] tA)(hn:x≠"__name__":=by decide)(hdb:(x == ("__debug__":Str))=false:=by decide)
  (hs:∀a p,e≠Expr.Starred a p:=by intro _ _ h;cases h):PEi X (.Call (.Name x p) [e] [] pos) (tCB r tA):=.of (aB hc hg hm hv ha.to hn hdb (fV hs) rfl)
def zS{x:Str}{k:Nat}{ps:List Str}{sp:Sp}(D:Nw.Def X.prog X.w X.K X.mg X.base x k ps sp)(hr:a9 k X.A)(hg:Gl X x)(ha:PAi X (e::es) tA)(hdb:(x == ("__debug__":Str))=false:=by decide)
  (hs:∀a p,e≠Expr.Starred a p:=by intro _ _ h;cases h)(hpl:(backTo pos (starEach es X.env)).any (·.1)=false:=by rfl):PEi X (.Call (.Name x p) (e::es) [] pos) (rT sp [] E0 tA):=.of (Nw.aA D hr hg ha.to hdb (fV hs) hpl)
def lC{o:Expr}{to:TE}{name:Str}{apos cpos:Pos}{T id:String}{r:V->List V->Hp->VK->Prop}(pa:PlainAttrs T)(slot:Slot T name id)(hty:typeOf (.builtin id)=pure (.type "method_descriptor"))(hm:MtR X id r)(ho:PEi X o to)(ha:PAi X [e] tA)
  (hbase:attributeBase o name X.env (eval o X.env)=eval o X.env:=by rfl)(hline:(apos.endLine == cpos.line)=true:=by rfl)(hs:∀a p,e≠Expr.Starred a p:=by intro _ _ h;cases h):PEi X (.Call (.Attribute o name apos) [e] [] cpos) (tBM X.K T r to tA):=.of (zM pa slot hty hm ho.to ha.to hbase hline hs)
def dH{i:Nat}{x:Str}{pos':Pos}(hN:X.N.Nodup)(hi:X.N[i]? =some x)(hx:Loc X.env.scope x)(he:PEi X e te)(hs:swapsWith e (some (.Name x pos')) pos.line X.env=pure false:=by rfl)(hf:X.fn x=true\/X.env.scope.names.lookup x=some .local:=by first | exact .inl rfl | exact .inr rfl | assumption) :
  PSi X (.Assign [.Name x pos'] e pos) (rK te (iH i)):=.of (ak hN hi hx he.to hs hf)
def iA(he:PEi X e te)(hs:swapsWith e none pos.line X.env=pure false:=by rfl):PSi X (.Expr e pos) (xw te):=.of (bc he.to hs)
def uH(he:PEi X e te):PSi X (.Return (some e) pos) (za te):=.of (aO he.to)
def sC{a b:List Stmt}(hc:PTi X c tt)(ha:d9 X a t)(hb:d9 X b u):PSi X (.If c a b pos) (zb tt t u):=.of (bh hc.to ha.to hb.to)
def uI{tg iter:Expr}{body:List Stmt}{wi:TI}{g:TG}{tb:TS}(hp:PassesOwn (model X.prog X.w) X.A X.env X.xe)(hc:X.calm=true)(hi:PI X tg iter wi)(hg:PG X tg g)(hb:d9 X body tb)
  (hs:∀x,foldedSetIterable iter X.env x=pure x:=by intro _;rfl):PSi X (.For tg iter body [] pos) (zf wi g tb):=.of (bf hp hc hi hg hb.to hs)
def mr:d9 X [] xv:=.of bt
def dZ(h:PSi X st t):d9 X [st] t:=.of (ag h.to)
def cF(h1:PSi X st t)(h2:d9 X sts u):d9 X (st::sts) (vG t u):=.of (af h1.to h2.to)
def bL(h1:PSi X st t)(h2:d9 X sts u):d9 X (st::sts) (zL t u):=.of (fH h1.to h2.to)
def exI{Q:TS->Prop}(h:∃t,d9 X sts t/\Q t):∃t,PSs X sts t/\Q t:=by
 obtain⟨t,h1,h2⟩:=h;exact⟨t,h1.to,h2⟩
def qP:hX X pos [] [] []:=.of qE
def dI{k v:Expr}{ks:List (Option Expr)}{vs:List Expr}{tk tv:TE}{trs:List (TE×TE)}(hk:PEi X k tk)(hv:PEi X v tv)(hr:hX X pos ks vs trs):hX X pos (some k::ks) (v::vs) ((tk,tv)::trs):=.of (iO hk.to hv.to hr.to)
def qQ{keys:List (Option Expr)}{values:List Expr}{trs:List (TE×TE)}(h:hX X pos keys values trs)(hall:keys.all (·.isSome)=true)(hl:keys.length=values.length)(h0:keys≠[])(h15:keys.length<=15):PEi X (.Dict keys values pos) (xF trs):=.of (qF h.to hall hl h0 h15)
end
end L2
namespace Nw
open PySem L2
open SL (aj srt)
def qR(x:Str):∀n:Nat,(List.replicate n [V.str x]).flatten=(List.replicate n x).map V.str
 |0=>rfl
 |n+1=>by
  rw[aa5,abv,qR x n,aa5];rfl
def ints_get{ns:List Int}{i:Nat}(h:i<ns.length):(ns.map V.int)[i]? =some (.int (ns[i]'h)):=by
 rw[abt,aao h];rfl
def kH(i:Nat):(0:Int)+(i:Int)=(i:Int):=Int.zero_add _
section
variable {P:Program}{w:World}{K:acX}{mg:Str->Option Value}{base:Heap}
end
end Nw
namespace Nw
open PySem L2
open SL (aj srt)
abbrev wp:Stmt:=top 50
def gU:aE ["_law_rows","_law_cell","_law_first","_law_second","_law_names","_law_made","_law_left","_law_right","_law_inner"] ["_law_rows","_law_cell"] (am wp):=acW
abbrev Ren:=List (Str×Str)
def dz:Ren:=[("S","First"),("A","Then"),("B","And"),("C","Part")]
def dA:Ren:=[("S","Sab"),("A","Tab"),("B","Sob"),("C","Sat")]
def gOf(f:Ren)(x:Str):Str:=(f.lookup x).getD x
def aw(f:Ren)(p:Row):Row:=(gOf f p.1,p.2.map (gOf f))
def kvR(f:Ren):List (Key×V):=f.map fun e=>((Sum.inr e.1:Key),V.str e.2)
def qS(x:Str):∀f:Ren,aD (kvR f) (Sum.inr x:Key)=(f.lookup x).map V.str
 |[]=>rfl
 |(n,y)::r=>by
  show aD (((Sum.inr n:Key),V.str y)::kvR r) (Sum.inr x)=_;rw[abT]
  by_cases q:n=x
  ·subst q;rw[bB rfl];simp
  ·have q':(x == n)=false:=aa1.mpr fun z=>q z.symm
   rw[q',bi (fun z=>q (acG z)),qS x r]
def ge:∀(more kvs:List (Key×V)),((kvs++more).map (·.1)).Nodup->eA kvs more=kvs++more
 |[],kvs,_=>(ab5 kvs).symm
 |e::r,kvs,nd=>by
  show eA (putK kvs e.1 e.2) r=_;have hn:aD kvs e.1=none:=by
   cases q:aD kvs e.1 with
   |none=>rfl
   |some v=>
    have hm:=yf q;rw[ab9,abA] at nd;exact absurd rfl (nd.2.2 _ hm _ (by rw[acr];exact abe ..))
  rw[gw _ hn,ge r (kvs++[(e.1,e.2)]) (by rw[abw];exact nd),abw];rfl
def sE{α β:Type}{F G:α->β->Prop}:∀{l₁:List α} {l₂:List β},Paired F l₁ l₂->(∀a b,a∈l₁->F a b->G a b)->Paired G l₁ l₂
 |_,_,.nil,_=>.nil
 |_,_,.cons h t,f=>.cons (f _ _ (abe ..) h) (sE t fun a b m=>f a b (aaU _ m))
def xH:Sp:=fun vs H Q _=>∃(a:Addr) (c:Int) (R:List Row),vs=[.ref a,.int c]/\aQ H a R/\R.length<=20/\(∀p∈R,p.2.length<=20)/\∀q f H',ab H H'->(f=[]\/f=dz\/f=dA)->aQ H' q (R.map (aw f))->Q (.ref q) H'
section
variable {P:Program}{w:World}{K:acX}{mg:Str->Option Value}{base:Heap}
def zT{f:Addr}{fd:FuncData}(F:Fun K "_law_renamed" "_law_renamed" wp f fd):aM P w K mg base CX0 1 f fd ["_law_rows","_law_cell"] xH:=by
 refine F.ok gU (fun vs H Q E h=>?_) (fun cdv A outer s H vs Q E hr h=>?_)
 ·obtain⟨a,c,R,rfl,_⟩:=h;rfl
 ·obtain⟨a,c,R,rfl,hR,hl20,hw20,k⟩:=h;have hu:=bO hr;refine exI ⟨_,cF (dH (i:=2) gU.nd rfl (Or.inl rfl) (qQ (dI aF aF (dI aF aF (dI aF aF (dI aF aF qP)))) rfl rfl (by intro z;cases z) (by decide)))
   (bL (dH (i:=3) gU.nd rfl (Or.inl rfl) (qQ (dI aF aF (dI aF aF (dI aF aF (dI aF aF qP)))) rfl rfl (by intro z;cases z) (by decide)))
   (bL (dH (i:=4) gU.nd rfl (Or.inr rfl) (fM (r:=fB K) a0 (bI (aI (.of eO) (aI (iv 2) (aI (iv 3) aW)))) (dc dm (iv 1) eC) (fun _ _=>rfl)))
   (cF (dH (i:=5) gU.nd rfl (Or.inl rfl) (bI aW))
   (cF (uI ace rfl (aS (pv 0)) (cx (n:=2) rfl (aH (ap (i:=6) gU.nd rfl (Or.inl rfl)) (aH (ap (i:=7) gU.nd rfl (Or.inl rfl)) bT)))
    (cF (.of (iQ (k:=8) (aU.free (N:=["_law_sign","_law_names"]) (sel:=[none,some 4]) ["_law_names"] (by rfl) (by rfl) (by rfl) ?c1 ?c2 ?c3 ?c4 (by rfl) ?c5) rfl gU.nd rfl (Or.inl rfl) (aS (pv 7)) (fun s₃ H₃ fp=>ap (i:=0) (show(["_law_sign","_law_names"]:List Str).Nodup by decide) rfl (Or.inl rfl))
      (fun s₃ H₃ fp=>cI) (fun s₃ H₃ fp=>iP (X:=b9 _ _ _ _ _ _ _) hu (pv 1) (pv 0) (pv 0) ⟨rfl,rfl,rfl,rfl⟩)))
    (dZ (iA (lC aay aas aat aY (iv 5) (aI (jt (aI (.of (iP hu (pv 4) (pv 6) (pv 6) ⟨rfl,rfl,rfl,rfl⟩)) (aI (iv 8) aW))) aW))))))
   (dZ (uH (iv 5))))))),?_⟩
  case c1=>decide
  case c2=>decide
  case c3=>
   intro x hx;rcases acq.mp hx with rfl|hx
   ·exact⟨rfl,rfl,_,rfl,rfl⟩
   ·cases hx
  case c4=>
   intro y hy;rcases acq.mp hy with rfl|hy
   ·exact abe ..
   ·cases hy
  case c5=>
   intro j i h;rcases j with _|_|j
   ·cases h
   ·cases h;exact⟨"_law_names",abe ..,rfl,rfl⟩
   ·cases h
  have m1:eA [] (kvR dz)=kvR dz:=ge _ _ (by decide +kernel);have m2:eA [] (kvR dA)=kvR dA:=ge _ _ (by decide +kernel);obtain⟨vs,hv,hp⟩:=id hR;have hlen:vs.length=R.length:=aco hp;refine fun d1 hd1=>⟨aa,kvR dz,rfl,by decide,?_⟩
  rw[m1,cu];have s1:=ab.upd (o:=HO.dK (kvR dz)) hd1;refine⟨fun σ H1=>∃d2,σ=[some (.ref a),some (.int c),some (.ref d1),some (.ref d2),none,none,none,none,none]/\ab H H1/\H1 d1=some (.dK (kvR dz))/\H1 d2=some (.dK (kvR dA)),?_,?_⟩
  ·refine fun d2 hd2=>⟨aa,kvR dA,rfl,by decide,?_⟩
   rw[m2,cu];have s2:=ab.upd (o:=HO.dK (kvR dA)) hd2;exact⟨d2,rfl,s1.trans s2,s2 _ _ aa,aa⟩
  rintro σ H1 ⟨d2,rfl,s1,h1,h2⟩;refine⟨fun σ H2=>∃dn f,σ=[some (.ref a),some (.int c),some (.ref d1),some (.ref d2),some (.ref dn),none,none,none,none]/\ab H H2/\(f=[]\/f=dz\/f=dA)/\H2 dn=some (.dK (kvR f)),?_,?_⟩
  ·refine fun d0 hd0=>⟨_,rfl,_,rfl,acV,fun p hp0=>?_⟩
   have t1:=ab.upd (o:=HO.dK []) hd0;have t2:=ab.upd (o:=HO.lst [V.ref d0,V.ref d1,V.ref d2]) hp0;obtain⟨j,v,hj,_,hat⟩:=gF (xs:=[V.ref d0,V.ref d1,V.ref d2]) (n:=3) (by rfl) (by decide) c;refine⟨_,rfl,_,_,rfl,rfl,(show(0:Int)<3 by decide),p,_,_,v,rfl,rfl,SqL.of aa,hat,?_⟩;have sf:=(s1.trans t1).trans t2;have hm:=aaW hj;simp only[acq,abO,acP] at hm;rcases hm with rfl|rfl|rfl
   ·exact⟨d0,[],rfl,sf,.inl rfl,t2 _ _ aa⟩
   ·exact⟨d1,dz,rfl,sf,.inr (.inl rfl),t2 _ _ (t1 _ _ h1)⟩
   ·exact⟨d2,dA,rfl,sf,.inr (.inr rfl),t2 _ _ (t1 _ _ h2)⟩
  rintro σ H2 ⟨dn,f,rfl,s2,hf,hdn⟩;refine⟨by decide,fun q hq=>?_⟩;have hqH:H q=none:=s2.free hq;have sq:=ab.upd (o:=HO.lst []) hq;have get:∀{H3:Hp} (x:Str),H3 dn=some (.dK (kvR f))->∃o,bu H3 dn (.str x) o/\o.getD (.str x)=.str (gOf f x):=fun{H3} x h=>by
   refine⟨_,bu.k (k:=Sum.inr x) h,?_⟩;rw[qS];unfold gOf;cases f.lookup x <;> rfl
  have hvs:=s2 _ _ hv;refine⟨_,rfl,a,rfl,⟨_,SqL.of (sq _ _ hvs)⟩,bq (K:=K) (a:=a) (xs:=vs)
   (fun i σ H3=>∃us o6 o7 o8,σ=[some (.ref a),some (.int c),some (.ref d1),some (.ref d2),some (.ref dn),some (.ref q),o6,o7,o8]/\ab H2 H3/\H3 q=some (.lst us)/\Paired (cU H3) us ((R.take i).map (aw f))/\∀v∈us,∃t b l,v=.ref t/\H3 t=some (.tup [.str l,.ref b])/\b≠q)
   ⟨[],_,_,_,rfl,sq,aa,.nil,fun v hv=>(by cases hv)⟩ ?_ ?_ ?_⟩
  ·rintro i σ H3 _ ⟨_,_,_,_,_,s3,_⟩;exact SqL.of (s3 _ _ hvs)
  ·rintro i x σ H3 hx ⟨us,o6,o7,o8,rfl,s3,hq3,hp3,hn3⟩;obtain⟨p,tt,cc,hpi,rfl,htt,hcc⟩:=cL hp hx;have hpm:p∈R:=aaW hpi;have hil:i<R.length:=(aaj.mp hpi).1;have hpw:=hw20 p hpm;have s23:=s2.trans s3;have hc3:H3 cc=some (.lst (p.2.map V.str)):=s23 _ _ hcc;have hdn3:=s3 _ _ hdn;refine⟨tt,_,rfl,SqT.of (s23 _ _ htt),rfl,_,_,rfl,_,_,rfl,rfl,?_⟩;refine⟨_,rfl,cc,rfl,⟨_,SqL.of hc3⟩,fun D hD=>da (K:=K) (xs:=p.2.map V.str) (fun j τ H4=>(∃o,τ=[o,some (.ref dn)])/\H4=upd H3 D (.lst (((p.2.take j).map (gOf f)).map V.str))) ⟨⟨_,rfl⟩,rfl⟩ ?_ ?_ ?_⟩
   ·rintro j τ H4 ⟨_,rfl⟩;exact(ab.upd hD).seq (SqL.of hc3)
   ·rintro j x τ H4 hx ⟨⟨o,rfl⟩,rfl⟩;obtain⟨y,hy,rfl⟩:=bH hx;have hjl:j<p.2.length:=(aaj.mp hy).1;have sD:=ab.upd (o:=HO.lst (((p.2.take j).map (gOf f)).map V.str)) hD;obtain⟨o',g1,g2⟩:=get y (sD _ _ hdn3);refine⟨_,rfl,dn,rfl,.inl ⟨_,.inl (sD _ _ hdn3)⟩,_,rfl,_,rfl,o',g1,?_⟩;rw[g2];refine⟨_,aa,?_,⟨_,rfl⟩,?_⟩
    ·rw[ab3,ab3,abK];exact az (by omega)
    ·rw[cu,acm,hy,ab9,ab9];rfl
   ·rintro τ H4 ⟨_,rfl⟩;rw[ab3,abS];have sD:=ab.upd (o:=HO.lst ((p.2.map (gOf f)).map V.str)) hD;have hq4:=sD _ _ hq3;have hDq:D≠q:=acQ (av hq3 hD);obtain⟨o',g1,g2⟩:=get p.1 (sD _ _ hdn3);refine⟨_,rfl,.inl ⟨rfl,_,SqL.of hq4⟩,_,rfl,dn,rfl,.inl ⟨_,.inl (sD _ _ hdn3)⟩,_,rfl,_,rfl,o',g1,?_⟩;rw[g2];refine⟨_,rfl,acU,fun t ht=>?_⟩;have st:=ab.upd (o:=HO.tup [V.str (gOf f p.1),V.ref D]) ht;have sDt:=sD.trans st;have hq5:=st _ _ hq4;have htq:t≠q:=acQ (av hq4 ht);have hus:us.length<=20:=by
     have:=aco hp3;rw[ab3,abK] at this;omega
    refine⟨q,_,_,rfl,rfl,hq5,az (by omega),us++[V.ref t],_,_,_,rfl,(s3.trans sDt).bG hq,aa,?_,?_⟩
    ·rw[acm,hpi,ab9];refine b7 (sE hp3 fun v r hm ⟨t',b',q1,q2,q3⟩=>⟨t',b',q1,?_,?_⟩) ⟨t,D,rfl,?_,?_⟩
     ·rw[ad htq];exact aa
     ·unfold ao;rw[ad hDq];exact st _ _ aa
     ·have:t'≠q:=fun z=>by rw[z,hq3] at q2;cases q2
      rw[ad this];exact sDt _ _ q2
     ·obtain⟨t2,b2,l2,e1,e2,e3⟩:=hn3 v hm;rw[q1] at e1;cases e1;rw[q2] at e2;cases e2;unfold ao;rw[ad e3];exact sDt _ _ q3
    ·intro v hv';rcases ab0.mp hv' with z|z
     ·obtain⟨t',b',l',e1,e2,e3⟩:=hn3 v z;refine⟨t',b',l',e1,?_,e3⟩;have:t'≠q:=fun z=>by rw[z,hq3] at e2;cases e2
      rw[ad this];exact sDt _ _ e2
     ·rw[abl.mp z];refine⟨t,D,gOf f p.1,rfl,?_,hDq⟩;rw[ad htq];exact aa
  ·rintro σ H3 ⟨us,o6,o7,o8,rfl,s3,hq3,hp3,_⟩;rw[hlen,abS] at hp3;exact⟨_,rfl,k q f H3 (s2.trans s3) hf ⟨us,hq3,hp3⟩⟩
end
end Nw
namespace Nw
open PySem L2
open SL (aj srt)
structure GF(g:Str->Str):Prop where
 s:g "s"="s"
 t:g "t"="t"
 u:g "u"="u"
 nd:[g "S",g "A",g "B"].Nodup
 ns:¬("s":Str)∈[g "S",g "A",g "B"]
 nt:¬("t":Str)∈[g "S",g "A",g "B"]
 nu:¬("u":Str)∈[g "S",g "A",g "B"]
def xI{f:Ren}(hf:f=[]\/f=dz\/f=dA):GF (gOf f):=by
 rcases hf with rfl|rfl|rfl
 all_goals exact⟨by decide +kernel,by decide +kernel,by decide +kernel,by decide +kernel,by decide +kernel,by decide +kernel,by decide +kernel⟩
def qT{R:List Row}(h:Drawn 4 R){f:Ren}(hf:f=[]\/f=dz\/f=dA):Good (R.map (aw f)):=by
 have G:=xI hf;obtain⟨more,rfl,hm⟩:=h.sh;obtain⟨U,hU,hUm⟩:=h.sg;generalize hg:gOf f=g at G;have er:∀p:Row,aw f p=(g p.1,p.2.map g):=fun p=>by unfold aw;rw[hg]
 have mem:∀{p:Row},p∈bF->(g p.1,p.2.map g)∈(bF++more).map (aw f):=fun{p} hp=>acB.mpr ⟨p,aaV _ hp,er p⟩
 have mS:(g "S",[g "s",g "A"])∈(bF++more).map (aw f):=mem (p:=("S",["s","A"])) (by decide +kernel);have mA:(g "A",[g "t",g "B"])∈(bF++more).map (aw f):=mem (p:=("A",["t","B"])) (by decide +kernel);have mB:(g "B",[g "u"])∈(bF++more).map (aw f):=mem (p:=("B",["u"])) (by decide +kernel);have lf:∀x∈((bF++more).map (aw f)).map (·.1),x∈[g "S",g "A",g "B"]:=fun x hx=>by
  obtain⟨p',hp',rfl⟩:=acB.mp hx;obtain⟨p,hp,rfl⟩:=acB.mp hp';rw[er];have:=h.lf p hp;show g p.1∈[g "S",g "A",g "B"];unfold cY at this;simp only[acq,abO,acP] at this ⊢;rcases this with e|e|e
  ·exact .inl (by rw[e])
  ·exact .inr (.inl (by rw[e]))
  ·exact .inr (.inr (by rw[e]))
 have inL:∀x∈[g "S",g "A",g "B"],x∈((bF++more).map (aw f)).map (·.1):=fun x hx=>by
  simp only[acq,abO,acP] at hx;rcases hx with e|e|e
  ·rw[e];exact acB.mpr ⟨_,mS,rfl⟩
  ·rw[e];exact acB.mpr ⟨_,mA,rfl⟩
  ·rw[e];exact acB.mpr ⟨_,mB,rfl⟩
 have sg:∀p∈(bF++more).map (aw f),∀x∈p.2,x∈(U++cN).map g:=fun p' hp' x hx=>by
  obtain⟨p,hp,rfl⟩:=acB.mp hp';rw[er] at hx;obtain⟨y,hy,rfl⟩:=acB.mp hx;exact acB.mpr ⟨y,hUm p hp y hy,rfl⟩
 have lU:((U++cN).map g).length<=11:=by
  rw[ab3,abi];show U.length+7<=11;omega
 have sm:Small ((bF++more).map (aw f)):=by
  refine⟨?_,fun p' hp'=>?_,⟨_,acy lU (by decide),sg⟩,?_,?_⟩
  ·rw[ab3,abi];show 3+more.length<=14;omega
  ·obtain⟨p,hp,rfl⟩:=acB.mp hp';rw[er];have:=h.wd p hp;show(p.2.map g).length<=20;rw[ab3];omega
  ·have h1:(aj (((bF++more).map (aw f)).flatMap (·.2))).length<=11:=acy (Gram.bU (SL.bZ _) fun x hx=>by
    rw[SL.bE] at hx;obtain⟨p,hp,hx'⟩:=abU.mp hx;exact sg p hp x hx') lU
   have h2:3<=(aj (((bF++more).map (aw f)).map (·.1))).length:=Gram.bU G.nd fun x hx=>by
    rw[SL.bE];exact inL x hx
   omega
  ·intro z;cases z
 have wd:∀{x:Str} {p:Row},p∈(bF++more).map (aw f)->x∈p.2->¬x∈[g "S",g "A",g "B"]->pi ((bF++more).map (aw f)) x:=fun{x p} hp hx hn=>⟨⟨p,hp,hx⟩,fun z=>hn (lf x z)⟩
 have wu:=wd mB (x:="u") (by rw[G.u];exact abe ..) G.nu;have wt:=wd mA (x:="t") (by rw[G.t];exact abe ..) G.nt;have ws:=wd mS (x:="s") (by rw[G.s];exact abe ..) G.ns;have MB:Gram.Made ((bF++more).map (aw f)) (pi ((bF++more).map (aw f))) (g "B"):=.mk mB fun s hs nw=>by
  rw[abl.mp hs,G.u] at nw;exact absurd wu nw
 have MA:Gram.Made ((bF++more).map (aw f)) (pi ((bF++more).map (aw f))) (g "A"):=.mk mA fun s hs nw=>by
  rcases acq.mp hs with e|e
  ·rw[e,G.t] at nw;exact absurd wt nw
  ·rw[abl.mp e];exact MB
 have MS:Gram.Made ((bF++more).map (aw f)) (pi ((bF++more).map (aw f))) (g "S"):=.mk mS fun s hs nw=>by
  rcases acq.mp hs with e|e
  ·rw[e,G.s] at nw;exact absurd ws nw
  ·rw[abl.mp e];exact MA
 have fst:bP ((bF++more).map (aw f))=g "S":=by
  show(aw f ("S",["s","A"])).1=_;rw[er]
 have RA:Gram.Reach (rl ((bF++more).map (aw f))) (g "S") (g "A"):=.step .refl (lw.mpr ⟨_,mS,aaU _ (abe ..),inL _ (aaU _ (abe ..))⟩);have RB:Gram.Reach (rl ((bF++more).map (aw f))) (g "S") (g "B"):=.step RA (lw.mpr ⟨_,mA,aaU _ (abe ..),inL _ (aaU _ (aaU _ (abe ..)))⟩);refine⟨sm,fun x hx=>?_,fun x hx=>?_⟩
 ·have:=lf x hx;simp only[acq,abO,acP] at this;rcases this with e|e|e
  ·rw[e];exact MS
  ·rw[e];exact MA
  ·rw[e];exact MB
 ·have:=lf x hx;rw[fst];simp only[acq,abO,acP] at this;rcases this with e|e|e
  ·rw[e];exact .refl
  ·rw[e];exact RA
  ·rw[e];exact RB
def lD(ss:List Str):D:=.lst (ss.map D.str)
def ju(p:Row):D:=.tup [.str p.1,lD p.2]
def jQ(R:List Row):D:=.lst (R.map ju)
def kJ{H:Hp}{a:Addr}{ss:List Str}(h:ao H a ss):Rep H (.ref a) (lD ss):=
 .lst h (by rw[ab3,ab3]) fun i x d h1 h2=>by
  rw[abt] at h1 h2;cases e:ss[i]? with
  |none=>rw[e] at h1;cases h1
  |some y=>
   rw[e] at h1 h2;cases h1;cases h2
   exact .str y
def yz{H:Hp}{v:V}{p:Row}(h:cU H v p):Rep H v (ju p):=by
 obtain⟨t,b,rfl,h1,h2⟩:=h;refine .tup h1 rfl fun i x d e1 e2=>?_
 rcases i with _|_|i
 ·cases e1;cases e2;exact .str _
 ·cases e1;cases e2;exact kJ h2
 ·cases e1
def pE{H:Hp}{a:Addr}{R:List Row}(h:aQ H a R):Rep H (.ref a) (jQ R):=by
 obtain⟨vs,h1,h2⟩:=h;refine .lst h1 (by rw[ab3];exact aco h2) fun i x d e1 e2=>?_
 obtain⟨p,hp,hr⟩:=ba h2 i x e1;rw[abt,hp] at e2;cases e2
 exact yz hr
def qU(ss:List Str):(lD ss).sz=1+ss.length:=by
 show 1+D.szs (ss.map D.str)=_
 congr 1
 induction ss with
 |nil=>rfl
 |cons x r ih=>show 1+D.szs (r.map D.str)=r.length+1;rw[ih];omega
def qV{b:Nat}:∀{R:List Row},(∀p∈R,p.2.length<=b)->(jQ R).sz<=1+(b+3)*R.length
 |[],_=>by simp[jQ,D.sz,D.szs]
 |p::r,h=>by
  have h1:=h p (abe ..);have h2:=qV (b:=b) (R:=r) fun q hq=>h q (aaU _ hq)
  have e:(jQ (p::r)).sz=(ju p).sz+(jQ r).sz:=by
   show 1+(D.sz (ju p)+D.szs (r.map ju))=D.sz (ju p)+(1+D.szs (r.map ju));omega
  have e2:(ju p).sz=3+p.2.length:=by
   show 1+(1+((lD p.2).sz+0))=_;rw[qU];omega
  rw[e,e2,abI,Nat.mul_succ];omega
end Nw
namespace Nw
open PySem L2
open SL (aj srt)
abbrev wv:Stmt:=top 30
def AX:aE ["signs","empties"] ["signs","empties"] (am wv):=acW
def sF:Sp:=fun vs H Q _=>∃(a b:Addr) (r es:List Str),vs=[.ref a,.ref b]/\ao H a r/\ao H b es/\r.length<=20/\∀H',ab H H'->Q (.bl (r.all fun s=>decide (s∈es))) H'
abbrev ww:Stmt:=top 31
def sG:aE ["signs","empties","begins","words","sign"] ["signs","empties","begins"] (am ww):=acW
def sJ:Sp:=fun vs H Q _=>∃(a b c:Addr) (r es:List Str) (f:Tab),vs=[.ref a,.ref b,.ref c]/\ao H a r/\ao H b es/\dW H c f/\r.length<=20/\(∀e∈f,e.2.length<=40)/\(∃U:List Str,U.length<=40/\∀z∈cb es f r,z∈U)/\
 ∀q H',ab H H'->H q=none->ao H' q (srt (aj (cb es f r)))->Q (.ref q) H'
section
variable {P:Program}{w:World}{K:acX}{mg:Str->Option Value}{base:Heap}
def zU{f:Addr}{fd:FuncData}(F:Fun K "words_to_begin_signs" "words_to_begin_signs" ww f fd)(T:Txt mg)(D1:Def P w K mg base "leading_signs" 1 ["signs","empties"] px):aM P w K mg base CX0 2 f fd ["signs","empties","begins"] sJ:=by
 refine F.ok sG (fun vs H Q E h=>?_) (fun cdv A outer s H vs Q E hr h=>?_)
 ·obtain⟨a,b,c,r,es,f,rfl,_⟩:=h;rfl
 ·obtain⟨a,b,c,r,es,f,rfl,hA,hB,hC,hl,hf40,⟨U,hU,hUm⟩,k⟩:=h;have hu:=bO hr;refine⟨_,af (ak (i:=3) sG.nd rfl (Or.inl rfl) (bg ac))
   (af (bf ace rfl (aS (aA D1 hr (by rfl) (ah (pv 0) (ah (pv 1) ac)))) (ap (i:=4) sG.nd rfl (Or.inl rfl))
    (ag (bc (bW aay aaq aar dE (pv 3) (ah (iP hu (pv 2) (pv 4) (bg (ah (pv 4) ac)) ⟨rfl,rfl,rfl,rfl⟩) ac)))))
   (ag (aO (aB (cR rfl) (by rfl) T.srt aap (ah (c6 (fF rfl) (by rfl) T.set (by decide +kernel) (ah (pv 3) ac)) ac))))),?_⟩
  refine⟨by decide,fun wl hwl=>?_⟩;have s0:=ab.upd (o:=HO.lst []) hwl;refine⟨_,rfl,_,rfl,a,b,r,es,rfl,s0 _ _ hA,s0 _ _ hB,by omega,fun ql H1 s1 n1 hS1=>?_⟩;have s01:=s0.trans s1;have hS1:H1 ql=some (.lst ((Gram.lead es r).map V.str)):=hS1;have hql:ql≠wl:=fun z=>by rw[z,aa] at n1;cases n1
  have hll:=Gram.gB es r;refine⟨ql,rfl,⟨_,SqL.of hS1⟩,bq (K:=K) (a:=ql) (xs:=(Gram.lead es r).map V.str)
   (fun i σ H2=>(∃o,σ=[some (.ref a),some (.ref b),some (.ref c),some (.ref wl),o])/\ab H H2/\H2 ql=some (.lst ((Gram.lead es r).map V.str))/\ao H2 wl (((Gram.lead es r).take i).flatMap fun s=>(f.lookup s).getD [s]))
   ⟨⟨_,rfl⟩,s01,hS1,s1 _ _ aa⟩ ?_ ?_ ?_⟩
  ·rintro i σ H2 _ ⟨_,_,h,_⟩;exact SqL.of h
  ·rintro i x σ H2 hx ⟨⟨o,rfl⟩,s2,hq2,hw2⟩;obtain⟨y,hy,rfl⟩:=bH hx;have hil:i<(Gram.lead es r).length:=(aaj.mp hy).1;have hw2':H2 wl=some (.lst ((((Gram.lead es r).take i).flatMap fun s=>(f.lookup s).getD [s]).map V.str)):=hw2;refine⟨_,rfl,.inl ⟨rfl,_,SqL.of hw2'⟩,_,rfl,c,rfl,?_,_,rfl,_,rfl,acT,fun q1 hq1=>?_⟩
   ·obtain⟨kvs,h1,_⟩:=hC.mono s2;exact .inl ⟨kvs,h1⟩
   have sq1:=ab.upd (o:=HO.lst [.str y]) hq1;have s3:=s2.trans sq1;obtain⟨kvs,h1,h2⟩:=hC.mono s3;obtain⟨o',l,hg,hv,hl'⟩:∃o' l,bu (upd H2 q1 (.lst [.str y])) c (.str y) o'/\o'.getD (.ref q1)=.ref l/\ao (upd H2 q1 (.lst [.str y])) l ((f.lookup y).getD [y]):=by
    rcases fG h2 y with ⟨e1,e2⟩|⟨ys,l,e1,e2,e3⟩
    ·refine⟨none,q1,.inl ⟨kvs,Sum.inr y,h1,rfl,e2.symm⟩,rfl,?_⟩;rw[e1];exact aa
    ·refine⟨some (.ref l),l,.inl ⟨kvs,Sum.inr y,h1,rfl,e2.symm⟩,rfl,?_⟩;rw[e1];exact e3
   refine⟨o',hg,?_⟩;rw[hv];have hb1:=lA (es:=es) hf40 ((Gram.lead es r).take i);have hb2:=lA (es:=es) hf40 [y];rw[abF,List.flatMap_nil,ab5] at hb2;rw[abK] at hb1;simp only[aaH] at hb2;refine⟨wl,l,_,_,rfl,rfl,sq1 _ _ hw2',hl',by rw[ab3,ab3];exact cS (by omega),⟨_,rfl⟩,s3.bG hwl,by rw[ad hql];exact sq1 _ _ hq2,?_⟩;unfold ao;rw[aa,acm,hy,aa9,ab9];simp
  ·rintro σ H2 ⟨⟨o,rfl⟩,s2,hq2,hw2⟩;rw[ab3,abS] at hw2;have hw2:ao H2 wl (cb es f r):=hw2;have hb1:(cb es f r).length<=40*(Gram.lead es r).length:=lA (es:=es) hf40 (Gram.lead es r);refine⟨_,rfl,wl,cb es f r,rfl,SqL.of hw2,by unfold scanBound;omega,fun q hq=>?_⟩;refine⟨q,aj (cb es f r),rfl,.inr (.inl aa),?_,fun q2 hq2=>?_⟩
   ·have:=Gram.bU (SL.bZ (cb es f r)) fun z hz=>hUm z (SL.bE.mp hz)
    omega
   ·have s3:=s2.trans (ab.upd (o:=c9 w q (aj (cb es f r))) hq);exact k q2 _ (s3.trans (ab.upd hq2)) (s3.free hq2) aa
end
end Nw
namespace L2
open PySem PySem.Spec PyProof.Rows
section
variable {X:Cx}
def Inv.qW{pins:List (Addr×Obj)}{σ:St}{H:Hp}{s:Shared}{h':Heap}{fp:List Addr}{a:Addr}{o:HO}{t':Nat}(I:Inv X pins σ H s)(k:∀b u,b ∉ fp->s.heap.get? b=some u->h'.get? b=some u)(hf:∀b∈fp,cv X pins H b)(ha:s.heap.objs.size<=a)
  (new:aX X.prog X.w (upd H a o) h' a o):Inv X pins σ (upd H a o) {s with heap:=h',toks:=t'}:=by
 have hn:H a=none:=I.hok.fresh ha;have nit:∀b u,H b=some u->b ∉ fp:=fun b u e z=>by rw[(hf b z).1] at e;cases e
 have up:∀b u,H b=some u->upd H a o b=some u:=fun b u e=>by rw[ad (av e hn)];exact e
 refine I.step (g':=s.gens) (d':=s.drawn) (ch:=fp) (fun b hb=>?_) (fun b o _ _ hc e _=>k b o hc e) (fun b o _ _ hc e _=>⟨o.slots,k b o hc e⟩) (fun b o' hc e n=>?_)
  (fun b o hc e=>⟨o,k b o hc e⟩) (fun b xs e=>up b _ e) (fun b o' u e=>up b _ e) (fun b ps e=>⟨#[],by rw[up b _ e];simp⟩) (fun m hm=>?_) (fun b u e=>?_) I.bare
 ·obtain⟨f0,f1,f2,f3,f4,f5⟩:=hf b hb;exact⟨f3,f1,f4,f5⟩
 ·rw[ad (acx (abd (acw e) ha))];exact n
 ·obtain⟨o,es,ep,ho,r⟩:=hm;exact⟨o,es,ep,k _ o (fun z=>(hf _ z).2.1 rfl) ho,r⟩
 ·by_cases q:b=a
  ·subst q;rw[aa] at e;cases e
   exact new
  ·rw[ad q] at e;refine(I.hok b u e).bX (fun c v hc q=>k c v ?_ q) (fun c q=>up c _ q) fun c xs q=>up c _ q
   rcases hc with z|z
   ·rw[z];exact nit b u e
   ·exact nit c _ z
end
def Ite(K:acX)(a:Addr):It:=
 ⟨fun i H=>∃xs x,SqL K H a xs/\xs[i]? =some x,fun i H v H'=>∃t x,H t=none/\v=.ref t/\H'=upd H t (.tup [.int i,x])/\∀xs,SqL K H a xs->xs[i]? =some x,fun i H=>∃xs,SqL K H a xs/\xs.length<=i⟩
def uJ{P:Program}{w:World}{K:acX}{elts:List Expr}{x1}{pos:Pos}(a e it:Addr)(hne:e≠it):Turn P w K (.Tuple elts x1 pos) (Ite K a) [e,it] e (fun i h=>∃old,IsEnum h e it (i:Nat) old/\h.IsListIter it a i) where
 mem:=by simp
 obj:=fun i h st b hb=>by
  obtain⟨old,he,hi⟩:=st;rcases acq.mp hb with z|z
  ·subst z;exact⟨_,he,fun v q=>by
    have q:Data.fields _=Data.cell v:=q;cases q⟩
  ·have z:b=it:=by simpa using z
   subst z;obtain⟨o,e,c,d⟩:=hi;exact⟨o,e,fun v q=>by rw[d] at q;cases q⟩
 keep:=fun i h h' st k=>by
  obtain⟨old,he,hi⟩:=st;exact⟨old,k e (by simp) _ he,hi.at fun o q=>k it (by simp) o q⟩
 item:=by
  intro X hP hw hK hc i pins s σ H E I hf st hg;subst hP hw hK;obtain⟨old,he,hi⟩:=st;obtain⟨xs,x,hq,hx⟩:=hg;obtain⟨its,rv,p,hz⟩:=I.list hq;obtain⟨u,hu,ru⟩:=rv.get hx;refine wpAny_pyNext_enum_item he hi p.isList (x:=u) (by simpa using hu) hne fun h1 heo hit1 ht1 hz1 hk1=>?_
  refine⟨_,rfl,wpAny_letOwnedTupleGo_enum heo fun h2 he2 hs2=>?_⟩;replace hs2:Heap.SameBut e h1 h2:=hs2;have helt:e<s.heap.objs.size:=acw he;have ht2:h2.get? s.heap.objs.size=some {cls:=.type "tuple",data:=.seq #[.int i s.toks,u]}:=(hs2.2 _ (Nat.ne_of_gt helt)).trans ht1;have I1:Inv X pins σ (upd H s.heap.objs.size (.tup [.int i,x])) {s with heap:=h2,toks:=s.toks+1}:=by
   refine I.qW (fp:=[e,it]) (fun b o hb q=>?_) hf (acH _) ?_
   ·have hbe:b≠e:=fun z=>hb (by simp[z])
    have hbi:b≠it:=fun z=>hb (by simp[z])
    exact(hs2.2 b hbe).trans (hk1 b o hbe hbi q)
   ·exact⟨acU,[.int i s.toks,u],.cons ⟨_,rfl⟩ (.cons ru .nil),⟨_,ht2,rfl,_,rfl⟩⟩
  refine⟨.ref s.heap.objs.size,_,I1,rfl,⟨_,x,I.fresh,rfl,rfl,fun ys hy=>by rw[I.ku hy hq];exact hx⟩,⟨u,?_,(hit1.extBut hs2.extBut (acQ hne))⟩,fun b hb=>?_⟩
  ·have:((i+1:Nat):Int)=(i:Int)+1:=by push_cast;rfl
   rw[this];exact he2
  ·have f0:=(hf b hb).1;have hlt:b<s.heap.objs.size:=by
    rcases acq.mp hb with z|z
    ·rw[z];exact helt
    ·have z:b=it:=by simpa using z
     rw[z];obtain⟨o,q,_⟩:=hi;exact acw q
   rw[ad (acx hlt)];exact f0
 done:=by
  intro X hP hw hK hc i pins s σ H E I hf st hg;subst hP hw hK;obtain⟨old,he,hi⟩:=st;obtain⟨xs,hq,hx⟩:=hg;obtain⟨its,rv,p,hz⟩:=I.list hq;obtain⟨f0,f1,f2,f3,f4,f5⟩:=hf it (by simp);have hl:=rv.length;exact wpAny_pyNext_enum_end (I.ok.hd hc) he hi p.isList (by simp;omega) fun h' eb=>⟨rfl,I.turned (t':=s.toks) (fun b o hb e=>eb b o hb e) f0 f1 f3 f4 f5⟩
 self:=fun _ _ _ _ _ st h=>by
  obtain⟨old,he,_⟩:=st;exact wpAny_pyIter_enum he h
def AY(K:acX)(ta:TA):TI:=fun σ H R=>ta σ H fun vs H1=>∃a,vs=[.ref a]/\(∃xs,SqL K H1 a xs)/\R (Ite K a) H1
def uK:bootBuiltins "enumerate"=some (.type "enumerate"):=by decide +kernel
def jR{X:Cx}{elts:List Expr}{x1}{tpos:Pos}{a:Expr}{ta:TA}{p pos:Pos}(hg:Gl X "enumerate")(hm:X.mg "enumerate"=none)(ha:PA X [a] ta)(hs:starEach [a] X.env=[(false,eval a X.env)]:=by rfl):PI X (.Tuple elts x1 tpos) (.Call (.Name "enumerate" p) [a] [] pos) (AY X.K ta):=by
 intro pins s σ H R I h;refine Call_ (eX I hg hm uK (aae (thn (ha pos pins s σ H _ I h) fun us s1 ⟨vs,H1,I1,r1,q1⟩=>?_) hs rfl));obtain⟨l,e,⟨xs,hq⟩,q⟩:=q1;subst e;cases r1 with
 |cons r rr=>
  cases rr
  cases r
  obtain⟨its,rv,pl,hz⟩:=I1.list hq;refine call_enumerate_list pl.isList fun h' he hi hz' hk=>?_
  refine wpAny_pyIter_enum he ?_;have I2:Inv X pins σ H1 {s1 with heap:=h'}:=I1.kept (t':=s1.toks) hk;refine⟨s1.heap.objs.size+1,[s1.heap.objs.size+1,s1.heap.objs.size],_,_,H1,rfl,I2,uJ l _ _ (Nat.succ_ne_self _),⟨.none,he,hi⟩,fun b hb=>?_,q⟩;have hb':s1.heap.objs.size<=b:=by
   rcases acq.mp hb with z|z
   ·rw[z];exact acK _
   ·have z:b=s1.heap.objs.size:=by simpa using z
    rw[z];exact acH _
  exact I1.fY hb' (I1.hok.fresh hb')
def kK{K:acX}{a:Addr}{xs:List V}{g:TG}{tb:TS}{D:Ends}{σ:St}{H:Hp}(Pv:Nat->St->Hp->Prop)(h0:Pv 0 σ H)(hl:∀i σ H,i<=xs.length->Pv i σ H->SqL K H a xs)
  (hs:∀i x t σ H,xs[i]? =some x->Pv i σ H->H t=none->g (.ref t) σ (upd H t (.tup [.int i,x])) fun σ2 H2=>tb {D with nx:=Pv (i+1),ct:=Pv (i+1),bk:=D.nx} σ2 H2)(hd:∀σ H,Pv xs.length σ H->D.nx σ H) :
  ∃W:Nat->Nat->St->Hp->Prop,(∃m,W 0 m σ H)/\∀i m σ H,W i m σ H->
   ((Ite K a).stop i H/\D.nx σ H)\/((Ite K a).go i H/\∃N:St->Hp->Prop,(∀σ' H',N σ' H'->∃m',m'<m/\W (i+1) m' σ' H')/\∀x H',(Ite K a).yld i H x H'->g x σ H' fun σ2 H2=>tb {D with nx:=N,ct:=N,bk:=D.nx} σ2 H2):=by
 refine⟨fun i m σ H=>Pv i σ H/\i<=xs.length/\m=xs.length - i,⟨_,h0,acI _,rfl⟩,fun i m σ H ⟨p,hi,hm⟩=>?_⟩;have sq:=hl i σ H hi p;rcases acE i xs.length with hlt|hge
 ·refine .inr ⟨⟨xs,xs[i],sq,aao hlt⟩,Pv (i+1),fun σ' H' n=>⟨xs.length - (i+1),by omega,n,hlt,rfl⟩,fun x H' y=>?_⟩;obtain⟨t,z,ht,rfl,rfl,hx⟩:=y;exact hs i z t σ H (hx xs sq) p ht
 ·have e:i=xs.length:=by omega
  subst e;exact .inl ⟨⟨xs,sq,acH _⟩,hd σ H p⟩
end L2
namespace Nw
open PySem L2
open SL (aj srt)
def Oc(R:List Row)(x:Str)(rest:List Str)(l:Str):Prop:=∃r j,(l,r)∈R/\r[j]? =some x/\rest=r.drop (j+1)
def gW(R:List Row)(i j:Nat)(x:Str)(rest:List Str)(l:Str):Prop:=∃i' j' p,(i'<i\/(i'=i/\j'<j))/\R[i']? =some p/\p.2[j']? =some x/\rest=p.2.drop (j'+1)/\l=p.1
def lE{R:List Row}{x:Str}{rest:List Str}{l:Str}:¬gW R 0 0 x rest l:=by
 rintro⟨i',j',p,h,_⟩;omega
def bw{R:List Row}{i j:Nat}{p:Row}{x y:Str}{rest:List Str}{l:Str}(hp:R[i]? =some p)(hy:p.2[j]? =some y):gW R i (j+1) x rest l↔gW R i j x rest l\/(x=y/\rest=p.2.drop (j+1)/\l=p.1):=by
 constructor
 ·rintro⟨i',j',p',h,h1,h2,h3,h4⟩
  by_cases q:i'=i/\j'=j
  ·obtain⟨rfl,rfl⟩:=q;rw[hp] at h1;cases h1;rw[hy] at h2;cases h2;exact .inr ⟨rfl,h3,h4⟩
  ·exact .inl ⟨i',j',p',by omega,h1,h2,h3,h4⟩
 ·rintro(⟨i',j',p',h,h1,h2,h3,h4⟩|⟨rfl,h3,h4⟩)
  ·exact⟨i',j',p',by omega,h1,h2,h3,h4⟩
  ·exact⟨i,j,p,.inr ⟨rfl,by omega⟩,hp,hy,h3,h4⟩
def mY{R:List Row}{i:Nat}{p:Row}{x:Str}{rest:List Str}{l:Str}(hp:R[i]? =some p):gW R (i+1) 0 x rest l↔gW R i p.2.length x rest l:=by
 constructor
 ·rintro⟨i',j',p',h,h1,h2,h3,h4⟩;refine⟨i',j',p',?_,h1,h2,h3,h4⟩;rcases acE i' i with z|z
  ·exact .inl z
  ·have e:i'=i:=by omega
   subst e;rw[hp] at h1;cases h1;exact .inr ⟨rfl,(aaj.mp h2).1⟩
 ·rintro⟨i',j',p',h,h1,h2,h3,h4⟩;exact⟨i',j',p',.inl (by omega),h1,h2,h3,h4⟩
def mZ{R:List Row}{x:Str}{rest:List Str}{l:Str}:gW R R.length 0 x rest l↔Oc R x rest l:=by
 constructor
 ·rintro⟨i',j',p',h,h1,h2,h3,rfl⟩;exact⟨p'.2,j',aaW h1,h2,h3⟩
 ·rintro⟨r,j,hm,h2,h3⟩;obtain⟨i,hi⟩:=aaN.mp hm;exact⟨i,j,(l,r),.inl (aaj.mp hi).1,hi,h2,h3,rfl⟩
def Oc.row{R:List Row}{x:Str}{rest:List Str}{l:Str}(h:Oc R x rest l):∃r,(l,r)∈R/\∀s∈rest,s∈r:=by
 obtain⟨r,j,hm,_,rfl⟩:=h;exact⟨r,hm,fun s hs=>List.mem_of_mem_drop hs⟩
def Wd(R:List Row)(es rest:List Str)(z:Str):Prop:=∃s∈Gram.lead es rest,(s∈R.map (·.1)/\dC R s z)\/(¬s∈R.map (·.1)/\z=s)
def pF{R:List Row}{es rest:List Str}{f:Tab}(hk:f.map (·.1)=a8 R)(hc:∀e∈f,∀z,z∈e.2↔dC R e.1 z){z:Str}:z∈cb es f rest↔Wd R es rest z:=by
 rw[zK];unfold Wd;have key:∀s,z∈(f.lookup s).getD [s]↔(s∈R.map (·.1)/\dC R s z)\/(¬s∈R.map (·.1)/\z=s):=fun s=>by
  by_cases q:s∈R.map (·.1)
  ·obtain⟨ys,e1,e2⟩:=cm (f:=f) (x:=s) (by rw[hk];exact aN.mpr q);rw[e1];show z∈ys↔_;rw[hc _ e2 z];exact⟨fun h=>.inl ⟨q,h⟩,fun h=>h.elim (·.2) fun w=>absurd q w.1⟩
  ·have e:f.lookup s=none:=by
    cases e:f.lookup s with
    |none=>rfl
    |some ys=>
     have:=lookup_mem e;exact absurd (aN.mp (by rw[←hk];exact acB.mpr ⟨_,this,rfl⟩)) q
   rw[e];show z∈[s]↔_;rw[abl];exact⟨fun h=>.inr ⟨q,h⟩,fun h=>h.elim (fun w=>absurd w.1 q) (·.2)⟩
 exact⟨fun⟨s,h1,h2⟩=>⟨s,h1,(key s).mp h2⟩,fun⟨s,h1,h2⟩=>⟨s,h1,(key s).mpr h2⟩⟩
def Wd.sign{R:List Row}{es rest:List Str}{z:Str}(h:Wd R es rest z){r:List Str}{l:Str}(hm:(l,r)∈R)(hs:∀s∈rest,s∈r):∃p∈R,z∈p.2:=by
 obtain⟨s,h1,⟨_,es',_,hb⟩|⟨_,rfl⟩⟩:=h
 ·exact hb.sign.2
 ·exact⟨_,hm,hs _ (Gram.dF _ _ _ h1)⟩
def Wd.congr{R:List Row}{es es' rest:List Str}(h:∀x,x∈es↔x∈es'){z:Str}(w:Wd R es rest z):Wd R es' rest z:=by
 unfold Wd at *;rw[←Gram.dS h];exact w
inductive Beh(R:List Row)(es:List Str):Str->Str->Prop
 |fin:Beh R es (bP R) ""
 |word {l x z:Str} {rest:List Str}:Oc R x rest l->x∈R.map (·.1)->Wd R es rest z->Beh R es x z
 |up {l x z:Str} {rest:List Str}:Oc R x rest l->x∈R.map (·.1)->(∀s∈rest,s∈es)->Beh R es l z->Beh R es x z
def Behind(R:List Row)(x z:Str):Prop:=∃es,(∀y,y∈es↔Gram.Made R (fun _=>False) y)/\Beh R es x z
def m7{R:List Row}{es es':List Str}(h:∀x,x∈es↔x∈es'){x z:Str}(b:Beh R es x z):Beh R es' x z:=by
 induction b with
 |fin=>exact .fin
 |word h1 h2 h3=>exact .word h1 h2 (h3.congr h)
 |up h1 h2 h3 _ ih=>exact .up h1 h2 (fun s hs=>(h s).mp (h3 s hs)) ih
def lF{R:List Row}{es:List Str}(h:∀y,y∈es↔Gram.Made R (fun _=>False) y){x z:Str}:Behind R x z↔Beh R es x z:=
 ⟨fun⟨es',h',b⟩=>m7 (fun y=>(h' y).trans (h y).symm) b,fun b=>⟨es,h,b⟩⟩
def yA{R:List Row}{es:List Str}{o k:Str->List Str}(hf:bP R∈R.map (·.1))(ho:∀x z,z∈o x↔x∈R.map (·.1)/\((x=bP R/\z="")\/∃rest l,Oc R x rest l/\Wd R es rest z))
  (hk:∀x y,y∈k x↔x∈R.map (·.1)/\∃rest,Oc R x rest y/\∀s∈rest,s∈es){x z:Str}:(∃y,Gram.Reach k x y/\z∈o y)↔Beh R es x z:=by
 constructor
 ·rintro⟨y,hr,hz⟩;have hb:Beh R es y z:=by
   obtain⟨hy,⟨rfl,rfl⟩|⟨rest,l,h1,h2⟩⟩:=(ho y z).mp hz
   ·exact .fin
   ·exact .word h1 hy h2
  clear hz
  induction hr with
  |refl=>exact hb
  |step _ hc ih=>
   obtain⟨hy,rest,h1,h2⟩:=(hk _ _).mp hc;exact ih (.up h1 hy h2 hb)
 ·intro h
  induction h with
  |fin=>exact⟨_,.refl,(ho _ _).mpr ⟨hf,.inl ⟨rfl,rfl⟩⟩⟩
  |word h1 h2 h3=>exact⟨_,.refl,(ho _ _).mpr ⟨h2,.inr ⟨_,_,h1,h3⟩⟩⟩
  |up h1 h2 h3 _ ih=>
   obtain⟨y,hr,hz⟩:=ih;exact⟨y,Gram.Reach.head ((hk _ _).mpr ⟨h2,_,h1,h3⟩) hr,hz⟩
def Beh.sign{R:List Row}{es:List Str}{x z:Str}(h:Beh R es x z):z=""\/∃p∈R,z∈p.2:=by
 induction h with
 |fin=>exact .inl rfl
 |word h1 _ h3=>
  obtain⟨r,hm,hs⟩:=h1.row;exact .inr (h3.sign hm hs)
 |up _ _ _ _ ih=>exact ih
def Canon.congr{P P':Str->Prop}{L:List Str}(h:Canon P L)(e:∀z,P z↔P' z):Canon P' L:=by
 obtain⟨D,h1,h2,h3⟩:=h;exact⟨D,h1,h2,fun z=>(h3 z).trans (e z)⟩
def Canon.mem{P:Str->Prop}{L:List Str}(h:Canon P L)(z:Str):z∈L↔P z:=by
 obtain⟨D,rfl,h2,h3⟩:=h;rw[SL.cg];exact h3 z
structure Tight(R:List Row):Prop where
 len:R.length<=7
 wid:∀p∈R,p.2.length<=14
 few:∃U:List Str,U.length<=11/\∀p∈R,∀x∈p.2,x∈U
def Tight.me{R:List Row}(S:Tight R){D:List Str}(nd:D.Nodup)(h:∀z∈D,∃p∈R,z∈p.2):D.length<=11:=by
 obtain⟨U,hU,hm⟩:=S.few;exact acy (Gram.bU nd fun z hz=>by obtain⟨p,hp,hz'⟩:=h z hz;exact hm p hp z hz') hU
def m8(ka:KA)(v:Str->List Str):((tabOf ka v).map fun e=>e.2.length).sum=tot (ka.map (·.1)) v:=by
 unfold tabOf tot;rw[acD,acD];rfl
def wx(r:List Str)(k:Nat):dy (r.map V.str) (some ((k:Nat):Int)) none=(r.drop k).map V.str:=by
 unfold dy;rw[HT.iK,HT.gj,ab3];rcases acE r.length k with z|z
 ·rw[Nat.min_eq_right (by omega),acF,List.take_zero,aaD (by omega)];rfl
 ·rw[Nat.min_eq_left z,aaE (by rw[abL,ab3];omega),List.map_drop]
end Nw
namespace Nw
open PySem L2
open SL (aj srt)
structure WI(R:List Row)(es:List Str)(i j:Nat)(o k:Str->List Str):Prop where
 ow:∀x z,z∈o x↔x∈R.map (·.1)/\((x=bP R/\z="")\/∃rest l,gW R i j x rest l/\Wd R es rest z)
 lk:∀x y,y∈k x↔x∈R.map (·.1)/\∃rest,gW R i j x rest y/\∀s∈rest,s∈es
 so:tot (a8 R) o<=1+11*(14*i+j)
 sk:tot (a8 R) k<=14*i+j
def qX(ks:List Str):tot ks (fun _=>[])=0:=by
 unfold tot
 induction ks with
 |nil=>rfl
 |cons x r ih=>rw[acr,acu,ih];rfl
def WI.zero{R:List Row}{es:List Str}(hf:bP R∈R.map (·.1)):WI R es 0 0 (gE (fun _=>[]) (bP R) (([]:List Str)++[("":Str)])) (fun _=>[]):=by
 refine⟨fun x z=>?_,fun x y=>?_,?_,?_⟩
 ·constructor
  ·intro h
   by_cases q:x=bP R
   ·subst q;rw[fU] at h;exact⟨hf,.inl ⟨rfl,by simpa using h⟩⟩
   ·rw[iz q] at h;cases h
  ·rintro⟨hx,⟨rfl,rfl⟩|⟨rest,l,h,_⟩⟩
   ·rw[fU];simp
   ·exact absurd h lE
 ·constructor
  ·intro h;cases h
  ·rintro⟨_,rest,h,_⟩;exact absurd h lE
 ·have:=jP (v:=fun _=>[]) (ys:=([]:List Str)++[("":Str)]) (eZ R) (aN.mpr hf);rw[qX] at this;simp only[ab8,abi,aaH] at this;omega
 ·rw[qX];omega
def WI.skip{R:List Row}{es:List Str}{i j:Nat}{o k:Str->List Str}{p:Row}{y:Str}(h:WI R es i j o k)(hp:R[i]? =some p)(hy:p.2[j]? =some y)(n:¬y∈R.map (·.1)):WI R es i (j+1) o k:=by
 refine⟨fun x z=>?_,fun x z=>?_,by have:=h.so;omega,by have:=h.sk;omega⟩
 ·rw[h.ow];constructor
  ·rintro⟨hx,h1|⟨rest,l,h1,h2⟩⟩
   ·exact⟨hx,.inl h1⟩
   ·exact⟨hx,.inr ⟨rest,l,(bw hp hy).mpr (.inl h1),h2⟩⟩
  ·rintro⟨hx,h1|⟨rest,l,h1,h2⟩⟩
   ·exact⟨hx,.inl h1⟩
   ·rcases(bw hp hy).mp h1 with h1|⟨e,_⟩
    ·exact⟨hx,.inr ⟨rest,l,h1,h2⟩⟩
    ·exact absurd (e▸hx) n
 ·rw[h.lk];constructor
  ·rintro⟨hx,rest,h1,h2⟩;exact⟨hx,rest,(bw hp hy).mpr (.inl h1),h2⟩
  ·rintro⟨hx,rest,h1,h2⟩;rcases(bw hp hy).mp h1 with h1|⟨e,_⟩
   ·exact⟨hx,rest,h1,h2⟩
   ·exact absurd (e▸hx) n
def WI.row{R:List Row}{es:List Str}{i:Nat}{o k:Str->List Str}{p:Row}(h:WI R es i p.2.length o k)(hp:R[i]? =some p)(hw:p.2.length<=14):WI R es (i+1) 0 o k:=by
 refine⟨fun x z=>?_,fun x z=>?_,by have:=h.so;omega,by have:=h.sk;omega⟩
 ·rw[h.ow];simp only[mY hp]
 ·rw[h.lk];simp only[mY hp]
def WI.step{R:List Row}{es:List Str}{i j:Nat}{o k k':Str->List Str}{p:Row}{y:Str}(h:WI R es i j o k)(hp:R[i]? =some p)(hy:p.2[j]? =some y)(hys:y∈R.map (·.1))
  {ws:List Str}(hw:∀z,z∈ws↔Wd R es (p.2.drop (j+1)) z)(hl:ws.length<=11)
  (hk:((∀s∈p.2.drop (j+1),s∈es)/\k'=gE k y (k y++[p.1]))\/((¬∀s∈p.2.drop (j+1),s∈es)/\k'=k)):WI R es i (j+1) (gE o y (o y++ws)) k':=by
 refine⟨fun x z=>?_,fun x z=>?_,?_,?_⟩
 ·by_cases q:x=y
  ·subst q;rw[fU,ab0,h.ow,hw];constructor
   ·rintro(⟨hx,h1|⟨rest,l,h1,h2⟩⟩|h1)
    ·exact⟨hx,.inl h1⟩
    ·exact⟨hx,.inr ⟨rest,l,(bw hp hy).mpr (.inl h1),h2⟩⟩
    ·exact⟨hys,.inr ⟨_,_,(bw hp hy).mpr (.inr ⟨rfl,rfl,rfl⟩),h1⟩⟩
   ·rintro⟨hx,h1|⟨rest,l,h1,h2⟩⟩
    ·exact .inl ⟨hx,.inl h1⟩
    ·rcases(bw hp hy).mp h1 with h1|⟨_,e,_⟩
     ·exact .inl ⟨hx,.inr ⟨rest,l,h1,h2⟩⟩
     ·rw[e] at h2;exact .inr h2
  ·rw[iz q,h.ow];constructor
   ·rintro⟨hx,h1|⟨rest,l,h1,h2⟩⟩
    ·exact⟨hx,.inl h1⟩
    ·exact⟨hx,.inr ⟨rest,l,(bw hp hy).mpr (.inl h1),h2⟩⟩
   ·rintro⟨hx,h1|⟨rest,l,h1,h2⟩⟩
    ·exact⟨hx,.inl h1⟩
    ·rcases(bw hp hy).mp h1 with h1|⟨e,_⟩
     ·exact⟨hx,.inr ⟨rest,l,h1,h2⟩⟩
     ·exact absurd e q
 ·rcases hk with ⟨ha,rfl⟩|⟨ha,rfl⟩
  ·by_cases q:x=y
   ·subst q;rw[fU,ab0,h.lk,abl];constructor
    ·rintro(⟨hx,rest,h1,h2⟩|rfl)
     ·exact⟨hx,rest,(bw hp hy).mpr (.inl h1),h2⟩
     ·exact⟨hys,_,(bw hp hy).mpr (.inr ⟨rfl,rfl,rfl⟩),ha⟩
    ·rintro⟨hx,rest,h1,h2⟩;rcases(bw hp hy).mp h1 with h1|⟨_,_,e⟩
     ·exact .inl ⟨hx,rest,h1,h2⟩
     ·exact .inr e
   ·rw[iz q,h.lk];constructor
    ·rintro⟨hx,rest,h1,h2⟩;exact⟨hx,rest,(bw hp hy).mpr (.inl h1),h2⟩
    ·rintro⟨hx,rest,h1,h2⟩;rcases(bw hp hy).mp h1 with h1|⟨e,_⟩
     ·exact⟨hx,rest,h1,h2⟩
     ·exact absurd e q
  ·rw[h.lk];constructor
   ·rintro⟨hx,rest,h1,h2⟩;exact⟨hx,rest,(bw hp hy).mpr (.inl h1),h2⟩
   ·rintro⟨hx,rest,h1,h2⟩;rcases(bw hp hy).mp h1 with h1|⟨_,e,_⟩
    ·exact⟨hx,rest,h1,h2⟩
    ·rw[e] at h2;exact absurd h2 ha
 ·have:=jP (v:=o) (ys:=o y++ws) (eZ R) (aN.mpr hys);rw[abi] at this;have:=h.so;omega
 ·rcases hk with ⟨ha,rfl⟩|⟨ha,rfl⟩
  ·have:=jP (v:=k) (ys:=k y++[p.1]) (eZ R) (aN.mpr hys);rw[abi,aaH] at this;have:=h.sk;omega
  ·have:=h.sk;omega
def qY{ks:List Str}{v:Str->List Str}{x:Str}(h:x∈ks):(v x).length<=tot ks v:=by
 unfold tot
 induction ks with
 |nil=>cases h
 |cons y r ih=>
  rw[acr,acu];rcases acq.mp h with e|e
  ·rw[e];omega
  ·have:=ih e;omega
abbrev wy:Stmt:=top 35
def fN:aE ["rows","empties","begins","own","links","left","right","place","sign","rest"] ["rows"] (am wy):=acW
def xJ:Sp:=fun vs H Q _=>∃(a:Addr) (R:List Row),vs=[.ref a]/\aQ H a R/\Good R/\Tight R/\∀d res H',ab H H'->H d=none->cM H' d res->res.map (·.1)=a8 R->(∀e∈res,Canon (Behind R e.1) e.2)->Q (.ref d) H'
section
variable {P:Program}{w:World}{K:acX}{mg:Str->Option Value}{base:Heap}
def zV{f:Addr}{fd:FuncData}(F:Fun K "words_behind" "words_behind" wy f fd)(T:Txt mg)(hEn:mg "enumerate"=none){uE:Value}(hE:mg "END"=some uE)(rE:RelV (.str "") uE)
  (D1:Def P w K mg base "empty_sorts" 4 ["rows"] jO)(D2:Def P w K mg base "words_to_begin" 5 ["rows"] nY)(D3:Def P w K mg base "lists_by_sort" 2 ["rows"] ml)
  (D4:Def P w K mg base "first_sort" 1 ["rows"] jM)(D5:Def P w K mg base "words_to_begin_signs" 2 ["signs","empties","begins"] sJ)(D6:Def P w K mg base "can_be_empty" 1 ["signs","empties"] sF)
  (D7:Def P w K mg base "gathered" 2 ["own","links"] pA):aM P w K mg base CX0 6 f fd ["rows"] xJ:=by
 refine F.ok fN (fun vs H Q E h=>?_) (fun cdv A outer s H vs Q E hr h=>?_)
 ·obtain⟨a,R,rfl,_⟩:=h;rfl
 ·obtain⟨a,R,rfl,hR,hg,ht,k⟩:=h;have hu:=bO hr;have hr4:a9 4 _:=hr.mono (by decide);have hr2:a9 2 _:=hr.mono (by decide);have hr1:a9 1 _:=hr.mono (by decide);refine⟨_,af (ak (i:=1) fN.nd rfl (Or.inl rfl) (aA D1 hr4 (by rfl) (ah (pv 0) ac)))
   (af (ak (i:=2) fN.nd rfl (Or.inl rfl) (aA D2 hr (by rfl) (ah (pv 0) ac)))
   (af (ak (i:=3) fN.nd rfl (Or.inl rfl) (aA D3 hr2 (by rfl) (ah (pv 0) ac)))
   (af (ak (i:=4) fN.nd rfl (Or.inl rfl) (aA D3 hr2 (by rfl) (ah (pv 0) ac)))
   (af (bc (bW aay aas aat aY (bK hu (pv 3) (aA D4 hr1 (by rfl) (ah (pv 0) ac)) (fun _ _=>rfl)) (ah (lY (by rfl) hE rE) ac)))
   (af (bf ace rfl (aS (pv 0)) (cx (n:=2) rfl (aH (ap (i:=5) fN.nd rfl (Or.inl rfl)) (aH (ap (i:=6) fN.nd rfl (Or.inl rfl)) bT)))
    (ag (bf ace rfl (jR (by rfl) hEn (ah (pv 6) ac)) (cx (n:=2) rfl (aH (ap (i:=7) fN.nd rfl (Or.inl rfl)) (aH (ap (i:=8) fN.nd rfl (Or.inl rfl)) bT)))
     (ag (bh (ej (ik hu (pv 8) (pv 3)))
      (af (ak (i:=9) fN.nd rfl (Or.inl rfl) (fA gl (pv 6) (fw (bV ic (pv 7) aq)) ig))
      (af (bc (bW aay aaq aar dE (bK hu (pv 3) (pv 8) (fun _ _=>rfl)) (ah (aA D5 hr2 (by rfl) (ah (pv 9) (ah (pv 1) (ah (pv 2) ac)))) ac)))
      (ag (bh (bN (aA D6 hr1 (by rfl) (ah (pv 9) (ah (pv 1) ac))))
       (ag (bc (bW aay aas aat aY (bK hu (pv 4) (pv 8) (fun _ _=>rfl)) (ah (pv 5) ac))))
       bt))))
      bt)))))
   (ag (aO (aA D7 hr2 (by rfl) (ah (pv 3) (ah (pv 4) ac)))))))))),?_⟩
  have hR7:=ht.len;have hne:∃p R',R=p::R':=by
   cases R with
   |nil=>exact absurd rfl hg.small.ne
   |cons p R'=>exact⟨p,R',rfl⟩
  have hf:bP R∈R.map (·.1):=by
   obtain⟨p,R',rfl⟩:=hne;exact abe ..
  refine⟨_,rfl,a,R,rfl,hR,hg,fun qe ms H1 s1 n1 nd1 hm1 hS1=>?_⟩;generalize hes:srt ms=es at hS1;have hem:∀y,y∈es↔Gram.Made R (fun _=>False) y:=fun y=>by rw[←hes,SL.cg];exact hm1 y
  refine⟨_,rfl,a,R,rfl,hR.mono s1,hg,fun db fb Hb s2 nb hB hkB hcB=>?_⟩;have s12:=s1.trans s2;have hcB':∀e∈fb,∀z,z∈e.2↔dC R e.1 z:=fun e he z=>(hcB e he).mem z
  have wd:∀{rest:List Str} {z:Str},z∈cb es fb rest↔Wd R es rest z:=fun{rest z}=>pF hkB hcB'
  have fb40:∀e∈fb,e.2.length<=40:=fun e he=>by
   obtain⟨D,h1,h2,h3⟩:=hcB e he;rw[h1,SL.dQ];exact acy (ht.me h2 fun z hz=>by
    obtain⟨_,_,hb⟩:=(h3 z).mp hz;exact hb.sign.2) (by decide)
  have hEb:ao Hb qe es:=s2 _ _ hS1;have hRb:=hR.mono s12;obtain⟨vs,hv,hp⟩:=id hRb;have hlen:vs.length=R.length:=aco hp;refine⟨_,rfl,a,R,rfl,hRb,hg.small,fun d1 ka1 H2 s3 g1 hk1 tv1=>?_⟩;refine⟨_,rfl,a,R,rfl,hRb.mono s3,hg.small,fun d2 ka2 H3 s4 g2 hk2 tv2=>?_⟩;have s34:=s3.trans s4;have tv1':=tv1.keep s4;have hkm1:∀x,x∈ka1.map (·.1)↔x∈R.map (·.1):=fun x=>by rw[hk1,aN]
  have hkm2:∀x,x∈ka2.map (·.1)↔x∈R.map (·.1):=fun x=>by rw[hk2,aN]
  have ap2:∀e∈ka2,e.2≠d1/\¬e.2∈ka1.map (·.2):=fun e he=>by
   have:=g2.fr e he;exact⟨fun z=>(by rw[z,tv1.dk] at this;cases this),ir tv1 this⟩
  have ap1:∀e∈ka1,e.2≠d2/\¬e.2∈ka2.map (·.2):=fun e he=>by
   refine⟨fun z=>?_,fun z=>?_⟩
   ·have:=g2.frd;rw[←z,tv1.at_ e he] at this;cases this
   ·obtain⟨e',he',q⟩:=acB.mp z;have:=g2.fr e' he';rw[q,tv1.at_ e he] at this;cases this
  have hd12:d1≠d2:=fun z=>by
   have:=g2.frd;rw[←z,tv1.dk] at this;cases this
  have gH1:∀e∈ka1,Hb e.2=none:=g1.fr;have gH2:∀e∈ka2,Hb e.2=none:=fun e he=>s3.free (g2.fr e he)
  have ae:∀(L:List Str) (y:Str),L.map V.str++[V.str y]=(L++[y]).map V.str:=fun L y=>by rw[ab9];rfl
  obtain⟨al,hal,hgl,hll⟩:=tv1'.get g1 ((hkm1 (bP R)).mpr hf);have hfst:∃p R',R=p::R'/\bP R=p.1:=by
   obtain⟨p,R',rfl⟩:=hne;exact⟨p,R',rfl,rfl⟩
  obtain⟨p0,R',e0,ef⟩:=hfst;refine⟨_,rfl,_,rfl,a,p0,R',rfl,by rw[←e0];exact hRb.mono s34,?_⟩;rw[←ef];refine⟨d1,_,rfl,hgl,.inl ⟨rfl,_,SqL.of hll⟩,al,_,_,rfl,rfl,hll,by exact az (by decide),?_⟩;have tv1a:bv (upd H3 al (.lst ((([]:List Str)++[("":Str)]).map V.str))) d1 ka1 (gE (fun _=>[]) (bP R) (([]:List Str)++[("":Str)])):=tv1'.app g1 hal [""];have tv2a:bv (upd H3 al (.lst ((([]:List Str)++[("":Str)]).map V.str))) d2 ka2 (fun _=>[]):=tv2.lz (ap1 _ hal).1 (ap1 _ hal).2;have s5:ab Hb (upd H3 al (.lst ((([]:List Str)++[("":Str)]).map V.str))):=s34.bG (gH1 _ hal);have hwb0:=WI.zero (es:=es) hf;refine⟨_,rfl,a,rfl,⟨_,s5.seq (SqL.of hv)⟩,bq (K:=K) (a:=a) (xs:=vs)
   (fun i σ H4=>∃o k,(∃o1 o2 o3 o4 o5,σ=[some (.ref a),some (.ref qe),some (.ref db),some (.ref d1),some (.ref d2),o1,o2,o3,o4,o5])/\ab Hb H4/\bv H4 d1 ka1 o/\bv H4 d2 ka2 k/\WI R es i 0 o k)
   ⟨_,_,⟨_,_,_,_,_,rfl⟩,s5,tv1a,tv2a,hwb0⟩ ?_ ?_ ?_⟩
  ·rintro i σ H4 _ ⟨_,_,_,s6,_⟩;exact s6.seq (SqL.of hv)
  ·rintro i x σ H4 hx ⟨o,kk,⟨o1,o2,o3,o4,o5,rfl⟩,s6,t1,t2,wi⟩;obtain⟨p,t,c,hpi,rfl,htp,hc⟩:=cL hp hx;have hpm:(p.1,p.2)∈R:=aaW hpi;have hpw:=ht.wid p hpm;have hil:i<R.length:=(aaj.mp hpi).1;have hpl:p.1∈R.map (·.1):=acB.mpr ⟨_,hpm,rfl⟩;have hc:Hb c=some (.lst (p.2.map V.str)):=hc;refine⟨t,_,rfl,SqT.of (s6 _ _ htp),rfl,_,_,rfl,_,_,rfl,rfl,?_⟩;refine⟨_,rfl,c,rfl,⟨_,SqL.of (s6 _ _ hc)⟩,kK (K:=K) (a:=c) (xs:=p.2.map V.str)
    (fun j σ H5=>∃o k,(∃o3 o4 o5,σ=[some (.ref a),some (.ref qe),some (.ref db),some (.ref d1),some (.ref d2),some (.str p.1),some (.ref c),o3,o4,o5])/\ab Hb H5/\bv H5 d1 ka1 o/\bv H5 d2 ka2 k/\WI R es i j o k)
    ⟨_,_,⟨_,_,_,rfl⟩,s6,t1,t2,wi⟩ ?_ ?_ ?_⟩
   ·rintro j σ H5 _ ⟨_,_,_,s7,_⟩;exact SqL.of (s7 _ _ hc)
   ·rintro j x tt σ H5 hx ⟨o,kk,⟨o3,o4,o5,rfl⟩,s7,u1,u2,wi⟩ htt;obtain⟨y,hy,rfl⟩:=bH hx;have hjl:j<p.2.length:=(aaj.mp hy).1;have stt:=ab.upd (o:=HO.tup [V.int j,V.str y]) htt;generalize hH6:upd H5 tt (.tup [V.int j,V.str y])=H6 at stt;have htt6:H6 tt=some (.tup [V.int j,V.str y]):=by rw[←hH6,aa]
    replace u1:=u1.keep stt;replace u2:=u2.keep stt;replace s7:=s7.trans stt;refine⟨tt,_,rfl,SqT.of htt6,rfl,_,_,rfl,_,_,rfl,rfl,?_⟩;obtain⟨o',g',ho'⟩:=u1.has g1 y;refine⟨_,rfl,_,rfl,d1,o',rfl,g',_,rfl,?_⟩;rw[ho']
    by_cases hys:y∈R.map (·.1)
    ·rw[aci ((hkm1 y).mpr hys)];refine bC ?_;refine⟨_,rfl,_,rfl,_,_,rfl,rfl,_,rfl,c,_,rfl,SqL.of (s7 _ _ hc),fun q hq=>?_⟩;have ecut:dy (p.2.map V.str) (some ((j:Int)+1)) none=(p.2.drop (j+1)).map V.str:=wx p.2 (j+1);rw[ecut];have hqa:∀e∈ka1,q≠e.2:=fun e he z=>by
      have:=u1.at_ e he;rw[←z,hq] at this;cases this
     have sq:=ab.upd (o:=HO.lst ((p.2.drop (j+1)).map V.str)) hq;generalize hH7:upd H6 q (.lst ((p.2.drop (j+1)).map V.str))=H7 at sq;have hq7:ao H7 q (p.2.drop (j+1)):=by unfold ao;rw[←hH7,aa]
     replace u1:=u1.keep sq;replace u2:=u2.keep sq;have s8:=s7.trans sq;obtain⟨al,hal,hgl,hll⟩:=u1.get g1 ((hkm1 y).mpr hys);have hrl:(p.2.drop (j+1)).length<=14:=by rw[abL];omega
     obtain⟨U,hU,hUm⟩:=ht.few;have hrs:∀s∈p.2.drop (j+1),s∈p.2:=fun s hs=>List.mem_of_mem_drop hs
     refine⟨_,rfl,_,rfl,d1,_,rfl,hgl,.inl ⟨rfl,_,SqL.of hll⟩,_,rfl,_,rfl,_,rfl,q,qe,db,p.2.drop (j+1),es,fb,rfl,hq7,s8 _ _ hEb,(hB.mono s8).l,by omega,fb40,⟨U,by omega,fun z hz=>?_⟩,fun qw H8 s9 n9 hw9=>?_⟩
     ·obtain⟨p',hp',hz'⟩:=(wd.mp hz).sign hpm hrs;exact hUm p' hp' z hz'
     generalize hws:srt (aj (cb es fb (p.2.drop (j+1))))=ws at hw9;have hwm:∀z,z∈ws↔Wd R es (p.2.drop (j+1)) z:=fun z=>by rw[←hws,SL.cg,SL.bE];exact wd
     have hwl:ws.length<=11:=by
      rw[←hws,SL.dQ];exact ht.me (SL.bZ _) fun z hz=>(wd.mp (SL.bE.mp hz)).sign hpm hrs
     have hw9:H8 qw=some (.lst (ws.map V.str)):=hw9;have s10:=s8.trans s9;replace u1:=u1.keep s9;replace u2:=u2.keep s9;have hll8:=s9 _ _ hll;have so:=wi.so;have oy:=qY (v:=o) (aN.mpr hys);have kyl:=qY (v:=kk) (aN.mpr hys);have sk:=wi.sk;refine⟨al,qw,_,_,rfl,rfl,hll8,hw9,by rw[ab3,ab3];exact cS (by omega),?_⟩;rw[←ab9];have u1b:bv (upd H8 al (.lst ((o y++ws).map V.str))) d1 ka1 (gE o y (o y++ws)):=u1.app g1 hal ws;have u2b:bv (upd H8 al (.lst ((o y++ws).map V.str))) d2 ka2 kk:=u2.lz (ap1 _ hal).1 (ap1 _ hal).2;have s11:ab Hb (upd H8 al (.lst ((o y++ws).map V.str))):=s10.bG (gH1 _ hal);have hq9:ao (upd H8 al (.lst ((o y++ws).map V.str))) q (p.2.drop (j+1)):=by
      unfold ao;rw[ad (hqa _ hal)];exact s9 _ _ hq7
     generalize hH9:upd H8 al (.lst ((o y++ws).map V.str))=H9 at u1b u2b s11 hq9;refine⟨_,rfl,_,rfl,q,qe,p.2.drop (j+1),es,rfl,hq9,s11 _ _ hEb,by omega,fun H10 s12'=>⟨_,rfl,?_⟩⟩;replace u1b:=u1b.keep s12';replace u2b:=u2b.keep s12';have s13:=s11.trans s12'
     by_cases hall:∀s∈p.2.drop (j+1),s∈es
     ·have e:((p.2.drop (j+1)).all fun s=>decide (s∈es))=true:=abR.mpr fun s hs=>aci (hall s hs)
      rw[e];refine bC ?_;obtain⟨bl,hbl,hgb,hlb⟩:=u2b.get g2 ((hkm2 y).mpr hys);refine⟨_,rfl,_,rfl,d2,_,rfl,hgb,.inl ⟨rfl,_,SqL.of hlb⟩,_,rfl,bl,_,_,rfl,rfl,hlb,by rw[ab3];exact az (by omega),?_⟩;rw[ae];exact⟨_,_,⟨_,_,_,rfl⟩,s13.bG (gH2 _ hbl),u1b.lz (ap2 _ hbl).1 (ap2 _ hbl).2,u2b.app g2 hbl [p.1],wi.step hpi hy hys hwm hwl (.inl ⟨hall,rfl⟩)⟩
     ·have e:((p.2.drop (j+1)).all fun s=>decide (s∈es))=false:=by
       cases q:((p.2.drop (j+1)).all fun s=>decide (s∈es)) with
       |false=>rfl
       |true=>exact absurd (fun s hs=>abx (abR.mp q s hs)) hall
      rw[e];exact aT ⟨_,_,⟨_,_,_,rfl⟩,s13,u1b,u2b,wi.step hpi hy hys hwm hwl (.inr ⟨hall,rfl⟩)⟩
    ·rw[abX fun z=>hys ((hkm1 y).mp z)];exact aT ⟨_,_,⟨_,_,_,rfl⟩,s7,u1,u2,wi.skip hpi hy hys⟩
   ·rintro σ H5 ⟨o,kk,⟨o3,o4,o5,rfl⟩,s7,u1,u2,wi⟩;rw[ab3] at wi;exact⟨_,_,⟨_,_,_,_,_,rfl⟩,s7,u1,u2,wi.row hpi hpw⟩
  ·rintro σ H4 ⟨o,kk,⟨o1,o2,o3,o4,o5,rfl⟩,s6,t1,t2,wi⟩;rw[hlen] at wi;have ho:∀x z,z∈o x↔x∈R.map (·.1)/\((x=bP R/\z="")\/∃rest l,Oc R x rest l/\Wd R es rest z):=fun x z=>by
    rw[wi.ow];simp only[mZ]
   have hkk:∀x y,y∈kk x↔x∈R.map (·.1)/\∃rest,Oc R x rest y/\∀s∈rest,s∈es:=fun x y=>by
    rw[wi.lk];simp only[mZ]
   have gO:∀x,getL (tabOf ka1 o) x=o x:=fun x=>by
    rw[dX]
    by_cases q:x∈ka1.map (·.1)
    ·rw[acR q]
    ·rw[acS q]
     symm
     apply aab.mpr;intro y hy;exact q ((hkm1 x).mpr ((ho x y).mp hy).1)
   have gL:∀x,getL (tabOf ka2 kk) x=kk x:=fun x=>by
    rw[dX]
    by_cases q:x∈ka2.map (·.1)
    ·rw[acR q]
    ·rw[acS q]
     symm
     apply aab.mpr;intro y hy;exact q ((hkm2 x).mpr ((hkk x y).mp hy).1)
   have hkl:∀{ka:KA},ka.map (·.1)=a8 R->ka.length<=14:=fun{ka} h=>by
    have:=acN List.length h;rw[ab3] at this;have:=fL R;omega
   have dR:∀{d:Addr} {ka:KA} {v:Str->List Str},bv H4 d ka v->cM H4 d (tabOf ka v):=fun{d ka v} tv=>by
    obtain⟨kv,h1,h2⟩:=tv.nX;refine⟨kvsOf ka,tv.dk,?_⟩;rcases h1 with h1|⟨_,h1⟩
    ·rw[tv.dk] at h1;cases h1
     exact h2
    ·rw[tv.dk] at h1;cases h1
   obtain⟨U,hU,hUm⟩:=ht.few;refine⟨_,rfl,_,rfl,d1,d2,tabOf ka1 o,tabOf ka2 kk,rfl,hd12,dR t1,dR t2,⟨?_,?_,?_,?_⟩,?_,?_,⟨"" :: U,by rw[abI];omega,?_⟩,?_⟩
   ·rw[bn];exact g2.ndk
   ·intro e he y hy;rw[bn,hkm2];unfold tabOf at he;obtain⟨z,hz,rfl⟩:=acB.mp he;obtain⟨_,rest,h1,_⟩:=(hkk _ _).mp hy;obtain⟨r,hm,_⟩:=h1.row;exact acB.mpr ⟨_,hm,rfl⟩
   ·have:=acN List.length (bn ka2 kk);rw[ab3,ab3] at this;have:=hkl hk2;omega
   ·rw[m8,hk2];have:=wi.sk;omega
   ·rw[bn,bn,hk1,hk2]
   ·rw[m8,hk1];have:=wi.so;omega
   ·intro e he z hz;unfold tabOf at he;obtain⟨y,hy,rfl⟩:=acB.mp he;obtain⟨_,⟨_,rfl⟩|⟨rest,l,h1,h2⟩⟩:=(ho _ _).mp hz
    ·exact abe ..
    ·obtain⟨r,hm,hs⟩:=h1.row;obtain⟨p',hp',hz'⟩:=h2.sign hm hs;exact aaU _ (hUm p' hp' z hz')
   ·intro d res H5 x5 n5 hD hkr hcan;refine k d res H5 (fun b o e=>x5 b o (s6 _ _ (s12 _ _ e)) (av e (s12.free g1.frd))) (s12.free (s6.free n5)) hD (by rw[hkr,bn,hk1]) fun e he=>(hcan e he).congr fun z=>?_
    rw[lF hem,←yA hf ho hkk];constructor
    ·rintro⟨y,q1,q2⟩;refine⟨y,q1.congr fun x y hy=>?_,?_⟩
     ·rw[gL] at hy;exact hy
     ·rw[gO] at q2;exact q2
    ·rintro⟨y,q1,q2⟩;refine⟨y,q1.congr fun x y hy=>?_,?_⟩
     ·rw[gL];exact hy
     ·rw[gO];exact q2
end
end Nw
namespace Nw
open PySem L2
open SL (aj srt)
section
variable {P:Program}{w:World}{K:acX}{mg:Str->Option Value}{base:Heap}
end
end Nw
namespace SL
open PySem PySem.W PyProof.Rows
def okT(n:Nat)(lt:Nat->Nat->Bool){α:Type}:KasT α->(α->Prop)->Prop
 |.ret a,P=>P a
 |.ask i j k,P=>i<n/\j<n/\okT n lt (k (lt i j)) P
section
variable {n:Nat}{lt:Nat->Nat->Bool}{α β:Type}
def cw{P P':α->Prop}(h:∀a,P a->P' a):∀(t:KasT α),okT n lt t P->okT n lt t P'
 |.ret a,x=>h a x
 |.ask _ _ k,⟨a,b,x⟩=>⟨a,b,cw h (k _) x⟩
def fI{f:α->KasT β}{P:β->Prop}:∀(t:KasT α),okT n lt t (fun a=>okT n lt (f a) P)->okT n lt (t.bind f) P
 |.ret _,x=>x
 |.ask _ _ k,⟨a,b,x⟩=>⟨a,b,fI (k _) x⟩
def lG{cmp:Nat->Nat->(Bool->Shared->Prop)->Shared->Prop}{s:Shared}(hc:∀i j (C:Bool->Shared->Prop),i<n->j<n->C (lt i j) s->cmp i j C s){Q:α->Shared->Prop} :
  ∀(t:KasT α),okT n lt t (fun a=>Q a s)->t.kasWp cmp Q s
 |.ret _,x=>x
 |.ask i j k,⟨a,b,x⟩=>hc i j _ a b (lG hc (k _) x)
def lH{T U:KasT α}{P:α->Prop}(h:okT n lt T P):okT n lt (if true=true then T else U) P:=by rw[acR rfl];exact h
def lI{T U:KasT α}{P:α->Prop}(h:okT n lt U P):okT n lt (if false=true then T else U) P:=by rw[acS (by decide)];exact h
end
structure Ord(lt:Nat->Nat->Bool):Prop where
 tr:∀a b c,lt b a=false->lt c b=false->lt c a=false
 as:∀a b,lt a b=true->lt b a=false
def Ord.rf{lt:Nat->Nat->Bool}(O:Ord lt)(a:Nat):lt a a=false:=by
 cases e:lt a a with
 |false=>rfl
 |true=>rw[O.as a a e] at e;cases e
abbrev at0(p:Array Nat)(i:Nat):Nat:=p.getD i 0
def fW(p:Array Nat)(i:Nat):at0 p i=(p[i]?).getD 0:=aaf ..
def Bas(n:Nat)(p:Array Nat):Prop:=p.Perm (List.range n).toArray
def Bas.size{n:Nat}{p:Array Nat}(h:Bas n p):p.size=n:=by
 have:=h.size_eq;simpa using this
def Bas.lt{n:Nat}{p:Array Nat}(h:Bas n p)(hn:0<n)(i:Nat):at0 p i<n:=by
 rw[fW];cases e:p[i]? with
 |none=>exact hn
 |some v=>
  have hm:v∈p.toList:=by
   rw[←aaI] at e;exact aaW e
  have:=(aai.mp h).mem_iff.mp hm;exact acg.mp (by simpa using this)
def Bas.rev{n:Nat}{p:Array Nat}(h:Bas n p)(i j:Nat):Bas n (kas_rev p i j):=(mirror_perm ..).trans h
def Bas.bub{n:Nat}{p:Array Nat}(h:Bas n p)(i j:Nat):Bas n (bubble p i j):=(bubble_perm ..).trans h
def gm{p:Array Nat}{i j:Nat}(hj:j<=p.size)(k:Nat):at0 (kas_rev p i j) k=if i<=k/\k<j then at0 p (i+j - 1 - k) else at0 p k:=by
 rw[fW];unfold kas_rev;rw[getElem?_mirror_all hj];split <;> rw[fW]
def yB{p:Array Nat}{k l:Nat}(hk:k<p.size)(hl:l<=k)(i:Nat):at0 (bubble p k (k - l)) i=if i=l then at0 p k else if l<i/\i<=k then at0 p (i - 1) else at0 p i:=by
 rw[fW,getElem?_bubble hk _ (by omega),show k - (k - l)=l by omega]
 by_cases h1:i=l
 ·rw[acR h1,acR h1];exact(fW p k).symm
 ·rw[acS h1,acS h1]
  by_cases h2:l<i/\i<=k
  ·rw[acR h2,acR h2];exact(fW p _).symm
  ·rw[acS h2,acS h2];exact(fW p _).symm
section
variable {n:Nat}{lt:Nat->Nat->Bool}
def Asc(lt:Nat->Nat->Bool)(p:Array Nat)(m:Nat):Prop:=∀i j,i<=j->j<m->lt (at0 p j) (at0 p i)=false
def Dsc(lt:Nat->Nat->Bool)(p:Array Nat)(m:Nat):Prop:=∀i j,i<=j->j<m->lt (at0 p i) (at0 p j)=false
def Asc.one(O:Ord lt)(p:Array Nat):Asc lt p 1:=fun i j h1 h2=>by
 have e1:j=0:=by omega
 have e2:i=0:=by omega
 rw[e1,e2];exact O.rf _
def Asc.succ(O:Ord lt){p:Array Nat}{m:Nat}(h:Asc lt p m)(hm:1<=m)(e:lt (at0 p m) (at0 p (m - 1))=false):Asc lt p (m+1):=fun i j h1 h2=>by
 by_cases hj:j=m
 ·subst hj
  by_cases hi:i=j
  ·rw[hi];exact O.rf _
  ·exact O.tr _ _ _ (h i (j - 1) (by omega) (by omega)) e
 ·exact h i j h1 (by omega)
def Dsc.succ(O:Ord lt){p:Array Nat}{m:Nat}(h:Dsc lt p m)(hm:1<=m)(e:lt (at0 p (m - 1)) (at0 p m)=false):Dsc lt p (m+1):=fun i j h1 h2=>by
 by_cases hj:j=m
 ·subst hj
  by_cases hi:i=j
  ·rw[hi];exact O.rf _
  ·exact O.tr _ _ _ e (h i (j - 1) (by omega) (by omega))
 ·exact h i j h1 (by omega)
def pG(O:Ord lt)(hn:0<n){p:Array Nat}(hB:Bas n p):∀(f m:Nat),1<=m->Asc lt p m->
  okT n lt (kas_asc p f m) (fun r=>m<=r/\r<=m+f/\Asc lt p r/\(r=m+f\/lt (at0 p r) (at0 p (r - 1))=true))
 |0,m,_,h=>⟨acH _,acH _,h,.inl rfl⟩
 |f+1,m,hm,h=>by
  refine⟨hB.lt hn m,hB.lt hn (m - 1),?_⟩;cases e:lt (p.getD m 0) (p.getD (m - 1) 0) with
  |true=>exact lH (show _/\_ from ⟨acH _,by omega,h,.inr e⟩)
  |false=>
   refine lI (cw (fun r hr=>?_) _ (pG O hn hB f (m+1) (by omega) (h.succ O hm e)));obtain⟨a,b,c,d⟩:=hr;refine⟨by omega,by omega,c,?_⟩;rcases d with d|d
   ·exact .inl (by omega)
   ·exact .inr d
def Alike(lt:Nat->Nat->Bool)(p:Array Nat)(m q:Nat):Prop:=q+1<=m/\∀i j,m - (q+1)<=i->i<m->m - (q+1)<=j->j<m->lt (at0 p i) (at0 p j)=false
def Dsc.flip(O:Ord lt){p:Array Nat}{m q:Nat}(h:Dsc lt p m)(hz:m<=p.size)(ha:Alike lt p m q):Dsc lt (kas_rev p (m - (q+1)) m) m:=fun i j h1 h2=>by
 obtain⟨hq,al⟩:=ha;have one:∀k,k<m->∃k',at0 (kas_rev p (m - (q+1)) m) k=at0 p k'/\k'<m/\(k=k'\/(m - (q+1)<=k/\m - (q+1)<=k')):=fun k hk=>by
  rw[gm hz];split
  ·exact⟨_,rfl,by omega,.inr ⟨by omega,by omega⟩⟩
  ·exact⟨_,rfl,hk,.inl rfl⟩
 obtain⟨i',e1,l1,c1⟩:=one i (by omega);obtain⟨j',e2,l2,c2⟩:=one j h2;rw[e1,e2]
 by_cases hle:i'<=j'
 ·exact h i' j' hle l2
 ·exact al i' j' (by omega) l1 (by omega) l2
def uM{p:Array Nat}{i j:Nat}(hj:j<=p.size){k:Nat}(hk:j<=k):at0 (kas_rev p i j) k=at0 p k:=by
 rw[gm hj,acS (by omega)]
def jS(O:Ord lt)(hn:0<n):∀(f:Nat) (p:Array Nat) (m q:Nat),Bas n p->1<=m->m+f=n->Dsc lt p m->Alike lt p m q->
  okT n lt (kas_desc f p m q) (fun r=>Bas n r.1/\1<=r.2.1/\r.2.1<=n/\Dsc lt r.1 r.2.1/\Alike lt r.1 r.2.1 r.2.2)
 |0,p,m,q,hB,hm,hf,h,ha=>⟨hB,hm,(by show m<=n;omega),h,ha⟩
 |f+1,p,m,q,hB,hm,hf,h,ha=>by
  have hz:m<=p.size:=by rw[hB.size];omega
  refine⟨hB.lt hn m,hB.lt hn (m - 1),?_⟩;cases e:lt (p.getD m 0) (p.getD (m - 1) 0) with
  |true=>
   refine lH ?_;have al0:∀p':Array Nat,Alike lt p' (m+1) 0:=fun p'=>⟨by omega,fun i j a1 a2 a3 a4=>by
    have e1:i=m:=by omega
    have e2:j=m:=by omega
    rw[e1,e2];exact O.rf _⟩
   have e':lt (at0 p (m - 1)) (at0 p m)=false:=O.as _ _ e
   by_cases hq:q > 0
   ·rw[acR hq];refine jS O hn f _ (m+1) 0 (hB.rev _ _) (by omega) (by omega) ((h.flip O hz ha).succ O hm ?_) (al0 _);rw[uM hz (acH m),gm hz];split
    ·refine O.tr _ _ _ e' (ha.2 _ _ (by omega) (by omega) (by have:=ha.1;omega) (by omega))
    ·exact e'
   ·rw[acS hq];exact jS O hn f _ (m+1) 0 hB (by omega) (by omega) (h.succ O hm e') (al0 _)
  |false=>
   refine lI ?_;refine⟨hB.lt hn (m - 1),hB.lt hn m,?_⟩;cases e2:lt (p.getD (m - 1) 0) (p.getD m 0) with
   |true=>exact lH (show _/\_ from ⟨hB,hm,(by show m<=n;omega),h,ha⟩)
   |false=>
    refine lI ?_;refine jS O hn f p (m+1) (q+1) hB (by omega) (by omega) (h.succ O hm e2) ⟨by have:=ha.1;omega,fun i j a1 a2 a3 a4=>?_⟩;have al:=ha.2;have low:∀k,m+1 - (q+1+1)<=k->k<m+1->(lt (at0 p k) (at0 p (m - 1))=false/\lt (at0 p (m - 1)) (at0 p k)=false):=fun k k1 k2=>by
     by_cases hk:k=m
     ·rw[hk];exact⟨e,e2⟩
     ·exact⟨al k (m - 1) (by omega) (by omega) (by omega) (by omega),al (m - 1) k (by omega) (by omega) (by omega) (by omega)⟩
    exact O.tr _ _ _ (low j a3 a4).2 (low i a1 a2).1
def Dsc.rev{p:Array Nat}{m:Nat}(h:Dsc lt p m)(hz:m<=p.size):Asc lt (kas_rev p 0 m) m:=fun i j h1 h2=>by
 rw[gm hz,gm hz,acR (by omega),acR (by omega)];exact h _ _ (by omega) (by omega)
def sK(n:Nat)(lt:Nat->Nat->Bool)(r:Nat×Array Nat):Prop:=1<=r.1/\r.1<=n/\Bas n r.2/\Asc lt r.2 r.1
def pH(O:Ord lt)(hn:0<n){p:Array Nat}{m:Nat}(hB:Bas n p)(hm:1<=m)(hmn:m<=n)(h:Dsc lt p m):okT n lt (kas_tail3 m n p) (sK n lt):=by
 refine fI _ (cw (fun r hr=>?_) _ (pG O hn (hB.rev 0 m) (n - m) m hm (h.rev (by rw[hB.size];exact hmn))));obtain⟨a,b,c,_⟩:=hr;exact⟨by omega,by omega,hB.rev 0 m,c⟩
def ki(O:Ord lt)(hn:0<n){p:Array Nat}{m:Nat}(hB:Bas n p)(hm:1<=m)(hmn:m+1<=n)(h:Dsc lt p (m+1)):okT n lt (kas_descPart m n p) (sK n lt):=by
 refine fI _ (cw (fun r hr=>?_) _ (jS O hn (n - (m+1)) p (m+1) 0 hB (by omega) (by omega) h ⟨by omega,fun i j a1 a2 a3 a4=>?_⟩))
 ·obtain⟨a,b,c,d,e⟩:=hr;split
  ·exact pH O hn (a.rev _ _) b c (d.flip O (by rw[a.size];exact c) e)
  ·exact pH O hn a b c d
 ·have e1:i=m:=by omega
  have e2:j=m:=by omega
  rw[e1,e2];exact O.rf _
def wz(O:Ord lt)(hn:0<n){p:Array Nat}(hB:Bas n p):okT n lt (kas_count n p) (sK n lt):=by
 refine fI _ (cw (fun r hr=>?_) _ (pG O hn hB (n - 1) 1 (acH _) (Asc.one O p)));obtain⟨a,b,c,d⟩:=hr
 by_cases e1:(r == n)=true
 ·rw[acR e1];exact⟨a,by omega,hB,c⟩
 ·rw[acS e1];have hne:r≠n:=fun q=>e1 (by rw[q];exact abW _)
  have dn:lt (at0 p r) (at0 p (r - 1))=true:=by
   rcases d with d|d
   ·exact absurd (by omega) hne
   ·exact d
  have hz:r<=p.size:=by rw[hB.size];omega
  by_cases e2:r > 1
  ·rw[acR e2];refine⟨hB.lt hn 0,hB.lt hn (r - 1),?_⟩;cases e:lt (p.getD 0 0) (p.getD (r - 1) 0) with
   |true=>exact lH (show _/\_ from ⟨a,by omega,hB,c⟩)
   |false=>
    refine lI ?_;have al:∀i j,i<r->j<r->lt (at0 p i) (at0 p j)=false:=fun i j h1 h2=>by
     have x1:=c i (r - 1) (by omega) (by omega);have x2:=c 0 j (by omega) h2;have x3:=c 0 i (by omega) h1;have x4:=c j (r - 1) (by omega) (by omega)
     by_cases hle:j<=i
     ·exact c j i hle h1
     ·
      have y1:lt (at0 p i) (at0 p (r - 1))=false:=O.tr _ _ _ e (c 0 i (by omega) h1) |> fun z=>z
      exact O.tr _ _ _ x4 y1
    refine ki O hn (hB.rev 0 r) a (by omega) fun i j h1 h2=>?_
    have one:∀k,k<r+1->∃k',at0 (kas_rev p 0 r) k=at0 p k'/\((k=r/\k'=r)\/(k<r/\k'<r)):=fun k hk=>by
     rw[gm hz];split
     ·exact⟨_,rfl,.inr ⟨by omega,by omega⟩⟩
     ·exact⟨_,rfl,.inl ⟨by omega,by omega⟩⟩
    obtain⟨i',z1,c1⟩:=one i (by omega);obtain⟨j',z2,c2⟩:=one j h2;rw[z1,z2];rcases c1 with ⟨c1,c1'⟩|⟨c1,c1'⟩
    ·rcases c2 with ⟨c2,c2'⟩|⟨c2,c2'⟩
     ·rw[c1',c2'];exact O.rf _
     ·omega
    ·rcases c2 with ⟨c2,c2'⟩|⟨c2,c2'⟩
     ·rw[c2'];exact O.tr _ _ _ (O.as _ _ dn) (al i' (r - 1) c1' (by omega))
     ·exact al i' j' c1' c2'
  ·rw[acS e2];have e3:r=1:=by omega
   subst e3;refine ki O hn hB a (by omega) fun i j h1 h2=>?_
   by_cases hij:i=j
   ·rw[hij];exact O.rf _
   ·have x1:i=0:=by omega
    have x2:j=1:=by omega
    rw[x1,x2];exact O.as _ _ dn
def kM(O:Ord lt)(hn:0<n){p:Array Nat}{k:Nat}(hB:Bas n p)(hs:Asc lt p k):∀(f l r:Nat),l<=r->r<=k->r - l<=f->(∀i,i<l->lt (at0 p k) (at0 p i)=false)->(∀i,r<=i->i<k->lt (at0 p i) (at0 p k)=false)->
  okT n lt (kas_place p k f l r) (fun l=>l<=k/\(∀i,i<l->lt (at0 p k) (at0 p i)=false)/\∀i,l<=i->i<k->lt (at0 p i) (at0 p k)=false)
 |0,l,r,h1,h2,h3,h4,h5=>⟨by omega,h4,fun i a b=>h5 i (by omega) b⟩
 |f+1,l,r,h1,h2,h3,h4,h5=>by
  unfold kas_place
  by_cases hge:l ≥ r
  ·rw[acR hge];exact⟨by omega,h4,fun i a b=>h5 i (by omega) b⟩
  ·rw[acS hge];refine⟨hB.lt hn k,hB.lt hn _,?_⟩;cases e:lt (p.getD k 0) (p.getD ((l+r) / 2) 0) with
   |true=>
    refine lH ?_;refine kM O hn hB hs f l ((l+r) / 2) (by omega) (by omega) (by omega) h4 fun i a b=>?_
    exact O.tr _ _ _ (O.as _ _ e) (hs _ i a b)
   |false=>
    refine lI ?_;refine kM O hn hB hs f ((l+r) / 2+1) r (by omega) h2 (by omega) (fun i a=>?_) h5;exact O.tr _ _ _ (hs i ((l+r) / 2) (by omega) (by omega)) e
def uN(O:Ord lt)(hn:0<n):∀(f:Nat) (p:Array Nat) (k:Nat),Bas n p->k+f<=n->Asc lt p k->okT n lt (kas_bin f p k) (fun p'=>Bas n p'/\Asc lt p' (k+f))
 |0,p,k,hB,_,h=>⟨hB,h⟩
 |f+1,p,k,hB,hf,h=>by
  refine fI _ (cw (fun l hl=>?_) _ (kM O hn hB h k 0 k (acI _) (acH _) (by omega) (fun i z=>absurd z (Nat.not_lt_zero _)) fun i a b=>by omega));obtain⟨h1,h2,h3⟩:=hl;have hks:k<p.size:=by rw[hB.size];omega
  refine cw (fun r hr=>⟨hr.1,by rw[show k+(f+1)=k+1+f by omega];exact hr.2⟩) _ (uN O hn f _ (k+1) (hB.bub _ _) (by omega) fun i j hij hj=>?_);have one:∀x,x<k+1->(at0 (bubble p k (k - l)) x=at0 p k/\x=l)\/(at0 (bubble p k (k - l)) x=at0 p (x - 1)/\l<x)\/(at0 (bubble p k (k - l)) x=at0 p x/\x<l):=fun x hx=>by
   rw[yB hks h1]
   by_cases q1:x=l
   ·rw[acR q1];exact .inl ⟨rfl,q1⟩
   ·rw[acS q1]
    by_cases q2:l<x/\x<=k
    ·rw[acR q2];exact .inr (.inl ⟨rfl,q2.1⟩)
    ·rw[acS q2];exact .inr (.inr ⟨rfl,by omega⟩)
  rcases one i (by omega) with ⟨e1,c1⟩|⟨e1,c1⟩|⟨e1,c1⟩
  ·rcases one j hj with ⟨e2,c2⟩|⟨e2,c2⟩|⟨e2,c2⟩
   ·rw[e1,e2];exact O.rf _
   ·rw[e1,e2];exact h3 _ (by omega) (by omega)
   ·omega
  ·rcases one j hj with ⟨e2,c2⟩|⟨e2,c2⟩|⟨e2,c2⟩
   ·omega
   ·rw[e1,e2];exact h _ _ (by omega) (by omega)
   ·omega
  ·rcases one j hj with ⟨e2,c2⟩|⟨e2,c2⟩|⟨e2,c2⟩
   ·rw[e1,e2];exact h2 _ c1
   ·rw[e1,e2];exact h _ _ (by omega) (by omega)
   ·rw[e1,e2];exact h _ _ (by omega) (by omega)
def mt(O:Ord lt)(hn:0<n):okT n lt (kas_sort n) (fun p=>Bas n p/\Asc lt p n):=by
 refine fI _ (cw (fun r hr=>?_) _ (wz O hn (p:=(List.range n).toArray) (Array.Perm.refl _)));obtain⟨a,b,c,d⟩:=hr
 by_cases hlt:r.1<n
 ·rw[acR hlt];have hm:max r.1 1=r.1:=by omega
  rw[hm];refine cw (fun p hp=>⟨hp.1,?_⟩) _ (uN O hn (n - r.1) r.2 r.1 c (by omega) d);have:=hp.2
  rwa [show r.1+(n - r.1)=n by omega] at this
 ·rw[acS hlt];have e:r.1=n:=by omega
  exact⟨c,by rw[←e];exact d⟩
end
end SL
namespace SL
open PySem PySem.W PyProof.Rows
def dJ(h:Heap)(d:Addr)(es:Array DictEntry)(ep:Nat):Prop:=∃ob,h.get? d=some ob/\ob.ExactDict/\ob.data=.dict es ep
def dJ.on{h h':Heap}{d:Addr}{es:Array DictEntry}{ep:Nat}(x:dJ h d es ep)(k:∀ob,h.get? d=some ob->h'.get? d=some ob):dJ h' d es ep:=let ⟨ob,a,r⟩:=x;⟨ob,k ob a,r⟩
def dJ.lt{h:Heap}{d:Addr}{es:Array DictEntry}{ep:Nat}(x:dJ h d es ep):d<h.objs.size:=let ⟨_,a,_⟩:=x;acw a
section
variable {prog:Program}{w:World}{A:Around}{E:Value->Shared->Prop}{s:Shared}{d it:Addr}{es:Array DictEntry}{ep i:Nat}
def dJ.ty(x:dJ s.heap d es ep):s.TypeIs (.ref d) "dict":=let ⟨ob,a,c,_⟩:=x;⟨ob,a,c.1⟩
def kN{Q:Value->Shared->Prop}(lo:(d == sysModules)=false)(x:dJ s.heap d es ep)
  (q:Q (.ref s.heap.objs.size) {s with heap:=s.heap.push {cls:=.type "dict_keyiterator",data:=.fields #[.ref d,.int 0 0,.int es.size 0,.int ep 0]}}):wpAny (model prog w) A (pyIter (.ref d)) Q E s:=by
 have T:=x.ty;obtain⟨ob,e1,c,e2⟩:=id x;refine wpAny_pyIter_slot T F.slot_dict_iter (abP F.slot_dict_iter T F.entry_dict_iter ?_ (F.args_dict_iter_1 _));unfold Builtin.«dict.__iter__» Builtin.Dict.dictSlotNone;refine wpAny_bind (wpAny_bind (wpAny_notOrdered_dict T ?_));change wpAny (model prog w) _ (pure (Value.ref d)) _ _ s;refine wpAny_pure ?_;change wpAny (model prog w) _ (Builtin.Dict.showsAll d >>= _) _ _ s;unfold Builtin.Dict.showsAll;rw[acS (by rw[lo];decide)];refine wpAny_bind (wpAny_pure (wpAny_bind (abG e1 e2 (wpAny_bind (wpAny_dictEpoch e1 e2 ?_)))));refine wpAny_bind (aby (wpAny_pure ⟨_,rfl,"dict_keyiterator",_,⟨_,aa3 _ rfl,rfl⟩,aad.lookup,?_⟩));simpa [rawInt] using q
def kO{Q:Option Value->Shared->Prop}(hit:s.heap.IsKeyIter it d i es.size ep)(x:dJ s.heap d es ep)(hi:i<es.size)
  (q:∀h',h'.IsKeyIter it d (i+1) es.size ep->Heap.SameBut it s.heap h'->Q (some es[i].key) {s with heap:=h'}):wpAny (model prog w) A (pyNext (.ref it)) Q E s:=by
 obtain⟨oi,f1,f2,f3⟩:=id hit;obtain⟨ob,e1,c,e2⟩:=id x;have T:=hit.typeIs;unfold pyNext;refine wpAny_bind (wpAny_attempt (aaw (name:=Str.ofString "__next__") T aad (abP aad T F.entry_dict_keyiterator_next ?_ (F.args_dict_keyiterator_next_1 _))));refine wpAny_bind (wpAny_pure (wpAny_bind (wpAny_bind ?_)))
 first | refine wpAny_bind (aac T (wpAny_pure ?_)) | refine wpAny_bind (aau T (wpAny_pure ?_))
 refine wpAny_bind (ack f1 f3 ?_);simp only[show Builtin.Dict_items.ownsTuple "dict_keyiterator"=false by decide,abm,acO];change wpAny (model prog w) _ (if (Value.ref d == Value.none)=true then _ else _) _ _ s;rw[acS (show ¬(Value.ref d == Value.none)=true from abf)];refine wpAny_bind (wpAny_pure (wpAny_bind (abG e1 e2 ?_)));rw[acS (by simp)];refine wpAny_bind (wpAny_pure (wpAny_bind (wpAny_dictEpoch e1 e2 ?_)));rw[acS (by simp)];refine wpAny_pure ?_;simp only[show ¬(i:Int)<0 by omega,acO,abu,aal hi];refine wpAny_bind ?_
 first | refine wpAny_bind (aac T (wpAny_pure ?_)) | refine wpAny_bind (aau T (wpAny_pure ?_))
 refine wpAny_bind (wpAny_isOneOf_keyiter T ?_);change wpAny (model prog w) _ (setField (.ref it) 1 (rawInt ((i:Int)+1)) >>= _) _ _ s;refine wpAny_bind (acl f1 f3 (by simp) ?_);generalize hh:s.heap.update it (Obj.mapFields (·.setIfInBounds 1 (rawInt ((i:Int)+1))))=h';have J:h'.IsKeyIter it d (i+1) es.size ep:=by
  rw[←hh];exact⟨_,aaK _ f1 (Obj.isFreed_of_fields (Obj.data_mapFields f3 _)),(Obj.cls_mapFields ..).trans f2,by rw[Obj.data_mapFields f3];simp[rawInt]⟩
 have sb:Heap.SameBut it s.heap h':=by rw[←hh];exact aa6 ..
 refine wpAny_bind (act (wpAny_bind (wpAny_isOneOf_keyiter (s:={s with heap:=h'}) J.typeIs ?_)));change wpAny (model prog w) _ (pure es[i].key) _ _ _;exact wpAny_pure (wpAny_pure ⟨_,rfl,wpAny_pure (q h' J sb)⟩)
def kP{Q:Option Value->Shared->Prop}(hn:A.handled=none)(hit:s.heap.IsKeyIter it d i es.size ep)(x:dJ s.heap d es ep)(hi:es.size<=i)
  (q:∀h',Heap.ExtBut it s.heap h'->Q none {s with heap:=h'}):wpAny (model prog w) A (pyNext (.ref it)) Q E s:=by
 obtain⟨oi,f1,f2,f3⟩:=id hit;obtain⟨ob,e1,c,e2⟩:=id x;have T:=hit.typeIs;unfold pyNext;refine wpAny_bind (wpAny_attempt (aaw (name:=Str.ofString "__next__") T aad (abP aad T F.entry_dict_keyiterator_next ?_ (F.args_dict_keyiterator_next_1 _))));refine wpAny_bind (wpAny_pure (wpAny_bind (wpAny_bind ?_)))
 first | refine wpAny_bind (aac T (wpAny_pure ?_)) | refine wpAny_bind (aau T (wpAny_pure ?_))
 refine wpAny_bind (ack f1 f3 ?_);simp only[show Builtin.Dict_items.ownsTuple "dict_keyiterator"=false by decide,abm,acO];change wpAny (model prog w) _ (if (Value.ref d == Value.none)=true then _ else _) _ _ s;rw[acS (show ¬(Value.ref d == Value.none)=true from abf)];refine wpAny_bind (wpAny_pure (wpAny_bind (abG e1 e2 ?_)));rw[acS (by simp)];refine wpAny_bind (wpAny_pure (wpAny_bind (wpAny_dictEpoch e1 e2 ?_)));rw[acS (by simp)];refine wpAny_pure ?_;simp only[show ¬(i:Int)<0 by omega,acO,abu,aaC hi];refine wpAny_bind ?_
 first | refine wpAny_bind (aac T (wpAny_pure ?_)) | refine wpAny_bind (aau T (wpAny_pure ?_))
 change wpAny (model prog w) _ (setField (.ref it) 0 .none >>= _) _ _ s;refine wpAny_bind (acl f1 f3 (by simp) ?_);change wpAny (model prog w) _ (newExc (.type "StopIteration") [] >>= _) _ _ _;refine wpAny_bind ?_;simp only[newExc,newTuple];refine wpAny_bind (aby (wpAny_bind (m:=firstArgMember _ _) (wpAny_of_eq (a:=Value.none) (by first | rfl | (simp only[firstArgMember];rfl)) (aby ?_ (by size_fits)))) (by size_fits));simp only[raiseNew];refine wpAny_bind (wpAny_handled ?_);rw[show A.in1.handled=none from hn];refine wpAny_bind (wpAny_pure (wpAny_throw ?thr));exact wpAny_bind (abQ (T:="StopIteration") (b:=true) ⟨_,aa3 _ rfl,rfl⟩ isSubtype_stop (wpAny_pure (q _ (((aa6 ..).extBut.push _).push _))))
end
section
variable {prog:Program}{w:World}{d:Addr}{es:Array DictEntry}{ep:Nat}
def wA{A:Around}(hn:A.handled=none)(it:Addr)(hne:d≠it):Walks prog w A it [it,d] [it] es.size (fun i v=>∃e,es[i]? =some e/\v=e.key) (fun i h=>h.IsKeyIter it d i es.size ep/\dJ h d es ep) where
 sub:=fun b hb=>by rw[abl.mp hb];exact abe ..
 frame:=fun _ _ _ st k=>⟨let ⟨o,a,r⟩:=st.1;⟨o,k it (abe ..) o a,r⟩,st.2.on fun o a=>k d (aaU _ (abe ..)) o a⟩
 item:=fun i s Q E hi st q=>kO st.1 st.2 hi fun h' J sb=>q _ h' s.toks ⟨es[i],aal hi,rfl⟩ ⟨J,st.2.on fun o a=>(sb.2 d hne).trans a⟩ fun b o hb e=>(sb.2 b (fun z=>hb (abl.mpr z))).trans e
 done:=fun s Q E st q=>kP hn st.1 st.2 (acH _) fun h' x=>q h' s.toks fun b o hb e=>x b o (fun z=>hb (abl.mpr z)) e
 self:=fun _ _ _ _ st q=>wpAny_pyIter_keyiter st.1 q
def yC(lo:(d == sysModules)=false):KdlSrc prog w "dict" d d es.size (fun i v=>∃e,es[i]? =some e/\v=e.key) (fun h=>dJ h d es ep) where
 type:=fun _ x=>x.ty
 there:=fun _ x=>⟨x.lt,x.lt⟩
 keep:=fun _ _ x k=>x.on fun o e=>k d (.inl rfl) o e
 notList:=by decide
 notTuple:=by decide
 hint:=fun _ _ _ _ x q=>kdl_hint_dict x.ty q
 iter:=fun _ _ hn x=>⟨_,_,(fun _ _ q=>kN lo x q),wA hn _ (acx x.lt),⟨⟨_,aa3 _ rfl,rfl,rfl⟩,x.on fun o e=>aaz _ e⟩⟩
def kj{A:Around}{E:Value->Shared->Prop}{s:Shared}{R:List Value->Shared->Prop}(lo:(d == sysModules)=false)(hn:A.handled=none)(x:dJ s.heap d es ep)(hz:es.size<=sizeLine)
  (q:∀(h':Heap) (tk:Nat),(∀b o,s.heap.get? b=some o->h'.get? b=some o)->R (es.toList.map (·.key)) {s with heap:=h',toks:=tk}):wpAny (model prog w) A (collect (.ref d)) R E s:=by
 refine kdu_collect (yC lo) hn x hz fun h' tk acc k hI=>?_
 have e:acc.toList=es.toList.map (·.key):=by
  apply abE;intro j;rw[abt,aaI,aaI];cases q1:acc[j]? with
  |none=>
   rw[Array.getElem?_eq_none_iff,hI.1] at q1;rw[aaC q1];rfl
  |some v=>
   obtain⟨en,h1,h2⟩:=hI.2 j v q1;rw[h1,h2];rfl
 rw[e];exact q h' tk k
end
end SL
namespace SL
open PySem PySem.W PyProof.Rows
def kQ(prog:Program)(w:World)(A:Around)(s:Shared)(ks:List Value)(lt:Nat->Nat->Bool):Prop:=
 ∃κ,(∀(Q:SortKind->Shared->Prop) (E:Value->Shared->Prop),Q κ s->wpAny (model prog w) A (keyKind' ks.toArray) Q E s)/\
  ∀i j (C:Bool->Shared->Prop),i<ks.length->j<ks.length->C (lt i j) s->kas_ask prog w A κ ks i j C s
abbrev ce(vs:List Value)(p:Array Nat):List Value:=p.toList.map fun i=>vs.getD i Value.none
def jv(vs:List Value):ce vs (List.range vs.length).toArray=vs:=by
 apply abE;intro j;unfold ce;rw[abt]
 by_cases h:j<vs.length
 ·simp[h]
 ·have h:vs.length<=j:=Nat.le_of_not_lt h;simp[h]
def Asc.few(O:Ord lt){p:Array Nat}{n:Nat}(hn:n<2):Asc lt p n:=fun i j h1 h2=>by
 have e1:j=0:=by omega
 have e2:i=0:=by omega
 rw[e1,e2];exact O.rf _
def mv{vs:List Value}{p:Array Nat}(h:Bas vs.length p):(ce vs p).length=vs.length:=by
 unfold ce;rw[ab3,aa2,h.size]
section
variable {prog:Program}{w:World}{A:Around}{E:Value->Shared->Prop}{s:Shared}{lt:Nat->Nat->Bool}
def sL{a:Addr}{vs:List Value}{n:Nat}{P:PySem.Fin->Shared->Prop}(O:Ord lt)(hx:s.heap.get? a=some (seqObj "list" vs.toArray n))(h64:vs.length<64)
  (hA:∀h',(∀b o,b≠a->s.heap.get? b=some o->h'.get? b=some o)->2<=vs.length->kQ prog w A {s with heap:=h'} vs lt)
  (fin:∀(p:Array Nat) (h':Heap) (e:Nat),Bas vs.length p->Asc lt p vs.length->(∀b o,b≠a->s.heap.get? b=some o->h'.get? b=some o)->h'.get? a=some (seqObj "list" (ce vs p).toArray e)->P (.done (.ret .none)) {s with heap:=h'}) :
  wpAny (model prog w) A (Builtin.«list.sort» ⟨[.ref a],[]⟩) P E s:=by
 obtain⟨e1,hx1⟩:∃e1,(s.heap.update a (Obj.mapSeq fun _=>(#[]:Array Value))).get? a=some (seqObj "list" #[] e1):=⟨_,get?_update_seq hx fun _=>#[]⟩;have hz:∀m,m<=vs.length->m<=sizeLine:=fun m hm=>by rw[acJ];omega
 rw[list_sort_plain];refine wpAny_bind (listItems_at hx rfl (wpAny_bind (listUpdate_at hx rfl ?_ (by rw[abr];exact hz _ (acH _)) (acI _))));refine wpAny_bind (seqEpoch_at hx1 rfl (wpAny_bind (wpAny_newTuple (wpAny_bind (wpAny_newList (act ?_) (acI _))) (hz _ (acH _)))));generalize hh:((s.heap.update a (Obj.mapSeq fun _=>(#[]:Array Value))).push (seqObj "tuple" vs.toArray 0)).push (seqObj "list" #[] 0)=h2;have k2:∀b o,b≠a->s.heap.get? b=some o->h2.get? b=some o:=fun b o hb e=>by
  rw[←hh];exact aaz _ (aaz _ (((aa6 ..).2 b hb).trans e))
 have a2:h2.get? a=some (seqObj "list" #[] e1):=by rw[←hh];exact aaz _ (aaz _ hx1)
 have tail:∀(st:SortSt) (p:Array Nat),Bas vs.length p->Asc lt p vs.length->(arrOf st).map (·.2)=(ce vs p).toArray->failedOf st=none->
   wpAny (model prog w) A (do
    let tch:=(←seqEpoch a) != e1
    Builtin.List.listUpdate (.ref a) fun _=>(arrOf st).map (·.2)
    if let some e:=failedOf st then rule "list.sort.comparison-raised";throw e
    if tch then rule "list.sort.modified";raiseError "ValueError" "list modified during sort"
    ret .none) P E {s with heap:=h2}:=by
  intro st p hB hS ho hf;rw[ho,hf];have hsz:(ce vs p).toArray.size<=sizeLine:=by rw[abr,mv hB];exact hz _ (acH _)
  refine wpAny_bind (seqEpoch_at a2 rfl (wpAny_bind (listUpdate_at a2 rfl ?_ (acI _) (Nat.le_succ_of_le hsz))));simp only[bne_self_eq_false,abm,acO];obtain⟨e2,a3⟩:∃e2,(h2.update a (Obj.mapSeq fun _=>(ce vs p).toArray)).get? a=some (seqObj "list" (ce vs p).toArray e2):=⟨_,get?_update_seq a2 fun _=>(ce vs p).toArray⟩;exact wpAny_pure (fin p _ e2 hB hS (fun b o hb e=>((aa6 ..).2 b hb).trans (k2 b o hb e)) a3)
 change wpAny (model prog w) A _ P E {s with heap:=h2};dsimp only
 by_cases h2':vs.toArray.size<2
 ·rw[acR h2',acR h2'];rw[abr] at h2';refine wpAny_bind (wpAny_pure (wpAny_bind (wpAny_pure ?_)));refine tail _ (List.range vs.length).toArray (Array.Perm.refl _) (Asc.few O h2') ?_ rfl;rw[jv];apply Array.toList_inj.mp;simp;exact List.map_snd_zip (acH _)
 ·rw[acS h2',acS h2'];rw[abr] at h2';obtain⟨κ,hk,hask⟩:=hA h2 k2 (by omega);refine wpAny_bind (hk _ _ ?_);refine wpAny_bind (acM (kat_run (Q:=fun st' s'=>∃p:Array Nat,arrOf st'=p.map (kas_item (vs.toArray.zip vs.toArray))/\failedOf st'=none/\(Bas vs.length p/\Asc lt p vs.length)/\s'={s with heap:=h2}) (ks:=vs) rfl (by omega) h64
   (G:=fun p s'=>(Bas vs.length p/\Asc lt p vs.length)/\s'={s with heap:=h2}) (fun p st' s' _ q1 q2 q3=>⟨p,q1,q2,q3⟩) (lG (fun i j C hi hj=>hask i j C hi hj) _ (cw (fun p hp=>⟨hp,rfl⟩) _ (mt O (by omega))))) ?_ fun _ _ z=>z)
  rintro⟨⟨⟩,st'⟩ s' ⟨p,q1,q2,⟨q3,q4⟩,rfl⟩;exact tail st' p q3 q4 (kat_snds rfl q1) q2
def pI{x:Value}{Q:Value->Shared->Prop}(hcol:wpAny (model prog w) A.in1 (collect x) (fun vs s₁=>vs.length<64/\∃lt,Ord lt/\
   (∀h',(∀b o,s₁.heap.get? b=some o->h'.get? b=some o)->2<=vs.length->kQ prog w A.in1.in1 {s₁ with heap:=h'} vs lt)/\
   ∀(p:Array Nat) (h':Heap) (e:Nat),Bas vs.length p->Asc lt p vs.length->(∀b o,s₁.heap.get? b=some o->h'.get? b=some o)->h'.get? s₁.heap.objs.size=some (seqObj "list" (ce vs p).toArray e)->Q (.ref s₁.heap.objs.size) {s₁ with heap:=h'}) E s) :
  wpAny (model prog w) A (call (.builtin "sorted") [x]) Q E s:=by
 refine Calls.call_function_entry kind_sorted plain_sorted entry_sorted (args_sorted1 _) ?_;unfold Builtin.«sorted»;refine wpAny_bind (m:=checkCount "sorted" 1 1 _) (wpAny_pure (wpAny_bind (acM hcol (fun vs s₁ h₁=>?_) fun _ _ z=>z)));obtain⟨h64,lt,O,hA,fin⟩:=h₁;refine wpAny_bind (wpAny_newList ?_ (by rw[acJ];omega));have hx:(s₁.heap.push (seqObj "list" vs.toArray 0)).get? s₁.heap.objs.size=some (seqObj "list" vs.toArray 0):=aa3 _ rfl;have up:∀b o,s₁.heap.get? b=some o->b≠s₁.heap.objs.size/\(s₁.heap.push (seqObj "list" vs.toArray 0)).get? b=some o:=fun b o e=>⟨acx (acw e),aaz _ e⟩
 change wpAny (model prog w) _ _ _ _ {s₁ with heap:=s₁.heap.push (seqObj "list" vs.toArray 0)};refine wpAny_bind (act (abP slot_list_sort ⟨_,hx,rfl⟩ entry_list_sort (sL O hx h64 (fun h' k=>hA h' fun b o e=>k b o (up b o e).1 (up b o e).2) fun p h' e hB hS k he=>?_) (args_list_sort _)));exact⟨_,rfl,wpAny_pure ⟨_,rfl,fin p h' e hB hS (fun b o z=>k b o (up b o z).1 (up b o z).2) he⟩⟩
end
def ltS(a b:Str):Bool:=decide (a.cps.toList<b.cps.toList)
def ltP(p q:Str×Str):Bool:=if p.1=q.1 then ltS p.2 q.2 else ltS p.1 q.1
def lJ(a b:Str):ltS a b=!leS b a:=by unfold ltS leS;rw[Bool.not_not]
def qZ{p q:Str×Str}:ltP q p=false↔(p.1=q.1/\leS p.2 q.2=true)\/(p.1≠q.1/\leS p.1 q.1=true):=by
 unfold ltP
 by_cases h:p.1=q.1
 ·rw[acR h.symm,lJ];simp[h]
 ·rw[acS (fun z=>h z.symm),lJ];simp[h]
def zW(a b c:Str×Str)(h1:ltP b a=false)(h2:ltP c b=false):ltP c a=false:=by
 rw[qZ] at h1 h2 ⊢;rcases h1 with ⟨x1,y1⟩|⟨x1,y1⟩
 ·rcases h2 with ⟨x2,y2⟩|⟨x2,y2⟩
  ·exact .inl ⟨x1.trans x2,jk _ _ _ y1 y2⟩
  ·exact .inr ⟨by rw[x1];exact x2,by rw[x1];exact y2⟩
 ·rcases h2 with ⟨x2,y2⟩|⟨x2,y2⟩
  ·exact .inr ⟨by rw[←x2];exact x1,by rw[←x2];exact y1⟩
  ·refine .inr ⟨fun z=>?_,jk _ _ _ y1 y2⟩;rw[←z] at y2;exact x1 (oS _ _ y1 y2)
def zX(a b:Str×Str)(h:ltP a b=true):ltP b a=false:=by
 rw[qZ];unfold ltP at h
 by_cases e:a.1=b.1
 ·rw[acR e,lJ] at h;refine .inl ⟨e,?_⟩;have:=jj a.2 b.2;rw[Bool.not_eq_true'] at h
  rwa [h,Bool.or_false] at this
 ·rw[acS e,lJ] at h;refine .inr ⟨e,?_⟩;have:=jj a.1 b.1;rw[Bool.not_eq_true'] at h
  rwa [h,Bool.or_false] at this
def zY(f:Nat->Str×Str):Ord (fun i j=>ltP (f i) (f j)):=⟨fun a b c=>zW _ _ _,fun a b=>zX _ _⟩
abbrev InP(l:List (Str×Str)):Prop:=l.Pairwise fun a b=>ltP b a=false
end SL
namespace L2
open PySem PySem.W PySem.Spec PyProof.Rows
open SL (dJ kQ Ord Bas Asc ce ltP ltS InP zY)
def bQ:List Key->Str×Str
 |[.inr x,.inr y]=>(x,y)
 |_=>(Str.empty,Str.empty)
def IsPair(k:List Key):Prop:=∃x y,k=[.inr x,.inr y]
def IsPair.eq{k:List Key}(h:IsPair k):k=[.inr (bQ k).1,.inr (bQ k).2]:=by
 obtain⟨x,y,rfl⟩:=h;rfl
def getD_map{α β:Type}(f:α->β)(l:List α){i:Nat}(hi:i<l.length)(d:α)(d':β):(l.map f).getD i d'=f (l.getD i d):=by
 rw[aah,abt,aah,aao hi];rfl
def getD_mem{α:Type}(l:List α){i:Nat}(hi:i<l.length)(d:α):l.getD i d∈l:=by
 rw[aah,aao hi];exact abN hi
section
variable {X:Cx}{pins:List (Addr×Obj)}{σ:St}{H:Hp}{s:Shared}
def Inv.wB{p:Addr}{kvs:List (List Key×V)}(I:Inv X pins σ H s)(h:H p=some (.dT kvs)):(p == sysModules)=false/\kvs.length<=sizeLine/\∃(xs:List (List Key×Addr×Value)) (es:Array DictEntry) (ep:Nat),KT H kvs xs/\dJ s.heap p es ep/\
  es.toList.map (·.key)=xs.map (fun x=>Value.ref x.2.1)/\(kvs.map (·.1)).Nodup:=by
 obtain⟨z,y,xs,r,o,es,ep,h1,h2,h3,h4,h5⟩:=(show aX X.prog X.w H s.heap p (.dT kvs) from I.hok p _ h);refine⟨y,z,xs,es,ep,r,⟨o,h1,h2,h3⟩,?_,?_⟩
 ·rw[h4,acD];rfl
 ·have e:∀{l:List (List Key×V)} {m:List (List Key×Addr×Value)},KT H l m->l.map (·.1)=m.map (·.1):=by
   intro l m q
   induction q with
   |nil=>rfl
   |cons a b ih=>rw[acr,acr,ih,a.1]
  rw[e r];exact h5
def KT.len{kvs:List (List Key×V)}{xs:List (List Key×Addr×Value)}(r:KT H kvs xs):kvs.length=xs.length:=aco r
def KT.get:∀{kvs:List (List Key×V)} {xs:List (List Key×Addr×Value)},KT H kvs xs->∀(i:Nat) (x:List Key×Addr×Value),xs[i]? =some x->∃v,kvs[i]? =some (x.1,v)/\H x.2.1=some (.tup (x.1.map kV))
 |_,_,.nil,i,x,h=>by simp at h
 |_,_,.cons a r,0,x,h=>by
  simp at h;subst h;exact⟨_,by rw[List.getElem?_cons_zero,←a.1],by rw[←a.1];exact a.2.1⟩
 |_,_,.cons a r,i+1,x,h=>by
  simp only[List.getElem?_cons_succ] at h ⊢;exact KT.get r i x h
def yD{h:Heap}{a:Addr}{x y:Str}{P:Program}{w:World}(ok:HOk P w H h)(e:H a=some (.tup [.str x,.str y])):∃o n t u,h.get? a=some o/\o.cls=.type "tuple"/\o.data=.seq #[.str x t,.str y u] n:=by
 obtain⟨_,its,r,o,h1,h2,n,h3⟩:=(show aX P w H h a (.tup [.str x,.str y]) from ok a _ e);obtain⟨v,w',rfl,⟨t,rfl⟩,⟨u,rfl⟩⟩:=vals2 r;exact⟨o,n,t,u,h1,h2,h3⟩
def yE{A:Around}{E:Value->Shared->Prop}{a b:Addr}{p q:Str×Str}{Q:Bool->Shared->Prop}{prog:Program}{w:World}(ha:∃o n t u,s.heap.get? a=some o/\o.cls=.type "tuple"/\o.data=.seq #[.str p.1 t,.str p.2 u] n)
  (hb:∃o n t u,s.heap.get? b=some o/\o.cls=.type "tuple"/\o.data=.seq #[.str q.1 t,.str q.2 u] n)(h:Q (ltP p q) s):wpAny (model prog w) A (keyLt' (tuples' true) (.ref a) (.ref b)) Q E s:=by
 obtain⟨oa,na,ta,ua,a1,a2,a3⟩:=ha;obtain⟨ob,nb,tb,ub,b1,b2,b3⟩:=hb;refine kat_lt a1 a3 b1 b3 (kat_cons (wpAny_eqBool_str ?_));unfold ltP at h
 by_cases e:p.1=q.1
 ·rw[acR e] at h;rw[aci e];refine kat_yes (kat_cons (wpAny_eqBool_str ?_))
  by_cases e2:p.2=q.2
  ·rw[aci e2];refine kat_yes (kat_nil ?_);have z:ltS p.2 q.2=false:=by rw[e2];exact abX (List.lt_irrefl _)
   rw[z] at h;exact h
  ·rw[abX e2];exact kat_no (kat_one _ _ (lt_str h))
 ·rw[acS e] at h;rw[abX e];exact kat_no (oneLt_str h)
def ra{h:Heap}:∀{xs:List (List Key×Addr×Value)},(∀x∈xs,∃o n t u,h.get? x.2.1=some o/\o.cls=.type "tuple"/\o.data=.seq #[.str (bQ x.1).1 t,.str (bQ x.1).2 u] n)->
  ∃fs:List Value,KatTups h (xs.map fun x=>Value.ref x.2.1) fs/\fs.length=xs.length/\∀v∈fs,∃z t,v=Value.str z t
 |[],_=>⟨[],KatTups.nil,rfl,fun v hv=>by cases hv⟩
 |x::r,hx=>by
  obtain⟨o,n,t,u,h1,h2,h3⟩:=hx x (abe ..);obtain⟨fs,k,l,a⟩:=ra fun y hy=>hx y (aaU _ hy)
  refine⟨.str (bQ x.1).1 t::fs,KatTups.cons h1 h2 h3 rfl k,by rw[abI,abI,l],fun v hv=>?_⟩;rcases acq.mp hv with rfl|hv
  ·exact⟨_,_,rfl⟩
  ·exact a v hv
def sM{prog:Program}{w:World}{A:Around}{xs:List (List Key×Addr×Value)}(h2:2<=xs.length)(hx:∀x∈xs,∃o n t u,s.heap.get? x.2.1=some o/\o.cls=.type "tuple"/\o.data=.seq #[.str (bQ x.1).1 t,.str (bQ x.1).2 u] n) :
  kQ prog w A s (xs.map fun x=>Value.ref x.2.1) (fun i j=>ltP (bQ ((xs.map (·.1)).getD i [])) (bQ ((xs.map (·.1)).getD j []))):=by
 obtain⟨fs,kt,kl,ks⟩:=ra hx;refine⟨tuples' (Value.type "str" != Value.type "tuple"),fun Q E q=>?_,fun i j C hi hj h=>?_⟩
 ·refine kat_kind kt (by omega) (T:=Value.type "str") (fun v hv=>?_) (by decide) q;obtain⟨z,t,rfl⟩:=ks v hv;exact Looks.of_pure rfl
 ·rw[ab3] at hi hj;unfold kas_ask;have h:C (ltP (bQ ((xs.map (·.1)).getD i [])) (bQ ((xs.map (·.1)).getD j []))) s:=h;rw[getD_map (·.1) xs hi ([],0,Value.none),getD_map (·.1) xs hj ([],0,Value.none)] at h;rw[getD_map (fun x=>Value.ref x.2.1) xs hi ([],0,Value.none),getD_map (fun x=>Value.ref x.2.1) xs hj ([],0,Value.none)];exact yE (hx _ (getD_mem xs hi _)) (hx _ (getD_mem xs hj _)) h
def pJ{α:Type}(l:List α)(d:α){p:Array Nat}(hB:Bas l.length p):(p.toList.map fun i=>l.getD i d).Perm l:=by
 have h1:p.toList.Perm (List.range l.length):=by
  have:=aai.mp hB;simpa using this
 have h2:=h1.map (fun i=>l.getD i d);have e:(List.range l.length).map (fun i=>l.getD i d)=l:=by
  apply abE;intro j;rw[abt]
  by_cases h:j<l.length
  ·simp[h]
  ·have h:l.length<=j:=Nat.le_of_not_lt h;simp[h]
 rwa [e] at h2
def uO{p:Array Nat}{n:Nat}{lt:Nat->Nat->Bool}(hB:Bas n p)(hS:Asc lt p n):p.toList.Pairwise fun a b=>lt b a=false:=by
 rw[aam];intro i j hi hj hij;have:=hS i j (acz hij) (by rw[aa2,hB.size] at hj;exact hj);have e:∀k (hk:k<p.toList.length),SL.at0 p k=p.toList[k]:=fun k hk=>by
  rw[SL.fW,←aaI,aao hk];rfl
 rw[e i hi,e j hj] at this;exact this
end
def pK{X:Cx}(hc:X.calm=true):dB X (.builtin "sorted") (fun xs H Q=>∃p kvs,xs=[.ref p]/\H p=some (.dT kvs)/\kvs.length<64/\(∀kv∈kvs,IsPair kv.1)/\
  ∀q (zs:List ((Str×Str)×Addr)),H q=none->(zs.map (·.1)).Perm (kvs.map fun kv=>bQ kv.1)->InP (zs.map (·.1))->(∀z∈zs,H z.2=some (.tup [.str z.1.1,.str z.1.2]))->Q (.ref q) (upd H q (.lst (zs.map fun z=>V.ref z.2)))):=by
 intro pins s σ H ys us Q I r h;obtain⟨p,kvs,rfl,hp,h64,hpr,q⟩:=h;obtain⟨u,rfl,rx⟩:=vals1 r;cases rx
 have hh:X.A.in1.handled=none:=I.ok.hd hc;obtain⟨lo,hz,xs,es,ep,kt,raw,hk,nd⟩:=I.wB hp;have hlen:=kt.len;have hes:es.size=xs.length:=by
  have:=acN List.length hk;rw[ab3,ab3,aa2] at this;exact this
 have hxs:∀x∈xs,IsPair x.1/\H x.2.1=some (.tup (x.1.map kV))/\∃v,(x.1,v)∈kvs:=fun x hx=>by
  obtain⟨i,hi⟩:=aaN.mp hx;obtain⟨v,h1,h2⟩:=kt.get i x hi;exact⟨hpr _ (aaW h1),h2,v,aaW h1⟩
 have hxT:∀x∈xs,H x.2.1=some (.tup [.str (bQ x.1).1,.str (bQ x.1).2]):=fun x hx=>by
  obtain⟨h1,h2,_⟩:=hxs x hx;have e:=h1.eq;rw[e] at h2;exact h2
 refine SL.pI (SL.kj lo hh raw (by rw[hes,←hlen];exact hz) fun h1 tk k1=>?_);rw[hk];have I1:Inv X pins σ H {s with heap:=h1,toks:=tk}:=I.kept (t':=tk) k1;refine⟨by rw[ab3,←hlen];exact h64,fun i j=>ltP (bQ ((xs.map (·.1)).getD i [])) (bQ ((xs.map (·.1)).getD j [])),zY (fun i=>bQ ((xs.map (·.1)).getD i [])),fun h' k' h2=>?_,fun pp h' e hB hS k' he=>?_⟩
 ·have I2:Inv X pins σ H {s with heap:=h',toks:=tk}:=I1.kept (t':=tk) k';rw[ab3] at h2;exact sM (s:={s with heap:=h',toks:=tk}) h2 fun x hx=>yD I2.hok (hxT x hx)
 ·rw[ab3] at hB hS
  let zs:List ((Str×Str)×Addr):=pp.toList.map fun i=>(bQ (xs.getD i ([],0,Value.none)).1,(xs.getD i ([],0,Value.none)).2.1)
  have hpx:=pJ xs ([],0,Value.none) hB;have e0:∀i∈pp.toList,i<xs.length:=fun i hi=>by
   have h1:pp.toList.Perm (List.range xs.length):=by
    have:=aai.mp hB;simpa using this
   exact acg.mp (h1.mem_iff.mp hi)
  have ho:ce (xs.map fun x=>Value.ref x.2.1) pp=zs.map fun z=>Value.ref z.2:=by
   show pp.toList.map _=(pp.toList.map _).map _;rw[acD];exact aa8 fun i hi=>getD_map (fun x=>Value.ref x.2.1) xs (e0 i hi) ([],0,Value.none) Value.none
  have hz1:zs.map (·.1)=(pp.toList.map fun i=>xs.getD i ([],0,Value.none)).map fun x=>bQ x.1:=by
   show(pp.toList.map _).map _=_;rw[acD,acD];rfl
  rw[ho] at he;have J:Inv X pins σ (upd H h1.objs.size (.lst (zs.map fun z=>V.ref z.2))) {s with heap:=h',toks:=tk}:=by
   refine I1.newList (tk:=tk) (its:=zs.map fun z=>Value.ref z.2) k' (acH _) he ?_ ?_
   ·have all:∀l:List ((Str×Str)×Addr),Vals (l.map fun z=>V.ref z.2) (l.map fun z=>Value.ref z.2):=by
     intro l
     induction l with
     |nil=>exact .nil
     |cons a l ih=>exact .cons rfl ih
    exact all zs
   ·rw[ab3];show(pp.toList.map _).length<=_;rw[ab3,aa2,hB.size,acJ];omega
  refine⟨.ref _,_,J,rfl,q _ zs I1.fresh ?_ ?_ ?_⟩
  ·rw[hz1];have h2:=hpx.map fun x=>bQ x.1
   have e:xs.map (fun x=>bQ x.1)=kvs.map fun kv=>bQ kv.1:=by
    have all:∀{l:List (List Key×V)} {m:List (List Key×Addr×Value)},KT H l m->m.map (fun x=>bQ x.1)=l.map fun kv=>bQ kv.1:=by
     intro l m z
     induction z with
     |nil=>rfl
     |cons a b ih=>rw[acr,acr,ih,a.1]
    exact all kt
   rw[←e];exact h2
  ·have h3:=uO hB hS;rw[hz1,acD,InP,List.pairwise_map];refine h3.imp_of_mem fun{a b} ha hb z=>?_
   rw[getD_map (·.1) xs (e0 a ha) ([],0,Value.none),getD_map (·.1) xs (e0 b hb) ([],0,Value.none)] at z;exact z
  ·intro z hz';obtain⟨i,hi,rfl⟩:=acB.mp hz';exact hxT _ (getD_mem xs (e0 i hi) _)
end L2
namespace SL
open PySem PySem.W PyProof.Rows
section
variable {prog:Program}{w:World}{A:Around}{E:Value->Shared->Prop}{s:Shared}{K:Type}[DecidableEq K]{knd:KeyKind prog w K}
def wC{d:Addr}{ob:Obj}{es:Array DictEntry}{ep:Nat}{xs:List (List K×Addr×Value)}{x:Str}{t:Tok}{hh:Int}{Q:Option Nat->Shared->Prop}(hu:A.units<cLine)
  (e1:s.heap.get? d=some ob)(e2:ob.data=.dict es ep)(he:es.toList=xs.map (entryOfKey (tupleKind knd)))(hx:∀y∈xs,(tupleKind knd).is s.heap y.1 y.2.1)(q:Q none s) :
  wpAny (model prog w) A (dictFind d (.str x t) hh) Q E s:=by
 have mem:∀e∈es.toList,∃y∈xs,e.key=.ref y.2.1:=fun e h=>by
  rw[he] at h;obtain⟨y,hy,rfl⟩:=acB.mp h;exact⟨y,hy,rfl⟩
 have pR:∀(i:Nat) (e:DictEntry),es[i]? =some e->∃y∈xs,e.key=.ref y.2.1:=fun i e h=>mem e (by
  rw[←aaI] at h;exact aaW h)
 unfold dictFind
 try with_reducible refine act ?_
 refine wpAny_bind (abG e1 e2 ?_);dsimp only
 by_cases h0:(es.all fun e=>isExactStrKey e.key)=true
 ·rw[acR h0];have nil:es=#[]:=by
   apply Array.toList_inj.mp;cases hl:es.toList with
   |nil=>rfl
   |cons e r=>
    exfalso;have hm:e∈es.toList:=by rw[hl];exact abe ..
    obtain⟨y,_,z⟩:=mem e hm;rw[←Array.all_toList,abR] at h0;have:=h0 e hm;rw[z] at this;cases this
  subst nil
  first | exact wpAny_bind (wpAny_pure (wpAny_pure q)) | exact wpAny_pure q | (unfold foundByValue;simp;exact wpAny_pure q)
 ·rw[acS h0];generalize hpl:placesWithHash es.size (fun i=>es[i]?.map (·.hash)) hh=places;generalize hst:places.filterMap (fun i=>es[i]?.map (·.key))=stored;have stR:∀v∈stored,∃y∈xs,v=.ref y.2.1:=fun v hv=>by
   rw[←hst] at hv;obtain⟨i,_,hi⟩:=List.mem_filterMap.mp hv;cases ei:es[i]? with
   |none=>rw[ei] at hi;cases hi
   |some e=>
    rw[ei] at hi;have hi:some e.key=some v:=hi;injection hi with hi;obtain⟨y,hy,z⟩:=pR i e ei;exact⟨y,hy,by rw[←hi,z]⟩
  cases hs:stored with
  |nil=>
   rw[acR (show((Value.str x t::([]:List Value)).all carriedByValue)=true by rfl)];have pn:places=[]:=by
    cases hp:places with
    |nil=>rfl
    |cons i r=>
     exfalso;have hi:i∈placesWithHash es.size (fun i=>es[i]?.map (·.hash)) hh:=by rw[hpl,hp];exact abe ..
     unfold placesWithHash at hi;obtain⟨h1,h2⟩:=abZ.mp hi;have hlt:i<es.size:=acg.mp h1;have:es[i].key∈stored:=by
      rw[←hst];exact List.mem_filterMap.mpr ⟨i,by rw[hp];exact abe ..,by rw[aal hlt];rfl⟩
     rw[hs] at this;cases this
   rw[pn];unfold dictWalkPlain;rw[List.forIn_nil]
   first | exact wpAny_bind (wpAny_pure (wpAny_pure q)) | exact wpAny_pure q
  |cons v r=>
   obtain⟨y0,_,z0⟩:=stR v (by rw[hs];exact abe ..);rw[acS (by rw[z0];simp[carriedByValue])];rw[acS (by rw[z0];intro z;have:=eq_of_beq z;injection this with a b;cases a)];have tell:wpAny (model prog w) A (tableMayTell (.str x t) (v::r)) (fun b s'=>b=false/\s'=s) E s:=by
    unfold tableMayTell;rw[acS (by simp)];refine wpAny_bind (wpAny_of_eq (eqIsQuiet_byValue 8 rfl) ?_);simp only[Bool.not_true,abm,acO];refine wpAny_bind (wpAny_forIn_list _ (fun rest rr s'=>s'=s/\rr=(none,())/\∀u∈rest,∃y∈xs,u=.ref y.2.1) _ ?_ ?_ _ _ ⟨rfl,rfl,fun u hu=>stR u (by rw[hs];exact hu)⟩)
    ·rintro u rest rr s' ⟨rfl,rfl,hr⟩;obtain⟨y,hy,rfl⟩:=hr u (abe ..);refine wpAny_bind (wpAny_eqIsQuiet_tuple (hx y hy) ?_);simp only[Bool.not_true,abm,acO];exact wpAny_pure ⟨rfl,rfl,fun z hz=>hr z (aaU _ hz)⟩
    ·rintro rr s' ⟨rfl,rfl,_⟩;exact wpAny_pure ⟨rfl,rfl⟩
   refine wpAny_bind (acM tell (fun b s' hb=>?_) fun _ _ z=>z);obtain⟨rfl,rfl⟩:=hb;rw[acS (by simp)];refine wpAny_bind (wpAny_forIn_list _ (fun rest rr s''=>s''=s'/\rr=(none,none)) _ ?_ ?_ _ _ ⟨rfl,rfl⟩)
   ·rintro i rest rr s'' ⟨rfl,rfl⟩;cases ei:es[i]? with
    |none=>exact wpAny_pure ⟨rfl,rfl⟩
    |some e=>
     dsimp only;obtain⟨y,hy,z⟩:=pR i e ei
     by_cases hc:(e.hash == hh)=true
     ·rw[acR hc];obtain⟨o,its,n,i1,i2,i3,_⟩:=hx y hy;refine wpAny_bind (wpAny_dictEpoch e1 e2 ?_);rw[z];refine wpAny_bind (PySem.SeqAt.EqAt.tuple_str x t ⟨o,i1,i2,n,i3⟩ hu prog w _ _ ?_);refine wpAny_bind (wpAny_dictEpoch e1 e2 ?_);rw[acS (by simp)];simp only[abm,acO,Bool.false_and];exact wpAny_bind (wpAny_rule (wpAny_pure ⟨rfl,rfl⟩))
     ·rw[acS hc];exact wpAny_pure ⟨rfl,rfl⟩
   ·rintro rr s'' ⟨rfl,rfl⟩;exact wpAny_pure q
def yF{d:Addr}{xs:List (List K×Addr×Value)}{x:Str}{t:Tok}{Q:Option Value->Shared->Prop}(hu:A.units<cLine)(D:s.heap.DictOfH (tupleKind knd) d xs)
  (q:Q none {s with toks:=s.toks+1}):wpAny (model prog w) A (dictGet d (.str x t)) Q E s:=by
 obtain⟨ob,es,ep,h1,_,h2,h3,h4,_⟩:=D;unfold dictGet
 try with_reducible refine act ?_
 exact wpAny_bind (wpAny_pyHash_str (wpAny_bind (wC (s:={s with toks:=s.toks+1}) hu h1 h2 h3 h4 (wpAny_pure q))))
end
section
variable {prog:Program}{w:World}{A:Around}{E:Value->Shared->Prop}{s:Shared}{K:Type}[DecidableEq K]{knd:HeapKind prog w K}
def uP{d a:Addr}{xs:List (K×Addr×Value)}{k:K}{dv:Value}{Q:Value->Shared->Prop}(hu:knd.room A)(hk:knd.is s.heap k a)(D:s.heap.DictOfH knd d xs)(hz:xs.length<=sizeLine)
  (q1:∀p,atKey xs k=some p->Q p.2 {s with toks:=s.toks+knd.draws k})
  (q2:atKey xs k=none->∀h',h'.DictOfH knd d (storedH xs k a dv)->Heap.SameBut d s.heap h'->Q dv {s with heap:=h',toks:=s.toks+knd.draws k}):wpAny (model prog w) A (dictSetDefault d (.ref a) dv) Q E s:=by
 obtain⟨ob,es,ep,e1,ex,e2,e3,his,nd⟩:=D;unfold dictSetDefault
 try with_reducible refine act ?_
 refine wpAny_bind (knd.pyHash hu hk (wpAny_bind (wpAny_dictFind_heap (s:={s with toks:=s.toks+knd.draws k}) hu hk e1 e2 e3 his nd (fun no=>?_) fun j p hj=>?_)))
 ·have none':=atKey_none_of_get no;have e4:=storedH_new (a:=a) (v:=dv) none';have hsz:=size_of_entries e3;refine wpAny_bind (wpAny_rule (wpAny_bind (wpAny_updateDictKeys (hz:=by omega) (s:={s with toks:=s.toks+knd.draws k}) e1 e2 (wpAny_pure (q2 none' _ ⟨_,_,ep+1,aaK _ e1 (Obj.isFreed_of_dict (Obj.data_mapDictKeys e2 _)),ex.mapDictKeys _,Obj.data_mapDictKeys e2 _,?_,?_,?_⟩ (aa6 ..))))))
  ·rw[e4];simp[e3,entryOfKey]
  ·rw[e4];intro y hy;rcases ab0.mp hy with hy|hy
   ·exact knd.keeps (his y hy) e1 e2 (aa6 ..)
   ·rw[abl.mp hy];exact knd.keeps hk e1 e2 (aa6 ..)
  ·rw[e4,ab9,abA];refine⟨nd,by simp,fun y hy z hz' e=>not_mem_keys_of_get no ?_⟩;rw[acr,List.map_nil,abl] at hz';have hz':z=k:=hz';rw[←hz',←e];exact hy
 ·refine wpAny_bind (abG (s:={s with toks:=s.toks+knd.draws k}) e1 e2 ?_);rw[entry_at e3 j,hj];exact wpAny_bind (wpAny_rule (wpAny_pure (q1 p (atKey_of_get nd hj))))
end
end SL
namespace L2
open PySem PySem.W PySem.Spec PyProof.Rows
section
variable {X:Cx}{pins:List (Addr×Obj)}{σ:St}{H:Hp}{s:Shared}{a b:Addr}{v:V}{r:Value}{kvs:List (List Key×V)}{k:List Key}{A:Around}{E:Value->Shared->Prop}
def zZ{Q:Value->Shared->Prop}(hu:A.units+1<cLine)(I:Inv X pins σ H s)(e:H a=some (.dT kvs))(eb:H b=some (.tup (k.map kV)))(hz:kvs.length<sizeLine)(rv:RelV v r)
  (h1:∀x w' s',aD kvs k=some x->Inv X pins σ H s'->RelV x w'->Q w' s')(h2:aD kvs k=none->∀s',Inv X pins σ (upd H a (.dT (putK kvs k v))) s'->Q r s') :
  wpAny (model X.prog X.w) A (call (.builtin "dict.setdefault") [.ref a,.ref b,r]) Q E s:=by
 obtain⟨z,lo,xs,rel,dd⟩:=xE I.hok e;have T:=dd.typeIs;refine abP PySem.F.slot_dict_setdefault T PySem.F.entry_dict_setdefault ?_ (PySem.F.args_dict_setdefault_3 _ _ _);unfold Builtin.«dict.setdefault» Builtin.Dict.keyAndDefault;refine wpAny_bind (wpAny_bind (wpAny_notOrdered_dict T ?_));change wpAny (model X.prog X.w) _ (pure (a,Value.ref b,some r)) _ _ s;refine wpAny_pure ?_;change wpAny (model X.prog X.w) _ (if (a == sysModules)=true then _ else (dictSetDefault a (.ref b) r >>= _)) _ _ s;rw[acS (by rw[lo];decide)];have rv':=rel.val k;refine wpAny_bind (SL.uP (abj hu) (gy I.hok eb) dd (by rw[←aco rel];exact z) (fun p hp=>?_) fun hn h' dd' sb=>?_)
 ·rw[hp] at rv';cases q:aD kvs k with
  |none=>rw[q] at rv';exact rv'.elim
  |some x=>
   rw[q] at rv';exact wpAny_pure ⟨_,rfl,h1 x _ _ q (I.tok _) rv'⟩
 ·rw[hn] at rv';have q:aD kvs k=none:=by
   cases q:aD kvs k with
   |none=>rfl
   |some x=>rw[q] at rv';exact rv'.elim
  have hl:(putK kvs k v).length<=sizeLine:=by have:=dq kvs k v;omega
  obtain⟨o',es,ep,hq,c2,c3,c4,_,c5⟩:=dd';refine wpAny_pure ⟨_,rfl,h2 q _ (jK I (by rw[e];exact True.intro) sb ⟨o',hq⟩ ⟨hl,lo,_,(rel.put k eb rv).keeps fun c ys ec=>?_,o',es,ep,hq,c2,c3,c4,c5⟩)⟩;rw[ad (xu ec e (fun z=>nomatch z))];exact ec
def Ab{x:Str}{u:Value}{Q:Value->Shared->Prop}(hu:A.units+1<cLine)(I:Inv X pins σ H s)(e:Rd H a (.dT kvs))(ru:RelV (.str x) u)(h:∀s',Inv X pins σ H s'->Q r s') :
  wpAny (model X.prog X.w) A (call (.builtin "dict.get") [.ref a,u,r]) Q E s:=by
 obtain⟨t,rfl⟩:=ru;obtain⟨z,lo,xs,rel,dd⟩:=gN I.hok e;refine abP aaJ dd.typeIs PySem.F.entry_dict_get ?_ (PySem.F.args_dict_get_3 _ _ _);change wpAny (model X.prog X.w) _ (dictGet a (.str x t) >>= _) _ _ s;refine wpAny_bind (SL.yF (abj (prog:=X.prog) (w:=X.w) (knd:=bz X.prog X.w) hu) dd ?_);change wpAny (model X.prog X.w) _ (Builtin.Dict.missed a (.str x t) >>= _) _ _ _;exact wpAny_bind (wpAny_missed_other lo (wpAny_pure ⟨r,rfl,h _ (I.tok _)⟩))
end
def AZ(td ty tx:TE):TE:=fun σ H Q=>td σ H fun x H1=>∃a,x=.ref a/\IsD H1 a/\ty σ H1 fun y H2=>tx σ H2 fun z H3=>∃kvs k b,H3 a=some (.dT kvs)/\y=.ref b/\H3 b=some (.tup (k.map kV))/\kvs.length<sizeLine/\
 (∀v,aD kvs k=some v->Q v H3)/\(aD kvs k=none->Q z (upd H3 a (.dT (putK kvs k z))))
def A0(td ty tx:TE):TE:=fun σ H Q=>td σ H fun x H1=>∃a,x=.ref a/\IsD H1 a/\ty σ H1 fun y H2=>tx σ H2 fun z H3=>(∃o,bu H3 a y o/\Q (o.getD z) H3)\/∃kvs t,Rd H3 a (.dT kvs)/\y=.str t/\Q z H3
section
variable {X:Cx}{o e f:Expr}{apos cpos:Pos}{td ty tx:TE}
def yG(hu:X.A.units+1<cLine)(ho:PE X o td)(he:PE X e ty)(hf:PE X f tx)(m:M2 X o "setdefault" apos e f cpos):PE X (.Call (.Attribute o "setdefault" apos) [e,f] [] cpos) (AZ td ty tx):=by
 intro pins s σ H Q I h;refine wpAny_Call_method m.base m.few m.line PySem.F.plainAttrs_dict PySem.F.slot_dict_setdefault PySem.F.type_dict_setdefault (thn (ho pins s σ H _ I h) fun u s1 ⟨x,H1,I1,rx,a,ex,d,q1⟩=>?_);subst ex;obtain rfl:u=Value.ref a:=rx;obtain⟨t1,t2,_⟩:=oG I1 d;refine⟨t1,t2,?_⟩;rw[m.trees];refine aaA rfl (Calls.evalArgs_plain (abg (thn (he pins s1 σ H1 _ I1 q1) fun iv s2 ⟨y,H2,I2,ry,q2⟩=>
  abg (thn (hf pins s2 σ H2 _ I2 q2) fun fv s3 ⟨z,H3,I3,rz,kvs,k,b,ea,ey,eb,hz,q3,q4⟩=>Calls.spliced_nil ?_))))
 subst ey;cases (show iv=Value.ref b from ry)
 exact zZ hu I3 ea eb hz rz (fun x w' s' hx I4 rx=>⟨x,H3,I4,rx,q3 x hx⟩) fun hn s' I4=>⟨z,_,I4,rz,q4 hn⟩
def yH(hu:X.A.units+1<cLine)(ho:PE X o td)(he:PE X e ty)(hf:PE X f tx)(m:M2 X o "get" apos e f cpos):PE X (.Call (.Attribute o "get" apos) [e,f] [] cpos) (A0 td ty tx):=by
 intro pins s σ H Q I h;refine wpAny_Call_method m.base m.few m.line PySem.F.plainAttrs_dict aaJ PySem.F.type_dict_get (thn (ho pins s σ H _ I h) fun u s1 ⟨x,H1,I1,rx,a,ex,d,q1⟩=>?_);subst ex;obtain rfl:u=Value.ref a:=rx;obtain⟨t1,t2,_⟩:=oG I1 d;refine⟨t1,t2,?_⟩;rw[m.trees];refine aaA rfl (Calls.evalArgs_plain (abg (thn (he pins s1 σ H1 _ I1 q1) fun iv s2 ⟨y,H2,I2,ry,q2⟩=>
  abg (thn (hf pins s2 σ H2 _ I2 q2) fun fv s3 ⟨z,H3,I3,rz,q3⟩=>Calls.spliced_nil ?_))))
 rcases q3 with ⟨ov,g,q3⟩|⟨kvs,t,hr,rfl,q3⟩
 ·exact ud hu I3 g ry rz fun w' s4 I4 rw'=>⟨_,H3,I4,rw',q3⟩
 ·exact Ab hu I3 hr ry fun s4 I4=>⟨z,H3,I4,rz,q3⟩
end
end L2
namespace L2
open PySem PySem.W PySem.Spec PyProof.Rows
def cz(P:Addr)(H H':Hp):Prop:=∀b o,b≠P->H b=some o->H' b=some o
def cz.refl{P:Addr}{H:Hp}:cz P H H:=fun _ _ _ e=>e
def iV(c:Addr)(q:Str):HO:=.ext fun h=>∃o vs t,h.get? c=some o/\o.data=.fields vs/\vs[1]? =some (.str q t)
def wD{P:Program}{w:World}{H:Hp}{h:Heap}{c:Addr}{q:Str}(x:h.CodeRec (.ref c) q):aX P w H h c (iV c q):=by
 obtain⟨c',o,vs,t,e,h1,h2,h3⟩:=x;cases e
 exact⟨⟨o,vs,t,h1,h2,h3⟩,⟨o,h1⟩,fun h1 h2 ⟨o,vs,t,a,b⟩ k=>⟨o,vs,t,k o a,b⟩⟩
def uQ{P:Program}{w:World}{H:Hp}{h:Heap}{c:Addr}{q:Str}(ok:HOk P w H h)(e:H c=some (iV c q)):h.CodeRec (.ref c) q:=by
 obtain⟨⟨o,vs,t,a,b,d⟩,_⟩:=(show aX P w H h c (iV c q) from ok c _ e);exact⟨c,o,vs,t,rfl,a,b,d⟩
def bx(P:Addr)(pos:Pos)(q:Str)(H:Hp):Prop:=∃ps,H P=some (.tbl ps)/\TriplesOk ps.toList/\(codeAmong pos ps.toList=none\/∃c,codeAmong pos ps.toList=some (.ref c)/\H c=some (iV c q))
def bx.ne{P:Addr}{pos:Pos}{q:Str}{H:Hp}(T:bx P pos q H){b:Addr}{o:HO}(e:H b=some o)(h:∀ps,o≠.tbl ps):b≠P:=fun z=>by
 obtain⟨ps,h1,_⟩:=T;rw[z,h1] at e;exact h ps (abY e).symm
def bx.mono{P:Addr}{pos:Pos}{q:Str}{H H':Hp}(T:bx P pos q H)(h:∀b o,H b=some o->H' b=some o):bx P pos q H':=by
 obtain⟨ps,h1,h2,h3⟩:=T;refine⟨ps,h _ _ h1,h2,?_⟩;rcases h3 with z|⟨c,z,y⟩
 ·exact .inl z
 ·exact .inr ⟨c,z,h _ _ y⟩
def Bm(mg:Str->Option Value)(base:Heap):Prop:=∃bm ob,mg "__builtins__"=some (.ref bm)/\bm≠builtinsNs/\base.get? bm=some ob/\ob.cls=.type "module"/\ob.dict=some builtinsNs/\ob.data=.plain
section
variable {X:Cx}{pins:List (Addr×Obj)}{σ:St}{H:Hp}{s:Shared}{A:Around}{E:Value->Shared->Prop}{c0 P:Addr}{params:Arguments}{body:Expr}{scope:Scope}{clos:List (Str×Addr)}{pos:Pos}
def wE{Q:Value->Shared->Prop}(I:Inv X pins σ H s)(hcode:X.env.code=.ref c0)(C:CodeHd X.base c0 P)(T:bx P pos (X.env.qual++"<lambda>") H)(hbm:Bm X.mg X.base)(hcl:closureFor scope X.env=pure clos)(hdef:defaultsOf params X.env=([],[]))
  (h:∀f c' pm ctv H2 s',cz P H H2->bx P pos (X.env.qual++"<lambda>") H2->H2 c'=some (iV c' (X.env.qual++"<lambda>"))->H2 f=none->s.heap.objs.size<=f->Inv X pins σ H2 s'->cv X pins H2 f->
   s'.heap.get? f=some (kla_obj "<lambda>" (X.env.qual++"<lambda>") params body scope clos pm c' ctv)->s.heap.objs.size<=s'.heap.objs.size->Q (.ref f) s') :
  wpAny (model X.prog X.w) A (eval (.Lambda params body scope pos) X.env) Q E s:=by
 obtain⟨ps,hP,ht,hc⟩:=T;have oP:s.heap.get? P=some (tabObj ps):=(show aX X.prog X.w H s.heap P (.tbl ps) from I.hok P _ hP);obtain⟨bm,ob,b1,b2,b3,b4,b5,b6⟩:=hbm;have hg:s.heap.Ns mainGlobals X.mg:=I.mod.glob.keeps I.bk;have nP:∀b o,X.base.get? b=some o->b≠P:=fun b o e z=>by
  have:=(I.bs b o e).2;rw[z,hP] at this;cases this
 have hgP:mainGlobals≠P:=by
  obtain⟨o,es,ep,e,_⟩:=I.mod.glob;exact nP _ o e
 have hbG:bm≠mainGlobals:=fun z=>by
  obtain⟨o,es,ep,e,hd,_⟩:=I.mod.glob;rw[←z,b3] at e;cases e;rw[b6] at hd;cases hd
 have hB:s.heap.BuiltinsAt X.mg P:=⟨bm,ob,b1,b2,hbG,nP bm ob b3,I.bk _ _ b3,b4,b5,b6⟩;refine kla_eval hdef ?_;rcases hc with hn|⟨c',hc',hcO⟩
 ·refine kla_makeFunction (mg:=X.mg) hcl I.ok.glob hg hcode (C.keeps I.bk) oP ht hn hgP hB fun c' ctv h' tk hx hge hlt hrec htb=>?_
  have kf:∀b o,h'.get? b=some o->(h'.push (kla_obj "<lambda>" (X.env.qual++"<lambda>") params body scope clos ((X.mg "__name__").getD .none) c' ctv)).get? b=some o:=fun b o e=>aaz _ e
  have hsz:s.heap.objs.size<=h'.objs.size:=acz (abk hge hlt);have c'n:H c'=none:=I.hok.fresh hge;have c'P:c'≠P:=fun z=>by rw[z,hP] at c'n;cases c'n
  generalize hH2:upd (upd H P (.tbl (ps++#[rawInt pos.line,rawInt pos.col,.ref c']))) c' (iV c' (X.env.qual++"<lambda>"))=H2;have at1:H2 c'=some (iV c' (X.env.qual++"<lambda>")):=by rw[←hH2,aa]
  have at2:H2 P=some (.tbl (ps++#[rawInt pos.line,rawInt pos.col,.ref c'])):=by rw[←hH2,ad (acQ c'P),aa]
  have at3:∀b,b≠P->b≠c'->H2 b=H b:=fun b n1 n2=>by rw[←hH2,ad n2,ad n1]
  have sT:cz P H H2:=fun b o n e=>by rw[at3 b n (fun z=>by rw[z,c'n] at e;cases e)];exact e
  have nn:∀b,H b=none->b<s.heap.objs.size->H2 b=none:=fun b n l=>by
   rw[at3 b (fun z=>by rw[z,hP] at n;cases n) (acx (abd l hge))];exact n
  have fn:H2 h'.objs.size=none:=by
   have lP:=acw oP;rw[at3 _ (Nat.ne_of_gt (abd lP hsz)) (Nat.ne_of_gt hlt)];exact I.hok.fresh hsz
  have hok:HOk X.prog X.w H2 (h'.push (kla_obj "<lambda>" (X.env.qual++"<lambda>") params body scope clos ((X.mg "__name__").getD .none) c' ctv)):=fun b u e=>by
   by_cases e1:b=c'
   ·rw[e1,at1] at e;cases e;rw[e1];exact wD (hrec.push _)
   ·by_cases e2:b=P
    ·rw[e2,at2] at e;cases e;rw[e2];exact kf _ _ htb
    ·rw[at3 b e2 e1] at e;refine(I.hok b u e).bX (fun d v hd q=>kf _ _ (hx d v (fun z=>?_) q)) (fun d q=>sT d _ (fun z=>?_) q) fun d xs q=>sT d _ (fun z=>?_) q
     ·rcases hd with hd|hd
      ·exact e2 (hd.symm.trans z)
      ·rw[z,hP] at hd;cases hd
     ·rw[z,hP] at q;cases q
     ·rw[z,hP] at q;cases q
  have J:Inv X pins σ H2 {s with heap:=h'.push (kla_obj "<lambda>" (X.env.qual++"<lambda>") params body scope clos ((X.mg "__name__").getD .none) c' ctv),toks:=tk}:=by
   have kp:∀b o,s.heap.get? b=some o->H b=none->(h'.push (kla_obj "<lambda>" (X.env.qual++"<lambda>") params body scope clos ((X.mg "__name__").getD .none) c' ctv)).get? b=some o:=fun b o e n=>kf _ _ (hx b o (fun z=>by rw[z,hP] at n;cases n) e)
   refine I.step (g':=s.gens) (d':=s.drawn) (t':=tk) (ch:=[]) (fun _ z=>nomatch z) (fun b o _ _ _ e n=>kp b o e n) (fun b o _ _ _ e n=>⟨o.slots,kp b o e n⟩) (fun b o _ e n=>nn b n (acw e)) (fun b o _ e=>?_) (fun b xs e=>sT b _ (fun z=>?_) e) (fun b o u e=>sT b _ (fun z=>?_) e) (fun b qs e=>?_) (fun m hm=>?_) hok I.bare
   ·by_cases z:b=P
    ·exact⟨_,by rw[z];exact kf _ _ htb⟩
    ·exact⟨o,kf _ _ (hx b o z e)⟩
   ·rw[z,hP] at e;cases e
   ·rw[z,hP] at e;cases e
   ·by_cases z:b=P
    ·rw[z,hP] at e;cases e;exact⟨_,by rw[z];exact at2⟩
    ·exact⟨#[],by rw[sT b _ z e];simp⟩
   ·obtain⟨o,es,ep,ho,r⟩:=hm;exact⟨o,es,ep,kp _ o ho I.free,r⟩
  have T2:bx P pos (X.env.qual++"<lambda>") H2:=by
   have el:(ps++#[rawInt pos.line,rawInt pos.col,Value.ref c']).toList=ps.toList++[rawInt pos.line,rawInt pos.col,.ref c']:=by simp
   refine⟨_,at2,by rw[el];exact TriplesOk_snoc _ _ _ _ ht,.inr ⟨c',by rw[el];exact codeAmong_snoc _ ht hn,at1⟩⟩
  exact h _ c' _ ctv H2 _ sT T2 at1 fn hsz J (I.fY hsz fn) (aa3 _ rfl) (by show _<=(h'.push _).objs.size;rw[ach];omega)
 ·refine kla_makeFunctionHit (mg:=X.mg) hcl I.ok.glob hg hcode (C.keeps I.bk) oP ht hc' hB fun ctv h' tk hk hsz=>?_
  have fn:H h'.objs.size=none:=I.hok.fresh hsz;exact h _ c' _ ctv H _ cz.refl ⟨ps,hP,ht,.inr ⟨c',hc',hcO⟩⟩ hcO fn hsz (I.kept (t':=tk) fun b o e=>aaz _ (hk b o e)) (I.fY hsz fn) (aa3 _ rfl) (by show _<=(h'.push _).objs.size;rw[ach];omega)
end
def lK(X:Cx)(qual:Str)(scope:Scope)(cl:List (Str×Addr))(x y:Str)(f c':Addr)(A:Around)(s₃:Shared)(H₃:Hp):Cx where
 prog:=X.prog
 w:=X.w
 K:=X.K
 mg:=X.mg
 base:=X.base
 A:=A.deeper (envX qual scope s₃.heap.objs.size f (.ref c') cl)
 N:=[x,y]
 s₀:=s₃
 H₀:=H₃
 env:=envX qual scope s₃.heap.objs.size f (.ref c') cl
 outer:=X.stack
 stack:=envX qual scope s₃.heap.objs.size f (.ref c') cl::X.stack
 ex:=[]
 fn:=fun _=>false
 calm:=true
 pn:=[]
 xe:=fun _ _=>False
structure gf(X:Cx)(params:Arguments)(scope:Scope)(c:Addr)(x y:Str)(i:Nat):Prop where
 names:scope.names=[(x,.local),(y,.free)]
 ne:(y == x)=false
 kind:scope.kind=.function
 co:scope.isCoroutine=false
 gen:scope.isGenerator=false
 clos:closureFor scope X.env=pure [(y,c)]
 cell:X.env.cells.lookup y=some c
 out:X.N[i]? =some y
 loc:X.env.scope.names.lookup y=some .cell
 dflt:defaultsOf params X.env=([],[])
 bind:∀(q:Str) (body:Expr) (pm cd ct u:Value),bindArgs (kla_fn "<lambda>" q params body scope [(y,c)] pm cd ct) ⟨[u],[]⟩=pure [(x,u)]
section
variable {X:Cx}{pins:List (Addr×Obj)}{σ:St}{H:Hp}{s:Shared}{A:Around}{E:Value->Shared->Prop}{params:Arguments}{body:Expr}{scope:Scope}{c f c':Addr}{x y qual:Str}{i:Nat}
def gf.lx(L:gf X params scope c x y i):scope.names.lookup x=some .local:=by rw[L.names,abT,abW]
def gf.ly(L:gf X params scope c x y i):scope.names.lookup y=some .free:=by
 rw[L.names,abT,L.ne];show List.lookup y [(y,NameKind.free)]=_;rw[abT,abW]
def gf.only(L:gf X params scope c x y i){z:Str}{k:NameKind}(h:scope.names.lookup z=some k):(z=x/\k=.local)\/(z=y/\k=.free):=by
 have:=lookup_mem h;rw[L.names] at this;rcases acq.mp this with e|e
 ·cases e;exact .inl ⟨rfl,rfl⟩
 ·rcases acq.mp e with e|e
  ·cases e;exact .inr ⟨rfl,rfl⟩
  ·cases e
def uR(L:gf X params scope c x y i)(I:Inv X pins σ H s)(hA:A.frames=some X.stack)(hd:A.handled=none){v w':V}{u:Value}(rv:RelV v u)(hi:σ[i]? =some (some w')){h1:Heap}{tk:Nat}
  (hn:h1.Ns s.heap.objs.size (fun z=>[(x,u)].reverse.lookup z))(k:∀b o,s.heap.get? b=some o->h1.get? b=some o) :
  Inv (lK X qual scope [(y,c)] x y f c' A s H) [] [some v,some w'] H {s with heap:=h1,toks:=tk}:=by
 have clK:∀z d,([(y,c)]:List (Str×Addr)).lookup z=some d->z=y/\d=c:=fun z d h=>by
  have:=lookup_mem h;rw[abl] at this;cases this
  exact⟨rfl,rfl⟩
 have cly:([(y,c)]:List (Str×Addr)).lookup y=some c:=by rw[abT,abW]
 have noA:∀b:Addr,b ∉ (lK X qual scope [(y,c)] x y f c' A s H).ex:=fun b z=>absurd (show b∈([]:List Addr) from z) (by simp)
 obtain⟨u',r',l'⟩:∃u,RelV w' u/\s.heap.IsCell c (some u):=by
  obtain⟨m,hm,hl⟩:=I.loc;obtain⟨u,r,l⟩:=hl i y w' L.out hi (.inr (.inl L.loc));rcases l with ⟨k1,_⟩|⟨_,d,hc,hcell⟩
  ·have k1:X.env.scope.names.lookup y=some .local:=k1;rw[L.loc] at k1;cases k1
  ·rw[L.cell] at hc;cases hc;exact⟨u,r,hcell⟩
 refine⟨⟨I.ok.mod,L.kind,rfl,rfl,acH _,fun a b d h1 h2=>?_,fun a ha=>?_,fun a d h=>absurd (show false=true from h) (by decide),fun _=>hd,Around.frames_deeper hA,.inr ⟨rfl,rfl⟩,fun b z=>absurd z (noA b),I.bs,acy I.ok.bsz I.sz,fun b _ _=>noA b,fun b z=>absurd z (noA b),I.stack,I.lW⟩,
  rfl,I.bare,Un.kept k,⟨_,hn,fun j z v' e1 e2 e3=>?_⟩,fun z d h=>?_,I.hok.fresh (acH _),fun z d h=>?_,fun p hp=>absurd (show p∈([]:List (Addr×Obj)) from hp) (by simp),I.hok.kept k,rfl⟩
 ·exact(clK a d h1).1.trans (clK b d h2).1.symm
 ·have ha:scope.names.lookup a=some .cell\/scope.names.lookup a=some .free:=ha;rcases ha with ha|ha
  ·rcases L.only ha with ⟨_,z⟩|⟨_,z⟩ <;> cases z
  ·rcases L.only ha with ⟨_,z⟩|⟨z,_⟩
   ·cases z
   ·rw[z];exact⟨c,cly⟩
 ·have e1:([x,y]:List Str)[j]? =some z:=e1;rcases j with _|_|j
  ·have e1:some x=some z:=e1;have e2:some (some v)=some (some v'):=e2;cases e1;cases e2
   exact⟨u,rv,.inl ⟨L.lx,by show([(x,u)]:List (Str×Value)).lookup x=_;rw[abT,abW]⟩⟩
  ·have e1:some y=some z:=e1;have e2:some (some w')=some (some v'):=e2;cases e1;cases e2
   obtain⟨o,h2,h3⟩:=l';exact⟨u',r',.inr ⟨.inr L.ly,c,cly,o,k _ _ h2,h3⟩⟩
  ·simp at e1
 ·obtain⟨e1,e2⟩:=clK z d h;rw[e2];obtain⟨o,h2,h3⟩:=l';exact⟨_,o,k _ _ h2,h3⟩
 ·obtain⟨e1,e2⟩:=clK z d h;rw[e2];exact I.freeC y c L.cell
def wF{pm ctv:Value}{tb:TE}{R:VK}{v w':V}{u:Value}(L:gf X params scope c x y i)(I:Inv X pins σ H s)(hA:A.frames=some X.stack)(hd:A.handled=none)(hroom:A.depth<recursionLimit)
  (ho:s.heap.get? f=some (kla_obj "<lambda>" qual params body scope [(y,c)] pm c' ctv))(hcd:s.heap.CodeRec (.ref c') qual)(rv:RelV v u)(hi:σ[i]? =some (some w'))
  (hb:PE (lK X qual scope [(y,c)] x y f c' A s H) body tb)(h:tb [some v,some w'] H R):wpAny (model X.prog X.w) A (call (.ref f) [u]) (EP X pins σ R) E s:=by
 refine wpAny_call ?_;refine kla_callFunE (o:=kla_obj "<lambda>" qual params body scope [(y,c)] pm c' ctv) (fd:=kla_fn "<lambda>" qual params body scope [(y,c)] pm (.ref c') ctv) (body:=body) hroom ho rfl L.co L.gen rfl hcd ?_;rw[L.bind qual body pm (.ref c') ctv u];refine wpAny_pure (wpAny_newFunctionEnv (fun z hz e=>?_) (fun z hz=>?_) (fun h1 hns hsb=>?_) L.kind)
 ·rw[show(kla_fn "<lambda>" qual params body scope [(y,c)] pm (.ref c') ctv).scope.names=scope.names from rfl,L.names] at hz;rcases acq.mp hz with q|q
  ·rw[q] at e;cases e
  ·rw[abl.mp q] at e;cases e
 ·rw[abl.mp hz];exact L.lx
 ·have k:∀b o,s.heap.get? b=some o->h1.get? b=some o:=fun b o e=>hsb.extBut b o (acx (acw e)) (aaz _ e)
  refine⟨I.nolimit.keeps k,?_⟩;change codeAny (model X.prog X.w) A (.expr body (envX qual scope s.heap.objs.size f (.ref c') [(y,c)])) _ _;have J:=uR (qual:=qual) (f:=f) (c':=c') (tk:=s.toks+[(x,u)].length) L I hA hd rv hi hns k;refine kla_codeExpr (acM (hb [] _ _ H R J h) (fun z s' hz=>?_) fun _ _ q=>q.elim);obtain⟨r,H',J',rr,q⟩:=hz;exact I.after ⟨r,H',J'.os,J'.bare,J'.base,J'.hok,rr,q⟩
end
end L2
namespace L2
open PySem PySem.W PySem.Spec PyProof.Rows
open SL (kQ Ord Bas Asc ce lG cw mt mv jv)
section
variable {X:Cx}{pins:List (Addr×Obj)}{σ:St}{H:Hp}{s:Shared}{A:Around}{E:Value->Shared->Prop}
def Inv.sN{more:List (Addr×Obj)}(I:Inv X (pins++more) σ H s):Inv X pins σ H s:=I.gi fun p hp=>I.pin p (aaG _ (aaV _ hp))
def cv.sO{b:Addr}{o:Obj}(f:cv X pins H b)(e:s.heap.get? b=some o)(hc:∀v,o.data≠.cell v):s.heap.get? (b,o).1=some (b,o).2/\H (b,o).1=none/\(b,o).1≠X.env.locals/\(b,o).1 ∉ X.fs/\∀v,(b,o).2.data≠.cell v:=⟨e,f.1,f.2.1,f.2.2.1,hc⟩
def Inv.nZ{b:Addr}{h':Heap}{tk:Nat}(I:Inv X pins σ H s)(f:cv X pins H b)(k:∀d o,d≠b->s.heap.get? d=some o->h'.get? d=some o):Inv X pins σ H {s with heap:=h',toks:=tk}:=
 I.turned k f.1 f.2.1 f.2.2.2.1 f.2.2.2.2.1 f.2.2.2.2.2
def Inv.with2{a b:Addr}{oa ob:Obj}(I:Inv X pins σ H s)(fa:cv X pins H a)(fb:cv X pins H b)(ea:s.heap.get? a=some oa)(eb:s.heap.get? b=some ob)(ca:∀v,oa.data≠.cell v)(cb:∀v,ob.data≠.cell v) :
  Inv X (pins++[(a,oa),(b,ob)]) σ H s:=I.gi fun p hp=>by
 rcases ab0.mp hp with hp|hp
 ·exact I.pin p (aaG _ hp)
 ·rcases acq.mp hp with rfl|hp
  ·exact fa.sO ea ca
  ·rw[abl.mp hp];exact fb.sO eb cb
def KeysAre(cost:Nat->Int)(ks:List Value):Prop:=∀(i:Nat) (v:Value),ks[i]? =some v->∃t,v=.int (cost i) t
def KeysAre.snoc{cost:Nat->Int}{ks:List Value}{t:Tok}(h:KeysAre cost ks):KeysAre cost (ks++[.int (cost ks.length) t]):=fun i v e=>by
 by_cases hi:i<ks.length
 ·rw[aak hi] at e;exact h i v e
 ·rw[aag (by omega)] at e;have:i - ks.length=0:=by
   cases q:i - ks.length with
   |zero=>rfl
   |succ j=>rw[q] at e;simp at e
  have hi':i=ks.length:=by omega
  rw[this] at e;simp at e;rw[hi'];exact⟨t,e.symm⟩
def Ac(cost:Nat->Int):Ord (fun i j=>decide (cost i<cost j)) where
 tr:=fun a b c h1 h2=>by simp only[aax] at *;omega
 as:=fun a b h=>by simp only[aax,abz] at *;omega
def uS{prog:Program}{w:World}{cost:Nat->Int}{ks:List Value}(h2:2<=ks.length)(h:KeysAre cost ks):kQ prog w A s ks (fun i j=>decide (cost i<cost j)):=by
 refine⟨oneType',fun Q E q=>?_,fun i j C hi hj hC=>?_⟩
 ·refine kas_kind h2 (T:=Value.type "int") (fun v hv=>?_) (by decide) (by decide) q;obtain⟨i,hi⟩:=aaN.mp hv;obtain⟨t,rfl⟩:=h i v hi;exact Looks.of_pure rfl
 ·unfold kas_ask;obtain⟨t,e⟩:=h i _ (aao hi);obtain⟨t',e'⟩:=h j _ (aao hj);rw[aah,aah,aao hi,aao hj,Option.getD_some,Option.getD_some,e,e'];exact kat_lt_int hC
def lL{T:String}{xs:Array Value}{n:Nat}:∀v,(seqObj T xs n).data≠.cell v:=fun v z=>by cases z
def sP{a:Addr}{vs:List Value}{n:Nat}{f:Value}{cost:Nat->Int}{P:PySem.Fin->Shared->Prop}(I:Inv X pins σ H s)(hx:s.heap.get? a=some (seqObj "list" vs.toArray n))(fa:cv X pins H a)(h64:vs.length<64)
  (hcall:∀more s1 i v,Inv X (pins++more) σ H s1->vs[i]? =some v->wpAny (model X.prog X.w) A (call f [v]) (EP X (pins++more) σ fun r H'=>r=.int (cost i)/\H'=H) (fun _ _=>False) s1)
  (fin:∀p s' e,Bas vs.length p->Asc (fun i j=>decide (cost i<cost j)) p vs.length->Inv X pins σ H s'->s'.heap.get? a=some (seqObj "list" (ce vs p).toArray e)->P (.done (.ret .none)) s') :
  wpAny (model X.prog X.w) A (ksk_tree a f false) P E s:=by
 obtain⟨e1,hx1⟩:∃e1,(s.heap.update a (Obj.mapSeq fun _=>(#[]:Array Value))).get? a=some (seqObj "list" #[] e1):=⟨_,get?_update_seq hx fun _=>#[]⟩;have hz:∀m,m<=vs.length->m<=sizeLine:=fun m hm=>by rw[acJ];omega
 have la:a<s.heap.objs.size:=acw hx;unfold ksk_tree;refine wpAny_bind (listItems_at hx rfl (wpAny_bind (listUpdate_at hx rfl ?_ (by rw[abr];exact hz _ (acH _)) (acI _))));refine wpAny_bind (seqEpoch_at hx1 rfl (wpAny_bind (wpAny_newTuple (wpAny_bind (wpAny_newList (act ?_) (acI _))) (hz _ (acH _)))));have szT:((s.heap.update a (Obj.mapSeq fun _=>(#[]:Array Value))).push (seqObj "tuple" vs.toArray 0)).objs.size=s.heap.objs.size+1:=by rw[size_push',Heap.size_update]
 generalize hh:((s.heap.update a (Obj.mapSeq fun _=>(#[]:Array Value))).push (seqObj "tuple" vs.toArray 0)).push (seqObj "list" #[] 0)=h2;have k2:∀b o,b≠a->s.heap.get? b=some o->h2.get? b=some o:=fun b o hb e=>by
  rw[←hh];exact aaz _ (aaz _ (((aa6 ..).2 b hb).trans e))
 have a2:h2.get? a=some (seqObj "list" #[] e1):=by rw[←hh];exact aaz _ (aaz _ hx1)
 have b2:h2.get? (s.heap.objs.size+1)=some (seqObj "list" #[] 0):=by rw[←hh,←szT];exact aa3 _ rfl
 have fb:cv X pins H (s.heap.objs.size+1):=I.fY (acK _) (I.hok.fresh (acK _));have hab:a≠s.heap.objs.size+1:=acx (abC la);have I2:Inv X (pins++[(a,seqObj "list" #[] e1),(s.heap.objs.size+1,seqObj "list" #[] 0)]) σ H {s with heap:=h2}:=(I.nZ (tk:=s.toks) fa k2).with2 fa fb a2 b2 lL lL;clear hh;have go:wpAny (model X.prog X.w) A (ksk_rest a f false vs.toArray e1 (.ref (s.heap.objs.size+1))) P E {s with heap:=h2}:=by
  generalize s.heap.objs.size+1=kS at I2 b2 fb hab;unfold ksk_rest;refine wpAny_bind (wpAny_rule ?_)
  first
   |rw[List.forIn_toArray]
   |(rw[←Array.forIn_toList];simp only[List.toList_toArray])
   |rw[←Array.forIn_toList]
  refine wpAny_bind (wpAny_forIn_list _ (fun rest (r:PUnit) s'=>∃ks e,rest=vs.drop ks.length/\ks.length<=vs.length/\KeysAre cost ks/\Inv X (pins++[(a,seqObj "list" #[] e1),(kS,seqObj "list" (List.toArray ks) e)]) σ H s') _ ?_ ?_ vs _ ⟨[],0,rfl,acI _,fun i v h=>by simp at h,I2⟩)
  ·rintro v rest r s1 ⟨ks,e,hr,hl,hk,J⟩;have hlt:ks.length<vs.length:=by
    rcases acE ks.length vs.length with z|z
    ·exact z
    ·rw[aaD z] at hr;cases hr
   have hv:vs[ks.length]? =some v/\rest=vs.drop (ks.length+1):=by
    rw[aan hlt] at hr;injection hr with h1 h2;exact⟨by rw[aao hlt,h1],h2⟩
   refine wpAny_bind (wpAny_attempt (acM (hcall _ s1 ks.length v J hv.1) (fun kv s2 hq=>?_) fun _ _ z=>z.elim));obtain⟨r',H',J2,rr,rfl,eH⟩:=hq;rw[eH] at J2;obtain⟨t,rfl⟩:=rr;have g1:=(J2.pin (kS,seqObj "list" (List.toArray ks) e) (aaG _ (aaG _ (aaU _ (abe ..))))).1;have g2:=(J2.pin (a,seqObj "list" #[] e1) (aaG _ (aaG _ (abe ..)))).1;have ep:(List.toArray ks).push (.int (cost ks.length) t)=List.toArray (ks++[.int (cost ks.length) t]):=by simp
   obtain⟨e3,g3⟩:∃e3,(s2.heap.update kS (Obj.mapSeq (·.push (.int (cost ks.length) t)))).get? kS=some (seqObj "list" (List.toArray (ks++[.int (cost ks.length) t])) e3):=⟨_,by rw[←ep];exact get?_update_seq g1 (·.push (.int (cost ks.length) t))⟩
   try dsimp only
   refine wpAny_bind (listUpdate_at g1 rfl ?_ (by rw[abr];exact hz _ (by omega)) (by rw[Array.size_push,abr];exact Nat.le_succ_of_le (hz _ (by omega))));have J3:Inv X pins σ H {s2 with heap:=s2.heap.update kS (Obj.mapSeq (·.push (.int (cost ks.length) t)))}:=J2.sN.nZ (tk:=s2.toks) fb fun d o hd z=>((aa6 ..).2 d hd).trans z
   refine wpAny_pure ⟨ks++[.int (cost ks.length) t],e3,by rw[abi,aaH];exact hv.2,by rw[abi,aaH];omega,hk.snoc,?_⟩;exact J3.with2 fa fb (((aa6 ..).2 a hab).trans g2) g3 lL lL
  ·rintro r s1 ⟨ks,e,hr,hl,hk,J⟩;have hlen:ks.length=vs.length:=by
    have:=acN List.length hr;rw[ab8,abL] at this;omega
   have g1:=(J.pin (kS,seqObj "list" (List.toArray ks) e) (aaG _ (aaG _ (aaU _ (abe ..))))).1;have g2:=(J.pin (a,seqObj "list" #[] e1) (aaG _ (aaG _ (abe ..)))).1;have J0:=J.sN
   try dsimp only
   refine wpAny_bind (listItems_at g1 rfl ?_);have tail:∀(st:SortSt) (p:Array Nat),Bas vs.length p->Asc (fun i j=>decide (cost i<cost j)) p vs.length->(arrOf st).map (·.2)=(ce vs p).toArray->failedOf st=none->wpAny (model X.prog X.w) A (ksk_tail a false e1 (.ref kS) st) P E s1:=by
    intro st p hB hS ho hf;unfold ksk_tail
    try dsimp only
    rw[ho,hf];have hsz:(ce vs p).toArray.size<=sizeLine:=by rw[abr,mv hB];exact hz _ (acH _)
    have g2':(s1.heap.update kS (Obj.mapSeq fun _=>(#[]:Array Value))).get? a=some (seqObj "list" #[] e1):=((aa6 ..).2 a hab).trans g2;refine wpAny_bind (listUpdate_at g1 rfl (wpAny_bind (wpAny_letGo (wpAny_bind (seqEpoch_at g2' rfl (wpAny_bind (listUpdate_at g2' rfl ?_ (acI _) (Nat.le_succ_of_le hsz))))))) (by rw[abr];exact hz _ (by omega)) (acI _));simp only[bne_self_eq_false,abm,acO];have J4:Inv X pins σ H {s1 with heap:=s1.heap.update kS (Obj.mapSeq fun _=>(#[]:Array Value))}:=J0.nZ (tk:=s1.toks) fb fun d o hd z=>((aa6 ..).2 d hd).trans z
    have J5:Inv X pins σ H {s1 with heap:=(s1.heap.update kS (Obj.mapSeq fun _=>(#[]:Array Value))).update a (Obj.mapSeq fun _=>(ce vs p).toArray)}:=J4.nZ (tk:=s1.toks) fa fun d o hd z=>((aa6 ..).2 d hd).trans z
    obtain⟨e4,g4⟩:∃e4,((s1.heap.update kS (Obj.mapSeq fun _=>(#[]:Array Value))).update a (Obj.mapSeq fun _=>(ce vs p).toArray)).get? a=some (seqObj "list" (ce vs p).toArray e4):=⟨_,get?_update_seq g2' fun _=>(ce vs p).toArray⟩;exact wpAny_pure (fin p _ e4 hB hS J5 g4)
   unfold ksk_end
   try dsimp only
   simp only[abm,acO]
   by_cases h2':vs.toArray.size<2
   ·rw[acR h2',acR h2'];rw[abr] at h2';refine wpAny_bind (wpAny_pure (wpAny_bind (wpAny_pure ?_)));refine tail _ (List.range vs.length).toArray (Array.Perm.refl _) (SL.Asc.few (Ac cost) h2') ?_ rfl;rw[jv];apply Array.toList_inj.mp;simp;exact List.map_snd_zip (by omega)
   ·rw[acS h2',acS h2'];rw[abr] at h2';obtain⟨κ,hκ,hask⟩:=uS (s:=s1) (A:=A) (prog:=X.prog) (w:=X.w) (by omega) hk;refine wpAny_bind (hκ _ _ ?_);refine wpAny_bind (acM (kat_run (Q:=fun st' s'=>∃p:Array Nat,arrOf st'=p.map (kas_item ((List.toArray ks).zip vs.toArray))/\failedOf st'=none/\(Bas vs.length p/\Asc (fun i j=>decide (cost i<cost j)) p vs.length)/\s'=s1) (ks:=ks) hlen (by omega) h64
     (G:=fun p s'=>(Bas vs.length p/\Asc (fun i j=>decide (cost i<cost j)) p vs.length)/\s'=s1) (fun p st' s' _ q1 q2 q3=>⟨p,q1,q2,q3⟩) (lG (fun i j C hi hj=>hask i j C (by omega) (by omega)) _ (cw (fun p hp=>⟨hp,rfl⟩) _ (mt (Ac cost) (by omega))))) ?_ fun _ _ z=>z)
    rintro⟨⟨⟩,st'⟩ s' ⟨p,q1,q2,⟨q3,q4⟩,rfl⟩;exact tail st' p q3 q4 (kat_snds hlen q1) q2
 rw[szT];exact go
end
end L2
namespace L2
open PySem PySem.W PySem.Spec PyProof.Rows
open SL (dJ kQ Ord Bas Asc ce)
section
variable {X:Cx}{pins:List (Addr×Obj)}{σ:St}{H:Hp}{s:Shared}{A:Around}{E:Value->Shared->Prop}
def Inv.A1{D:Addr}{o:HO}(I:Inv X pins σ H s)(f:cv X pins H D)(ok:aX X.prog X.w (upd H D o) s.heap D o):Inv X pins σ (upd H D o) s:=by
 obtain⟨f1,f2,f3,f4,f5,f6⟩:=f;have nD:∀b u,H b=some u->b≠D:=fun b u e z=>by rw[z,f1] at e;cases e
 have n0:∀b u,X.s₀.heap.get? b=some u->b ∉ X.ex->b≠D:=fun b u e hx z=>by
  rcases f4 with q|q
  ·exact hx (z▸q)
  ·exact absurd (abd (acw e) (z▸q)) (acp _)
 refine⟨I.ok,I.os,I.bare,⟨I.base.keep,I.base.slot,fun b u e n hx=>?_,I.base.there,fun b xs e=>?_,fun b u v e=>?_,fun b ps e=>?_⟩,I.loc,I.cell,?_,fun x c e=>?_,fun p hp=>?_,fun b u e=>?_,I.len⟩
 ·rw[ad (n0 b u e hx)];exact I.base.free b u e n hx
 ·have:=I.base.tups b xs e;rw[ad (nD _ _ this)];exact this
 ·have:=I.base.frzs b u v e;rw[ad (nD _ _ this)];exact this
 ·obtain⟨m,q⟩:=I.base.tbls b ps e;exact⟨m,by rw[ad (nD _ _ q)];exact q⟩
 ·rw[ad (acQ f2)];exact I.free
 ·rw[ad (f5 x c e)];exact I.freeC x c e
 ·obtain⟨a1,a2,a3⟩:=I.pin p hp;exact⟨a1,by rw[ad (f6 p hp)];exact a2,a3⟩
 ·by_cases hb:b=D
  ·rw[hb,aa] at e;cases e;rw[hb];exact ok
  ·rw[ad hb] at e;exact(I.hok b u e).bX (fun _ _ _ q=>q) (fun c q=>by rw[ad (nD _ _ q)];exact q) fun c xs q=>by rw[ad (nD _ _ q)];exact q
def m9{α:Type}(g:α->Addr):∀l:List α,Vals (l.map fun z=>V.ref (g z)) (l.map fun z=>Value.ref (g z))
 |[]=>.nil
 |a::l=>.cons rfl (m9 g l)
end
def Ad(P:Addr)(pos:Pos)(q:Str)(i:Nat)(ta:TA)(tb:TE):TE:=fun σ H Q=>ta σ H fun x H1=>∃(p:Addr) (kvs:List (List Key×V)) (w':V) (cost:List Key->Int),x=[.ref p]/\H1 p=some (.dT kvs)/\kvs.length<64/\bx P pos q H1/\σ[i]? =some (some w')/\
 ∀H2,cz P H1 H2->bx P pos q H2->(∀kv∈kvs,∀a,H2 a=some (.tup (kv.1.map kV))->tb [some (.ref a),some w'] H2 fun r H'=>r=.int (cost kv.1)/\H'=H2)/\
  ∀d (zs:List (List Key×Addr)),H1 d=none->H2 d=none->(zs.map (·.1)).Perm (kvs.map (·.1))->(zs.Pairwise fun a b=>cost a.1<=cost b.1)->(∀z∈zs,H2 z.2=some (.tup (z.1.map kV)))->Q (.ref d) (upd H2 d (.lst (zs.map fun z=>V.ref z.2)))
def sQ{X:Cx}{c0 P c:Addr}{params:Arguments}{body e:Expr}{scope:Scope}{pos p0 kpos cpos:Pos}{x y:Str}{i:Nat}{ta:TA}{tb:TE}(hc:X.calm=true)(hr:a9 1 X.A)(hcode:X.env.code=.ref c0)(C:CodeHd X.base c0 P)(hbm:Bm X.mg X.base)
  (L:gf X params scope c x y i)(hg:Gl X "sorted")(hm:X.mg "sorted"=none)(ha:PA X [e] ta)(hb:∀f c' s₃ H₃,PE (lK X (X.env.qual++"<lambda>") scope [(y,c)] x y f c' X.A.in1.in1 s₃ H₃) body tb)
  (h1:starEach [e] X.env=(false,eval e X.env)::starEach [] X.env:=by rfl):PE X (.Call (.Name "sorted" p0) [e] [⟨some "key",.Lambda params body scope pos,kpos⟩] cpos) (Ad P pos (X.env.qual++"<lambda>") i ta tb):=by
 intro pins s σ H Q I h;refine abh (eX I hg hm boot_sorted ?_);refine callWith_kw ?_ (by rw[h1];rfl) (by rw[h1];rfl);refine thn (ha cpos pins s σ H _ I h) fun us s1 hq=>?_
 obtain⟨x',H1,I1,rx,p,kvs,w',cost,rfl,hp,h64,T,hi,q⟩:=hq;obtain⟨u,rfl,ru⟩:=vals1 rx;cases ru
 refine(kws_cons (wE I1 hcode C T hbm L.clos L.dflt fun f c' pm ctv H2 s2 sT T2 hcO hf hge I2 ff hfo hsz=>kws_nil ?_));obtain⟨qb,q⟩:=q H2 sT T2;change wpAny (model X.prog X.w) X.A (call (.builtin "sorted") [.ref p] [("key",.ref f)]) _ _ s2;have hp2:H2 p=some (.dT kvs):=sT p _ (T.ne hp fun _ z=>by cases z) hp;obtain⟨lo,hz,xs,es,ep,kt,raw,hk,nd⟩:=I2.wB hp2;have hlen:=kt.len;have hes:es.size=xs.length:=by
  have:=acN List.length hk;rw[ab3,ab3,aa2] at this;exact this
 have hh:X.A.in1.handled=none:=I.ok.hd hc;refine call_function_entry_kw kind_sorted plain_sorted entry_sorted (ksk_s1 _ _) ?_;unfold Builtin.«sorted»;refine wpAny_bind (m:=checkCount "sorted" 1 1 _) (wpAny_pure (wpAny_bind (SL.kj lo hh raw (by rw[hes,←hlen];exact hz) fun h3 tk k3=>?_)));rw[hk];have hl64:(xs.map fun x=>Value.ref x.2.1).length<64:=by rw[ab3,←hlen];exact h64
 refine wpAny_bind (wpAny_newList ?_ (by rw[acJ];omega));have I3:Inv X pins σ H2 {s2 with heap:=h3,toks:=tk}:=I2.kept (t':=tk) k3;have hx:(h3.push (seqObj "list" (xs.map fun x=>Value.ref x.2.1).toArray 0)).get? h3.objs.size=some (seqObj "list" (xs.map fun x=>Value.ref x.2.1).toArray 0):=aa3 _ rfl;have Dn:H2 h3.objs.size=none:=I3.hok.fresh (acH _);have Df:cv X pins H2 h3.objs.size:=I3.fY (acH _) Dn;have D1:H1 h3.objs.size=none:=by
  cases z:H1 h3.objs.size with
  |none=>rfl
  |some o=>
   exfalso
   by_cases zP:h3.objs.size=P
   ·obtain⟨ps,hP,_⟩:=T2;rw[←zP,Dn] at hP;cases hP
   ·rw[sT _ _ zP z] at Dn;cases Dn
 have fl:f<h3.objs.size:=acw (k3 f _ hfo);have kD:∀b o,h3.get? b=some o->(h3.push (seqObj "list" (xs.map fun x=>Value.ref x.2.1).toArray 0)).get? b=some o:=fun b o e=>aaz _ e
 have I4:Inv X pins σ H2 {s2 with heap:=h3.push (seqObj "list" (xs.map fun x=>Value.ref x.2.1).toArray 0),toks:=tk}:=I3.kept (t':=tk) kD;generalize hob:kla_obj "<lambda>" (X.env.qual++"<lambda>") params body scope [(y,c)] pm c' ctv=ob at hfo;have obc:∀v,ob.data≠.cell v:=fun v z=>by rw[←hob] at z;cases z
 have I5:Inv X (pins++[(f,ob)]) σ H2 {s2 with heap:=h3.push (seqObj "list" (xs.map fun x=>Value.ref x.2.1).toArray 0),toks:=tk}:=I4.gi fun z hz'=>by
  rcases ab0.mp hz' with hz'|hz'
  ·exact I4.pin z (aaG _ hz')
  ·rw[abl.mp hz'];exact ff.sO (kD _ _ (k3 _ _ hfo)) obc
 have Df':cv X (pins++[(f,ob)]) H2 h3.objs.size:=by
  obtain⟨a1,a2,a3,a4,a5,a6⟩:=Df;refine⟨a1,a2,a3,a4,a5,fun z hz'=>?_⟩;rw[←abw] at hz';rcases ab0.mp hz' with hz'|hz'
  ·exact a6 z hz'
  ·rw[abl.mp hz'];exact acx fl
 change wpAny (model X.prog X.w) _ _ _ _ {s2 with heap:=h3.push (seqObj "list" (xs.map fun x=>Value.ref x.2.1).toArray 0),toks:=tk};refine wpAny_bind (act (wpAny_call_entry_kw slot_list_sort ⟨_,hx,rfl⟩ entry_list_sort ?bd (ksk_l1 _ _)));change wpAny (model X.prog X.w) X.A.in1.in1 (Builtin.«list.sort» ⟨[.ref h3.objs.size],[(Str.ofString "key",.ref f)]⟩) _ _ _;rw[ksk_t1];refine sP (cost:=fun j=>cost (xs.getD j ([],0,Value.none)).1) I5 hx Df' hl64 (fun more s4 j v J hv=>?_) fun pp s4 e4 hB hS J he4=>?_
 ·rw[abt] at hv;cases hj:xs[j]? with
  |none=>rw[hj] at hv;cases hv
  |some xx=>
   rw[hj] at hv;have hv:some (Value.ref xx.2.1)=some v:=hv;injection hv with hv;subst hv;obtain⟨vv,hkv,hH⟩:=kt.get j xx hj;have eg:xs.getD j ([],0,Value.none)=xx:=by rw[aah,hj];rfl
   have hfo4:=(J.pin (f,ob) (aaG _ (aaV _ (aaG _ (abl.mpr rfl))))).1;have hfo4:s4.heap.get? f=some (kla_obj "<lambda>" (X.env.qual++"<lambda>") params body scope [(y,c)] pm c' ctv):=by rw[hob];exact hfo4
   refine wF (v:=.ref xx.2.1) (w':=w') L J I.ok.frames hh hr.depth hfo4 (uQ J.hok hcO) rfl hi (hb f c' s4 H2) ?_;have:=qb (xx.1,vv) (aaW hkv) xx.2.1 hH;show tb _ H2 fun r H'=>r=.int (cost (xs.getD j ([],0,Value.none)).1)/\H'=H2
   rw[eg];exact this
 ·rw[ab3] at hB hS;have e0:∀j∈pp.toList,j<xs.length:=fun j hj=>by
   have h1:pp.toList.Perm (List.range xs.length):=by
    have:=aai.mp hB;simpa using this
   exact acg.mp (h1.mem_iff.mp hj)
  generalize hzs:(pp.toList.map fun j=>((xs.getD j ([],0,Value.none)).1,(xs.getD j ([],0,Value.none)).2.1))=zs;have ho:ce (xs.map fun x=>Value.ref x.2.1) pp=zs.map fun z=>Value.ref z.2:=by
   rw[←hzs,acD];exact aa8 fun j hj=>getD_map (fun x=>Value.ref x.2.1) xs (e0 j hj) ([],0,Value.none) Value.none
  have hzl:zs.length=xs.length:=by rw[←hzs,ab3,aa2,hB.size]
  rw[ho] at he4;have J2:Inv X pins σ (upd H2 h3.objs.size (.lst (zs.map fun z=>V.ref z.2))) s4:=by
   refine J.sN.A1 Df ⟨?_,_,e4,m9 (fun z:List Key×Addr=>z.2) zs,he4⟩;rw[ab3,hzl,←hlen];exact hz
  refine⟨_,rfl,wpAny_pure ⟨_,rfl,.ref h3.objs.size,_,J2,rfl,q _ zs D1 Dn ?_ ?_ fun z hz'=>?_⟩⟩
  ·have h2:=(pJ xs ([],0,Value.none) hB).map (·.1);have e:zs.map (·.1)=(pp.toList.map fun j=>xs.getD j ([],0,Value.none)).map (·.1):=by rw[←hzs,acD,acD];rfl
   have e':xs.map (·.1)=kvs.map (·.1):=by
    have all:∀{l:List (List Key×V)} {m:List (List Key×Addr×Value)},KT H2 l m->m.map (·.1)=l.map (·.1):=by
     intro l m z
     induction z with
     |nil=>rfl
     |cons a b ih=>rw[acr,acr,ih,a.1]
    exact all kt
   rw[e,←e'];exact h2
  ·have h3:=uO hB hS;rw[←hzs,List.pairwise_map];refine h3.imp fun{a b} z=>?_
   have z:decide (cost (xs.getD b ([],0,Value.none)).1<cost (xs.getD a ([],0,Value.none)).1)=false:=z;rw[aax] at z;exact Int.not_lt.mp z
  ·rw[←hzs] at hz';obtain⟨j,hj,rfl⟩:=acB.mp hz';obtain⟨m,hm⟩:=aaN.mp (getD_mem xs (e0 j hj) ([],0,Value.none));obtain⟨vv,_,hH⟩:=kt.get m _ hm;exact hH
end L2
namespace Nw
open PySem L2
open SL (aj srt)
def aU.xK{X:Cx}{scope:Scope}{cl:List (Str×Addr)}{N:List Str}{sel:List (Option Nat)}(fr:List Str)(clos:closureFor scope X.env=pure cl)(hk:scope.kind=.function)(hek:X.env.scope.kind=.function)
  (hn:∀y∈scope.names,y.2=.local\/y.2=.globalImplicit\/(y.2=.free/\y.1∈fr))(hl:∀y∈scope.names,y.2=.local->scope.names.lookup y.1=some .local)
  (hfr:∀x∈fr,X.env.kindOf x=some .cell/\scope.names.lookup x=some .free/\∃c,cl.lookup x=some c/\X.env.cells.lookup x=some c)(hcl:∀y∈cl,y.1∈fr)
  (hlen:sel.length=N.length)(hsel:∀(j i:Nat),sel[j]? =some (some i)->∃x∈fr,X.N[i]? =some x/\N[j]? =some x):aU X scope cl N sel where
 clos:=clos
 nocell:=fun y hy z=>by
  rcases hn y hy with e|e|⟨e,_⟩
  ·rw[e] at z;cases z
  ·rw[e] at z;cases z
  ·rw[e] at z;cases z
 kind:=hk
 locs:=hl
 cells:=fun x c h=>by
  obtain⟨_,_,c',h1,h2⟩:=hfr x (hcl _ (lookup_mem h));rw[h] at h1;cases h1
  exact h2
 has:=fun x ⟨v,n⟩=>by
  have key:∀kd:NameKind,(relabel scope X.env).names.lookup x=some kd->kd≠.local->kd≠.globalImplicit->∃c,cl.lookup x=some c:=fun kd h hne hng=>by
   rw[dU] at h;cases q:scope.names.lookup x with
   |none=>rw[q] at h;cases h
   |some k0=>
    rw[q] at h;rcases hn _ (lookup_mem q) with e|e|⟨_,e⟩
    ·have e:k0=.local:=e;subst e;have h:some NameKind.local=some kd:=h;injection h with h;exact absurd h.symm hne
    ·have e:k0=.globalImplicit:=e;subst e;have h:some NameKind.globalImplicit=some kd:=h;injection h with h;exact absurd h.symm hng
    ·obtain⟨_,_,c,h1,_⟩:=hfr x e;exact⟨c,h1⟩
  rcases v with z|z|z
  ·exact absurd z n
  ·exact key _ z (by decide) (by decide)
  ·exact key _ z (by decide) (by decide)
 len:=hlen
 names:=fun j i h=>by
  obtain⟨x,hx,h1,h2⟩:=hsel j i h;obtain⟨k1,k2,_⟩:=hfr x hx;have k1:X.env.scope.names.lookup x=some .cell:=k1;refine⟨x,h1,h2,⟨.inr (.inl k1),by rw[k1];decide⟩,?_⟩;rw[dU,k2];show some (if _ then _ else _)≠_;split <;> decide
def aU.one{X:Cx}{scope:Scope}{cl:List (Str×Addr)}{N:List Str}{sel:List (Option Nat)}(x:Str)(clos:closureFor scope X.env=pure cl)(hk:scope.kind=.function)(hek:X.env.scope.kind=.function)
  (hn:∀y∈scope.names,y.2=.local\/y.2=.globalImplicit\/(y.2=.free/\y.1∈[x]))(hl:∀y∈scope.names,y.2=.local->scope.names.lookup y.1=some .local)
  (h1:X.env.kindOf x=some .cell)(h2:scope.names.lookup x=some .free)(h3:∃c,cl=[(x,c)]/\X.env.cells.lookup x=some c)
  (hlen:sel.length=N.length)(hsel:∀(j i:Nat),sel[j]? =some (some i)->X.N[i]? =some x/\N[j]? =some x):aU X scope cl N sel:=by
 obtain⟨c,rfl,hc⟩:=h3;refine aU.xK [x] clos hk hek hn hl (fun y hy=>?_) (fun y hy=>?_) hlen fun j i h=>⟨x,abl.mpr rfl,(hsel j i h).1,(hsel j i h).2⟩
 ·rw[abl.mp hy];exact⟨h1,h2,c,by rw[abT,abW],hc⟩
 ·rw[abl.mp hy];exact abl.mpr rfl
def rc{n:Nat}{M N:List Str}{x:Str}(h1:M[n]? =some x)(h2:N[1]? =some x):∀(j i:Nat),([none,some n]:List (Option Nat))[j]? =some (some i)->M[i]? =some x/\N[j]? =some x:=by
 intro j i h;rcases j with _|_|j
 ·cases h
 ·cases h;exact⟨h1,h2⟩
 ·cases h
def aU.none{X:Cx}{scope:Scope}{N:List Str}{sel:List (Option Nat)}(clos:closureFor scope X.env=pure [])(hk:scope.kind=.function)(hek:X.env.scope.kind=.function)
  (hn:∀y∈scope.names,y.2=.local\/y.2=.globalImplicit)(hl:∀y∈scope.names,y.2=.local->scope.names.lookup y.1=some .local)
  (hlen:sel.length=N.length)(hsel:∀o∈sel,o=Option.none):aU X scope [] N sel:=
 aU.xK [] clos hk hek (fun y hy=>(hn y hy).imp_right .inl) hl (fun y hy=>by cases hy) (fun y hy=>by cases hy) hlen fun j i h=>by
  have:=hsel _ (aaW h);cases this
end Nw
namespace Nw
open PySem L2
open SL (aj srt)
abbrev Kx:=Str ⊕ (Str×Str)
structure Rec where
 key:Str×Str
 num:Nat
 keys:List Kx
def eE(H:Hp)(v:V):Kx->Prop
 |.inl w=>v=.str w
 |.inr p=>∃t,v=.ref t/\H t=some (.tup [.str p.1,.str p.2])
def cO(H:Hp)(a:Addr)(ks:List Kx):Prop:=∃vs,H a=some (.lst vs)/\Paired (eE H) vs ks
def RecAt(H:Hp)(v:V)(r:Rec):Prop:=∃t kt l,v=.ref t/\H t=some (.tup [.ref kt,.int r.num,.ref l])/\H kt=some (.tup [.str r.key.1,.str r.key.2])/\cO H l r.keys
def uT(H:Hp)(a:Addr)(rs:List Rec):Prop:=∃vs,H a=some (.lst vs)/\Paired (RecAt H) vs rs
def eE.mono{H H':Hp}(e:ab H H'){v:V}:∀{k:Kx},eE H v k->eE H' v k
 |.inl _,h=>h
 |.inr _,⟨t,h1,h2⟩=>⟨t,h1,e _ _ h2⟩
def cO.mono{H H':Hp}(e:ab H H'){a:Addr}{ks:List Kx}(h:cO H a ks):cO H' a ks:=by
 obtain⟨vs,h1,h2⟩:=h;exact⟨vs,e _ _ h1,Paired.bp h2 fun _ _ z=>z.mono e⟩
def RecAt.mono{H H':Hp}(e:ab H H'){v:V}{r:Rec}(h:RecAt H v r):RecAt H' v r:=by
 obtain⟨t,kt,l,h1,h2,h3,h4⟩:=h;exact⟨t,kt,l,h1,e _ _ h2,e _ _ h3,h4.mono e⟩
def eE.keep{H H':Hp}(e:∀b xs,H b=some (.tup xs)->H' b=some (.tup xs)){v:V}:∀{k:Kx},eE H v k->eE H' v k
 |.inl _,h=>h
 |.inr _,⟨t,h1,h2⟩=>⟨t,h1,e _ _ h2⟩
def eF(signs:List Str):List Kx:=signs.map fun s=>.inr ("empty",s)
structure Cons(mg:Str->Option Value):Prop where
 whole:∃u,mg "WHOLE"=some u/\RelV (.str "whole") u
 empty:∃u,mg "EMPTY"=some u/\RelV (.str "empty") u
 end_:∃u,mg "END"=some u/\RelV (.str "") u
abbrev sEk:Stmt:=top 17
def BK:aE ["signs"] ["signs"] (am sEk):=acW
def Ae:Sp:=fun vs H Q _=>∃(a:Addr) (r:List Str),vs=[.ref a]/\ao H a r/\r.length<=900/\∀q H',ab H H'->H q=none->cO H' q (eF r)->Q (.ref q) H'
section
variable {P:Program}{w:World}{K:acX}{mg:Str->Option Value}{base:Heap}
def e8(H:Hp)(D:Addr)(H1:Hp)(ks:List Kx):Prop:=∃vs,H1 D=some (.lst vs)/\Paired (eE H1) vs ks/\ab H H1
def e8.zero{H:Hp}{D:Addr}(hD:H D=none):e8 H D (upd H D (.lst [])) []:=⟨[],aa,.nil,ab.upd hD⟩
def e8.len{H H1:Hp}{D:Addr}{ks:List Kx}(h:e8 H D H1 ks){vs:List V}(e:H1 D=some (.lst vs)):vs.length=ks.length:=by
 obtain⟨vs',h1,h2,_⟩:=h;rw[e] at h1;cases h1;exact aco h2
def e8.add{H H1 H2:Hp}{D:Addr}{ks:List Kx}{k:Kx}{v:V}{vs:List V}(h:e8 H D H1 ks)(hD:H D=none)(s:ab H1 H2)(e:H2 D=some (.lst vs))(hk:eE H2 v k):e8 H D (upd H2 D (.lst (vs++[v]))) (ks++[k]):=by
 obtain⟨vs',h1,h2,h3⟩:=h;have e':=s _ _ h1;rw[e] at e';cases e';have kp:∀b xs,H2 b=some (.tup xs)->upd H2 D (.lst (vs++[v])) b=some (.tup xs):=fun b xs z=>by
  rw[ad (fun q=>by rw[q,e] at z;cases z)];exact z
 exact⟨vs++[v],aa,b7 (Paired.bp h2 fun _ _ z=>(z.mono s).keep kp) (hk.keep kp),(h3.trans s).bG hD⟩
def e8.fin{H H1:Hp}{D:Addr}{ks:List Kx}(h:e8 H D H1 ks):ab H H1/\cO H1 D ks:=by
 obtain⟨vs,h1,h2,h3⟩:=h;exact⟨h3,vs,h1,h2⟩
def A2{f:Addr}{fd:FuncData}(F:Fun K "empty_keys" "empty_keys" sEk f fd)(C:Cons mg):aM P w K mg base CX0 1 f fd ["signs"] Ae:=by
 refine F.ok BK (fun vs H Q E h=>?_) (fun cdv A outer s H vs Q E hr h=>?_)
 ·obtain⟨a,r,rfl,_⟩:=h;rfl
 ·obtain⟨a,r,rfl,hA,hl,k⟩:=h;obtain⟨uw,hw,rw'⟩:=C.empty;refine⟨_,ag (aO (cV (aU.none (N:=["sign"]) (sel:=[none]) (by rfl) (by rfl) (by rfl) (by decide) (by decide) (by rfl) (by decide)) rfl (aS (pv 0)) (fun s₃ H₃ fp=>ap (i:=0) (show(["sign"]:List Str).Nodup by decide) rfl (Or.inl rfl)) (fun s₃ H₃ fp=>cI)
    (fun s₃ H₃ fp=>bj (ai (lY (X:=b9 _ _ _ _ _ _ _) (by rfl) hw rw') (ai (pv 0) ac))))),?_⟩
  have hA:H a=some (.lst (r.map V.str)):=hA;refine⟨_,rfl,a,rfl,⟨_,SqL.of hA⟩,fun D hD=>da (K:=K) (xs:=r.map V.str) (fun j τ H4=>(∃o,τ=[o])/\e8 H D H4 (eF (r.take j))) ⟨⟨_,rfl⟩,e8.zero hD⟩ ?_ ?_ ?_⟩
  ·rintro j τ H4 ⟨_,hs⟩;exact SqL.of (hs.fin.1 _ _ hA)
  ·rintro j x τ H4 hx ⟨⟨o,rfl⟩,hs⟩;obtain⟨y,hy,rfl⟩:=bH hx;have hjl:j<r.length:=(aaj.mp hy).1;obtain⟨vs,hv,_⟩:=id hs;have hvl:=hs.len hv;unfold eF at hvl;rw[ab3,abK] at hvl;have et:eF (r.take (j+1))=eF (r.take j)++[.inr ("empty",y)]:=by
    unfold eF;rw[acm,hy,ab9];rfl
   refine⟨_,rfl,acU,fun t ht=>?_⟩;have sT:=ab.upd (o:=HO.tup [.str "empty",.str y]) ht;refine⟨vs,sT _ _ hv,az (by omega),⟨_,rfl⟩,?_⟩;rw[et];exact hs.add hD sT (sT _ _ hv) ⟨t,rfl,aa⟩
  ·rintro τ H4 ⟨_,hs⟩;rw[ab3,abS] at hs;exact k D _ hs.fin.1 hD hs.fin.2
end
end Nw
namespace Nw
open PySem L2
open SL (aj srt)
def hide(w:Addr)(H:Hp):Hp:=fun b=>if b=w then none else H b
def hide_ne{w b:Addr}{H:Hp}(h:b≠w):hide w H b=H b:=acS h
def _root_.L2.ab.hide{H1 H2:Hp}{w:Addr}(s:ab H1 H2):ab (hide w H1) (hide w H2):=fun b o e=>by
 by_cases q:b=w
 ·unfold Nw.hide at e;rw[acR q] at e;cases e
 ·rw[hide_ne q] at e ⊢;exact s b o e
def _root_.L2.ab.lM{H:Hp}{w:Addr}:ab (Nw.hide w H) H:=fun b o e=>by
 by_cases q:b=w
 ·unfold Nw.hide at e;rw[acR q] at e;cases e
 ·rwa [hide_ne q] at e
def wG{H:Hp}{w:Addr}{o:HO}:hide w (upd H w o)=hide w H:=by
 funext b
 by_cases q:b=w
 ·unfold hide;rw[acR q,acR q]
 ·rw[hide_ne q,hide_ne q,ad q]
def cA{α:Type}(F:Hp->V->α->Prop)(H:Hp)(wl:Addr)(H1:Hp)(ys:List α):Prop:=∃vs,H1 wl=some (.lst vs)/\Paired (F (hide wl H1)) vs ys/\ab H H1
def kR{α:Type}(F:Hp->V->α->Prop):Prop:=∀H H' v y,ab H H'->F H v y->F H' v y
section
variable {α:Type}{F:Hp->V->α->Prop}{H H1 H2:Hp}{wl:Addr}{ys:List α}
def cA.zero(h:H wl=none):cA F H wl (upd H wl (.lst [])) []:=⟨[],aa,.nil,ab.upd h⟩
def cA.on(M:kR F)(h:cA F H wl H1 ys)(s:ab H1 H2):cA F H wl H2 ys:=by
 obtain⟨vs,h1,h2,h3⟩:=h;exact⟨vs,s _ _ h1,Paired.bp h2 fun _ _ z=>M _ _ _ _ s.hide z,h3.trans s⟩
def cA.len(h:cA F H wl H1 ys){vs:List V}(e:H1 wl=some (.lst vs)):vs.length=ys.length:=by
 obtain⟨vs',h1,h2,_⟩:=h;rw[e] at h1;cases h1;exact aco h2
def cA.add(h:cA F H wl H1 ys)(hn:H wl=none){vs:List V}(e:H1 wl=some (.lst vs)){v:V}{y:α}(hk:F (hide wl H1) v y):cA F H wl (upd H1 wl (.lst (vs++[v]))) (ys++[y]):=by
 obtain⟨vs',h1,h2,h3⟩:=h;rw[e] at h1;cases h1;refine⟨vs++[v],aa,?_,h3.bG hn⟩;rw[wG];exact b7 h2 hk
def cA.fin(M:kR F)(h:cA F H wl H1 ys):ab H H1/\∃vs,H1 wl=some (.lst vs)/\Paired (F H1) vs ys:=by
 obtain⟨vs,h1,h2,h3⟩:=h;exact⟨h3,vs,h1,Paired.bp h2 fun _ _ z=>M _ _ _ _ ab.lM z⟩
end
def cO.hide{H:Hp}{q wl:Addr}{ks:List Kx}{vs:List V}(h:cO H q ks)(hq:q≠wl)(e:H wl=some (.lst vs)):cO (Nw.hide wl H) q ks:=by
 obtain⟨us,h1,h2⟩:=h;refine⟨us,by rw[hide_ne hq];exact h1,Paired.bp h2 fun _ _ z=>z.keep fun b xs y=>?_⟩;rw[hide_ne (fun q=>by rw[q,e] at y;cases y)];exact y
section
variable {P:Program}{w:World}{K:acX}{mg:Str->Option Value}{base:Heap}
end
end Nw
namespace Nw
open PySem L2
open SL (aj srt)
def eQ:kR RecAt:=fun _ _ _ _ s h=>h.mono s
section
variable {P:Program}{w:World}{K:acX}{mg:Str->Option Value}{base:Heap}
end
end Nw
namespace Nw
open PySem L2
open SL (aj srt)
def uU{H H2:Hp}{wl l kt t:Addr}{ys:List Rec}{vs:List V}{ks:List Kx}{kd lf:Str}{n:Nat}(hwl:H wl=none)(hg:cA RecAt H wl H2 ys)(e:H2 wl=some (.lst vs))(hkt:H2 kt=some (.tup [.str kd,.str lf]))(hk:cO H2 l ks)(hl:l≠wl)(ht:H2 t=none) :
  cA RecAt H wl (upd (upd H2 t (.tup [.ref kt,.int n,.ref l])) wl (.lst (vs++[.ref t]))) (ys++[⟨(kd,lf),n,ks⟩]):=by
 have s2:=ab.upd (o:=HO.tup [.ref kt,.int (n:Int),.ref l]) ht;have e2:=s2 _ _ e;have nk:kt≠wl:=fun q=>by rw[q,e] at hkt;cases hkt
 have nt:t≠wl:=fun q=>by rw[q,e] at ht;cases ht
 refine(hg.on eQ s2).add hwl e2 ⟨t,kt,l,rfl,?_,?_,(hk.mono s2).hide hl e2⟩
 ·rw[hide_ne nt];exact aa
 ·rw[hide_ne nk];exact s2 _ _ hkt
section
variable {P:Program}{w:World}{K:acX}{mg:Str->Option Value}{base:Heap}
end
end Nw
namespace Nw
open PySem L2
open SL (aj srt)
abbrev Bst:=Str×Str->Option (Nat×Rec)
def aL(k:Str×Str):List Key:=[.inr k.1,.inr k.2]
def cT{a b:Str×Str}(h:aL a=aL b):a=b:=by
 unfold aL at h;injection h with h1 h2;injection h1 with h1;injection h2 with h2 _;injection h2 with h2;exact Prod.ext h1 h2
structure bJ(H:Hp)(d:Addr)(ks:List (Str×Str))(g:Bst):Prop where
 ex:∃kvs,H d=some (.dT kvs)/\kvs.map (·.1)=ks.map aL/\∀k,match g k with
  |some (c,r)=>∃t v,aD kvs (aL k)=some (.ref t)/\H t=some (.tup [.int (c:Nat),v])/\RecAt H v r
  |none=>aD kvs (aL k)=none
 mem:∀k,k∈ks↔∃c r,g k=some (c,r)
def bJ.mono{H H':Hp}{d:Addr}{ks:List (Str×Str)}{g:Bst}(h:bJ H d ks g)(s:ab H H'):bJ H' d ks g:=by
 obtain⟨⟨kvs,h1,h2,h3⟩,h4⟩:=h;refine⟨⟨kvs,s _ _ h1,h2,fun k=>?_⟩,h4⟩;have:=h3 k;cases e:g k with
 |none=>rw[e] at this;exact this
 |some cr=>
  rw[e] at this;obtain⟨t,v,a,b,c⟩:=this;exact⟨t,v,a,s _ _ b,c.mono s⟩
def bJ.get{H:Hp}{d b:Addr}{ks:List (Str×Str)}{g:Bst}(h:bJ H d ks g){k:Str×Str}(hb:H b=some (.tup [.str k.1,.str k.2])) :
  (∃c r t v,g k=some (c,r)/\bu H d (.ref b) (some (.ref t))/\H t=some (.tup [.int (c:Nat),v])/\RecAt H v r)\/(g k=none/\bu H d (.ref b) none):=by
 obtain⟨⟨kvs,h1,h2,h3⟩,_⟩:=h;have h:=h3 k;cases e:g k with
 |none=>
  rw[e] at h;refine .inr ⟨rfl,?_⟩;have h:aD kvs (aL k)=none:=h;rw[←h];exact bu.t h1 hb
 |some cr=>
  obtain⟨c,r⟩:=cr;rw[e] at h;obtain⟨t,v,a,b',c'⟩:=h;refine .inl ⟨c,r,t,v,rfl,?_,b',c'⟩;rw[←a];exact bu.t h1 hb
def aK(g:Bst):List Kx->Option Nat
 |[]=>some 0
 |.inl _::r=>(aK g r).map (1 + ·)
 |.inr p::r=>(g p).bind fun cr=>(aK g r).map (cr.1 + ·)
def eV(g:Bst):∀a b,aK g (a++b)=(aK g a).bind fun x=>(aK g b).map (x + ·)
 |[],b=>by
  show aK g b=(aK g b).map (0 + ·);cases aK g b <;> simp
 |.inl w::a,b=>by
  show(aK g (a++b)).map (1 + ·)=((aK g a).map (1 + ·)).bind _;rw[eV g a b];cases aK g a with
  |none=>rfl
  |some x=>cases aK g b <;> simp[Nat.add_assoc]
 |.inr p::a,b=>by
  show((g p).bind fun cr=>(aK g (a++b)).map (cr.1 + ·))=((g p).bind fun cr=>(aK g a).map (cr.1 + ·)).bind _;rw[eV g a b];cases g p with
  |none=>rfl
  |some cr=>
   cases aK g a with
   |none=>rfl
   |some x=>cases aK g b <;> simp[Nat.add_assoc]
def sR{g:Bst}{l:List Kx}{i:Nat}{k:Kx}(hk:l[i]? =some k)(h:aK g (l.take i++[k])=none):aK g l=none:=by
 have e:l=(l.take i++[k])++l.drop (i+1):=by
  have hi:=(aaj.mp hk);have:l.take (i+1)=l.take i++[k]:=by rw[acm,hk];rfl
  rw[←this,aaT]
 rw[e,eV,h];rfl
abbrev wH:Stmt:=top 21
def lN:aE ["keys","best","cost","key"] ["keys","best"] (am wH):=acW
def A3:Option Nat->V
 |some c=>.int (c:Nat)
 |none=>.non
def xL:Sp:=fun vs H Q _=>∃(l d:Addr) (ks:List Kx) (kk:List (Str×Str)) (g:Bst),vs=[.ref l,.ref d]/\cO H l ks/\bJ H d kk g/\Q (A3 (aK g ks)) H
section
variable {P:Program}{w:World}{K:acX}{mg:Str->Option Value}{base:Heap}
def BL:PySem.W.kitOne K (.type "str") (.type "tuple")=some false:=by rfl
def Af{f:Addr}{fd:FuncData}(F:Fun K "cost_of_keys" "cost_of_keys" wH f fd)(T:Txt mg):aM P w K mg base CX0 1 f fd ["keys","best"] xL:=by
 refine F.ok lN (fun vs H Q E h=>?_) (fun cdv A outer s H vs Q E hr h=>?_)
 ·obtain⟨l,d,ks,kk,g,rfl,_⟩:=h;rfl
 ·obtain⟨l,d,ks,kk,g,rfl,hK,hB,k⟩:=h;have hu:=bO hr;refine⟨_,af (ak (i:=2) lN.nd rfl (Or.inl rfl) aq)
   (af (bf ace rfl (aS (pv 0)) (ap (i:=3) lN.nd rfl (Or.inl rfl))
    (ag (bh (eY (bN (aB cE (by rfl) T.isi acf (ai (pv 3) (ai (cC (v:=.ty "tuple") (by rfl) T.tup iU rfl) ac)))))
     (ag (ak (i:=2) lN.nd rfl (Or.inl rfl) (bV ic (pv 2) aq)))
     (ag (bh (ej (ik hu (pv 3) (pv 1)))
      (ag (ak (i:=2) lN.nd rfl (Or.inl rfl) (bV ic (pv 2) (aG aR (bK hu (pv 1) (pv 3) (fun _ _=>rfl)) aq (fun _ _=>rfl)))))
      (ag (aO i9)))))))
   (ag (aO (pv 2)))),?_⟩
  obtain⟨us,hus,hp⟩:=id hK;refine⟨_,rfl,l,rfl,⟨_,SqL.of hus⟩,bq (K:=K) (a:=l) (xs:=us)
   (fun i σ H4=>H4=H/\∃c o,aK g (ks.take i)=some c/\σ=[some (.ref l),some (.ref d),some (.int (c:Nat)),o]) ⟨rfl,0,_,rfl,rfl⟩ ?_ ?_ ?_⟩
  ·rintro i σ H4 _ ⟨rfl,_⟩;exact SqL.of hus
  ·rintro i x σ H4 hx ⟨rfl,c,o,hc,rfl⟩;obtain⟨kx,hki,hkx⟩:=ba hp i x hx;have et:ks.take (i+1)=ks.take i++[kx]:=by rw[acm,hki];rfl
   cases kx with
   |inl w=>
    have hkx:x=.str w:=hkx;subst hkx;refine⟨_,rfl,_,_,_,_,rfl,.str _,BL,_,rfl,?_⟩;refine bC ⟨_,rfl,_,_,rfl,rfl,rfl,c+1,_,?_,rfl⟩;rw[et,eV,hc];rfl
   |inr p=>
    obtain⟨t,rfl,ht⟩:=hkx;refine⟨_,rfl,_,_,_,_,rfl,.tup ht,zI,_,rfl,?_⟩;refine aT ?_;rcases hB.get ht with ⟨cc,r,tt,v,hg,hd,htt,_⟩|⟨hg,hd⟩
    ·refine⟨_,rfl,_,rfl,d,_,rfl,hd,_,rfl,bC ⟨_,rfl,_,rfl,_,rfl,d,_,rfl,hd,tt,_,0,_,rfl,rfl,SqT.of htt,au (j:=0) rfl,_,_,rfl,rfl,rfl,c+cc,some (.ref t),?_,?_⟩⟩
     ·rw[et,eV,hc];simp[aK,hg]
     ·show [_,_,some (V.int ((c:Int)+(cc:Int))),_]=_;push_cast;rfl
    ·refine⟨_,rfl,_,rfl,d,_,rfl,hd,_,rfl,aT ?_⟩;have hn:aK g ks=none:=sR hki (by
      rw[eV,hc];simp[aK,hg])
     rw[hn] at k;exact k
  ·rintro σ H4 ⟨rfl,c,o,hc,rfl⟩;have hl:us.length=ks.length:=aco hp;rw[hl,abS] at hc;rw[hc] at k;exact⟨_,rfl,k⟩
end
end Nw
namespace Nw
open PySem L2
open SL (aj srt)
def setB(g:Bst)(k:Str×Str)(v:Nat×Rec):Bst:=fun j=>if j=k then some v else g j
def c7(g:Bst)(k:Str×Str)(v:Nat×Rec):setB g k v k=some v:=acR rfl
def dt{g:Bst}{k j:Str×Str}{v:Nat×Rec}(h:j≠k):setB g k v j=g j:=acS h
def LeB(g g':Bst):Prop:=∀k c r,g k=some (c,r)->∃c' r',g' k=some (c',r')/\c'<=c
def iW{g g':Bst}(h:LeB g g'):∀{l:List Kx} {c:Nat},aK g l=some c->∃c',aK g' l=some c'/\c'<=c
 |[],c,e=>⟨0,rfl,acI _⟩
 |.inl w::l,c,e=>by
  have e:(aK g l).map (1 + ·)=some c:=e;cases q:aK g l with
  |none=>rw[q] at e;cases e
  |some x=>
   rw[q] at e;have e:some (1+x)=some c:=e;injection e with e;obtain⟨x',e',l'⟩:=iW h q;exact⟨1+x',by show(aK g' l).map (1 + ·)=_;rw[e'];rfl,by omega⟩
 |.inr p::l,c,e=>by
  have e:((g p).bind fun cr=>(aK g l).map (cr.1 + ·))=some c:=e;cases qp:g p with
  |none=>rw[qp] at e;cases e
  |some cr=>
   obtain⟨y,r⟩:=cr;rw[qp] at e;cases q:aK g l with
   |none=>rw[q] at e;cases e
   |some x=>
    rw[q] at e;have e:some (y+x)=some c:=e;injection e with e;obtain⟨x',e',l'⟩:=iW h q;obtain⟨y',r',ey,ly⟩:=h p y r qp;exact⟨y'+x',by show((g' p).bind fun cr=>(aK g' l).map (cr.1 + ·))=_;rw[ey,e'];rfl,by omega⟩
def hZ{g:Bst}{B:Nat}(hB:1<=B)(h:∀k c r,g k=some (c,r)->c<=B):∀{l:List Kx} {c:Nat},aK g l=some c->c<=l.length*B
 |[],c,e=>by
  have e:some 0=some c:=e;injection e with e;omega
 |.inl w::l,c,e=>by
  have e:(aK g l).map (1 + ·)=some c:=e;cases q:aK g l with
  |none=>rw[q] at e;cases e
  |some x=>
   rw[q] at e;have e:some (1+x)=some c:=e;injection e with e;have:=hZ hB h q;rw[abI,Nat.succ_mul];omega
 |.inr p::l,c,e=>by
  have e:((g p).bind fun cr=>(aK g l).map (cr.1 + ·))=some c:=e;cases qp:g p with
  |none=>rw[qp] at e;cases e
  |some cr=>
   obtain⟨y,r⟩:=cr;rw[qp] at e;cases q:aK g l with
   |none=>rw[q] at e;cases e
   |some x=>
    rw[q] at e;have e:some (y+x)=some c:=e;injection e with e;have:=hZ hB h q;have:=h p y r qp;rw[abI,Nat.succ_mul];omega
def fJ(M π:Nat):Nat->Nat
 |0=>1
 |n+1=>fJ M π n+(M*fJ M π n + π)
def pL(M π:Nat):∀n,1<=fJ M π n
 |0=>acH _
 |n+1=>acy (pL M π n) (Nat.le_add_right _ _)
def ni(M π:Nat):∀{m n:Nat},m<=n->fJ M π m<=fJ M π n:=by
 intro m n h
 induction h with
 |refl=>exact acH _
 |step _ ih=>exact acy ih (Nat.le_add_right _ _)
def e9(g:Bst)(ks:List (Str×Str)):Nat:=(ks.map fun k=>((g k).map (·.1)).getD 0).sum
def uV(g:Bst)(ks:List (Str×Str))(k:Str×Str):e9 g (ks++[k])=e9 g ks+((g k).map (·.1)).getD 0:=by
 unfold e9;rw[ab9,List.sum_append];simp
def lO{g g':Bst}{ks:List (Str×Str)}(h:∀k∈ks,g k=g' k):e9 g ks=e9 g' ks:=by
 unfold e9;rw[aa8 fun k hk=>by rw[h k hk]]
def pM{g:Bst}{k:Str×Str}{c c':Nat}{r r':Rec}(hg:g k=some (c,r)):∀{ks:List (Str×Str)},ks.Nodup->k∈ks->e9 (setB g k (c',r')) ks+c=e9 g ks+c'
 |[],_,hk=>by cases hk
 |j::ks,nd,hk=>by
  have nd':=ab6.mp nd;show((setB g k (c',r') j).map (·.1)).getD 0+e9 (setB g k (c',r')) ks+c=((g j).map (·.1)).getD 0+e9 g ks+c'
  by_cases q:j=k
  ·subst q;have e:e9 (setB g j (c',r')) ks=e9 g ks:=lO fun x hx=>dt (fun z=>nd'.1 (z▸hx))
   rw[c7,hg,e];show c'+_+c=c+_+c';omega
  ·have hk':k∈ks:=by
    rcases acq.mp hk with z|z
    ·exact absurd z.symm q
    ·exact z
   have:=pM (c':=c') (r':=r') hg nd'.2 hk';rw[dt q];omega
structure gG(π:Nat)(RS:List Rec)(g:Bst):Prop where
 own:∀k c r,g k=some (c,r)->r∈RS/\r.key=k/\∃cc,aK g r.keys=some cc/\cc + π<=c
def gG.set{π:Nat}{RS:List Rec}{g:Bst}(h:gG π RS g){r:Rec}(hr:r∈RS){cc:Nat}(hc:aK g r.keys=some cc)(hl:LeB g (setB g r.key (cc + π,r))):gG π RS (setB g r.key (cc + π,r)):=by
 refine⟨fun k c r' e=>?_⟩
 by_cases q:k=r.key
 ·rw[q,c7] at e;injection e with e;injection e with e1 e2;subst e2;obtain⟨c',h1,h2⟩:=iW hl hc;exact⟨hr,q.symm,c',h1,by omega⟩
 ·rw[dt q] at e;obtain⟨a,b,c1,h1,h2⟩:=h.own k c r' e;obtain⟨c',h3,h4⟩:=iW hl h1;exact⟨a,b,c',h3,by omega⟩
def iB(π:Nat)(RS:List Rec)(g:Bst):Prop:=∀r∈RS,∀cc,aK g r.keys=some cc->∃c r',g r.key=some (c,r')/\c<=cc + π
structure gH(π M N:Nat)(RS:List Rec)(ks:List (Str×Str))(g:Bst):Prop where
 nd:ks.Nodup
 len:ks.length<=N
 ok:gG π RS g
 cap:∀k c r,g k=some (c,r)->c<=fJ M π ks.length
def phi(π M N:Nat)(ks:List (Str×Str))(g:Bst):Nat:=e9 g ks+(N - ks.length)*(fJ M π N+1)
section
variable {π M N:Nat}{RS:List Rec}{ks:List (Str×Str)}{g:Bst}{r:Rec}{cc:Nat}{H:Hp}{d:Addr}
def gH.new{KS:List (Str×Str)}(I:gH π M N RS ks g)(hN:KS.length=N)(hKS:∀r∈RS,r.key∈KS)(hm:∀k,k∈ks↔∃c r,g k=some (c,r))(hr:r∈RS)(hM:r.keys.length<=M)(hc:aK g r.keys=some cc)(hn:g r.key=none) :
  gH π M N RS (ks++[r.key]) (setB g r.key (cc + π,r))/\phi π M N (ks++[r.key]) (setB g r.key (cc + π,r))<phi π M N ks g/\LeB g (setB g r.key (cc + π,r)):=by
 have hnk:¬r.key∈ks:=fun z=>by
  obtain⟨c,r',e⟩:=(hm _).mp z;rw[hn] at e;cases e
 have nd':(ks++[r.key]).Nodup:=fE I.nd hnk;have hl:LeB g (setB g r.key (cc + π,r)):=fun k c r' e=>⟨c,r',by rw[dt (fun z=>by rw[z,hn] at e;cases e)];exact e,acH _⟩
 have hsub:∀k∈ks++[r.key],k∈KS:=fun k hk=>by
  rcases ab0.mp hk with hk|hk
  ·obtain⟨c,r',e⟩:=(hm k).mp hk;obtain⟨a,b,_⟩:=I.ok.own k c r' e;rw[←b];exact hKS r' a
  ·rw[abl.mp hk];exact hKS r hr
 have hlen:ks.length+1<=N:=by
  have:=Gram.bU nd' hsub;rw[abi,aaH] at this;omega
 have hcc:=hZ (pL M π ks.length) I.cap hc;have hcc':cc<=M*fJ M π ks.length:=acy hcc (Nat.mul_le_mul_right _ hM);have e1:fJ M π (ks.length+1)=fJ M π ks.length+(M*fJ M π ks.length + π):=rfl;have hcap:cc + π<=fJ M π (ks.length+1):=by rw[e1];omega
 refine⟨⟨nd',by rw[abi,aaH];exact hlen,I.ok.set hr hc hl,fun k c r' e=>?_⟩,?_,hl⟩
 ·rw[abi,aaH]
  by_cases q:k=r.key
  ·rw[q,c7] at e;injection e with e;injection e with e _;omega
  ·rw[dt q] at e;exact acy (I.cap k c r' e) (ni M π (acK _))
 ·unfold phi;rw[uV,abi,aaH,c7,lO (g:=setB g r.key (cc + π,r)) (g':=g) fun k hk=>dt (fun z=>hnk (z▸hk))];have hb:cc + π<=fJ M π N:=acy hcap (ni M π hlen);have e2:N - ks.length=(N - (ks.length+1))+1:=by omega
  rw[e2,Nat.succ_mul];show e9 g ks+(cc + π)+_<_;omega
def gH.yI{c:Nat}{r0:Rec}(I:gH π M N RS ks g)(hm:∀k,k∈ks↔∃c r,g k=some (c,r))(hr:r∈RS)(hc:aK g r.keys=some cc)(hg:g r.key=some (c,r0))(hlt:cc + π < c) :
  gH π M N RS ks (setB g r.key (cc + π,r))/\phi π M N ks (setB g r.key (cc + π,r))<phi π M N ks g/\LeB g (setB g r.key (cc + π,r)):=by
 have hl:LeB g (setB g r.key (cc + π,r)):=fun k c' r' e=>by
  by_cases q:k=r.key
  ·rw[q,hg] at e;injection e with e;injection e with e _;exact⟨cc + π,r,by rw[q];exact c7 _ _ _,by omega⟩
  ·exact⟨c',r',by rw[dt q];exact e,acH _⟩
 refine⟨⟨I.nd,I.len,I.ok.set hr hc hl,fun k c' r' e=>?_⟩,?_,hl⟩
 ·by_cases q:k=r.key
  ·rw[q,c7] at e;injection e with e;injection e with e _;have:=I.cap r.key c r0 hg;omega
  ·rw[dt q] at e;exact I.cap k c' r' e
 ·unfold phi;have:=pM (c':=cc + π) (r':=r) hg I.nd ((hm _).mpr ⟨c,r0,hg⟩);omega
def bJ.put{kvs:List (List Key×V)}{b t:Addr}{v:V}{k:Str×Str}{c:Nat}(hB:bJ H d ks g)(hd:H d=some (.dT kvs))(ht:H t=some (.tup [.int (c:Nat),v]))(hr:RecAt H v r)(ks':List (Str×Str))
  (hks:(g k=none/\ks'=ks++[k])\/(g k≠none/\ks'=ks)):bJ (upd H d (.dT (putK kvs (aL k) (.ref t)))) d ks' (setB g k (c,r)):=by
 obtain⟨⟨kvs',h1,h2,h3⟩,h4⟩:=hB;rw[hd] at h1;cases h1;have kp:∀b xs,H b=some (.tup xs)->upd H d (.dT (putK kvs (aL k) (.ref t))) b=some (.tup xs):=fun b xs z=>by
  rw[ad (fun q=>by rw[q,hd] at z;cases z)];exact z
 have kl:∀b xs,H b=some (.lst xs)->upd H d (.dT (putK kvs (aL k) (.ref t))) b=some (.lst xs):=fun b xs z=>by
  rw[ad (fun q=>by rw[q,hd] at z;cases z)];exact z
 have kr:∀{v:V} {r:Rec},RecAt H v r->RecAt (upd H d (.dT (putK kvs (aL k) (.ref t)))) v r:=fun⟨a,b,l,e1,e2,e3,vs,e4,e5⟩=>⟨a,b,l,e1,kp _ _ e2,kp _ _ e3,vs,kl _ _ e4,Paired.bp e5 fun _ _ z=>z.keep kp⟩
 have vk:(aD kvs (aL k)).isSome=(g k).isSome:=by
  have:=h3 k;cases e:g k with
  |none=>rw[e] at this;rw[show aD kvs (aL k)=none from this];rfl
  |some cr=>
   rw[e] at this;obtain⟨a,b,e1,_⟩:=this;rw[e1];rfl
 refine⟨⟨_,aa,?_,fun j=>?_⟩,fun j=>?_⟩
 ·unfold putK;rw[eK,vk];rcases hks with ⟨e,rfl⟩|⟨e,rfl⟩
  ·rw[e,acS (by decide),ab9,ab9,h2];rfl
  ·have:(g k).isSome=true:=by
    cases q:g k with
    |none=>exact absurd q e
    |some _=>rfl
   rw[this,acR rfl,acD,←h2];refine aa8 fun kv _=>?_
   show(if kv.1=aL k then (kv.1,V.ref t) else kv).1=kv.1;split <;> rfl
 ·rw[eM]
  by_cases q:j=k
  ·rw[q,c7,acR rfl];exact⟨t,v,rfl,kp _ _ ht,kr hr⟩
  ·rw[dt q,acS (fun z=>q (cT z))];have:=h3 j;cases e:g j with
   |none=>rw[e] at this;exact this
   |some cr=>
    rw[e] at this;obtain⟨a,b,e1,e2,e3⟩:=this;exact⟨a,b,e1,kp _ _ e2,kr e3⟩
 ·by_cases q:j=k
  ·rw[q,c7];refine⟨fun _=>⟨_,_,rfl⟩,fun _=>?_⟩;rcases hks with ⟨e,rfl⟩|⟨e,rfl⟩
   ·exact aaG _ (abl.mpr rfl)
   ·refine(h4 k).mpr ?_;cases z:g k with
    |none=>exact absurd z e
    |some cr=>exact⟨cr.1,cr.2,rfl⟩
  ·rw[dt q];rcases hks with ⟨e,rfl⟩|⟨e,rfl⟩
   ·rw[ab0,abl,←h4 j];exact⟨fun z=>z.elim id fun z=>absurd z q,.inl⟩
   ·exact h4 j
end
def jw{g:Bst}:∀{l:List Kx} {c:Nat},aK g l=some c->∀p,.inr p∈l->∃c' r',g p=some (c',r')/\c'<=c
 |[],c,_,p,hp=>by cases hp
 |.inl w::r,c,e,p,hp=>by
  have e:(aK g r).map (1 + ·)=some c:=e;cases q:aK g r with
  |none=>rw[q] at e;cases e
  |some x=>
   rw[q] at e;have e:some (1+x)=some c:=e;injection e with e;rcases acq.mp hp with z|z
   ·cases z
   ·obtain⟨c',r',h1,h2⟩:=jw q p z;exact⟨c',r',h1,by omega⟩
 |.inr p'::r,c,e,p,hp=>by
  have e:((g p').bind fun cr=>(aK g r).map (cr.1 + ·))=some c:=e;cases qp:g p' with
  |none=>rw[qp] at e;cases e
  |some cr=>
   obtain⟨y,r0⟩:=cr;rw[qp] at e;cases q:aK g r with
   |none=>rw[q] at e;cases e
   |some x=>
    rw[q] at e;have e:some (y+x)=some c:=e;injection e with e;rcases acq.mp hp with z|z
    ·cases z
     exact⟨y,r0,qp,by omega⟩
    ·obtain⟨c',r',h1,h2⟩:=jw q p z;exact⟨c',r',h1,by omega⟩
end Nw
namespace Nw
open PySem L2
open SL (aj srt)
abbrev wI:Stmt:=top 20
def iX:aE ["recipes","price","best","grown","recipe","cost"] ["recipes","price"] (am wI):=acW
def xM:Sp:=fun vs H Q _=>∃(a:Addr) (π M:Nat) (RS:List Rec) (KS:List (Str×Str)),vs=[.ref a,.int (π:Nat)]/\uT H a RS/\(∀r∈RS,r.keys.length<=M)/\(∀r∈RS,r.key∈KS)/\KS.length<64/\
 ∀d ks g H',ab H H'->H d=none->bJ H' d ks g->ks.Nodup->ks.length<64->gG π RS g->iB π RS g->Q (.ref d) H'
def uW{H:Hp}{d:Addr}:bJ (upd H d (.dT [])) d [] (fun _=>none):=⟨⟨[],aa,rfl,fun _=>rfl⟩,fun k=>⟨fun h=>(by cases h),fun⟨_,_,h⟩=>(by cases h)⟩⟩
def rg(π:Nat)(g:Bst)(r:Rec):Prop:=∀cc,aK g r.keys=some cc->∃c r',g r.key=some (c,r')/\c<=cc + π
section
variable {P:Program}{w:World}{K:acX}{mg:Str->Option Value}{base:Heap}
def Ag{f:Addr}{fd:FuncData}(F:Fun K "cheapest_recipes" "cheapest_recipes" wI f fd)(D1:Def P w K mg base "cost_of_keys" 1 ["keys","best"] xL):aM P w K mg base CX0 2 f fd ["recipes","price"] xM:=by
 refine F.ok iX (fun vs H Q E h=>?_) (fun cdv A outer s H vs Q E hr h=>?_)
 ·obtain⟨a,π,M,RS,KS,rfl,_⟩:=h;rfl
 ·obtain⟨a,π,M,RS,KS,rfl,hRS,hM,hKS,hKl,k⟩:=h;have hu:=bO hr;refine⟨_,af (ak (i:=2) iX.nd rfl (Or.inl rfl) iN)
   (af (ak (i:=3) iX.nd rfl (Or.inl rfl) c8)
   (af (dD ace (bN (pv 3))
    (af (ak (i:=3) iX.nd rfl (Or.inl rfl) c8)
    (ag (bf ace rfl (aS (pv 0)) (ap (i:=4) iX.nd rfl (Or.inl rfl))
     (af (ak (i:=5) iX.nd rfl (Or.inl rfl) (aA D1 hr (by rfl) (ai (aG aR (pv 4) aq (fun _ _=>rfl)) (ai (pv 2) ac))))
     (ag (bh (PW.pt (tQ (bA qC (pv 5) i9 (b8 _)) (qy (PW.pt (k9 (ej (fS hu (aG aR (pv 4) aq (fun _ _=>rfl)) (pv 2)))
       (k8 (bA xy (bV ic (pv 5) (pv 1)) (aG aR (bK hu (pv 2) (aG aR (pv 4) aq (fun _ _=>rfl)) (fun _ _=>rfl)) aq (fun _ _=>rfl)) (b8 _))))))))
      (af (dN hu (pv 2) (aG aR (pv 4) aq (fun _ _=>rfl)) (bj (ai (bV ic (pv 5) (pv 1)) (ai (pv 4) ac))) rfl)
      (ag (ak (i:=3) iX.nd rfl (Or.inl rfl) c8)))
      bt)))))))
   (ag (aO (pv 2))))),?_⟩
  intro d hd;obtain⟨vs,hvs,hp⟩:=id hRS;have hlen:vs.length=RS.length:=aco hp;refine⟨fun m σ H2=>∃ks g gr o1 o2,σ=[some (.ref a),some (.int (π:Nat)),some (.ref d),some (.bl gr),o1,o2]/\ab H H2/\bJ H2 d ks g/\gH π M KS.length RS ks g/\(gr=false->iB π RS g)/\m=(if gr=true then 1+phi π M KS.length ks g else 0),
   ⟨_,[],fun _=>none,true,_,_,rfl,ab.upd hd,uW,⟨acj,acI _,⟨fun k c r h=>by cases h⟩,fun k c r h=>by cases h⟩,fun z=>(by cases z),rfl⟩,?_⟩
  rintro m σ H2 ⟨ks,g,gr,o1,o2,rfl,s2,hB,I,clo,rfl⟩;refine⟨_,rfl,_,rfl,?_⟩;cases gr with
  |false=>exact aT ⟨_,rfl,k d ks g H2 s2 hd hB I.nd (abk I.len hKl) I.ok (clo rfl)⟩
  |true=>
   refine bC ⟨fun σ H3=>∃ks' g' gr o1 o2,σ=[some (.ref a),some (.int (π:Nat)),some (.ref d),some (.bl gr),o1,o2]/\ab H H3/\bJ H3 d ks' g'/\gH π M KS.length RS ks' g'/\(gr=false->iB π RS g')/\(gr=true->phi π M KS.length ks' g'<phi π M KS.length ks g),?_,?_⟩
   ·rintro σ' H3 ⟨ks',g',gr,p1,p2,rfl,q1,q2,q3,q4,q5⟩;refine⟨_,?_,ks',g',gr,p1,p2,rfl,q1,q2,q3,q4,rfl⟩;cases gr with
    |false=>simp only[if_true];rw[acS (by decide)];omega
    |true=>
     have:=q5 rfl;simp only[if_true];omega
   ·refine⟨_,rfl,a,rfl,⟨_,SqL.of (s2 _ _ hvs)⟩,bq (K:=K) (a:=a) (xs:=vs)
     (fun i σ H3=>∃ks' g' gr o1 o2,σ=[some (.ref a),some (.int (π:Nat)),some (.ref d),some (.bl gr),o1,o2]/\ab H H3/\bJ H3 d ks' g'/\gH π M KS.length RS ks' g'/\(gr=false->(g'=g/\ks'=ks)/\∀r∈RS.take i,rg π g r)/\(gr=true->phi π M KS.length ks' g'<phi π M KS.length ks g))
     ⟨ks,g,false,_,_,rfl,s2,hB,I,fun _=>⟨⟨rfl,rfl⟩,fun r hr=>by cases hr⟩,fun z=>(by cases z)⟩ ?_ ?_ ?_⟩
    ·rintro i σ H3 _ ⟨_,_,_,_,_,_,s3,_⟩;exact SqL.of (s3 _ _ hvs)
    ·rintro i x σ H3 hx ⟨ks1,g1,gr1,p1,p2,rfl,s3,hB3,I3,alt,inc⟩;obtain⟨r,hri,hr0⟩:=ba hp i x hx;have hrm:r∈RS:=aaW hri;have hr3:RecAt H3 x r:=hr0.mono s3;obtain⟨t,kt,l,rfl,ht,hkt,hkl⟩:=id hr3;have tk:RS.take (i+1)=RS.take i++[r]:=by rw[acm,hri];rfl
     refine⟨_,rfl,t,_,2,_,rfl,rfl,SqT.of ht,au (j:=2) rfl,_,rfl,l,d,r.keys,ks1,g1,rfl,hkl,hB3,?_⟩;refine⟨_,rfl,rfl,_,rfl,?_⟩;cases hc:aK g1 r.keys with
     |none=>
      refine aT (aT ⟨ks1,g1,gr1,_,_,rfl,s3,hB3,I3,fun z=>?_,inc⟩);refine⟨(alt z).1,fun r' hr'=>?_⟩;rw[tk] at hr';rcases ab0.mp hr' with hr'|hr'
      ·exact(alt z).2 r' hr'
      ·rw[abl.mp hr'];intro cc e;rw[←(alt z).1.1,hc] at e;cases e
     |some cc=>
      refine bC ?_;have put:∀(ks':List (Str×Str)),((g1 r.key=none/\ks'=ks1++[r.key])\/(g1 r.key≠none/\ks'=ks1))->gH π M KS.length RS ks' (setB g1 r.key (cc + π,r))/\phi π M KS.length ks' (setB g1 r.key (cc + π,r))<phi π M KS.length ks1 g1/\LeB g1 (setB g1 r.key (cc + π,r))->
        ∀t',H3 t'=none->∃kvs,H3 d=some (.dT kvs)/\kvs.length<sizeLine/\∃ks' g' gr o1 o2,[some (V.ref a),some (.int (π:Nat)),some (.ref d),some (.bl true),some (.ref t),some (.int (cc:Nat))]=[some (.ref a),some (.int (π:Nat)),some (.ref d),some (.bl gr),o1,o2]/\
         ab H (upd (upd H3 t' (.tup [.int ((cc:Int)+(π:Int)),.ref t])) d (.dT (putK kvs (aL r.key) (.ref t'))))/\bJ (upd (upd H3 t' (.tup [.int ((cc:Int)+(π:Int)),.ref t])) d (.dT (putK kvs (aL r.key) (.ref t')))) d ks' g'/\gH π M KS.length RS ks' g'/\
         (gr=false->(g'=g/\ks'=ks)/\∀r∈RS.take (i+1),rg π g r)/\(gr=true->phi π M KS.length ks' g'<phi π M KS.length ks g):=by
       intro ks' hks ⟨hI',hphi,_⟩ t' ht';obtain⟨⟨kvs,hkv,hkk,_⟩,_⟩:=id hB3;have s4:=ab.upd (o:=HO.tup [.int ((cc:Int)+(π:Int)),.ref t]) ht';have hB4:=hB3.mono s4;have hlk:kvs.length=ks1.length:=by
        have:=acN List.length hkk;rw[ab3,ab3] at this;exact this
       refine⟨kvs,hkv,by rw[hlk];have:=I3.len;exact az (by omega),ks',_,true,_,_,rfl,(s3.trans s4).bG hd,bJ.put (b:=kt) (k:=r.key) (c:=cc + π) hB4 (s4 _ _ hkv) (by rw[aa];push_cast;rfl) (hr3.mono s4) ks' hks,hI',fun z=>(by cases z),fun _=>?_⟩;cases gr1 with
       |true=>exact Nat.lt_trans hphi (inc rfl)
       |false=>
        obtain⟨e1,e2⟩:=(alt rfl).1;rw[←e1,←e2];exact hphi
      refine⟨_,rfl,t,_,0,_,rfl,rfl,SqT.of ht,au (j:=0) rfl,_,rfl,?_⟩;rcases hB3.get hkt with ⟨c0,r0,tt,v,hg,hdg,htt,_⟩|⟨hg,hdg⟩
      ·refine⟨d,_,rfl,hdg,_,rfl,aT ?_⟩;refine⟨_,rfl,_,rfl,_,_,rfl,rfl,_,rfl,_,rfl,t,_,0,_,rfl,rfl,SqT.of ht,au (j:=0) rfl,d,_,rfl,hdg,tt,_,0,_,rfl,rfl,SqT.of htt,au (j:=0) rfl,_,_,rfl,rfl,_,rfl,?_⟩
       by_cases hlt:cc + π < c0
       ·have hd':decide (((cc:Int)+(π:Int))<(c0:Int))=true:=aci (by omega);refine(show if decide (((cc:Int)+(π:Int))<(c0:Int))=true then _ else _ from ?_);rw[hd'];refine bC ⟨_,rfl,_,rfl,_,_,rfl,rfl,_,rfl,acU,fun t' ht'=>?_⟩;have s4:=ab.upd (o:=HO.tup [.int ((cc:Int)+(π:Int)),.ref t]) ht';obtain⟨kvs,hkv,hkl',rest⟩:=put ks1 (.inr ⟨by rw[hg];exact fun z=>(by cases z),rfl⟩) (I3.yI hB3.mem hrm hc hg hlt) t' ht';exact⟨_,rfl,_,rfl,t,_,0,_,rfl,rfl,SqT.of (s4 _ _ ht),au (j:=0) rfl,d,_,rfl,d8.t (k:=aL r.key) (s4 _ _ hkv) (s4 _ _ hkt) hkl',rest⟩
       ·have hd':decide (((cc:Int)+(π:Int))<(c0:Int))=false:=abX (by omega);refine(show if decide (((cc:Int)+(π:Int))<(c0:Int))=true then _ else _ from ?_);rw[hd'];refine aT ⟨ks1,g1,gr1,_,_,rfl,s3,hB3,I3,fun z=>?_,inc⟩;refine⟨(alt z).1,fun r' hr'=>?_⟩;rw[tk] at hr';rcases ab0.mp hr' with hr'|hr'
        ·exact(alt z).2 r' hr'
        ·rw[abl.mp hr'];intro cc' e;rw[←(alt z).1.1,hc] at e;injection e with e;exact⟨c0,r0,by rw[←(alt z).1.1];exact hg,by omega⟩
      ·refine⟨d,_,rfl,hdg,_,rfl,bC (bC ?_)⟩;refine⟨_,rfl,_,rfl,_,_,rfl,rfl,_,rfl,acU,fun t' ht'=>?_⟩;have s4:=ab.upd (o:=HO.tup [.int ((cc:Int)+(π:Int)),.ref t]) ht';obtain⟨kvs,hkv,hkl',rest⟩:=put (ks1++[r.key]) (.inl ⟨hg,rfl⟩) (I3.new rfl hKS hB3.mem hrm (hM r hrm) hc hg) t' ht';exact⟨_,rfl,_,rfl,t,_,0,_,rfl,rfl,SqT.of (s4 _ _ ht),au (j:=0) rfl,d,_,rfl,d8.t (k:=aL r.key) (s4 _ _ hkv) (s4 _ _ hkt) hkl',rest⟩
    ·rintro σ H3 ⟨ks1,g1,gr1,p1,p2,rfl,s3,hB3,I3,alt,inc⟩;refine⟨ks1,g1,gr1,_,_,rfl,s3,hB3,I3,fun z=>?_,inc⟩;rw[hlen,abS] at alt;rw[(alt z).1.1];exact fun r hr=>(alt z).2 r hr
end
end Nw
namespace Nw
open PySem L2
inductive Tr where
 |w(s:Str)
 |n(s:Str)(i:Nat)(ps:List Tr)
mutual
def Tr.words:Tr->List Str
 |.w s=>[s]
 |.n _ _ ps=>Tr.aP ps
def Tr.aP:List Tr->List Str
 |[]=>[]
 |t::r=>Tr.words t++Tr.aP r
end
mutual
def Tr.sz:Tr->Nat
 |.w _=>1
 |.n _ _ ps=>1+Tr.szL ps
def Tr.szL:List Tr->Nat
 |[]=>0
 |t::r=>Tr.sz t+Tr.szL r
end
mutual
def Tr.d:Tr->D
 |.w s=>.str s
 |.n s i ps=>.tup [.str s,.int (i:Nat),.lst (Tr.dL ps)]
def Tr.dL:List Tr->List D
 |[]=>[]
 |t::r=>Tr.d t::Tr.dL r
end
mutual
def Tr.ok(R:List Row):Tr->Str->Prop
 |.w x,s=>x=s/\¬s∈R.map (·.1)
 |.n x i ps,s=>x=s/\∃r,R[i]? =some (s,r)/\Tr.okL R ps r
def Tr.okL(R:List Row):List Tr->List Str->Prop
 |[],r=>r=[]
 |t::ps,r=>∃s r',r=s::r'/\Tr.ok R t s/\Tr.okL R ps r'
end
def Tr.fc:∀a b,Tr.aP (a++b)=Tr.aP a++Tr.aP b
 |[],b=>by simp[Tr.aP]
 |t::r,b=>by
  show t.words++Tr.aP (r++b)=(t.words++Tr.aP r)++Tr.aP b;rw[Tr.fc r b,abw]
def Tr.eW:∀a b,Tr.szL (a++b)=Tr.szL a+Tr.szL b
 |[],b=>by simp[Tr.szL]
 |t::r,b=>by
  show t.sz+Tr.szL (r++b)=(t.sz+Tr.szL r)+Tr.szL b;rw[Tr.eW r b,Nat.add_assoc]
def Tr.jx:∀ps,Tr.dL ps=ps.map Tr.d
 |[]=>by simp[Tr.dL]
 |t::r=>by
  show t.d::Tr.dL r=t.d::r.map Tr.d;rw[Tr.jx r]
def Tr.gD(t:Tr):1<=t.sz:=by cases t <;> simp[Tr.sz] <;> omega
mutual
def Tr.pN:∀t:Tr,t.words.length<=t.sz
 |.w s=>by simp[Tr.words,Tr.sz]
 |.n s i ps=>by
  have:=Tr.nj ps;show(Tr.aP ps).length<=1+Tr.szL ps;omega
def Tr.nj:∀ps:List Tr,(Tr.aP ps).length<=Tr.szL ps
 |[]=>by simp[Tr.aP,Tr.szL]
 |t::r=>by
  have h1:=Tr.pN t;have h2:=Tr.nj r;show(t.words++Tr.aP r).length<=t.sz+Tr.szL r;rw[abi];omega
end
def Tr.jT:∀ps:List Tr,ps.length<=Tr.szL ps
 |[]=>acH _
 |t::r=>by
  have h1:=Tr.gD t;have h2:=Tr.jT r;show r.length+1<=t.sz+Tr.szL r;omega
def Tr.rh{t:Tr}:∀{ps:List Tr} {j:Nat},ps[j]? =some t->t.sz<=Tr.szL ps
 |[],j,h=>by cases h
 |u::r,0,h=>by
  have h:some u=some t:=h;injection h with h;subst h;exact Nat.le_add_right _ _
 |u::r,j+1,h=>by
  have:=Tr.rh (ps:=r) (j:=j) (by simpa using h);show t.sz<=u.sz+Tr.szL r;omega
def Tr.d5{R:List Row}:∀{ps:List Tr} {r:List Str},Tr.okL R ps r->ps.length=r.length
 |[],r,h=>by
  have h:r=[]:=h;rw[h];rfl
 |t::ps,r,h=>by
  obtain⟨s,r',rfl,_,h⟩:∃s r',r=s::r'/\Tr.ok R t s/\Tr.okL R ps r':=h;rw[abI,abI,Tr.d5 h]
def Tr.uX{R:List Row}:∀{ps:List Tr} {r:List Str},ps.length=r.length->(∀(j:Nat) (t:Tr) (s:Str),ps[j]? =some t->r[j]? =some s->Tr.ok R t s)->Tr.okL R ps r
 |[],r,e,_=>by
  show r=[];exact aav.mp e.symm
 |t::ps,[],e,_=>by cases e
 |t::ps,s::r,e,h=>⟨s,r,rfl,h 0 t s rfl rfl,Tr.uX (by simpa using e) fun j t' s' e1 e2=>h (j+1) t' s' (by simpa using e1) (by simpa using e2)⟩
inductive ia(g:Bst):Kx->Tr->Prop
 |w (s:Str):ia g (.inl s) (.w s)
 |n {k:Str×Str} {c:Nat} {r:Rec} {ps:List Tr}:g k=some (c,r)->r.keys.length=ps.length->(∀(i:Nat) (kx:Kx) (t:Tr),r.keys[i]? =some kx->ps[i]? =some t->ia g kx t)->ia g (.inr k) (.n k.2 r.num ps)
def lQ(g:Bst)(ks:List Kx)(ps:List Tr):Prop:=ks.length=ps.length/\∀(i:Nat) (kx:Kx) (t:Tr),ks[i]? =some kx->ps[i]? =some t->ia g kx t
def lQ.snoc{g:Bst}{ks:List Kx}{ps:List Tr}{k:Kx}{t:Tr}(h:lQ g ks ps)(hk:ia g k t):lQ g (ks++[k]) (ps++[t]):=by
 refine⟨by rw[abi,abi,h.1];rfl,fun m y u e1 e2=>?_⟩;rcases Nat.lt_trichotomy m ks.length with q|q|q
 ·rw[aak q] at e1;rw[aak (by rw[←h.1];exact q)] at e2;exact h.2 m y u e1 e2
 ·subst q;rw[aag (acH _),acF] at e1;rw[h.1,aag (acH _),acF] at e2;cases e1;cases e2
  exact hk
 ·rw[aaM (by rw[abi,aaH];omega)] at e1;cases e1
section
open L2
def Rep.keep{H H':Hp}(e:∀b xs,H b=some (.tup xs)->H' b=some (.tup xs))(e':∀b xs,H b=some (.lst xs)->H' b=some (.lst xs)){v:V}{d:D}(h:Rep H v d):Rep H' v d:=by
 induction h with
 |str s=>exact .str s
 |int i=>exact .int i
 |tup h1 h2 _ ih=>exact .tup (e _ _ h1) h2 ih
 |lst h1 h2 _ ih=>exact .lst (e' _ _ h1) h2 ih
def eh(H:Hp)(ws:List V)(ps:List Tr):Prop:=ws.length=ps.length/\∀(m:Nat) (x:V) (t:Tr),ws[m]? =some x->ps[m]? =some t->Rep H x t.d
def eh.nil{H:Hp}:eh H [] []:=⟨rfl,fun m x t e=>by cases e⟩
def eh.mono{H H':Hp}(s:ab H H'){ws:List V}{ps:List Tr}(h:eh H ws ps):eh H' ws ps:=⟨h.1,fun m x t e1 e2=>(h.2 m x t e1 e2).mono s⟩
def eh.snoc{H:Hp}{ws:List V}{ps:List Tr}{x:V}{t:Tr}(h:eh H ws ps)(hx:Rep H x t.d):eh H (ws++[x]) (ps++[t]):=by
 refine⟨by rw[abi,abi,h.1];rfl,fun m y u e1 e2=>?_⟩;rcases Nat.lt_trichotomy m ws.length with q|q|q
 ·rw[aak q] at e1;rw[aak (by rw[←h.1];exact q)] at e2;exact h.2 m y u e1 e2
 ·subst q;rw[aag (acH _),acF] at e1;rw[h.1,aag (acH _),acF] at e2;cases e1;cases e2
  exact hx
 ·rw[aaM (by rw[abi,aaH];omega)] at e1;cases e1
def iY{H:Hp}{a l:Addr}{s:Str}{i:Nat}{ws:List V}{ps:List Tr}(h1:H a=some (.tup [.str s,.int (i:Nat),.ref l]))(h2:H l=some (.lst ws))(h3:eh H ws ps):Rep H (.ref a) (Tr.n s i ps).d:=by
 refine .tup h1 rfl fun m x d e1 e2=>?_
 rcases m with _|_|_|m
 ·cases e1;cases e2;exact .str _
 ·cases e1;cases e2;exact .int _
 ·cases e1;cases e2
  refine .lst h2 (by rw[Tr.jx,ab3];exact h3.1) fun m x d e1 e2=>?_
  rw[Tr.jx,abt] at e2;cases q:ps[m]? with
  |none=>rw[q] at e2;cases e2
  |some t=>
   rw[q] at e2;cases e2;exact h3.2 m x t e1 q
 ·cases e1
def yJ{H:Hp}{v:V}{s:Str}{i:Nat}{ps:List Tr}(h:Rep H v (Tr.n s i ps).d):∃a l ws,v=.ref a/\H a=some (.tup [.str s,.int (i:Nat),.ref l])/\H l=some (.lst ws)/\eh H ws ps:=by
 generalize hd:(Tr.n s i ps).d=d at h;have hd:D.tup [.str s,.int (i:Nat),.lst (Tr.dL ps)]=d:=hd;cases h with
 |str _=>cases hd
 |int _=>cases hd
 |lst _ _ _=>cases hd
 |@tup a xs ds h1 h2 h3=>
  injection hd with hd;subst hd
  match xs,h2 with
  |[x0,x1,x2],_=>
   have q0:=h3 0 x0 _ rfl rfl;have q1:=h3 1 x1 _ rfl rfl;have q2:=h3 2 x2 _ rfl rfl;cases q0
   cases q1
   cases q2 with
   |@lst l ws _ e1 e2 e3=>
    refine⟨a,l,ws,rfl,h1,e1,by rw[e2,Tr.jx,ab3],fun m x t f1 f2=>e3 m x t.d f1 ?_⟩;rw[Tr.jx,abt,f2];rfl
def A4{H:Hp}{v:V}{s:Str}(h:Rep H v (Tr.w s).d):v=.str s:=by
 have h:Rep H v (.str s):=h;cases h;rfl
end
end Nw
namespace Nw
open PySem L2
open SL (aj srt)
def _root_.L2.cz.same{T:Addr}{H H':Hp}(s:cz T H H'):ab (Nw.hide T H) H':=fun b o e=>by
 by_cases q:b=T
 ·unfold Nw.hide at e;rw[acR q] at e;cases e
 ·rw[hide_ne q] at e;exact s b o q e
def cP{H:Hp}{T:Addr}{ps:Array Value}(h:H T=some (.tbl ps)){b:Addr}{o:HO}(e:H b=some o)(ho:∀qs,o≠.tbl qs):hide T H b=some o:=by
 rw[hide_ne (fun z=>by rw[z,h] at e;exact ho ps (abY e).symm)];exact e
def eE.gX{H:Hp}{T:Addr}{ps:Array Value}(h:H T=some (.tbl ps)){v:V}:∀{k:Kx},eE H v k->eE (hide T H) v k
 |.inl _,z=>z
 |.inr _,⟨t,a,b⟩=>⟨t,a,cP h b fun _ q=>by cases q⟩
def cO.gX{H:Hp}{T:Addr}{ps:Array Value}(h:H T=some (.tbl ps)){a:Addr}{ks:List Kx}(z:cO H a ks):cO (Nw.hide T H) a ks:=by
 obtain⟨vs,h1,h2⟩:=z;exact⟨vs,cP h h1 (fun _ q=>by cases q),Paired.bp h2 fun _ _ y=>y.gX h⟩
def RecAt.gX{H:Hp}{T:Addr}{ps:Array Value}(h:H T=some (.tbl ps)){v:V}{r:Rec}(z:RecAt H v r):RecAt (Nw.hide T H) v r:=by
 obtain⟨t,kt,l,h1,h2,h3,h4⟩:=z;exact⟨t,kt,l,h1,cP h h2 (fun _ q=>by cases q),cP h h3 (fun _ q=>by cases q),h4.gX h⟩
def bJ.gX{H:Hp}{T:Addr}{ps:Array Value}(h:H T=some (.tbl ps)){d:Addr}{ks:List (Str×Str)}{g:Bst}(z:bJ H d ks g):bJ (Nw.hide T H) d ks g:=by
 obtain⟨⟨kvs,h1,h2,h3⟩,h4⟩:=z;refine⟨⟨kvs,cP h h1 fun _ q=>(by cases q),h2,fun k=>?_⟩,h4⟩;have:=h3 k;cases e:g k with
 |none=>rw[e] at this;exact this
 |some cr=>
  rw[e] at this;obtain⟨t,v,a,b,c⟩:=this;exact⟨t,v,a,cP h b fun _ q=>(by cases q),c.gX h⟩
def bJ.onT{H H':Hp}{T:Addr}{pos:Pos}{q:Str}(h:bx T pos q H)(s:cz T H H'){d:Addr}{ks:List (Str×Str)}{g:Bst}(z:bJ H d ks g):bJ H' d ks g:=by
 obtain⟨ps,h1,_⟩:=h;exact(z.gX h1).mono s.same
def pO{H H':Hp}{T:Addr}{pos:Pos}{q:Str}(h:bx T pos q H)(s:cz T H H'){a:Addr}{R:List Row}(z:aQ H a R):aQ H' a R:=by
 obtain⟨ps,h1,_⟩:=h;obtain⟨vs,e1,e2⟩:=z;refine⟨vs,s.same _ _ (cP h1 e1 fun _ q=>by cases q),Paired.bp e2 fun _ _ y=>?_⟩;obtain⟨t,b,y1,y2,y3⟩:=y;exact⟨t,b,y1,s.same _ _ (cP h1 y2 fun _ q=>by cases q),s.same _ _ (cP h1 y3 fun _ q=>by cases q)⟩
section
variable {P:Program}{w:World}{K:acX}{mg:Str->Option Value}{base:Heap}
def _root_.L2.Fun.okC{x qual:Str}{st:Stmt}{f c0:Addr}{fd:FuncData}{N ps:List Str}{k:Nat}{sp:Sp}(F:Fun K x qual st f fd)(hc:fd.code=.ref c0)(S:aE N ps (am st))(len:∀vs H Q E,sp vs H Q E->vs.length=ps.length)
  (hbody:∀(A:Around) (outer:List Env) (s:Shared) (H:Hp) (vs:List V) (Q:VK) (E:XK),a9 k (A.deeper (PyProof.Rows.envOfC qual (am st) s.heap.objs.size f (.ref c0)))->sp vs H Q E->
   ∃t,PSs (iJ CX0 P w K mg base N qual (am st) f (.ref c0) A outer s H E).nox (dO st) t/\t {nx:=fun _ H'=>Q .non H',rt:=Q} (start N vs) H):aM P w K mg base CX0 (k+1) f fd ps sp:=by
 obtain⟨oc,od,kV,doc,pm,an,cdv,ct,osl,rfl,lk,hcd⟩:=F.ex;have hc:cdv=.ref c0:=hc;subst hc;refine xC lk hcd S len fun A outer s H vs Q E hr hsp=>?_
 obtain⟨t,h,q⟩:=hbody A outer s H vs Q E hr hsp;exact⟨t,h.nox,q⟩
end
abbrev sTm:Stmt:=top 22
def sU:aE ["best","trees","key","recipe"] ["best"] (am sTm):=acW
abbrev fe:Pos:=⟨90,32,90,58⟩
abbrev tmQ:Str:=("trees_made":Str)++Str.ofString ".<locals>."++"<lambda>"
def A5:Scope:={kind:=ScopeKind.function,names:=[("made",NameKind.local),("best",NameKind.free)],isGenerator:=false,isCoroutine:=false}
def A6:List Key->Str×Str
 |[.inr a,.inr b]=>(a,b)
 |_=>("","")
def sV(g:Bst)(l:List Key):Int:=match g (A6 l) with
 |some (c,_)=>(c:Int)
 |none=>0
def ri(H:Hp)(g:Bst)(kvs:List (List Key×V))(k:Str×Str):Prop:=∃v u,aD kvs (aL k)=some v/\ia g (.inr k) u/\Rep H v u.d
def Ah(TP:Addr):Sp:=fun vs H Q _=>∃(d:Addr) (ks:List (Str×Str)) (g:Bst) (RS:List Rec),vs=[.ref d]/\bJ H d ks g/\ks.Nodup/\ks.length<64/\(∀k c r,g k=some (c,r)->r.keys.length<=900)/\gG 1 RS g/\bx TP fe tmQ H/\
 ∀t H' kvs,H t=none->cz TP H H'->bx TP fe tmQ H'->H' t=some (.dT kvs)->(kvs.map (·.1)).Perm (ks.map aL)->(∀k∈ks,ri H' g kvs k)->Q (.ref t) H'
def uY{kvs:List (List Key×V)}{k:List Key}{v:V}(h:¬k∈kvs.map (·.1)):putK kvs k v=kvs++[(k,v)]:=by
 unfold putK;rw[acS];intro z;obtain⟨kv,h1,h2⟩:=List.any_eq_true.mp z;exact h (acB.mpr ⟨kv,h1,abx h2⟩)
def pP{g:Bst}{k:Str×Str}{c:Nat}{r:Rec}(h:g k=some (c,r)):sV g (aL k)=(c:Int):=by
 show(match g k with | some (c,_)=>(c:Int) | none=>0)=_;rw[h]
def wJ{zs:List (List Key×Addr)}{cost:List Key->Int}(h:zs.Pairwise fun a b=>cost a.1<=cost b.1){i:Nat}{z z':List Key×Addr}(hz:zs[i]? =some z)(hm:z'∈zs)(hlt:cost z'.1<cost z.1):z'∈zs.take i:=by
 obtain⟨m,hz'⟩:=aaN.mp hm;rcases Nat.lt_trichotomy m i with q|q|q
 ·refine aaN.mpr ⟨m,?_⟩;rw[List.getElem?_take_of_lt q];exact hz'
 ·subst q;rw[hz] at hz';cases hz';exact absurd hlt (Int.lt_irrefl _)
 ·obtain⟨hi,ei⟩:=aaj.mp hz;obtain⟨hm',em⟩:=aaj.mp hz';have:=aam.mp h i m hi hm' q;rw[ei,em] at this;omega
section
variable {P:Program}{w:World}{K:acX}{mg:Str->Option Value}{base:Heap}
def A7{f0 c0 TP:Addr}{fd:FuncData}(F:Fun K "trees_made" "trees_made" sTm f0 fd)(hcode:fd.code=.ref c0)(C:PySem.W.CodeHd base c0 TP)(hbm:Bm mg base)(T:Txt mg):aM P w K mg base CX0 2 f0 fd ["best"] (Ah TP):=by
 refine F.okC hcode sU (fun vs H Q E h=>?_) (fun A outer s H vs Q E hr h=>?_)
 ·obtain⟨d,ks,g,RS,rfl,_⟩:=h;rfl
 ·obtain⟨d,ks,g,RS,rfl,hB,hnd,h64,hkl,hok,hT,k⟩:=h;have hu:=bO hr;have lu:∀f c' s₃ H₃,(lK (iJ CX0 P w K mg base ["best","trees","key","recipe"] "trees_made" (am sTm) f0 (Value.ref c0) A outer s H E).nox tmQ A5 [("best",s.heap.objs.size+1)] "made" "best" f c' (iJ CX0 P w K mg base ["best","trees","key","recipe"] "trees_made" (am sTm) f0 (Value.ref c0) A outer s H E).nox.A.in1.in1 s₃ H₃).A.units+1<cLine:=fun f c' s₃ H₃=>by
   have:=hr.un;show(A.deeper (PyProof.Rows.envOfC "trees_made" (am sTm) s.heap.objs.size f0 (.ref c0))).units+1+1+3+1<cLine;omega
  refine⟨_,af (ak (i:=1) sU.nd rfl (Or.inr rfl) iN)
   (af (bf ace rfl (aS (sQ (x:="made") (y:="best") (i:=0) rfl hr rfl C hbm ⟨rfl,by decide,rfl,rfl,rfl,rfl,rfl,rfl,rfl,rfl,fun _ _ _ _ _ _=>rfl⟩ (by rfl) T.srt (ai (pv 0) ac)
     (fun f c' s₃ H₃=>aG (r:=hV K) aR (bK (lu f c' s₃ H₃) (pv 1) (pv 0) (fun _ _=>rfl)) aq (fun _ _=>rfl))))
    (ap (i:=2) sU.nd rfl (Or.inl rfl))
    (af (ak (i:=3) sU.nd rfl (Or.inl rfl) (aG aR (bK hu (pv 0) (pv 2) (fun _ _=>rfl)) aq (fun _ _=>rfl)))
    (ag (dN hu (pv 1) (pv 2) (bj (ai (aG aR (pv 2) aq (fun _ _=>rfl)) (ai (aG aR (pv 3) aq (fun _ _=>rfl)) (ai
     (cV (aU.one (N:=["inner","trees"]) (sel:=[none,some 1]) "trees" (by rfl) (by rfl) (by rfl) (by decide) (by decide) (by rfl) (by rfl) ⟨_,rfl,rfl⟩ (by rfl) (rc rfl rfl)) rfl (aS (aG aR (pv 3) aq (fun _ _=>rfl)))
      (fun s₃ H₃ fp=>ap (i:=0) (show(["inner","trees"]:List Str).Nodup by decide) rfl (Or.inl rfl)) (fun s₃ H₃ fp=>cI)
      (fun s₃ H₃ fp=>yH (X:=b9 _ _ _ _ _ _ _) hu (pv 1) (pv 0) (pv 0) ⟨rfl,rfl,rfl,rfl⟩)) ac)))) rfl))))
   (ag (aO (pv 1)))),?_⟩
  intro tr htr;have s1:=ab.upd (o:=HO.dT []) htr;obtain⟨ps,hps,_⟩:=id hT;have nTr:tr≠TP:=fun z=>by rw[z,hps] at htr;cases htr
  obtain⟨⟨kvs,hkv,hkk,_⟩,hmem⟩:=id hB;have hlk:kvs.length=ks.length:=by
   have:=acN List.length hkk;rw[ab3,ab3] at this;exact this
  have isK:∀l,l∈kvs.map (·.1)->∃k∈ks,aL k=l:=fun l hl=>by
   rw[hkk] at hl;exact acB.mp hl
  refine⟨_,rfl,d,kvs,.ref d,sV g,rfl,s1 _ _ hkv,by omega,hT.mono s1,rfl,fun H2 sT T2=>⟨fun kv hkv' a ha=>?_,fun l zs hl1 hl2 hpm hpw hat=>?_⟩⟩
  ·have hB2:=(hB.mono s1).onT (hT.mono s1) sT;obtain⟨k',hk',ek⟩:=isK kv.1 (acB.mpr ⟨kv,hkv',rfl⟩);rw[←ek] at ha ⊢;have ha:H2 a=some (.tup [.str k'.1,.str k'.2]):=ha;rcases hB2.get ha with ⟨c,r,t,v,hg,hdg,htt,_⟩|⟨hg,_⟩
   ·refine⟨_,rfl,_,rfl,d,_,rfl,hdg,t,_,0,_,rfl,rfl,SqT.of htt,au (j:=0) rfl,?_,rfl⟩;have:sV g (aL k')=(c:Int):=by
     show(match g k' with | some (c,_)=>(c:Int) | none=>0)=_;rw[hg]
    rw[this]
   ·obtain⟨c,r,e⟩:=(hmem k').mp hk';rw[hg] at e;cases e
  ·generalize hH3:upd H2 l (.lst (zs.map fun z=>V.ref z.2))=H3;have s23:ab H2 H3:=by rw[←hH3];exact ab.upd hl2
   have tr2:H2 tr=some (.dT []):=sT _ _ nTr aa;have tr3:H3 tr=some (.dT []):=s23 _ _ tr2;have nl:l≠tr:=fun z=>by rw[z,tr2] at hl2;cases hl2
   have hl3:H3 l=some (.lst (zs.map fun z=>V.ref z.2)):=by rw[←hH3];exact aa
   have sX:∀{H4:Hp},cz tr H3 H4->ab (hide TP H) H4:=fun{H4} s4 b o e=>by
    by_cases q:b=TP
    ·unfold hide at e;rw[acR q] at e;cases e
    ·rw[hide_ne q] at e;exact s4 b o (fun z=>by rw[z,htr] at e;cases e) (s23 _ _ (sT b o q (s1 _ _ e)))
   have hBX:=hB.gX hps;have zsnd:(zs.map (·.1)).Nodup:=by
    refine hpm.nodup_iff.mpr ?_;rw[hkk];exact List.Pairwise.map _ (fun a b h e=>h (cT e)) hnd
   refine⟨l,rfl,⟨_,SqL.of hl3⟩,bq (K:=K) (a:=l) (xs:=zs.map fun z=>V.ref z.2)
    (fun i σ H4=>∃kt o1 o2,σ=[some (.ref d),some (.ref tr),o1,o2]/\cz tr H3 H4/\H4 tr=some (.dT kt)/\kt.map (·.1)=(zs.take i).map (·.1)/\∀k,aL k∈(zs.take i).map (·.1)->ri H4 g kt k)
    ⟨[],_,_,rfl,cz.refl,tr3,rfl,fun k hk=>by cases hk⟩ ?_ ?_ ?_⟩
   ·rintro i σ H4 _ ⟨_,_,_,_,s4,_⟩;exact SqL.of (s4 _ _ nl hl3)
   ·rintro i x σ H4 hx ⟨kt,o1,o2,rfl,s4,htr4,hkl4,hall⟩;rw[abt] at hx;cases hz:zs[i]? with
    |none=>rw[hz] at hx;cases hx
    |some z=>
     rw[hz] at hx;have hx:some (V.ref z.2)=some x:=hx;injection hx with hx;subst hx;have hzm:z∈zs:=aaW hz;have hil:i<zs.length:=(aaj.mp hz).1;have hzl:zs.length<64:=by
      have:=hpm.length_eq;rw[ab3,ab3] at this;omega
     obtain⟨k',hk',ek⟩:=isK z.1 (hpm.mem_iff.mp (acB.mpr ⟨z,hzm,rfl⟩));have hz2:H2 z.2=some (.tup (z.1.map kV)):=hat z hzm;have hz4:H4 z.2=some (.tup ((aL k').map kV)):=by
      rw[ek];exact s4 _ _ (fun q=>by rw[q,tr2] at hz2;cases hz2) (s23 _ _ hz2)
     have hB4:=hBX.mono (sX s4);have nz:¬z.1∈(zs.take i).map (·.1):=fun hm=>by
      have e2:zs.map (·.1)=(zs.take i).map (·.1)++(zs.drop i).map (·.1):=by rw[←ab9,aaT]
      rw[e2] at zsnd;refine(abA.mp zsnd).2.2 _ hm _ ?_ rfl;have hd:zs.drop i=z::zs.drop (i+1):=by
       rw[←aaF hil,(aaj.mp hz).2]
      rw[hd];exact abe ..
     rcases hB4.get (k:=k') hz4 with ⟨c,r,tt,v,hg,hdg,htt,hrec⟩|⟨hg,_⟩
     ·obtain⟨t,kr,lk,rfl,ht,hkr,us,hus,hup⟩:=hrec;have hul:us.length<=900:=by rw[aco hup];exact hkl k' c r hg
      obtain⟨_,_,cc,hcc,hle⟩:=hok.own k' c r hg;have hklen:kt.length<=i:=by
       have:=acN List.length hkl4;rw[ab3,ab3,abK] at this;omega
      refine⟨_,rfl,_,rfl,d,_,rfl,hdg,tt,_,1,_,rfl,rfl,SqT.of htt,au (j:=1) rfl,?_⟩;refine⟨_,rfl,z.2,_,1,_,rfl,rfl,SqT.of (xs:=[.str k'.1,.str k'.2]) hz4,au (j:=1) rfl,_,rfl,t,_,1,_,rfl,rfl,SqT.of ht,au (j:=1) rfl,_,rfl,t,_,2,_,rfl,rfl,SqT.of ht,au (j:=2) rfl,lk,rfl,⟨_,SqL.of hus⟩,fun D hD=>
       da (K:=K) (xs:=us) (fun j τ H5=>(∃o,τ=[o,some (.ref tr)])/\∃ws ps,H5=upd H4 D (.lst ws)/\ws.length=j/\eh H4 ws ps/\lQ g (r.keys.take j) ps) ⟨⟨_,rfl⟩,[],[],rfl,rfl,.nil,rfl,fun _ _ _ e=>(by cases e)⟩ ?_ ?_ ?_⟩
      ·rintro j τ H5 ⟨_,ws,ps,rfl,_⟩;exact SqL.of (ab.upd hD _ _ hus)
      ·rintro j x τ H5 hx ⟨⟨o,rfl⟩,ws,ps,rfl,hw,hRL,hIT⟩;have s5:=ab.upd (o:=HO.lst ws) hD;have htr5:=s5 _ _ htr4;have hj:j<us.length:=(aaj.mp hx).1;obtain⟨kx,hkj,hkx⟩:=ba hup j x hx;have fin:∀(v:V) (u:Tr),Rep H4 v u.d->ia g kx u->∃ys,upd H4 D (.lst ws) D=some (.lst ys)/\ys.length<sizeLine/\(∃o,[some x,some (V.ref tr)]=[o,some (.ref tr)])/\∃ws' ps',upd (upd H4 D (.lst ws)) D (.lst (ys++[v]))=upd H4 D (.lst ws')/\ws'.length=j+1/\eh H4 ws' ps'/\lQ g (r.keys.take (j+1)) ps':=fun v u hv hu=>
        ⟨ws,aa,az (by omega),⟨_,rfl⟩,ws++[v],ps++[u],cu,by rw[abi,aaH,hw],hRL.snoc hv,by rw[acm,hkj];exact hIT.snoc hu⟩
       cases kx with
       |inl wd=>
        have hkx:x=.str wd:=hkx;subst hkx;exact⟨_,rfl,tr,rfl,.inr ⟨_,.inl htr5⟩,_,rfl,_,rfl,.inr ⟨_,_,.inl htr5,rfl,fin _ (.w wd) (.str _) (.w _)⟩⟩
       |inr p=>
        obtain⟨b,rfl,hb⟩:=hkx;obtain⟨c2,r2,hg2,hc2⟩:=jw hcc p (aaW hkj);obtain⟨z',hz',ez'⟩:=acB.mp (hpm.mem_iff.mpr (by rw[hkk];exact acB.mpr ⟨p,(hmem p).mpr ⟨c2,r2,hg2⟩,rfl⟩):aL p∈zs.map (·.1));have hah:=wJ hpw hz hz' (by rw[ez',←ek,pP hg2,pP hg];omega);obtain⟨v2,u2,hv2,hu2,hr2⟩:=hall p (acB.mpr ⟨z',hah,ez'⟩);exact⟨_,rfl,tr,rfl,.inr ⟨_,.inl htr5⟩,_,rfl,_,rfl,.inl ⟨some v2,by rw[←hv2];exact bu.t (k:=aL p) htr5 (s5 _ _ hb),fin _ u2 hr2 hu2⟩⟩
      ·rintro τ H5 ⟨_,ws,ps,rfl,hwl,hRL,hIT⟩;have hlk':us.length=r.keys.length:=aco hup;rw[hlk',abS] at hIT;have s5:=ab.upd (o:=HO.lst ws) hD;refine⟨acV,fun t' ht'=>?_⟩;have hD5:upd H4 D (.lst ws) D=some (.lst ws):=aa;generalize hH6:upd (upd H4 D (.lst ws)) t' _=H6;have s56:ab (upd H4 D (.lst ws)) H6:=by rw[←hH6];exact ab.upd ht'
       have s46:ab H4 H6:=s5.trans s56;have ht6:H6 t'=some (.tup [.str k'.2,.int (r.num:Nat),.ref D]):=by rw[←hH6];exact aa
       have hnode:Rep H6 (.ref t') (Tr.n k'.2 r.num ps).d:=iY ht6 (s56 _ _ hD5) (hRL.mono s46);have hisT:ia g (.inr k') (.n k'.2 r.num ps):=.n hg hIT.1 hIT.2;have htr6:=s46 _ _ htr4;have kp:∀b xs,H6 b=some (.tup xs)->upd H6 tr (.dT (putK kt (aL k') (.ref t'))) b=some (.tup xs):=fun b xs e=>by
        rw[ad (fun q=>by rw[q,htr6] at e;cases e)];exact e
       have kl:∀b xs,H6 b=some (.lst xs)->upd H6 tr (.dT (putK kt (aL k') (.ref t'))) b=some (.lst xs):=fun b xs e=>by
        rw[ad (fun q=>by rw[q,htr6] at e;cases e)];exact e
       have et:(zs.take (i+1)).map (·.1)=(zs.take i).map (·.1)++[aL k']:=by rw[acm,hz,ab9,ek];rfl
       refine⟨_,rfl,_,rfl,tr,_,rfl,d8.t (k:=aL k') htr6 (s46 _ _ hz4) (az (by omega)),putK kt (aL k') (.ref t'),_,_,rfl,fun b o n e=>?_,aa,?_,fun kq hkq=>?_⟩
       ·rw[ad n];exact s46 _ _ (s4 b o n e)
       ·rw[uY (by rw[hkl4,ek];exact nz),ab9,hkl4,et];rfl
       ·by_cases q:kq=k'
        ·subst q;exact⟨_,_,by rw[eM,acR rfl],hisT,hnode.keep kp kl⟩
        ·rw[et] at hkq;rcases ab0.mp hkq with hkq|hkq
         ·obtain⟨v2,u2,hv2,hu2,hr2⟩:=hall kq hkq;exact⟨v2,u2,by rw[eM,acS fun e=>q (cT e)];exact hv2,hu2,(hr2.mono s46).keep kp kl⟩
         ·exact absurd (cT (abl.mp hkq)) q
     ·obtain⟨c,r,e⟩:=(hmem k').mp hk';rw[hg] at e;cases e
   ·rintro σ H4 ⟨kt,o1,o2,rfl,s4,htr4,hkl4,hall⟩;rw[ab3,abS] at hall hkl4;refine⟨_,rfl,k tr H4 kt htr (fun b o n e=>sX s4 b o (by rw[hide_ne n];exact e)) ?_ htr4 (by rw[hkl4,←hkk];exact hpm) fun k' hk'=>?_⟩
    ·obtain⟨qs,g1,g2,g3⟩:=T2;have q4:∀b o,H2 b=some o->b≠tr->H4 b=some o:=fun b o e n=>s4 b o n (s23 _ _ e)
     refine⟨qs,q4 _ _ g1 (acQ nTr),g2,?_⟩;rcases g3 with g3|⟨c,g3,g4⟩
     ·exact .inl g3
     ·exact .inr ⟨c,g3,q4 _ _ g4 fun z=>by rw[z,tr2] at g4;cases g4⟩
    ·exact hall k' (hpm.mem_iff.mpr (by rw[hkk];exact acB.mpr ⟨k',hk',rfl⟩))
end
end Nw
namespace Nw
open PySem L2
open SL (aj srt)
def Kn(g:Bst)(k:Str×Str):Prop:=∃c r,g k=some (c,r)
def KnK(g:Bst):Kx->Prop
 |.inl _=>True
 |.inr p=>Kn g p
def iZ{g:Bst}:∀{l:List Kx},(∀k∈l,KnK g k)->∃c,aK g l=some c
 |[],_=>⟨0,rfl⟩
 |.inl w::r,h=>by
  obtain⟨c,e⟩:=iZ (l:=r) fun k hk=>h k (aaU _ hk)
  exact⟨1+c,by show(aK g r).map (1 + ·)=_;rw[e];rfl⟩
 |.inr p::r,h=>by
  obtain⟨c,e⟩:=iZ (l:=r) fun k hk=>h k (aaU _ hk)
  obtain⟨c',r',e'⟩:Kn g p:=h _ (abe ..);exact⟨c'+c,by show((g p).bind fun cr=>(aK g r).map (cr.1 + ·))=_;rw[e',e];rfl⟩
def uZ{π:Nat}{RS:List Rec}{g:Bst}(h:iB π RS g){r:Rec}(hr:r∈RS)(hk:∀k∈r.keys,KnK g k):Kn g r.key:=by
 obtain⟨cc,e⟩:=iZ hk;obtain⟨c,r',e',_⟩:=h r hr cc e;exact⟨c,r',e'⟩
def bD(R:List Row)(j:Nat):Row:=R.getD j ("",[])
def jU{es:List Str}:∀{r:List Str} {s:Str},s∈Gram.lead es r->∃j,r[j]? =some s/\∀x∈r.take j,x∈es
 |[],s,h=>by cases h
 |x::r,s,h=>by
  unfold Gram.lead at h;rcases acq.mp h with e|h
  ·exact⟨0,by rw[e];rfl,fun y hy=>by cases hy⟩
  ·split at h
   ·rename_i hx;obtain⟨j,h1,h2⟩:=jU h;refine⟨j+1,h1,fun y hy=>?_⟩;rw[aba] at hy;rcases acq.mp hy with e|hy
    ·rw[e];exact hx
    ·exact h2 y hy
   ·cases h
section
variable {z:Str}{R:List Row}{i:Nat}{p:Row}{g:Bst}{es:List Str}
def Use(R:List Row)(p:Row)(z:Str):Prop:=∃es,(∀y,y∈es↔Gram.Made R (fun _=>False) y)/\(Wd R es p.2 z\/((∀s∈p.2,s∈es)/\Beh R es p.1 z))
def rj(hes:∀y,y∈es↔Gram.Made R (fun _=>False) y):Use R p z↔Wd R es p.2 z\/((∀s∈p.2,s∈es)/\Beh R es p.1 z):=by
 constructor
 ·rintro⟨es',h',h|⟨h1,h2⟩⟩
  ·exact .inl (h.congr fun y=>(h' y).trans (hes y).symm)
  ·exact .inr ⟨fun s hs=>(hes s).mpr ((h' s).mp (h1 s hs)),m7 (fun y=>(h' y).trans (hes y).symm) h2⟩
 ·exact fun h=>⟨es,hes,h⟩
end
end Nw
namespace Nw
open PySem L2
def bM(R:List Row):Prop:=∀(n m:Nat) (p q:Row) (z:Str),R[n]? =some p->R[m]? =some q->p.1=q.1->Use R p z->Use R q z->n=m
def SB(R:List Row)(x z:Str):Prop:=(x∈R.map (·.1)/\dC R x z)\/(¬x∈R.map (·.1)/\z=x)
def Emp(R:List Row)(es:List Str):Prop:=∀y,y∈es↔Gram.Made R (fun _=>False) y
section
variable {R:List Row}{es:List Str}
def Emp.sort(h:Emp R es){x:Str}(hx:x∈es):x∈R.map (·.1):=((h x).mp hx).left
def Emp.row(h:Emp R es){x:Str}(hx:x∈es):∃r,(x,r)∈R/\∀s∈r,s∈es:=by
 have:=(h x).mp hx;cases this with
 |@mk _ r hm ih=>exact⟨r,hm,fun s hs=>(h s).mpr (ih s hs id)⟩
def Emp.of(h:Emp R es){x:Str}{r:List Str}(hm:(x,r)∈R)(hs:∀s∈r,s∈es):x∈es:=(h x).mpr (.mk hm fun s h' _=>(h s).mp (hs s h'))
def sW{E E':List Str}(h:∀x,x∈E↔x∈E'){x z:Str}(b:Gram.Beg R E x z):Gram.Beg R E' x z:=by
 induction b with
 |word hm hl hn=>exact .word hm (by rw[←Gram.dS h];exact hl) hn
 |sort hm hl hn _ ih=>exact .sort hm (by rw[←Gram.dS h];exact hl) hn ih
def dC.beg(h:Emp R es){x z:Str}(b:dC R x z):Gram.Beg R es x z:=by
 obtain⟨es',h',b⟩:=b;exact sW (fun y=>(h' y).trans (h y).symm) b
def lR{z:Str}:¬Wd R es [] z:=fun⟨s,h,_⟩=>by cases h
def du{x z:Str}{D:List Str}:Wd R es (x::D) z↔SB R x z\/(x∈es/\Wd R es D z):=by
 constructor
 ·rintro⟨s,h,hs⟩;unfold Gram.lead at h;rcases acq.mp h with e|h
  ·exact .inl (e▸hs)
  ·split at h
   ·rename_i hx;exact .inr ⟨hx,s,h,hs⟩
   ·cases h
 ·rintro(h|⟨hx,s,h,hs⟩)
  ·exact⟨x,by unfold Gram.lead;exact abe ..,h⟩
  ·exact⟨s,by unfold Gram.lead;rw[acR hx];exact aaU _ h,hs⟩
def jy{z:Str}:∀{a b:List Str},Wd R es (a++b) z↔Wd R es a z\/((∀y∈a,y∈es)/\Wd R es b z)
 |[],b=>⟨fun h=>.inr ⟨fun y hy=>(by cases hy),h⟩,fun h=>h.elim (fun h=>(lR h).elim) fun h=>h.2⟩
 |x::a,b=>by
  rw[List.cons_append,du,du,jy (a:=a)];constructor
  ·rintro(h|⟨hx,h|⟨ha,hb⟩⟩)
   ·exact .inl (.inl h)
   ·exact .inl (.inr ⟨hx,h⟩)
   ·refine .inr ⟨fun y hy=>?_,hb⟩;rcases acq.mp hy with e|hy
    ·rw[e];exact hx
    ·exact ha y hy
  ·rintro((h|⟨hx,h⟩)|⟨ha,hb⟩)
   ·exact .inl h
   ·exact .inr ⟨hx,.inl h⟩
   ·exact .inr ⟨ha x (abe ..),.inr ⟨fun y hy=>ha y (aaU _ hy),hb⟩⟩
def u6(h:Emp R es){x z:Str}(b:dC R x z):∃r,(x,r)∈R/\Wd R es r z:=by
 have b:=b.beg h;cases b with
 |@word _ _ r hm hl hn=>exact⟨r,hm,z,hl,.inr ⟨hn,rfl⟩⟩
 |@sort _ b _ r hm hl hn hb=>exact⟨r,hm,b,hl,.inl ⟨hn,es,h,hb⟩⟩
def np(h:Emp R es){x z:Str}{r:List Str}(hm:(x,r)∈R)(w:Wd R es r z):dC R x z:=by
 obtain⟨s,hl,⟨hs,hb⟩|⟨hs,rfl⟩⟩:=w
 ·exact⟨es,h,.sort hm hl hs (hb.beg h)⟩
 ·exact⟨es,h,.word hm hl hs⟩
def bM.eq(nc:bM R){x z:Str}{r r':List Str}(h:(x,r)∈R)(h':(x,r')∈R)(u:Use R (x,r) z)(u':Use R (x,r') z):r=r':=by
 obtain⟨n,hn⟩:=aaN.mp h;obtain⟨m,hm⟩:=aaN.mp h';have:=nc n m _ _ z hn hm rfl u u';subst this;rw[hn] at hm;injection hm with hm;injection hm
def bM.apart(nc:bM R)(h:Emp R es){x z:Str}(b:Gram.Beg R es x z):x∈es->Beh R es x z->False:=by
 induction b with
 |@word l w r hm hl hn=>
  intro hx hb;obtain⟨r',hm',hs⟩:=h.row hx;have:=nc.eq hm hm' ⟨es,h,.inl ⟨w,hl,.inr ⟨hn,rfl⟩⟩⟩ ⟨es,h,.inr ⟨hs,hb⟩⟩;subst this;exact hn (h.sort (hs w (Gram.dF _ _ _ hl)))
 |@sort l b w r hm hl hn hb ih=>
  intro hx hbh;obtain⟨r',hm',hs⟩:=h.row hx;have:=nc.eq hm hm' ⟨es,h,.inl ⟨b,hl,.inl ⟨hn,es,h,hb⟩⟩⟩ ⟨es,h,.inr ⟨hs,hbh⟩⟩;subst this;obtain⟨j,hj,_⟩:=jU hl;exact ih (hs b (Gram.dF _ _ _ hl)) (.up ⟨r,j,hm,hj,rfl⟩ hn (fun s h'=>hs s (List.mem_of_mem_drop h')) hbh)
def Fol(R:List Row)(es:List Str)(D:List Str):Prop:=∀pre x post,D=pre++x::post->x∈R.map (·.1)->(∀z,Wd R es post z->Beh R es x z)/\((∀y∈post,y∈es)->Beh R es x "")
def Fol.one:Fol R es [bP R]:=fun pre x post e _=>by
 cases pre with
 |nil=>
  injection e with e1 e2;subst e1 e2;exact⟨fun z h=>(lR h).elim,fun _=>.fin⟩
 |cons a b=>
  injection e with e1 e2;have:=acN List.length e2;simp at this
def Fol.tail{x:Str}{D:List Str}(h:Fol R es (x::D)):Fol R es D:=fun pre y post e hy=>h (x::pre) y post (by rw[e];rfl) hy
def Fol.exp{x:Str}{D r:List Str}(h:Fol R es (x::D))(hm:(x,r)∈R):Fol R es (r++D):=fun pre y post e hy=>by
 have hx:x∈R.map (·.1):=acB.mpr ⟨_,hm,rfl⟩;obtain⟨hx1,hx2⟩:=h [] x D rfl hx;rcases List.append_eq_append_iff.mp e with ⟨a',e1,e2⟩|⟨c',e1,e2⟩
 ·
  exact h (x::a') y post (by rw[e2];rfl) hy
 ·cases c' with
  |nil=>
   rw[ab5] at e1;have e2:y::post=D:=e2;exact h [x] y post (by rw[e2];rfl) hy
  |cons c cs=>
   injection e2 with e3 e4;subst e3;have hoc:Oc R y cs x:=⟨r,pre.length,hm,by rw[e1,aag (acH _),acF];rfl,by rw[e1];simp⟩;subst e4;refine⟨fun z hw=>?_,fun ha=>?_⟩
   ·rcases jy.mp hw with hw|⟨hs,hw⟩
    ·exact .word hoc hy hw
    ·exact .up hoc hy hs (hx1 z hw)
   ·exact .up hoc hy (fun s hs=>ha s (aaV _ hs)) (hx2 fun y hy=>ha y (aaG _ hy))
def Nx(R:List Row)(es:List Str)(D:List Str)(z:Str):Prop:=Wd R es D z\/(z=""/\∀y∈D,y∈es)
def Fol.use(h:Emp R es){x z:Str}{D r:List Str}(f:Fol R es (x::D))(hm:(x,r)∈R)(n:Nx R es (r++D) z):Use R (x,r) z:=by
 obtain⟨hx1,hx2⟩:=f [] x D rfl (acB.mpr ⟨_,hm,rfl⟩);rcases n with hw|⟨rfl,ha⟩
 ·rcases jy.mp hw with hw|⟨hs,hw⟩
  ·exact⟨es,h,.inl hw⟩
  ·exact⟨es,h,.inr ⟨hs,hx1 z hw⟩⟩
 ·exact⟨es,h,.inr ⟨fun s hs=>ha s (aaV _ hs),hx2 fun y hy=>ha y (aaG _ hy)⟩⟩
def Fol.apart(nc:bM R)(h:Emp R es){x z:Str}{D:List Str}(f:Fol R es (x::D))(hx:x∈es)(hw:Wd R es D z):¬SB R x z:=fun hs=>by
 rcases hs with ⟨h1,hb⟩|⟨h1,_⟩
 ·exact nc.apart h (hb.beg h) hx ((f [] x D rfl h1).1 z hw)
 ·exact h1 (h.sort hx)
inductive Take(R:List Row)(z:Str):List Str->List Str->Prop
 |blank {x:Str} {D D':List Str}:¬SB R x z->Take R z D D'->Take R z (x::D) D'
 |exp {x:Str} {r D D':List Str}:SB R x z->(x,r)∈R->Use R (x,r) z->Take R z (r++D) D'->Take R z (x::D) D'
 |word {D:List Str}:¬z∈R.map (·.1)->Take R z (z::D) D
inductive SBn(R:List Row)(es:List Str):Nat->Str->Str->Prop
 |word {z:Str}:¬z∈R.map (·.1)->SBn R es 0 z z
 |sort {n:Nat} {l b z:Str} {r:List Str}:(l,r)∈R->b∈Gram.lead es r->SBn R es n b z->SBn R es (n+1) l z
def SBn.sb(h:Emp R es){n:Nat}{x z:Str}(s:SBn R es n x z):SB R x z:=by
 induction s with
 |word hz=>exact .inr ⟨hz,rfl⟩
 |sort hm hl _ ih=>exact .inl ⟨acB.mpr ⟨_,hm,rfl⟩,np h hm ⟨_,hl,ih⟩⟩
def SB.deep(h:Emp R es){x z:Str}(s:SB R x z):∃n,SBn R es n x z:=by
 have key:∀{x z:Str},Gram.Beg R es x z->∃n,SBn R es n x z:=fun hb=>by
  induction hb with
  |word hm hl hn=>exact⟨1,.sort hm hl (.word hn)⟩
  |sort hm hl _ _ ih=>
   obtain⟨n,hn⟩:=ih;exact⟨n+1,.sort hm hl hn⟩
 rcases s with ⟨_,hb⟩|⟨hx,rfl⟩
 ·exact key (hb.beg h)
 ·exact⟨0,.word hx⟩
def Aim(R:List Row)(es:List Str)(z:Str)(D:List Str)(n j:Nat):Prop:=∃x,D[j]? =some x/\(∀y∈D.take j,y∈es)/\SBn R es n x z
def Aim.wd(h:Emp R es){z:Str}:∀{D:List Str} {n j:Nat},Aim R es z D n j->Wd R es D z
 |[],n,j,⟨x,h1,_⟩=>by cases h1
 |y::D,n,0,⟨x,h1,_,h3⟩=>by
  cases h1
  exact du.mpr (.inl (h3.sb h))
 |y::D,n,j+1,⟨x,h1,h2,h3⟩=>by
  rw[aba] at h2;exact du.mpr (.inr ⟨h2 y (abe ..),Aim.wd h ⟨x,by simpa using h1,fun u hu=>h2 u (aaU _ hu),h3⟩⟩)
def Aim.tail{z y:Str}{D:List Str}{n j:Nat}(a:Aim R es z (y::D) n (j+1)):y∈es/\Aim R es z D n j:=by
 obtain⟨x,h1,h2,h3⟩:=a;rw[aba] at h2;exact⟨h2 y (abe ..),x,by simpa using h1,fun u hu=>h2 u (aaU _ hu),h3⟩
def Aim.exp(nc:bM R)(h:Emp R es){z x:Str}{D r:List Str}{n:Nat}(a:Aim R es z (x::D) n 0)(hx:x∈R.map (·.1))(hm:(x,r)∈R)(u:Use R (x,r) z):∃n' j',n=n'+1/\j'<r.length/\Aim R es z (r++D) n' j':=by
 obtain⟨x',h1,_,h3⟩:=a;cases h1
 cases h3 with
 |word hz=>exact absurd hx hz
 |@sort n' _ b _ r' hm' hl hb=>
  have:=nc.eq hm hm' u ⟨es,h,.inl ⟨b,hl,hb.sb h⟩⟩;subst this;obtain⟨j,g1,g2⟩:=jU hl;have hj:=(aaj.mp g1).1;refine⟨n',j,rfl,hj,b,by rw[aak hj];exact g1,fun y hy=>g2 y ?_,hb⟩;rw[List.take_append_of_le_length (acz hj)] at hy;exact hy
mutual
def Tr.jz(h:Emp R es):∀{t:Tr} {s:Str},t.ok R s->(t.words=[]->s∈es)/\∀z l,t.words=z::l->SB R s z
 |.w x,s,⟨e,hs⟩=>by
  subst e;refine⟨fun e=>(by cases e),fun z l e=>?_⟩;have e:[x]=z::l:=e;injection e with e;exact .inr ⟨hs,e.symm⟩
 |.n x i ps,s,⟨e,r,hr,hk⟩=>by
  have hm:(s,r)∈R:=aaW hr;obtain⟨h1,h2⟩:=Tr.fg h hk;exact⟨fun e=>h.of hm (h1 e),fun z l e=>.inl ⟨acB.mpr ⟨_,hm,rfl⟩,np h hm (h2 z l e)⟩⟩
def Tr.fg(h:Emp R es):∀{ps:List Tr} {r:List Str},Tr.okL R ps r->(Tr.aP ps=[]->∀s∈r,s∈es)/\∀z l,Tr.aP ps=z::l->Wd R es r z
 |[],r,e=>by
  have e:r=[]:=e;subst e;exact⟨fun _ s hs=>(by cases hs),fun z l e=>(by cases e)⟩
 |t::ps,r,hk=>by
  obtain⟨s,r',e,h1,h2⟩:∃s r',r=s::r'/\Tr.ok R t s/\Tr.okL R ps r':=hk;subst e;obtain⟨a1,a2⟩:=Tr.jz h h1;obtain⟨b1,b2⟩:=Tr.fg h h2;refine⟨fun e=>?_,fun z l e=>?_⟩
  ·have e:t.words++Tr.aP ps=[]:=e;obtain⟨e1,e2⟩:=List.append_eq_nil_iff.mp e;intro y hy;rcases acq.mp hy with q|q
   ·rw[q];exact a1 e1
   ·exact b1 e2 y q
  ·have e:t.words++Tr.aP ps=z::l:=e;cases q:t.words with
   |nil=>
    rw[q] at e;exact du.mpr (.inr ⟨a1 q,b2 z l e⟩)
   |cons y m=>
    rw[q] at e;injection e with e1 _;subst e1;exact du.mpr (.inl (a2 _ _ q))
end
def Tr.jV:∀{a b:List Tr} {r s:List Str},Tr.okL R a r->Tr.okL R b s->Tr.okL R (a++b) (r++s)
 |[],b,r,s,h,h'=>by
  have h:r=[]:=h;rw[h];exact h'
 |t::a,b,r,s,h,h'=>by
  obtain⟨x,r',e,h1,h2⟩:∃x r',r=x::r'/\Tr.ok R t x/\Tr.okL R a r':=h;exact⟨x,r'++s,by rw[e];rfl,h1,Tr.jV h2 h'⟩
def Tr.pQ(h:Emp R es){ps:List Tr}{r:List Str}(k:Tr.okL R ps r):Nx R es r ((Tr.aP ps).headD ""):=by
 obtain⟨h1,h2⟩:=Tr.fg h k;cases q:Tr.aP ps with
 |nil=>exact .inr ⟨rfl,h1 q⟩
 |cons z l=>exact .inl (h2 z l q)
def Tr.yK(nc:bM R)(h:Emp R es):∀(n:Nat) {F F':List Tr} {D:List Str},Tr.szL F<=n->Fol R es D->Tr.okL R F D->Tr.okL R F' D->Tr.aP F=Tr.aP F'->F=F':=by
 intro n
 induction n with
 |zero=>
  intro F F' D hn f k k' e;cases F with
  |nil=>
   have k:D=[]:=k;subst k;have:=Tr.d5 k';exact(aav.mp this).symm
  |cons t F=>
   have:=Tr.gD t;have hn:t.sz+Tr.szL F<=0:=hn;omega
 |succ n ih=>
  intro F F' D hn f k k' e;cases F with
  |nil=>
   have k:D=[]:=k;subst k;have:=Tr.d5 k';exact(aav.mp this).symm
  |cons t F=>
   obtain⟨s,r,rfl,k1,k2⟩:∃s r',D=s::r'/\Tr.ok R t s/\Tr.okL R F r':=k;cases F' with
   |nil=>have k':s::r=[]:=k';cases k'
   |cons t' F'=>
    obtain⟨s',r',e',k1',k2'⟩:∃s' r',s::r=s'::r'/\Tr.ok R t' s'/\Tr.okL R F' r':=k';injection e' with e1 e2;subst e1 e2;have hn:t.sz+Tr.szL F<=n+1:=hn;have e:t.words++Tr.aP F=t'.words++Tr.aP F':=e;cases t with
    |w x=>
     obtain⟨rfl,hx⟩:=k1;cases t' with
     |w y=>
      obtain⟨rfl,_⟩:=k1';have e:y::Tr.aP F=y::Tr.aP F':=e;injection e with _ e;have hz:Tr.sz (.w y)=1:=by simp[Tr.sz]
      rw[ih (F:=F) (F':=F') (by omega) f.tail k2 k2' e]
     |n y i ps=>
      obtain⟨_,rr,hr,_⟩:=k1';exact absurd (acB.mpr ⟨_,aaW hr,rfl⟩) hx
    |n x i ps=>
     obtain⟨rfl,rr,hr,kk⟩:=k1;cases t' with
     |w y=>
      exact absurd (acB.mpr ⟨_,aaW hr,rfl⟩) k1'.2
     |n y i' ps'=>
      obtain⟨rfl,rr',hr',kk'⟩:=k1';have ka:=Tr.jV kk k2;have ka':=Tr.jV kk' k2';have ew:Tr.aP (ps++F)=Tr.aP (ps'++F'):=by rw[Tr.fc,Tr.fc];exact e
      have u:=f.use h (aaW hr) (Tr.pQ h ka);have u':=f.use h (aaW hr') (Tr.pQ h ka');rw[←ew] at u';have:=nc i i' _ _ _ hr hr' rfl u u';subst this;rw[hr] at hr';injection hr' with hr';injection hr' with _ hr';subst hr';have hz:Tr.sz (.n y i ps)=1+Tr.szL ps:=rfl;have:=ih (F:=ps++F) (F':=ps'++F') (by rw[Tr.eW];omega) (f.exp (aaW hr)) ka ka' ew;obtain⟨q1,q2⟩:=List.append_inj this (by rw[Tr.d5 kk,Tr.d5 kk']);rw[q1,q2]
end
end Nw
namespace Nw
open PySem L2
inductive Gi where
 |sg(s:Str)
 |rw(i:Nat)
def Fin(R:List Row):List Gi->List Tr->Prop
 |[],ms=>∃T:Tr,ms=[T]/\T.ok R (bP R)
 |.sg s::td,ms=>∀x:Tr,x.ok R s->Fin R td (ms++[x])
 |.rw i::td,ms=>∃(p:Row) (m0 inn:List Tr),R[i]? =some p/\ms=m0++inn/\Tr.okL R inn p.2/\Fin R td (m0++[Tr.n p.1 i inn])
section
variable {R:List Row}{s:Str}{r:List Str}{i:Nat}{td:List Gi}{ms:List Tr}
def Fin.signs:∀{r:List Str} {td:List Gi} {ms:List Tr},(∀xs,Tr.okL R xs r->Fin R td (ms++xs))->Fin R (r.map Gi.sg++td) ms
 |[],td,ms,h=>by
  have:=h [] (by simp[Tr.okL]);rw[ab5] at this;exact this
 |s::r,td,ms,h=>by
  show ∀x:Tr,x.ok R s->Fin R (r.map Gi.sg++td) (ms++[x]);intro x hx;refine Fin.signs fun xs hxs=>?_
  rw[abw];refine h ([x]++xs) ?_;show Tr.okL R (x::xs) (s::r);simp only[Tr.okL];exact⟨s,r,rfl,hx,hxs⟩
def Fin.row(hi:R[i]? =some (s,r))(h:Fin R (.sg s::td) ms):Fin R (r.map Gi.sg++.rw i::td) ms:=
 Fin.signs fun xs hxs=>⟨(s,r),ms,xs,hi,rfl,hxs,h (.n s i xs) (show s=s/\∃r',R[i]? =some (s,r')/\Tr.okL R xs r' from ⟨rfl,r,hi,hxs⟩)⟩
def Fin.word(hs:¬s∈R.map (·.1))(h:Fin R (.sg s::td) ms):Fin R td (ms++[.w s]):=h (.w s) (show s=s/\¬s∈R.map (·.1) from ⟨rfl,hs⟩)
def Fin.start:Fin R [.sg (bP R)] []:=fun x hx=>⟨x,rfl,hx⟩
end
def d5{R:List Row}:∀{xs:List Tr} {r:List Str},Tr.okL R xs r->xs.length=r.length
 |[],r,h=>by simp only[Tr.okL] at h;rw[h];rfl
 |x::xs,r,h=>by
  simp only[Tr.okL] at h;obtain⟨s,r',rfl,_,h⟩:=h;rw[abI,abI,d5 h]
def Gi.wt(S A B:Str):Gi->Nat
 |.rw _=>1
 |.sg s=>if s=S then 10 else if s=A then 7 else if s=B then 4 else 1
def wtL(S A B:Str)(td:List Gi):Nat:=(td.map (Gi.wt S A B)).sum
def cG{S A B:Str}{g:Gi}{td:List Gi}:wtL S A B (g::td)=g.wt S A B+wtL S A B td:=by
 unfold wtL;rw[acr,acu]
def rm{S A B:Str}{a b:List Gi}:wtL S A B (a++b)=wtL S A B a+wtL S A B b:=by
 unfold wtL;rw[ab9,List.sum_append]
def u7{S A B:Str}(g:Gi):1<=g.wt S A B/\g.wt S A B<=10:=by
 cases g with
 |rw i=>exact⟨acH 1,(by decide:1<=10)⟩
 |sg s=>
  unfold Gi.wt;dsimp only;split
  ·decide
  ·split
   ·decide
   ·split <;> decide
def u8{S A B:Str}:∀td:List Gi,wtL S A B td<=10*td.length
 |[]=>acH _
 |g::td=>by
  rw[cG,abI];have h1:=(u7 (S:=S) (A:=A) (B:=B) g).2;have h2:=u8 (S:=S) (A:=A) (B:=B) td;omega
def rp{S A B:Str}:∀td:List Gi,td.length<=wtL S A B td
 |[]=>acH _
 |g::td=>by
  rw[cG,abI];have h1:=(u7 (S:=S) (A:=A) (B:=B) g).1;have h2:=rp (S:=S) (A:=A) (B:=B) td;omega
structure bR(R:List Row)(S A B:Str):Prop where
 h0:R[0]? =some (S,[("s":Str),A])
 h1:R[1]? =some (A,[("t":Str),B])
 h2:R[2]? =some (B,[("u":Str)])
 all:∀x∈R.map (·.1),x=S\/x=A\/x=B
 nSA:S≠A
 nSB:S≠B
 nAB:A≠B
 ns:¬("s":Str)∈R.map (·.1)
 nt:¬("t":Str)∈R.map (·.1)
 nu:¬("u":Str)∈R.map (·.1)
section
variable {R:List Row}{S A B:Str}
def bR.Ai(h:bR R S A B):S∈R.map (·.1):=acB.mpr ⟨_,aaW h.h0,rfl⟩
def bR.pR(h:bR R S A B):A∈R.map (·.1):=acB.mpr ⟨_,aaW h.h1,rfl⟩
def bR.Aj(h:bR R S A B):B∈R.map (·.1):=acB.mpr ⟨_,aaW h.h2,rfl⟩
def bR.wtW(h:bR R S A B){s:Str}(hs:¬s∈R.map (·.1)):(Gi.sg s).wt S A B=1:=by
 have h1:¬s=S:=fun e=>hs (e▸h.Ai)
 have h2:¬s=A:=fun e=>hs (e▸h.pR)
 have h3:¬s=B:=fun e=>hs (e▸h.Aj)
 show(if s=S then 10 else if s=A then 7 else if s=B then 4 else 1)=1;rw[acS h1,acS h2,acS h3]
def bR.fst(h:bR R S A B):bP R=S:=by
 cases R with
 |nil=>cases h.h0
 |cons p R=>have:=h.h0;cases this;rfl
def bR.wtS(h:bR R S A B):(Gi.sg S).wt S A B=10:=acR rfl
def bR.wtA(h:bR R S A B):(Gi.sg A).wt S A B=7:=by
 show(if A=S then 10 else if A=A then 7 else if A=B then 4 else 1)=7;rw[acS h.nSA.symm,acR rfl]
def bR.wtB(h:bR R S A B):(Gi.sg B).wt S A B=4:=by
 show(if B=S then 10 else if B=A then 7 else if B=B then 4 else 1)=4;rw[acS h.nSB.symm,acS h.nAB.symm,acR rfl]
def lastOf(S A:Str)(x:Str):Nat:=if x=S then 0 else if x=A then 1 else 2
def bR.last(h:bR R S A B){x:Str}(hx:x∈R.map (·.1)):∃r,R[lastOf S A x]? =some (x,r)/\wtL S A B (r.map Gi.sg)+1<(Gi.sg x).wt S A B:=by
 rcases h.all x hx with rfl|rfl|rfl
 ·refine⟨[("s":Str),A],?_,?_⟩
  ·unfold lastOf;rw[acR rfl];exact h.h0
  ·rw[h.wtS,acr,cG,h.wtW h.ns,acr,cG,h.wtA];exact(by decide:1+(7+0)+1<10)
 ·refine⟨[("t":Str),B],?_,?_⟩
  ·unfold lastOf;rw[acS h.nSA.symm,acR rfl];exact h.h1
  ·rw[h.wtA,acr,cG,h.wtW h.nt,acr,cG,h.wtB];exact(by decide:1+(4+0)+1<7)
 ·refine⟨[("u":Str)],?_,?_⟩
  ·unfold lastOf;rw[acS h.nSB.symm,acS h.nAB.symm];exact h.h2
  ·rw[h.wtB,acr,cG,h.wtW h.nu];exact(by decide:1+0+1<4)
end
end Nw
namespace Nw
open PySem L2
def jW(R:List Row)(t:List Str):Prop:=∀pre y post,t=pre++y::post->y∈R.map (·.1)->post=[]\/∃post',post=("x":Str)::post'
structure Calm(R:List Row):Prop where
 nd:R.Nodup
 ro:∀p∈R,p.2=[]\/∃(w:Str) (t:List Str),p.2=w::t/\¬w∈R.map (·.1)/\w≠""/\w≠"x"/\jW R t
 one:∀(n m:Nat) (p q:Row) (w:Str) (t t':List Str),R[n]? =some p->R[m]? =some q->p.2=w::t->q.2=w::t'->n=m
 nx:¬("x":Str)∈R.map (·.1)
section
variable {R:List Row}{es:List Str}
def Calm.beh(c:Calm R)(h:Emp R es){x z:Str}(b:Beh R es x z):z=""\/z="x":=by
 induction b with
 |fin=>exact .inl rfl
 |word o hx w=>
  rename_i l x z rest;obtain⟨r,j,hm,hj,hr⟩:=o;have hsplit:r=r.take j++x::rest:=by
   rw[hr];exact(aaT j r).symm.trans (by rw[aan (aaj.mp hj).1,(aaj.mp hj).2])
  rcases c.ro _ hm with e|⟨w0,t,e,hw0,_,_,ct⟩
  ·have e:r=[]:=e;rw[e] at hj;cases hj
  ·have e:r=w0::t:=e;cases j with
   |zero=>
    rw[e] at hj;cases hj
    exact absurd hx hw0
   |succ j=>
    have e2:t=t.take j++x::rest:=by
     rw[e] at hsplit;rw[aba,List.cons_append] at hsplit;exact(List.cons.inj hsplit).2
    rcases ct _ _ _ e2 hx with q|⟨post',q⟩
    ·rw[q] at w;exact absurd w lR
    ·rw[q] at w;rcases du.mp w with s|⟨s,_⟩
     ·rcases s with ⟨s,_⟩|⟨_,s⟩
      ·exact absurd s c.nx
      ·exact .inr s
     ·exact absurd (h.sort s) c.nx
 |up _ _ _ _ ih=>exact ih
def Calm.use(c:Calm R)(h:Emp R es){p:Row}{z:Str}(hp:p∈R)(u:Wd R es p.2 z\/((∀s∈p.2,s∈es)/\Beh R es p.1 z)) :
  (p.2=[]/\(z=""\/z="x"))\/∃t,p.2=z::t/\z≠""/\z≠"x":=by
 rcases c.ro p hp with e|⟨w,t,e,hw,h1,h2,_⟩
 ·refine .inl ⟨e,?_⟩;rcases u with u|⟨_,u⟩
  ·rw[e] at u;exact absurd u lR
  ·exact c.beh h u
 ·rcases u with u|⟨u,_⟩
  ·rw[e] at u;rcases du.mp u with s|⟨s,_⟩
   ·rcases s with ⟨s,_⟩|⟨_,s⟩
    ·exact absurd s hw
    ·rw[s];exact .inr ⟨t,e,h1,h2⟩
   ·exact absurd (h.sort s) hw
  ·rw[e] at u;exact absurd (h.sort (u w (abe ..))) hw
def Calm.xN(c:Calm R):bM R:=by
 intro n m p q z hn hm e up uq;obtain⟨es,h,up⟩:=up;have uq:=(rj h).mp uq;rcases c.use h (aaW hn) up with ⟨e1,z1⟩|⟨t,e1,z1,z2⟩
 ·rcases c.use h (aaW hm) uq with ⟨e2,_⟩|⟨t',e2,y1,y2⟩
  ·have:p=q:=Prod.ext e (e1.trans e2.symm);rw[this] at hn;obtain⟨h1,e1⟩:=aaj.mp hn;obtain⟨h2,e2⟩:=aaj.mp hm;exact(List.getElem_inj c.nd).mp (e1.trans e2.symm)
  ·rcases z1 with z1|z1
   ·exact absurd z1 y1
   ·exact absurd z1 y2
 ·rcases c.use h (aaW hm) uq with ⟨_,z3⟩|⟨t',e2,_,_⟩
  ·rcases z3 with z3|z3
   ·exact absurd z3 z1
   ·exact absurd z3 z2
  ·exact c.one n m p q z t t' hn hm e1 e2
end
end Nw
namespace Nw
open PySem L2
def bws:List Str:=["a","Q","st","d","e"]
def Wj(j:Nat)(w:Str):Prop:=bws[j]? =some w\/∃(z l:Str),w="q"++z++l/\l.cps.toList=[97+j]
def jX(z l:Str):(("q":Str)++z++l).cps.toList=113::(z.cps.toList++l.cps.toList):=by
 show((("q":Str).cps++z.cps)++l.cps).toList=_;rw[Array.toList_append,Array.toList_append];rfl
def mw{j:Nat}{w:Str}(h:bws[j]? =some w):∃c t,w.cps.toList=c::t/\c≠113/\c≠120/\w≠""/\w≠"s"/\w≠"t"/\w≠"u"/\w≠"S"/\w≠"A"/\w≠"B"/\w ∉ (["First","Then","And","Sab","Tab","Sob"]:List Str):=by
 have hm:=aaW h
 revert hm
 have:∀w∈bws,(w.cps.toList≠[]/\w.cps.toList.head?≠some 113/\w.cps.toList.head?≠some 120)/\w≠""/\w≠"s"/\w≠"t"/\w≠"u"/\w≠"S"/\w≠"A"/\w≠"B"/\w ∉ (["First","Then","And","Sab","Tab","Sob"]:List Str):=by decide +kernel
 intro hm;obtain⟨⟨h1,h2,h3⟩,h4⟩:=this w hm;cases e:w.cps.toList with
 |nil=>exact absurd e h1
 |cons c t=>
  rw[e] at h2 h3;exact⟨c,t,rfl,fun z=>h2 (by rw[z];rfl),fun z=>h3 (by rw[z];rfl),h4⟩
def Wj.inj{i j:Nat}{w:Str}(a:Wj i w)(b:Wj j w):i=j:=by
 rcases a with a|⟨z,l,rfl,hl⟩
 ·rcases b with b|⟨z,l,rfl,hl⟩
  ·exact iG (N:=bws) (by decide +kernel) a b
  ·obtain⟨c,t,e,h,_⟩:=mw a;rw[jX] at e;exact absurd (List.cons.inj e).1.symm h
 ·rcases b with b|⟨z',l',e,hl'⟩
  ·obtain⟨c,t,e,h,_⟩:=mw b;rw[jX] at e;exact absurd (List.cons.inj e).1.symm h
  ·have e:=acN (fun s:Str=>s.cps.toList.getLast?) e;have e:(("q":Str)++z++l).cps.toList.getLast? =(("q":Str)++z'++l').cps.toList.getLast?:=e;rw[jX,jX,hl,hl'] at e;rw[←List.cons_append,←List.cons_append,List.getLast?_append,List.getLast?_append] at e;have e:some (97+i)=some (97+j):=e;injection e with e;omega
def Wj.far{j:Nat}{w:Str}(a:Wj j w):w≠""/\w≠"x"/\w≠"s"/\w≠"t"/\w≠"u"/\w≠"q"/\w≠"S"/\w≠"A"/\w≠"B"/\w ∉ (["First","Then","And","Sab","Tab","Sob"]:List Str):=by
 rcases a with a|⟨z,l,rfl,hl⟩
 ·obtain⟨c,t,e,h1,h2,h3,h4,h5,h6,h7⟩:=mw a;refine⟨h3,fun z=>?_,h4,h5,h6,fun z=>?_,h7⟩
  ·rw[z] at e;exact h2 (List.cons.inj e).1.symm
  ·rw[z] at e;exact h1 (List.cons.inj e).1.symm
 ·have key:∀y:Str,(y.cps.toList.head?≠some 113\/y.cps.toList.length<=1)->("q":Str)++z++l≠y:=fun y hy e=>by
   have e:=acN (fun s:Str=>s.cps.toList) e;have e:(("q":Str)++z++l).cps.toList=y.cps.toList:=e;rw[jX,hl] at e;rw[←e] at hy;rcases hy with hy|hy
   ·exact hy rfl
   ·rw[abI,abi,aaH] at hy;omega
  have k2:∀y∈(["","x","s","t","u","q","S","A","B","First","Then","And","Sab","Tab","Sob"]:List Str),(y.cps.toList.head?≠some 113\/y.cps.toList.length<=1):=by decide +kernel
  have k3:=fun y hy=>key y (k2 y hy)
  refine⟨k3 _ (by decide +kernel),k3 _ (by decide +kernel),k3 _ (by decide +kernel),k3 _ (by decide +kernel),k3 _ (by decide +kernel),k3 _ (by decide +kernel),k3 _ (by decide +kernel),k3 _ (by decide +kernel),k3 _ (by decide +kernel),fun h=>?_⟩;have:∀y∈(["First","Then","And","Sab","Tab","Sob"]:List Str),y∈(["","x","s","t","u","q","S","A","B","First","Then","And","Sab","Tab","Sob"]:List Str):=by decide +kernel
  exact k3 _ (this _ h) rfl
end Nw
namespace Nw
open PySem L2
def sgn:Kx->Str
 |.inl s=>s
 |.inr k=>k.2
def u9(r:List Str):(eF r).map sgn=r:=by
 unfold eF;rw[acD]
 conv=>rhs;rw[←acL r]
 exact aa8 fun s _=>rfl
section
variable {z:Str}{R:List Row}{i:Nat}{p:Row}
variable {g:Bst}
end
end Nw
namespace Nw
open PySem L2
open SL (aj srt)
section
variable {P:Program}{w:World}{K:acX}{mg:Str->Option Value}{base:Heap}
end
end Nw
namespace Nw
open PySem L2
section
variable {RS:List Rec}{g:Bst}{S:List Str}
end
section
variable {z:Str}{R:List Row}{i:Nat}{p:Row}{g:Bst}{S:List Str}
def va{r:List Str}{k:Str×Str}(h:.inr k∈eF r):k.1="empty":=by
 obtain⟨s,_,e⟩:=acB.mp h;injection e with e;rw[←e]
end
end Nw
namespace Nw
open PySem L2
open SL (aj srt)
def rq{α β:Type}(f:α->List β)(n:Nat):∀l:List α,(∀a∈l,(f a).length<=n)->(l.flatMap f).length<=n*l.length
 |[],_=>by simp
 |a::l,h=>by
  rw[abF,abi,abI,Nat.mul_succ];have h1:=h a (abe ..);have h2:=rq f n l fun b hb=>h b (aaU _ hb)
  omega
def df{α β:Type}{F:α->β->Prop}:∀{l1:List α} {k1:List β} {l2:List α} {k2:List β},Paired F l1 k1->Paired F l2 k2->Paired F (l1++l2) (k1++k2)
 |_,_,_,_,.nil,q=>q
 |_,_,_,_,.cons a r,q=>.cons a (df r q)
def eD(R:List Row):Prop:=∃S:List Str,S.length<=3/\∀p∈R,p.1∈S
section
variable {P:Program}{w:World}{K:acX}{mg:Str->Option Value}{base:Heap}
end
end Nw
namespace Nw
open PySem L2
open SL (aj srt)
def wK(H:Hp)(v:V)(ss:List Str):Prop:=∃b,v=.ref b/\ao H b ss
def iC:kR wK:=fun _ _ _ _ s ⟨b,h1,h2⟩=>⟨b,h1,s _ _ h2⟩
def BM(H:Hp)(q:Addr)(L:List (List Str)):Prop:=∃vs,H q=some (.lst vs)/\Paired (wK H) vs L
def uL(es:List Str)(fb fh:Tab)(p:Row):List Str:=srt (aj (srt (aj (cb es fb p.2))++if p.2.all (fun s=>decide (s∈es))=true then getL fh p.1 else []))
def Tight.BN{R:List Row}(S:Tight R){D:List Str}(nd:D.Nodup)(h:∀z∈D,z=""\/∃p∈R,z∈p.2):D.length<=12:=by
 obtain⟨U,hU,hm⟩:=S.few;have:=Gram.bU (m:=("":Str)::U) nd fun z hz=>by
  rcases h z hz with e|⟨p,hp,hz'⟩
  ·rw[e];exact abe ..
  ·exact aaU _ (hm p hp z hz')
 rw[abI] at this;omega
def kU{f:Tab}{x:Str}{ys:List Str}(h:f.lookup x=some ys):getL f x=ys:=by unfold getL;rw[h];rfl
section
variable {R:List Row}{es:List Str}{fb fh:Tab}{p:Row}
def wL(hes:∀y,y∈es↔Gram.Made R (fun _=>False) y)(hkB:fb.map (·.1)=a8 R)(hcB:∀e∈fb,Canon (dC R e.1) e.2)(hkH:fh.map (·.1)=a8 R)(hcH:∀e∈fh,Canon (Behind R e.1) e.2)(hp:p∈R):Canon (Use R p) (uL es fb fh p):=by
 refine⟨_,rfl,SL.bZ _,fun z=>?_⟩;rw[SL.bE,ab0,SL.cg,SL.bE,pF hkB (fun e he z=>(hcB e he).mem z),rj hes];obtain⟨ys,h1,h2⟩:=cm (f:=fh) (x:=p.1) (by rw[hkH];exact aN.mpr (acB.mpr ⟨p,hp,rfl⟩));have hb:z∈getL fh p.1↔Beh R es p.1 z:=by
  rw[kU h1,(hcH _ h2).mem z];exact lF hes
 by_cases q:p.2.all (fun s=>decide (s∈es))=true
 ·rw[acR q,hb];have:∀s∈p.2,s∈es:=fun s hs=>abx (abR.mp q s hs)
  exact⟨fun h=>h.imp id fun h=>⟨this,h⟩,fun h=>h.imp id fun h=>h.2⟩
 ·rw[acS q];have:¬∀s∈p.2,s∈es:=fun h=>q (abR.mpr fun s hs=>aci (h s hs))
  exact⟨fun h=>h.elim .inl fun h=>(by cases h),fun h=>h.elim .inl fun h=>absurd h.1 this⟩
end
abbrev wM:Stmt:=top 36
def gg:aE ["rows","empties","begins","behind","found","left","right","words"] ["rows"] (am wM):=acW
def xO:Sp:=fun vs H Q _=>∃(a:Addr) (R:List Row),vs=[.ref a]/\aQ H a R/\Good R/\Tight R/\∀q (u:Row->List Str) H',ab H H'->H q=none->BM H' q (R.map u)->(∀p∈R,Canon (Use R p) (u p))->Q (.ref q) H'
section
variable {P:Program}{w:World}{K:acX}{mg:Str->Option Value}{base:Heap}
def Ak{f:Addr}{fd:FuncData}(F:Fun K "words_to_use_rows" "words_to_use_rows" wM f fd)(T:Txt mg)
  (D1:Def P w K mg base "empty_sorts" 4 ["rows"] jO)(D2:Def P w K mg base "words_to_begin" 5 ["rows"] nY)(D3:Def P w K mg base "words_behind" 6 ["rows"] xJ)
  (D5:Def P w K mg base "words_to_begin_signs" 2 ["signs","empties","begins"] sJ)(D6:Def P w K mg base "can_be_empty" 1 ["signs","empties"] sF):aM P w K mg base CX0 7 f fd ["rows"] xO:=by
 refine F.ok gg (fun vs H Q E h=>?_) (fun cdv A outer s H vs Q E hr h=>?_)
 ·obtain⟨a,R,rfl,_⟩:=h;rfl
 ·obtain⟨a,R,rfl,hR,hg,ht,k⟩:=h;have hu:=bO hr;have hr5:a9 5 _:=hr.mono (by decide);have hr4:a9 4 _:=hr.mono (by decide);have hr2:a9 2 _:=hr.mono (by decide);have hr1:a9 1 _:=hr.mono (by decide);refine⟨_,af (ak (i:=1) gg.nd rfl (Or.inl rfl) (aA D1 hr4 (by rfl) (ai (pv 0) ac)))
   (af (ak (i:=2) gg.nd rfl (Or.inl rfl) (aA D2 hr5 (by rfl) (ai (pv 0) ac)))
   (af (ak (i:=3) gg.nd rfl (Or.inl rfl) (aA D3 hr (by rfl) (ai (pv 0) ac)))
   (af (ak (i:=4) gg.nd rfl (Or.inl rfl) (bg ac))
   (af (bf ace rfl (aS (pv 0)) (cx (n:=2) rfl (aH (ap (i:=5) gg.nd rfl (Or.inl rfl)) (aH (ap (i:=6) gg.nd rfl (Or.inl rfl)) bT)))
    (fH (ak (i:=7) gg.nd rfl (Or.inl rfl) (aA D5 hr2 (by rfl) (ai (pv 6) (ai (pv 1) (ai (pv 2) ac)))))
    (fH (bh (bN (aA D6 hr1 (by rfl) (ai (pv 6) (ai (pv 1) ac))))
     (ag (ak (i:=7) gg.nd rfl (Or.inl rfl) (bV ij (pv 7) (bK hu (pv 3) (pv 5) (fun _ _=>rfl)))))
     bt)
    (ag (bc (bW aay aas aat aY (pv 4) (ai
     (aB (cR rfl) (by rfl) T.srt aap (ai (c6 (fF rfl) (by rfl) T.set (by decide +kernel) (ai (pv 7) ac)) ac)) ac)))))))
   (ag (aO (pv 4))))))),?_⟩
  refine⟨_,rfl,a,R,rfl,hR,hg,fun qe ms H1 s1 n1 nd1 hm1 hS1=>?_⟩;generalize hes:srt ms=es at hS1;have hem:∀y,y∈es↔Gram.Made R (fun _=>False) y:=fun y=>by rw[←hes,SL.cg];exact hm1 y
  refine⟨_,rfl,a,R,rfl,hR.mono s1,hg,fun db fb Hb s2 nb hB hkB hcB=>?_⟩;have s12:=s1.trans s2;refine⟨_,rfl,a,R,rfl,hR.mono s12,hg,ht,fun dh fh Hh s3 nh hH hkH hcH=>?_⟩;have s13:=s12.trans s3;have hcB':∀e∈fb,∀z,z∈e.2↔dC R e.1 z:=fun e he z=>(hcB e he).mem z
  have fb11:∀e∈fb,e.2.length<=11:=fun e he=>by
   obtain⟨D,h1,h2,h3⟩:=hcB e he;rw[h1,SL.dQ];exact ht.me h2 fun z hz=>by
    obtain⟨_,_,hb⟩:=(h3 z).mp hz;exact hb.sign.2
  have fh12:∀e∈fh,e.2.length<=12:=fun e he=>by
   obtain⟨D,h1,h2,h3⟩:=hcH e he;rw[h1,SL.dQ];exact ht.BN h2 fun z hz=>by
    obtain⟨_,_,hb⟩:=(h3 z).mp hz;exact hb.sign
  refine⟨by decide,fun wl hwl=>?_⟩;have hwlH:H wl=none:=s13.free hwl;have hRh:=hR.mono s13;obtain⟨vs,hv,hp⟩:=id hRh;have hlen:vs.length=R.length:=aco hp;have hEh:ao Hh qe es:=s3 _ _ (s2 _ _ hS1);have hBh:cM Hh db fb:=hB.mono s3;have l7:=ht.len;refine⟨_,rfl,a,rfl,⟨_,SqL.of (ab.upd hwl _ _ hv)⟩,bq (K:=K) (a:=a) (xs:=vs)
   (fun i σ H4=>∃o1 o2 o3,σ=[some (.ref a),some (.ref qe),some (.ref db),some (.ref dh),some (.ref wl),o1,o2,o3]/\cA wK Hh wl H4 ((R.take i).map (uL es fb fh)))
   ⟨_,_,_,rfl,cA.zero hwl⟩ ?_ ?_ ?_⟩
  ·rintro i σ H4 _ ⟨_,_,_,_,hg4⟩;exact SqL.of ((hg4.fin iC).1 _ _ hv)
  ·rintro i x σ H4 hx ⟨o1,o2,o3,rfl,hg4⟩;obtain⟨p,t,c,hpi,rfl,htp,hc⟩:=cL hp hx;have hpm:p∈R:=aaW hpi;have hil:i<R.length:=(aaj.mp hpi).1;have s4:=(hg4.fin iC).1;have hc:Hh c=some (.lst (p.2.map V.str)):=hc;refine⟨t,_,rfl,SqT.of (s4 _ _ htp),rfl,_,_,rfl,_,_,rfl,rfl,?_⟩;have wd:∀{z:Str},z∈cb es fb p.2↔Wd R es p.2 z:=fun{z}=>pF hkB hcB'
   have cl11:(aj (cb es fb p.2)).length<=11:=ht.me (SL.bZ _) fun z hz=>by
    have:=wd.mp (SL.bE.mp hz);exact this.sign (l:=p.1) (r:=p.2) hpm fun _ h=>h
   refine⟨fun σ H5=>∃wq,σ=[some (.ref a),some (.ref qe),some (.ref db),some (.ref dh),some (.ref wl),some (.str p.1),some (.ref c),some (.ref wq)]/\ab H4 H5/\ao H5 wq (srt (aj (cb es fb p.2))),?_,?_⟩
   ·refine⟨_,rfl,_,rfl,_,rfl,c,qe,db,p.2,es,fb,rfl,s4 _ _ hc,s4 _ _ hEh,?_,by have:=ht.wid p hpm;omega,fun e he=>acy (fb11 e he) (by decide),?_,fun q H5 s5 n5 hq5=>⟨q,rfl,s5,hq5⟩⟩
    ·obtain⟨kvs,h1,h2⟩:=hBh.mono s4;exact⟨kvs,.inl h1,h2⟩
    ·exact⟨aj (cb es fb p.2),by omega,fun z hz=>SL.bE.mpr hz⟩
   rintro σ H5 ⟨wq,rfl,s5,hwq⟩;have s45:=s4.trans s5;refine⟨fun σ H6=>∃wq,σ=[some (.ref a),some (.ref qe),some (.ref db),some (.ref dh),some (.ref wl),some (.str p.1),some (.ref c),some (.ref wq)]/\ab H4 H6/\ao H6 wq (srt (aj (cb es fb p.2))++if p.2.all (fun s=>decide (s∈es))=true then getL fh p.1 else []),?_,?_⟩
   ·refine⟨_,rfl,_,rfl,c,qe,p.2,es,rfl,s45 _ _ hc,s45 _ _ hEh,by have:=ht.wid p hpm;omega,fun H6 s6=>?_⟩;refine⟨_,rfl,?_⟩;have hwq6:H6 wq=some (.lst ((srt (aj (cb es fb p.2))).map V.str)):=s6 _ _ hwq;cases p.2.all (fun s=>decide (s∈es)) with
    |false=>
     refine aT ⟨wq,rfl,s5.trans s6,?_⟩;rw[acS (by decide),ab5];exact hwq6
    |true=>
     obtain⟨kvs,h1,h2⟩:=hH.mono (s45.trans s6);obtain⟨ys,e1,e2⟩:=cm (f:=fh) (x:=p.1) (by rw[hkH];exact aN.mpr (acB.mpr ⟨p,hpm,rfl⟩));rcases fG h2 p.1 with ⟨z1,_⟩|⟨ys',l,z1,z2,z3⟩
     ·rw[z1] at e1;cases e1
     ·rw[z1] at e1;cases e1;have z3:H6 l=some (.lst (ys.map V.str)):=z3;have hy12:=fh12 _ e2;refine bC ⟨_,rfl,_,rfl,_,rfl,dh,_,rfl,.inl ⟨kvs,Sum.inr p.1,.inl h1,rfl,z2.symm⟩,wq,l,_,_,rfl,rfl,hwq6,z3,?_,fun q hq=>⟨q,rfl,(s5.trans s6).trans (ab.upd hq),?_⟩⟩
      ·rw[ab3,ab3,SL.dQ];have hy12:ys.length<=12:=hy12;exact cS (by omega)
      ·unfold ao;rw[aa,acR rfl,kU z1,ab9]
   rintro σ H6 ⟨wq,rfl,s6,hwq⟩;generalize hL:(srt (aj (cb es fb p.2))++if p.2.all (fun s=>decide (s∈es))=true then getL fh p.1 else [])=L at hwq;have hLl:L.length<=23:=by
    rw[←hL,abi,SL.dQ];have:(if p.2.all (fun s=>decide (s∈es))=true then getL fh p.1 else []).length<=12:=by
     split
     ·obtain⟨ys,e1,e2⟩:=cm (f:=fh) (x:=p.1) (by rw[hkH];exact aN.mpr (acB.mpr ⟨p,hpm,rfl⟩));rw[kU e1];exact fh12 _ e2
     ·exact acI _
    omega
   have hg6:=hg4.on iC s6;obtain⟨ws,hw6,_⟩:=id hg6;have hwsl:=hg6.len hw6;rw[ab3,abK] at hwsl;have hwq:H6 wq=some (.lst (L.map V.str)):=hwq;have hol:=SL.gQ L;refine⟨_,rfl,.inl ⟨rfl,_,SqL.of hw6⟩,_,rfl,wq,L,rfl,SqL.of hwq,by unfold scanBound;omega,fun q1 hq1=>⟨q1,aj L,rfl,.inr (.inl aa),by omega,fun q2 hq2=>?_⟩⟩;have s7:=(ab.upd (o:=c9 w q1 (aj L)) hq1).trans (ab.upd (o:=HO.lst ((srt (aj L)).map V.str)) hq2);have hg7:=hg6.on iC s7;have hw7:=s7 _ _ hw6;refine⟨wl,ws,_,rfl,rfl,hw7,az (by omega),_,_,_,rfl,?_⟩;rw[acm,hpi,ab9];refine hg7.add hwl hw7 ⟨q2,rfl,?_⟩;have n2:q2≠wl:=fun z=>by
    have:=ab.upd (o:=c9 w q1 (aj L)) hq1 _ _ hw6;have hq2:upd H6 q1 (c9 w q1 (aj L)) q2=none:=hq2;rw[←z,hq2] at this;cases this
   unfold ao uL;rw[hide_ne n2,aa,hL]
  ·rintro σ H4 ⟨o1,o2,o3,rfl,hg4⟩;rw[hlen,abS] at hg4;obtain⟨s4,hls⟩:=hg4.fin iC;exact⟨_,rfl,k wl _ H4 (s13.trans s4) hwlH hls fun p hp=>wL hem hkB hcB hkH hcH hp⟩
end
end Nw
namespace Nw
open PySem L2
open SL (aj srt InP)
def cH(R:List Row)(u:Row->List Str)(i:Nat)(k:Str×Str):List Nat:=(List.range i).filter fun n=>decide ((bD R n).1=k.1/\k.2∈u (bD R n))
def dM(R:List Row)(u:Row->List Str)(i j:Nat)(k:Str×Str):List Nat:=cH R u i k++if (bD R i).1=k.1/\k.2∈(u (bD R i)).take j then [i] else []
def vb(R:List Row)(u:Row->List Str)(k:Str×Str):cH R u 0 k=[]:=rfl
def vc(R:List Row)(u:Row->List Str)(i:Nat):dM R u i 0=cH R u i:=by
 funext k
 unfold dM;rw[List.take_zero,acS (fun h=>by cases h.2),ab5]
def wN(R:List Row)(u:Row->List Str)(i:Nat):dM R u i (u (bD R i)).length=cH R u (i+1):=by
 funext k
 unfold dM cH;rw[abS,List.range_succ,abn]
 congr 1
 by_cases q:(bD R i).1=k.1/\k.2∈u (bD R i)
 ·rw[acR q,List.filter_cons_of_pos (by exact aci q),List.filter_nil]
 ·rw[acS q,List.filter_cons_of_neg (by rw[abX q];exact abf),List.filter_nil]
def yL{l:List Str}(nd:l.Nodup){j:Nat}{z:Str}(h:l[j]? =some z):¬z∈l.take j:=fun hz=>by
 obtain⟨i,hi⟩:=aaN.mp hz;have hlt:i<j:=by
  have:=(aaj.mp hi).1;rw[abK] at this;omega
 rw[List.getElem?_take_of_lt hlt] at hi;obtain⟨h1,e1⟩:=aaj.mp hi;obtain⟨h2,e2⟩:=aaj.mp h;have:=(List.getElem_inj nd).mp (e1.trans e2.symm);omega
def vd{R:List Row}{u:Row->List Str}{i j:Nat}{z:Str}(nd:(u (bD R i)).Nodup)(h:(u (bD R i))[j]? =some z):dM R u i (j+1) ((bD R i).1,z)=dM R u i j ((bD R i).1,z)++[i]:=by
 unfold dM;rw[acR ⟨rfl,by rw[acm,h];exact aaG _ (abl.mpr rfl)⟩,acS (fun q=>yL nd h q.2),ab5]
def yM{R:List Row}{u:Row->List Str}{i j:Nat}{z:Str}(h:(u (bD R i))[j]? =some z){k:Str×Str}(hk:k≠((bD R i).1,z)):dM R u i (j+1) k=dM R u i j k:=by
 unfold dM;have:((bD R i).1=k.1/\k.2∈(u (bD R i)).take (j+1))↔((bD R i).1=k.1/\k.2∈(u (bD R i)).take j):=by
  rw[acm,h];refine⟨fun⟨h1,h2⟩=>⟨h1,?_⟩,fun⟨h1,h2⟩=>⟨h1,aaV _ h2⟩⟩;rcases ab0.mp h2 with h2|h2
  ·exact h2
  ·have:k.2=z:=by simpa using h2
   exact absurd (Prod.ext h1.symm this) hk
 by_cases q:(bD R i).1=k.1/\k.2∈(u (bD R i)).take j
 ·rw[acR q,acR (this.mpr q)]
 ·rw[acS q,acS fun z=>q (this.mp z)]
def nV(ns:List Nat):List V:=ns.map fun n=>V.int (n:Nat)
def kvN(ks:List (Str×Str))(la:Str×Str->Addr):List (List Key×V):=ks.map fun k=>(aL k,V.ref (la k))
def iD(la:Str×Str->Addr)(k:Str×Str):∀ks,aD (kvN ks la) (aL k)=if k∈ks then some (.ref (la k)) else none
 |[]=>rfl
 |j::ks=>by
  show aD ((aL j,V.ref (la j))::kvN ks la) (aL k)=_
  by_cases q:j=k
  ·subst q;rw[bB rfl,acR (abe ..)]
  ·rw[bi (fun z=>q (cT z)),iD la k ks]
   by_cases m:k∈ks
   ·rw[acR m,acR (aaU _ m)]
   ·rw[acS m,acS (fun z=>(acq.mp z).elim (fun e=>q e.symm) m)]
structure cQ(H0 H:Hp)(d:Addr)(ks:List (Str×Str))(acc:Str×Str->List Nat)(la:Str×Str->Addr):Prop where
 at_:H d=some (.dT (kvN ks la))
 ls:∀k∈ks,H (la k)=some (.lst (nV (acc k)))
 inj:∀k∈ks,∀k'∈ks,la k=la k'->k=k'
 nd:ks.Nodup
 fd:H0 d=none
 fl:∀k∈ks,H0 (la k)=none
 sm:ab H0 H
 mem:∀k,k∈ks↔acc k≠[]
section
variable {H0 H H1:Hp}{d:Addr}{ks:List (Str×Str)}{acc acc':Str×Str->List Nat}{la:Str×Str->Addr}{k:Str×Str}{n:Nat}
def cQ.on(N:cQ H0 H d ks acc la)(s:ab H H1):cQ H0 H1 d ks acc la:=⟨s _ _ N.at_,fun k hk=>s _ _ (N.ls k hk),N.inj,N.nd,N.fd,N.fl,N.sm.trans s,N.mem⟩
def cQ.zero(h:H0 d=none)(e:H d=some (.dT []))(s:ab H0 H)(ha:∀k,acc k=[]):cQ H0 H d [] acc la:=⟨e,fun k hk=>(by cases hk),fun k hk=>(by cases hk),acj,h,fun k hk=>(by cases hk),s,fun k=>⟨fun z=>(by cases z),fun z=>absurd (ha k) z⟩⟩
def cQ.xP(N:cQ H0 H d ks acc la)(hk:k∈ks):la k≠d:=fun z=>by
 have:=N.ls k hk;rw[z,N.at_] at this;cases this
def cQ.old(N:cQ H0 H d ks acc la)(hk:k∈ks)(h1:acc' k=acc k++[n])(h2:∀j,j≠k->acc' j=acc j):cQ H0 (upd H (la k) (.lst (nV (acc k)++[.int (n:Nat)]))) d ks acc' la:=by
 refine⟨by rw[ad (acQ (N.xP hk))];exact N.at_,fun j hj=>?_,N.inj,N.nd,N.fd,N.fl,N.sm.bG (N.fl k hk),fun j=>?_⟩
 ·by_cases q:j=k
  ·subst q;rw[aa,h1];unfold nV;rw[ab9];rfl
  ·rw[ad (fun z=>q (N.inj j hj k hk z)),h2 j q];exact N.ls j hj
 ·by_cases q:j=k
  ·subst q;rw[h1];exact⟨fun _ z=>by simp at z,fun _=>hk⟩
  ·rw[h2 j q];exact N.mem j
def cQ.new{q:Addr}(N:cQ H0 H d ks acc la)(hk:¬k∈ks)(hq:H q=none){H1:Hp}(s:ab H H1)(hq1:H1 q=some (.lst []))(h1:acc' k=acc k++[n])(h2:∀j,j≠k->acc' j=acc j) :
  cQ H0 (upd (upd H1 d (.dT (putK (kvN ks la) (aL k) (.ref q)))) q (.lst ([]++[.int (n:Nat)]))) d (ks++[k]) acc' (fun j=>if j=k then q else la j):=by
 have hqd:q≠d:=fun z=>by rw[z,N.at_] at hq;cases hq
 have hq0:H0 q=none:=N.sm.free hq;have hak:acc k=[]:=by
  cases e:acc k with
  |nil=>rfl
  |cons a b=>exact absurd ((N.mem k).mpr (by rw[e];exact fun z=>by cases z)) hk
 have ne:∀j∈ks,la j≠q:=fun j hj z=>by
  have:=N.ls j hj;rw[z,hq] at this;cases this
 have nk:∀j∈ks,j≠k:=fun j hj z=>hk (z▸hj)
 refine⟨?_,fun j hj=>?_,fun i hi j hj (e:(if i=k then q else la i)=(if j=k then q else la j))=>?_,fE N.nd hk,N.fd,fun j hj=>?_,?_,fun j=>?_⟩
 ·rw[ad (acQ hqd),aa,gw _ (by rw[iD,acS hk])];unfold kvN;rw[ab9,List.map_singleton];show some (HO.dT (_++[(aL k,V.ref q)]))=some (HO.dT (_++[(aL k,V.ref (if k=k then q else la k))]));rw[acR rfl];have:ks.map (fun j=>(aL j,V.ref (la j)))=ks.map fun j=>(aL j,V.ref (if j=k then q else la j)):=aa8 fun j hj=>by rw[acS (nk j hj)]
  rw[this]
 ·rcases ab0.mp hj with hj|hj
  ·show upd _ _ _ (if j=k then q else la j)=_;rw[acS (nk j hj),ad (ne j hj),ad (N.xP hj),h2 j (nk j hj)];exact s _ _ (N.ls j hj)
  ·show upd _ _ _ (if j=k then q else la j)=_;rw[abl.mp hj,acR rfl,aa,h1,hak];rfl
 ·rcases ab0.mp hi with hi|hi <;> rcases ab0.mp hj with hj|hj
  ·rw[acS (nk i hi),acS (nk j hj)] at e;exact N.inj i hi j hj e
  ·rw[acS (nk i hi),abl.mp hj,acR rfl] at e;exact absurd e (ne i hi)
  ·rw[acS (nk j hj),abl.mp hi,acR rfl] at e;exact absurd e.symm (ne j hj)
  ·rw[abl.mp hi,abl.mp hj]
 ·rcases ab0.mp hj with hj|hj
  ·show H0 (if j=k then q else la j)=_;rw[acS (nk j hj)];exact N.fl j hj
  ·show H0 (if j=k then q else la j)=_;rw[abl.mp hj,acR rfl];exact hq0
 ·exact((N.sm.trans s).bG N.fd).bG hq0
 ·by_cases q':j=k
  ·subst q';rw[h1];exact⟨fun _ z=>by simp at z,fun _=>aaG _ (abl.mpr rfl)⟩
  ·rw[h2 j q',ab0,abl];exact⟨fun z=>(N.mem j).mp (z.elim id fun z=>absurd z q'),fun z=>.inl ((N.mem j).mpr z)⟩
end
abbrev Us:=(Str×Str)×List Nat
def n8(H:Hp)(v:V)(e:Us):Prop:=∃t l,v=.ref t/\H t=some (.tup [.str e.1.1,.str e.1.2,.ref l])/\H l=some (.lst (nV e.2))
def gh:kR n8:=fun _ _ _ _ s ⟨t,l,h1,h2,h3⟩=>⟨t,l,h1,s _ _ h2,s _ _ h3⟩
def ve(H:Hp)(q:Addr)(U:List Us):Prop:=∃vs,H q=some (.lst vs)/\Paired (n8 H) vs U
structure lS(R:List Row)(U:List Us):Prop where
 inp:InP (U.map (·.1))
 nd:(U.map (·.1)).Nodup
 mem:∀s z,(s,z)∈U.map (·.1)↔∃p∈R,p.1=s/\Use R p z
 asc:∀e∈U,e.2.Pairwise (· < ·)
 num:∀e∈U,∀n,n∈e.2↔∃p,R[n]? =some p/\p.1=e.1.1/\Use R p e.1.2
def vf{R:List Row}{u:Row->List Str}(hu:∀p∈R,Canon (Use R p) (u p)){ks zs:List (Str×Str)}(hmem:∀k,k∈ks↔cH R u R.length k≠[])(hnd:ks.Nodup)(hp:zs.Perm ks)(hin:InP zs):lS R (zs.map fun k=>(k,cH R u R.length k)):=by
 have em:(zs.map fun k=>((k,cH R u R.length k):Us)).map (·.1)=zs:=by rw[acD];exact acL _
 have rn:∀n p,R[n]? =some p->bD R n=p:=fun n p h=>by unfold bD;rw[aah,h];rfl
 have key:∀k n,n∈cH R u R.length k↔∃p,R[n]? =some p/\p.1=k.1/\Use R p k.2:=fun k n=>by
  unfold cH;rw[abZ,acg];constructor
  ·rintro⟨hn,hd⟩;have hd:=abx hd;have e:=rn n _ (aao hn);rw[e] at hd;exact⟨_,aao hn,hd.1,((hu _ (abN hn)).mem _).mp hd.2⟩
  ·rintro⟨p,hp,h1,h2⟩;refine⟨(aaj.mp hp).1,aci ?_⟩;rw[rn n p hp];exact⟨h1,((hu _ (aaW hp)).mem _).mpr h2⟩
 refine⟨by rw[em];exact hin,by rw[em];exact hp.nodup_iff.mpr hnd,fun s z=>?_,fun e he=>?_,fun e he n=>?_⟩
 ·rw[em,hp.mem_iff,hmem];constructor
  ·intro h;cases q:cH R u R.length (s,z) with
   |nil=>exact absurd q h
   |cons n l=>
    obtain⟨p,h1,h2,h3⟩:=(key (s,z) n).mp (by rw[q];exact abe ..);exact⟨p,aaW h1,h2,h3⟩
  ·rintro⟨p,hp,h1,h2⟩ q;obtain⟨n,hn⟩:=aaN.mp hp;have:=(key (s,z) n).mpr ⟨p,hn,h1,h2⟩;rw[q] at this;cases this
 ·obtain⟨k,_,rfl⟩:=acB.mp he;exact List.Pairwise.filter _ List.pairwise_lt_range
 ·obtain⟨k,_,rfl⟩:=acB.mp he;exact key k n
end Nw
namespace Nw
open PySem L2
open SL (aj srt InP)
def Use.sign{R:List Row}{p:Row}{z:Str}(h:Use R p z)(hp:p∈R):z=""\/∃p∈R,z∈p.2:=by
 obtain⟨es,_,h|⟨_,h⟩⟩:=h
 ·exact .inr (h.sign (l:=p.1) (r:=p.2) hp fun _ h=>h)
 ·exact h.sign
def pS{R:List Row}(h3:eD R)(ht:Tight R){ks:List (Str×Str)}(nd:ks.Nodup)(h:∀k∈ks,∃p∈R,p.1=k.1/\Use R p k.2):ks.length<=36:=by
 obtain⟨S,hS,hm⟩:=h3;obtain⟨U,hU,hu⟩:=ht.few;have h1:=Gram.bU (m:=S.flatMap fun s=>(("":Str)::U).map fun z=>(s,z)) nd fun k hk=>by
  obtain⟨p,hp,e,hz⟩:=h k hk;refine abU.mpr ⟨k.1,e▸hm p hp,acB.mpr ⟨k.2,?_,rfl⟩⟩;rcases hz.sign hp with e|⟨q,hq,hz⟩
  ·rw[e];exact abe ..
  ·exact aaU _ (hu q hq _ hz)
 have h2:=rq (fun s:Str=>(("":Str)::U).map fun z=>(s,z)) 12 S fun s _=>by rw[ab3,abI];omega
 omega
def mx{R:List Row}{n:Nat}{p:Row}(h:R[n]? =some p):bD R n=p:=by unfold bD;rw[aah,h];rfl
def pT{R:List Row}{u:Row->List Str}(hu:∀p∈R,Canon (Use R p) (u p)){i:Nat}(hi:i<=R.length){k:Str×Str}(h:cH R u i k≠[]):∃p∈R,p.1=k.1/\Use R p k.2:=by
 cases q:cH R u i k with
 |nil=>exact absurd q h
 |cons n l=>
  have hn:n∈cH R u i k:=by rw[q];exact abe ..
  unfold cH at hn;obtain⟨h1,h2⟩:=abZ.mp hn;have h1:=acg.mp h1;have h2:=abx h2;have hl:n<R.length:=by omega
  have e:=mx (aao hl);rw[e] at h2;exact⟨R[n],abN hl,h2.1,((hu _ (abN hl)).mem _).mp h2.2⟩
def wO{R:List Row}{u:Row->List Str}(hu:∀p∈R,Canon (Use R p) (u p)){i j:Nat}(hi:i<R.length){k:Str×Str}(h:dM R u i j k≠[]):∃p∈R,p.1=k.1/\Use R p k.2:=by
 by_cases q:(bD R i).1=k.1/\k.2∈(u (bD R i)).take j
 ·have e:=mx (aao hi);rw[e] at q;exact⟨R[i],abN hi,q.1,((hu _ (abN hi)).mem _).mp (aaY q.2)⟩
 ·unfold dM at h;rw[acS q,ab5] at h;exact pT hu (acz hi) h
def pU(R:List Row)(u:Row->List Str)(i:Nat)(k:Str×Str):(cH R u i k).length<=i:=by
 unfold cH;have:=aaS (fun n=>decide ((bD R n).1=k.1/\k.2∈u (bD R n))) (List.range i);rw[abD] at this;exact this
def wP(R:List Row)(u:Row->List Str)(i j:Nat)(k:Str×Str):(dM R u i j k).length<=i+1:=by
 unfold dM;have:=pU R u i k;rw[abi];split
 ·rw[aaH];omega
 ·rw[ab8];omega
def pV(ns:List Nat):(nV ns).length=ns.length:=ab3 ..
def wQ(ks:List (Str×Str))(la:Str×Str->Addr):(kvN ks la).map (fun kv=>bQ kv.1)=ks:=by
 unfold kvN;rw[acD];exact acL _
def yN{n:Nat}{M N:List Str}{x:Str}(h1:M[n]? =some x)(h2:N[2]? =some x):∀(j i:Nat),([none,none,some n]:List (Option Nat))[j]? =some (some i)->M[i]? =some x/\N[j]? =some x:=by
 intro j i h;rcases j with _|_|_|j
 ·cases h
 ·cases h
 ·cases h;exact⟨h1,h2⟩
 ·cases h
def nr{H H1:Hp}{wl:Addr}(h:H wl=none)(s:ab H H1):ab H (hide wl H1):=fun b o e=>by
 rw[hide_ne (fun z=>by rw[z,h] at e;cases e)];exact s b o e
def _root_.L2.rA{X:Cx}{K:acX}{pos:Pos}{es:List Expr}{k:Nat}{t:TGs}{n:Nat}(hK:X.K=K)(hc:X.calm=true)(h:PGs X es t)
  (hn:(assignEach es X.env).length=n:=by rfl)(hst:(assignEach es X.env).findIdx? (·.1)=none:=by rfl):PG X (.Tuple es k pos) (zd K n t):=hK▸cx hc h hn hst
abbrev wR:Stmt:=top 38
def lT:aE ["rows","numbers","number","words","word"] ["rows"] (am wR):=acW
def xQ:Sp:=fun vs H Q _=>∃(a:Addr) (R:List Row),vs=[.ref a]/\aQ H a R/\Good R/\Tight R/\eD R/\∀q U H',ab H H'->ve H' q U->lS R U->U.length<=36->(∀e∈U,e.2.length<=7)->Q (.ref q) H'
section
variable {P:Program}{w:World}{K:acX}{mg:Str->Option Value}{base:Heap}
def Al{f:Addr}{fd:FuncData}(F:Fun K "uses_in_order" "uses_in_order" wR f fd)(T:Txt mg)(hEn:mg "enumerate"=none)(D1:Def P w K mg base "words_to_use_rows" 7 ["rows"] xO):aM P w K mg base CX0 8 f fd ["rows"] xQ:=by
 refine F.ok lT (fun vs H Q E h=>?_) (fun cdv A outer s H vs Q E hr h=>?_)
 ·obtain⟨a,R,rfl,_⟩:=h;rfl
 ·obtain⟨a,R,rfl,hR,hg,ht,h3,k⟩:=h;have hu:=bO hr;refine⟨_,af (ak (i:=1) lT.nd rfl (Or.inr rfl) iN)
   (fH (bf ace rfl (jR (by rfl) hEn (ai (aA D1 hr (by rfl) (ai (pv 0) ac)) ac)) (cx (n:=2) rfl (aH (ap (i:=2) lT.nd rfl (Or.inl rfl)) (aH (ap (i:=3) lT.nd rfl (Or.inl rfl)) bT)))
    (ag (bf ace rfl (aS (pv 3)) (ap (i:=4) lT.nd rfl (Or.inl rfl))
     (ag (bc (bW aay aas aat aY
      (yG hu (pv 1) (bj (ai (aG aR (aG a0 (pv 0) (pv 2) (fun _ _=>rfl)) aq (fun _ _=>rfl)) (ai (pv 4) ac))) (bg ac) ⟨rfl,rfl,rfl,rfl⟩) (ai (pv 2) ac)))))))
   (ag (aO (cV (aU.one (N:=["sort","word","numbers"]) (sel:=[none,none,some 1]) "numbers" (by rfl) (by rfl) (by rfl) (by decide) (by decide) (by rfl) (by rfl) ⟨_,rfl,rfl⟩ (by rfl) (yN rfl rfl)) rfl
    (aS (aB (pK rfl) (by rfl) T.srt aap (ai (pv 1) ac)))
    (fun s₃ H₃ fp=>rA (K:=K) (n:=2) rfl rfl (aH (ap (i:=0) (show(["sort","word","numbers"]:List Str).Nodup by decide) rfl (Or.inl rfl)) (aH (ap (i:=1) (show(["sort","word","numbers"]:List Str).Nodup by decide) rfl (Or.inl rfl)) bT)))
    (fun s₃ H₃ fp=>cI)
    (fun s₃ H₃ fp=>bj (ai (pv 0) (ai (pv 1) (ai (bK (X:=b9 _ _ _ _ _ _ _) hu (pv 2) (bj (ai (pv 0) (ai (pv 1) ac))) (fun _ _=>rfl)) ac)))))))),?_⟩
  intro d hd;have s0:=ab.upd (o:=HO.dT []) hd;have hR1:=hR.mono s0;refine⟨fun σ H4=>∃ks la u o1 o2 o3 H0,σ=[some (.ref a),some (.ref d),o1,o2,o3]/\(∀p∈R,Canon (Use R p) (u p))/\cQ H0 H4 d ks (cH R u R.length) la/\ab H H0,?_,?_⟩
  ·refine⟨_,rfl,a,R,rfl,hR1,hg,ht,fun q u H1 s1 n1 hls hcan=>?_⟩;obtain⟨vs,hv,hp⟩:=hls;have hd1:H1 d=some (.dT []):=s1 _ _ aa;have hqd:q≠d:=fun z=>by rw[z,aa] at n1;cases n1
   have hlen:vs.length=R.length:=by rw[aco hp,ab3]
   have sB:ab (hide d H1) H1:=ab.lM;have sHB:ab H (hide d H1):=nr hd (s0.trans s1);have hvB:hide d H1 q=some (.lst vs):=by rw[hide_ne hqd];exact hv
   have l7:=ht.len;refine⟨q,rfl,⟨_,SqL.of hv⟩,kK (K:=K) (a:=q) (xs:=vs)
    (fun i σ H4=>∃ks la o1 o2 o3,σ=[some (.ref a),some (.ref d),o1,o2,o3]/\cQ (hide d H1) H4 d ks (cH R u i) la)
    ⟨[],fun _=>0,_,_,_,rfl,cQ.zero (by unfold hide;rw[acR rfl]) hd1 sB fun k=>vb R u k⟩ ?_ ?_ ?_⟩
   ·rintro i σ H4 _ ⟨_,_,_,_,_,_,N⟩;exact SqL.of (N.sm _ _ hvB)
   ·rintro i x t σ H4 hx ⟨ks,la,o1,o2,o3,rfl,N⟩ htt;obtain⟨ss,hss,b,rfl,hb⟩:=ba hp i x hx;rw[abt] at hss;obtain⟨p,hpi,rfl⟩:∃p,R[i]? =some p/\u p=ss:=by
     cases e:R[i]? with
     |none=>rw[e] at hss;cases hss
     |some p=>
      rw[e] at hss;exact⟨p,rfl,abY hss⟩
    have hpm:p∈R:=aaW hpi;have hil:i<R.length:=(aaj.mp hpi).1;have eN:=mx hpi;have hb:H1 b=some (.lst ((u p).map V.str)):=hb;have hbB:hide d H1 b=some (.lst ((u p).map V.str)):=by rw[hide_ne (fun z=>by rw[z,hd1] at hb;cases hb)];exact hb
    have und:(u p).Nodup:=by
     obtain⟨D,e1,e2,_⟩:=hcan p hpm;rw[e1];exact SL.gR e2
    have N1:=N.on (ab.upd (o:=HO.tup [.int i,.ref b]) htt);refine⟨t,_,rfl,SqT.of aa,rfl,_,_,rfl,_,_,rfl,rfl,?_⟩;generalize upd H4 t (.tup [.int i,.ref b])=H5 at N1;refine⟨_,rfl,b,rfl,⟨_,SqL.of (N1.sm _ _ hbB)⟩,bq (K:=K) (a:=b) (xs:=(u p).map V.str)
     (fun j σ H6=>∃ks la o3,σ=[some (.ref a),some (.ref d),some (.int i),some (.ref b),o3]/\cQ (hide d H1) H6 d ks (dM R u i j) la)
     ⟨ks,la,_,rfl,by rw[vc];exact N1⟩ ?_ ?_ ?_⟩
    ·rintro j σ H6 _ ⟨_,_,_,_,N6⟩;exact SqL.of (N6.sm _ _ hbB)
    ·rintro j x σ H6 hx ⟨ks,la,o3,rfl,N6⟩;obtain⟨z,hz,rfl⟩:=bH hx;have hz':(u (bD R i))[j]? =some z:=by rw[eN];exact hz
     have hkl:ks.length<=36:=pS h3 ht N6.nd fun k hk=>wO hcan hil ((N6.mem k).mp hk)
     have e1:=vd (R:=R) (u:=u) (i:=i) (j:=j) (z:=z) (by rw[eN];exact und) hz';rw[eN] at e1;have e2:∀k,k≠(p.1,z)->dM R u i (j+1) k=dM R u i j k:=fun k hk=>yM hz' (by rw[eN];exact hk)
     obtain⟨rs,hrs,hrp⟩:=id (hR.mono sHB);obtain⟨v0,hv0⟩:∃v0,rs[i]? =some v0:=⟨_,aao (by rw[aco hrp];exact hil)⟩;obtain⟨p',tt,c,hp',rfl,htt,hc⟩:=cL hrp hv0;rw[hpi] at hp';cases hp';refine⟨_,rfl,d,rfl,.inr ⟨_,.inl N6.at_⟩,_,rfl,_,rfl,a,_,(i:Int),_,rfl,rfl,SqL.of (N6.sm _ _ hrs),au hv0,tt,_,0,_,rfl,rfl,SqT.of (N6.sm _ _ htt),au (j:=0) rfl,_,rfl,acU,fun t2 ht2=>⟨by decide,fun q2 hq2=>?_⟩⟩;have s7:=ab.upd (o:=HO.tup [.str p.1,.str z]) ht2;have s8:=ab.upd (o:=HO.lst []) hq2;have N7:=N6.on s7;have N8:=N7.on s8;have hl8:=wP R u i j (p.1,z);refine⟨_,aL (p.1,z),t2,N8.at_,rfl,s8 _ _ aa,by unfold kvN;rw[ab3];exact az (by omega),fun v hv=>?_,fun hn=>?_⟩
     ·rw[iD] at hv
      by_cases m:(p.1,z)∈ks
      ·rw[acR m] at hv;cases hv
       exact⟨.inl ⟨rfl,_,SqL.of (N8.ls _ m)⟩,_,rfl,la (p.1,z),_,_,rfl,rfl,N8.ls _ m,by rw[pV];exact az (by omega),ks,la,_,rfl,N8.old m e1 e2⟩
      ·rw[acS m] at hv;cases hv
     ·rw[iD] at hn
      by_cases m:(p.1,z)∈ks
      ·rw[acR m] at hn;cases hn
      ·have hq2':q2≠d:=fun q=>by rw[q,N7.at_] at hq2;cases hq2
       have at9:∀o,upd (upd (upd H6 t2 (.tup [.str p.1,.str z])) q2 (.lst [])) d o q2=some (.lst []):=fun o=>by rw[ad hq2',aa]
       exact⟨.inl ⟨rfl,_,SqL.of (at9 _)⟩,_,rfl,q2,_,_,rfl,rfl,at9 _,by decide,ks++[(p.1,z)],_,_,rfl,N7.new m hq2 s8 aa e1 e2⟩
    ·rintro σ H6 ⟨ks,la,o3,rfl,N6⟩;have e:=wN R u i;rw[eN] at e;rw[ab3,e] at N6;exact⟨ks,la,_,_,_,rfl,N6⟩
   ·rintro σ H4 ⟨ks,la,o1,o2,o3,rfl,N⟩;rw[hlen] at N;exact⟨ks,la,u,_,_,_,_,rfl,hcan,N,sHB⟩
  rintro σ H4 ⟨ks,la,u,o1,o2,o3,H0,rfl,hcan,N,sH⟩;have hkl:ks.length<=36:=pS h3 ht N.nd fun k hk=>pT hcan (acH _) ((N.mem k).mp hk)
  have hkvl:(kvN ks la).length=ks.length:=ab3 ..;refine⟨_,rfl,d,kvN ks la,rfl,N.at_,by omega,fun kv hkv=>?_,fun q zs hq hperm hin hat=>?_⟩
  ·obtain⟨k',_,rfl⟩:=acB.mp hkv;exact⟨k'.1,k'.2,rfl⟩
  rw[wQ] at hperm;have sq:=ab.upd (o:=HO.lst (zs.map fun z=>V.ref z.2)) hq;have N5:=N.on sq;have hzl:zs.length=ks.length:=by
   have:=hperm.length_eq;rw[ab3] at this;exact this
  generalize hH5:upd H4 q (.lst (zs.map fun z=>V.ref z.2))=H5 at sq N5;have hq5:H5 q=some (.lst (zs.map fun z=>V.ref z.2)):=by rw[←hH5];exact aa
  refine⟨q,rfl,⟨_,SqL.of hq5⟩,fun D hD=>jn (K:=K) (xs:=zs.map fun z=>V.ref z.2) (fun j τ H6=>(∃o1 o2,τ=[o1,o2,some (.ref d)])/\cA n8 H5 D H6 ((zs.take j).map fun z=>(z.1,cH R u R.length z.1))) ⟨⟨_,_,rfl⟩,cA.zero hD⟩ ?_ ?_ ?_⟩
  ·rintro j τ H6 ⟨_,hg6⟩;exact SqL.of ((hg6.fin gh).1 _ _ hq5)
  ·rintro j x τ H6 hx ⟨⟨o1,o2,rfl⟩,hg6⟩;rw[abt] at hx;cases hz:zs[j]? with
   |none=>rw[hz] at hx;cases hx
   |some z=>
    rw[hz] at hx;have hx:some (V.ref z.2)=some x:=hx;injection hx with hx;subst hx;have hzm:z∈zs:=aaW hz;have hjl:j<zs.length:=(aaj.mp hz).1;have s6:=(hg6.fin gh).1;have hzk:z.1∈ks:=hperm.mem_iff.mp (acB.mpr ⟨z,hzm,rfl⟩);have hz6:H6 z.2=some (.tup [.str z.1.1,.str z.1.2]):=s6 _ _ (sq _ _ (hat z hzm));refine⟨z.2,_,rfl,SqT.of hz6,rfl,_,_,rfl,_,_,rfl,rfl,?_⟩;dsimp only[lm];rw[acR rfl];refine⟨_,rfl,_,rfl,_,rfl,_,rfl,_,rfl,acU,fun t1 ht1=>?_⟩;have s7:=ab.upd (o:=HO.tup [.str z.1.1,.str z.1.2]) ht1;have N7:=(N5.on s6).on s7;refine⟨d,.ref (la z.1),rfl,?_,acV,fun t2 ht2=>?_⟩
    ·have:=bu.t (k:=aL z.1) N7.at_ aa;rw[iD,acR hzk] at this;exact this
    ·have s8:=ab.upd (o:=HO.tup [.str z.1.1,.str z.1.2,.ref (la z.1)]) ht2;have hg8:=hg6.on gh (s7.trans s8);obtain⟨ys,hy,_⟩:=id hg8;have hyl:=hg8.len hy;rw[ab3,abK] at hyl;refine⟨ys,hy,az (by omega),⟨_,_,rfl⟩,?_⟩;rw[acm,hz,ab9];refine hg8.add hD hy ⟨t2,la z.1,rfl,?_,?_⟩
     ·have:t2≠D:=fun e=>by
       obtain⟨y6,hy6,_⟩:=id hg6;rw[e,s7 _ _ hy6] at ht2;cases ht2
      rw[hide_ne this];exact aa
     ·exact nr hD ((s6.trans s7).trans s8) _ _ (N5.ls _ hzk)
  ·rintro τ H6 ⟨_,hg6⟩;rw[ab3,abS] at hg6;obtain⟨s6,hus⟩:=hg6.fin gh;have eU:(zs.map fun z=>((z.1,cH R u R.length z.1):Us))=(zs.map (·.1)).map fun k=>(k,cH R u R.length k):=by rw[acD];rfl
   refine k D _ H6 (((sH.trans N.sm).trans sq).trans s6) hus ?_ (by rw[ab3];omega) fun e he=>?_
   ·rw[eU];exact vf hcan N.mem N.nd hperm hin
   ·obtain⟨z,_,rfl⟩:=acB.mp he;have:=pU R u R.length z.1;have:=ht.len;show(cH R u R.length z.1).length<=7;omega
end
end Nw
namespace Nw
open PySem L2
open SL (aj srt InP)
def jY(U:List Us):Option Us:=U.find? fun e=>decide (1<e.2.length)
abbrev sFc:Stmt:=top 39
def Am:aE ["uses","use"] ["uses"] (am sFc):=acW
def An:Sp:=fun vs H Q _=>∃(a:Addr) (U:List Us),vs=[.ref a]/\ve H a U/\(jY U=none->Q .non H)/\∀e v,jY U=some e->n8 H v e->Q v H
def nv{α:Type}{q:α->Bool}:∀{l:List α} {i:Nat} {x:α},(∀y∈l.take i,q y=false)->l[i]? =some x->q x=true->l.find? q=some x
 |[],i,x,_,h,_=>by simp at h
 |y::l,0,x,_,h,hx=>by
  simp at h;subst h;rw[List.find?_cons_of_pos hx]
 |y::l,i+1,x,hn,h,hx=>by
  have hy:q y=false:=hn y (by simp);rw[List.find?_cons_of_neg (by rw[hy];exact abf)];exact nv (i:=i) (fun z hz=>hn z (by rw[aba];exact aaU _ hz)) (by simpa using h) hx
section
variable {P:Program}{w:World}{K:acX}{mg:Str->Option Value}{base:Heap}
def A8{f:Addr}{fd:FuncData}(F:Fun K "first_clash" "first_clash" sFc f fd)(T:Txt mg):aM P w K mg base CX0 1 f fd ["uses"] An:=by
 refine F.ok Am (fun vs H Q E h=>?_) (fun cdv A outer s H vs Q E hr h=>?_)
 ·obtain⟨a,U,rfl,_⟩:=h;rfl
 ·obtain⟨a,U,rfl,hU,k1,k2⟩:=h;refine⟨_,af (bf ace rfl (aS (pv 0)) (ap (i:=1) Am.nd rfl (Or.inl rfl))
    (ag (bh (bA AN (aB aZ (by rfl) T.len acn (ai (aG aR (pv 1) aq (fun _ _=>rfl)) ac)) aq (b8 _)) (ag (aO (pv 1))) bt)))
   (ag (aO i9)),?_⟩
  obtain⟨vs,hv,hp⟩:=hU;have hlen:vs.length=U.length:=aco hp;refine⟨_,rfl,a,rfl,⟨_,SqL.of hv⟩,bq (K:=K) (a:=a) (xs:=vs)
   (fun i σ H1=>H1=H/\(∃o,σ=[some (.ref a),o])/\∀e∈U.take i,decide (1<e.2.length)=false) ⟨rfl,⟨_,rfl⟩,fun e he=>by cases he⟩ ?_ ?_ ?_⟩
  ·rintro i σ H1 _ ⟨rfl,_⟩;exact SqL.of hv
  ·rintro i x σ H1 hx ⟨rfl,⟨o,rfl⟩,hall⟩;obtain⟨e,he,hu⟩:=ba hp i x hx;obtain⟨t,l,rfl,ht,hl⟩:=id hu;refine⟨_,rfl,t,_,2,_,rfl,rfl,SqT.of ht,au (j:=2) rfl,l,_,rfl,.inl (SqL.of hl),_,_,rfl,rfl,_,rfl,?_⟩
   by_cases q:1<e.2.length
   ·have:decide ((1:Int)<((nV e.2).length:Int))=true:=aci (by rw[pV];omega);show if decide ((1:Int)<((nV e.2).length:Int))=true then _ else _
    rw[this];exact bC ⟨_,rfl,k2 e _ (nv hall he (aci q)) hu⟩
   ·have:decide ((1:Int)<((nV e.2).length:Int))=false:=abX (by rw[pV];omega);show if decide ((1:Int)<((nV e.2).length:Int))=true then _ else _
    rw[this];refine aT ⟨rfl,⟨_,rfl⟩,fun y hy=>?_⟩;rw[acm,he] at hy;rcases ab0.mp hy with hy|hy
    ·exact hall y hy
    ·have:y=e:=by simpa using hy
     rw[this];exact abX q
  ·rintro σ H1 ⟨rfl,⟨o,rfl⟩,hall⟩;rw[hlen,abS] at hall;refine k1 (List.find?_eq_none.mpr fun e he=>?_);rw[hall e he];exact abf
end
def Rep.onT{H H':Hp}{T:Addr}{pos:Pos}{q:Str}(h:bx T pos q H)(s:cz T H H'){v:V}{d:D}(z:Rep H v d):Rep H' v d:=
 z.keep (fun b xs e=>s b _ (h.ne e fun _ z=>by cases z) e) (fun b xs e=>s b _ (h.ne e fun _ z=>by cases z) e)
section
variable {P:Program}{w:World}{K:acX}{mg:Str->Option Value}{base:Heap}
end
end Nw
namespace Nw
open PySem L2
open SL (aj srt InP)
section
variable {P:Program}{w:World}{K:acX}{mg:Str->Option Value}{base:Heap}
end
end Nw
namespace L2
open PySem PySem.W PySem.Spec PyProof.Rows
def my(K:acX):List V->Hp->VK->Prop:=fun xs H Q=>∃p ys,xs=[.ref p]/\(SqL K H p ys\/SqT K H p ys)/\∀l,H l=none->Q (.ref l) (upd H l (.lst ys))
def km{X:Cx}:dB X (.type "list") (my X.K):=oz
section
variable {sel:List (Option Nat)}{g:TG}{tc:TT}{te:TE}{σ:St}{H:Hp}{Q:VK}
end
end L2
namespace Nw
open PySem L2
open SL (aj srt)
structure eG(H:Hp)(D:Addr)(us:List V)(R:List Row):Prop where
 at_:H D=some (.lst us)
 pr:Paired (cU H) us R
 ne:∀v∈us,∃t b l,v=.ref t/\H t=some (.tup [.str l,.ref b])/\b≠D
def eG.nil{H:Hp}{D:Addr}:eG (upd H D (.lst [])) D [] []:=⟨aa,.nil,fun v hv=>(by cases hv)⟩
def eG.mono{H H':Hp}{D:Addr}{us:List V}{R:List Row}(h:eG H D us R)(s:ab H H'):eG H' D us R:=
 ⟨s _ _ h.at_,Paired.bp h.pr fun _ _ q=>q.mono s,fun v hv=>let ⟨t,b,l,e1,e2,e3⟩:=h.ne v hv;⟨t,b,l,e1,s _ _ e2,e3⟩⟩
def eG.snoc{H:Hp}{D t b:Addr}{us:List V}{R:List Row}{l:Str}{ss:List Str}(h:eG H D us R)(ht:H t=some (.tup [.str l,.ref b]))(hb:ao H b ss)(hn:b≠D):eG (upd H D (.lst (us++[.ref t]))) D (us++[.ref t]) (R++[(l,ss)]):=by
 have nt:∀{t':Addr} {xs:List V},H t'=some (.tup xs)->t'≠D:=fun{t' xs} e z=>by rw[z,h.at_] at e;cases e
 refine⟨aa,b7 (sE h.pr fun v r hm ⟨t',b',q1,q2,q3⟩=>⟨t',b',q1,?_,?_⟩) ⟨t,b,rfl,?_,?_⟩,fun v hv=>?_⟩
 ·rw[ad (nt ht)];exact ht
 ·unfold ao;rw[ad hn];exact hb
 ·rcases ab0.mp hv with z|z
  ·obtain⟨t',b',l',e1,e2,e3⟩:=h.ne v z;exact⟨t',b',l',e1,by rw[ad (nt e2)];exact e2,e3⟩
  ·rw[abl.mp z];exact⟨t,b,l,rfl,by rw[ad (nt ht)];exact ht,hn⟩
 ·rw[ad (nt q2)];exact q2
 ·obtain⟨t2,b2,l2,e1,e2,e3⟩:=h.ne v hm;rw[q1] at e1;cases e1;rw[q2] at e2;cases e2;unfold ao;rw[ad e3];exact q3
def eG.rows{H:Hp}{D:Addr}{us:List V}{R:List Row}(h:eG H D us R):aQ H D R:=⟨us,h.at_,h.pr⟩
def wS(ns:List Int)(j k:Nat):∃ms:List Int,dy (ns.map V.int) (some (j:Int)) (some (k:Int))=ms.map V.int/\ms.length<=k - j:=by
 refine⟨(ns.drop (min j ns.length)).take (min k ns.length - min j ns.length),?_,?_⟩
 ·unfold dy;rw[HT.gj,HT.gj,ab3,List.map_take,List.map_drop]
 ·rw[abK];omega
def pW(ns:List Int)(k:Nat):∃ms:List Int,dy (ns.map V.int) none (some (k:Int))=ms.map V.int/\ms.length<=k:=by
 refine⟨ns.take (min k ns.length),?_,?_⟩
 ·unfold dy;rw[HT.iK,HT.gj,ab3,List.drop_zero,Nat.sub_zero,List.map_take]
 ·rw[abK];omega
def pX{R:List Row}(h:Drawn 4 R)(f:Ren):Tight (R.map (aw f)):=by
 obtain⟨more,rfl,hm⟩:=h.sh;obtain⟨U,hU,hUm⟩:=h.sg;refine⟨?_,fun p' hp'=>?_,(U++cN).map (gOf f),?_,fun p' hp' x hx=>?_⟩
 ·rw[ab3,abi];show 3+more.length<=7;omega
 ·obtain⟨p,hp,rfl⟩:=acB.mp hp';have:=h.wd p hp;show(p.2.map (gOf f)).length<=14;rw[ab3];exact this
 ·rw[ab3,abi];show U.length+7<=11;omega
 ·obtain⟨p,hp,rfl⟩:=acB.mp hp';obtain⟨y,hy,rfl⟩:=acB.mp (show x∈p.2.map (gOf f) from hx);exact acB.mpr ⟨y,hUm p hp y hy,rfl⟩
def ny{R:List Row}(h:Drawn 4 R)(f:Ren):eD (R.map (aw f)):=by
 refine⟨cY.map (gOf f),by rw[ab3];decide,fun p' hp'=>?_⟩;obtain⟨p,hp,rfl⟩:=acB.mp hp';exact acB.mpr ⟨p.1,h.lf p hp,rfl⟩
end Nw
namespace Nw
open PySem L2
open SL (aj srt)
def jA:List Str:=["","x","S","A","B","C","First","Then","And","Part","Sab","Tab","Sob","Sat"]
def stu:List Str:=["s","t","u"]
def ib:List Str:=["s","t","u","q"]
def Wj.wT{j:Nat}{w:Str}(a:Wj j w):¬w∈jA/\¬w∈ib:=by
 rcases a with a|⟨z,l,rfl,hl⟩
 ·have:∀w∈bws,¬w∈jA/\¬w∈ib:=by decide +kernel
  exact this w (aaW a)
 ·have key:∀y:Str,(y.cps.toList.head?≠some 113\/y.cps.toList.length<=1)->("q":Str)++z++l≠y:=fun y hy e=>by
   have e:=acN (fun s:Str=>s.cps.toList) e;have e:(("q":Str)++z++l).cps.toList=y.cps.toList:=e;rw[jX,hl] at e;rw[←e] at hy;rcases hy with hy|hy
   ·exact hy rfl
   ·rw[abI,abi,aaH] at hy;omega
  have k2:∀y∈jA++ib,(y.cps.toList.head?≠some 113\/y.cps.toList.length<=1):=by decide +kernel
  exact⟨fun h=>key _ (k2 _ (aaV _ h)) rfl,fun h=>key _ (k2 _ (aaG _ h)) rfl⟩
def Own(b:List Str)(k:Nat)(w:Str):Prop:=w∈b\/∃j,j<k/\Wj j w
def Own.up{b:List Str}{k:Nat}{w:Str}(h:Own b k w):Own b (k+1) w:=h.imp id fun⟨j,h,q⟩=>⟨j,by omega,q⟩
def Own.sub{b b':List Str}{k:Nat}(hb:∀w∈b,w∈b'){w:Str}(h:Own b k w):Own b' k w:=Or.imp (hb w) id h
def i0(n:Nat):List (List Str):=[[],["A"],["B"],["B","x"],["S","x"],["A","x","B"],List.replicate n "x"]
structure Tame(b:List Str)(k:Nat)(R:List Row):Prop where
 nd:R.Nodup
 ro:∀p∈R,p.2=[]\/∃(w:Str) (t:List Str) (n:Nat),p.2=w::t/\Own b k w/\t∈i0 n
 one:∀(n m:Nat) (p q:Row) (w:Str) (t t':List Str),R[n]? =some p->R[m]? =some q->p.2=w::t->q.2=w::t'->n=m
def Tame.own{b:List Str}{k:Nat}{R:List Row}(h:Tame b k R){p:Row}(hp:p∈R){w:Str}{t:List Str}(e:p.2=w::t):Own b k w:=by
 rcases h.ro p hp with z|⟨w',t',n,z,o,_⟩
 ·rw[z] at e;cases e
 ·rw[z] at e;cases e;exact o
def Tame.add{b b':List Str}{k m:Nat}{R:List Row}{p:Row}(h:Tame b k R)(hp:¬p∈R)(up:∀w,Own b k w->Own b' m w)(hw:p.2=[]\/∃(w:Str) (t:List Str) (n:Nat),p.2=w::t/\Own b' m w/\¬Own b k w/\t∈i0 n):Tame b' m (R++[p]) where
 nd:=by
  rw[abA];refine⟨h.nd,ab6.mpr ⟨(fun z=>by cases z),acj⟩,fun x hx y hy e=>?_⟩;rw[abl.mp hy] at e;exact hp (e▸hx)
 ro:=fun q hq=>by
  rcases ab0.mp hq with z|z
  ·rcases h.ro q z with e|⟨w,t,n,e,o,i⟩
   ·exact .inl e
   ·exact .inr ⟨w,t,n,e,up w o,i⟩
  ·rw[abl.mp z];rcases hw with e|⟨w,t,n,e,o,_,i⟩
   ·exact .inl e
   ·exact .inr ⟨w,t,n,e,o,i⟩
 one:=by
  have at_:∀{n:Nat} {q:Row},(R++[p])[n]? =some q->R[n]? =some q\/(n=R.length/\q=p):=fun{n q} e=>by
   by_cases hn:n<R.length
   ·rw[aak hn] at e;exact .inl e
   ·rw[aag (by omega)] at e;have hl:=(aaj.mp e).1;rw[aaH] at hl;have e0:n - R.length=0:=by omega
    rw[e0] at e;exact .inr ⟨by omega,(abY e).symm⟩
  have no:∀{n:Nat} {q:Row} {w:Str} {t t':List Str},R[n]? =some q->q.2=w::t->p.2=w::t'->False:=fun{n q w t t'} e e1 e2=>by
   have o:=h.own (aaW e) e1;rcases hw with z|⟨w',_,_,z,_,no,_⟩
   ·rw[z] at e2;cases e2
   ·rw[z] at e2;cases e2;exact no o
  intro n m q q' w t t' hn hm e e';rcases at_ hn with hn|⟨hn,z⟩
  ·rcases at_ hm with hm|⟨hm,z⟩
   ·exact h.one n m q q' w t t' hn hm e e'
   ·rw[z] at e';exact(no hn e e').elim
  ·rcases at_ hm with hm|⟨hm,_⟩
   ·rw[z] at e;exact(no hm e' e).elim
   ·omega
def Tame.bX{b:List Str}{k:Nat}{R:List Row}(h:Tame b k R):Tame b (k+1) R:=⟨h.nd,fun p hp=>(h.ro p hp).imp id fun⟨w,t,n,e,o,i⟩=>⟨w,t,n,e,o.up,i⟩,h.one⟩
def Tame.toK{b:List Str}{k m:Nat}{R:List Row}(h:Tame b k R)(q:k<=m):Tame b m R:=⟨h.nd,fun p hp=>(h.ro p hp).imp id fun⟨w,t,n,e,o,i⟩=>⟨w,t,n,e,Or.imp id (fun⟨j,z,y⟩=>⟨j,by omega,y⟩) o,i⟩,h.one⟩
def Tame.nil:Tame [] 0 []:=⟨acj,fun p hp=>(by cases hp),fun n m p q w t t' h=>(by cases h)⟩
def mz{b:List Str}{w:Str}(h:¬w∈b):¬Own b 0 w:=fun o=>by
 rcases o with o|⟨j,z,_⟩
 ·exact h o
 ·omega
def A9:Tame stu 0 bF:=by
 have h1:Tame ["s"] 0 ([]++[(("S",["s","A"]):Row)]):=Tame.nil.add (by decide +kernel) (fun w h=>h.sub (by decide +kernel)) (.inr ⟨"s",["A"],0,rfl,.inl (abe ..),mz (by decide +kernel),by decide +kernel⟩);have h2:Tame ["s","t"] 0 (([]++[(("S",["s","A"]):Row)])++[(("A",["t","B"]):Row)]):=h1.add (by decide +kernel) (fun w h=>h.sub (by decide +kernel)) (.inr ⟨"t",["B"],0,rfl,.inl (by decide +kernel),mz (by decide +kernel),by decide +kernel⟩);exact h2.add (by decide +kernel) (fun w h=>h.sub (by decide +kernel)) (.inr ⟨"u",[],0,rfl,.inl (by decide +kernel),mz (by decide +kernel),by decide +kernel⟩)
def Tame.BO{k:Nat}{R:List Row}(h:Tame stu k R):¬((("B",["q","B"]):Row)∈R)/\Tame ib k (R++[(("B",["q","B"]):Row)]):=by
 have no:¬Own stu k "q":=fun o=>by
  rcases o with o|⟨j,_,o⟩
  ·revert o;decide +kernel
  ·exact o.wT.2 (by decide +kernel)
 have hp:¬((("B",["q","B"]):Row)∈R):=fun z=>no (h.own z rfl)
 exact⟨hp,h.add hp (fun w h=>h.sub (by decide +kernel)) (.inr ⟨"q",["B"],0,rfl,.inl (by decide +kernel),no,by decide +kernel⟩)⟩
def pY(w:Str)(n:Nat):List (List Str):=[[],[w],[w,"A"],[w,"B","x"],[w,"S","x"],[w,"A","x","B"],w::List.replicate n "x"]
def wU{w:Str}{n:Nat}{ss:List Str}(h:ss∈pY w n):ss∈chs w n:=aaV (bs:=([["A",w],["B","A"],["t",w],["u"],["A","B",w]]:List (List Str))) h
def wV{w:Str}{n i:Nat}{ss:List Str}(hw:Wj i w)(hn:n<=13)(h:ss∈pY w n):ss=[]\/∃(w:Str) (t:List Str) (n:Nat),ss=w::t/\Own stu (i+1) w/\¬Own stu i w/\t∈i0 n:=by
 have o:Own stu (i+1) w:=.inr ⟨i,by omega,hw⟩;have no:¬Own stu i w:=fun o=>by
  rcases o with o|⟨j,hj,o⟩
  ·exact hw.wT.2 ((by decide +kernel:∀w∈stu,w∈ib) _ o)
  ·have:=o.inj hw;omega
 unfold pY at h;simp only[acq,abO,acP] at h;rcases h with rfl|rfl|rfl|rfl|rfl|rfl|rfl
 ·exact .inl rfl
 all_goals refine .inr ⟨w,_,n,rfl,o,no,?_⟩
 all_goals (unfold i0;simp)
def Ao{i:Nat}{ch:Nat}(h:(Str.ofString "abcde").cps.toList[i]? =some ch):[ch]=[97+i]:=by
 have e:(Str.ofString "abcde").cps.toList=[97,98,99,100,101]:=by decide +kernel
 rw[e] at h;rcases i with _|_|_|_|_|i
 ·cases h;rfl
 ·cases h;rfl
 ·cases h;rfl
 ·cases h;rfl
 ·cases h;rfl
 ·cases h
def kW{f:Ren}(hf:f=[]\/f=dz\/f=dA){w:Str}(h:¬w∈(["S","A","B","C"]:List Str)):gOf f w=w:=by
 have key:∀f:Ren,(∀e∈f,e.1∈(["S","A","B","C"]:List Str))->gOf f w=w:=fun f hk=>by
  unfold gOf;have:f.lookup w=none:=List.lookup_eq_none_iff.mpr fun e he=>by
   have:w≠e.1:=fun z=>h (z▸hk e he)
   simp[this]
  rw[this];rfl
 rcases hf with rfl|rfl|rfl
 ·rfl
 ·exact key _ (by decide +kernel)
 ·exact key _ (by decide +kernel)
def rB{f:Ren}(hf:f=[]\/f=dz\/f=dA):∀x∈[gOf f "S",gOf f "A",gOf f "B"],x∈jA/\x≠"x"/\x≠"":=by
 rcases hf with rfl|rfl|rfl <;> decide +kernel
def eT{R:List Row}:jW R []:=fun pre y post e _=>by cases pre <;> cases e
def cB{R:List Row}{a:Str}{t:List Str}(h:a∈R.map (·.1)->t=[]\/∃t',t=("x":Str)::t')(ht:jW R t):jW R (a::t):=fun pre y post e hy=>by
 cases pre with
 |nil=>cases e;exact h hy
 |cons z pre=>cases e;exact ht pre y post rfl hy
def Own.far{k:Nat}{w:Str}(o:Own ib k w):¬w∈jA:=by
 rcases o with o|⟨j,_,o⟩
 ·have:∀w∈ib,¬w∈jA:=by decide +kernel
  exact this w o
 ·exact o.wT.1
def Tame.q{k:Nat}{R:List Row}(h:Tame stu k R):Tame ib k R:=⟨h.nd,fun p hp=>(h.ro p hp).imp id fun⟨w,t,n,e,o,i⟩=>⟨w,t,n,e,o.sub (by decide +kernel),i⟩,h.one⟩
def Tame.calm{k:Nat}{R:List Row}(h:Tame ib k R)(lf:∀p∈R,p.1∈cY){f:Ren}(hf:f=[]\/f=dz\/f=dA):Calm (R.map (aw f)):=by
 have hs:∀x∈(R.map (aw f)).map (·.1),x∈[gOf f "S",gOf f "A",gOf f "B"]:=fun x hx=>by
  obtain⟨p',hp',rfl⟩:=acB.mp hx;obtain⟨p,hp,rfl⟩:=acB.mp hp';have:=lf p hp;show gOf f p.1∈[gOf f "S",gOf f "A",gOf f "B"];unfold cY at this;simp only[acq,abO,acP] at this ⊢;rcases this with e|e|e
  ·exact .inl (by rw[e])
  ·exact .inr (.inl (by rw[e]))
  ·exact .inr (.inr (by rw[e]))
 have nx:¬("x":Str)∈(R.map (aw f)).map (·.1):=fun z=>(rB hf _ (hs _ z)).2.1 rfl
 have far4:∀w:Str,¬w∈jA->gOf f w=w:=fun w hw=>kW hf fun z=>hw (by
  have:∀w∈(["S","A","B","C"]:List Str),w∈jA:=by decide +kernel
  exact this w z)
 have gx:gOf f "x"="x":=kW hf (by decide +kernel);have rep:∀n,jW (R.map (aw f)) (List.replicate n ("x":Str)):=fun n=>by
  induction n with
  |zero=>exact eT
  |succ n ih=>exact cB (fun z=>absurd z nx) ih
 have tl:∀n,∀t∈i0 n,jW (R.map (aw f)) (t.map (gOf f)):=fun n t ht=>by
  unfold i0 at ht;simp only[acq,abO,acP] at ht;rcases ht with rfl|rfl|rfl|rfl|rfl|rfl|rfl
  ·exact eT
  ·exact cB (fun _=>.inl rfl) eT
  ·exact cB (fun _=>.inl rfl) eT
  ·rw[acr,acr,gx];exact cB (fun _=>.inr ⟨_,rfl⟩) (cB (fun z=>absurd z nx) eT)
  ·rw[acr,acr,gx];exact cB (fun _=>.inr ⟨_,rfl⟩) (cB (fun z=>absurd z nx) eT)
  ·rw[acr,acr,gx];exact cB (fun _=>.inr ⟨_,rfl⟩) (cB (fun z=>absurd z nx) (cB (fun _=>.inl rfl) eT))
  ·rw[List.map_replicate,gx];exact rep n
 have back:∀{p:Row} {w:Str} {t:List Str},p∈R->(aw f p).2=w::t->∃t',p.2=w::t'/\∃n,t'∈i0 n/\t=t'.map (gOf f)/\Own ib k w:=fun{p w t} hp e=>by
  have e:p.2.map (gOf f)=w::t:=e;rcases h.ro p hp with z|⟨w',t',n,z,o,i⟩
  ·rw[z] at e;cases e
  ·rw[z,acr,far4 _ o.far] at e;cases e
   exact⟨t',z,n,i,rfl,o⟩
 have get:∀{n:Nat} {q:Row},(R.map (aw f))[n]? =some q->∃p,R[n]? =some p/\aw f p=q:=fun{n q} e=>by
  rw[abt] at e;cases e1:R[n]? with
  |none=>rw[e1] at e;cases e
  |some p=>rw[e1] at e;exact⟨p,rfl,abY e⟩
 have inj:∀x∈cY,∀y∈cY,gOf f x=gOf f y->x=y:=by
  rcases hf with rfl|rfl|rfl <;> decide +kernel
 have one:∀(n m:Nat) (p q:Row) (w:Str) (t t':List Str),(R.map (aw f))[n]? =some p->(R.map (aw f))[m]? =some q->p.2=w::t->q.2=w::t'->n=m:=fun n m p q w t t' hn hm e e'=>by
  obtain⟨p0,h1,rfl⟩:=get hn;obtain⟨q0,h2,rfl⟩:=get hm;obtain⟨t1,z1,_⟩:=back (aaW h1) e;obtain⟨t2,z2,_⟩:=back (aaW h2) e';exact h.one n m p0 q0 w t1 t2 h1 h2 z1 z2
 refine⟨?_,fun p' hp'=>?_,one,nx⟩
 ·refine aam.mpr fun i j hi hj hij e0=>?_
  have hjl:j<R.length:=by rw[ab3] at hj;exact hj
  have e:(R.map (aw f))[i]? =(R.map (aw f))[j]?:=by rw[aao hi,aao hj,e0]
  have e1:(R.map (aw f))[i]? =some (aw f (R[i]'(by omega))):=by rw[abt,aao (by omega)];rfl
  have e2:(R.map (aw f))[j]? =some (aw f (R[j]'hjl)):=by rw[abt,aao hjl];rfl
  rw[e1,e2] at e;have e:=abY e;have m1:R[i]'(by omega)∈R:=abN _;have m2:R[j]'hjl∈R:=abN _;cases e3:(aw f (R[j]'hjl)).2 with
  |nil=>
   have z2:(R[j]'hjl).2=[]:=List.map_eq_nil_iff.mp e3;have z1:(R[i]'(by omega)).2=[]:=List.map_eq_nil_iff.mp ((acN Prod.snd e).trans e3);have z:R[i]'(by omega)=R[j]'hjl:=Prod.ext (inj _ (lf _ m1) _ (lf _ m2) (acN Prod.fst e)) (z1.trans z2.symm);have:=(List.getElem_inj h.nd).mp z;omega
  |cons w t=>
   have:=one i j _ _ w t t e1 e2 ((acN Prod.snd e).trans e3) e3;omega
 ·obtain⟨p,hp,rfl⟩:=acB.mp hp';cases e3:(aw f p).2 with
  |nil=>exact .inl rfl
  |cons w t=>
   obtain⟨t',_,n,i,rfl,o⟩:=back hp e3;have ho:=o.far;refine .inr ⟨w,_,rfl,fun z=>ho (rB hf _ (hs _ z)).1,fun z=>ho ?_,fun z=>ho ?_,tl n t' i⟩
   ·rw[z];decide +kernel
   ·rw[z];decide +kernel
def kX{R more:List Row}(e:R=bF++more)(lf:∀p∈R,p.1∈cY){f:Ren}(hf:f=[]\/f=dz\/f=dA):bR (R.map (aw f)) (gOf f "S") (gOf f "A") (gOf f "B"):=by
 have G:=xI hf;have hs:∀x∈(R.map (aw f)).map (·.1),x∈[gOf f "S",gOf f "A",gOf f "B"]:=fun x hx=>by
  obtain⟨p',hp',rfl⟩:=acB.mp hx;obtain⟨p,hp,rfl⟩:=acB.mp hp';have:=lf p hp;show gOf f p.1∈[gOf f "S",gOf f "A",gOf f "B"];unfold cY at this;simp only[acq,abO,acP] at this ⊢;rcases this with e|e|e
  ·exact .inl (by rw[e])
  ·exact .inr (.inl (by rw[e]))
  ·exact .inr (.inr (by rw[e]))
 have nd:=G.nd;simp only[ab6,acq,abO,acP,not_or] at nd;have hm:R.map (aw f)=[(gOf f "S",[gOf f "s",gOf f "A"]),(gOf f "A",[gOf f "t",gOf f "B"]),(gOf f "B",[gOf f "u"])]++more.map (aw f):=by
  rw[e,ab9];rfl
 rw[G.s,G.t,G.u] at hm;refine⟨by rw[hm];rfl,by rw[hm];rfl,by rw[hm];rfl,fun x hx=>?_,nd.1.1,nd.1.2,nd.2.1,fun z=>G.ns (hs _ z),fun z=>G.nt (hs _ z),fun z=>G.nu (hs _ z)⟩;have:=hs x hx;simp only[acq,abO,acP] at this;exact this
def pZ:Sp:=fun vs H Q _=>∃(a:Addr) (ns:List Int),vs=[.ref a,.bl false]/\H a=some (.lst (ns.map V.int))/\ns.length<=4/\∀q R H',ab H H'->H q=none->aQ H' q R->Drawn ns.length R->Tame stu ns.length R->Q (.ref q) H'
section
variable {P:Program}{w:World}{K:acX}{mg:Str->Option Value}{base:Heap}
def vg{f:Addr}{fd:FuncData}(F:Fun K "_law_drawn_rows" "_law_drawn_rows" js f fd)(T:Txt mg)(D1:Def P w K mg base "_law_any_word" 1 ["_law_cell"] xG):aM P w K mg base CX0 2 f fd ["_law_cells","_law_wild"] pZ:=by
 refine F.ok dY (fun vs H Q E h=>?_) (fun cdv A outer s H vs Q E hr h=>?_)
 ·obtain⟨a,ns,rfl,_⟩:=h;rfl
 ·obtain⟨a,ns,rfl,hA,hl4,k⟩:=h;have hu1:(A.deeper (PyProof.Rows.envOfC "_law_drawn_rows" (am js) s.heap.objs.size f cdv)).in1.units<cLine:=bO hr;have hu2:(A.deeper (PyProof.Rows.envOfC "_law_drawn_rows" (am js) s.heap.objs.size f cdv)).in1.in1.units<cLine:=abk (Nat.add_le_add_left (by decide:2<=64) _) hr.units;refine exI ⟨_,bL (dH (i:=2) dY.nd rfl (Or.inl rfl) (bI (aI (jt (aI aF (aI (bI (aI aF (aI aF aW))) aW)))
    (aI (jt (aI aF (aI (bI (aI aF (aI aF aW))) aW))) (aI (jt (aI aF (aI (bI (aI aF aW)) aW))) aW)))))
   (cF (uI ace rfl (gM (by rfl) T.rng (ai (aB aZ (by rfl) T.len acn (ai (pv 0) ac)) ac)) (ap (i:=3) dY.nd rfl (Or.inl rfl))
    (cF (dH (i:=4) dY.nd rfl (Or.inl rfl) (fM (r:=fB K) a0 (bI (aI aF (aI aF (aI aF (aI aF (aI aF aW)))))) (dc dm (iv 3) eC) (fun _ _=>rfl)))
    (bL (sC (qO nU (dc dm (fM (r:=fB K) a0 (iv 0) (iv 3) (fun _ _=>rfl)) eC) eC (b8 _))
     (dZ (dH (i:=4) dY.nd rfl (Or.inl rfl) (dc iI (dc iI aF (zS D1 hr (by rfl) (aI (dc jJ (fM (r:=fB K) a0 (iv 0) (iv 3) (fun _ _=>rfl)) eC) aW))) (fM (r:=rU) ot aF (dc dm (iv 3) eC) (fun _ _=>rfl)))))
     mr)
    (cF (dH (i:=5) dY.nd rfl (Or.inl rfl) (fM (r:=fB K) a0 (bI (aI aF (aI aF (aI aF aW)))) (dc dm (fM (r:=fB K) a0 (iv 0) (iv 3) (fun _ _=>rfl)) eC) (fun _ _=>rfl)))
    (bL (dH (i:=6) dY.nd rfl (Or.inl rfl) (bI (aI (bI aW) (aI (bI (aI (iv 4) aW)) (aI (bI (aI (iv 4) (aI aF aW))) (aI (bI (aI (iv 4) (aI aF (aI aF aW))))
     (aI (bI (aI (iv 4) (aI aF (aI aF aW)))) aW)))))))
    (bL (iA (lC aay aas aat aY (iv 6) (aI (bI (aI (iv 4) (aI aF (aI aF (aI aF aW))))) aW)))
    (bL (iA (lC aay aas aat aY (iv 6) (aI (dc ij (bI (aI (iv 4) aW)) (dc zu (bI (aI aF aW))
     (dc dm (dc jJ (fM (r:=fB K) a0 (iv 0) (iv 3) (fun _ _=>rfl)) eC) eC))) aW)))
    (bL (sC (zR (iv 1))
     (bL (dH (i:=6) dY.nd rfl (Or.inl rfl) (dc ij (iv 6) (bI (aI (bI (aI aF (aI (iv 4) aW))) (aI (bI (aI aF (aI aF aW)))
      (aI (bI (aI aF (aI (iv 4) aW))) (aI (bI (aI aF aW)) aW)))))))
     (dZ (iA (lC aay aas aat aY (iv 6) (aI (bI (aI aF (aI aF (aI (iv 4) aW)))) aW)))))
     mr)
    (bL (dH (i:=7) dY.nd rfl (Or.inl rfl) (jt (aI (iv 5) (aI (fM (r:=fB K) a0 (iv 6) (dc dm (dc jJ (fM (r:=fB K) a0 (iv 0) (iv 3) (fun _ _=>rfl)) eC)
     (wo aZ (by rfl) T.len acn (aI (iv 6) aW))) (fun _ _=>rfl)) aW))))
    (dZ (sC (qO (oY hu1 hu2) (iv 7) (iv 2) (by with_unfolding_all rfl))
     (dZ (iA (lC aay aas aat aY (iv 2) (aI (iv 7) aW)))) mr)))))))))))
   (dZ (uH (iv 2)))),?_⟩
  refine⟨fun σ H1=>∃ar vs,σ=[some (.ref a),some (.bl false),some (.ref ar),none,none,none,none,none]/\H ar=none/\ab H H1/\H1 ar=some (.lst vs)/\Paired (cU H1) vs bF,?_,?_⟩
  ·refine⟨acU,fun b1 hb1=>⟨acU,fun t1 ht1=>⟨acU,fun b2 hb2=>⟨acU,fun t2 ht2=>
    ⟨acT,fun b3 hb3=>⟨acU,fun t3 ht3=>⟨acV,fun ar har=>?_⟩⟩⟩⟩⟩⟩⟩
   have s1:=ab.upd (o:=HO.lst [V.str "s",V.str "A"]) hb1;have s2:=ab.upd (o:=HO.tup [V.str "S",V.ref b1]) ht1;have s3:=ab.upd (o:=HO.lst [V.str "t",V.str "B"]) hb2;have s4:=ab.upd (o:=HO.tup [V.str "A",V.ref b2]) ht2;have s5:=ab.upd (o:=HO.lst [V.str "u"]) hb3;have s6:=ab.upd (o:=HO.tup [V.str "B",V.ref b3]) ht3;have s7:=ab.upd (o:=HO.lst [V.ref t1,V.ref t2,V.ref t3]) har;have s67:=s6.trans s7;have s57:=s5.trans s67;have s47:=s4.trans s57;have s37:=s3.trans s47;have s27:=s2.trans s37;refine⟨ar,[V.ref t1,V.ref t2,V.ref t3],rfl,((((((s1.trans s2).trans s3).trans s4).trans s5).trans s6)).free har,s1.trans s27,aa,?_⟩;exact .cons ⟨t1,b1,rfl,s37 _ _ aa,s27 _ _ aa⟩ (.cons ⟨t2,b2,rfl,s57 _ _ aa,s47 _ _ aa⟩ (.cons ⟨t3,b3,rfl,s7 _ _ aa,s67 _ _ aa⟩ .nil))
  ·rintro σ H1 ⟨ar,vs0,rfl,har,s1,hv0,hp0⟩;refine⟨_,rfl,a,_,rfl,.inl (SqL.of (s1 _ _ hA)),_,rfl,?_,?_,jb (n:=(((ns.map V.int).length:Nat):Int).toNat)
    (fun i σ H2=>∃vs R o3 o4 o5 o6 o7,σ=[some (.ref a),some (.bl false),some (.ref ar),o3,o4,o5,o6,o7]/\ab H H2/\H2 ar=some (.lst vs)/\Paired (cU H2) vs R/\Drawn i R/\Tame stu i R)
    ⟨vs0,bF,_,_,_,_,_,rfl,s1,hv0,hp0,zO,A9⟩ ?_ ?_⟩
   ·rw[ab3];omega
   ·rw[ab3];omega
   ·rintro i σ H2 hi ⟨vs,R,o3,o4,o5,o6,o7,rfl,s2,hv2,hp2,dr,tm⟩;have hi:i<ns.length:=by rw[ab3] at hi;simpa using hi
    have hA2:=s2 _ _ hA;generalize hc:ns[i]'hi=c;have hat:atI (ns.map V.int) ((0:Int)+(i:Int))=some (.int c):=by rw[kH,←hc];exact au (ints_get hi)
    have cell:∀{H3:Hp} {Q:VK},ab H2 H3->Q (.int c) H3->fB K (.ref a) (.int (0+(i:Int))) H3 Q:=fun{H3 Q} s q=>⟨a,_,_,_,rfl,rfl,SqL.of (s _ _ hA2),hat,q⟩
    refine⟨(show 5<=sizeLine by decide),fun p0 hp0=>?_⟩;obtain⟨j0,w0,hw0,ej0,hat0⟩:=gF (xs:=[V.str "a",V.str "Q",V.str "st",V.str "d",V.str "e"]) (n:=5) (by decide) (by decide) (0+(i:Int));have ej0:j0=i:=by omega
    obtain⟨ws0,rfl,hws0⟩:∃z,w0=V.str z/\Wj i z:=by
     rw[ej0] at hw0;have hw0:(bws.map V.str)[i]? =some w0:=hw0;rw[abt] at hw0;cases e:bws[i]? with
     |none=>rw[e] at hw0;cases hw0
     |some z=>rw[e] at hw0;cases hw0;exact⟨z,rfl,.inl e⟩
    have sp0:=ab.upd (o:=HO.lst [V.str "a",V.str "Q",V.str "st",V.str "d",V.str "e"]) hp0;refine⟨_,rfl,_,_,rfl,rfl,(show(0:Int)<5 by decide),p0,_,_,_,rfl,rfl,SqL.of aa,hat0,?_⟩;refine⟨fun σ H3=>∃z:Str,σ=[some (.ref a),some (.bl false),some (.ref ar),some (.int (0+(i:Int))),some (.str z),o5,o6,o7]/\ab H2 H3/\Wj i z,?_,?_⟩
    ·refine⟨_,rfl,_,rfl,cell sp0 ⟨_,_,rfl,rfl,(show(0:Int)<7 by decide),rfl,_,rfl,?_⟩⟩;refine zA (fun _=>?_) fun _=>⟨ws0,rfl,sp0,hws0⟩
     refine⟨_,rfl,_,rfl,cell sp0 ⟨_,_,rfl,rfl,⟨by decide,by decide⟩,_,rfl,fun z hz=>?_⟩⟩;obtain⟨j1,ch,hch,ej1,hat1⟩:=gF (xs:=(Str.ofString "abcde").cps.toList) (n:=5) (by decide +kernel) (by decide) (0+(i:Int));have ej1:j1=i:=by omega
     rw[ej1] at hch;refine⟨_,_,rfl,rfl,?_,_,rfl,_,_,rfl,rfl,(show(0:Int)<5 by decide),_,_,ch,rfl,rfl,by decide +kernel,hat1,_,_,rfl,rfl,?_,⟨_,rfl,sp0,.inr ⟨z,_,rfl,Ao hch⟩⟩⟩
     ·show 1+z.length<=_;exact cS (by omega)
     ·rw[kh];show 1+z.length+1<=_;exact cS (by omega)
    ·rintro σ H3 ⟨z,rfl,s3,hz0⟩;refine⟨acV,fun p1 hp1=>?_⟩;obtain⟨_,l0,hl0,_,hat2⟩:=gF (xs:=[V.str "S",V.str "A",V.str "B"]) (n:=3) (by decide) (by decide) c;obtain⟨l,rfl,hl⟩:∃l,l0=V.str l/\l∈cY:=by
      have hm:=aaW hl0;simp only[acq,abO,acP] at hm;rcases hm with rfl|rfl|rfl
      ·exact⟨_,rfl,by decide +kernel⟩
      ·exact⟨_,rfl,by decide +kernel⟩
      ·exact⟨_,rfl,by decide +kernel⟩
     have sp1:=s3.trans (ab.upd (o:=HO.lst [V.str "S",V.str "A",V.str "B"]) hp1);refine⟨_,rfl,_,rfl,cell sp1 ⟨_,_,rfl,rfl,(show(0:Int)<3 by decide),p1,_,_,_,rfl,rfl,SqL.of aa,hat2,?_⟩⟩;refine⟨fun σ H4=>∃r,σ=[some (.ref a),some (.bl false),some (.ref ar),some (.int (0+(i:Int))),some (.str z),some (.str l),some (.ref r),o7]/\ab H2 H4/\Chs H2 H4 r [[],[z],[z,"A"],[z,"B","x"],[z,"S","x"]],?_,?_⟩
     ·generalize upd H3 p1 (HO.lst [V.str "S",V.str "A",V.str "B"])=H4 at sp1;refine⟨(show 0<=sizeLine by decide),fun b1 hb1=>⟨_,rfl,acT,fun b2 hb2=>⟨_,rfl,acU,fun b3 hb3=>⟨_,rfl,acV,fun b4 hb4=>⟨_,rfl,acV,fun b5 hb5=>
       ⟨(show 5<=sizeLine by decide),fun r hr0=>?_⟩⟩⟩⟩⟩⟩
      have t1:=ab.upd (o:=HO.lst []) hb1;have t2:=ab.upd (o:=HO.lst [V.str z]) hb2;have t3:=ab.upd (o:=HO.lst [V.str z,V.str "A"]) hb3;have t4:=ab.upd (o:=HO.lst [V.str z,V.str "B",V.str "x"]) hb4;have t5:=ab.upd (o:=HO.lst [V.str z,V.str "S",V.str "x"]) hb5;have u1:=sp1.trans t1;have u2:=u1.trans t2;have u3:=u2.trans t3;have u4:=u3.trans t4;have u5:=u4.trans t5;refine⟨r,rfl,u5.trans (ab.upd hr0),Chs.mk u5 ?_ hr0⟩;exact .cons ((e7.mk sp1 hb1 [] rfl).mono (((t2.trans t3).trans t4).trans t5)) (.cons ((e7.mk u1 hb2 [z] rfl).mono ((t3.trans t4).trans t5)) (.cons ((e7.mk u2 hb3 [z,"A"] rfl).mono (t4.trans t5))
       (.cons ((e7.mk u3 hb4 [z,"B","x"] rfl).mono t5) (.cons (e7.mk u4 hb5 [z,"S","x"] rfl) .nil))))
     ·rintro σ H4 ⟨r,rfl,s4,ch4⟩;refine⟨fun σ H5=>σ=[some (.ref a),some (.bl false),some (.ref ar),some (.int (0+(i:Int))),some (.str z),some (.str l),some (.ref r),o7]/\ab H2 H5/\Chs H2 H5 r [[],[z],[z,"A"],[z,"B","x"],[z,"S","x"],[z,"A","x","B"]],?_,?_⟩
      ·obtain⟨vr,hvr,_,hr2⟩:=id ch4;refine⟨_,rfl,.inl ⟨rfl,_,SqL.of hvr⟩,_,rfl,(show 4<=sizeLine by decide),fun p hp=>?_⟩;have t:=ab.upd (o:=HO.lst [V.str z,V.str "A",V.str "x",V.str "B"]) hp;obtain⟨vr',h1,h2,h3⟩:=(ch4.mono t).app (p:=p) (ss:=[z,"A","x","B"]) aa (s4.free hp) (acQ (av hvr hp));exact⟨r,_,_,rfl,rfl,h1,by rw[h2];exact az (show 5<=1000 by decide),rfl,(s4.trans t).bG hr2,h3⟩
      ·rintro σ H5 ⟨rfl,s5,ch5⟩;clear ch4 s4 H4;obtain⟨n,hn,hn13⟩:∃n:Nat,c / 49 % 14=(n:Int)/\n<=13:=by
        have h1:=Int.emod_nonneg (c / 49) (show(14:Int)≠0 by decide);have h2:=Int.emod_lt_of_pos (c / 49) (show(0:Int)<14 by decide);obtain⟨n,hn⟩:=Int.eq_ofNat_of_zero_le h1;exact⟨n,hn,by omega⟩
       refine⟨fun σ H6=>σ=[some (.ref a),some (.bl false),some (.ref ar),some (.int (0+(i:Int))),some (.str z),some (.str l),some (.ref r),o7]/\ab H2 H6/\Chs H2 H6 r [[],[z],[z,"A"],[z,"B","x"],[z,"S","x"],[z,"A","x","B"],z::List.replicate n "x"],?_,?_⟩
       ·obtain⟨vr,hvr,_,hr2⟩:=id ch5;refine⟨_,rfl,.inl ⟨rfl,_,SqL.of hvr⟩,_,rfl,acT,fun b1 hb1=>⟨acT,fun b2 hb2=>?_⟩⟩;have t1:=ab.upd (o:=HO.lst [V.str z]) hb1;have t2:=ab.upd (o:=HO.lst [V.str "x"]) hb2;refine⟨_,rfl,_,rfl,cell ((s5.trans t1).trans t2) ⟨_,_,rfl,rfl,⟨by decide,by decide⟩,_,_,rfl,rfl,(show(0:Int)<14 by decide),b2,(n:Int),[V.str "x"],rfl,acN V.int hn,aa,by omega,by omega,cS (by rw[abu,aaH];omega),?_⟩⟩;rw[abu,qR];intro b3 hb3;have t3:=ab.upd (o:=HO.lst ((List.replicate n ("x":Str)).map V.str)) hb3;refine⟨b1,b3,_,_,rfl,rfl,t3 _ _ (t2 _ _ aa),aa,?_,fun b4 hb4=>?_⟩
        ·show 1+_<=_;rw[ab3,List.length_replicate];exact cS (by omega)
        have t4:=ab.upd (o:=HO.lst ([V.str z]++(List.replicate n ("x":Str)).map V.str)) hb4;have u:=((t1.trans t2).trans t3);obtain⟨vr',h1,h2,h3⟩:=(ch5.mono (u.trans t4)).app (p:=b4) (ss:=z::List.replicate n "x") aa ((s5.trans u).free hb4) (acQ (av (u _ _ hvr) hb4));exact⟨r,_,_,rfl,rfl,h1,by rw[h2];exact az (show 6<=1000 by decide),rfl,(s5.trans (u.trans t4)).bG hr2,h3⟩
       ·rintro σ H6 ⟨rfl,s6,ch6⟩;clear ch5 s5 H5;refine⟨fun σ H7=>∃r,σ=[some (.ref a),some (.bl false),some (.ref ar),some (.int (0+(i:Int))),some (.str z),some (.str l),some (.ref r),o7]/\ab H2 H7/\∃L,Chs H2 H7 r L/\L≠[]/\∀ss∈L,ss∈pY z n,?_,?_⟩
        ·refine⟨_,rfl,_,rfl,?_⟩;exact aT ⟨r,rfl,s6,_,ch6,(fun e=>by cases e),fun ss hs=>hs⟩
        ·rintro σ H7 ⟨r',rfl,s7,L,ch7,hLne,hLin⟩;clear ch6 s6 H6;refine⟨fun σ H8=>∃t b ss,σ=[some (.ref a),some (.bl false),some (.ref ar),some (.int (0+(i:Int))),some (.str z),some (.str l),some (.ref r'),some (.ref t)]/\ab H2 H8/\H8 t=some (.tup [.str l,.ref b])/\ao H8 b ss/\H2 t=none/\H2 b=none/\ss∈pY z n,?_,?_⟩
         ·obtain⟨vr,hvr,hpr,hr2⟩:=id ch7;have hlr:0<vr.length:=by rw[aco hpr];exact List.length_pos_iff.mpr hLne
          obtain⟨j,vj,hj,_,hatj⟩:=gF (xs:=vr) (n:=(vr.length:Int)) rfl (by omega) (c / 3);obtain⟨ss,hss,b,rfl,hb,hb0,_⟩:=ba hpr j vj hj;refine⟨_,rfl,_,rfl,_,rfl,_,rfl,cell s7 ⟨_,_,rfl,rfl,⟨by decide,by decide⟩,_,rfl,r',vr,rfl,.inl (SqL.of hvr),_,_,rfl,rfl,(show(0:Int)<(vr.length:Int) by omega),r',vr,_,_,rfl,rfl,SqL.of hvr,hatj,acU,fun t ht=>?_⟩⟩;have st:=ab.upd (o:=HO.tup [V.str l,V.ref b]) ht;exact⟨t,b,ss,rfl,s7.trans st,aa,st _ _ hb,s7.free ht,hb0,hLin _ (aaW hss)⟩
         ·rintro σ H8 ⟨t,b,ss,rfl,s8,ht8,hb8,ht0,hb0,hss⟩;have hv8:=s8 _ _ hv2;have hp8:Paired (cU H8) vs R:=Paired.bp hp2 fun _ _ q=>q.mono s8
          obtain⟨hs14,hsg⟩:=zQ z hn13 ss (wU hss);have hRne:R≠[]:=by
           obtain⟨m,e,_⟩:=dr.sh;rw[e];intro q;cases q
          have fresh:∀v∈vs,∀t' b' l',v=.ref t'->H8 t'=some (.tup [.str l',.ref b'])->t'≠t/\b'≠b:=fun v hv t' b' l' e1 e2=>by
           obtain⟨ix,hix⟩:=aaN.mp hv;obtain⟨p,_,t2,b2,e3,q1,q2⟩:=ba hp2 ix v hix;rw[e1] at e3;cases e3
           have q3:=s8 _ _ q1;rw[e2] at q3;cases q3
           exact⟨av q1 ht0,av q2 hb0⟩
          refine⟨_,rfl,_,rfl,t,b,ar,(l,ss),R,rfl,rfl,ht8,hb8,⟨vs,hv8,hp8,fresh⟩,_,rfl,?_⟩
          by_cases hin:(l,ss)∈R
          ·rw[aci hin];exact aT ⟨vs,R,_,_,_,_,_,rfl,s2.trans s8,hv8,hp8,dr.bX,tm.bX⟩
          ·rw[abX hin];have hlen:vs.length<=20:=by
            have h1:=aco hp2;obtain⟨m,e,hm⟩:=dr.sh;have:R.length=3+m.length:=by rw[e,abi];rfl
            omega
           refine bC ⟨_,rfl,.inl ⟨rfl,_,SqL.of hv8⟩,_,rfl,ar,_,_,rfl,rfl,hv8,az (by omega),vs++[V.ref t],R++[(l,ss)],_,_,_,_,_,rfl,(s2.trans s8).bG har,aa,?_,dr.add hl hs14 hsg hz0.far.1,tm.add hin (fun w h=>h.up) (wV hz0 hn13 hss)⟩;have nt:∀{t':Addr} {xs:List V},H8 t'=some (.tup xs)->t'≠ar:=fun{t' xs} e q=>by rw[q,hv8] at e;cases e
           have nb:∀{b':Addr} {rs:List Str},ao H8 b' rs->b'≠ar:=fun{b' rs} e=>qN hp8 hRne hv8 e
           refine b7 (Paired.bp hp8 fun _ _ ⟨t',b',q1,q2,q3⟩=>⟨t',b',q1,?_,?_⟩) ⟨t,b,rfl,?_,?_⟩
           ·rw[ad (nt ht8)];exact ht8
           ·unfold ao;rw[ad (nb hb8)];exact hb8
           ·rw[ad (nt q2)];exact q2
           ·unfold ao;rw[ad (nb q3)];exact q3
   ·rintro σ H2 ⟨vs,R,o3,o4,o5,o6,o7,rfl,s2,hv2,hp2,dr,tm⟩;rw[ab3,abu] at dr tm;exact⟨_,rfl,k ar R H2 s2 har ⟨vs,hv2,hp2⟩ dr tm⟩
end
end Nw
namespace L2
open PySem PySem.Spec PyProof.Rows
open SL (dJ kO kP kN)
def mC(o:Obj)(d:Addr)(kvs:List (List Key×V)):It:=
 ⟨fun i H=>H d=some (.frz o (.dT kvs))/\i<kvs.length,fun i H x H'=>H'=H/\∃k v a,kvs[i]? =some (k,v)/\x=.ref a/\H a=some (.tup (k.map kV)),fun i H=>H d=some (.frz o (.dT kvs))/\kvs.length<=i⟩
def sY{P:Program}{w:World}{K:acX}{tg:Expr}(d it:Addr)(o:Obj)(kvs:List (List Key×V))(n ep:Nat)(hn:n=kvs.length)(hep:∃es,o.data=.dict es ep):Turn P w K tg (mC o d kvs) [it] it (fun i h=>h.IsKeyIter it d i n ep) where
 mem:=by simp
 obj:=fun i h st b hb=>by
  have e:b=it:=by simpa using hb
  subst e;obtain⟨o',ho,hc,hd⟩:=st;exact⟨o',ho,fun v z=>by rw[hd] at z;cases z⟩
 keep:=fun i h h' st k=>by
  obtain⟨o',ho,r⟩:=st;exact⟨o',k it (by simp) o' ho,r⟩
 item:=by
  intro X hP hw hK hc i pins s σ H E I f st go;subst hP;subst hw;subst hK;obtain⟨e,hi⟩:=go;obtain⟨ho,ob⟩:=I.hok d _ e;obtain⟨z,y,xs,r,o2,es,ep2,h1,h2,h3,h4,h5⟩:=ob;rw[ho] at h1;cases h1;obtain⟨es',hes⟩:=hep;rw[hes] at h3;injection h3 with h3 h3';subst h3 h3';have r:KT H kvs xs:=r;have hlen:=r.len;have hsz:es'.size=xs.length:=by
   have:=acN List.length h4;rw[ab3,aa2] at this;exact this
  have hn':n=es'.size:=by rw[hn,hsz,hlen]
  subst hn';have hi':i<es'.size:=by omega
  obtain⟨xx,hxx⟩:∃xx,xs[i]? =some xx:=⟨xs[i],aao (by omega)⟩;obtain⟨v,hkv,hH⟩:=r.get i xx hxx;have hkey:es'[i].key=Value.ref xx.2.1:=by
   have e1:es'.toList[i]? =some es'[i]:=by rw[aaI,aal hi']
   rw[h4,abt,hxx] at e1;injection e1 with e1;rw[←e1];rfl
  have hf:=f it (by simp);refine kO st ⟨o,ho,h2,hes⟩ hi' fun h' st' hs=>?_
  rw[hkey];obtain⟨oi,hoi,hci,hdi⟩:=id st';refine⟨_,rfl,lb (n:="dict_keyiterator") hoi hci hdi (by decide) ?_⟩;exact⟨.ref xx.2.1,H,I.turned (t':=s.toks) (fun b o hb e=>hs.extBut b o hb e) hf.1 hf.2.1 hf.2.2.2.1 hf.2.2.2.2.1 hf.2.2.2.2.2,rfl,⟨rfl,xx.1,v,xx.2.1,hkv,rfl,hH⟩,st',fun b hb=>by
   have e:b=it:=by simpa using hb
   subst e;exact hf.1⟩
 done:=by
  intro X hP hw hK hc i pins s σ H E I f st stop;subst hP;subst hw;subst hK;obtain⟨e,hi⟩:=stop;obtain⟨ho,ob⟩:=I.hok d _ e;obtain⟨z,y,xs,r,o2,es,ep2,h1,h2,h3,h4,h5⟩:=ob;rw[ho] at h1;cases h1;obtain⟨es',hes⟩:=hep;rw[hes] at h3;injection h3 with h3 h3';subst h3 h3';have r:KT H kvs xs:=r;have hlen:=r.len;have hsz:es'.size=xs.length:=by
   have:=acN List.length h4;rw[ab3,aa2] at this;exact this
  have hn':n=es'.size:=by rw[hn,hsz,hlen]
  subst hn';have hf:=f it (by simp);refine kP (I.ok.hd hc) st ⟨o,ho,h2,hes⟩ (by omega) fun h' hs=>?_
  exact⟨rfl,I.turned (t':=s.toks) (fun b o hb e=>hs b o hb e) hf.1 hf.2.1 hf.2.2.2.1 hf.2.2.2.2.1 hf.2.2.2.2.2⟩
 self:=fun A i s Q E st h=>wpAny_pyIter_keyiter st h
def Ap(tl:TE):TI:=fun σ H R=>tl σ H fun x H1=>∃d kvs,x=.ref d/\H1 d=some (.dT kvs)/\∀o,R (mC o d kvs) (upd H1 d (.frz o (.dT kvs)))
section
variable {X:Cx}{tg:Expr}
def Inv.yO{pins:List (Addr×Obj)}{σ:St}{H:Hp}{s:Shared}{d:Addr}{kvs:List (List Key×V)}{o:Obj}(I:Inv X pins σ H s)(e:H d=some (.dT kvs))(ho:s.heap.get? d=some o):Inv X pins σ (upd H d (.frz o (.dT kvs))) s:=by
 have mu:Mut (H d):=by rw[e];trivial
 have hok:HOk X.prog X.w (upd H d (.frz o (.dT kvs))) s.heap:=I.hok.write mu (.inl rfl) (fun _ _ _ q=>q) ⟨o,ho⟩ ⟨ho,(I.hok d _ e).bX (fun _ _ _ q=>q) (fun b q=>by
   rw[ad (fun z=>by rw[z,e] at q;cases q)];exact q) fun b xs q=>by rw[ad (fun z=>by rw[z,e] at q;cases q)];exact q⟩
 have:=I.un (t':=s.toks) (h':=s.heap) (H':=upd H d (.frz o (.dT kvs))) (Un.write mu (.inl rfl) (fun _ _ _ q=>q) ⟨o,ho⟩) hok;exact this
def wW{l:Expr}{tl:TE}(hl:PE X l tl):PI X tg l (Ap tl):=by
 intro pins s σ H R I h;refine thn (hl pins s σ H _ I h) fun v s1 ⟨x,H1,I1,r1,q1⟩=>?_
 obtain⟨d,kvs,rfl,hd,q⟩:=q1;cases r1
 obtain⟨lo,hz,xs,es,ep,kt,raw,hk,nd⟩:=I1.wB hd;obtain⟨o,ho,h2,h3⟩:=id raw;have hes:es.size=kvs.length:=by
  have:=acN List.length hk;rw[ab3,ab3,aa2] at this;rw[this,kt.len]
 refine kN lo raw ?_;have I2:=I1.yO hd ho;have I3:Inv X pins σ (upd H1 d (.frz o (.dT kvs))) {s1 with heap:=s1.heap.push {cls:=.type "dict_keyiterator",data:=.fields #[.ref d,.int 0 0,.int es.size 0,.int ep 0]}}:=I2.kept (t':=s1.toks) fun b o e=>aaz _ e
 refine⟨s1.heap.objs.size,[s1.heap.objs.size],_,mC o d kvs,_,rfl,I3,sY d s1.heap.objs.size o kvs es.size ep hes ⟨es,h3⟩,⟨_,aa3 _ rfl,rfl,rfl⟩,fun b hb=>?_,q o⟩;have e:b=s1.heap.objs.size:=by simpa using hb
 subst e;exact I2.fY (acH _) I2.fresh
def vh{o:Obj}{d:Addr}{kvs:List (List Key×V)}{g:TG}{tb:TS}{D:Ends}{σ:St}{H:Hp}(Pv:Nat->St->Hp->Prop)(h0:Pv 0 σ H)(hl:∀i σ H,Pv i σ H->H d=some (.frz o (.dT kvs)))
  (hs:∀i k v a σ H,kvs[i]? =some (k,v)->H a=some (.tup (k.map kV))->Pv i σ H->g (.ref a) σ H fun σ2 H2=>tb {D with nx:=Pv (i+1),ct:=Pv (i+1),bk:=D.nx} σ2 H2)(hd:∀σ H,Pv kvs.length σ H->D.nx σ H) :
  ∃W:Nat->Nat->St->Hp->Prop,(∃m,W 0 m σ H)/\∀i m σ H,W i m σ H->
   ((mC o d kvs).stop i H/\D.nx σ H)\/((mC o d kvs).go i H/\∃N:St->Hp->Prop,(∀σ' H',N σ' H'->∃m',m'<m/\W (i+1) m' σ' H')/\∀x H',(mC o d kvs).yld i H x H'->g x σ H' fun σ2 H2=>tb {D with nx:=N,ct:=N,bk:=D.nx} σ2 H2):=by
 refine⟨fun i m σ H=>Pv i σ H/\i<=kvs.length/\m=kvs.length - i,⟨_,h0,acI _,rfl⟩,fun i m σ H ⟨p,hi,hm⟩=>?_⟩;rcases acE i kvs.length with hlt|hge
 ·refine .inr ⟨⟨hl i σ H p,hlt⟩,Pv (i+1),fun σ' H' n=>⟨kvs.length - (i+1),by omega,n,hlt,rfl⟩,fun x H' y=>?_⟩;obtain⟨rfl,k,v,a,e,rfl,ha⟩:=y;exact hs i k v a σ _ e ha p
 ·have e:i=kvs.length:=by omega
  subst e;exact .inl ⟨⟨hl _ σ H p,acH _⟩,hd σ H p⟩
end
section
variable {sel:List (Option Nat)}{g:TG}{tc:TT}{te:TE}{σ:St}{H:Hp}{Q:VK}
def vm{K:acX}{a D:Addr}{xs:List V}(Pv:Nat->St->Hp->Prop)(h0:Pv 0 (dP sel σ) (upd H D (.lst [])))
  (hl:∀i τ H1,Pv i τ H1->SqL K H1 a xs)
  (hs:∀i x t τ H1,xs[i]? =some x->Pv i τ H1->H1 t=none->g (.ref t) τ (upd H1 t (.tup [.int i,x])) fun τ2 H4=>tc τ2 H4 fun b H5=>if b=true then te τ2 H5 fun y H6=>∃ys,H6 D=some (.lst ys)/\ys.length<sizeLine/\Pv (i+1) τ2 (upd H6 D (.lst (ys++[y]))) else Pv (i+1) τ2 H5)
  (hd:∀τ H1,Pv xs.length τ H1->Q (.ref D) H1) :
  gP sel (Ite K a) D g tc te σ H Q:=by
 refine⟨fun i m τ H1=>Pv i τ H1/\i<=xs.length/\m=xs.length - i,⟨_,h0,acI _,rfl⟩,?_⟩;rintro i m τ H2 ⟨p,hi,hm⟩;have sq:=hl i τ H2 p;rcases acE i xs.length with hlt|hge
 ·refine .inr ⟨⟨xs,xs[i],sq,aao hlt⟩,Pv (i+1),fun τ' H' n=>⟨xs.length - (i+1),by omega,n,hlt,rfl⟩,?_⟩;rintro x H3 ⟨t,z,ht,rfl,rfl,hx⟩;exact hs i z t τ _ (hx xs sq) p ht
 ·have e:i=xs.length:=by omega
  subst e;exact .inl ⟨⟨xs,sq,acH _⟩,hd τ H2 p⟩
end
end L2
namespace L2
open PySem PySem.Spec PyProof.Rows
def vn:typeLookup (.type "list_reverseiterator") "__len__"=pure none:=by rw[typeLookup_type,aaL];kernel_rfl
def wX:typeLookup (.type "list_reverseiterator") "__length_hint__"=pure (some (.builtin "list_reverseiterator.__length_hint__")):=by rw[typeLookup_type,aaL];kernel_rfl
section
variable {prog:Program}{w:World}{A:Around}{s:Shared}{R:Result->Shared->Prop}
variable {I:Addr}{fp wr:List Addr}{G:Array GenState->Array GenState->Prop}{n:Nat}{P:Nat->Value->Prop}{St:Nat->Shared->Prop}
def kY(W:WalksS prog w A.in1 I fp wr G n P St)(hT:∀i s,St i s->s.TypeIs (.ref I) "list_reverseiterator")(S:Addr)(res:Value)(c₀:Nat)(hst:St 0 s)(hSf:S ∉ fp)(hI:I∈fp)
  (hS:s.heap.get? S=some {cls:=.type "list",data:=.seq #[] c₀})
  (hR:∀s' acc' c',Moved (S::wr) G s s'->s'.heap.get? S=some {cls:=.type "list",dict:=none,data:=.seq acc' c',slots:=#[]}->ItemsOf P acc' n->R (.ok (.ret res)) s')(hn:n<=sizeLine) :
  wpAny (model prog w) A.in1 (Builtin.List.listExtendWith (.ref S) (.ref I) res)
   (fun fin s'=>match fin with | .done f=>R (.ok f) s' | .again c'=>c'.quiet=true/\codeAny (model prog w) A c' R s') (fun e s'=>R (.error e) s') s:=by
 have hSI:S≠I:=fun e=>hSf (e▸hI)
 have h1:Builtin.List.listSameRef (.ref S) (.ref I)=false:=by simp[Builtin.List.listSameRef,hSI]
 unfold Builtin.List.listExtendWith;refine wpAny_bind (wpAny_typeOf (hT 0 _ hst) ?_);rw[acS (by rw[h1];decide)];refine wpAny_bind (W.self 0 _ _ _ hst ?_);refine wpAny_bind (act ?_);unfold Builtin.List.listLengthHint;refine wpAny_bind (wpAny_specialOf (hT 0 _ hst) vn ?_);show wpAny _ A.in1 (specialOf (Value.ref I) (Str.ofString "__length_hint__") >>= _) _ _ _;refine wpAny_bind (wpAny_specialOf (hT 0 _ hst) wX ?_)
 (generalize hid:("list_reverseiterator.__length_hint__":String)=id0;(fail_if_success (clear hid id0));wp_delta;rw[show splitId id0=some ("list_reverseiterator","__length_hint__") from by subst hid;decide +kernel];subst hid)
 refine wpAny_bind (abQ (b:=true) (hT 0 _ hst) (by rw[isSubtype_type];kernel_rfl) ?_);refine wpAny_pure ?_;rw[acS (by decide)];exact wpAny_pure ⟨plainId_quiet F.plain_extend_loop _,codeAny_extend_loopS W hn _ hSf _ n 0 _ _ _ rfl (acI _) hst hS (ItemsOf.nil P) hR⟩
def i8(W:WalksS prog w A.in1 I fp wr G n P St)(hT:∀i s,St i s->s.TypeIs (.ref I) "list_reverseiterator")(S:Addr)(hst:St 0 s)(hSf:S ∉ fp)(hI:I∈fp)
  (hS:s.heap.get? S=some {cls:=.type "list",data:=.seq #[]})
  (hR:∀s' acc' c',Moved (S::wr) G s s'->s'.heap.get? S=some {cls:=.type "list",dict:=none,data:=.seq acc' c',slots:=#[]}->ItemsOf P acc' n->R (.ok (.ret .none)) s')(hn:n<=sizeLine) :
  wpAny (model prog w) A.in1 (Builtin.«list.__init__» ⟨[.ref S,.ref I],[]⟩)
   (fun fin s'=>match fin with | .done f=>R (.ok f) s' | .again c'=>c'.quiet=true/\codeAny (model prog w) A c' R s') (fun e s'=>R (.error e) s') s:=by
 show wpAny _ A.in1 (do let old ←Builtin.List.listItems (.ref S);Builtin.List.listUpdate (.ref S) (fun _=>#[]);letGo old.toList.reverse;Builtin.List.listExtendWith (.ref S) (.ref I) .none) _ _ s;refine wpAny_bind ?_;unfold Builtin.List.listItems;refine wpAny_bind (wpAny_seqItems hS rfl (wpAny_pure ?_));show wpAny _ A.in1 (updateSeq S (fun _=>#[]) >>= fun _=>letGo (#[]:Array Value).toList.reverse >>= fun _=>Builtin.List.listExtendWith (.ref S) (.ref I) .none) _ _ s;refine wpAny_bind (wpAny_updateSeq hS rfl ?_);have hS₂:=aaK (Obj.mapSeq (fun _=>(#[]:Array Value))) hS rfl;have oth:∀b o,b≠S->s.heap.get? b=some o->(s.heap.update S (Obj.mapSeq (fun _=>(#[]:Array Value)))).get? b=some o:=
  fun b o hb e=>(aaB _ _ (acQ hb)).trans e
 refine wpAny_bind (wpAny_letGo ?_);refine kY (hn:=hn) W hT S .none _ (W.frame 0 s _ s.toks hst (acH _) fun b hb o e=>oth b o (fun h=>hSf (h▸hb)) e) hSf hI hS₂ fun s' acc' c' hm hS' hacc=>?_
 exact hR s' acc' c' (Moved.trans W.gtrans ((Moved.refl W.grefl).then_heap (acH _) fun b o hb e=>oth b o (fun h=>hb (h▸abe)) e) hm) hS' hacc
def nT{E:Value->Shared->Prop}{Q:Value->Shared->Prop}(W:WalksS prog w A.in1.in1 I fp wr G n P St)(hT:∀i s,St i s->s.TypeIs (.ref I) "list_reverseiterator")(hst:St 0 s)(hfp:∀b∈fp,b<s.heap.objs.size)(hI:I∈fp)
  (hQ:∀s' acc' c',Moved (s.heap.objs.size::wr) G {s with heap:=s.heap.push {cls:=.type "list",data:=.seq #[]}} s'->
   s'.heap.get? s.heap.objs.size=some {cls:=.type "list",dict:=none,data:=.seq acc' c',slots:=#[]}->ItemsOf P acc' n->Q (.ref s.heap.objs.size) s')(hn:n<=sizeLine) :
  wpAny (model prog w) A (call (.type "list") [.ref I]) Q E s:=by
 have hSf:s.heap.objs.size ∉ fp:=fun hm=>acp _ (hfp _ hm)
 refine callType_codes (Q₁:=fun obj s₁=>obj=.ref s.heap.objs.size/\s₁={s with heap:=s.heap.push {cls:=.type "list",data:=.seq #[]}}) F.called_list (F.typeCall_list_1 _) F.entry_list_init
  (code_list_new _ ⟨rfl,rfl⟩) fun obj s₁ h₁=>?_
 obtain⟨rfl,rfl⟩:=h₁;have hS:(s.heap.push {cls:=.type "list",data:=.seq #[]}).get? s.heap.objs.size=some {cls:=.type "list",data:=.seq #[]}:=aa3 _ rfl;refine⟨⟨_,hS,rfl⟩,F.args_list_init_2 _ _,i8 (hn:=hn) W hT _ (W.frame 0 s _ s.toks hst (acH _) fun b _ o e=>aaz _ e) hSf hI hS fun s' acc' c' hm hS' hacc=>?_⟩;exact⟨rfl,hQ s' acc' c' hm hS' hacc⟩
end
def Itv(K:acX)(a:Addr)(n:Nat):It:=
 ⟨fun i H=>i<n/\∃xs x,SqL K H a xs/\xs[n - 1 - i]? =some x,fun i H v H'=>H'=H/\∀xs,SqL K H a xs->xs[n - 1 - i]? =some v,fun i _=>i=n⟩
def wY{P:Program}{w:World}{K:acX}{tg:Expr}(a it:Addr)(n:Nat):Turn P w K tg (Itv K a n) [it] it (fun i h=>h.IsRevIter it a ((n:Int) - 1 - (i:Nat))) where
 mem:=by simp
 obj:=fun i h st b hb=>by
  have e:b=it:=by simpa using hb
  subst e;obtain⟨o,e,c,d⟩:=st;exact⟨o,e,fun v z=>by rw[d] at z;cases z⟩
 keep:=fun i h h' st k=>st.at fun o e=>k it (by simp) o e
 item:=by
  intro X hP hw hK hc i pins s σ H E I hf st hg;subst hP hw hK;obtain⟨hi,xs,x,hq,hx⟩:=hg;obtain⟨its,rv,p,hz⟩:=I.list hq;obtain⟨u,hu,ru⟩:=rv.get hx;obtain⟨f0,f1,f2,f3,f4,f5⟩:=hf it (by simp);have e:(n:Int) - 1 - (i:Int)=((n - 1 - i:Nat):Int):=by omega
  rw[e] at st;refine wpAny_pyNext_rev_item st p.isList (x:=u) (by simpa using hu) fun h' st' sb=>?_
  have e2:((n - 1 - i:Nat):Int) - 1=(n:Int) - 1 - ((i+1:Nat):Int):=by omega
  rw[e2] at st';have I1:Inv X pins σ H {s with heap:=h'}:=I.turned (t':=s.toks) (fun b o hb e=>(sb.2 b hb).trans e) f0 f1 f3 f4 f5;obtain⟨o,e,c,d⟩:=id st';exact⟨u,rfl,lb (s:={s with heap:=h'}) e c d (by decide) ⟨x,H,I1,ru,⟨rfl,fun ys hy=>by rw[I.ku hy hq];exact hx⟩,st',fun b hb=>(hf b hb).1⟩⟩
 done:=by
  intro X hP hw hK hc i pins s σ H E I hf st hg;subst hP hw hK;have hg:i=n:=hg;subst hg;obtain⟨f0,f1,f2,f3,f4,f5⟩:=hf it (by simp);have e:(i:Int) - 1 - (i:Int)=-1:=by omega
  rw[e] at st;exact wpAny_pyNext_rev_end (I.ok.hd hc) st fun h' eb=>⟨rfl,I.turned (t':=s.toks) (fun b o hb e=>eb b o hb e) f0 f1 f3 f4 f5⟩
 self:=fun _ _ _ _ _ st h=>wpAny_pyIter_revIter st h
def BP(K:acX)(ta:TA):TI:=fun σ H R=>ta σ H fun vs H1=>∃a xs,vs=[.ref a]/\SqL K H1 a xs/\R (Itv K a xs.length) H1
def p3:bootBuiltins "reversed"=some (.type "reversed"):=by decide +kernel
def jB{X:Cx}{tg:Expr}{a:Expr}{ta:TA}{p pos:Pos}(hg:Gl X "reversed")(hm:X.mg "reversed"=none)(ha:PA X [a] ta)(hs:starEach [a] X.env=[(false,eval a X.env)]:=by rfl):PI X tg (.Call (.Name "reversed" p) [a] [] pos) (BP X.K ta):=by
 intro pins s σ H R I h;refine Call_ (eX I hg hm p3 (aae (thn (ha pos pins s σ H _ I h) fun us s1 ⟨vs,H1,I1,r1,q1⟩=>?_) hs rfl));obtain⟨l,xs,e,hq,q⟩:=q1;subst e;cases r1 with
 |cons r rr=>
  cases rr
  cases r
  obtain⟨its,rv,pl,hz⟩:=I1.list hq;have hlen:=rv.length;refine call_reversed_list pl.isList ?_;have hit:(s1.heap.push (revObj l ((its.toArray.size:Int) - 1))).IsRevIter s1.heap.objs.size l ((xs.length:Int) - 1 - ((0:Nat):Int)):=by
   refine⟨_,aa3 _ rfl,rfl,?_⟩;have:((its.toArray.size:Nat):Int) - 1=(xs.length:Int) - 1 - ((0:Nat):Int):=by simp;omega
   rw[←this];rfl
  refine wpAny_pyIter_revIter hit ?_;have I2:Inv X pins σ H1 {s1 with heap:=s1.heap.push (revObj l ((its.toArray.size:Int) - 1))}:=I1.kept (t':=s1.toks) fun b o e=>aaz _ e
  refine⟨s1.heap.objs.size,[s1.heap.objs.size],_,_,H1,rfl,I2,wY l _ xs.length,hit,fun b hb=>?_,q⟩;have e:b=s1.heap.objs.size:=by simpa using hb
  subst e;exact I1.fY (acH _) (I1.hok.fresh (acH _))
def vo{xs:List V}{i:Nat}{x:V}(hi:i<xs.length)(h:xs[xs.length - 1 - i]? =some x):xs.reverse[i]? =some x:=by rw[List.getElem?_reverse hi];exact h
def rC{K:acX}{a:Addr}{xs:List V}{g:TG}{tb:TS}{D:Ends}{σ:St}{H:Hp}(Pv:Nat->St->Hp->Prop)(h0:Pv 0 σ H)(hl:∀i σ H,i<=xs.length->Pv i σ H->SqL K H a xs)
  (hs:∀i x σ H,xs.reverse[i]? =some x->Pv i σ H->g x σ H fun σ2 H2=>tb {D with nx:=Pv (i+1),ct:=Pv (i+1),bk:=D.nx} σ2 H2)(hd:∀σ H,Pv xs.length σ H->D.nx σ H) :
  ∃W:Nat->Nat->St->Hp->Prop,(∃m,W 0 m σ H)/\∀i m σ H,W i m σ H->
   ((Itv K a xs.length).stop i H/\D.nx σ H)\/((Itv K a xs.length).go i H/\∃N:St->Hp->Prop,(∀σ' H',N σ' H'->∃m',m'<m/\W (i+1) m' σ' H')/\∀x H',(Itv K a xs.length).yld i H x H'->g x σ H' fun σ2 H2=>tb {D with nx:=N,ct:=N,bk:=D.nx} σ2 H2):=by
 refine⟨fun i m σ H=>m=xs.length - i/\i<=xs.length/\Pv i σ H,⟨xs.length,by simp,acI _,h0⟩,?_⟩;rintro i m σ H ⟨rfl,hi,p⟩;have q:=hl i σ H hi p
 by_cases hlt:i<xs.length
 ·refine .inr ⟨⟨hlt,xs,xs[xs.length - 1 - i],q,aao (by omega)⟩,Pv (i+1),fun σ' H' p'=>⟨xs.length - (i+1),by omega,rfl,hlt,p'⟩,fun x H' y=>?_⟩;obtain⟨e,y⟩:=y;subst e;exact hs i x σ _ (vo hlt (y xs q)) p
 ·have e:i=xs.length:=by omega
  subst e;exact .inl ⟨rfl,hd σ H p⟩
section
variable {sel:List (Option Nat)}{g:TG}{tc:TT}{te:TE}{σ:St}{H:Hp}{Q:VK}
def wZ{K:acX}{a D:Addr}{xs:List V}(Pv:Nat->St->Hp->Prop)(h0:Pv 0 (dP sel σ) (upd H D (.lst [])))
  (hl:∀i τ H1,Pv i τ H1->SqL K H1 a xs)
  (hs:∀i x τ H1,xs.reverse[i]? =some x->Pv i τ H1->g x τ H1 fun τ2 H4=>tc τ2 H4 fun b H5=>if b=true then te τ2 H5 fun y H6=>∃ys,H6 D=some (.lst ys)/\ys.length<sizeLine/\Pv (i+1) τ2 (upd H6 D (.lst (ys++[y]))) else Pv (i+1) τ2 H5)
  (hd:∀τ H1,Pv xs.length τ H1->Q (.ref D) H1) :
  gP sel (Itv K a xs.length) D g tc te σ H Q:=by
 refine⟨fun i m τ H1=>Pv i τ H1/\i<=xs.length/\m=xs.length - i,⟨_,h0,acI _,rfl⟩,?_⟩;rintro i m τ H2 ⟨p,hi,hm⟩;have sq:=hl i τ H2 p;rcases acE i xs.length with hlt|hge
 ·refine .inr ⟨⟨hlt,xs,xs[xs.length - 1 - i],sq,aao (by omega)⟩,Pv (i+1),fun τ' H' n=>⟨xs.length - (i+1),by omega,n,hlt,rfl⟩,?_⟩;rintro x H3 ⟨rfl,hx⟩;exact hs i x τ _ (vo hlt (hx xs sq)) p
 ·have e:i=xs.length:=by omega
  subst e;exact .inl ⟨rfl,hd τ H2 p⟩
def jC{K:acX}{a D:Addr}{xs:List V}{n:Nat}(Pv:Nat->St->Hp->Prop)(h0:Pv 0 (dP sel σ) (upd H D (.lst [])))
  (hl:∀i τ H1,Pv i τ H1->SqL K H1 a xs)
  (hs:∀i x τ H1,xs.reverse[i]? =some x->Pv i τ H1->te (τ.set n (some x)) H1 fun y H6=>∃ys,H6 D=some (.lst ys)/\ys.length<sizeLine/\Pv (i+1) (τ.set n (some x)) (upd H6 D (.lst (ys++[y]))))
  (hd:∀τ H1,Pv xs.length τ H1->Q (.ref D) H1):gP sel (Itv K a xs.length) D (iH n) lm te σ H Q:=
 wZ Pv h0 hl (fun i x τ H1 e p=>bC (B:=Pv (i+1) (τ.set n (some x)) H1) (hs i x τ H1 e p)) hd
end
def w4(K:acX)(ta:TA):TE:=fun σ H Q=>ta σ H fun vs H1=>∃p ys,vs=[.ref p]/\SqL K H1 p ys/\∀l,H1 l=none->Q (.ref l) (upd H1 l (.lst ys.reverse))
def p9:∀{a:List V} {b:List Value} {c:List V} {d:List Value},Vals a b->Vals c d->Vals (a++c) (b++d)
 |_,_,_,_,.nil,q=>q
 |_,_,_,_,.cons x r,q=>.cons x (p9 r q)
def qa:∀{a:List V} {b:List Value},Vals a b->Vals a.reverse b.reverse
 |_,_,.nil=>.nil
 |_,_,.cons x r=>by
  rw[abH,abH];exact p9 (qa r) (.cons x .nil)
def vp{xs:List V}{its:List Value}{acc:Array Value}(hv:Vals xs its)(h:ItemsOf (fun i v=>its.toArray[its.toArray.size - 1 - i]? =some v) acc its.toArray.size):Vals xs.reverse acc.toList:=by
 obtain⟨h1,h2⟩:=h;have h1:acc.size=its.length:=by simpa using h1
 have e:acc.toList=its.reverse:=by
  apply abE;intro j;rcases acE j its.length with q|q
  ·have hj:j<acc.size:=by omega
   have:=h2 j acc[j] (aal hj);rw[List.getElem?_reverse q,aaI,aal hj,←this];simp
  ·rw[aaM (by simp;omega),aaM (by simp;omega)]
 rw[e];exact qa hv
def sZ{X:Cx}{a:Expr}{ta:TA}{p0 p1 pos0 pos1:Pos}(hc:X.calm=true)(hgl:Gl X "list")(hml:X.mg "list"=none)(hg:Gl X "reversed")(hm:X.mg "reversed"=none)(ha:PA X [a] ta)
  (hs:starEach [a] X.env=[(false,eval a X.env)]:=by rfl):PE X (.Call (.Name "list" p0) [.Call (.Name "reversed" p1) [a] [] pos1] [] pos0) (w4 X.K ta):=by
 intro pins s σ H Q I h;refine abh (eX I hgl hml (show bootBuiltins "list"=some (.type "list") by decide +kernel) ?_);refine aae ?_ (by rfl) (by rfl);show wpAny _ _ (spliced ((false,eval (.Call (.Name "reversed" p1) [a] [] pos1) X.env)::[])) _ _ s;refine abg (abh (eX I hg hm p3 (aae (thn (ha pos1 pins s σ H _ I h) fun us s1 ⟨vs,H1,I1,r1,q1⟩=>?_) hs rfl)));obtain⟨l,ys,e,hq,q⟩:=q1;subst e;cases r1 with
 |cons r rr=>
 cases rr
 cases r
 obtain⟨its,rv,pl,hz⟩:=I1.list hq;have hlen:=rv.length;refine call_reversed_list pl.isList ?_;refine wpAny_pure ?_;have hll:l<s1.heap.objs.size:=by
  obtain⟨o,ho,_⟩:=pl.isList;exact acw ho
 generalize hs2:({s1 with heap:=s1.heap.push (revObj l ((its.toArray.size:Int) - 1))}:Shared)=s2;have I2:Inv X pins σ H1 s2:=by rw[←hs2];exact I1.kept (t':=s1.toks) fun b o e=>aaz _ e
 have hit:s2.heap.IsRevIter s1.heap.objs.size l ((its.toArray.size:Int) - 1 - ((0:Nat):Int)):=by
  rw[←hs2];refine⟨_,aa3 _ rfl,rfl,?_⟩;have:((its.toArray.size:Nat):Int) - 1=(its.toArray.size:Int) - 1 - ((0:Nat):Int):=by omega
  rw[←this];rfl
 have hl2:s2.heap.IsList l its.toArray:=by
  rw[←hs2];obtain⟨o,ho,r⟩:=pl.isList;exact⟨o,aaz _ ho,r⟩
 have hsz:s2.heap.objs.size=s1.heap.objs.size+1:=by rw[←hs2];exact ach ..
 have hfI:cv X pins H1 s1.heap.objs.size:=I1.fY (acH _) (I1.hok.fresh (acH _));have hn:its.toArray.size<=sizeLine:=by simp only[abr];omega
 have W:=(Walks.listRev (prog:=X.prog) (w:=X.w) (A:=X.A.in1.in1) (I.ok.hd hc) s1.heap.objs.size l (acx hll) its.toArray).toS;refine nT (hn:=hn) W (fun i s st=>st.2.1.typeIs) ⟨acI _,hit,hl2⟩ (fun b hb=>?_) (abe ..) fun s3 acc c hmv hS hit3=>?_
 ·rcases acq.mp hb with z|z
  ·rw[z,hsz];exact abJ _
  ·rw[abl.mp z,hsz];exact abC hll
 ·obtain⟨h3,g3,d3,t3,o3⟩:=s3;obtain⟨m1,m2,m3,m4,m5⟩:=hmv;have m2:g3=s2.gens:=m2;have m3:d3=s2.drawn:=m3;have m4:o3=s2.os:=m4;subst m2 m3 m4;have J:Inv X pins σ (upd H1 s2.heap.objs.size (.lst ys.reverse)) {s2 with heap:=h3,toks:=t3}:=by
   refine I2.qW (fp:=[s1.heap.objs.size]) (fun b o hb e=>?_) (fun b hb=>by rw[abl.mp hb];exact hfI) (acH _) ⟨?_,acc.toList,c,vp rv hit3,?_⟩
   ·refine m1 b o (fun z=>?_) (aaz _ e);rcases acq.mp z with z|z
    ·exact acp _ (z▸acw e)
    ·exact hb z
   ·rw[abb];omega
   ·rw[Array.toArray_toList];exact hS
  exact⟨.ref s2.heap.objs.size,_,J,rfl,q _ (I2.hok.fresh (acH _))⟩
end L2
namespace L2
open PySem PySem.Spec PyProof.Rows
def w6(K:acX):R2:=fun x y H Q=>rIn K false x y H Q\/∃a o,y=.ref a/\bu H a x o/\Q (.bl o.isSome) H
def Aq{X:Cx}(hu:X.A.units+1<cLine):OpR X (compareOp .In) (w6 X.K):=by
 intro pins s σ H x y v u Q I rx ry h;rcases h with h|⟨a,o,rfl,g,q⟩
 ·exact je pins s σ H x y v u Q I rx ry h
 ·obtain rfl:u=Value.ref a:=ry;exact zv hu I g rx fun s3 I3=>⟨.bl o.isSome,H,I3,rfl,q⟩
end L2
namespace Nw
open PySem L2
open SL (aj srt)
def Def.imp{P:Program}{w:World}{K:acX}{mg:Str->Option Value}{base:Heap}{x:Str}{k:Nat}{ps:List Str}{sp sp':Sp}(D:Def P w K mg base x k ps sp)(h:∀vs H Q E,sp' vs H Q E->sp vs H Q E):Def P w K mg base x k ps sp':=by
 obtain⟨f,fd,h1,h2,h3,h4⟩:=D.ex;exact⟨f,fd,h1,h2,h3.imp h,h4⟩
def i4(H:Hp)(b:Addr)(es:List Str):Prop:=ao H b es\/∃kvs:List (Key×V),H b=some (.dK kvs)/\∀s:Str,(aD kvs (Sum.inr s:Key)).isSome=decide (s∈es)
def i4.mono{H H':Hp}(e:ab H H'){b:Addr}{es:List Str}(h:i4 H b es):i4 H' b es:=by
 rcases h with h|⟨kvs,h1,h2⟩
 ·exact .inl (e _ _ h)
 ·exact .inr ⟨kvs,e _ _ h1,h2⟩
def i4.in_{K:acX}{H:Hp}{b:Addr}{es:List Str}(h:i4 H b es){y:Str}{Q:VK}(q:Q (.bl (decide (y∈es))) H):w6 K (.str y) (.ref b) H Q:=by
 rcases h with h|⟨kvs,h1,h2⟩
 ·have h:H b=some (.lst (es.map V.str)):=h;refine .inl ⟨b,_,rfl,.inl (SqL.of h),rfl,dG es,?_⟩;show Q (.bl (inV (.str y) (es.map V.str))) H;rw[eP];exact q
 ·refine .inr ⟨b,aD kvs (Sum.inr y:Key),rfl,bu.k (k:=Sum.inr y) h1,?_⟩;rw[h2 y];exact q
def qc:Sp:=fun vs H Q _=>∃(a b:Addr) (r es:List Str),vs=[.ref a,.ref b]/\ao H a r/\i4 H b es/\r.length<=1000000/\∀H',ab H H'->Q (.bl (r.all fun s=>decide (s∈es))) H'
def xR:∀vs H Q E,sF vs H Q E->qc vs H Q E:=fun _ _ _ _ ⟨a,b,r,es,h1,h2,h3,h4,h5⟩=>⟨a,b,r,es,h1,h2,.inl h3,acy h4 (by decide),h5⟩
def qd{n:Nat}(h:n<=1000000):n<sizeLine:=abk h (by rw[PySem.sizeLine_eq];decide)
section
variable {P:Program}{w:World}{K:acX}{mg:Str->Option Value}{base:Heap}
def yP{f:Addr}{fd:FuncData}(F:Fun K "can_be_empty" "can_be_empty" wv f fd)(T:Txt mg):aM P w K mg base CX0 1 f fd ["signs","empties"] qc:=by
 refine F.ok AX (fun vs H Q E h=>?_) (fun cdv A outer s H vs Q E hr h=>?_)
 ·obtain⟨a,b,r,es,rfl,_⟩:=h;rfl
 ·obtain⟨a,b,r,es,rfl,hA,hB,hl,k⟩:=h;have hu:=bO hr;refine⟨_,ag (aO (aB (oX rfl) (by rfl) T.all PyProof.Rows.boot_all (ah
   (cV (aU.free (N:=["sign","empties"]) (sel:=[none,some 1]) ["empties"] (by rfl) (by rfl) (by rfl) ?c1 ?c2 ?c3 ?c4 (by rfl) ?c5) rfl (aS (pv 0)) (fun s₃ H₃ fp=>ap (i:=0) (show(["sign","empties"]:List Str).Nodup by decide) rfl (Or.inl rfl)) (fun s₃ H₃ fp=>cI)
    (fun s₃ H₃ fp=>lZ (X:=b9 _ _ _ _ _ _ _) (r:=w6 K) (Aq hu) (pv 0) (pv 1) (by with_unfolding_all rfl))) ac))),?_⟩
  case c1=>decide
  case c2=>decide
  case c3=>
   intro x hx;rcases acq.mp hx with rfl|hx
   ·exact⟨rfl,rfl,_,rfl,rfl⟩
   ·cases hx
  case c4=>
   intro y hy;rcases acq.mp hy with rfl|hy
   ·exact abe ..
   ·cases hy
  case c5=>
   intro j i h;rcases j with _|_|j
   ·cases h
   ·cases h;exact⟨"empties",abe ..,rfl,rfl⟩
   ·cases h
  have hA:H a=some (.lst (r.map V.str)):=hA;refine⟨_,rfl,a,rfl,⟨_,SqL.of hA⟩,fun D hD=>da (K:=K) (xs:=r.map V.str) (fun j τ H4=>(∃o,τ=[o,some (.ref b)])/\H4=upd H D (.lst (((r.take j).map fun s=>decide (s∈es)).map V.bl))) ⟨⟨_,rfl⟩,rfl⟩ ?_ ?_ ?_⟩
  ·rintro j τ H4 ⟨_,rfl⟩;exact(ab.upd hD).seq (SqL.of hA)
  ·rintro j x τ H4 hx ⟨⟨o,rfl⟩,rfl⟩;obtain⟨y,hy,rfl⟩:=bH hx;have hjl:j<r.length:=(aaj.mp hy).1;have sD:=ab.upd (o:=HO.lst (((r.take j).map fun s=>decide (s∈es)).map V.bl)) hD;refine⟨_,rfl,_,rfl,(hB.mono sD).in_ ⟨_,aa,?_,⟨_,rfl⟩,?_⟩⟩
   ·rw[ab3,ab3,abK];exact qd (by omega)
   ·rw[cu,acm,hy,ab9,ab9];rfl
  ·rintro τ H4 ⟨_,rfl⟩;rw[ab3,abS];refine⟨D,r.map fun s=>decide (s∈es),rfl,SqL.of aa,?_⟩;have e:((r.map fun s=>decide (s∈es)).all id)=r.all fun s=>decide (s∈es):=by rw[List.all_map];rfl
   rw[e];exact k _ (ab.upd hD)
end
end Nw
namespace Nw
open PySem L2
open SL (aj srt)
def RT(H:Hp)(v:V)(t:Tr):Prop:=Rep H v t.d
def RT.mono{H H':Hp}(s:ab H H'){v:V}{t:Tr}(h:RT H v t):RT H' v t:=Rep.mono s h
def eh.pair{H:Hp}:∀{ws:List V} {ps:List Tr},eh H ws ps->Paired (RT H) ws ps
 |[],[],_=>.nil
 |[],t::ps,h=>by have:=h.1;simp at this
 |v::ws,[],h=>by have:=h.1;simp at this
 |v::ws,t::ps,h=>.cons (h.2 0 v t rfl rfl) (eh.pair ⟨by simpa using h.1,fun m x u e1 e2=>h.2 (m+1) x u (by simpa using e1) (by simpa using e2)⟩)
def fi{α β:Type}{F:α->β->Prop}:∀{l:List α} {k:List β},Paired F l k->Paired F l.reverse k.reverse
 |_,_,.nil=>.nil
 |_,_,.cons a r=>by
  rw[abH,abH];exact b7 (fi r) a
def fO{α β:Type}{F:α->β->Prop}:∀{l:List α} {x:α} {k:List β},Paired F (l++[x]) k->∃k' y,k=k'++[y]/\Paired F l k'/\F x y
 |[],x,_,.cons a r=>by cases r;exact⟨[],_,rfl,.nil,a⟩
 |v::l,x,_,.cons a r=>by
  obtain⟨k',y,rfl,h1,h2⟩:=fO r;exact⟨_::k',y,rfl,.cons a h1,h2⟩
def Tr.mD:∀ps:List Tr,Tr.szL ps.reverse=Tr.szL ps
 |[]=>rfl
 |t::r=>by
  rw[abH,Tr.eW,Tr.mD r];show Tr.szL r+(t.sz+0)=t.sz+Tr.szL r;omega
def iE{n:Nat}(h:n<=4000002):n<sizeLine:=abk h (by rw[PySem.sizeLine_eq];decide)
def RT.cases{H:Hp}{v:V}{t:Tr}(h:RT H v t):(∃s,t=.w s/\v=.str s)\/∃s i ps a l ws,t=.n s i ps/\v=.ref a/\H a=some (.tup [.str s,.int (i:Nat),.ref l])/\H l=some (.lst ws)/\Paired (RT H) ws ps:=by
 cases t with
 |w s=>exact .inl ⟨s,rfl,A4 h⟩
 |n s i ps=>
  obtain⟨a,l,ws,h1,h2,h3,h4⟩:=yJ h;exact .inr ⟨s,i,ps,a,l,ws,rfl,h1,h2,h3,h4.pair⟩
def BQ{K:acX}:PySem.W.kitOne K (.type "tuple") (.type "str")=some false:=by rfl
end Nw
namespace Nw
open PySem L2
open SL (aj srt)
def cp(R:List Row)(m:Nat):List Rec:=(List.range m).map fun n=>⟨("empty",(bD R n).1),n,eF (bD R n).2⟩
def mE(R:List Row)(m:Nat):cp R (m+1)=cp R m++[⟨("empty",(bD R m).1),m,eF (bD R m).2⟩]:=by
 unfold cp;rw[List.range_succ,ab9];rfl
def gn{R:List Row}{n:Nat}{p:Row}(h:R[n]? =some p):bD R n=p:=by
 unfold bD;rw[aah,h];rfl
abbrev sEr:Stmt:=top 19
def BR:aE ["rows"] ["rows"] (am sEr):=acW
def Ar:Sp:=fun vs H Q _=>∃(a:Addr) (R:List Row),vs=[.ref a]/\aQ H a R/\Small R/\∀q H',ab H H'->H q=none->uT H' q (cp R R.length)->Q (.ref q) H'
section
variable {P:Program}{w:World}{K:acX}{mg:Str->Option Value}{base:Heap}
def Ba{f:Addr}{fd:FuncData}(F:Fun K "empty_recipes" "empty_recipes" sEr f fd)(C:Cons mg)(hEn:mg "enumerate"=none)(D1:Def P w K mg base "empty_keys" 1 ["signs"] Ae):aM P w K mg base CX0 2 f fd ["rows"] Ar:=by
 refine F.ok BR (fun vs H Q E h=>?_) (fun cdv A outer s H vs Q E hr h=>?_)
 ·obtain⟨a,R,rfl,_⟩:=h;rfl
 ·obtain⟨a,R,rfl,hR,hsm,k⟩:=h;obtain⟨ue,he,re⟩:=C.empty;refine⟨_,ag (aO (cV (aU.none (N:=["number","row"]) (sel:=[none,none]) (by rfl) (by rfl) (by rfl) (by decide) (by decide) (by rfl) (by decide)) rfl (jR (by rfl) hEn (ai (pv 0) ac))
   (fun s₃ H₃ fp=>rA (K:=K) (n:=2) rfl rfl (aH (ap (i:=0) (show(["number","row"]:List Str).Nodup by decide) rfl (Or.inl rfl)) (aH (ap (i:=1) (show(["number","row"]:List Str).Nodup by decide) rfl (Or.inl rfl)) bT)))
   (fun s₃ H₃ fp=>cI)
   (fun s₃ H₃ fp=>bj (ai (bj (ai (lY (X:=b9 _ _ _ _ _ _ _) (by rfl) he re) (ai (aG (r:=hV K) aR (pv 1) aq (fun _ _=>rfl)) ac))) (ai (pv 0)
    (ai (aA (X:=b9 _ _ _ _ _ _ _) D1 hr (by rfl) (ai (aG (r:=hV K) aR (pv 1) aq (fun _ _=>rfl)) ac)) ac)))))),?_⟩
  obtain⟨rs,hrs,hp⟩:=id hR;have hlen:rs.length=R.length:=aco hp;have hl14:=hsm.len;refine⟨_,rfl,a,rfl,⟨_,SqL.of hrs⟩,fun D hD=>vm (K:=K) (xs:=rs) (fun j τ H4=>(∃o1 o2,τ=[o1,o2])/\cA RecAt H D H4 (cp R j)) ⟨⟨_,_,rfl⟩,cA.zero hD⟩ ?_ ?_ ?_⟩
  ·rintro j τ H4 ⟨_,hg⟩;exact SqL.of ((hg.fin eQ).1 _ _ hrs)
  ·rintro j x t τ H4 hx ⟨⟨o1,o2,rfl⟩,hg⟩ ht;obtain⟨p,tr,b,hpj,rfl,htr,hb⟩:=cL hp hx;have hjl:j<R.length:=(aaj.mp hpj).1;have s4:=(hg.fin eQ).1;have s5:=ab.upd (o:=HO.tup [.int j,.ref tr]) ht;have s45:=s4.trans s5;refine⟨t,_,rfl,SqT.of aa,rfl,_,_,rfl,_,_,rfl,rfl,?_⟩;dsimp only[lm];rw[acR rfl];have hw:=hsm.wid p (aaW hpj);refine⟨_,rfl,tr,_,0,_,rfl,rfl,SqT.of (s45 _ _ htr),au (j:=0) rfl,acU,fun kt hkt=>?_⟩;have s6:=ab.upd (o:=HO.tup [.str "empty",.str p.1]) hkt;have s46:=s45.trans s6;refine⟨_,rfl,_,rfl,tr,_,1,_,rfl,rfl,SqT.of (s46 _ _ htr),au (j:=1) rfl,b,p.2,rfl,s46 _ _ hb,by omega,fun l H7 s7 n7 hk=>⟨acV,fun t2 ht2=>?_⟩⟩;have hg7:=(hg.on eQ (s5.trans s6)).on eQ s7;obtain⟨ys,hy,_⟩:=id hg7;have hyl:=hg7.len hy;have hyl':ys.length=j:=by rw[hyl];unfold cp;rw[ab3,abD]
   have hlD:l≠D:=fun z=>by
    obtain⟨y6,hy6,_⟩:=id (hg.on eQ (s5.trans s6));rw[z,hy6] at n7;cases n7
   have st:=ab.upd (o:=HO.tup [.ref kt,.int (j:Int),.ref l]) ht2;refine⟨ys,st _ _ hy,az (by omega),⟨_,_,rfl⟩,?_⟩;rw[mE,gn hpj];exact uU hD hg7 hy (s7 _ _ aa) hk hlD ht2
  ·rintro τ H4 ⟨_,hg⟩;rw[hlen] at hg;obtain⟨s4,vs,h1,h2⟩:=hg.fin eQ;exact k D H4 s4 hD ⟨vs,h1,h2⟩
end
structure vq(R:List Row)(r:Rec):Prop where
 row:R[r.num]? =some (r.key.2,r.keys.map sgn)
 no:∀s,¬.inl s∈r.keys
def qf{R:List Row}{r:Rec}(h:r∈cp R R.length):vq R r/\r.key.1="empty"/\∀k:Str×Str,.inr k∈r.keys->k.1="empty":=by
 obtain⟨n,hn,rfl⟩:=acB.mp h;have hn:=acg.mp hn;have hq:R[n]? =some (bD R n):=by rw[gn (aao hn)];exact aao hn
 refine⟨⟨by rw[u9];exact hq,fun s hs=>?_⟩,rfl,fun k hk=>va hk⟩;obtain⟨x,_,e⟩:=acB.mp hs;cases e
def ia.blank{R:List Row}{RS:List Rec}{g:Bst}(ok:gG 1 RS g)(hB:∀r∈RS,vq R r){kx:Kx}{t:Tr}(h:ia g kx t):∀k,kx=.inr k->t.ok R k.2/\t.words=[]/\∃i ps,t=.n k.2 i ps:=by
 induction h with
 |w s=>intro k e;cases e
 |@n k c r ps hg hl hps ih=>
  intro k' e;cases e
  obtain⟨h1,h2,_⟩:=ok.own k c r hg;have h3:=hB r h1;have part:∀(j:Nat) (t:Tr),ps[j]? =some t->∃kx,r.keys[j]? =some kx/\t.ok R (sgn kx)/\t.words=[]:=fun j t e=>by
   have hj:j<r.keys.length:=by rw[hl];exact(aaj.mp e).1
   have hk:r.keys[j]? =some r.keys[j]:=aao hj;cases q:r.keys[j] with
   |inl s=>exact absurd (q▸abN hj) (h3.no s)
   |inr k2=>
    rw[q] at hk;obtain⟨a,b,_⟩:=ih j _ t hk e k2 rfl;exact⟨.inr k2,hk,a,b⟩
  refine⟨⟨rfl,r.keys.map sgn,by rw[h3.row,h2],Tr.uX (by rw[ab3];exact hl.symm) fun j t s e1 e2=>?_⟩,?_,_,_,rfl⟩
  ·obtain⟨kx,h4,h5,_⟩:=part j t e1;rw[abt,h4] at e2;cases e2
   exact h5
  ·show Tr.aP ps=[];have all:∀t∈ps,t.words=[]:=fun t ht=>by
    obtain⟨j,hj⟩:=aaN.mp ht;exact(part j t hj).choose_spec.2.2
   clear ih hps hl part
   induction ps with
   |nil=>rfl
   |cons t q ihq=>
    show t.words++Tr.aP q=[];rw[all t (abe ..),ihq fun u hu=>all u (aaU _ hu)];rfl
def w8{R:List Row}{g:Bst}(hC:iB 1 (cp R R.length) g){x:Str}(h:Gram.Made R (fun _=>False) x):Kn g ("empty",x):=by
 induction h with
 |@mk l r hm _ ih=>
  obtain⟨j,hj⟩:=aaN.mp hm;refine uZ (r:=⟨("empty",l),j,eF r⟩) hC (acB.mpr ⟨j,acg.mpr (aaj.mp hj).1,by rw[gn hj]⟩) fun k hk=>?_
  obtain⟨s,hs,rfl⟩:=acB.mp hk;exact ih s hs id
def vt(R:List Row):∃es,Emp R es:=by
 classical
 refine⟨(R.map (·.1)).filter fun x=>decide (Gram.Made R (fun _=>False) x),fun y=>?_⟩;rw[abZ];exact⟨fun h=>abx h.2,fun h=>⟨h.left,aci h⟩⟩
structure di(H:Hp)(d:Addr)(R:List Row):Prop where
 ex:∃kvs:List (Key×V),H d=some (.dK kvs)/\(∀s:Str,(aD kvs (Sum.inr s:Key)).isSome=true↔Gram.Made R (fun _=>False) s)/\
  ∀(s:Str) (v:V),aD kvs (Sum.inr s:Key)=some v->∃t:Tr,t.ok R s/\t.words=[]/\Rep H v t.d
def di.mono{H H':Hp}(s:ab H H'){d:Addr}{R:List Row}(h:di H d R):di H' d R:=by
 obtain⟨kvs,h1,h2,h3⟩:=h.ex;exact⟨kvs,s _ _ h1,h2,fun x v e=>let ⟨t,a,b,c⟩:=h3 x v e;⟨t,a,b,c.mono s⟩⟩
abbrev sEt:Stmt:=top 23
def tj:aE ["rows","trees","found","key"] ["rows"] (am sEt):=acW
def As(TP:Addr):Sp:=fun vs H Q _=>∃(a:Addr) (R:List Row),vs=[.ref a]/\aQ H a R/\Small R/\bx TP fe tmQ H/\∀d H',cz TP H H'->bx TP fe tmQ H'->di H' d R->Q (.ref d) H'
section
variable {P:Program}{w:World}{K:acX}{mg:Str->Option Value}{base:Heap}
def Bb{TP f:Addr}{fd:FuncData}(F:Fun K "empty_trees" "empty_trees" sEt f fd)(D1:Def P w K mg base "empty_recipes" 2 ["rows"] Ar)(D2:Def P w K mg base "cheapest_recipes" 2 ["recipes","price"] xM)(D3:Def P w K mg base "trees_made" 2 ["best"] (Ah TP)) :
  aM P w K mg base CX0 3 f fd ["rows"] (As TP):=by
 refine F.ok tj (fun vs H Q E h=>?_) (fun cdv A outer s H vs Q E hr h=>?_)
 ·obtain⟨a,R,rfl,_⟩:=h;rfl
 ·obtain⟨a,R,rfl,hR,hsm,hT,k⟩:=h;have hu:=bO hr;refine⟨_,af (ak (i:=1) tj.nd rfl (Or.inl rfl) (aA D3 hr (by rfl) (ai (aA D2 hr (by rfl) (ai (aA D1 hr (by rfl) (ai (pv 0) ac)) (ai aq ac))) ac)))
   (af (ak (i:=2) tj.nd rfl (Or.inl rfl) eO)
   (af (bf ace rfl (wW (pv 1)) (ap (i:=3) tj.nd rfl (Or.inl rfl))
    (ag (dN hu (pv 2) (aG aR (pv 3) aq (fun _ _=>rfl)) (bK hu (pv 1) (pv 3) (fun _ _=>rfl)) rfl)))
   (ag (aO (pv 2))))),?_⟩
  have hl14:=hsm.len;refine⟨_,rfl,a,R,rfl,hR,hsm,fun q1 H1 s1 n1 hrecs=>?_⟩;have hof:=fun{r} (hr:r∈cp R R.length)=>qf hr
  have hkl:∀r∈cp R R.length,r.keys.length<=20:=fun r hr=>by
   have:=(hof hr).1.row;have:=hsm.wid _ (aaW this)
   rwa [ab3] at this
  refine⟨q1,1,20,cp R R.length,R.map fun p=>("empty",p.1),rfl,hrecs,hkl,fun r hr=>?_,by rw[ab3];omega,fun d ks g H2 s2 n2 hB hnd h64 hok hcl=>?_⟩
  ·obtain⟨b,e,_⟩:=hof hr;exact acB.mpr ⟨_,aaW b.row,by rw[←e]⟩
  have s12:=s1.trans s2;have hT2:=hT.mono s12;refine⟨d,ks,g,_,rfl,hB,hnd,h64,fun k c r e=>acy (hkl r (hok.own k c r e).1) (by decide),hok,hT2,fun t H3 kvs ht0 s3 hT3 ht3 hperm hall=>?_⟩;intro fd0 hfd0;have ntf:t≠fd0:=fun z=>by rw[z,hfd0] at ht3;cases ht3
  have hke:∀k∈ks,k.1="empty":=fun k hk=>by
   obtain⟨c,r,e⟩:=(hB.mem k).mp hk;obtain⟨h1,h2,_⟩:=hok.own k c r e;rw[←h2];exact(hof h1).2.1
  have isK:∀l,l∈kvs.map (·.1)->∃k∈ks,aL k=l:=fun l hl=>acB.mp (hperm.mem_iff.mp hl)
  have sf:=ab.upd (o:=HO.dK []) hfd0;refine⟨_,rfl,t,kvs,rfl,sf _ _ ht3,fun o=>vh (o:=o) (d:=t) (kvs:=kvs) (fun i σ H5=>∃fk o3,σ=[some (.ref a),some (.ref t),some (.ref fd0),o3]/\H5 t=some (.frz o (.dT kvs))/\(∀b ob,b≠fd0->b≠t->H3 b=some ob->H5 b=some ob)/\
    H5 fd0=some (.dK fk)/\fk.length<=i/\(∀k,aL k∈(kvs.take i).map (·.1)->∃v,aD kvs (aL k)=some v/\aD fk (Sum.inr k.2:Key)=some v)/\∀(s:Str) (v:V),aD fk (Sum.inr s:Key)=some v->∃k,aL k∈kvs.map (·.1)/\k.2=s/\aD kvs (aL k)=some v)
   ⟨[],_,rfl,aa,fun b ob n1 n2 e=>by rw[ad n2];exact sf _ _ e,by rw[ad (acQ ntf)];exact aa,acH _,fun k hk=>(by cases hk),fun s v e=>(by cases e)⟩ ?_ ?_ ?_⟩
  ·rintro i σ H5 ⟨_,_,_,e,_⟩;exact e
  ·rintro i kl v0 b σ H5 hkv hb ⟨fk,o3,rfl,h5t,h5,h5f,hfl,hA,hBk⟩;have hm:kl∈kvs.map (·.1):=acB.mpr ⟨_,aaW hkv,rfl⟩;obtain⟨k',hk',ek⟩:=isK kl hm;subst ek;obtain⟨v,u,hv,_,_⟩:=hall k' hk';have hb:H5 b=some (.tup [.str k'.1,.str k'.2]):=hb;have hil:i<kvs.length:=(aaj.mp hkv).1;have hlk:kvs.length=ks.length:=by
    have:=hperm.length_eq;rw[ab3,ab3] at this;exact this
   refine⟨_,rfl,_,rfl,t,v,rfl,.inr ⟨kvs,aL k',b,.inr ⟨o,h5t⟩,rfl,hb,hv.symm⟩,_,rfl,_,rfl,b,_,1,_,rfl,rfl,SqT.of hb,au (j:=1) rfl,fd0,_,rfl,d8.k (k:=Sum.inr k'.2) h5f (az (by omega)),putK fk (Sum.inr k'.2) v,_,rfl,?_,fun b' ob n1 n2 e=>?_,aa,?_,fun k2 hk2=>?_,fun s2 v2 e2=>?_⟩
   ·rw[ad ntf];exact h5t
   ·rw[ad n1];exact h5 b' ob n1 n2 e
   ·have:=dq fk (Sum.inr k'.2:Key) v;omega
   ·rw[acm,hkv,ab9] at hk2
    by_cases q:k2.2=k'.2
    ·have hk2s:k2∈ks:=by
      rcases ab0.mp hk2 with z|z
      ·obtain⟨k3,h3,e3⟩:=isK _ (acB.mpr (let ⟨x,hx,ex⟩:=acB.mp z;⟨x,aaY hx,ex⟩));rw[←cT e3];exact h3
      ·have z:aL k2=aL k':=by simpa using z
       rw[cT z];exact hk'
     have e:k2=k':=Prod.ext ((hke k2 hk2s).trans (hke k' hk').symm) q;subst e;exact⟨v,hv,by rw[eM,acR rfl]⟩
    ·have q':¬(Sum.inr k2.2:Key)=Sum.inr k'.2:=fun z=>q (by injection z)
     rcases ab0.mp hk2 with z|z
     ·obtain⟨v3,h3,h4⟩:=hA k2 z;exact⟨v3,h3,by rw[eM,acS q'];exact h4⟩
     ·have z:aL k2=aL k':=by simpa using z
      exact absurd (by rw[cT z]) q
   ·rw[eM] at e2
    by_cases q:(Sum.inr s2:Key)=Sum.inr k'.2
    ·rw[acR q] at e2;injection e2 with e2;injection q with q;exact⟨k',hm,q.symm,by rw[←e2];exact hv⟩
    ·rw[acS q] at e2;exact hBk s2 v2 e2
  ·rintro σ H5 ⟨fk,o3,rfl,h5t,h5,h5f,hfl,hA,hBk⟩;rw[abS] at hA;obtain⟨es,hes⟩:=vt R;have kTup:∀b xs,H3 b=some (.tup xs)->H5 b=some (.tup xs):=fun b xs e=>h5 b _ (fun z=>by rw[z,hfd0] at e;cases e) (fun z=>by rw[z,ht3] at e;cases e) e
   have kLst:∀b xs,H3 b=some (.lst xs)->H5 b=some (.lst xs):=fun b xs e=>h5 b _ (fun z=>by rw[z,hfd0] at e;cases e) (fun z=>by rw[z,ht3] at e;cases e) e
   have tree:∀k,aL k∈kvs.map (·.1)->∀v,aD kvs (aL k)=some v->∃u:Tr,u.ok R k.2/\u.words=[]/\Rep H5 v u.d:=fun k hk v hv=>by
    obtain⟨k3,h3,e3⟩:=isK _ hk;have e3:=cT e3;subst e3;obtain⟨v',u,g1,g2,g3⟩:=hall k3 h3;rw[hv] at g1;cases g1;obtain⟨b1,b2,_⟩:=g2.blank hok (fun r hr=>(hof hr).1) k3 rfl;exact⟨u,b1,b2,g3.keep kTup kLst⟩
   refine⟨_,rfl,k fd0 H5 (fun b ob n e=>?_) ?_ ⟨fk,h5f,fun x=>⟨fun hx=>?_,fun hx=>?_⟩,fun x v hx=>?_⟩⟩
   ·have e3:=s3 b ob n (s12 _ _ e);refine h5 b ob (fun z=>by rw[z,hfd0] at e3;cases e3) (fun z=>?_) e3;rw[z,s12.free ht0] at e;cases e
   ·obtain⟨qs,g1,g2,g3⟩:=hT3;have q4:∀b ob,H3 b=some ob->(∀kv,ob≠.dT kv)->H5 b=some ob:=fun b ob e hn=>h5 b ob (fun z=>by rw[z,hfd0] at e;cases e) (fun z=>by rw[z,ht3] at e;cases e;exact hn _ rfl) e
    refine⟨qs,q4 _ _ g1 (fun _ z=>by cases z),g2,?_⟩;rcases g3 with g3|⟨c,g3,g4⟩
    ·exact .inl g3
    ·exact .inr ⟨c,g3,q4 _ _ g4 (fun _ z=>by cases z)⟩
   ·cases e:aD fk (Sum.inr x:Key) with
    |none=>rw[e] at hx;cases hx
    |some v=>
     obtain⟨k2,h1,h2,h3⟩:=hBk x v e;obtain⟨u,b1,b2,_⟩:=tree k2 h1 v h3;rw[h2] at b1;exact(hes x).mp ((Tr.jz hes b1).1 b2)
   ·have hkn:=(hB.mem _).mpr (w8 hcl hx);obtain⟨v,_,h2⟩:=hA ("empty",x) (hperm.mem_iff.mpr (acB.mpr ⟨_,hkn,rfl⟩));have h2:aD fk (Sum.inr x:Key)=some v:=h2;rw[h2];rfl
   ·obtain⟨k2,h1,h2,h3⟩:=hBk x v hx;obtain⟨u,b1,b2,b3⟩:=tree k2 h1 v h3;exact⟨u,by rw[←h2];exact b1,b2,b3⟩
end
end Nw
namespace Nw
open PySem L2
open SL (aj srt)
structure fX(H:Hp)(d:Addr)(R:List Row):Prop where
 ex:∃kvs:List (List Key×V),H d=some (.dT kvs)/\∀(n:Nat) (p:Row) (z:Str),R[n]? =some p->Use R p z->aD kvs (aL (p.1,z))=some (.int (n:Nat))
def fX.mono{H H':Hp}(s:ab H H'){d:Addr}{R:List Row}(h:fX H d R):fX H' d R:=by
 obtain⟨kvs,h1,h2⟩:=h.ex;exact⟨kvs,s _ _ h1,h2⟩
def kZ{R:List Row}{U:List Us}(hU:lS R U)(nc:bM R){e:Us}(he:e∈U):∃n,e.2=[n]:=by
 match q:e.2 with
 |[]=>
  exfalso;obtain⟨p,hp',h1,h2⟩:=(hU.mem e.1.1 e.1.2).mp (acB.mpr ⟨e,he,rfl⟩);obtain⟨n,hn'⟩:=aaN.mp hp';have:=(hU.num e he n).mpr ⟨p,hn',h1,h2⟩;rw[q] at this;cases this
 |[n]=>exact⟨n,rfl⟩
 |n::m::r=>
  exfalso;obtain⟨p,h1,h2,h3⟩:=(hU.num e he n).mp (by rw[q];exact abe ..);obtain⟨p',h1',h2',h3'⟩:=(hU.num e he m).mp (by rw[q];exact aaU _ (abe ..));have:=nc n m p p' _ h1 h1' (h2.trans h2'.symm) h3 h3';have ha:=hU.asc e he;rw[q] at ha;exact absurd this (acx ((List.pairwise_cons.mp ha).1 m (abe ..)))
def tq{R:List Row}{U:List Us}(hU:lS R U)(nc:bM R):jY U=none:=by
 unfold jY;rw[List.find?_eq_none];intro e he;obtain⟨n,hn⟩:=kZ hU nc he;rw[hn];simp
abbrev xa:Stmt:=top 42
def jZ:aE ["rows","uses","numbers","sort","word","found"] ["rows"] (am xa):=acW
def xS:Sp:=fun vs H Q _=>∃(a:Addr) (R:List Row),vs=[.ref a]/\aQ H a R/\Good R/\Tight R/\eD R/\bM R/\∀d H',ab H H'->H d=none->fX H' d R->Q (.ref d) H'
def dj(H:Hp)(v:V)(e:Str×Addr):Prop:=∃t,v=.ref t/\H t=some (.tup [.str e.1,.ref e.2])
def cq(H:Hp)(w:Addr)(ws:List (Str×Addr)):Prop:=∃vs,H w=some (.lst vs)/\Paired (dj H) vs ws.reverse
def dj.mono{H H':Hp}(s:ab H H'){v:V}{e:Str×Addr}(h:dj H v e):dj H' v e:=let ⟨t,a,b⟩:=h;⟨t,a,s _ _ b⟩
def cq.mono{H H':Hp}(s:ab H H'){w:Addr}{ws:List (Str×Addr)}(h:cq H w ws):cq H' w ws:=let ⟨vs,a,b⟩:=h;⟨vs,s _ _ a,Paired.bp b fun _ _ z=>z.mono s⟩
abbrev xb:Stmt:=top 43
def Bc:aE ["waiting"] ["waiting"] (am xb):=acW
def xT:Sp:=fun vs H Q _=>∃(w:Addr) (ws:List (Str×Addr)),vs=[.ref w]/\cq H w ws/\ws.length<=1000000/\∀q H',ab H H'->H q=none->ao H' q (ws.map (·.1))->Q (.ref q) H'
section
variable {P:Program}{w:World}{K:acX}{mg:Str->Option Value}{base:Heap}
def At{f:Addr}{fd:FuncData}(F:Fun K "numbers_to_use" "numbers_to_use" xa f fd)(D1:Def P w K mg base "uses_in_order" 8 ["rows"] xQ)(D2:Def P w K mg base "first_clash" 1 ["uses"] An):aM P w K mg base CX0 9 f fd ["rows"] xS:=by
 refine F.ok jZ (fun vs H Q E h=>?_) (fun cdv A outer s H vs Q E hr h=>?_)
 ·obtain⟨a,R,rfl,_⟩:=h;rfl
 ·obtain⟨a,R,rfl,hR,hg,ht,h3,nc,k⟩:=h;have hu:=bO hr;have hr1:a9 1 _:=hr.mono (by decide);refine⟨_,af (ak (i:=1) jZ.nd rfl (Or.inl rfl) (aA D1 hr (by rfl) (ai (pv 0) ac)))
   (af (bh (bA qC (aA D2 hr1 (by rfl) (ai (pv 1) ac)) i9 (b8 _)) bS bt)
   (af (ak (i:=2) jZ.nd rfl (Or.inl rfl) iN)
   (af (bf ace rfl (aS (pv 1)) (cx (n:=3) rfl (aH (ap (i:=3) jZ.nd rfl (Or.inl rfl)) (aH (ap (i:=4) jZ.nd rfl (Or.inl rfl)) (aH (ap (i:=5) jZ.nd rfl (Or.inl rfl)) bT))))
    (ag (dN hu (pv 2) (bj (ai (pv 3) (ai (pv 4) ac))) (aG a0 (pv 5) aq (fun _ _=>rfl)) rfl)))
   (ag (aO (pv 2)))))),?_⟩
  refine⟨_,rfl,a,R,rfl,hR,hg,ht,h3,fun q U H1 s1 hU hUI h36 _=>?_⟩;obtain⟨vs,hv,hp⟩:=id hU;have hlen:vs.length=U.length:=aco hp;refine⟨_,rfl,q,U,rfl,hU,fun _=>⟨rfl,_,rfl,aT ?_⟩,fun e v hs _=>by rw[tq hUI nc] at hs;cases hs⟩;intro d hd;have s2:=ab.upd (o:=HO.dT []) hd;refine⟨_,rfl,q,rfl,⟨_,SqL.of (s2 _ _ hv)⟩,bq (K:=K) (a:=q) (xs:=vs) (fun i σ H2=>∃kvs o3 o4 o5,σ=[some (.ref a),some (.ref q),some (.ref d),o3,o4,o5]/\ab H1 H2/\H2 d=some (.dT kvs)/\kvs.length<=i/\
    ∀(j:Nat) (e:Us),j<i->U[j]? =some e->aD kvs (aL e.1)=some (.int ((e.2.headD 0:Nat):Int)))
   ⟨[],_,_,_,rfl,s2,aa,acH _,fun j e h=>absurd h (Nat.not_lt_zero _)⟩ ?_ ?_ ?_⟩
  ·rintro i σ H2 _ ⟨_,_,_,_,_,s3,_⟩;exact SqL.of (s3 _ _ hv)
  ·rintro i x σ H2 hx ⟨kvs,o3,o4,o5,rfl,s3,h2d,hkl,hall⟩;obtain⟨e,he,t,l,rfl,ht',hl⟩:=ba hp i x hx;have hem:e∈U:=aaW he;have hil:i<U.length:=(aaj.mp he).1;obtain⟨n,hn⟩:=kZ hUI nc hem;have hl0:(nV e.2)[0]? =some (.int (n:Nat)):=by rw[hn];rfl
   refine⟨t,_,rfl,SqT.of (s3 _ _ ht'),rfl,_,_,rfl,_,_,rfl,_,_,rfl,rfl,?_⟩;refine⟨_,rfl,l,_,0,_,rfl,rfl,SqL.of (s3 _ _ hl),au (j:=0) hl0,_,rfl,_,rfl,_,rfl,acU,fun tt htt=>?_⟩;have s4:=ab.upd (o:=HO.tup [.str e.1.1,.str e.1.2]) htt;refine⟨d,_,rfl,d8.t (k:=aL e.1) (s4 _ _ h2d) aa (az (by omega)),putK kvs (aL e.1) (.int (n:Nat)),_,_,_,rfl,(s3.trans s4).bG hd,aa,?_,fun j e' hj he'=>?_⟩
   ·have:=dq kvs (aL e.1) (V.int (n:Nat));omega
   ·rw[eM]
    by_cases q:j=i
    ·subst q;rw[he] at he';cases he';rw[acR rfl,hn];rfl
    ·have hj':j<i:=by omega
     by_cases q2:aL e'.1=aL e.1
     ·exfalso;have e3:(U.map (·.1))[j]? =(U.map (·.1))[i]?:=by
       rw[abt,abt,he',he];show some e'.1=some e.1;rw[cT q2]
      exact q ((List.getElem?_inj (by rw[ab3];omega) hUI.nd).mp e3)
     ·rw[acS q2];exact hall j e' hj' he'
  ·rintro σ H2 ⟨kvs,o3,o4,o5,rfl,s3,h2d,hkl,hall⟩;refine⟨_,rfl,k d H2 (s1.trans s3) (s1.free hd) ⟨kvs,h2d,fun n p z hn hz=>?_⟩⟩;obtain⟨e,he,e1⟩:=acB.mp ((hUI.mem p.1 z).mpr ⟨p,aaW hn,rfl,hz⟩);obtain⟨j,hj⟩:=aaN.mp he;have hjl:j<vs.length:=by rw[hlen];exact(aaj.mp hj).1
   have:=hall j e hjl hj;obtain⟨m,hm⟩:=kZ hUI nc he;have hnm:n∈e.2:=(hUI.num e he n).mpr ⟨p,hn,by rw[e1],by rw[e1];exact hz⟩;rw[hm] at hnm this;rw[abl.mp hnm,←e1];exact this
def Au{f:Addr}{fd:FuncData}(F:Fun K "signs_due" "signs_due" xb f fd)(hRv:mg "reversed"=none):aM P w K mg base CX0 1 f fd ["waiting"] xT:=by
 refine F.ok Bc (fun vs H Q E h=>?_) (fun cdv A outer s H vs Q E hr h=>?_)
 ·obtain⟨a,ws,rfl,_⟩:=h;rfl
 ·obtain⟨a,ws,rfl,hW,hl,k⟩:=h;refine⟨_,ag (aO (cV (aU.none (N:=["pair"]) (sel:=[none]) (by rfl) (by rfl) (by rfl) (by decide) (by decide) (by rfl) (by decide)) rfl (jB (by rfl) hRv (ai (pv 0) ac)) (fun s₃ H₃ fp=>ap (i:=0) (show(["pair"]:List Str).Nodup by decide) rfl (Or.inl rfl)) (fun s₃ H₃ fp=>cI)
   (fun s₃ H₃ fp=>aG (r:=hV K) aR (pv 0) aq (fun _ _=>rfl)))),?_⟩
  obtain⟨vs,hv,hp⟩:=id hW;have hlen:vs.length=ws.length:=by rw[aco hp,abb]
  have hp':Paired (dj H) vs.reverse ws:=by
   have:=fi hp
   rwa [aa0] at this
  refine⟨_,rfl,a,vs,rfl,SqL.of hv,fun D hD=>jC (K:=K) (xs:=vs) (fun j τ H4=>(∃o,τ=[o])/\H4=upd H D (.lst ((ws.take j).map fun e=>V.str e.1))) ⟨⟨_,rfl⟩,rfl⟩ ?_ ?_ ?_⟩
  ·rintro j τ H4 ⟨_,rfl⟩;exact SqL.of (ab.upd hD _ _ hv)
  ·rintro j x τ H4 hx ⟨⟨o,rfl⟩,rfl⟩;obtain⟨e,he,t,rfl,ht⟩:=ba hp' j x hx;have hjl:j<ws.length:=(aaj.mp he).1;refine⟨_,rfl,t,_,0,_,rfl,rfl,SqT.of (ab.upd hD _ _ ht),au (j:=0) rfl,_,aa,?_,⟨_,rfl⟩,?_⟩
   ·rw[ab3,abK];exact qd (by omega)
   ·rw[cu,acm,he,ab9];rfl
  ·rintro τ H4 ⟨_,rfl⟩;rw[hlen,abS];refine k D _ (ab.upd hD) hD ?_;unfold ao;rw[aa,acD];rfl
end
end Nw
namespace Nw
open PySem L2
open SL (aj srt)
structure jD(P:Program)(w:World)(K:acX)(mg:Str->Option Value)(base:Heap)(C:Addr)(m:Str)(k:Nat)(ps:List Str)(sp:Sp):Prop where
 ex:∃f fd,Meth K C m f/\aM P w K mg base CX0 k f fd ps sp/\Binds K fd ps []
def gp{X:Cx}{C:Addr}{m:Str}{k:Nat}{ps:List Str}{sp:Sp}{pos apos:Pos}{o e:Expr}{es:List Expr}{ta:TE}{t:TA}{pl:Sem Bool}(D:jD X.prog X.w X.K X.mg X.base C m k ps sp)(cl:Cls X.K C)(ho:PE X o ta)(hr:a9 k X.A)(ha:PA X (e::es) t)
  (hst:starEach (e::es) X.env=(false,eval e X.env)::starEach es X.env:=by rfl)(hpl:(backTo pos (starEach es X.env)).any (·.1)=false:=by rfl)
  (ht:eval (.Call (.Attribute o m apos) (e::es) [] pos) X.env=(do
   let ov ←eval o X.env
   standAt apos.atName
   let (f,first) ←holding [ov] (getMethod ov m pl)
   callWith pos f first (backTo pos (starEach (e::es) X.env)) (backToKw pos (keywordEach [] X.env))):=by rfl) :
  PE X (.Call (.Attribute o m apos) (e::es) [] pos) (xA C m sp [] E0 ta t):=by
 obtain⟨f,fd,h1,h2,h3⟩:=D.ex;exact xZ ho cl h1 h2 hr h3 .nil rW ha hst hpl ht
def d6(a dn db de:Addr):List (Str×V):=aJ "blanks" (.ref de) (aJ "begins" (.ref db) (aJ "numbers" (.ref dn) (aJ "rows" (.ref a) [])))
def gY(a dn db de:Addr):(d6 a dn db de).lookup ("blanks":Str)=some (.ref de):=by
 unfold d6;rw[be,acR rfl]
def nA(a dn db de:Addr):(d6 a dn db de).lookup ("begins":Str)=some (.ref db):=by
 unfold d6;rw[be,acS (by decide +kernel),be,acR rfl]
def tu(a dn db de:Addr):(d6 a dn db de).lookup ("numbers":Str)=some (.ref dn):=by
 unfold d6;rw[be,acS (by decide +kernel),be,acS (by decide +kernel),be,acR rfl]
def yQ(a dn db de:Addr):(d6 a dn db de).lookup ("rows":Str)=some (.ref a):=by
 unfold d6;rw[be,acS (by decide +kernel),be,acS (by decide +kernel),be,acS (by decide +kernel),be,acR rfl]
def tw(a dn db de:Addr){m:Str}(h1:¬m="blanks")(h2:¬m="begins")(h3:¬m="numbers")(h4:¬m="rows"):(d6 a dn db de).lookup m=none:=by
 unfold d6;rw[be,acS h1,be,acS h2,be,acS h3,be,acS h4];rfl
structure jE(K:acX)(C:Addr):Prop where
 cl:Cls K C
 nR:cK K C "rows"
 nN:cK K C "numbers"
 nB:cK K C "begins"
 nK:cK K C "blanks"
structure d7(C:Addr)(H:Hp)(p:Addr)(R:List Row):Prop where
 ex:∃(dx a dn db de:Addr) (res:Tab),H p=some (.ins C dx (d6 a dn db de))/\aQ H a R/\fX H dn R/\cM H db res/\res.map (·.1)=a8 R/\(∀e∈res,Canon (dC R e.1) e.2)/\di H de R
def d7.mono{C:Addr}{H H':Hp}(s:ab H H'){p:Addr}{R:List Row}(h:d7 C H p R):d7 C H' p R:=by
 obtain⟨dx,a,dn,db,de,res,h1,h2,h3,h4,h5,h6,h7⟩:=h.ex;exact⟨dx,a,dn,db,de,res,s _ _ h1,h2.mono s,h3.mono s,h4.mono s,h5,h6,h7.mono s⟩
def Off(p:Addr)(H H':Hp):Prop:=∀b o,b≠p->H b=some o->H' b=some o
section
variable {C p dx:Addr}{fs:List (Str×V)}{H H':Hp}(hp:H p=some (.ins C dx fs))(off:Off p H H')
include hp off
def rD{b:Addr}{xs:List V}(e:H b=some (.tup xs)):H' b=some (.tup xs):=off b _ (fun z=>by rw[z,hp] at e;cases e) e
def j2{b:Addr}{xs:List V}(e:H b=some (.lst xs)):H' b=some (.lst xs):=off b _ (fun z=>by rw[z,hp] at e;cases e) e
def vw{b:Addr}{xs:List (Key×V)}(e:H b=some (.dK xs)):H' b=some (.dK xs):=off b _ (fun z=>by rw[z,hp] at e;cases e) e
def Av{b:Addr}{xs:List (List Key×V)}(e:H b=some (.dT xs)):H' b=some (.dT xs):=off b _ (fun z=>by rw[z,hp] at e;cases e) e
def i5{a:Addr}{R:List Row}(h:aQ H a R):aQ H' a R:=by
 obtain⟨vs,h1,h2⟩:=h;exact⟨vs,j2 hp off h1,Paired.bp h2 fun _ _ ⟨t,b,q1,q2,q3⟩=>⟨t,b,q1,rD hp off q2,j2 hp off q3⟩⟩
def k5{d:Addr}{R:List Row}(h:fX H d R):fX H' d R:=by
 obtain⟨kvs,h1,h2⟩:=h.ex;exact⟨kvs,Av hp off h1,h2⟩
def nC{d:Addr}{f:Tab}(h:cM H d f):cM H' d f:=by
 obtain⟨kvs,h1,h2⟩:=h;exact⟨kvs,vw hp off h1,Paired.bp h2 fun _ _ ⟨q1,l,q2,q3⟩=>⟨q1,l,q2,j2 hp off q3⟩⟩
def tz{d:Addr}{R:List Row}(h:di H d R):di H' d R:=by
 obtain⟨kvs,h1,h2,h3⟩:=h.ex;exact⟨kvs,vw hp off h1,h2,fun x v e=>let ⟨t,a,b,c⟩:=h3 x v e;⟨t,a,b,c.keep (fun _ _ z=>rD hp off z) (fun _ _ z=>j2 hp off z)⟩⟩
end
def Off.upd{p:Addr}{H:Hp}{o:HO}:Off p H (upd H p o):=fun b ob n e=>by rw[ad n];exact e
def bx.off{C p dx TP:Addr}{fs:List (Str×V)}{H H':Hp}{pos:Pos}{q:Str}(hp:H p=some (.ins C dx fs))(off:Off p H H')(h:bx TP pos q H):bx TP pos q H':=by
 obtain⟨qs,g1,g2,g3⟩:=h;refine⟨qs,off _ _ (fun z=>by rw[z,hp] at g1;cases g1) g1,g2,?_⟩;rcases g3 with g3|⟨c,g3,g4⟩
 ·exact .inl g3
 ·exact .inr ⟨c,g3,off _ _ (fun z=>by rw[z,hp] at g4;cases g4) g4⟩
abbrev sGi:Stmt:=inClass (top 44) 0
def BS:aE ["self","rows"] ["self","rows"] (am sGi):=acW
def xc(C TP:Addr):Sp:=fun vs H Q _=>∃(p dx a:Addr) (R:List Row),vs=[.ref p,.ref a]/\H p=some (.ins C dx [])/\aQ H a R/\Good R/\Tight R/\eD R/\bM R/\bx TP fe tmQ H/\
 ∀H',(∀b o,b≠p->b≠TP->H b=some o->H' b=some o)->bx TP fe tmQ H'->d7 C H' p R->Q .non H'
abbrev sBw:Stmt:=inClass (top 44) 1
def BT:aE ["self","sign","word"] ["self","sign","word"] (am sBw):=acW
def xf(C:Addr):Sp:=fun vs H Q _=>∃(p:Addr) (x z:Str) (R:List Row),vs=[.ref p,.str x,.str z]/\d7 C H p R/\∀b H',ab H H'->(b=true↔SB R x z)->Q (.bl b) H'
abbrev sGo:Stmt:=inClass (top 44) 2
def xg:aE ["self","waiting","word","sign","parts"] ["self","waiting","word"] (am sGo):=acW
def Aw(C:Addr):Sp:=fun vs H Q _=>∃(p w:Addr) (z:Str) (R:List Row) (es:List Str) (ws:List (Str×Addr)),vs=[.ref p,.ref w,.str z]/\d7 C H p R/\Emp R es/\cq H w ws/\∀b H',ab H H'->(b=true↔Wd R es (ws.map (·.1)) z)->Q (.bl b) H'
abbrev sCe:Stmt:=inClass (top 44) 4
def BU:aE ["self","waiting"] ["self","waiting"] (am sCe):=acW
def Ax(C:Addr):Sp:=fun vs H Q _=>∃(p w:Addr) (R:List Row) (es:List Str) (ws:List (Str×Addr)),vs=[.ref p,.ref w]/\d7 C H p R/\Emp R es/\cq H w ws/\ws.length<=1000000/\∀b H',ab H H'->(b=true↔∀y∈ws.map (·.1),y∈es)->Q (.bl b) H'
def di.emp{H:Hp}{d:Addr}{R:List Row}(h:di H d R){es:List Str}(he:Emp R es):i4 H d es:=by
 obtain⟨kvs,h1,h2,_⟩:=h.ex;refine .inr ⟨kvs,h1,fun s=>?_⟩
 by_cases q:s∈es
 ·rw[aci q];exact(h2 s).mpr ((he s).mp q)
 ·rw[abX q];cases e:(aD kvs (Sum.inr s:Key)).isSome with
  |false=>rfl
  |true=>exact absurd ((he s).mpr ((h2 s).mp e)) q
section
variable {P:Program}{w:World}{K:acX}{mg:Str->Option Value}{base:Heap}
def Bd{TP C f:Addr}{fd:FuncData}(F:Fun K "__init__" "Guide.__init__" sGi f fd)(T:jE K C)(D1:Def P w K mg base "numbers_to_use" 9 ["rows"] xS)(D2:Def P w K mg base "words_to_begin" 5 ["rows"] nY)(D3:Def P w K mg base "empty_trees" 3 ["rows"] (As TP)) :
  aM P w K mg base CX0 10 f fd ["self","rows"] (xc C TP):=by
 refine F.ok BS (fun vs H Q E h=>?_) (fun cdv A outer s H vs Q E hr h=>?_)
 ·obtain⟨p,dx,a,R,rfl,_⟩:=h;rfl
 ·obtain⟨p,dx,a,R,rfl,hp,hR,hg,ht,h3,nc,hT,k⟩:=h;have hr5:a9 5 _:=hr.mono (by decide);have hr3:a9 3 _:=hr.mono (by decide);refine⟨_,af (lh (pv 0) (pv 1) rfl) (af (lh (pv 0) (aA D1 hr (by rfl) (ai (pv 1) ac)) rfl) (af (lh (pv 0) (aA D2 hr5 (by rfl) (ai (pv 1) ac)) rfl) (ag (lh (pv 0) (aA D3 hr3 (by rfl) (ai (pv 1) ac)) rfl)))),?_⟩;refine⟨_,rfl,_,rfl,p,C,dx,[],rfl,hp,T.cl,T.nR,(by show 0<1000;decide),?_⟩;have o1:Off p H (upd H p (.ins C dx (aJ "rows" (.ref a) []))):=Off.upd;have hR1:=i5 hp o1 hR;have hT1:=bx.off hp o1 hT;have hp1:upd H p (.ins C dx (aJ "rows" (.ref a) [])) p=some (.ins C dx (aJ "rows" (.ref a) [])):=aa;generalize upd H p (.ins C dx (aJ "rows" (.ref a) []))=H1 at o1 hR1 hT1 hp1;refine⟨_,rfl,a,R,rfl,hR1,hg,ht,h3,nc,fun dn H2 s2 n2 hnum=>⟨_,rfl,p,C,dx,_,rfl,s2 _ _ hp1,T.cl,T.nN,(by show 1<1000;decide),?_⟩⟩;have hp2:=s2 _ _ hp1;have o2:Off p H2 (upd H2 p (.ins C dx (aJ "numbers" (.ref dn) (aJ "rows" (.ref a) [])))):=Off.upd;have hR3:=i5 hp2 o2 (hR1.mono s2);have hT3:=bx.off hp2 o2 (hT1.mono s2);have hN3:=k5 hp2 o2 hnum;have hp3:upd H2 p (.ins C dx (aJ "numbers" (.ref dn) (aJ "rows" (.ref a) []))) p=some (.ins C dx (aJ "numbers" (.ref dn) (aJ "rows" (.ref a) []))):=aa;have o13:Off p H (upd H2 p (.ins C dx (aJ "numbers" (.ref dn) (aJ "rows" (.ref a) [])))):=fun b ob n e=>o2 b ob n (s2 _ _ (o1 b ob n e))
  generalize upd H2 p (.ins C dx (aJ "numbers" (.ref dn) (aJ "rows" (.ref a) [])))=H3 at o2 hR3 hT3 hN3 hp3 o13;refine⟨_,rfl,a,R,rfl,hR3,hg,fun db res H4 s4 n4 hdb hk hc=>⟨_,rfl,p,C,dx,_,rfl,s4 _ _ hp3,T.cl,T.nB,?_,?_⟩⟩
  ·show(aJ "numbers" (.ref dn) (aJ "rows" (.ref a) [])).length<1000;have:=ez "numbers" (.ref dn) (aJ "rows" (.ref a) []);have:(aJ "rows" (V.ref a) []).length=1:=rfl;omega
  have hp4:=s4 _ _ hp3;have o4:Off p H4 (upd H4 p (.ins C dx (aJ "begins" (.ref db) (aJ "numbers" (.ref dn) (aJ "rows" (.ref a) []))))):=Off.upd;have hR5:=i5 hp4 o4 (hR3.mono s4);have hT5:=bx.off hp4 o4 (hT3.mono s4);have hN5:=k5 hp4 o4 (hN3.mono s4);have hB5:=nC hp4 o4 hdb;have hp5:upd H4 p (.ins C dx (aJ "begins" (.ref db) (aJ "numbers" (.ref dn) (aJ "rows" (.ref a) [])))) p=some (.ins C dx (aJ "begins" (.ref db) (aJ "numbers" (.ref dn) (aJ "rows" (.ref a) [])))):=aa;have o15:Off p H (upd H4 p (.ins C dx (aJ "begins" (.ref db) (aJ "numbers" (.ref dn) (aJ "rows" (.ref a) []))))):=fun b ob n e=>o4 b ob n (s4 _ _ (o13 b ob n e))
  generalize upd H4 p (.ins C dx (aJ "begins" (.ref db) (aJ "numbers" (.ref dn) (aJ "rows" (.ref a) []))))=H5 at o4 hR5 hT5 hN5 hB5 hp5 o15;refine⟨_,rfl,a,R,rfl,hR5,hg.small,hT5,fun de H6 s6 hT6 hbl=>⟨_,rfl,p,C,dx,aJ "begins" (.ref db) (aJ "numbers" (.ref dn) (aJ "rows" (.ref a) [])),rfl,?_,T.cl,T.nK,?_,?_⟩⟩
  ·exact s6 _ _ (hT5.ne hp5 fun _ z=>by cases z) hp5
  ·show(aJ "begins" (.ref db) (aJ "numbers" (.ref dn) (aJ "rows" (.ref a) []))).length<1000;have:=ez "begins" (.ref db) (aJ "numbers" (.ref dn) (aJ "rows" (.ref a) []));have:=ez "numbers" (.ref dn) (aJ "rows" (.ref a) []);have:(aJ "rows" (V.ref a) []).length=1:=rfl;omega
  have hp6:H6 p=some (.ins C dx (aJ "begins" (.ref db) (aJ "numbers" (.ref dn) (aJ "rows" (.ref a) [])))):=s6 _ _ (hT5.ne hp5 fun _ z=>by cases z) hp5;have o6:Off p H6 (upd H6 p (.ins C dx (d6 a dn db de))):=Off.upd;have kT:∀b xs,H5 b=some (.tup xs)->H6 b=some (.tup xs):=fun b xs e=>s6 b _ (hT5.ne e fun _ z=>by cases z) e
  have kL:∀b xs,H5 b=some (.lst xs)->H6 b=some (.lst xs):=fun b xs e=>s6 b _ (hT5.ne e fun _ z=>by cases z) e
  have hN6:fX H6 dn R:=by
   obtain⟨kvs,h1,h2⟩:=hN5.ex;exact⟨kvs,s6 _ _ (hT5.ne h1 fun _ z=>by cases z) h1,h2⟩
  have hB6:cM H6 db res:=by
   obtain⟨kvs,h1,h2⟩:=hB5;exact⟨kvs,s6 _ _ (hT5.ne h1 fun _ z=>by cases z) h1,Paired.bp h2 fun _ _ ⟨q1,l,q2,q3⟩=>⟨q1,l,q2,kL _ _ q3⟩⟩
  refine k _ (fun b ob n1 n2 e=>?_) (bx.off hp6 o6 hT6) ⟨dx,a,dn,db,de,res,aa,i5 hp6 o6 (pO hT5 s6 hR5),k5 hp6 o6 hN6,nC hp6 o6 hB6,hk,hc,tz hp6 o6 hbl⟩;exact o6 b ob n1 (s6 b ob n2 (o15 b ob n1 e))
def Be{C f:Addr}{fd:FuncData}(F:Fun K "begins_with" "Guide.begins_with" sBw f fd)(T:jE K C):aM P w K mg base CX0 1 f fd ["self","sign","word"] (xf C):=by
 refine F.ok BT (fun vs H Q E h=>?_) (fun cdv A outer s H vs Q E hr h=>?_)
 ·obtain⟨p,x,z,R,rfl,_⟩:=h;rfl
 ·obtain⟨p,x,z,R,rfl,hG,k⟩:=h;have hu:=bO hr;refine⟨_,ag (aO (lZ (r:=rIn K false) je (pv 2) (iP hu (fQ (pv 0) rfl) (pv 1) (bg (ai (pv 1) ac)) ⟨rfl,rfl,rfl,rfl⟩) (by with_unfolding_all rfl))),?_⟩;obtain⟨dx,a,dn,db,de,res,h1,h2,h3,h4,h5,h6,h7⟩:=hG.ex;obtain⟨kvs,hkv,hp⟩:=id h4;refine⟨_,rfl,_,rfl,p,C,dx,_,_,rfl,h1,T.cl,T.nB,nA _ _ _ _,db,rfl,.inl ⟨kvs,.inl hkv⟩,_,rfl,_,rfl,acT,fun q1 hq1=>?_⟩;have s1:=ab.upd (o:=HO.lst [.str x]) hq1;have hp1:Paired (ga (upd H q1 (.lst [.str x]))) kvs res:=Paired.bp hp fun _ _ ⟨e1,l,e2,e3⟩=>⟨e1,l,e2,s1 _ _ e3⟩
  obtain⟨o',l,ys,hg,hv,hl,hys⟩:∃o' l ys,bu (upd H q1 (.lst [.str x])) db (.str x) o'/\o'.getD (.ref q1)=.ref l/\ao (upd H q1 (.lst [.str x])) l ys/\(z∈ys↔SB R x z):=by
   rcases fG hp1 x with ⟨e1,e2⟩|⟨ys,l,e1,e2,e3⟩
   ·refine⟨none,q1,[x],.inl ⟨kvs,Sum.inr x,.inl (s1 _ _ hkv),rfl,e2.symm⟩,rfl,aa,?_⟩;have hx:¬x∈R.map (·.1):=fun hx=>by
     rw[←aN,←h5] at hx;obtain⟨e,he,ex⟩:=acB.mp hx;have:∃ys,res.lookup x=some ys:=by
      cases q:res.lookup x with
      |some ys=>exact⟨ys,rfl⟩
      |none=>
       exfalso;exact(List.lookup_eq_none_iff.mp q) e he |> fun h=>by rw[ex] at h;simp at h
     obtain⟨ys,e3⟩:=this;rw[e3] at e1;cases e1
    rw[abl];exact⟨fun e=>.inr ⟨hx,e⟩,fun h=>h.elim (fun h=>absurd h.1 hx) (·.2)⟩
   ·refine⟨some (.ref l),l,ys,.inl ⟨kvs,Sum.inr x,.inl (s1 _ _ hkv),rfl,e2.symm⟩,rfl,e3,?_⟩;have hm:=lookup_mem e1;have hx:x∈R.map (·.1):=by
     rw[←aN,←h5];exact acB.mpr ⟨_,hm,rfl⟩
    rw[(h6 _ hm).mem z];exact⟨fun h=>.inl ⟨hx,h⟩,fun h=>h.elim (·.2) fun h=>absurd hx h.1⟩
  have hl:upd H q1 (.lst [.str x]) l=some (.lst (ys.map V.str)):=hl;refine⟨o',hg,?_⟩;rw[hv];refine⟨l,_,rfl,.inl (SqL.of hl),rfl,dG ys,?_⟩;show Q (.bl (inV (.str z) (ys.map V.str))) _;rw[eP];exact k _ _ s1 (by rw[decide_eq_true_iff];exact hys)
def Bf{C f:Addr}{fd:FuncData}(F:Fun K "goes_on" "Guide.goes_on" sGo f fd)(T:jE K C)(hRv:mg "reversed"=none)(dBw:jD P w K mg base C "begins_with" 1 ["self","sign","word"] (xf C)):aM P w K mg base CX0 2 f fd ["self","waiting","word"] (Aw C):=by
 refine F.ok xg (fun vs H Q E h=>?_) (fun cdv A outer s H vs Q E hr h=>?_)
 ·obtain⟨p,w',z,R,es,ws,rfl,_⟩:=h;rfl
 ·obtain⟨p,wl,z,R,es,ws,rfl,hG,hes,hW,k⟩:=h;have hu:=bO hr;refine⟨_,af (bf ace rfl (jB (by rfl) hRv (ai (pv 1) ac)) (cx (n:=2) rfl (aH (ap (i:=3) xg.nd rfl (Or.inl rfl)) (aH (ap (i:=4) xg.nd rfl (Or.inl rfl)) bT)))
    (af (bh (bN (gp dBw T.cl (pv 0) hr (ai (pv 3) (ai (pv 2) ac)))) (ag (aO c8)) bt)
    (ag (bh (ej (fS hu (pv 3) (fQ (pv 0) rfl))) (ag (aO c8)) bt))))
   (ag (aO c8)),?_⟩
  obtain⟨vs,hv,hp⟩:=id hW;have hlen:vs.length=ws.length:=by rw[aco hp,abb]
  have hp':Paired (dj H) vs.reverse ws:=by
   have:=fi hp
   rwa [aa0] at this
  have notW:∀{a b:List Str},(∀x∈a,¬SB R x z)->Wd R es (a++b) z->Wd R es b z:=fun{a b} ha h=>by
   rcases jy.mp h with ⟨s,h1,h2⟩|⟨_,h⟩
   ·exact absurd h2 (ha s (Gram.dF _ _ _ h1))
   ·exact h
  refine⟨_,rfl,wl,vs,rfl,SqL.of hv,rC (K:=K) (a:=wl) (xs:=vs) (fun i σ H1=>∃o3 o4,σ=[some (.ref p),some (.ref wl),some (.str z),o3,o4]/\ab H H1/\∀e∈ws.take i,¬SB R e.1 z/\e.1∈es)
   ⟨_,_,rfl,ab.refl _,fun e he=>(by cases he)⟩ ?_ ?_ ?_⟩
  ·rintro i σ H1 _ ⟨_,_,_,s1,_⟩;exact SqL.of (s1 _ _ hv)
  ·rintro i x σ H1 hx ⟨o3,o4,rfl,s1,hall⟩;obtain⟨e,he,t,rfl,ht⟩:=ba hp' i x hx;have hsplit:ws.map (·.1)=(ws.take i).map (·.1)++e.1::(ws.drop (i+1)).map (·.1):=by
    have hil:=(aaj.mp he).1;have e1:ws=ws.take i++e::ws.drop (i+1):=by
     rw[←(aaj.mp he).2,aaF,aaT]
    conv=>lhs;rw[e1]
    rw[ab9];rfl
   have hall1:∀y∈(ws.take i).map (·.1),¬SB R y z:=fun y hy=>by
    obtain⟨e',h1,rfl⟩:=acB.mp hy;exact(hall e' h1).1
   have hall2:∀y∈(ws.take i).map (·.1),y∈es:=fun y hy=>by
    obtain⟨e',h1,rfl⟩:=acB.mp hy;exact(hall e' h1).2
   have hG1:=hG.mono s1;obtain⟨dx,a,dn,db,de,res,h1,h2,h3,h4,h5,h6,h7⟩:=hG1.ex;refine⟨t,_,rfl,SqT.of (s1 _ _ ht),rfl,_,_,rfl,_,_,rfl,rfl,?_⟩;refine⟨_,rfl,p,dx,_,rfl,h1,tw _ _ _ _ (by decide +kernel) (by decide +kernel) (by decide +kernel) (by decide +kernel),_,rfl,_,rfl,p,e.1,z,R,rfl,hG1,fun b H2 s2 hb=>⟨_,rfl,?_⟩⟩;have s12:=s1.trans s2
   by_cases hsb:SB R e.1 z
   ·rw[hb.mpr hsb];refine bC (k true H2 s12 ⟨fun _=>?_,fun _=>rfl⟩);rw[hsplit];exact jy.mpr (.inr ⟨hall2,du.mpr (.inl hsb)⟩)
   ·have hbf:b=false:=by
     cases b with
     |false=>rfl
     |true=>exact absurd (hb.mp rfl) hsb
    rw[hbf];refine aT ?_;obtain⟨kvs,g1,g2,_⟩:=(h7.mono s2).ex;refine⟨_,rfl,_,rfl,p,C,dx,_,_,rfl,s2 _ _ h1,T.cl,T.nK,gY _ _ _ _,de,_,rfl,bu.k (k:=Sum.inr e.1) g1,_,rfl,?_⟩
    by_cases hin:e.1∈es
    ·have:(!(aD kvs (Sum.inr e.1:Key)).isSome)=false:=by
      have:=(g2 e.1).mpr ((hes _).mp hin);cases q:aD kvs (Sum.inr e.1:Key) with
      |none=>rw[q] at this;cases this
      |some v=>rfl
     rw[this];refine aT ⟨_,_,rfl,s12,fun e' he'=>?_⟩;rw[acm,he] at he';rcases ab0.mp he' with q|q
     ·exact hall e' q
     ·have q:e'=e:=by simpa using q
      rw[q];exact⟨hsb,hin⟩
    ·have:(!(aD kvs (Sum.inr e.1:Key)).isSome)=true:=by
      cases q:aD kvs (Sum.inr e.1:Key) with
      |none=>rfl
      |some v=>exact absurd ((hes _).mpr ((g2 e.1).mp (by rw[q];rfl))) hin
     rw[this];refine bC (k false H2 s12 ⟨fun h=>(by cases h),fun h=>?_⟩);rw[hsplit] at h;rcases du.mp (notW hall1 h) with h|⟨h,_⟩
     ·exact absurd h hsb
     ·exact absurd h hin
  ·rintro σ H1 ⟨o3,o4,rfl,s1,hall⟩;rw[hlen,abS] at hall;refine k false H1 s1 ⟨fun h=>(by cases h),fun⟨y,h1,h2⟩=>?_⟩;obtain⟨e,he,rfl⟩:=acB.mp (Gram.dF _ _ _ h1);exact absurd h2 (hall e he).1
def Bg{C f:Addr}{fd:FuncData}(F:Fun K "can_end" "Guide.can_end" sCe f fd)(T:jE K C)(D1:Def P w K mg base "can_be_empty" 1 ["signs","empties"] qc)(D2:Def P w K mg base "signs_due" 1 ["waiting"] xT):aM P w K mg base CX0 2 f fd ["self","waiting"] (Ax C):=by
 refine F.ok BU (fun vs H Q E h=>?_) (fun cdv A outer s H vs Q E hr h=>?_)
 ·obtain⟨p,w',R,es,ws,rfl,_⟩:=h;rfl
 ·obtain⟨p,wl,R,es,ws,rfl,hG,hes,hW,hl,k⟩:=h;refine⟨_,ag (aO (aA D1 hr (by rfl) (ai (aA D2 hr (by rfl) (ai (pv 1) ac)) (ai (fQ (pv 0) rfl) ac)))),?_⟩;refine⟨_,rfl,wl,ws,rfl,hW,hl,fun q H1 s1 n1 hq=>?_⟩;obtain⟨dx,a,dn,db,de,res,h1,h2,h3,h4,h5,h6,h7⟩:=(hG.mono s1).ex;refine⟨_,rfl,p,C,dx,_,_,rfl,h1,T.cl,T.nK,gY _ _ _ _,q,de,_,es,rfl,hq,h7.emp hes,by rw[ab3];exact hl,fun H2 s2=>k _ H2 (s1.trans s2) ?_⟩;rw[abR];exact⟨fun h y hy=>abx (h y hy),fun h y hy=>aci (h y hy)⟩
end
end Nw
namespace Nw
open PySem L2
open SL (aj srt)
def tE{p:Nat->Prop}(h:∃n,p n):∃n,p n/\∀m,m<n->¬p m:=by
 obtain⟨n,hn⟩:=h
 induction n using Nat.strongRecOn with
 |_ n ih=>
  by_cases q:∃m,m<n/\p m
  ·obtain⟨m,hm,hp⟩:=q;exact ih m hm hp
  ·exact⟨n,hn,fun m hm hp=>q ⟨m,hm,hp⟩⟩
def Ay(R:List Row)(es:List Str)(z x:Str)(n:Nat):Prop:=SBn R es n x z/\∀m,m<n->¬SBn R es m x z
def nE{R:List Row}{es:List Str}{z:Str}:∀(n:Nat) (x:Str),Ay R es z x n->∃L:List Str,L.length=n/\L.Nodup/\∀y∈L,y∈R.map (·.1)/\∃k,k<=n/\Ay R es z y k
 |0,x,_=>⟨[],rfl,acj,fun y hy=>by cases hy⟩
 |n+1,x,⟨h1,h2⟩=>by
  have hx:=id h1;cases h1 with
  |@sort _ _ b _ r hm hl hb=>
   obtain⟨L,g1,g2,g3⟩:=nE n b ⟨hb,fun m hm' hs=>h2 (m+1) (by omega) (.sort hm hl hs)⟩;refine⟨x::L,by rw[abI,g1],ab6.mpr ⟨fun hxL=>?_,g2⟩,fun y hy=>?_⟩
   ·obtain⟨_,k,hk,hk2,_⟩:=g3 x hxL;exact h2 k (by omega) hk2
   ·rcases acq.mp hy with rfl|hy
    ·exact⟨acB.mpr ⟨_,hm,rfl⟩,n+1,acH _,hx,h2⟩
    ·obtain⟨a,k,hk,hk2⟩:=g3 y hy;exact⟨a,k,by omega,hk2⟩
def SB.Bh{R:List Row}{es:List Str}(h:Emp R es)(h3:eD R){x z:Str}(s:SB R x z):∃n,n<=3/\SBn R es n x z:=by
 obtain⟨n,hn,hm⟩:=tE (SB.deep h s);obtain⟨L,g1,g2,g3⟩:=nE n x ⟨hn,hm⟩;obtain⟨S,hS,hin⟩:=h3;have:=Gram.bU g2 (m:=S) fun y hy=>by
  obtain⟨p,hp,e⟩:=acB.mp (g3 y hy).1;rw[←e];exact hin p hp
 exact⟨n,by omega,hn⟩
def Aim.of3{R:List Row}{es:List Str}(h:Emp R es)(h3:eD R){z:Str}{D:List Str}(w:Wd R es D z):∃n j,n<=3/\Aim R es z D n j:=by
 obtain⟨s,hl,hs⟩:=w;obtain⟨j,h1,h2⟩:=jU hl;obtain⟨n,hn,hn'⟩:=SB.Bh h h3 hs;exact⟨n,j,hn,s,h1,h2,hn'⟩
structure xU(R:List Row)(es:List Str)(z:Str)(H0:Hp)(w:Addr)(J Jf:Hp->List (Str×Addr)->Prop):Prop where
 same:∀H ws,J H ws->ab H0 H
 bX:∀H H' ws,J H ws->(∀b o,b≠w->H b=some o->H' b=some o)->J H' ws
 stayF:∀H H' ws,Jf H ws->(∀b o,b≠w->H b=some o->H' b=some o)->Jf H' ws
 lst:∀H x L ws,J H ((x,L)::ws)->∃vs,H L=some (.lst vs)/\vs.length<sizeLine/\L≠w
 blank:∀H x L ws vs v t,J H ((x,L)::ws)->H L=some (.lst vs)->x∈es->¬SB R x z->Rep H0 v (Tr.d t)->t.ok R x->t.words=[]->J (upd H L (.lst (vs++[v]))) ws
 exp:∀H x L ws vs n r I t,J H ((x,L)::ws)->H L=some (.lst vs)->SB R x z->R[n]? =some (x,r)->Use R (x,r) z->H I=none->I≠w->upd H I (.lst []) t=none->t≠w->
  J (upd (upd (upd H I (.lst [])) t (.tup [.str x,.int (n:Nat),.ref I])) L (.lst (vs++[.ref t]))) (r.map (fun s=>(s,I))++ws)
 word:∀H L ws vs,J H ((z,L)::ws)->H L=some (.lst vs)->¬z∈R.map (·.1)->Jf (upd H L (.lst (vs++[.str z]))) ws
def xh{H:Hp}{a b:Addr}{o u:HO}(h:a≠b):upd (upd H a o) b u=upd (upd H b u) a o:=by
 funext c
 by_cases q:c=b
 ·subst q;rw[aa,ad (acQ h),aa]
 ·rw[ad q]
  by_cases q2:c=a
  ·subst q2;rw[aa,aa]
  ·rw[ad q2,ad q2,ad q]
def k6:kR dj:=fun _ _ _ _ s h=>h.mono s
def cq.keep{H H':Hp}{w:Addr}{ws:List (Str×Addr)}{vs:List V}(h:Paired (dj H) vs ws.reverse)(kt:∀b xs,H b=some (.tup xs)->H' b=some (.tup xs))(hw:H' w=some (.lst vs)):cq H' w ws:=
 ⟨vs,hw,Paired.bp h fun _ _ ⟨t,a,b⟩=>⟨t,a,kt _ _ b⟩⟩
def gI{H:Hp}{a:Addr}{R:List Row}(h:aQ H a R){i:Nat}{p:Row}(hp:R[i]? =some p):∃vs t b,H a=some (.lst vs)/\vs[i]? =some (.ref t)/\H t=some (.tup [.str p.1,.ref b])/\H b=some (.lst (p.2.map V.str))/\vs.length=R.length:=by
 obtain⟨vs,h1,h2⟩:=h;have hl:=aco h2;have hi:i<vs.length:=by rw[hl];exact(aaj.mp hp).1
 obtain⟨q,hq,t,b,e1,e2,e3⟩:=ba h2 i vs[i] (aao hi);rw[hp] at hq;cases hq;exact⟨vs,t,b,h1,by rw[←e1];exact aao hi,e2,e3,hl⟩
abbrev sTk:Stmt:=inClass (top 44) 3
def jF:aE ["self","waiting","word","taken","pair","sign","parts","inner","number"] ["self","waiting","word"] (am sTk):=acW
def Az(C:Addr):Sp:=fun vs H Q _=>∃(p wl:Addr) (z:Str) (R:List Row) (es:List Str) (ws:List (Str×Addr)) (H0:Hp) (J Jf:Hp->List (Str×Addr)->Prop),vs=[.ref p,.ref wl,.str z]/\d7 C H0 p R/\H0 wl=none/\Emp R es/\bM R/\Small R/\eD R/\xU R es z H0 wl J Jf/\
 cq H wl ws/\J H ws/\Fol R es (ws.map (·.1))/\Wd R es (ws.map (·.1)) z/\ws.length<=900000/\∀H' ws',cq H' wl ws'->Jf H' ws'->Take R z (ws.map (·.1)) (ws'.map (·.1))->ws'.length<=ws.length+80->Q .non H'
section
variable {P:Program}{w:World}{K:acX}{mg:Str->Option Value}{base:Heap}
def Bi{C f:Addr}{fd:FuncData}(F:Fun K "take" "Guide.take" sTk f fd)(T:jE K C)(hRv:mg "reversed"=none)(dBw:jD P w K mg base C "begins_with" 1 ["self","sign","word"] (xf C)):aM P w K mg base CX0 2 f fd ["self","waiting","word"] (Az C):=by
 refine F.ok jF (fun vs H Q E h=>?_) (fun cdv A outer s H vs Q E hr h=>?_)
 ·obtain⟨p,wl,z,R,es,ws,H0,J,Jf,rfl,_⟩:=h;rfl
 ·obtain⟨p,wl,z,R,es,ws0,H0,J,Jf,rfl,hG0,hw0,hes,nc,hsm,h3,st,hW0,hJ0,hF0,hWd0,hl0,k⟩:=h;have hu:=bO hr;refine⟨_,af (ak (i:=3) jF.nd rfl (Or.inl rfl) c8)
   (ag (dD ace (eY (bN (pv 3)))
    (af (ak (i:=4) jF.nd rfl (Or.inl rfl) (jf aay aaP aaQ jg (pv 1)))
    (af (ak (i:=5) jF.nd rfl (Or.inl rfl) (aG aR (pv 4) aq (fun _ _=>rfl)))
    (af (ak (i:=6) jF.nd rfl (Or.inl rfl) (aG aR (pv 4) aq (fun _ _=>rfl)))
    (ag (bh (eY (bN (gp dBw T.cl (pv 0) hr (ai (pv 5) (ai (pv 2) ac)))))
     (ag (bc (bW aay aas aat aY (pv 6) (ai (bK hu (fQ (pv 0) rfl) (pv 5) (fun _ _=>rfl)) ac))))
     (ag (bh (ej (ik hu (pv 5) (fQ (pv 0) rfl)))
      (af (ak (i:=7) jF.nd rfl (Or.inr rfl) (bg ac))
      (af (ak (i:=8) jF.nd rfl (Or.inl rfl) (bK hu (fQ (pv 0) rfl) (bj (ai (pv 5) (ai (pv 2) ac))) (fun _ _=>rfl)))
      (af (bc (bW aay aas aat aY (pv 6) (ai (bj (ai (pv 5) (ai (pv 8) (ai (pv 7) ac)))) ac)))
      (ag (bc (bW aay aaq aar dE (pv 1) (ai
       (cV (aU.one (N:=["due","inner"]) (sel:=[none,some 7]) "inner" (by rfl) (by rfl) (by rfl) (by decide) (by decide) (by rfl) (by rfl) ⟨_,rfl,rfl⟩ (by rfl) (rc rfl rfl)) rfl
        (jB (by rfl) hRv (ai (aG aR (aG a0 (fQ (pv 0) rfl) (pv 8) (fun _ _=>rfl)) aq (fun _ _=>rfl)) ac))
        (fun s₃ H₃ fp=>ap (i:=0) (show(["due","inner"]:List Str).Nodup by decide) rfl (Or.inl rfl)) (fun s₃ H₃ fp=>cI)
        (fun s₃ H₃ fp=>bj (ai (pv 0) (ai (pv 1) ac)))) ac)))))))
      (af (bc (bW aay aas aat aY (pv 6) (ai (pv 2) ac)))
      (ag (ak (i:=3) jF.nd rfl (Or.inl rfl) c8)))))))))))),?_⟩
  obtain⟨n0,j0,hn3,hA0⟩:=Aim.of3 hes h3 hWd0;refine⟨fun m σ H1=>∃tk ws o4 o5 o6 o7 o8,σ=[some (.ref p),some (.ref wl),some (.str z),some (.bl tk),o4,o5,o6,o7,o8]/\cq H1 wl ws/\
    ((tk=true/\m=0/\Jf H1 ws/\Take R z (ws0.map (·.1)) (ws.map (·.1))/\ws.length<=ws0.length+80)\/
    ∃n j,tk=false/\m=21*n+j+1/\J H1 ws/\Fol R es (ws.map (·.1))/\Aim R es z (ws.map (·.1)) n j/\(∀D',Take R z (ws.map (·.1)) D'->Take R z (ws0.map (·.1)) D')/\ws.length+20*n<=ws0.length+60),
   ⟨_,false,ws0,_,_,_,_,_,rfl,hW0,.inr ⟨n0,j0,rfl,rfl,hJ0,hF0,hA0,fun _ h=>h,by omega⟩⟩,?_⟩
  rintro m σ H1 ⟨tk,ws,o4,o5,o6,o7,o8,rfl,hW,hst⟩;rcases hst with ⟨rfl,rfl,hJf,hT,hwl⟩|⟨n,j,rfl,rfl,hJ,hF,hA,hTk,hlen⟩
  ·exact⟨_,rfl,_,rfl,aT (k H1 ws hW hJf hT hwl)⟩
  refine⟨_,rfl,_,rfl,bC ?_⟩;obtain⟨x,L,ws',rfl⟩:∃x L ws',ws=(x,L)::ws':=by
   cases ws with
   |nil=>obtain⟨x,h,_⟩:=hA;cases h
   |cons e ws'=>exact⟨e.1,e.2,ws',rfl⟩
  have hWd:=hA.wd hes;have s1:=st.same _ _ hJ;obtain⟨vs,hv,hp⟩:=id hW;rw[abH] at hp;obtain⟨vi,vl,rfl⟩:∃vi vl,vs=vi++[vl]:=by
   rcases aaR vs with rfl|⟨vi,vl,e⟩
   ·have:=aco hp;rw[abi,aaH,ab8] at this;omega
   ·exact⟨vi,vl,by rw[e,aaO]⟩
  obtain⟨k',y,ek,hpi,hvl⟩:=fO hp;obtain⟨ek1,ek2⟩:=List.append_inj' ek rfl;injection ek2 with ek2;subst ek1 ek2;obtain⟨t0,rfl,ht0⟩:=hvl;have nt0:t0≠wl:=fun e=>by rw[e,hv] at ht0;cases ht0
  refine⟨fun σ H2=>∃tk ws o4 o5 o6 o7 o8,σ=[some (.ref p),some (.ref wl),some (.str z),some (.bl tk),o4,o5,o6,o7,o8]/\cq H2 wl ws/\
    ((tk=true/\Jf H2 ws/\Take R z (ws0.map (·.1)) (ws.map (·.1))/\ws.length<=ws0.length+80)\/
    ∃n' j',tk=false/\21*n'+j'<21*n+j/\J H2 ws/\Fol R es (ws.map (·.1))/\Aim R es z (ws.map (·.1)) n' j'/\(∀D',Take R z (ws.map (·.1)) D'->Take R z (ws0.map (·.1)) D')/\ws.length+20*n'<=ws0.length+60),?_,?_⟩
  ·rintro σ' H2 ⟨tk,ws2,p4,p5,p6,p7,p8,rfl,hW2,h2⟩;rcases h2 with ⟨rfl,a,b,c⟩|⟨n',j',rfl,a,b⟩
   ·exact⟨0,by omega,true,ws2,_,_,_,_,_,rfl,hW2,.inl ⟨rfl,rfl,a,b,c⟩⟩
   ·exact⟨21*n'+j'+1,by omega,false,ws2,_,_,_,_,_,rfl,hW2,.inr ⟨n',j',rfl,rfl,b⟩⟩
  refine⟨_,rfl,.inl ⟨rfl,_,SqL.of hv⟩,wl,_,V.ref t0,rfl,rfl,hv,by simp,?_⟩;rw[aaZ];have offW:∀b o,b≠wl->H1 b=some o->upd H1 wl (.lst vi) b=some o:=fun b o n e=>by rw[ad n];exact e
  have hJ2:=st.bX _ _ _ hJ offW;have s2:=st.same _ _ hJ2;have hv2:upd H1 wl (.lst vi) wl=some (.lst vi):=aa;have hpi2:Paired (dj (upd H1 wl (.lst vi))) vi ws'.reverse:=Paired.bp hpi fun _ _ ⟨t,a,b⟩=>⟨t,a,offW _ _ (fun e=>by rw[e,hv] at b;cases b) b⟩
  have ht2:=offW _ _ nt0 ht0;generalize upd H1 wl (.lst vi)=H2 at hJ2 s2 hv2 hpi2 ht2;have hvil:vi.length=ws'.length:=by rw[aco hpi2,abb]
  have hl9:ws'.length+1+20*n<=ws0.length+60:=by rw[abI] at hlen;omega
  refine⟨_,rfl,t0,_,0,_,rfl,rfl,SqT.of ht2,au (j:=0) rfl,?_⟩;refine⟨_,rfl,t0,_,1,_,rfl,rfl,SqT.of ht2,au (j:=1) rfl,?_⟩;have hG2:=hG0.mono s2;obtain⟨dx,a,dn,db,de,res,g1,g2,g3,g4,g5,g6,g7⟩:=hG0.ex;refine⟨_,rfl,p,dx,_,rfl,s2 _ _ g1,tw _ _ _ _ (by decide +kernel) (by decide +kernel) (by decide +kernel) (by decide +kernel),_,rfl,_,rfl,p,x,z,R,rfl,hG2,fun b H3 s3 hb=>⟨_,rfl,?_⟩⟩;have hJ3:=st.bX _ _ _ hJ2 fun b o _ e=>s3 b o e
  have hv3:=s3 _ _ hv2;have hpi3:Paired (dj H3) vi ws'.reverse:=Paired.bp hpi2 fun _ _ d=>d.mono s3
  have s03:=s2.trans s3;have g1':=s03 _ _ g1
  by_cases hsb:SB R x z
  ·rw[hb.mpr hsb];refine aT ?_;obtain⟨kb,hkb,hpb⟩:=id (g4.mono s03);refine⟨_,rfl,_,rfl,p,C,dx,_,_,rfl,g1',T.cl,T.nB,nA _ _ _ _,db,_,rfl,bu.k (k:=Sum.inr x) hkb,_,rfl,?_⟩;rcases hsb with ⟨hxs,hbeg⟩|⟨hxs,rfl⟩
   ·
    have hsb:SB R x z:=.inl ⟨hxs,hbeg⟩;have hin:(aD kb (Sum.inr x:Key)).isSome=true:=by
     rcases fG hpb x with ⟨e1,_⟩|⟨ys,l,_,e2,_⟩
     ·exfalso;rw[←aN,←g5] at hxs;obtain⟨e,he,ex⟩:=acB.mp hxs;exact(List.lookup_eq_none_iff.mp e1) e he |> fun h=>by rw[ex] at h;simp at h
     ·rw[e2];rfl
    rw[hin];refine bC ?_;obtain⟨r,hm,hwr⟩:=u6 hes hbeg;obtain⟨num,hnum⟩:=aaN.mp hm;have huse:Use R (x,r) z:=⟨es,hes,.inl hwr⟩;have hr20:r.length<=20:=hsm.wid _ hm;have j0:j=0:=by
     cases j with
     |zero=>rfl
     |succ j'=>
      exfalso;obtain⟨hy,a'⟩:=hA.tail;exact hF.apart nc hes hy (a'.wd hes) hsb
    subst j0;obtain⟨n',j',rfl,hj',hA'⟩:=hA.exp nc hes hxs hm huse;refine⟨by decide,fun I hI=>?_⟩;have nIw:I≠wl:=fun e=>by rw[e,hv3] at hI;cases hI
    have sI:=ab.upd (o:=HO.lst []) hI;obtain⟨kn,hkn,hnums⟩:=((g3.mono s03).mono sI).ex;refine⟨_,rfl,p,C,dx,_,_,rfl,sI _ _ g1',T.cl,T.nN,tu _ _ _ _,_,rfl,_,rfl,acU,fun tn htn=>?_⟩;have sn:=ab.upd (o:=HO.tup [.str x,.str z]) htn;have sIn:=sI.trans sn;refine⟨dn,.int (num:Nat),rfl,by rw[←hnums num (x,r) z hnum huse];exact bu.t (k:=aL (x,z)) (sn _ _ hkn) aa,?_⟩;have nItn:I≠tn:=fun e=>by rw[←e,aa] at htn;cases htn
    have htn3:H3 tn=none:=by rw[ad (acQ nItn)] at htn;exact htn
    have ntw:tn≠wl:=fun e=>by rw[e,hv3] at htn3;cases htn3
    have eH:upd (upd H3 I (.lst [])) tn (.tup [.str x,.str z])=upd (upd H3 tn (.tup [.str x,.str z])) I (.lst []):=xh nItn;have sS:=ab.upd (o:=HO.tup [.str x,.str z]) htn3;have hJs:=st.bX _ _ _ hJ3 fun b o _ e=>sS b o e
    have hIs:upd H3 tn (.tup [.str x,.str z]) I=none:=by rw[ad nItn];exact hI
    obtain⟨vsL,hL3,hLl,nLw⟩:=st.lst _ _ _ _ hJ3;have hLs:=sS _ _ hL3;have hLn:=sn _ _ (sI _ _ hL3);refine⟨_,rfl,.inl ⟨rfl,_,SqL.of hLn⟩,_,rfl,_,rfl,_,rfl,acV,fun t ht=>?_⟩;have stt:=ab.upd (o:=HO.tup [.str x,.int (num:Nat),.ref I]) ht;have ntt:t≠wl:=fun e=>by rw[e,sn _ _ (sI _ _ hv3)] at ht;cases ht
    refine⟨L,vsL,_,rfl,rfl,stt _ _ hLn,hLl,?_⟩;have hJ6:=st.exp _ x L ws' vsL num r I t hJs hLs hsb hnum huse hIs nIw (by rw[←eH];exact ht) ntt;rw[←eH] at hJ6;have nLI:L≠I:=fun e=>by rw[e,hI] at hL3;cases hL3
    have kT:∀b xs,H3 b=some (.tup xs)->upd (upd (upd (upd H3 I (.lst [])) tn (.tup [.str x,.str z])) t (.tup [.str x,.int (num:Nat),.ref I])) L (.lst (vsL++[.ref t])) b=some (.tup xs):=fun b xs e=>by
     rw[ad (fun q=>by rw[q,hL3] at e;cases e)];exact stt _ _ (sn _ _ (sI _ _ e))
    have hv6:upd (upd (upd (upd H3 I (.lst [])) tn (.tup [.str x,.str z])) t (.tup [.str x,.int (num:Nat),.ref I])) L (.lst (vsL++[.ref t])) wl=some (.lst vi):=by
     rw[ad (acQ nLw)];exact stt _ _ (sn _ _ (sI _ _ hv3))
    generalize upd (upd (upd (upd H3 I (.lst [])) tn (.tup [.str x,.str z])) t (.tup [.str x,.int (num:Nat),.ref I])) L (.lst (vsL++[.ref t]))=H6 at hJ6 kT hv6;have s06:=st.same _ _ hJ6;have hpi6:Paired (dj H6) vi ws'.reverse:=Paired.bp hpi3 fun _ _ ⟨t,a,b⟩=>⟨t,a,kT _ _ b⟩
    obtain⟨rs,tr,br,hrs,hri,htr,hbr,hrl⟩:=gI (g2.mono s06) hnum;refine⟨_,rfl,.inl ⟨rfl,_,SqL.of hv6⟩,_,rfl,p,C,dx,_,_,rfl,s06 _ _ g1,T.cl,T.nR,yQ _ _ _ _,_,rfl,a,_,(num:Int),_,rfl,rfl,SqL.of hrs,au hri,tr,_,1,_,rfl,rfl,SqT.of htr,au (j:=1) rfl,br,r.map V.str,rfl,SqL.of hbr,fun D hD=>?_⟩;refine jC (K:=K) (xs:=r.map V.str) (fun i τ H7=>(∃o,τ=[o,some (.ref I)])/\cA dj H6 D H7 ((r.reverse.map fun s=>(s,I)).take i)) ⟨⟨_,rfl⟩,cA.zero hD⟩ ?_ ?_ ?_
    ·rintro i τ H7 ⟨_,hg⟩;exact SqL.of ((hg.fin k6).1 _ _ hbr)
    ·rintro i y τ H7 hy ⟨⟨o,rfl⟩,hg⟩;rw[←List.map_reverse] at hy;obtain⟨sg,hsg,rfl⟩:=bH hy;have hil:i<r.reverse.length:=(aaj.mp hsg).1;rw[abb] at hil;refine⟨_,rfl,_,rfl,acU,fun t2 ht2=>?_⟩;have s8:=ab.upd (o:=HO.tup [.str sg,.ref I]) ht2;have hg8:=hg.on k6 s8;obtain⟨ys,hys,_⟩:=id hg8;have hyl:=hg8.len hys;rw[abK] at hyl;refine⟨ys,hys,az (by omega),⟨_,rfl⟩,?_⟩;rw[acm,abt,hsg];refine hg8.add hD hys ⟨t2,rfl,?_⟩;have:t2≠D:=fun e=>by
      obtain⟨y6,hy6,_⟩:=id hg;rw[e,hy6] at ht2;cases ht2
     rw[hide_ne this];exact aa
    ·rintro τ H7 ⟨_,hg⟩;have ht7:(r.reverse.map fun s=>(s,I)).take (r.map V.str).length=r.reverse.map fun s=>(s,I):=aaE (by rw[ab3,ab3,abb];exact acH _)
     rw[ht7] at hg;obtain⟨s7,ds,hds,hdp⟩:=hg.fin k6;have hdl:ds.length=r.length:=by rw[aco hdp,ab3,abb]
     refine⟨wl,D,vi,ds,rfl,rfl,s7 _ _ hv6,hds,acz (qd (by omega)),false,r.map (fun s=>(s,I))++ws',_,_,_,_,_,rfl,?_,.inr ⟨n',j',rfl,by omega,?_,?_,?_,fun D' tD=>?_,?_⟩⟩
     ·refine⟨vi++ds,aa,?_⟩;rw[abc,←List.map_reverse];have kt:∀{v:V} {e:Str×Addr},dj H7 v e->dj (upd H7 wl (.lst (vi++ds))) v e:=fun{v e} ⟨t,q1,q2⟩=>⟨t,q1,by rw[ad (fun q=>by rw[q,s7 _ _ hv6] at q2;cases q2)];exact q2⟩
      exact df (Paired.bp hpi6 fun _ _ d=>kt (d.mono s7)) (Paired.bp hdp fun _ _ d=>kt d)
     ·exact st.bX _ _ _ hJ6 fun b o n e=>by rw[ad n];exact s7 _ _ e
     ·rw[ab9,acD];have:(r.map ((fun x:Str×Addr=>x.1) ∘ fun s=>(s,I)))=r:=acL r;rw[this];exact hF.exp hm
     ·rw[ab9,acD];have:(r.map ((fun x:Str×Addr=>x.1) ∘ fun s=>(s,I)))=r:=acL r;rw[this];exact hA'
     ·rw[ab9,acD] at tD;have:(r.map ((fun x:Str×Addr=>x.1) ∘ fun s=>(s,I)))=r:=acL r;rw[this] at tD;exact hTk _ (.exp hsb hm huse tD)
     ·rw[abi,ab3];omega
   ·
    have hin:(aD kb (Sum.inr z:Key)).isSome=false:=by
     rcases fG hpb z with ⟨_,e2⟩|⟨ys,l,e1,_,_⟩
     ·rw[e2];rfl
     ·exfalso;refine hxs ?_;rw[←aN,←g5];exact acB.mpr ⟨_,lookup_mem e1,rfl⟩
    rw[hin];refine aT ?_;obtain⟨vsL,hL3,hLl,nLw⟩:=st.lst _ _ _ _ hJ3;refine⟨_,rfl,.inl ⟨rfl,_,SqL.of hL3⟩,_,rfl,L,vsL,_,rfl,rfl,hL3,hLl,true,ws',_,_,_,_,_,rfl,?_,.inl ⟨rfl,st.word _ L ws' vsL hJ3 hL3 hxs,hTk _ (.word hxs),by omega⟩⟩;refine cq.keep hpi3 (fun b xs e=>?_) (by rw[ad (acQ nLw)];exact hv3);rw[ad (fun q=>by rw[q,hL3] at e;cases e)];exact e
  ·
   have hbf:b=false:=by
    cases b with
    |false=>rfl
    |true=>exact absurd (hb.mp rfl) hsb
   rw[hbf];refine bC ?_;obtain⟨j',rfl⟩:∃j',j=j'+1:=by
    cases j with
    |zero=>
     exfalso;obtain⟨x',h1,_,h2⟩:=hA;have h1:some x=some x':=h1;injection h1 with h1;subst h1;exact hsb (h2.sb hes)
    |succ j'=>exact⟨j',rfl⟩
   obtain⟨hxe,hA'⟩:=hA.tail;obtain⟨kvs,b1,b2,b3⟩:=g7.ex;obtain⟨v,hv'⟩:∃v,aD kvs (Sum.inr x:Key)=some v:=by
    have:=(b2 x).mpr ((hes x).mp hxe);cases q:aD kvs (Sum.inr x:Key) with
    |none=>rw[q] at this;cases this
    |some v=>exact⟨v,rfl⟩
   obtain⟨t,c1,c2,c3⟩:=b3 x v hv';obtain⟨vsL,hL3,hLl,nLw⟩:=st.lst _ _ _ _ hJ3;refine⟨_,rfl,.inl ⟨rfl,_,SqL.of hL3⟩,_,rfl,p,C,dx,_,_,rfl,g1',T.cl,T.nK,gY _ _ _ _,_,rfl,de,v,rfl,by rw[←hv'];exact bu.k (k:=Sum.inr x) (s03 _ _ b1),L,vsL,_,rfl,rfl,hL3,hLl,false,ws',_,_,_,_,_,rfl,?_,.inr ⟨n,j',rfl,by omega,st.blank _ x L ws' vsL v t hJ3 hL3 hxe hsb c3 c1 c2,hF.tail,hA',fun D' tD=>hTk _ (.blank hsb tD),by omega⟩⟩;refine cq.keep hpi3 (fun b xs e=>?_) (by rw[ad (acQ nLw)];exact hv3);rw[ad (fun q=>by rw[q,hL3] at e;cases e)];exact e
end
end Nw
namespace Nw
open PySem L2
open SL (aj srt)
def gZ(H0 H:Hp)(wl:Addr)(dom:List Addr)(plan:Addr->List Tr)(v:V)(c:Tr):Prop:=
 (∃s,v=.str s/\c=.w s)\/Rep H0 v c.d\/∃t s i L,v=.ref t/\t≠wl/\H t=some (.tup [.str s,.int ((i:Nat):Int),.ref L])/\L∈dom/\c=.n s i (plan L)
def pick(L:Addr)(ws:List (Str×Addr))(F:List Tr):List Tr:=((ws.zip F).filter fun q=>decide (q.1.2=L)).map (·.2)
def gJ{L:Addr}{x:Str}{ws:List (Str×Addr)}{t:Tr}{F:List Tr}:pick L ((x,L)::ws) (t::F)=t::pick L ws F:=by
 unfold pick;rw[List.zip_cons_cons,List.filter_cons_of_pos (by simp)];rfl
def jG{L L':Addr}(h:L'≠L){x:Str}{ws:List (Str×Addr)}{t:Tr}{F:List Tr}:pick L ((x,L')::ws) (t::F)=pick L ws F:=by
 unfold pick;rw[List.zip_cons_cons,List.filter_cons_of_neg (by simp[h])]
def qg{I:Addr}{ws:List (Str×Addr)}{G:List Tr}(hn:∀e∈ws,e.2≠I):∀{r:List Str} {ps:List Tr},ps.length=r.length->pick I (r.map (fun s=>(s,I))++ws) (ps++G)=ps
 |[],ps,h=>by
  have:ps=[]:=aav.mp h;subst this;show pick I ws G=[];unfold pick;rw[List.map_eq_nil_iff,List.filter_eq_nil_iff];intro q hq;have:=hn q.1 (List.of_mem_zip hq).1;simpa using this
 |s::r,[],h=>by cases h
 |s::r,t::ps,h=>by
  show pick I ((s,I)::(r.map (fun s=>(s,I))++ws)) (t::(ps++G))=t::ps;rw[gJ,qg hn (by simpa using h)]
def nF{I L:Addr}(h:I≠L){ws:List (Str×Addr)}{G:List Tr}:∀{r:List Str} {ps:List Tr},ps.length=r.length->pick L (r.map (fun s=>(s,I))++ws) (ps++G)=pick L ws G
 |[],ps,e=>by
  have:ps=[]:=aav.mp e;subst this;rfl
 |s::r,[],e=>by cases e
 |s::r,t::ps,e=>by
  show pick L ((s,I)::(r.map (fun s=>(s,I))++ws)) (t::(ps++G))=_;rw[jG h,nF h (by simpa using e)]
structure PJ(R:List Row)(es:List Str)(H0:Hp)(wl top:Addr)(T:Tr)(W:List Str)(H:Hp)(ws:List (Str×Addr)):Prop where
 same:ab H0 H
 ex:∃(dom:List Addr) (plan:Addr->List Tr) (F:List Tr),top∈dom/\plan top=[T]/\(∀L∈dom,L≠wl/\H0 L=none/\(plan L).length<=900/\∃vs,H L=some (.lst vs)/\pick L ws F=(plan L).drop vs.length/\vs.length<=(plan L).length/\
   ∀(m:Nat) (v:V) (c:Tr),vs[m]? =some v->(plan L)[m]? =some c->gZ H0 H wl dom plan v c)/\Tr.okL R F (ws.map (·.1))/\Tr.aP F=W/\Fol R es (ws.map (·.1))/\∀e∈ws,e.2∈dom
section
variable {R:List Row}{es:List Str}{H0:Hp}{wl top:Addr}{T:Tr}{W:List Str}
def gZ.on{H H':Hp}{dom dom':List Addr}{plan plan':Addr->List Tr}(k:∀b xs,b≠wl->H b=some (.tup xs)->H' b=some (.tup xs))(hd:∀L∈dom,L∈dom'/\plan' L=plan L){v:V}{c:Tr}(h:gZ H0 H wl dom plan v c):gZ H0 H' wl dom' plan' v c:=by
 rcases h with h|h|⟨t,s,i,L,h1,h2,h3,h4,h5⟩
 ·exact .inl h
 ·exact .inr (.inl h)
 ·exact .inr (.inr ⟨t,s,i,L,h1,h2,k _ _ h2 h3,(hd L h4).1,by rw[(hd L h4).2];exact h5⟩)
def PJ.bX(hw0:H0 wl=none){H H':Hp}{ws:List (Str×Addr)}(h:PJ R es H0 wl top T W H ws)(k:∀b o,b≠wl->H b=some o->H' b=some o):PJ R es H0 wl top T W H' ws:=by
 obtain⟨dom,plan,F,h1,h2,h3,h4⟩:=h.ex;refine⟨fun b o e=>k b o (fun z=>by rw[z,hw0] at e;cases e) (h.same _ _ e),dom,plan,F,h1,h2,fun L hL=>?_,h4⟩;obtain⟨a1,a2,a3,vs,a4,a5,a6,a7⟩:=h3 L hL;exact⟨a1,a2,a3,vs,k _ _ a1 a4,a5,a6,fun m v c e1 e2=>(a7 m v c e1 e2).on (fun b xs n e=>k b _ n e) fun L hL=>⟨hL,rfl⟩⟩
def PJ.lst{H:Hp}{x:Str}{L:Addr}{ws:List (Str×Addr)}(h:PJ R es H0 wl top T W H ((x,L)::ws)):∃vs,H L=some (.lst vs)/\vs.length<sizeLine/\L≠wl:=by
 obtain⟨dom,plan,F,h1,h2,h3,h4,h5,h6,h7⟩:=h.ex;obtain⟨a1,a2,a3,vs,a4,a5,a6,a7⟩:=h3 L (h7 _ (abe ..));exact⟨vs,a4,az (by omega),a1⟩
def PJ.put{H H1:Hp}{x:Str}{L:Addr}{ws ws':List (Str×Addr)}{vs:List V}{v:V}{t0:Tr}{G G':List Tr}{dom dom':List Addr}{plan plan':Addr->List Tr}{W':List Str}
  (same:ab H0 H)(s1:ab H H1)(h1:top∈dom)(h2:plan top=[T])
  (h3:∀L'∈dom,L'≠wl/\H0 L'=none/\(plan L').length<=900/\∃vs,H L'=some (.lst vs)/\pick L' ((x,L)::ws) (t0::G)=(plan L').drop vs.length/\vs.length<=(plan L').length/\
   ∀(m:Nat) (v:V) (c:Tr),vs[m]? =some v->(plan L')[m]? =some c->gZ H0 H wl dom plan v c)
  (hL:L∈dom)(hLv:H L=some (.lst vs))(hd:∀L∈dom,L∈dom'/\plan' L=plan L)
  (hv:gZ H0 (upd H1 L (.lst (vs++[v]))) wl dom' plan' v t0)(hp:∀L'∈dom,pick L' ws' G'=pick L' ws G)
  (hnew:∀L'∈dom',¬L'∈dom->L'≠wl/\H0 L'=none/\(plan' L').length<=900/\H1 L'=some (.lst [])/\pick L' ws' G'=plan' L')
  (hok:Tr.okL R G' (ws'.map (·.1)))(hW:Tr.aP G'=W')(hF:Fol R es (ws'.map (·.1)))(he:∀e∈ws',e.2∈dom') :
  PJ R es H0 wl top T W' (upd H1 L (.lst (vs++[v]))) ws':=by
 have nL:H0 L=none:=(h3 L hL).2.1;have kt:∀b xs,b≠wl->H b=some (.tup xs)->upd H1 L (.lst (vs++[v])) b=some (.tup xs):=fun b xs _ e=>by
  rw[ad (fun q=>by rw[q,hLv] at e;cases e)];exact s1 _ _ e
 refine⟨(same.trans s1).bG nL,dom',plan',G',(hd _ h1).1,by rw[(hd _ h1).2];exact h2,fun L' hL'=>?_,hok,hW,hF,he⟩
 by_cases hold:L'∈dom
 ·obtain⟨a1,a2,a3,vs',a4,a5,a6,a7⟩:=h3 L' hold;have ep:=(hd L' hold).2
  by_cases q:L'=L
  ·subst q;rw[hLv] at a4;cases a4;rw[gJ] at a5;have hlt:vs.length<(plan L').length:=by
    rcases acE vs.length (plan L').length with z|z
    ·exact z
    ·rw[aaD z] at a5;cases a5
   have hget:(plan L')[vs.length]? =some t0:=by
    rw[aan hlt] at a5;injection a5 with a5 _;rw[aao hlt,a5]
   have hrest:pick L' ws G=(plan L').drop (vs.length+1):=by
    rw[aan hlt] at a5;injection a5
   refine⟨a1,a2,by rw[ep];exact a3,vs++[v],aa,?_,by rw[ep,abi,aaH];exact hlt,fun m u c e1 e2=>?_⟩
   ·rw[hp L' hold,hrest,ep,abi,aaH]
   ·rw[ep] at e2;rcases Nat.lt_trichotomy m vs.length with z|z|z
    ·rw[aak z] at e1;exact(a7 m u c e1 e2).on kt hd
    ·subst z;rw[aag (acH _),acF] at e1;cases e1
     rw[hget] at e2;cases e2;exact hv
    ·rw[aaM (by rw[abi,aaH];omega)] at e1;cases e1
  ·rw[jG (acQ q)] at a5;refine⟨a1,a2,by rw[ep];exact a3,vs',by rw[ad q];exact s1 _ _ a4,by rw[hp L' hold,ep];exact a5,by rw[ep];exact a6,fun m u c e1 e2=>?_⟩;rw[ep] at e2;exact(a7 m u c e1 e2).on kt hd
 ·obtain⟨a1,a2,a3,a4,a5⟩:=hnew L' hL' hold;have nq:L'≠L:=fun q=>hold (by rw[q];exact hL)
  refine⟨a1,a2,a3,[],by rw[ad nq];exact a4,a5,acI _,fun m u c e1=>by cases e1⟩
def PJ.blank(nc:bM R)(hes:Emp R es){z:Str}(hWz:∀y l,W=y::l->y=z){H:Hp}{x:Str}{L:Addr}{ws:List (Str×Addr)}{vs:List V}{v:V}{t:Tr}(h:PJ R es H0 wl top T W H ((x,L)::ws))(hL:H L=some (.lst vs))(hz:W=[]\/¬SB R x z)
  (hr:Rep H0 v t.d)(hok:t.ok R x)(hwd:t.words=[]):PJ R es H0 wl top T W (upd H L (.lst (vs++[v]))) ws:=by
 obtain⟨dom,plan,F,h1,h2,h3,h4,h5,h6,h7⟩:=h.ex;cases F with
 |nil=>
  have h4:(((x,L)::ws).map (·.1))=[]:=h4;cases h4
 |cons t0 G=>
  obtain⟨s,r,e,k1,k2⟩:∃s r,((x,L)::ws).map (·.1)=s::r/\Tr.ok R t0 s/\Tr.okL R G r:=h4;injection e with e1 e2;have e1:x=s:=e1;subst e1 e2;have h5':t0.words++Tr.aP G=W:=h5;have ht0:t0.words=[]:=by
   cases q:t0.words with
   |nil=>rfl
   |cons y l=>
    exfalso;rw[q] at h5';have hy:=hWz y _ h5'.symm;subst hy;rcases hz with hz|hz
    ·rw[hz] at h5';cases h5'
    ·exact hz ((Tr.jz hes k1).2 _ _ q)
  have eq:t0=t:=by
   have e:t0::G=t::G:=Tr.yK nc hes _ (acH _) h6 ⟨x,_,rfl,k1,k2⟩ ⟨x,_,rfl,hok,k2⟩ (by
    show t0.words++Tr.aP G=t.words++Tr.aP G;rw[ht0,hwd])
   injection e
  subst eq;rw[ht0] at h5';exact PJ.put (dom':=dom) (plan':=plan) h.same (ab.refl _) h1 h2 h3 (h7 _ (abe ..)) hL (fun L hL=>⟨hL,rfl⟩) (.inr (.inl hr)) (fun _ _=>rfl) (fun _ a b=>absurd a b) k2 h5' h6.tail fun e he=>h7 e (aaU _ he)
def PJ.exp(nc:bM R)(hes:Emp R es)(hsm:Small R){z:Str}{rest:List Str}{H:Hp}{x:Str}{L I t:Addr}{ws:List (Str×Addr)}{vs:List V}{n:Nat}{r:List Str}(h:PJ R es H0 wl top T (z::rest) H ((x,L)::ws))(hL:H L=some (.lst vs))
  (hn:R[n]? =some (x,r))(hu:Use R (x,r) z)(hI:H I=none)(nI:I≠wl)(ht:upd H I (.lst []) t=none)(nt:t≠wl) :
  PJ R es H0 wl top T (z::rest) (upd (upd (upd H I (.lst [])) t (.tup [.str x,.int (n:Nat),.ref I])) L (.lst (vs++[.ref t]))) (r.map (fun s=>(s,I))++ws):=by
 obtain⟨dom,plan,F,h1,h2,h3,h4,h5,h6,h7⟩:=h.ex;have hm:(x,r)∈R:=aaW hn;cases F with
 |nil=>
  have h4:(((x,L)::ws).map (·.1))=[]:=h4;cases h4
 |cons t0 G=>
  obtain⟨s,r',e,k1,k2⟩:∃s r',((x,L)::ws).map (·.1)=s::r'/\Tr.ok R t0 s/\Tr.okL R G r':=h4;injection e with e1 e2;have e1:x=s:=e1;subst e1 e2;cases t0 with
  |w y=>exact absurd (acB.mpr ⟨_,hm,rfl⟩) k1.2
  |n y i ps=>
   obtain⟨rfl,rr,hr,kk⟩:=k1;have ka:=Tr.jV kk k2;have ew:Tr.aP (ps++G)=z::rest:=by rw[Tr.fc];exact h5
   have u:=h6.use hes (aaW hr) (Tr.pQ hes ka);rw[ew] at u;have:=nc n i _ _ z hn hr rfl hu u;subst this;rw[hn] at hr;injection hr with hr;injection hr with _ hr;subst hr;have hpl:=Tr.d5 kk;have hLd:=h7 _ (abe ..);have nId:∀L'∈dom,I≠L':=fun L' hL' q=>by
    obtain⟨_,_,_,_,a4,_⟩:=h3 L' hL';rw[←q,hI] at a4;cases a4
   have sI:=ab.upd (o:=HO.lst []) hI;have st:=ab.upd (o:=HO.tup [.str y,.int (n:Nat),.ref I]) ht;have nIt:I≠t:=fun q=>by rw[←q,aa] at ht;cases ht
   have ntL:t≠L:=fun q=>by rw[q,sI _ _ hL] at ht;cases ht
   have hH0I:H0 I=none:=h.same.free hI;refine PJ.put (dom':=I::dom) (plan':=fun a=>if a=I then ps else plan a) h.same (sI.trans st) h1 h2 h3 hLd hL (fun L' hL'=>⟨aaU _ hL',acS (acQ (nId L' hL'))⟩) ?_ (fun L' hL'=>nF (nId L' hL') hpl) (fun L' hL' hn'=>?_) ?_ ew ?_ fun e he=>?_
   ·exact .inr (.inr ⟨t,y,n,I,rfl,nt,by rw[ad ntL];exact aa,abe ..,by show _=Tr.n y n (if I=I then ps else plan I);rw[acR rfl]⟩)
   ·rcases acq.mp hL' with rfl|q
    ·refine⟨nI,hH0I,?_,st _ _ aa,?_⟩
     ·show(if L'=L' then ps else plan L').length<=900;rw[acR rfl,hpl];exact acy (hsm.wid _ hm) (by decide)
     ·show _=(if L'=L' then ps else plan L');rw[acR rfl];exact qg (fun e he=>acQ (nId _ (h7 e (aaU _ he)))) hpl
    ·exact absurd q hn'
   ·rw[ab9,acD];have:(r.map ((fun x:Str×Addr=>x.1) ∘ fun s=>(s,I)))=r:=acL r;rw[this];exact ka
   ·rw[ab9,acD];have:(r.map ((fun x:Str×Addr=>x.1) ∘ fun s=>(s,I)))=r:=acL r;rw[this];exact h6.exp hm
   ·rcases ab0.mp he with q|q
    ·obtain⟨s,_,rfl⟩:=acB.mp q;exact abe ..
    ·exact aaU _ (h7 e (aaU _ q))
def PJ.word{z:Str}{rest:List Str}{H:Hp}{L:Addr}{ws:List (Str×Addr)}{vs:List V}(h:PJ R es H0 wl top T (z::rest) H ((z,L)::ws))(hL:H L=some (.lst vs))(hz:¬z∈R.map (·.1)):PJ R es H0 wl top T rest (upd H L (.lst (vs++[.str z]))) ws:=by
 obtain⟨dom,plan,F,h1,h2,h3,h4,h5,h6,h7⟩:=h.ex;cases F with
 |nil=>
  have h4:(((z,L)::ws).map (·.1))=[]:=h4;cases h4
 |cons t0 G=>
  obtain⟨s,r',e,k1,k2⟩:∃s r',((z,L)::ws).map (·.1)=s::r'/\Tr.ok R t0 s/\Tr.okL R G r':=h4;injection e with e1 e2;have e1:z=s:=e1;subst e1 e2;cases t0 with
  |n y i ps=>
   obtain⟨_,rr,hr,_⟩:=k1;exact absurd (acB.mpr ⟨_,aaW hr,rfl⟩) hz
  |w y=>
   obtain⟨rfl,_⟩:=k1;have h5:y::Tr.aP G=y::rest:=h5;injection h5 with _ h5;exact PJ.put (dom':=dom) (plan':=plan) h.same (ab.refl _) h1 h2 h3 (h7 _ (abe ..)) hL (fun L hL=>⟨hL,rfl⟩) (.inl ⟨y,rfl,rfl⟩) (fun _ _=>rfl) (fun _ a b=>absurd a b) k2 h5 h6.tail fun e he=>h7 e (aaU _ he)
def PJ.steps(nc:bM R)(hes:Emp R es)(hsm:Small R)(hw0:H0 wl=none)(z:Str)(rest:List Str):xU R es z H0 wl (PJ R es H0 wl top T (z::rest)) (PJ R es H0 wl top T rest) where
 same:=fun H ws h=>h.same
 bX:=fun H H' ws h k=>h.bX hw0 k
 stayF:=fun H H' ws h k=>h.bX hw0 k
 lst:=fun H x L ws h=>h.lst
 blank:=fun H x L ws vs v t h hL _ hsb hr hok hwd=>h.blank nc hes (fun y l e=>by injection e with e _;exact e.symm) hL (.inr hsb) hr hok hwd
 exp:=fun H x L ws vs n r I t h hL _ hn hu hI nI ht nt=>h.exp nc hes hsm hL hn hu hI nI ht nt
 word:=fun H L ws vs h hL hz=>h.word hL hz
def PJ.done{H:Hp}(h:PJ R es H0 wl top T W H []):∃v,H top=some (.lst [v])/\Rep H v T.d:=by
 obtain⟨dom,plan,F,h1,h2,h3,h4,h5,h6,h7⟩:=h.ex;have full:∀L∈dom,∃vs,H L=some (.lst vs)/\vs.length=(plan L).length/\∀(m:Nat) (v:V) (c:Tr),vs[m]? =some v->(plan L)[m]? =some c->gZ H0 H wl dom plan v c:=fun L hL=>by
  obtain⟨a1,a2,a3,vs,a4,a5,a6,a7⟩:=h3 L hL;have a5:([]:List Tr)=(plan L).drop vs.length:=by rw[←a5];unfold pick;rw[List.zip_nil_left];rfl
  have:=acN List.length a5;rw[abL] at this;have:0=(plan L).length - vs.length:=this;exact⟨vs,a4,by omega,a7⟩
 have key:∀(n:Nat) (c:Tr) (v:V),c.sz<=n->gZ H0 H wl dom plan v c->Rep H v c.d:=by
  intro n
  induction n with
  |zero=>intro c v hc _;have:=Tr.gD c;omega
  |succ n ih=>
   intro c v hc hv;rcases hv with ⟨s,rfl,rfl⟩|hr|⟨t,s,i,L,rfl,_,ht,hL,rfl⟩
   ·exact .str _
   ·exact hr.mono h.same
   ·obtain⟨vs,b1,b2,b3⟩:=full L hL;have hz:Tr.sz (.n s i (plan L))=1+Tr.szL (plan L):=rfl;refine iY ht b1 ⟨b2,fun m x u e1 e2=>?_⟩;have:=Tr.rh e2;exact ih u x (by omega) (b3 m x u e1 e2)
 obtain⟨vs,b1,b2,b3⟩:=full top h1;rw[h2] at b2 b3
 match vs,b2,b1,b3 with
 |[v],_,b1,b3=>exact⟨v,b1,key _ T v (acH _) (b3 0 v T rfl rfl)⟩
end
abbrev sFi:Stmt:=inClass (top 44) 5
def xi:aE ["self","waiting","sign","parts"] ["self","waiting"] (am sFi):=acW
def AA(C:Addr):Sp:=fun vs H Q _=>∃(p wl top:Addr) (R:List Row) (es:List Str) (ws:List (Str×Addr)) (H0:Hp) (T:Tr),vs=[.ref p,.ref wl]/\d7 C H0 p R/\H0 wl=none/\Emp R es/\bM R/\cq H wl ws/\(∀y∈ws.map (·.1),y∈es)/\PJ R es H0 wl top T [] H ws/\
 ∀H',PJ R es H0 wl top T [] H' []->Q .non H'
section
variable {P:Program}{w:World}{K:acX}{mg:Str->Option Value}{base:Heap}
def Bj{C f:Addr}{fd:FuncData}(F:Fun K "finish" "Guide.finish" sFi f fd)(T:jE K C)(hRv:mg "reversed"=none):aM P w K mg base CX0 1 f fd ["self","waiting"] (AA C):=by
 refine F.ok xi (fun vs H Q E h=>?_) (fun cdv A outer s H vs Q E hr h=>?_)
 ·obtain⟨p,wl,top,R,es,ws,H0,T,rfl,_⟩:=h;rfl
 ·obtain⟨p,wl,top,R,es,ws,H0,TT,rfl,hG0,hw0,hes,nc,hW,hall,hJ,k⟩:=h;have hu:=bO hr;refine⟨_,ag (bf ace rfl (jB (by rfl) hRv (ai (pv 1) ac)) (cx (n:=2) rfl (aH (ap (i:=2) xi.nd rfl (Or.inl rfl)) (aH (ap (i:=3) xi.nd rfl (Or.inl rfl)) bT)))
    (ag (bc (bW aay aas aat aY (pv 3) (ai (bK hu (fQ (pv 0) rfl) (pv 2) (fun _ _=>rfl)) ac))))),?_⟩
  obtain⟨vs,hv,hp⟩:=id hW;have hlen:vs.length=ws.length:=by rw[aco hp,abb]
  have hp':Paired (dj H) vs.reverse ws:=by
   have:=fi hp
   rwa [aa0] at this
  obtain⟨dx,a,dn,db,de,res,g1,g2,g3,g4,g5,g6,g7⟩:=hG0.ex;obtain⟨kvs,b1,b2,b3⟩:=g7.ex;refine⟨_,rfl,wl,vs,rfl,SqL.of hv,rC (K:=K) (a:=wl) (xs:=vs) (fun i σ H1=>∃o2 o3,σ=[some (.ref p),some (.ref wl),o2,o3]/\H1 wl=some (.lst vs)/\(∀b xs,H b=some (.tup xs)->H1 b=some (.tup xs))/\PJ R es H0 wl top TT [] H1 (ws.drop i))
   ⟨_,_,rfl,hv,fun _ _ e=>e,hJ⟩ ?_ ?_ ?_⟩
  ·rintro i σ H1 _ ⟨_,_,_,e,_⟩;exact SqL.of e
  ·rintro i x σ H1 hx ⟨o2,o3,rfl,hv1,kt,hJ1⟩;obtain⟨e,he,t,rfl,ht⟩:=ba hp' i x hx;have hil:=(aaj.mp he).1;have hdr:ws.drop i=(e.1,e.2)::ws.drop (i+1):=by
    rw[←aaF hil,(aaj.mp he).2]
   rw[hdr] at hJ1;have hxe:e.1∈es:=hall _ (acB.mpr ⟨e,aaW he,rfl⟩);obtain⟨v,hv'⟩:∃v,aD kvs (Sum.inr e.1:Key)=some v:=by
    have:=(b2 e.1).mpr ((hes e.1).mp hxe);cases q:aD kvs (Sum.inr e.1:Key) with
    |none=>rw[q] at this;cases this
    |some v=>exact⟨v,rfl⟩
   obtain⟨tb,c1,c2,c3⟩:=b3 e.1 v hv';obtain⟨vsL,hL,hLl,nLw⟩:=hJ1.lst;have s1:=hJ1.same;refine⟨t,_,rfl,SqT.of (kt _ _ ht),rfl,_,_,rfl,_,_,rfl,rfl,?_⟩;refine⟨_,rfl,.inl ⟨rfl,_,SqL.of hL⟩,_,rfl,p,C,dx,_,_,rfl,s1 _ _ g1,T.cl,T.nK,gY _ _ _ _,_,rfl,de,v,rfl,by rw[←hv'];exact bu.k (k:=Sum.inr e.1) (s1 _ _ b1),e.2,vsL,_,rfl,rfl,hL,hLl,_,_,rfl,by rw[ad (acQ nLw)];exact hv1,fun b xs q=>?_,hJ1.blank nc hes (z:="") (fun y l q=>by cases q) hL (.inl rfl) c3 c1 c2⟩;rw[ad (fun z=>by have e1:=kt _ _ q;rw[z,hL] at e1;cases e1)];exact kt _ _ q
  ·rintro σ H1 ⟨o2,o3,rfl,hv1,kt,hJ1⟩;rw[hlen,List.drop_length] at hJ1;exact k H1 hJ1
end
end Nw
namespace Nw
open PySem L2
open SL (aj srt)
structure oe(P:Program)(w:World)(K:acX)(mg:Str->Option Value)(base:Heap)(C:Addr)(k:Nat)(ps:List Str)(sp:Sp):Prop where
 ex:∃f fd,Mk K C f/\aM P w K mg base CX0 k f fd ps sp/\Binds K fd ps []
 at_:mg "Guide"=some (.ref C)
def xj{X:Cx}{C:Addr}{k:Nat}{ps:List Str}{sp:Sp}{p pos:Pos}{e:Expr}{es:List Expr}{t:TA}(D:oe X.prog X.w X.K X.mg X.base C k ps sp)(hr:a9 (k+1) X.A)(hg:Gl X "Guide")(ha:PA X (e::es) t)
  (he:starEach (e::es) X.env=(false,eval e X.env)::starEach es X.env:=by rfl)(hpl:(backTo pos (starEach es X.env)).any (·.1)=false:=by rfl):PE X (.Call (.Name "Guide" p) (e::es) [] pos) (xB C sp [] E0 t):=by
 obtain⟨f,fd,h1,h2,h3⟩:=D.ex;exact x6 h1 h2 hr hg D.at_ h3 .nil rW ha (by decide) he hpl
def PJ.start{R:List Row}{es:List Str}{H0 H:Hp}{wl top:Addr}{T:Tr}(s:ab H0 H)(h0:H0 top=none)(nt:top≠wl)(ht:H top=some (.lst []))(hok:T.ok R (bP R)):PJ R es H0 wl top T T.words H [(bP R,top)]:=by
 refine⟨s,[top],fun _=>[T],[T],abe ..,rfl,fun L hL=>?_,⟨_,_,rfl,hok,rfl⟩,?_,Fol.one,fun e he=>?_⟩
 ·have e:L=top:=abl.mp hL;subst e;refine⟨nt,h0,(by decide:1<=900),[],ht,?_,acI _,fun m v c e=>by cases e⟩;rw[gJ];rfl
 ·show T.words++[]=T.words;rw[ab5]
 ·rw[abl.mp he];exact abe ..
abbrev sRd:Stmt:=top 41
def mF:aE ["rows","line","guide","top","waiting","place","word"] ["rows","line"] (am sRd):=acW
def AB(TP:Addr):Sp:=fun vs H Q _=>∃(a ln:Addr) (R:List Row) (line:List Str) (T:Tr),vs=[.ref a,.ref ln]/\aQ H a R/\Good R/\Tight R/\eD R/\bM R/\ao H ln line/\line.length<=10000/\R≠[]/\T.ok R (bP R)/\T.words=line/\bx TP fe tmQ H/\
 ∀t x H',cz TP H H'->bx TP fe tmQ H'->H' t=some (.tup [.str "tree",x])->Rep H' x T.d->Q (.ref t) H'
section
variable {P:Program}{w:World}{K:acX}{mg:Str->Option Value}{base:Heap}
def Bk{TP C f:Addr}{fd:FuncData}(F:Fun K "read" "read" sRd f fd)(G:jE K C)(hEn:mg "enumerate"=none)(dMk:oe P w K mg base C 10 ["self","rows"] (xc C TP))(dFirst:Def P w K mg base "first_sort" 1 ["rows"] jM)
  (dGo:jD P w K mg base C "goes_on" 2 ["self","waiting","word"] (Aw C))(dTk:jD P w K mg base C "take" 2 ["self","waiting","word"] (Az C))(dCe:jD P w K mg base C "can_end" 2 ["self","waiting"] (Ax C))(dFi:jD P w K mg base C "finish" 1 ["self","waiting"] (AA C)) :
  aM P w K mg base CX0 12 f fd ["rows","line"] (AB TP):=by
 refine F.ok mF (fun vs H Q E h=>?_) (fun cdv A outer s H vs Q E hr h=>?_)
 ·obtain⟨a,ln,R,line,T,rfl,_⟩:=h;rfl
 ·obtain⟨a,ln,R,line,T,rfl,hR,hg,ht,h3,nc,hln,hl4,hRne,hok,hwd,hT,k⟩:=h;have hr2:a9 2 _:=hr.mono (by decide);have hr1:a9 1 _:=hr.mono (by decide);refine⟨_,af (ak (i:=2) mF.nd rfl (Or.inl rfl) (xj dMk hr (by rfl) (ai (pv 0) ac)))
   (af (ak (i:=3) mF.nd rfl (Or.inl rfl) (bg ac))
   (af (ak (i:=4) mF.nd rfl (Or.inl rfl) (bg (ai (bj (ai (aA dFirst hr1 (by rfl) (ai (pv 0) ac)) (ai (pv 3) ac))) ac)))
   (af (bf ace rfl (jR (by rfl) hEn (ai (pv 1) ac)) (cx (n:=2) rfl (aH (ap (i:=5) mF.nd rfl (Or.inl rfl)) (aH (ap (i:=6) mF.nd rfl (Or.inl rfl)) bT)))
    (af (bh (eY (bN (gp dGo G.cl (pv 2) hr2 (ai (pv 4) (ai (pv 6) ac))))) bS bt)
    (ag (bc (gp dTk G.cl (pv 2) hr2 (ai (pv 4) (ai (pv 6) ac)))))))
   (af (bh (eY (bN (gp dCe G.cl (pv 2) hr2 (ai (pv 4) ac)))) bS bt)
   (af (bc (gp dFi G.cl (pv 2) hr1 (ai (pv 4) ac)))
   (ag (aO (bj (ai cJ (ai (aG a0 (pv 3) aq (fun _ _=>rfl)) ac)))))))))),?_⟩
  obtain⟨es,hes⟩:=vt R;refine⟨_,rfl,fun g dx ng ndx nex=>?_⟩;have s0:ab H (upd (upd H dx (.own g)) g (.ins C dx [])):=fun b o e=>by
   rw[ad (av e ng),ad (av e ndx)];exact e
  refine⟨g,dx,a,R,rfl,aa,hR.mono s0,hg,ht,h3,nc,hT.mono s0,fun H1 off hT1 hG=>⟨rfl,?_⟩⟩;have sT1:cz TP H H1:=fun b o n e=>off b o (av e ng) n (s0 _ _ e)
  have hln:H ln=some (.lst (line.map V.str)):=hln;have hln1:H1 ln=some (.lst (line.map V.str)):=sT1 _ _ (hT.ne hln fun _ z=>by cases z) hln;have hR1:aQ H1 a R:=pO hT sT1 hR;refine⟨by decide,fun tp htp=>?_⟩;have s2:=ab.upd (o:=HO.lst []) htp;obtain⟨p0,R0,rfl⟩:∃p0 R0,R=p0::R0:=by
   cases R with
   |nil=>exact absurd rfl hRne
   |cons p0 R0=>exact⟨p0,R0,rfl⟩
  refine⟨_,rfl,a,p0,R0,rfl,hR1.mono s2,_,rfl,acU,fun t0 ht0=>⟨acT,fun wl hwl=>?_⟩⟩;have s3:=ab.upd (o:=HO.tup [.str p0.1,.ref tp]) ht0;have s4:=ab.upd (o:=HO.lst [.ref t0]) hwl;have s24:=(s2.trans s3).trans s4;have hw1:H1 wl=none:=(s2.trans s3).free hwl;have ntw:tp≠wl:=fun e=>by rw[←e,s3 _ _ aa] at hwl;cases hwl
  have hW4:cq (upd (upd (upd H1 tp (.lst [])) t0 (.tup [.str p0.1,.ref tp])) wl (.lst [.ref t0])) wl [(p0.1,tp)]:=⟨[.ref t0],aa,.cons ⟨t0,rfl,s4 _ _ aa⟩ .nil⟩;have hJ4:PJ (p0::R0) es H1 wl tp T line (upd (upd (upd H1 tp (.lst [])) t0 (.tup [.str p0.1,.ref tp])) wl (.lst [.ref t0])) [(p0.1,tp)]:=by
   have:=PJ.start (R:=p0::R0) (es:=es) (T:=T) (wl:=wl) s24 htp ntw (s4 _ _ (s3 _ _ aa)) hok;rw[hwd] at this;exact this
  generalize upd (upd (upd H1 tp (.lst [])) t0 (.tup [.str p0.1,.ref tp])) wl (.lst [.ref t0])=H4 at hW4 hJ4;obtain⟨dx1,a1,dn,db,de,res,g1,_⟩:=id hG.ex;have nof:∀m:Str,¬m="blanks"->¬m="begins"->¬m="numbers"->¬m="rows"->(d6 a1 dn db de).lookup m=none:=fun m h1 h2 h3 h4=>tw _ _ _ _ h1 h2 h3 h4
  refine⟨_,rfl,ln,rfl,⟨_,SqL.of (hJ4.same _ _ hln1)⟩,kK (K:=K) (a:=ln) (xs:=line.map V.str)
   (fun i σ H5=>∃ws o5 o6,σ=[some (.ref a),some (.ref ln),some (.ref g),some (.ref tp),some (.ref wl),o5,o6]/\cq H5 wl ws/\PJ (p0::R0) es H1 wl tp T (line.drop i) H5 ws/\ws.length<=1+80*i)
   ⟨_,_,_,rfl,hW4,hJ4,acH _⟩ ?_ ?_ ?_⟩
  ·rintro i σ H5 _ ⟨ws,_,_,_,_,hJ5,_⟩;exact SqL.of (hJ5.same _ _ hln1)
  ·rintro i x t σ H5 hx ⟨ws,o5,o6,rfl,hW5,hJ5,hwl5⟩ htn;obtain⟨z,hz,rfl⟩:=bH hx;have hil:i<line.length:=(aaj.mp hz).1;have hdr:line.drop i=z::line.drop (i+1):=by
    rw[←aaF hil,(aaj.mp hz).2]
   rw[hdr] at hJ5;have s6:=ab.upd (o:=HO.tup [.int i,.str z]) htn;have hW6:=hW5.mono s6;have hJ6:=hJ5.bX hw1 fun b o _ e=>s6 b o e
   refine⟨t,_,rfl,SqT.of aa,rfl,_,_,rfl,_,_,rfl,rfl,?_⟩;generalize upd H5 t (.tup [.int i,.str z])=H6 at hW6 hJ6;obtain⟨dom,plan,Fo,q1,q2,q3,q4,q5,q6,q7⟩:=hJ6.ex;have hWd:Wd (p0::R0) es (ws.map (·.1)) z:=(Tr.fg hes q4).2 z _ q5;refine⟨_,rfl,g,dx1,_,rfl,hJ6.same _ _ g1,nof _ (by decide +kernel) (by decide +kernel) (by decide +kernel) (by decide +kernel),_,rfl,_,rfl,g,wl,z,p0::R0,es,ws,rfl,hG.mono hJ6.same,hes,hW6,fun b H7 s7 hb=>⟨_,rfl,?_⟩⟩;rw[hb.mpr hWd];refine aT ?_;have hW7:=hW6.mono s7;have hJ7:=hJ6.bX hw1 fun b o _ e=>s7 b o e
   refine⟨_,rfl,g,dx1,_,rfl,hJ7.same _ _ g1,nof _ (by decide +kernel) (by decide +kernel) (by decide +kernel) (by decide +kernel),_,rfl,_,rfl,g,wl,z,p0::R0,es,ws,H1,_,_,rfl,hG,hw1,hes,nc,hg.small,h3,PJ.steps (T:=T) (top:=tp) nc hes hg.small hw1 z (line.drop (i+1)),hW7,hJ7,q6,hWd,by omega,fun H8 ws' hW8 hJ8 _ hl8=>?_⟩;exact⟨ws',_,_,rfl,hW8,hJ8,by omega⟩
  ·rintro σ H5 ⟨ws,o5,o6,rfl,hW5,hJ5,hwl5⟩;rw[ab3] at hJ5 hwl5;rw[List.drop_length] at hJ5;obtain⟨dom,plan,Fo,q1,q2,q3,q4,q5,q6,q7⟩:=hJ5.ex;have hall:∀y∈ws.map (·.1),y∈es:=(Tr.fg hes q4).1 q5;refine⟨_,rfl,g,dx1,_,rfl,hJ5.same _ _ g1,nof _ (by decide +kernel) (by decide +kernel) (by decide +kernel) (by decide +kernel),_,rfl,g,wl,p0::R0,es,ws,rfl,hG.mono hJ5.same,hes,hW5,by omega,fun b H7 s7 hb=>⟨_,rfl,?_⟩⟩;rw[hb.mpr hall];refine aT ?_;have hW7:=hW5.mono s7;have hJ7:=hJ5.bX hw1 fun b o _ e=>s7 b o e
   refine⟨_,rfl,g,dx1,_,rfl,hJ7.same _ _ g1,nof _ (by decide +kernel) (by decide +kernel) (by decide +kernel) (by decide +kernel),_,rfl,g,wl,tp,p0::R0,es,ws,H1,T,rfl,hG,hw1,hes,nc,hW7,hall,hJ7,fun H8 hJ8=>?_⟩;obtain⟨v,hv,hrep⟩:=hJ8.done;refine⟨_,rfl,tp,_,0,_,rfl,rfl,SqL.of hv,au (j:=0) rfl,acU,fun tt htt=>?_⟩;have s9:=ab.upd (o:=HO.tup [.str "tree",v]) htt;have s19:=hJ8.same.trans s9;exact k tt v _ (fun b o n e=>s19 _ _ (sT1 b o n e)) (hT1.mono s19) aa (hrep.mono s9)
end
end Nw
namespace L2
open PySem
section
variable {sel:List (Option Nat)}{g:TG}{tc:TT}{te:TE}{σ:St}{H:Hp}{Q:VK}
def qx{D:Addr}{lo:Int}{n:Nat}(Pv:Nat->St->Hp->Prop)(h0:Pv 0 (dP sel σ) (upd H D (.lst [])))
  (hs:∀i τ H1,i<n->Pv i τ H1->g (.int (lo+i)) τ H1 fun τ2 H4=>tc τ2 H4 fun b H5=>if b=true then te τ2 H5 fun y H6=>∃ys,H6 D=some (.lst ys)/\ys.length<sizeLine/\Pv (i+1) τ2 (upd H6 D (.lst (ys++[y]))) else Pv (i+1) τ2 H5)
  (hd:∀τ H1,Pv n τ H1->Q (.ref D) H1):gP sel (Itr lo n) D g tc te σ H Q:=by
 refine⟨fun i m τ H1=>Pv i τ H1/\i<=n/\m=n - i,⟨_,h0,acI _,rfl⟩,?_⟩;rintro i m τ H2 ⟨p,hi,hm⟩;rcases acE i n with hlt|hge
 ·refine .inr ⟨hlt,Pv (i+1),fun τ' H' z=>⟨n - (i+1),by omega,z,hlt,rfl⟩,?_⟩;rintro x H3 ⟨rfl,rfl⟩;exact hs i τ _ hlt p
 ·have e:i=n:=by omega
  subst e;exact .inl ⟨acH _,hd τ H2 p⟩
end
end L2
namespace Nw
open PySem L2
open SL (aj srt)
abbrev lV:Stmt:=top 48
def ci:aE ["_law_rows","_law_cells","_law_last","_law_made","_law_todo","_law_k","_law_word","_law_sign","_law_left","_law_right","_law_inner","_law_number","_law_choices"] ["_law_rows","_law_cells"] (am lV):=acW
def fK(H:Hp)(v:V):Gi->Prop
 |.sg s=>∃t,v=.ref t/\H t=some (.tup [.str "sign",.str s])
 |.rw i=>∃t,v=.ref t/\H t=some (.tup [.str "row",.int (i:Nat)])
def fK.keep{H H':Hp}(e:∀b xs,H b=some (.tup xs)->H' b=some (.tup xs)){v:V}{g:Gi}(h:fK H v g):fK H' v g:=by
 cases g with
 |sg s=>obtain⟨t,a,b⟩:=h;exact⟨t,a,e _ _ b⟩
 |rw i=>obtain⟨t,a,b⟩:=h;exact⟨t,a,e _ _ b⟩
def iF:kR fK:=fun _ _ _ _ s h=>h.keep fun b xs e=>s _ _ e
def cZ(S A B:Str):List (Key×V):=[((Sum.inr S:Key),V.int 0),(Sum.inr A,.int 1),(Sum.inr B,.int 2)]
def yR{R:List Row}{S A B:Str}(h:bR R S A B){x:Str}(hx:x∈R.map (·.1)):aD (cZ S A B) (Sum.inr x:Key)=some (.int (lastOf S A x:Nat)):=by
 have nk:∀{a b:Str},a≠b->¬((Sum.inr a:Key)=Sum.inr b):=fun n e=>n (acG e)
 unfold cZ lastOf;rcases h.all x hx with rfl|rfl|rfl
 ·rw[bB rfl,acR rfl];rfl
 ·rw[bi (nk h.nSA),bB rfl,acS h.nSA.symm,acR rfl];rfl
 ·rw[bi (nk h.nSB),bi (nk h.nAB),bB rfl,acS h.nSB.symm,acS h.nAB.symm];rfl
def xk{R:List Row}{S A B:Str}(h:bR R S A B){x:Str}(hx:¬x∈R.map (·.1)):aD (cZ S A B) (Sum.inr x:Key)=none:=by
 have nk:∀{a b:Str},a≠b->¬((Sum.inr a:Key)=Sum.inr b):=fun n e=>n (acG e)
 unfold cZ;rw[bi (nk fun(e:S=x)=>hx (e▸h.Ai)),bi (nk fun(e:A=x)=>hx (e▸h.pR)),bi (nk fun(e:B=x)=>hx (e▸h.Aj))];rfl
def tF{R:List Row}{S A B:Str}(h:bR R S A B):eA [] (cZ S A B)=cZ S A B:=by
 refine ge _ _ ?_;have nk:∀{a b:Str},a≠b->¬((Sum.inr a:Key)=Sum.inr b):=fun n e=>n (acG e)
 show([(Sum.inr S:Key),Sum.inr A,Sum.inr B]:List Key).Nodup;simp only[ab6,acq,abO,acP,not_or,not_false_eq_true,acj,and_true];exact⟨⟨nk h.nSA,nk h.nSB⟩,nk h.nAB⟩
def fj(m t:Addr)(H:Hp):Hp:=hide m (hide t H)
def j3{m t b:Addr}{H:Hp}{o:HO}(e:H b=some o)(h1:b≠m)(h2:b≠t):fj m t H b=some o:=by unfold fj;rw[hide_ne h1,hide_ne h2];exact e
def vx{m t:Addr}{H:Hp}:fj m t H m=none:=acR rfl
def vy{m t:Addr}{H:Hp}:fj m t H t=none:=by
 unfold fj
 by_cases e:t=m
 ·exact acR e
 ·rw[hide_ne e];exact acR rfl
structure GrS(H G H1:Hp)(dl md tl:Addr)(kv:List (Key×V)):Prop where
 s0:ab H G
 s1:ab G H1
 nm:G md=none
 nt:G tl=none
 d:G dl=some (.dK kv)
section
variable {H G H1 H2:Hp}{dl md tl p:Addr}{kv:List (Key×V)}
def GrS.s(h:GrS H G H1 dl md tl kv):ab H H1:=h.s0.trans h.s1
def GrS.on(h:GrS H G H1 dl md tl kv)(s:ab G H2):GrS H G H2 dl md tl kv:=⟨h.s0,s,h.nm,h.nt,h.d⟩
def GrS.up(h:GrS H G H1 dl md tl kv)(s:ab H1 H2):GrS H G H2 dl md tl kv:=h.on (h.s1.trans s)
def GrS.sub(h:GrS H G H1 dl md tl kv):ab G (fj md tl H1):=fun b o e=>j3 (h.s1 _ _ e) (fun z=>by rw[z,h.nm] at e;cases e) (fun z=>by rw[z,h.nt] at e;cases e)
def GrS.re(h:GrS H G H1 dl md tl kv):GrS H (fj md tl H1) H1 dl md tl kv:=
 ⟨h.s0.trans h.sub,ab.lM.trans ab.lM,vx,vy,h.sub _ _ h.d⟩
end
def chF(R:List Row)(s:Str)(i:Nat):List Nat:=(List.range i).filter fun j=>decide ((bD R j).1=s)
def qh{R:List Row}{s:Str}{i:Nat}:chF R s (i+1)=chF R s i++(if (bD R i).1=s then [i] else []):=by
 unfold chF;rw[List.range_succ,abn]
 congr 1
 by_cases h:(bD R i).1=s
 ·rw[acR h,abV,aci h];rfl
 ·rw[acS h,abV,abX h];rfl
def AC{R:List Row}{s:Str}{j:Nat}(h:j∈chF R s R.length):∃r,R[j]? =some (s,r):=by
 obtain⟨h1,h2⟩:=abZ.mp h;have h1:=acg.mp h1;have e:R[j]? =some R[j]:=aao h1;rw[gn e] at h2;exact⟨R[j].2,by rw[e,←abx h2]⟩
def AD{R:List Row}{s:Str}{r:List Str}{j:Nat}(h:R[j]? =some (s,r)):j∈chF R s R.length:=
 abZ.mpr ⟨acg.mpr (aaj.mp h).1,by rw[gn h];exact aci rfl⟩
def vz(xs:List V)(k:Nat):dy xs (some ((k:Nat):Int)) none=xs.drop k:=by
 unfold dy;rw[HT.iK,HT.gj]
 by_cases h:k<=xs.length
 ·rw[Nat.min_eq_left h];exact aaE (by rw[abL];omega)
 ·rw[Nat.min_eq_right (by omega),aaD (acH _),aaD (by omega),List.take_nil]
def vA(xs:List V)(k:Nat):dy xs none (some ((k:Nat):Int))=xs.take k:=by
 unfold dy;rw[HT.iK,HT.gj,List.drop_zero,Nat.sub_zero]
 by_cases h:k<=xs.length
 ·rw[Nat.min_eq_left h]
 ·rw[Nat.min_eq_right (by omega),aaE (acH _),aaE (by omega)]
def k7{α β:Type}{F:α->β->Prop}{l:List α}{a b:List β}(h:Paired F l (a++b)):Paired F (l.take a.length) a/\Paired F (l.drop a.length) b:=by
 induction a generalizing l with
 |nil=>exact⟨.nil,h⟩
 |cons x a ih=>
  cases h with
  |cons h1 h2=>exact⟨.cons h1 (ih h2).1,(ih h2).2⟩
def nG{m t b:Addr}{H:Hp}(e:H b=none):fj m t H b=none:=by
 unfold fj
 by_cases h1:b=m
 ·exact acR h1
 ·rw[hide_ne h1]
  by_cases h2:b=t
  ·exact acR h2
  ·rw[hide_ne h2];exact e
def fK.hid{H:Hp}{md tl:Addr}{xs ys:List V}(hm:H md=some (.lst xs))(ht:H tl=some (.lst ys)){v:V}{g:Gi}(h:fK H v g):fK (fj md tl H) v g:=
 h.keep fun b zs e=>j3 e (fun z=>by rw[z,hm] at e;cases e) (fun z=>by rw[z,ht] at e;cases e)
def rF{H:Hp}{ws:List V}{ps:List Tr}(h:Paired (RT H) ws ps):eh H ws ps:=⟨aco h,fun m x t e1 e2=>by
 obtain⟨t',e3,h⟩:=ba h m x e1;rw[e2] at e3;cases e3;exact h⟩
def rG:Sp:=fun vs H Q _=>∃(a b:Addr) (R:List Row) (ns:List Int) (S A B:Str),vs=[.ref a,.ref b]/\aQ H a R/\bR R S A B/\R.length<=20/\(∀p∈R,p.2.length<=14)/\H b=some (.lst (ns.map V.int))/\ns.length<=12/\
 ∀x T H',ab H H'->T.ok R (bP R)->RT H' x T->T.sz<=1810->Q x H'
section
variable {P:Program}{w:World}{K:acX}{mg:Str->Option Value}{base:Heap}
def xl{f:Addr}{fd:FuncData}(F:Fun K "_law_grown" "_law_grown" lV f fd)(T:Txt mg)(hRv:mg "reversed"=none):aM P w K mg base CX0 1 f fd ["_law_rows","_law_cells"] rG:=by
 refine F.ok ci (fun vs H Q E h=>?_) (fun cdv A outer s H vs Q E hr h=>?_)
 ·obtain⟨a,b,R,ns,S,A,B,rfl,_⟩:=h;rfl
 ·obtain⟨a,b,R,ns,S,Aa,B,rfl,hR,h3,hl20,hw14,hb,hns,k⟩:=h;have hu:=bO hr;have hu0:(A.deeper (PyProof.Rows.envOfC "_law_grown" (am lV) s.heap.objs.size f cdv)).units<cLine:=Nat.lt_of_succ_lt hu;refine exI ⟨_,bL (.of (ak (i:=2) ci.nd rfl (Or.inl rfl) (qF (iO (aG aR (aG a0 (pv 0) aq (fun _ _=>rfl)) aq (fun _ _=>rfl)) aq (iO (aG aR (aG a0 (pv 0) aq (fun _ _=>rfl)) aq (fun _ _=>rfl)) aq
     (iO (aG aR (aG a0 (pv 0) aq (fun _ _=>rfl)) aq (fun _ _=>rfl)) aq qE))) rfl rfl (by intro z;cases z) (by decide))))
   (cF (.of (ak (i:=3) ci.nd rfl (Or.inl rfl) (bg ac)))
   (cF (.of (ak (i:=4) ci.nd rfl (Or.inl rfl) (bg (ai (bj (ai cJ (ai (aG aR (aG a0 (pv 0) aq (fun _ _=>rfl)) aq (fun _ _=>rfl)) ac))) ac))))
   (cF (.of (ak (i:=5) ci.nd rfl (Or.inl rfl) aq))
   (cF (.of (dD ace (bA (kC hu0) (pv 4) (bg ac) (b8 _))
    (af (om (jf aay aaP aaQ jg (pv 4)) (cx (n:=2) rfl (aH (ap (i:=6) ci.nd rfl (Or.inl rfl)) (aH (ap (i:=7) ci.nd rfl (Or.inr rfl)) bT))))
    (ag (bh (bA nU (pv 6) cJ (b8 _))
     (af (om (aG a0 (pv 0) (pv 7) (fun _ _=>rfl)) (cx (n:=2) rfl (aH (ap (i:=8) ci.nd rfl (Or.inl rfl)) (aH (ap (i:=9) ci.nd rfl (Or.inl rfl)) bT))))
     (af (ak (i:=10) ci.nd rfl (Or.inl rfl) (fA gl (pv 3) (fw (bV oo (aB aZ (by rfl) T.len acn (ai (pv 3) ac)) (aB aZ (by rfl) T.len acn (ai (pv 9) ac)))) ig))
     (ag (ak (i:=3) ci.nd rfl (Or.inl rfl) (bV ij (fA gl (pv 3) ig (fw (bV oo (aB aZ (by rfl) T.len acn (ai (pv 3) ac)) (aB aZ (by rfl) T.len acn (ai (pv 9) ac)))))
      (bg (ai (bj (ai (pv 8) (ai (pv 7) (ai (pv 10) ac)))) ac)))))))
     (ag (bh (ej (fS hu (pv 7) (pv 2)))
      (ag (bc (bW aay aas aat aY (pv 3) (ai (pv 7) ac))))
      (af (ak (i:=11) ci.nd rfl (Or.inl rfl) (bK hu (pv 2) (pv 7) (fun _ _=>rfl)))
      (fH (bh (bA xy (pv 5) (aB aZ (by rfl) T.len acn (ai (pv 1) ac)) (b8 _))
       (af (iQ (k:=12) (aU.free (N:=["_law_j","_law_rows","_law_sign"]) (sel:=[none,some 0,some 7]) ["_law_rows","_law_sign"] (by rfl) (by rfl) (by rfl) ?c1 ?c2 ?c3 ?c4 (by rfl) ?c5) rfl ci.nd rfl (Or.inl rfl)
        (gM (by rfl) T.rng (ai (aB aZ (by rfl) T.len acn (ai (pv 0) ac)) ac)) (fun s₃ H₃ fp=>ap (i:=0) (show(["_law_j","_law_rows","_law_sign"]:List Str).Nodup by decide) rfl (Or.inl rfl))
        (fun s₃ H₃ fp=>qG (bA (X:=b9 _ _ _ _ _ _ _) nU (aG (r:=hV K) aR (aG (r:=fB K) a0 (pv 1) (pv 0) (fun _ _=>rfl)) aq (fun _ _=>rfl)) (pv 2) (b8 _))) (fun s₃ H₃ fp=>pv 0))
       (ag (ak (i:=11) ci.nd rfl (Or.inl rfl) (aG a0 (pv 12) (bV dm (aG a0 (pv 1) (pv 5) (fun _ _=>rfl)) (aB aZ (by rfl) T.len acn (ai (pv 12) ac))) (fun _ _=>rfl)))))
       bt)
      (af (ak (i:=5) ci.nd rfl (Or.inl rfl) (bV ic (pv 5) aq))
      (af (bc (bW aay aas aat aY (pv 4) (ai (bj (ai cJ (ai (pv 11) ac))) ac)))
      (ag (ak (i:=4) ci.nd rfl (Or.inl rfl) (bV ij (pv 4)
       (cV (aU.none (N:=["_law_other"]) (sel:=[none]) (by rfl) (by rfl) (by rfl) (by decide) (by decide) (by rfl) (by decide)) rfl
        (jB (by rfl) hRv (ai (aG aR (aG a0 (pv 0) (pv 11) (fun _ _=>rfl)) aq (fun _ _=>rfl)) ac))
        (fun s₃ H₃ fp=>ap (i:=0) (show(["_law_other"]:List Str).Nodup by decide) rfl (Or.inl rfl)) (fun s₃ H₃ fp=>cI)
        (fun s₃ H₃ fp=>bj (ai cJ (ai (pv 0) ac))))))))))))))))))
   (dZ (.of (aO (aG a0 (pv 3) aq (fun _ _=>rfl))))))))),?_⟩
  case c1=>decide
  case c2=>decide
  case c3=>
   intro x hx;rcases acq.mp hx with rfl|hx
   ·exact⟨rfl,rfl,_,rfl,rfl⟩
   ·rcases acq.mp hx with rfl|hx
    ·exact⟨rfl,rfl,_,rfl,rfl⟩
    ·cases hx
  case c4=>
   intro y hy;rcases acq.mp hy with rfl|hy
   ·exact aaU _ (abe ..)
   ·rcases acq.mp hy with rfl|hy
    ·exact abe ..
    ·cases hy
  case c5=>
   intro j i h;rcases j with _|_|_|j
   ·cases h
   ·cases h;exact⟨"_law_rows",abe ..,rfl,rfl⟩
   ·cases h;exact⟨"_law_sign",aaU _ (abe ..),rfl,rfl⟩
   ·cases h
  have row:∀{H3:Hp} {n:Nat} {p:Row},ab H H3->R[n]? =some p->∃vs t b,H3 a=some (.lst vs)/\vs[n]? =some (.ref t)/\H3 t=some (.tup [.str p.1,.ref b])/\H3 b=some (.lst (p.2.map V.str))/\vs.length=R.length:=fun s e=>gI (hR.mono s) e
  have last3:=tF h3;refine(⟨fun σ H1=>∃dl,σ=[some (.ref a),some (.ref b),some (.ref dl),none,none,none,none,none,none,none,none,none,none]/\ab H H1/\H1 dl=some (.dK (cZ S Aa B)),?_,?_⟩)
  ·refine fun dl hdl=>?_
   have sd:=ab.upd (o:=HO.dK []) hdl;obtain⟨vs,t0,b0,e1,e2,e3,e4,_⟩:=row sd h3.h0;obtain⟨vs',t1,b1,f1,f2,f3,f4,_⟩:=row sd h3.h1;obtain⟨vs'',t2,b2,g1,g2,g3,g4,_⟩:=row sd h3.h2;rw[e1] at f1 g1;cases f1;cases g1
   refine⟨_,rfl,a,_,0,_,rfl,rfl,SqL.of e1,au (j:=0) e2,t0,_,0,_,rfl,rfl,SqT.of e3,au (j:=0) rfl,_,rfl,a,_,1,_,rfl,rfl,SqL.of e1,au (j:=1) f2,t1,_,0,_,rfl,rfl,SqT.of f3,au (j:=0) rfl,
    _,rfl,a,_,2,_,rfl,rfl,SqL.of e1,au (j:=2) g2,t2,_,0,_,rfl,rfl,SqT.of g3,au (j:=0) rfl,aa,cZ S Aa B,rfl,(show 3<=15 by decide),?_⟩
   rw[last3,cu];exact⟨dl,rfl,ab.upd hdl,aa⟩
  rintro σ H1 ⟨dl,rfl,s1,hd1⟩;refine⟨by decide,fun md hmd=>?_⟩;have sm:=ab.upd (o:=HO.lst []) hmd;obtain⟨rs0,t0,b0,e1,e2,e3,e4,_⟩:=row (s1.trans sm) h3.h0;refine⟨_,rfl,a,_,0,_,rfl,rfl,SqL.of e1,au (j:=0) e2,t0,_,0,_,rfl,rfl,SqT.of e3,au (j:=0) rfl,acU,fun tt htt=>⟨acT,fun tl htl=>?_⟩⟩;have st:=ab.upd (o:=HO.tup [V.str "sign",V.str S]) htt;have stl:=ab.upd (o:=HO.lst [V.ref tt]) htl;have hmd3:=stl _ _ (st _ _ (aa (H:=H1) (a:=md) (o:=HO.lst [])));have hne0:md≠tl:=av (st _ _ aa) htl;have htt3:=stl _ _ (aa (H:=upd H1 md (.lst [])) (a:=tt) (o:=HO.tup [V.str "sign",V.str S]));have htl3:upd (upd (upd H1 md (.lst [])) tt (.tup [V.str "sign",V.str S])) tl (.lst [V.ref tt]) tl=some (.lst [V.ref tt]):=aa;have g0:GrS H H1 (upd (upd (upd H1 md (.lst [])) tt (.tup [V.str "sign",V.str S])) tl (.lst [V.ref tt])) dl md tl (cZ S Aa B):=
   ⟨s1,(sm.trans st).trans stl,hmd,(sm.trans st).free htl,hd1⟩
  generalize upd (upd (upd H1 md (.lst [])) tt (.tup [V.str "sign",V.str S])) tl (.lst [V.ref tt])=H3 at g0 hmd3 htt3 htl3;have hbnd:150*ns.length+10<=1810:=by omega
  refine(⟨fun m σ H2=>∃G td ts ms vs kk tl md o6 o7 o8 o9 o10 o11 o12,σ=[some (.ref a),some (.ref b),some (.ref dl),some (.ref md),some (.ref tl),some (.int ((kk:Nat):Int)),o6,o7,o8,o9,o10,o11,o12]/\GrS H G H2 dl md tl (cZ S Aa B)/\md≠tl/\H2 tl=some (.lst ts)/\Paired (fK G) ts td.reverse/\
    H2 md=some (.lst vs)/\Paired (RT G) vs ms/\Fin R td ms/\m=150*(ns.length - kk)+wtL S Aa B td/\Tr.szL ms+m<=1810,
   ⟨_,fj md tl H3,[.sg S],[V.ref tt],[],[],0,tl,md,_,_,_,_,_,_,_,rfl,g0.re,hne0,htl3,.cons (fK.hid (g:=.sg S) hmd3 htl3 ⟨tt,rfl,htt3⟩) .nil,hmd3,.nil,?_,rfl,?_⟩,?_⟩)
  ·have:=Fin.start (R:=R);rw[h3.fst] at this;exact this
  ·rw[cG,h3.wtS];show 0+(150*(ns.length - 0)+(10+0))<=1810;omega
  clear g0 hmd3 htt3 htl3 hne0 stl st sm e1 e2 e3 e4 hd1 s1 hmd htt htl;rintro m σ H2 ⟨G,td,ts,ms,vs,kk,tl,md,o6,o7,o8,o9,o10,o11,o12,rfl,gs,hne,hts,hpt,hmd,hpm,hfin,rfl,hsz⟩;refine⟨_,rfl,by decide,fun qn hqn=>?_⟩;have sn:ab H2 (upd H2 qn (.lst [])):=ab.upd hqn;refine⟨tl,qn,ts,rfl,rfl,SqL.of (sn _ _ hts),SqL.of aa,_,rfl,?_⟩;have gs:=gs.up sn;have hts:=sn _ _ hts;have hmd:=sn _ _ hmd;generalize upd H2 qn (.lst [])=H2' at gs hts hmd;have hvl:vs.length<=1810:=by
   rw[aco hpm];have:=Tr.jT ms;omega
  rcases aaR ts with rfl|⟨ti,vl,rfl⟩
  ·have e:td=[]:=by
    have:=aco hpt;rw[abb] at this;exact aav.mp this.symm
   subst e;obtain⟨T0,rfl,hT0⟩:=hfin;cases hpm with
   |cons h1 h2=>
    cases h2
    refine aT ⟨_,rfl,md,_,0,_,rfl,rfl,SqL.of hmd,au (j:=0) rfl,k _ T0 _ gs.s hT0 (h1.mono gs.s1) ?_⟩;have:Tr.szL [T0]=T0.sz+0:=rfl;omega
  ·rw[show(!(ti.concat vl).isEmpty)=true by simp];rw[aaO] at hts hpt;obtain⟨k',g,ek,hpi,hg⟩:=fO hpt;obtain⟨td',rfl,rfl⟩:∃td',td=g::td'/\k'=td'.reverse:=by
    refine⟨k'.reverse,?_,(aa0 _).symm⟩;have:=acN List.reverse ek;rw[aa0,abc] at this;exact this
   refine bC ⟨fun σ H2=>∃G td ts ms vs kk' tl md o6 o7 o8 o9 o10 o11 o12,σ=[some (.ref a),some (.ref b),some (.ref dl),some (.ref md),some (.ref tl),some (.int ((kk':Nat):Int)),o6,o7,o8,o9,o10,o11,o12]/\GrS H G H2 dl md tl (cZ S Aa B)/\md≠tl/\H2 tl=some (.lst ts)/\Paired (fK G) ts td.reverse/\
    H2 md=some (.lst vs)/\Paired (RT G) vs ms/\Fin R td ms/\150*(ns.length - kk')+wtL S Aa B td<150*(ns.length - kk)+wtL S Aa B (g::td')/\Tr.szL ms+(150*(ns.length - kk')+wtL S Aa B td)<=1810,?_,?_⟩
   ·rintro σ' H4 ⟨G,td,ts,ms,vs,kk',tl,md,q6,q7,q8,q9,q10,q11,q12,rfl,h1,h2,h3,h4,h5,h6,h7,h8,h9⟩;exact⟨_,h8,G,td,ts,ms,vs,kk',tl,md,_,_,_,_,_,_,_,rfl,h1,h2,h3,h4,h5,h6,h7,rfl,h9⟩
   rw[cG] at hsz ⊢;refine⟨_,rfl,.inl ⟨rfl,_,SqL.of hts⟩,tl,_,vl,rfl,rfl,hts,by simp,?_⟩;rw[aaZ];have gs3:GrS H G (upd H2' tl (.lst ti)) dl md tl (cZ S Aa B):=gs.on (gs.s1.bG gs.nt);have hm3:upd H2' tl (.lst ti) md=some (.lst vs):=by rw[ad hne];exact hmd
   have ht3:upd H2' tl (.lst ti) tl=some (.lst ti):=aa;generalize upd H2' tl (.lst ti)=H3 at gs3 hm3 ht3;have htil:ti.length<=1810:=by
    rw[aco hpi,abb];have:=rp (S:=S) (A:=Aa) (B:=B) td';omega
   clear hts hmd hpt sn hqn;cases g with
   |rw i=>
    obtain⟨t,rfl,ht⟩:=hg;refine⟨t,_,rfl,SqT.of (gs3.s1 _ _ ht),rfl,_,_,rfl,_,_,rfl,rfl,?_⟩;refine⟨_,rfl,rfl,_,rfl,?_⟩;rw[aci rfl];refine bC ?_;obtain⟨p,m0,inn,hi,rfl,hok,hfin'⟩:=hfin;obtain⟨rs,tr,br,hrs,hri,htr,hbr,hrl⟩:=row gs3.s hi;have hinn:=d5 hok;have hlv:vs.length=m0.length+inn.length:=by rw[aco hpm,abi]
    have eI:(((vs.length:Nat):Int) - (((p.2.map V.str).length:Nat):Int))=((m0.length:Nat):Int):=by
     rw[ab3,hlv,hinn];omega
    refine⟨_,rfl,_,rfl,a,_,(i:Int),_,rfl,rfl,SqL.of hrs,au hri,tr,_,rfl,SqT.of htr,rfl,_,_,rfl,_,_,rfl,rfl,?_⟩;refine⟨_,rfl,_,rfl,md,vs,rfl,.inl (SqL.of hm3),_,rfl,br,_,rfl,.inl (SqL.of hbr),_,_,rfl,rfl,_,rfl,md,vs,rfl,SqL.of hm3,fun l hl=>?_⟩;rw[eI,vz];have s4:=ab.upd (o:=HO.lst (vs.drop m0.length)) hl;refine⟨_,rfl,_,rfl,md,vs,rfl,.inl (SqL.of (s4 _ _ hm3)),_,rfl,br,_,rfl,.inl (SqL.of (s4 _ _ hbr)),_,_,rfl,rfl,_,rfl,md,vs,rfl,SqL.of (s4 _ _ hm3),fun p1 hp1=>?_⟩;rw[eI,vA];have s5:=ab.upd (o:=HO.lst (vs.take m0.length)) hp1;refine⟨_,rfl,_,rfl,_,rfl,acV,fun t3 ht3'=>⟨acT,fun p2 hp2=>?_⟩⟩;have s6:=ab.upd (o:=HO.tup [V.str p.1,V.int (i:Nat),V.ref l]) ht3';have s7:=ab.upd (o:=HO.lst [V.ref t3]) hp2;refine⟨p1,p2,_,_,rfl,rfl,s7 _ _ (s6 _ _ aa),aa,?_,fun md' hmd'=>?_⟩
    ·rw[abK,aaH];exact acz (iE (by omega))
    have hl7:=s7 _ _ (s6 _ _ (s5 _ _ (aa (H:=H3) (a:=l) (o:=HO.lst (vs.drop m0.length)))));have ht7:=s7 _ _ (aa (H:=upd (upd H3 l (HO.lst (vs.drop m0.length))) p1 (HO.lst (vs.take m0.length))) (a:=t3) (o:=HO.tup [V.str p.1,V.int (i:Nat),V.ref l]));have s37:=((s4.trans s5).trans s6).trans s7;generalize upd (upd (upd (upd H3 l (HO.lst (vs.drop m0.length))) p1 (HO.lst (vs.take m0.length))) t3 (HO.tup [V.str p.1,V.int (i:Nat),V.ref l])) p2 (HO.lst [V.ref t3])=H7 at hl7 ht7 s37 hmd';have gs7:=gs3.up s37;have hm7:=s37 _ _ hm3;have htl7:=s37 _ _ ht3;have nlm:l≠md:=acQ (av hm3 hl);have nlt:l≠tl:=acQ (av ht3 hl);have sub:=gs7.sub;have gr:=gs7.re;have hpm':Paired (RT (fj md tl H7)) vs (m0++inn):=Paired.bp hpm fun _ _ z=>z.mono sub
    obtain⟨q1,q2⟩:=k7 hpm';refine⟨fj md tl H7,td',ti,m0++[Tr.n p.1 i inn],_,kk,tl,md',_,_,_,_,_,_,_,rfl,⟨gr.s0,gr.s1.trans (ab.upd hmd'),nG hmd',vy,gr.d⟩,fun z=>?_,ab.upd hmd' _ _ htl7,Paired.bp hpi fun _ _ z=>iF _ _ _ _ sub z,aa,df q1 (.cons ?_ .nil),hfin',?_,?_⟩
    ·rw[z,htl7] at hmd';cases hmd'
    ·exact iY (j3 ht7 (fun z=>by rw[z,hm7] at ht7;cases ht7) (fun z=>by rw[z,htl7] at ht7;cases ht7)) (j3 hl7 nlm nlt) (rF q2)
    ·have:(Gi.rw i).wt S Aa B=1:=rfl;omega
    ·have e1:(Gi.rw i).wt S Aa B=1:=rfl;rw[Tr.eW] at hsz ⊢;have e2:Tr.szL [Tr.n p.1 i inn]=(1+Tr.szL inn)+0:=rfl;omega
   |sg x=>
    obtain⟨t,rfl,ht⟩:=hg;refine⟨t,_,rfl,SqT.of (gs3.s1 _ _ ht),rfl,_,_,rfl,_,_,rfl,rfl,?_⟩;refine⟨_,rfl,rfl,_,rfl,?_⟩;rw[abX (fun z=>by injection z with z;revert z;decide +kernel)];refine aT ?_;have hd3:=gs3.s1 _ _ gs3.d
    by_cases hx:x∈R.map (·.1)
    ·have dg:bu H3 dl (.str x) (some (.int (lastOf S Aa x:Nat))):=by
      rw[←yR h3 hx];exact bu.k (k:=Sum.inr x) hd3
     refine⟨_,rfl,_,rfl,dl,_,rfl,dg,_,rfl,aT ?_⟩;refine⟨_,rfl,_,rfl,dl,_,rfl,dg,?_⟩;refine(⟨fun σ H4=>∃(n:Nat) (r:List Str) (o12:Option V),σ=[some (.ref a),some (.ref b),some (.ref dl),some (.ref md),some (.ref tl),some (.int ((kk:Nat):Int)),some (.str "sign"),some (.str x),o8,o9,o10,some (.int (n:Nat)),o12]/\GrS H G H4 dl md tl (cZ S Aa B)/\
      H4 tl=some (.lst ti)/\H4 md=some (.lst vs)/\R[n]? =some (x,r)/\150*(ns.length - (kk+1))+(wtL S Aa B (r.map Gi.sg)+1)<150*(ns.length - kk)+(Gi.sg x).wt S Aa B,?_,?_⟩)
     ·have hb3:=gs3.s _ _ hb;refine⟨_,rfl,_,rfl,b,_,rfl,.inl (SqL.of hb3),_,_,rfl,rfl,_,rfl,?_⟩;obtain⟨rl,hrl,hwl⟩:=h3.last hx
      by_cases hk:kk<ns.length
      ·rw[aci (show((kk:Nat):Int)<(((ns.map V.int).length:Nat):Int) by rw[ab3];omega)];refine bC ?_;obtain⟨rs,tr0,br0,hrs,hri,htr,hbr,hlen⟩:=row gs3.s h3.h0;refine⟨_,rfl,a,_,rfl,.inl (SqL.of hrs),_,rfl,?_,?_,fun D hD=>qx (lo:=0) (n:=((rs.length:Nat):Int).toNat) (fun i τ H5=>(∃o,τ=[o,some (.ref a),some (.str x)])/\H5=upd H3 D (.lst ((chF R x i).map fun j=>V.int (j:Nat)))) ⟨⟨_,rfl⟩,rfl⟩ ?_ ?_⟩
       ·omega
       ·rw[hlen];omega
       ·rintro i τ H5 hi ⟨⟨o,rfl⟩,rfl⟩;have hi:i<R.length:=by rw[←hlen];omega
        have hRi:R[i]? =some R[i]:=aao hi;have sD:=ab.upd (o:=HO.lst ((chF R x i).map fun j=>V.int (j:Nat))) hD;obtain⟨rs',tr,br,hrs',hri',htr',_,_⟩:=row (gs3.s.trans sD) hRi;refine⟨_,rfl,_,rfl,a,_,(0+(i:Int)),_,rfl,rfl,SqL.of hrs',by rw[kH];exact au hri',tr,_,0,_,rfl,rfl,SqT.of htr',au (j:=0) rfl,_,rfl,rfl,_,rfl,?_⟩;have hrn:=gn hRi
        by_cases he:R[i].1=x
        ·rw[aci (by rw[he])];refine bC ⟨_,rfl,_,aa,?_,⟨_,rfl⟩,?_⟩
         ·rw[ab3];have:(chF R x i).length<=i:=by
           unfold chF;exact acy (aaS ..) (by rw[abD];exact acH _)
          exact az (by omega)
         ·rw[cu,qh,hrn,acR he,ab9]
          congr 2
          rw[kH];rfl
        ·rw[abX (fun z=>he (by injection z))];refine aT ⟨⟨_,rfl⟩,?_⟩;rw[qh,hrn,acS he,ab5]
       ·rintro τ H5 ⟨_,rfl⟩;rw[abu,hlen];have sD:=ab.upd (o:=HO.lst ((chF R x R.length).map fun j=>V.int (j:Nat))) hD;have hcat:atI (ns.map V.int) ((kk:Nat):Int)=some (.int (ns[kk]'hk)):=au (ints_get hk);have hpos:0<((chF R x R.length).map fun j=>V.int (j:Nat)).length:=List.length_pos_of_mem (acB.mpr ⟨_,AD hrl,rfl⟩);obtain⟨j,v,hj,_,hat⟩:=gF (xs:=(chF R x R.length).map fun j=>V.int (j:Nat)) (n:=((((chF R x R.length).map fun j=>V.int (j:Nat)).length:Nat):Int)) rfl (by omega) (ns[kk]'hk);obtain⟨n,hn,rfl⟩:=acB.mp (aaW hj);obtain⟨r,hr'⟩:=AC hn;refine⟨_,rfl,_,rfl,_,rfl,b,_,_,_,rfl,rfl,SqL.of (sD _ _ hb3),hcat,_,rfl,D,_,rfl,.inl (SqL.of aa),_,_,rfl,rfl,(by omega),D,_,_,_,rfl,rfl,SqL.of aa,hat,n,r,_,rfl,gs3.up sD,sD _ _ ht3,sD _ _ hm3,hr',?_⟩;have h1:=u8 (S:=S) (A:=Aa) (B:=B) (r.map Gi.sg);rw[ab3] at h1;have h2:=hw14 _ (aaW hr');have h2:r.length<=14:=h2;omega
      ·rw[abX (show ¬((kk:Nat):Int)<(((ns.map V.int).length:Nat):Int) by rw[ab3];omega)];refine aT ⟨_,rl,_,rfl,gs3,ht3,hm3,hrl,?_⟩;omega
     ·rintro σ H4 ⟨n,r,o12',rfl,gs4,ht4,hm4,hn,hlt⟩;refine⟨_,rfl,_,_,rfl,rfl,?_⟩;refine⟨_,rfl,.inl ⟨rfl,_,SqL.of ht4⟩,_,rfl,acU,fun t2 ht2=>?_⟩;have s5:=ab.upd (o:=HO.tup [V.str "row",V.int (n:Nat)]) ht2;refine⟨tl,_,_,rfl,rfl,s5 _ _ ht4,iE (by omega),?_⟩;have gs5:=gs4.up s5;have n2:t2≠tl:=acQ (av ht4 ht2);have gs6:=gs5.on (gs5.s1.bG (o:=HO.lst (ti++[V.ref t2])) gs5.nt);have hm6:upd (upd H4 t2 (HO.tup [V.str "row",V.int (n:Nat)])) tl (.lst (ti++[V.ref t2])) md=some (.lst vs):=by rw[ad hne];exact s5 _ _ hm4
      have ht6:upd (upd H4 t2 (HO.tup [V.str "row",V.int (n:Nat)])) tl (.lst (ti++[V.ref t2])) tl=some (.lst (ti++[V.ref t2])):=aa;have h26:upd (upd H4 t2 (HO.tup [V.str "row",V.int (n:Nat)])) tl (.lst (ti++[V.ref t2])) t2=some (.tup [V.str "row",V.int (n:Nat)]):=by rw[ad n2];exact aa
      generalize upd (upd H4 t2 (HO.tup [V.str "row",V.int (n:Nat)])) tl (.lst (ti++[V.ref t2]))=H6 at gs6 hm6 ht6 h26;obtain⟨rs,tr,br,hrs,hri,htr,hbr,hrl⟩:=row gs6.s hn;have hr14:r.length<=14:=hw14 _ (aaW hn);refine⟨_,rfl,_,rfl,_,rfl,a,_,(n:Int),_,rfl,rfl,SqL.of hrs,au hri,tr,_,1,_,rfl,rfl,SqT.of htr,au (j:=1) rfl,br,r.map V.str,rfl,SqL.of hbr,fun D hD=>?_⟩;refine jC (K:=K) (xs:=r.map V.str) (fun i τ H7=>(∃o,τ=[o])/\cA fK H6 D H7 ((r.reverse.map Gi.sg).take i)) ⟨⟨_,rfl⟩,cA.zero hD⟩ ?_ ?_ ?_
      ·rintro i τ H7 ⟨_,hg⟩;exact SqL.of ((hg.fin iF).1 _ _ hbr)
      ·rintro i y τ H7 hy ⟨⟨o,rfl⟩,hg⟩;rw[←List.map_reverse] at hy;obtain⟨sg,hsg,rfl⟩:=bH hy;have hil:i<r.reverse.length:=(aaj.mp hsg).1;rw[abb] at hil;refine⟨_,rfl,acU,fun t5 ht5=>?_⟩;have s8:=ab.upd (o:=HO.tup [.str "sign",.str sg]) ht5;have hg8:=hg.on iF s8;obtain⟨ys,hys,_⟩:=id hg8;have hyl:=hg8.len hys;rw[abK] at hyl;refine⟨ys,hys,az (by omega),⟨_,rfl⟩,?_⟩;rw[acm,abt,hsg];refine hg8.add hD hys (y:=Gi.sg sg) ⟨t5,rfl,?_⟩;have:t5≠D:=fun e=>by
        obtain⟨y6,hy6,_⟩:=id hg;rw[e,hy6] at ht5;cases ht5
       rw[hide_ne this];exact aa
      ·rintro τ H7 ⟨_,hg⟩;have ht7:(r.reverse.map Gi.sg).take (r.map V.str).length=r.reverse.map Gi.sg:=aaE (by rw[ab3,ab3,abb];exact acH _);rw[ht7] at hg;obtain⟨s7,ds,hds,hdp⟩:=hg.fin iF;have hdl:ds.length=r.length:=by rw[aco hdp,ab3,abb]
       refine⟨tl,D,_,_,rfl,rfl,s7 _ _ ht6,hds,?_,fun tl' htl'=>?_⟩
       ·rw[abi,aaH,hdl];exact acz (iE (by omega))
       have gs7:=gs6.up s7;have hm7:=s7 _ _ hm6;have htl7:=s7 _ _ ht6;have sub:=gs7.sub;have gr:=gs7.re;refine⟨fj md tl H7,r.map Gi.sg++.rw n::td',_,ms,vs,kk+1,tl',md,_,_,_,_,_,_,_,rfl,⟨gr.s0,gr.s1.trans (ab.upd htl'),vx,nG htl',gr.d⟩,fun z=>?_,aa,?_,ab.upd htl' _ _ hm7,Paired.bp hpm fun _ _ z=>z.mono sub,Fin.row hn hfin,?_,?_⟩
       ·rw[←z,hm7] at htl';cases htl'
       ·rw[abc,abH,←List.map_reverse];exact df (df (Paired.bp hpi fun _ _ z=>iF _ _ _ _ sub z) (.cons (fK.hid (g:=.rw n) hm7 htl7 ⟨t2,rfl,s7 _ _ h26⟩) .nil)) (Paired.bp hdp fun _ _ z=>fK.hid hm7 htl7 z)
       ·rw[rm,cG];have:(Gi.rw n).wt S Aa B=1:=rfl;omega
       ·rw[rm,cG];have:(Gi.rw n).wt S Aa B=1:=rfl;omega
    ·have dg:bu H3 dl (.str x) none:=by
      rw[←xk h3 hx];exact bu.k (k:=Sum.inr x) hd3
     refine⟨_,rfl,_,rfl,dl,_,rfl,dg,_,rfl,bC ?_⟩;refine⟨_,rfl,.inl ⟨rfl,_,SqL.of hm3⟩,_,rfl,md,_,_,rfl,rfl,hm3,iE (by omega),?_⟩;have hw:=h3.wtW hx;refine⟨G,td',ti,ms++[.w x],_,kk,tl,md,_,_,_,_,_,_,_,rfl,gs3.on (gs3.s1.bG gs3.nm),hne,?_,hpi,aa,df hpm (.cons (show RT G (.str x) (.w x) from .str x) .nil),Fin.word hx hfin,by omega,?_⟩
     ·rw[ad (acQ hne)];exact ht3
     ·rw[Tr.eW];have:Tr.szL [Tr.w x]=1+0:=by simp[Tr.szL,Tr.sz]
      omega
end
end Nw
namespace Nw
open PySem L2
open SL (aj srt)
abbrev og:Stmt:=top 47
def jH:aE ["_law_tree","_law_line","_law_todo","_law_part"] ["_law_tree"] (am og):=acW
def vB:Sp:=fun vs H Q _=>∃(x:V) (t:Tr),vs=[x]/\RT H x t/\t.sz<=4000000/\∀q H',ab H H'->H q=none->ao H' q t.words->Q (.ref q) H'
section
variable {P:Program}{w:World}{K:acX}{mg:Str->Option Value}{base:Heap}
def yS{f:Addr}{fd:FuncData}(F:Fun K "_law_line_of" "_law_line_of" og f fd)(T:Txt mg)(hRv:mg "reversed"=none):aM P w K mg base CX0 1 f fd ["_law_tree"] vB:=by
 refine F.ok jH (fun vs H Q E h=>?_) (fun cdv A outer s H vs Q E hr h=>?_)
 ·obtain⟨x,t,rfl,_⟩:=h;rfl
 ·obtain⟨x0,t0,rfl,hx0,hsz,k⟩:=h;have hu:=bO hr;have hu0:(A.deeper (PyProof.Rows.envOfC "_law_line_of" (am og) s.heap.objs.size f cdv)).units<cLine:=Nat.lt_of_succ_lt hu;refine⟨_,af (ak (i:=1) jH.nd rfl (Or.inl rfl) (bg ac))
   (af (ak (i:=2) jH.nd rfl (Or.inl rfl) (bg (ai (pv 0) ac)))
   (af (dD ace (bA (kC hu0) (pv 2) (bg ac) (b8 _))
    (af (ak (i:=3) jH.nd rfl (Or.inl rfl) (jf aay aaP aaQ jg (pv 2)))
    (ag (bh (bN (aB cE (by rfl) T.isi acf (ai (pv 3) (ai (cC (v:=.ty "str") (by rfl) T.str pD rfl) ac))))
     (ag (bc (bW aay aas aat aY (pv 1) (ai (pv 3) ac))))
     (ag (ak (i:=2) jH.nd rfl (Or.inl rfl) (bV ij (pv 2) (sZ rfl (by rfl) T.lst (by rfl) hRv (ai (aG aR (pv 3) aq (fun _ _=>rfl)) ac)))))))))
   (ag (aO (pv 1))))),?_⟩
  refine⟨by decide,fun ql hql=>⟨_,rfl,acT,fun tl htl=>?_⟩⟩;have s0:ab H (upd H ql (.lst [])):=ab.upd hql;have htlH:H tl=none:=s0.free htl;have nqt:ql≠tl:=av aa htl;refine⟨fun m σ H1=>∃ts vs ln tl o,σ=[some x0,some (.ref ql),some (.ref tl),o]/\ab H H1/\H1 ql=some (.lst (ln.map V.str))/\H tl=none/\tl≠ql/\H1 tl=some (.lst vs)/\Paired (RT H) vs ts/\ln++Tr.aP ts.reverse=t0.words/\m=Tr.szL ts/\ln.length+m<=t0.sz,
   ⟨_,[t0],[x0],[],tl,_,rfl,s0.trans (ab.upd htl),?_,htlH,acQ nqt,aa,.cons hx0 .nil,?_,rfl,?_⟩,?_⟩
  ·rw[ad nqt];exact aa
  ·show []++(t0.words++[])=t0.words;rw[ab5];rfl
  ·show 0+(t0.sz+0)<=t0.sz;omega
  rintro m σ H1 ⟨ts,vs,ln,tl,o,rfl,s1,hq1,htlN,ntq,hl1,hp1,hw,rfl,hm⟩;refine⟨_,rfl,by decide,fun qn hqn=>?_⟩;have sn:ab H1 (upd H1 qn (.lst [])):=ab.upd hqn;refine⟨tl,qn,vs,rfl,rfl,SqL.of (sn _ _ hl1),SqL.of aa,_,rfl,?_⟩;have s1n:=s1.trans sn;generalize hH2:upd H1 qn (.lst [])=H2 at sn s1n;have hl2:=sn _ _ hl1;have hq2:=sn _ _ hq1;rcases aaR vs with rfl|⟨vi,vl,rfl⟩
  ·cases hp1
   refine aT ⟨_,rfl,k ql H2 s1n hql ?_⟩;have hw:ln++[]=t0.words:=hw;rw[ab5] at hw;rw[←hw];exact hq2
  ·rw[show(!(vi.concat vl).isEmpty)=true by simp];rw[aaO] at hl2 hp1;obtain⟨ti,u,rfl,hpi,hu1⟩:=fO hp1;have hsz2:Tr.szL (ti++[u])=Tr.szL ti+u.sz:=by rw[Tr.eW];rfl
   have hw2:ln++(u.words++Tr.aP ti.reverse)=t0.words:=by
    rw[abc] at hw;exact hw
   have hup:=Tr.gD u;refine bC ⟨fun σ H4=>∃ts vs ln tl o,σ=[some x0,some (.ref ql),some (.ref tl),o]/\ab H H4/\H4 ql=some (.lst (ln.map V.str))/\H tl=none/\tl≠ql/\H4 tl=some (.lst vs)/\Paired (RT H) vs ts/\ln++Tr.aP ts.reverse=t0.words/\Tr.szL ts<Tr.szL (ti++[u])/\ln.length+Tr.szL ts<=t0.sz,?_,?_⟩
   ·rintro σ' H4 ⟨ts',vs',ln',tl',o',rfl,q1,q2,q3,q4,q5,q6,q7,q8,q9⟩;exact⟨_,q8,ts',vs',ln',tl',o',rfl,q1,q2,q3,q4,q5,q6,q7,rfl,q9⟩
   refine⟨_,rfl,.inl ⟨rfl,_,SqL.of hl2⟩,tl,_,vl,rfl,rfl,hl2,by simp,?_⟩;rw[aaZ];have s3:ab H (upd H2 tl (.lst vi)):=s1n.bG htlN;have hq3:upd H2 tl (.lst vi) ql=some (.lst (ln.map V.str)):=by rw[ad (acQ ntq)];exact hq2
   have hl3:upd H2 tl (.lst vi) tl=some (.lst vi):=aa;generalize upd H2 tl (.lst vi)=H3 at s3 hq3 hl3;have hlen3:ln.length+Tr.szL ti+u.sz<=t0.sz:=by omega
   have hvi:vi.length<=Tr.szL ti:=by rw[aco hpi];exact Tr.jT ti
   rcases hu1.cases with ⟨s,rfl,rfl⟩|⟨s,i,ps,a,l,ws,rfl,rfl,ha,hl,hps⟩
   ·refine⟨_,rfl,_,_,_,_,rfl,.str _,wm,_,rfl,bC ?_⟩;refine⟨_,rfl,.inl ⟨rfl,_,SqL.of hq3⟩,_,rfl,ql,_,_,rfl,rfl,hq3,iE (by rw[ab3];omega),ti,vi,ln++[s],tl,_,rfl,s3.bG hql,?_,htlN,ntq,?_,hpi,?_,?_,?_⟩
    ·rw[aa,ab9];rfl
    ·rw[ad ntq];exact hl3
    ·rw[abw];exact hw2
    ·rw[hsz2];omega
    ·rw[abi,aaH];have:Tr.sz (.w s)=1:=by simp[Tr.sz]
     omega
   ·refine⟨_,rfl,_,_,_,_,rfl,.tup (s3 _ _ ha),BQ,_,rfl,aT ?_⟩;have hszn:Tr.sz (.n s i ps)=1+Tr.szL ps:=rfl;have hws:ws.length<=Tr.szL ps:=by rw[aco hps];exact Tr.jT ps
    refine⟨_,rfl,_,rfl,a,_,2,_,rfl,rfl,SqT.of (s3 _ _ ha),au (j:=2) rfl,l,ws,rfl,SqL.of (s3 _ _ hl),fun lr hlr=>?_⟩;have sr:=ab.upd (o:=HO.lst ws.reverse) hlr;refine⟨tl,lr,vi,ws.reverse,rfl,rfl,sr _ _ hl3,aa,acz (iE (by rw[abb];omega)),fun tn htn=>?_⟩;have st:=ab.upd (o:=HO.lst (vi++ws.reverse)) htn;have s3t:=(s3.trans sr).trans st;refine⟨ti++ps.reverse,vi++ws.reverse,ln,tn,_,rfl,s3t,st _ _ (sr _ _ hq3),(s3.trans sr).free htn,fun z=>?_,aa,df hpi (fi hps),?_,?_,?_⟩
    ·rw[z,sr _ _ hq3] at htn;cases htn
    ·rw[abc,aa0,Tr.fc];exact hw2
    ·rw[hsz2,Tr.eW,hszn];have:Tr.szL ps.reverse=Tr.szL ps:=Tr.mD ps;omega
    ·rw[Tr.eW];have:Tr.szL ps.reverse=Tr.szL ps:=Tr.mD ps;omega
end
end Nw
namespace Nw
open PySem L2
open SL (aj srt)
abbrev xm:Stmt:=top 52
def eJ:aE ["_law_script","_law_rows","_law_tree","_law_inner","_law_k","_law_line","_law_handed","_law_given","_law_found"] ["_law_script"] (am xm):=acW
def oh(K:acX)(TP:Addr):Sp:=fun vs H Q _=>∃(a:Addr) (ns:List Int),vs=[.ref a]/\SqL K H a (ns.map V.int)/\ns.length<=63/\bx TP fe tmQ H/\∀H',Q (.bl true) H'
def boot_sum:bootBuiltins "sum"=some (.builtin "sum"):=by decide +kernel
def vC{H:Hp}{q:Addr}{R:List Row}{vs:List V}{p:Row}{v:V}(hq:H q=some (.lst vs))(hp:Paired (cU H) vs R)(hne:R≠[])(hv:cU H v p):aQ (upd H q (.lst (vs++[v]))) q (R++[p]):=by
 have nt:∀{t':Addr} {xs:List V},H t'=some (.tup xs)->t'≠q:=fun{t' xs} e z=>by rw[z,hq] at e;cases e
 have nb:∀{b':Addr} {rs:List Str},ao H b' rs->b'≠q:=fun{b' rs} e=>qN hp hne hq e
 exact⟨_,aa,b7 (Paired.bp hp fun _ _ ⟨t',b',q1,q2,q3⟩=>⟨t',b',q1,by rw[ad (nt q2)];exact q2,by unfold ao;rw[ad (nb q3)];exact q3⟩)
  (let ⟨t',b',q1,q2,q3⟩:=hv;⟨t',b',q1,by rw[ad (nt q2)];exact q2,by unfold ao;rw[ad (nb q3)];exact q3⟩)⟩
def yT{TP q:Addr}{H:Hp}{pos:Pos}{x:Str}{vs ws:List V}(hq:H q=some (.lst vs))(h:bx TP pos x H):bx TP pos x (upd H q (.lst ws)):=by
 obtain⟨qs,g1,g2,g3⟩:=h;refine⟨qs,by rw[ad (fun z=>by rw[z,hq] at g1;cases g1)];exact g1,g2,?_⟩;rcases g3 with g3|⟨c,g3,g4⟩
 ·exact .inl g3
 ·exact .inr ⟨c,g3,by rw[ad (fun z=>by rw[z,hq] at g4;cases g4)];exact g4⟩
def nest(B:Str)(n:Nat):Nat->Tr
 |0=>.n B 2 [.w "u"]
 |i+1=>.n B n [.w "q",nest B n i]
def rH{B:Str}{n:Nat}:∀i,(nest B n i).sz=2*i+2
 |0=>by simp[nest,Tr.sz,Tr.szL]
 |i+1=>by
  have:=rH (B:=B) (n:=n) i;show Tr.sz (.n B n [.w "q",nest B n i])=_;simp only[Tr.sz,Tr.szL,this];omega
def BV{R:List Row}{x:Tr}{s:Str}(h:x.ok R s):Tr.okL R [x] [s]:=by simp only[Tr.okL];exact⟨s,[],rfl,h,rfl⟩
def xn{R:List Row}{x y:Tr}{s u:Str}(h:x.ok R s)(h':y.ok R u):Tr.okL R [x,y] [s,u]:=by
 simp only[Tr.okL];exact⟨s,[u],rfl,h,u,[],rfl,h',rfl⟩
def tG{R:List Row}{s:Str}{i:Nat}{ps:List Tr}{r:List Str}(h:R[i]? =some (s,r))(k:Tr.okL R ps r):(Tr.n s i ps).ok R s:=show s=s/\∃r',R[i]? =some (s,r')/\Tr.okL R ps r' from ⟨rfl,r,h,k⟩
def tH{R:List Row}{s:Str}(h:¬s∈R.map (·.1)):(Tr.w s).ok R s:=show s=s/\¬s∈R.map (·.1) from ⟨rfl,h⟩
def rJ{R:List Row}{S A B:Str}(h3:bR R S A B){n:Nat}(hn:R[n]? =some (B,[("q":Str),B]))(hq:¬("q":Str)∈R.map (·.1)):∀i,(nest B n i).ok R B
 |0=>tG h3.h2 (BV (tH h3.nu))
 |i+1=>tG hn (xn (tH hq) (rJ h3 hn hq i))
def AE:∀t:Tr,t.d.sz<=4*t.sz
 |.w s=>by show D.sz (.str s)<=4*1;exact(by decide:1<=4)
 |.n s i ps=>by
  have:=d_szL ps;show D.sz (.tup [.str s,.int (i:Nat),.lst (Tr.dL ps)])<=4*(1+Tr.szL ps);simp only[D.sz,D.szs];omega
where d_szL:∀ps:List Tr,D.szs (Tr.dL ps)<=4*Tr.szL ps
 |[]=>acH _
 |t::r=>by
  have h1:=AE t;have h2:=d_szL r;show t.d.sz+D.szs (Tr.dL r)<=4*(t.sz+Tr.szL r);omega
def j4{H:Hp}{t l:Addr}{s:Str}{i:Nat}{ws:List V}{ps:List Tr}(ht:H t=some (.tup [.str s,.int (i:Nat),.ref l]))(hl:H l=some (.lst ws))(h:Paired (RT H) ws ps):RT H (.ref t) (.n s i ps):=iY ht hl (rF h)
structure Fit(R:List Row)(T:Tr):Prop where
 gd:Good R
 tg:Tight R
 s3:eD R
 nc:bM R
 ne:R≠[]
 ok:T.ok R (bP R)
 sz:T.sz<=1810
 wd:∀p∈R,p.2.length<=14
def mG{k:Nat}{R:List Row}(h:Drawn k R)(f:Ren):R.map (aw f)≠[]:=fun z=>by
 obtain⟨mm,e,_⟩:=h.sh;rw[e] at z;cases z
def tI{k:Nat}{R:List Row}(h:Drawn k R)(f:Ren):∀p∈R.map (aw f),p.2.length<=14:=fun p' hp'=>by
 obtain⟨p,hp,rfl⟩:=acB.mp hp';show(p.2.map _).length<=14;rw[ab3];exact h.wd p hp
def AF{R:List Row}(h:Drawn 3 R)(t:Tame stu 3 R){f:Ren}(hf:f=[]\/f=dz\/f=dA){T:Tr}(ok:T.ok (R.map (aw f)) (bP (R.map (aw f))))(sz:T.sz<=1810):Fit (R.map (aw f)) T:=
 ⟨qT (h.toK (by decide)) hf,pX (h.toK (by decide)) f,ny (h.toK (by decide)) f,(t.q.calm h.lf hf).xN,mG h f,ok,sz,tI h f⟩
def qi:Row:=("B",["q","B"])
def xo{f:Ren}(hf:f=[]\/f=dz\/f=dA)(R:List Row):(R++[qi]).map (aw f)=R.map (aw f)++[(gOf f "B",[("q":Str),gOf f "B"])]:=by
 have gq:gOf f "q"="q":=kW hf (by decide +kernel);rw[ab9];show _++[(gOf f "B",[gOf f "q",gOf f "B"])]=_;rw[gq]
def Bl{R:List Row}(h:Drawn 3 R)(t:Tame stu 3 R){f:Ren}(hf:f=[]\/f=dz\/f=dA){i:Nat}(hi:i<=120) :
  Fit (R.map (aw f)++[(gOf f "B",[("q":Str),gOf f "B"])]) (.n (gOf f "S") 0 [.w "s",.n (gOf f "A") 1 [.w "t",nest (gOf f "B") R.length i]]):=by
 have d4:Drawn 4 (R++[qi]):=h.add (w:="q") (show("B":Str)∈cY by decide +kernel) (show 2<=14 by decide) (show ∀x∈([("q":Str),"B"]:List Str),x="q"\/x∈cN by decide +kernel) (by decide +kernel);have t4:=t.BO.2;obtain⟨more,e,_⟩:=d4.sh;have h3:=kX e d4.lf hf;rw[←xo hf];have nq:¬("q":Str)∈((R++[qi]).map (aw f)).map (·.1):=fun z=>by
  have:=h3.all _ z
  revert this
  rcases hf with rfl|rfl|rfl <;> decide +kernel
 have hn:((R++[qi]).map (aw f))[R.length]? =some (gOf f "B",[("q":Str),gOf f "B"]):=by
  rw[xo hf,aag (by rw[ab3];exact acH _),ab3,acF];rfl
 refine⟨qT d4 hf,pX d4 f,ny d4 f,(t4.calm d4.lf hf).xN,mG d4 f,?_,?_,tI d4 f⟩
 ·rw[h3.fst];exact tG h3.h0 (xn (tH h3.ns) (tG h3.h1 (xn (tH h3.nt) (rJ h3 hn nq i))))
 ·have:=rH (B:=gOf f "B") (n:=R.length) i;simp only[Tr.sz,Tr.szL,this];omega
section
variable {P:Program}{w:World}{K:acX}{mg:Str->Option Value}{base:Heap}
def AG{TP f:Addr}{fd:FuncData}(F:Fun K "law" "law" xm f fd)(T:Txt mg)(dDrawn:Def P w K mg base "_law_drawn_rows" 2 ["_law_cells","_law_wild"] pZ)(dRen:Def P w K mg base "_law_renamed" 1 ["_law_rows","_law_cell"] xH)
  (dGrown:Def P w K mg base "_law_grown" 1 ["_law_rows","_law_cells"] rG)(dLine:Def P w K mg base "_law_line_of" 1 ["_law_tree"] vB)(dRd:Def P w K mg base "read" 12 ["rows","line"] (AB TP))(dSo:Def P w K mg base "_law_so" 1 ["_law_found","_law_due"] zG):aM P w K mg base CX0 13 f fd ["_law_script"] (oh K TP):=by
 refine F.ok eJ (fun vs H Q E h=>?_) (fun cdv A outer s H vs Q E hr h=>?_)
 ·obtain⟨a,ns,rfl,_⟩:=h;rfl
 ·obtain⟨a,ns,rfl,hS,hl63,hT,k⟩:=h;have hr12:a9 12 _:=hr.mono (by decide);have hr2:a9 2 _:=hr.mono (by decide);have hr1:a9 1 _:=hr.mono (by decide);refine exI ⟨_,bL (.of (ak (i:=1) eJ.nd rfl (Or.inl rfl) (aA dRen hr1 (by rfl) (ai (aA dDrawn hr2 (by rfl) (ai (fA gl (pv 0) ig (fw aq)) (ai c8 ac)))
     (ai (aB (vZ rfl) (by rfl) T.sum boot_sum (ai (fA gl (pv 0) ig (fw aq)) ac)) ac)))))
   (bL (.of (ak (i:=2) eJ.nd rfl (Or.inl rfl) (aA dGrown hr1 (by rfl) (ai (pv 1) (ai (fA gl (pv 0) (fw aq) (fw aq)) ac)))))
   (bL (.of (bh (bA nU (bV dm (aB aZ (by rfl) T.len acn (ai (pv 0) ac)) aq) aq (b8 _))
    (af (ak (i:=3) eJ.nd rfl (Or.inl rfl) (aG aR (aG a0 (pv 1) aq (fun _ _=>rfl)) aq (fun _ _=>rfl)))
    (af (ak (i:=2) eJ.nd rfl (Or.inl rfl) (bj (ai (pv 3) (ai aq (ai (bg (ai cJ ac)) ac)))))
    (fH (bf ace rfl (gM (by rfl) T.rng (ai (bV zh aq (bV dm (aB aZ (by rfl) T.len acn (ai (pv 0) ac)) aq)) ac)) (ap (i:=4) eJ.nd rfl (Or.inl rfl))
     (ag (ak (i:=2) eJ.nd rfl (Or.inl rfl) (bj (ai (pv 3) (ai (aB aZ (by rfl) T.len acn (ai (pv 1) ac)) (ai (bg (ai cJ (ai (pv 2) ac))) ac)))))))
    (fH (bc (bW aay aas aat aY (pv 1) (ai (bj (ai (pv 3) (ai (bg (ai cJ (ai (pv 3) ac))) ac))) ac)))
    (ag (ak (i:=2) eJ.nd rfl (Or.inl rfl) (bj (ai (aG aR (aG a0 (pv 1) aq (fun _ _=>rfl)) aq (fun _ _=>rfl)) (ai aq (ai (bg (ai cJ
     (ai (bj (ai (aG aR (aG a0 (pv 1) aq (fun _ _=>rfl)) aq (fun _ _=>rfl)) (ai aq (ai (bg (ai cJ (ai (pv 2) ac))) ac)))) ac))) ac))))))))))
    bt))
   (bL (.of (ak (i:=5) eJ.nd rfl (Or.inl rfl) (aA dLine hr1 (by rfl) (ai (pv 2) ac))))
   (bL (.of (iQ (k:=6) (aU.none (N:=["_law_row"]) (sel:=[none]) (by rfl) (by rfl) (by rfl) (by decide) (by decide) (by rfl) (by decide)) rfl eJ.nd rfl (Or.inl rfl) (aS (pv 1)) (fun s₃ H₃ fp=>ap (i:=0) (show(["_law_row"]:List Str).Nodup by decide) rfl (Or.inl rfl)) (fun s₃ H₃ fp=>cI)
    (fun s₃ H₃ fp=>bj (ai (aG (r:=hV K) aR (pv 0) aq (fun _ _=>rfl)) (ai (c6 (X:=b9 _ _ _ _ _ _ _) (T:="list") (r:=my K) km (by rfl) T.lst (by decide +kernel) (ai (aG (r:=hV K) aR (pv 0) aq (fun _ _=>rfl)) ac)) ac)))))
   (bL (.of (ak (i:=7) eJ.nd rfl (Or.inl rfl) (c6 (T:="list") (r:=my K) km (by rfl) T.lst (by decide +kernel) (ai (pv 5) ac))))
   (bL (.of (ak (i:=8) eJ.nd rfl (Or.inl rfl) (aA dRd hr12 (by rfl) (ai (pv 6) (ai (pv 7) ac)))))
   (bL (.of (bh (PW.pt (k9 (eY (bN (aA dSo hr1 (by rfl) (ai (pv 6) (ai (pv 1) ac))))) (k8 (eY (bN (aA dSo hr1 (by rfl) (ai (pv 7) (ai (pv 5) ac)))))))) bS bt))
   (dZ (.of (aO (aA dSo hr1 (by rfl) (ai (pv 8) (ai (bj (ai cJ (ai (pv 2) ac))) ac))))))))))))),?_⟩
  refine⟨fun σ H1=>∃q R f,σ=[some (.ref a),some (.ref q),none,none,none,none,none,none,none]/\ab H H1/\aQ H1 q (R.map (aw f))/\(f=[]\/f=dz\/f=dA)/\Drawn 3 R/\Tame stu 3 R,?_,?_⟩
  ·obtain⟨ms,e,hm⟩:=pW ns 3;have e:dy (ns.map V.int) none (some 3)=ms.map V.int:=e;refine⟨_,rfl,3,rfl,a,_,rfl,hS,fun p hp=>?_⟩;rw[e];have sp:=ab.upd (o:=HO.lst (ms.map V.int)) hp;refine⟨p,ms,rfl,aa,by omega,fun q0 R0 H1 s1 hq0 hR0 dr tm=>?_⟩;have s01:=sp.trans s1;obtain⟨ms',e',hm'⟩:=pW ns 2;have e':dy (ns.map V.int) none (some 2)=ms'.map V.int:=e';refine⟨_,rfl,2,rfl,a,_,rfl,s01.seq hS,fun p' hp'=>?_⟩;rw[e'];have sp':=ab.upd (o:=HO.lst (ms'.map V.int)) hp';have dr:=dr.toK (m:=3) (by omega);have tm:Tame stu 3 R0:=tm.toK (by omega);have hlR:R0.length<=20:=by
    obtain⟨m,e,hm⟩:=dr.sh;rw[e,abi];show 3+m.length<=20;omega
   exact⟨p',ms',rfl,SqL.of aa,q0,_,R0,rfl,hR0.mono sp',hlR,fun p hp=>acy (dr.wd p hp) (by decide),fun q f H' s' hf hR=>⟨q,R0,f,rfl,(s01.trans sp').trans s',hR,hf,dr,tm⟩⟩
  rintro σ H1 ⟨q,R0,f',rfl,s1,hR1,hf,dr,tm⟩;obtain⟨more,eR,hmo⟩:=dr.sh;have h3:=kX eR dr.lf hf;have hlR:(R0.map (aw f')).length<=6:=by
   rw[ab3,eR,abi];show 3+more.length<=6;omega
  have hlR0:(R0.map (aw f')).length=R0.length:=ab3 ..;refine⟨fun σ H2=>∃x T,σ=[some (.ref a),some (.ref q),some x,none,none,none,none,none,none]/\ab H1 H2/\RT H2 x T/\T.ok (R0.map (aw f')) (bP (R0.map (aw f')))/\T.sz<=1810,?_,?_⟩
  ·obtain⟨ms,e,hm⟩:=wS ns 3 15;have e:dy (ns.map V.int) (some 3) (some 15)=ms.map V.int:=e;refine⟨_,rfl,_,rfl,3,rfl,15,rfl,a,_,rfl,s1.seq hS,fun p hp=>?_⟩;rw[e];have sp:=ab.upd (o:=HO.lst (ms.map V.int)) hp;exact⟨q,p,_,ms,_,_,_,rfl,hR1.mono sp,h3,by omega,tI dr f',aa,by omega,fun x T H' s' ok rt sz=>⟨x,T,rfl,sp.trans s',rt,ok,sz⟩⟩
  rintro σ H2 ⟨x2,T2,rfl,s2,rt2,ok2,sz2⟩;refine⟨fun σ H3=>∃x T R o3 o4,σ=[some (.ref a),some (.ref q),some x,o3,o4,none,none,none,none]/\aQ H3 q R/\RT H3 x T/\Fit R T/\bx TP fe tmQ H3,?_,?_⟩
  ·have s02:=s1.trans s2;have hT2:=hT.mono s02;refine⟨_,rfl,a,_,rfl,.inl (s02.seq hS),_,_,rfl,rfl,(show(0:Int)<5 by decide),rfl,_,rfl,?_⟩;refine zA (fun _=>?_) fun _=>⟨x2,T2,_,_,_,rfl,hR1.mono s2,rt2,AF dr tm hf ok2 sz2,hT2⟩
   have hR2:=hR1.mono s2;obtain⟨vs,t2,b2,e1,e2,e3,e4,hlv⟩:=gI hR2 h3.h2;refine⟨_,rfl,q,_,2,_,rfl,rfl,SqL.of e1,au (j:=2) e2,t2,_,0,_,rfl,rfl,SqT.of e3,au (j:=0) rfl,?_⟩;refine⟨_,rfl,acT,fun l0 hl0=>⟨acV,fun t0 ht0=>?_⟩⟩;have sl:=ab.upd (o:=HO.lst [V.str "u"]) hl0;have stt:=ab.upd (o:=HO.tup [V.str (gOf f' "B"),V.int 2,V.ref l0]) ht0;have nl0:l0≠q:=acQ (av e1 hl0);have nt0:t0≠q:=acQ (av (sl _ _ e1) ht0);have hq3:=stt _ _ (sl _ _ e1);have rt3:RT (hide q (upd (upd H2 l0 (.lst [V.str "u"])) t0 (.tup [V.str (gOf f' "B"),V.int 2,V.ref l0]))) (.ref t0) (nest (gOf f' "B") R0.length 0):=
    j4 (by rw[hide_ne nt0];exact aa) (by rw[hide_ne nl0];exact stt _ _ aa) (.cons (show RT _ (.str "u") (.w "u") from .str _) .nil)
   have s23:=sl.trans stt;generalize upd (upd H2 l0 (.lst [V.str "u"])) t0 (.tup [V.str (gOf f' "B"),V.int 2,V.ref l0])=H3 at hq3 rt3 s23;have hrl:((ns.map V.int).length:Int) % 7<=6/\0<=((ns.map V.int).length:Int) % 7:=by omega
   refine⟨fun σ H4=>∃x i o4,σ=[some (.ref a),some (.ref q),some x,some (.str (gOf f' "B")),o4,none,none,none,none]/\ab H3 H4/\RT (hide q H4) x (nest (gOf f' "B") R0.length i)/\i<=120,?_,?_⟩
   ·refine⟨_,rfl,a,_,rfl,.inl ((s02.trans s23).seq hS),_,_,rfl,rfl,(show(0:Int)<7 by decide),_,_,rfl,rfl,?_,_,rfl,?_,?_,jb (n:=(20*(((ns.map V.int).length:Int) % 7)).toNat)
     (fun i σ H4=>∃x o4,σ=[some (.ref a),some (.ref q),some x,some (.str (gOf f' "B")),o4,none,none,none,none]/\ab H3 H4/\RT (hide q H4) x (nest (gOf f' "B") R0.length i)) ⟨_,_,rfl,ab.refl _,rt3⟩ ?_ ?_⟩
    ·exact .inl ⟨by decide,by decide⟩
    ·omega
    ·omega
    ·rintro i σ H4 hi ⟨x,o4,rfl,s4,rt4⟩;have hq4:=s4 _ _ hq3;refine⟨_,rfl,_,rfl,q,_,rfl,.inl (SqL.of hq4),_,rfl,acU,fun l hl=>⟨acV,fun t ht=>?_⟩⟩;have sl:=ab.upd (o:=HO.lst [V.str "q",x]) hl;have stt:=ab.upd (o:=HO.tup [V.str (gOf f' "B"),V.int ((vs.length:Nat):Int),V.ref l]) ht;have nl:l≠q:=acQ (av hq4 hl);have nt:t≠q:=acQ (av (sl _ _ hq4) ht);refine⟨_,_,rfl,(s4.trans sl).trans stt,?_⟩;have ht5:(upd (upd H4 l (.lst [V.str "q",x])) t (.tup [V.str (gOf f' "B"),V.int ((vs.length:Nat):Int),V.ref l])) t=some (.tup [V.str (gOf f' "B"),V.int ((R0.length:Nat):Int),V.ref l]):=by
      rw[←hlR0,←hlv];exact aa
     exact j4 (by rw[hide_ne nt];exact ht5) (by rw[hide_ne nl];exact stt _ _ aa) (.cons (show RT _ (.str "q") (.w "q") from .str _) (.cons (rt4.mono (sl.trans stt).hide) .nil))
    ·rintro σ H4 ⟨x,o4,rfl,s4,rt4⟩;exact⟨x,_,o4,rfl,s4,rt4,by omega⟩
   rintro σ H4 ⟨x,i,o4,rfl,s4,rt4,hi⟩;have s24:=s23.trans s4;have hR4:=hR2.mono s24;have hq4:=s24 _ _ e1;have hT4:=hT2.mono s24;refine⟨fun σ H5=>σ=[some (.ref a),some (.ref q),some x,some (.str (gOf f' "B")),o4,none,none,none,none]/\aQ H5 q (R0.map (aw f')++[(gOf f' "B",[("q":Str),gOf f' "B"])])/\RT H5 x (nest (gOf f' "B") R0.length i)/\bx TP fe tmQ H5,?_,?_⟩
   ·refine⟨_,rfl,.inl ⟨rfl,_,SqL.of hq4⟩,_,rfl,_,rfl,acU,fun l hl=>⟨acU,fun t ht=>?_⟩⟩;have sl:=ab.upd (o:=HO.lst [V.str "q",V.str (gOf f' "B")]) hl;have stt:=ab.upd (o:=HO.tup [V.str (gOf f' "B"),V.ref l]) ht;have s6:=sl.trans stt;obtain⟨vs6,hv6,hp6⟩:=hR4.mono s6;have e6:=s6 _ _ hq4;rw[hv6] at e6;injection e6 with e6;injection e6 with e6;subst e6;refine⟨q,_,_,rfl,rfl,hv6,az (by omega),rfl,?_,?_,yT hv6 (hT4.mono s6)⟩
    ·exact vC (p:=(gOf f' "B",[("q":Str),gOf f' "B"])) hv6 hp6 (mG dr f') ⟨t,l,rfl,aa,stt _ _ aa⟩
    ·refine rt4.mono fun b o e=>?_
     have nb:b≠q:=fun z=>by rw[z] at e;unfold hide at e;rw[acR rfl] at e;cases e
     rw[hide_ne nb] at e;rw[ad nb];exact s6 _ _ e
   rintro σ H5 ⟨rfl,hR5,rt5,hT5⟩;have fq:=Bl dr tm hf hi;have h3q:bR (R0.map (aw f')++[(gOf f' "B",[("q":Str),gOf f' "B"])]) (gOf f' "S") (gOf f' "A") (gOf f' "B"):=by
    rw[←xo hf];have d4:Drawn 4 (R0++[qi]):=dr.add (w:="q") (show("B":Str)∈cY by decide +kernel) (show 2<=14 by decide) (show ∀x∈([("q":Str),"B"]:List Str),x="q"\/x∈cN by decide +kernel) (by decide +kernel);obtain⟨more,e,_⟩:=d4.sh;exact kX e d4.lf hf
   obtain⟨us,u0,c0,g1,g2,g3,g4,_⟩:=gI hR5 h3q.h0;obtain⟨us',u1,c1,k1,k2,k3,k4,_⟩:=gI hR5 h3q.h1;rw[g1] at k1;cases k1
   refine⟨_,rfl,q,_,0,_,rfl,rfl,SqL.of g1,au (j:=0) g2,u0,_,0,_,rfl,rfl,SqT.of g3,au (j:=0) rfl,_,rfl,q,_,1,_,rfl,rfl,SqL.of g1,au (j:=1) k2,u1,_,0,_,rfl,rfl,SqT.of k3,au (j:=0) rfl,
    _,rfl,acU,fun l1 hl1=>⟨acV,fun t1 ht1=>⟨acU,fun l2 hl2=>⟨acV,fun t2 ht2=>?_⟩⟩⟩⟩
   have v1:=ab.upd (o:=HO.lst [V.str "t",x]) hl1;have v2:=ab.upd (o:=HO.tup [V.str (gOf f' "A"),V.int 1,V.ref l1]) ht1;have v3:=ab.upd (o:=HO.lst [V.str "s",V.ref t1]) hl2;have v4:=ab.upd (o:=HO.tup [V.str (gOf f' "S"),V.int 0,V.ref l2]) ht2;have v24:=v2.trans (v3.trans v4);have v14:=v1.trans v24;refine⟨_,_,_,_,_,rfl,hR5.mono v14,?_,fq,hT5.mono v14⟩;exact j4 (i:=0) aa (v4 _ _ aa) (.cons (show RT _ (.str "s") (.w "s") from .str _) (.cons (j4 (i:=1) ((v3.trans v4) _ _ aa) (v24 _ _ aa) (.cons (show RT _ (.str "t") (.w "t") from .str _) (.cons (rt5.mono v14) .nil))) .nil))
  rintro σ H3 ⟨x,T0,R,o3,o4,rfl,hR,rt,ft,hT3⟩;have gd:=ft.gd;have sm:=gd.small;have hR14:=sm.len;refine⟨fun σ H4=>∃ln,σ=[some (.ref a),some (.ref q),some x,o3,o4,some (.ref ln),none,none,none]/\ab H3 H4/\ao H4 ln T0.words,?_,?_⟩
  ·exact⟨_,rfl,x,T0,rfl,rt,acy ft.sz (by decide),fun ln H' s' _ h=>⟨ln,rfl,s',h⟩⟩
  rintro σ H4 ⟨ln,rfl,s4,hln⟩;have hR4:=hR.mono s4;obtain⟨vs,hv,hp⟩:=id hR4;have hlen:vs.length=R.length:=aco hp;have hwl:T0.words.length<=1810:=acy (Tr.pN T0) ft.sz;refine⟨fun σ H5=>∃h,σ=[some (.ref a),some (.ref q),some x,o3,o4,some (.ref ln),some (.ref h),none,none]/\ab H4 H5/\aQ H5 h R,?_,?_⟩
  ·refine⟨_,rfl,q,rfl,⟨_,SqL.of hv⟩,fun D hD=>da (K:=K) (xs:=vs) (fun i τ H3=>(∃o,τ=[o])/\ab H4 H3/\∃us,eG H3 D us (R.take i)) ⟨⟨_,rfl⟩,ab.upd hD,[],eG.nil⟩ ?_ ?_ ?_⟩
   ·rintro i τ H3 ⟨_,s3,_⟩;exact SqL.of (s3 _ _ hv)
   ·rintro i x τ H3 hx ⟨⟨o,rfl⟩,s3,us,rb⟩;obtain⟨p,t,b,hpi,rfl,ht,hb⟩:=cL hp hx;have ht3:=s3 _ _ ht;have hb3:H3 b=some (.lst (p.2.map V.str)):=s3 _ _ hb;have hil:i<R.length:=(aaj.mp hpi).1;refine⟨_,rfl,t,_,0,_,rfl,rfl,SqT.of ht3,au (j:=0) rfl,_,rfl,t,_,1,_,rfl,rfl,SqT.of ht3,au (j:=1) rfl,b,_,rfl,.inl (SqL.of hb3),fun l hl=>⟨acU,fun t' ht'=>?_⟩⟩;have sl:=ab.upd (o:=HO.lst (p.2.map V.str)) hl;have st:=ab.upd (o:=HO.tup [V.str p.1,V.ref l]) ht';have rb':=rb.mono (sl.trans st);have hlD:l≠D:=acQ (av rb.at_ hl);have hus:us.length<=20:=by
     have:=aco rb.pr;rw[abK] at this;omega
    refine⟨us,rb'.at_,az (by omega),⟨_,rfl⟩,(s3.trans (sl.trans st)).bG hD,us++[.ref t'],?_⟩;rw[acm,hpi];exact rb'.snoc aa (st _ _ aa) hlD
   ·rintro τ H3 ⟨_,s3,us,rb⟩;rw[hlen,abS] at rb;exact⟨D,rfl,s3,rb.rows⟩
  rintro σ H5 ⟨h,rfl,s5,hH⟩;refine⟨fun σ H6=>∃g,σ=[some (.ref a),some (.ref q),some x,o3,o4,some (.ref ln),some (.ref h),some (.ref g),none]/\ab H5 H6/\ao H6 g T0.words,?_,?_⟩
  ·refine⟨_,rfl,ln,_,rfl,.inl (SqL.of (s5 _ _ hln)),fun g hg=>⟨g,rfl,ab.upd hg,aa⟩⟩
  rintro σ H6 ⟨g,rfl,s6,hg⟩;have s36:=(s4.trans s5).trans s6;have hT6:=hT3.mono s36;refine⟨fun σ H7=>∃y,σ=[some (.ref a),some (.ref q),some x,o3,o4,some (.ref ln),some (.ref h),some (.ref g),some y]/\cz TP H6 H7/\Rep H7 y (.tup [.str "tree",T0.d]),?_,?_⟩
  ·refine⟨_,rfl,_,rfl,h,g,R,T0.words,T0,rfl,hH.mono s6,gd,ft.tg,ft.s3,ft.nc,hg,by omega,ft.ne,ft.ok,rfl,hT6,fun t y H' sT _ ht hy=>⟨.ref t,rfl,sT,?_⟩⟩;refine .tup ht rfl fun i z d e1 e2=>?_
   rcases i with _|_|i
   ·cases e1;cases e2;exact .str _
   ·cases e1;cases e2;exact hy
   ·cases e1
  rintro σ H7 ⟨y,rfl,sT,hy⟩;have zr:(jQ R).sz<=10000:=acy (qV ft.wd) (by omega);have zl:(lD T0.words).sz<=10000:=by rw[qU];omega
  have r1:=Rep.onT hT6 sT (pE (hH.mono s6));have r2:=Rep.onT hT6 sT (pE (hR.mono s36));have r3:=Rep.onT hT6 sT (kJ hg);have r4:=Rep.onT hT6 sT (kJ (show ao H6 ln T0.words from (s5.trans s6) _ _ hln));have r5:RT H7 x T0:=Rep.onT hT6 sT (rt.mono s36);refine⟨fun σ H8=>σ=[some (.ref a),some (.ref q),some x,o3,o4,some (.ref ln),some (.ref h),some (.ref g),some y]/\ab H7 H8,?_,?_⟩
  ·refine⟨_,rfl,_,rfl,_,_,_,rfl,r1,r2,zr,fun H8 s8=>⟨_,rfl,aT ?_⟩⟩;exact⟨_,rfl,_,rfl,_,_,_,rfl,r3.mono s8,r4.mono s8,zl,fun H9 s9=>⟨_,rfl,aT ⟨rfl,s8.trans s9⟩⟩⟩
  rintro σ H8 ⟨rfl,s8⟩;refine⟨_,rfl,_,rfl,acU,fun t ht=>?_⟩;have st:=ab.upd (o:=HO.tup [V.str "tree",x]) ht;refine⟨_,_,_,rfl,hy.mono (s8.trans st),.tup aa rfl fun i z d e1 e2=>?_,?_,fun H9 s9=>k H9⟩
  ·rcases i with _|_|i
   ·cases e1;cases e2;exact .str _
   ·cases e1;cases e2;exact r5.mono (s8.trans st)
   ·cases e1
  ·have h1:=AE T0;have h2:=ft.sz;simp only[D.sz,D.szs];omega
end
end Nw
namespace L2
open PySem PySem.W PySem.Spec PyProof.Rows
def vD{P:Program}{w:World}{K:Frag}{mg mb:Str->Option Value}{k:Nat}{fa a c0 TP:Addr}{fd:FuncData}{x:Str}{sp:Sp}{s₁:Shared}{vs:List Value}{ns:List Int}
  (KX:K.In s₁.heap)(hns:s₁.heap.Ns mainGlobals mg)(hb:s₁.heap.Ns builtinsNs mb)(hbb:∀x:Str,x≠"__name__"->mb x=bootBuiltins x)(hlim:s₁.heap.NoLimit)(hg:s₁.gens=#[])
  (ha:s₁.heap.get? a=some {cls:=.type "list",data:=.seq vs.toArray})(hi:IntsAre vs ns)(hl:ns.length<=sizeLine)(hr:a9 k callerA)
  (hP:s₁.heap.get? TP=some (tabObj #[]))(hPK:K.lookup TP=none)(hcd:codeHdIn K c0 TP=true)(hbm:Bm mg s₁.heap)
  (F:∀base:Heap,K.In base->base.Ns mainGlobals mg->CodeHd base c0 TP->Bm mg base->aM P w K mg base CX0 k fa fd [x] sp)(hbind:∀(s:Shared) (u:Value),BindsTo s fd ⟨[u],[]⟩ [(x,u)])
  (hsp:∀H:Hp,H TP=some (.tbl #[])->SqL K H a (ns.map V.int)->sp [.ref a] H (fun v _=>v=.bl true) fun _ _ _=>False) :
  codeAny (model P w) callerA (.call (.ref fa) ⟨[.ref a],[]⟩) (fun r s'=>r=.ok (.ret (.bool true))/\OldK s₁.heap s'.heap/\s'.os=s₁.os/\AllBare s'.gens) s₁:=by
 have rv:=mN hi;have lenV:=hi.length;have naP:a≠TP:=fun z=>by
  rw[z,hP] at ha;cases ha
 have isT:isCodeTable s₁.heap TP:=by
  obtain⟨o,us,_,_,_,_,_,_,_,h1,h2,h3,h4,_⟩:=codeHd_of_K KX hcd;exact⟨c0,o,us,h1,h2,h3,h4⟩
 have core:∀H:Hp,(∀b,H b=none\/(∃o xs,H b=some (.frz o (.lst xs)))\/b=TP)->SqL K H a (ns.map V.int)->HOk P w H s₁.heap->(∀b,H b≠none->b=a\/b=TP)->(H a≠none->K.lookup a=none)->H TP=some (.tbl #[])->
   codeAny (model P w) callerA (.call (.ref fa) ⟨[.ref a],[]⟩) (fun r s'=>r=.ok (.ret (.bool true))/\OldK s₁.heap s'.heap/\s'.os=s₁.os/\AllBare s'.gens) s₁:=by
  intro H hO hS hok hA hK hTP;have base_of:∀{b:Addr} {o:Obj},s₁.heap.get? b=some o->H b=none->(g8 s₁.heap H).get? b=some o:=fun e n=>vE e n
  have noB:∀{b:Addr} {o:Obj},s₁.heap.get? b=some o->(∀us n,o.data≠.seq us n)->(∀us,o.data≠.fields us)->H b=none:=fun{b o} e d1 d2=>by
   cases q:H b with
   |none=>rfl
   |some u=>
    rcases hA b (by rw[q];simp) with e'|e'
    ·subst e';rw[ha] at e;cases e;exact absurd rfl (d1 _ _)
    ·subst e';rw[hP] at e;cases e;exact absurd rfl (d2 _)
  have nsK:∀{b:Addr} {m:Str->Option Value},s₁.heap.Ns b m->(g8 s₁.heap H).Ns b m:=fun{b m} ⟨o,es,ep,e,d,r⟩=>⟨o,es,ep,base_of e (noB e (fun _ _ z=>by rw[d] at z;cases z) fun _ z=>by rw[d] at z;cases z),d,r⟩
  have hKb:K.In (g8 s₁.heap H):=fun b o e=>base_of (KX b o e) (by
   cases q:H b with
   |none=>rfl
   |some u=>
    rcases hA b (by rw[q];simp) with e'|e'
    ·subst e';rw[hK (by rw[q];simp)] at e;cases e
    ·subst e';rw[hPK] at e;cases e)
  have hBm:Bm mg (g8 s₁.heap H):=by
   obtain⟨bm,ob,b1,b2,b3,b4,b5,b6⟩:=hbm;exact⟨bm,ob,b1,b2,base_of b3 (noB b3 (fun _ _ z=>by rw[b6] at z;cases z) fun _ z=>by rw[b6] at z;cases z),b4,b5,b6⟩
  have hM:Mod K mg (g8 s₁.heap H):=⟨hKb,nsK hns,⟨mb,nsK hb,hbb⟩,let ⟨mc,h1,h2⟩:=hlim;⟨mc,nsK h1,h2⟩⟩;have e0:kz P w K mg (g8 s₁.heap H) callerA [] s₁ H:=⟨rfl,hM,fun b o e=>xV e,Nat.le_of_eq (tN _ _),trivial,fun b hb=>absurd (show b∈([]:List Addr) from hb) (by simp),hok,.of_eq hg⟩;refine acA ((F _ hKb (nsK hns) (codeHd_of_K hKb hcd) hBm).run callerA [] s₁ H ⟨[.ref a],[]⟩ [.ref a] [.ref a] _ _ hr e0 (hbind s₁ (.ref a)) (.cons rfl .nil) (hsp H hTP hS)) fun r s' h=>?_
  cases r with
  |error e=>exact False.elim h
  |ok fl=>
   cases fl with
   |next=>exact False.elim h
   |brk=>exact False.elim h
   |cont=>exact False.elim h
   |ret u=>
    obtain⟨v,H',os,bare,un,hok',r',q⟩:=h;have q':v=.bl true:=q;subst q';obtain rfl:u=Value.bool true:=r';have all:∀b o,s₁.heap.get? b=some o->b≠TP->s'.heap.get? b=some o:=fun b o e nb=>by
     cases q:H b with
     |none=>exact un.keep b o e q (by intro z;exact absurd (show b∈([]:List Addr) from z) (by simp)) (by simp)
     |some u=>
      rcases hO b with z|⟨ob,xs,z⟩|z
      ·rw[q] at z;cases z
      ·have z2:=un.frzs b ob _ z;obtain⟨e1,_⟩:=hok b _ z;obtain⟨e2,_⟩:=hok' b _ z2;rw[e] at e1;cases e1;exact e2
      ·exact absurd z nb
    obtain⟨more,hT'⟩:=un.tbls TP _ hTP;have hT2:s'.heap.get? TP=some {cls:=.none,data:=.fields (#[]++more)}:=hok' TP _ hT';refine⟨rfl,⟨fun b o e=>?_,fun b o e=>?_⟩,os,bare⟩
    ·by_cases nb:b=TP
     ·subst nb;rw[hP] at e;cases e;exact .inr (.inl ⟨isT,rfl,#[],more,rfl,hT2⟩)
     ·exact .inl (all b o e nb)
    ·by_cases nb:b=TP
     ·subst nb;exact⟨_,hT2⟩
     ·exact⟨o,all b o e nb⟩
 have tOk:∀{H:Hp},aX P w H s₁.heap TP (.tbl #[]):=fun{H}=>hP
 cases hk:K.lookup a with
 |some o=>
  have e:=KX a o hk;rw[ha] at e;cases e
  refine core (fun b=>if b=TP then some (.tbl #[]) else none) (fun b=>?_) (.inr ⟨_,vs.toArray,_,hk,rfl,rfl,rfl,by rw[abr,lenV];exact hl,by simpa using rv⟩) (fun b u z=>?_) (fun b z=>?_) (fun z=>absurd (acS naP) z) (acR rfl)
  ·by_cases hb:b=TP
   ·exact .inr (.inr hb)
   ·exact .inl (acS hb)
  ·by_cases hb:b=TP
   ·have z':=(acR hb).symm.trans z;cases z'
    subst hb;exact tOk
   ·have z':=(acS hb).symm.trans z;cases z'
  ·by_cases hb:b=TP
   ·exact .inr hb
   ·exact absurd (acS hb) z
 |none=>
  refine core (fun b=>if b=TP then some (.tbl #[]) else if b=a then some (.frz {cls:=.type "list",data:=.seq vs.toArray} (.lst (ns.map V.int))) else none) (fun b=>?_) (.inl (.inr ⟨{cls:=.type "list",data:=.seq vs.toArray},by show(if a=TP then _ else if a=a then _ else _)=_;rw[acS naP,acR rfl]⟩)) (fun b u z=>?_) (fun b z=>?_) (fun _=>hk) (acR rfl)
  ·by_cases hb:b=TP
   ·exact .inr (.inr hb)
   ·by_cases hb':b=a
    ·exact .inr (.inl ⟨_,_,by show(if b=TP then _ else if b=a then _ else _)=_;rw[acS hb,acR hb']⟩)
    ·exact .inl (by show(if b=TP then _ else if b=a then _ else _)=_;rw[acS hb,acS hb'])
  ·have z:(if b=TP then some (HO.tbl #[]) else if b=a then some (.frz {cls:=.type "list",data:=.seq vs.toArray} (.lst (ns.map V.int))) else none)=some u:=z
   by_cases hb:b=TP
   ·rw[acR hb] at z;cases z
    subst hb;exact tOk
   ·rw[acS hb] at z
    by_cases hb':b=a
    ·rw[acR hb'] at z;cases z
     subst hb';exact⟨ha,by rw[ab3];exact hl,vs,_,rv,ha⟩
    ·rw[acS hb'] at z;cases z
  ·by_cases hb:b=TP
   ·exact .inr hb
   ·by_cases hb':b=a
    ·exact .inl hb'
    ·exact absurd (show(if b=TP then some (HO.tbl #[]) else if b=a then _ else none)=none by rw[acS hb,acS hb']) z
def xp{l:OpenLaw}{n k:Nat}{q:Program}{loose:List Str}{XP:(Str->Option Value)->Heap->Prop}{YP:World->Heap->Prop}{d:DefRec}{K:Params->Frag}{sp:World->Sp}{x:Str}{TP:Addr}
  (hn:l.most=some n)(hn2:n<=sizeLine)(hdf:d.params.defaults=[])(hr:a9 k callerA)
  (hY:∀(w:World) (h:Heap),YP w h->(K w.params).In h)(hYT:∀(w:World) (h:Heap),YP w h->h.get? TP=some (tabObj #[]))
  (F:∀(w:World) (mg:Str->Option Value) (fa:Addr) (h:Heap),(K w.params).In h->h.Ns mainGlobals mg->mg d.name=some (.ref fa)->
   ∃(fd:FuncData) (c0:Addr),(∀(s:Shared) (u:Value),BindsTo s fd ⟨[u],[]⟩ [(x,u)])/\(K w.params).lookup TP=none/\codeHdIn (K w.params) c0 TP=true/\
    ∀base:Heap,(K w.params).In base->base.Ns mainGlobals mg->CodeHd base c0 TP->Bm mg base->aM l.prog w (K w.params) mg base CX0 k fa fd [x] (sp w))
  (hsp:∀(w:World) (H:Hp) (a:Addr) (ns:List Int),ns.length<=n->H TP=some (.tbl #[])->SqL (K w.params) H a (ns.map V.int)->sp w [.ref a] H (fun v _=>v=.bl true) fun _ _ _=>False) :
  WalkO q loose XP YP l.row.toRowW d [] (fun f vs=>PySem.call f vs):=by
 refine Att.qr hn hdf fun w s₀ s₁ mg mb fa o pm cd doc a vs ns G Y ho hd hcd hmg hobj hints hlen hg=>?_
 have KX:=hY w _ Y;obtain⟨fd,c0,hb,hPK,hcd',hF⟩:=F w mg fa _ KX G.T.g hmg;have hbm:Bm mg s₁.heap:=by
  have:=G.T.bmain;exact this
 exact vD KX G.T.g G.T.b G.T.builtins G.T.nolimit hg hobj hints (acy hlen hn2) hr (hYT w _ Y) hPK hcd' hbm hF hb fun H hO hS=>hsp w H a ns hlen hO hS
end L2
namespace Nw
open PySem L2
structure Got(K:acX)(x:Str)(st:Stmt):Prop where
 ex:∃f fd,PySem.W.nsIn K mainGlobals x=some (some (.ref f))/\Fun K x x st f fd
def AH{K:acX}{x:Str}{st:Stmt}{f:Addr}{oc:Value}{od an:Option Addr}{osl:Array (Option Value)}{kV doc pm cdv ct:Value}(a:PySem.W.nsIn K mainGlobals x=some (some (.ref f)))
  (l:K.lookup f=some ⟨oc,od,.func (PySem.W.fnOf x x (fD st) (dO st) (am st) .none kV doc pm an cdv ct),osl⟩)(c:PySem.W.codeIn K cdv x=true)(k:PySem.W.keepIn K (.ref f)=true):Got K x st:=⟨_,_,a,oH l c k⟩
def Got.def{P:Program}{w:World}{K:acX}{mg:Str->Option Value}{base h:Heap}{x:Str}{st:Stmt}{k:Nat}{ps:List Str}{sp:Sp}(g:Got K x st)(X:K.In h)(G:h.Ns mainGlobals mg)
  (ok:∀{f fd},Fun K x x st f fd->aM P w K mg base CX0 k f fd ps sp)(b:∀{f fd},Fun K x x st f fd->Binds K fd ps []:=by first | exact(fun F=>F.binds fun _ _ _ _ _ _ us hl=>match us,hl with | [_],_=>rfl) | exact(fun F=>F.binds fun _ _ _ _ _ _ us hl=>match us,hl with | [_,_],_=>rfl) | exact(fun F=>F.binds fun _ _ _ _ _ _ us hl=>match us,hl with | [_,_,_],_=>rfl) | exact(fun F=>F.binds fun _ _ _ _ _ _ us hl=>match us,hl with | [_,_,_,_],_=>rfl)):Def P w K mg base x k ps sp:=by
 obtain⟨f,fd,a,F⟩:=g.ex;exact⟨f,fd,acv X G a,F.kp,ok F,b F⟩
structure tJ(K:acX)(x:Str)(st:Stmt)(c0 TP:Addr):Prop where
 ex:∃f fd,PySem.W.nsIn K mainGlobals x=some (some (.ref f))/\Fun K x x st f fd/\fd.code=.ref c0
 hd:PySem.W.codeHdIn K c0 TP=true
 no:K.lookup TP=none
def yU{K:acX}{x:Str}{st:Stmt}{f c0 TP:Addr}{oc:Value}{od an:Option Addr}{osl:Array (Option Value)}{kV doc pm ct:Value}(a:PySem.W.nsIn K mainGlobals x=some (some (.ref f)))
  (l:K.lookup f=some ⟨oc,od,.func (PySem.W.fnOf x x (fD st) (dO st) (am st) .none kV doc pm an (.ref c0) ct),osl⟩)(c:PySem.W.codeIn K (.ref c0) x=true)(k:PySem.W.keepIn K (.ref f)=true)
  (hd:PySem.W.codeHdIn K c0 TP=true)(no:K.lookup TP=none):tJ K x st c0 TP:=⟨⟨_,_,a,oH l c k,rfl⟩,hd,no⟩
def tJ.def{P:Program}{w:World}{K:acX}{mg:Str->Option Value}{base h:Heap}{x:Str}{st:Stmt}{c0 TP:Addr}{k:Nat}{ps:List Str}{sp:Sp}(g:tJ K x st c0 TP)(X:K.In h)(G:h.Ns mainGlobals mg)
  (ok:∀{f fd},Fun K x x st f fd->fd.code=.ref c0->aM P w K mg base CX0 k f fd ps sp)(b:∀{f fd},Fun K x x st f fd->Binds K fd ps []:=by first | exact(fun F=>F.binds fun _ _ _ _ _ _ us hl=>match us,hl with | [_],_=>rfl) | exact(fun F=>F.binds fun _ _ _ _ _ _ us hl=>match us,hl with | [_,_],_=>rfl) | exact(fun F=>F.binds fun _ _ _ _ _ _ us hl=>match us,hl with | [_,_,_],_=>rfl) | exact(fun F=>F.binds fun _ _ _ _ _ _ us hl=>match us,hl with | [_,_,_,_],_=>rfl)):Def P w K mg base x k ps sp:=by
 obtain⟨f,fd,a,F,e⟩:=g.ex;exact⟨f,fd,acv X G a,F.kp,ok F e,b F⟩
structure xq(K:acX):Prop where
 srt:PySem.W.nsIn K mainGlobals "sorted"=some none
 set:PySem.W.nsIn K mainGlobals "set"=some none
 all:PySem.W.nsIn K mainGlobals "all"=some none
 lst:PySem.W.nsIn K mainGlobals "list"=some none
 tup:PySem.W.nsIn K mainGlobals "tuple"=some none
 str:PySem.W.nsIn K mainGlobals "str"=some none
 bl:PySem.W.nsIn K mainGlobals "bool"=some none
 int:PySem.W.nsIn K mainGlobals "int"=some none
 len:PySem.W.nsIn K mainGlobals "len"=some none
 rng:PySem.W.nsIn K mainGlobals "range"=some none
 isi:PySem.W.nsIn K mainGlobals "isinstance"=some none
 abs:PySem.W.nsIn K mainGlobals "abs"=some none
 sum:PySem.W.nsIn K mainGlobals "sum"=some none
def xq.txt{K:acX}{h:Heap}{mg:Str->Option Value}(b:xq K)(X:K.In h)(G:h.Ns mainGlobals mg):Txt mg where
 srt:=abp X G b.srt
 set:=abp X G b.set
 all:=abp X G b.all
 lst:=abp X G b.lst
 tup:=abp X G b.tup
 str:=abp X G b.str
 bl:=abp X G b.bl
 int:=abp X G b.int
 len:=abp X G b.len
 rng:=abp X G b.rng
 isi:=abp X G b.isi
 abs:=abp X G b.abs
 sum:=abp X G b.sum
structure tK(K:acX)(t0 t1 t2:Nat):Prop where
 whole:PySem.W.nsIn K mainGlobals "WHOLE"=some (some (.str "whole" t0))
 empty:PySem.W.nsIn K mainGlobals "EMPTY"=some (some (.str "empty" t1))
 end_:PySem.W.nsIn K mainGlobals "END"=some (some (.str "" t2))
def tK.cons{K:acX}{h:Heap}{mg:Str->Option Value}{t0 t1 t2:Nat}(b:tK K t0 t1 t2)(X:K.In h)(G:h.Ns mainGlobals mg):Cons mg where
 whole:=⟨_,acv X G b.whole,⟨_,rfl⟩⟩
 empty:=⟨_,acv X G b.empty,⟨_,rfl⟩⟩
 end_:=⟨_,acv X G b.end_,⟨_,rfl⟩⟩
structure xt(K:acX)(C:Addr):Prop where
 cl:Cls K C
 mks:PySem.W.makesIn K C=true
 kc:PySem.W.keepIn K (.ref C)=true
 nR:cK K C "rows"
 nN:cK K C "numbers"
 nB:cK K C "begins"
 nK:cK K C "blanks"
def yV{K:acX}{C:Addr}(pg:PySem.W.plainGet K C Str.empty=true)(hd:PySem.W.hasDictIn K C=true)(po:PySem.W.plainOver K C=true)(sa:PySem.W.findIn K (.ref C) "__setattr__"=some (some (.builtin "object.__setattr__")))(mk:PySem.W.makesIn K C=true)(kc:PySem.W.keepIn K (.ref C)=true)
  (nR:PySem.W.findIn K (.ref C) "rows"=some none)(nN:PySem.W.findIn K (.ref C) "numbers"=some none)(nB:PySem.W.findIn K (.ref C) "begins"=some none)(nK:PySem.W.findIn K (.ref C) "blanks"=some none):xt K C:=⟨⟨pg,hd,po,sa⟩,mk,kc,nR,nN,nB,nK⟩
structure gK(K:acX)(C:Addr)(m q:Str)(st:Stmt):Prop where
 ex:∃f fd,PySem.W.findIn K (.ref C) m=some (some (.ref f))/\PySem.W.isFn K (.ref f)=true/\Fun K m q st f fd
def gt{K:acX}{C:Addr}{m q:Str}{st:Stmt}{f:Addr}{oc:Value}{od an:Option Addr}{osl:Array (Option Value)}{kV doc pm cdv ct:Value}(a:PySem.W.findIn K (.ref C) m=some (some (.ref f)))(i:PySem.W.isFn K (.ref f)=true)
  (l:K.lookup f=some ⟨oc,od,.func (PySem.W.fnOf m q (fD st) (dO st) (am st) .none kV doc pm an cdv ct),osl⟩)(c:PySem.W.codeIn K cdv q=true)(k:PySem.W.keepIn K (.ref f)=true):gK K C m q st:=⟨_,_,a,i,oH l c k⟩
def gK.qj{P:Program}{w:World}{K:acX}{mg:Str->Option Value}{base:Heap}{C:Addr}{m q:Str}{st:Stmt}{k:Nat}{ps:List Str}{sp:Sp}(g:gK K C m q st)(ok:∀{f fd},Fun K m q st f fd->aM P w K mg base CX0 k f fd ps sp)(b:∀{f fd},Fun K m q st f fd->Binds K fd ps []:=by first | exact(fun F=>F.binds fun _ _ _ _ _ _ us hl=>match us,hl with | [_],_=>rfl) | exact(fun F=>F.binds fun _ _ _ _ _ _ us hl=>match us,hl with | [_,_],_=>rfl) | exact(fun F=>F.binds fun _ _ _ _ _ _ us hl=>match us,hl with | [_,_,_],_=>rfl) | exact(fun F=>F.binds fun _ _ _ _ _ _ us hl=>match us,hl with | [_,_,_,_],_=>rfl)):jD P w K mg base C m k ps sp:=by
 obtain⟨f,fd,a,i,F⟩:=g.ex;exact⟨f,fd,⟨a,i,F.kp⟩,ok F,b F⟩
def gK.make{P:Program}{w:World}{K:acX}{mg:Str->Option Value}{base h:Heap}{C:Addr}{q:Str}{st:Stmt}{k:Nat}{ps:List Str}{sp:Sp}(g:gK K C "__init__" q st)(X:K.In h)(G:h.Ns mainGlobals mg)(aC:PySem.W.nsIn K mainGlobals "Guide"=some (some (.ref C)))(ck:xt K C)(b:∀{f fd},Fun K "__init__" q st f fd->Binds K fd ps [])(ok:∀{f fd},Fun K "__init__" q st f fd->aM P w K mg base CX0 k f fd ps sp):oe P w K mg base C k ps sp:=by
 obtain⟨f,fd,a,i,F⟩:=g.ex;exact⟨⟨f,fd,⟨ck.mks,a,i,ck.kc⟩,ok F,b F⟩,acv X G aC⟩
def all_mk{l:PySem.W.OpenLaw}{w:World}{K:acX}{h:Heap}{mg:Str->Option Value}{fa c0 TP:Addr}(X:K.In h)(G:h.Ns mainGlobals mg)(hfa:mg "law"=some (.ref fa))(B:xq K)(B5:PySem.W.nsIn K mainGlobals "enumerate"=some none)(B6:PySem.W.nsIn K mainGlobals "reversed"=some none){t0 t1 t2:Nat}(B3:tK K t0 t1 t2)
  {C:Addr}(aC:PySem.W.nsIn K mainGlobals "Guide"=some (some (.ref C)))(ck:xt K C)
  (g___init__:gK K C "__init__" "Guide.__init__" sGi)
  (g_begins_with:gK K C "begins_with" "Guide.begins_with" sBw)
  (g_goes_on:gK K C "goes_on" "Guide.goes_on" sGo)
  (g_take:gK K C "take" "Guide.take" sTk)
  (g_can_end:gK K C "can_end" "Guide.can_end" sCe)
  (g_finish:gK K C "finish" "Guide.finish" sFi)
  (g_sorts_of:Got K "sorts_of" kE)
  (g_words_of:Got K "words_of" kG)
  (g_first_sort:Got K "first_sort" oZ)
  (g_sorts_made_of:Got K "sorts_made_of" su)
  (g_sorts_reached:Got K "sorts_reached" pc)
  (g_sorts_in_trees_of_lines:Got K "sorts_in_trees_of_lines" ph)
  (g_check_rows:Got K "check_rows" pj)
  (g_empty_sorts:Got K "empty_sorts" pk)
  (g_lists_by_sort:Got K "lists_by_sort" pf)
  (g_leading_signs:Got K "leading_signs" sv)
  (g_gathered:Got K "gathered" sx)
  (g_words_to_begin:Got K "words_to_begin" wf)
  (g_can_be_empty:Got K "can_be_empty" wv)
  (g_words_to_begin_signs:Got K "words_to_begin_signs" ww)
  (g_words_behind:Got K "words_behind" wy)
  (g_words_to_use_rows:Got K "words_to_use_rows" wM)
  (g_empty_keys:Got K "empty_keys" sEk)
  (g_cost_of_keys:Got K "cost_of_keys" wH)
  (g_cheapest_recipes:Got K "cheapest_recipes" wI)
  (g_trees_made:tJ K "trees_made" sTm c0 TP)
  (g_uses_in_order:Got K "uses_in_order" wR)
  (g_first_clash:Got K "first_clash" sFc)
  (g_empty_recipes:Got K "empty_recipes" sEr)
  (g_empty_trees:Got K "empty_trees" sEt)
  (g_numbers_to_use:Got K "numbers_to_use" xa)
  (g_signs_due:Got K "signs_due" xb)
  (g__law_any_word:Got K "_law_any_word" wn)
  (g__law_drawn_rows:Got K "_law_drawn_rows" js)
  (g__law_renamed:Got K "_law_renamed" wp)
  (g__law_so:Got K "_law_so" sSo)
  (g__law_line_of:Got K "_law_line_of" og)
  (g__law_grown:Got K "_law_grown" lV)
  (g_read:Got K "read" sRd)
  (g_law:Got K "law" xm):∃(fd:FuncData) (c0:Addr),(∀(s:Shared) (v:Value),BindsTo s fd ⟨[v],[]⟩ [("_law_script",v)])/\K.lookup TP=none/\PySem.W.codeHdIn K c0 TP=true/\∀base:Heap,K.In base->base.Ns mainGlobals mg->PySem.W.CodeHd base c0 TP->Bm mg base->aM l.prog w K mg base CX0 13 fa fd ["_law_script"] (oh K TP):=by
 obtain⟨f,fd,a4,F⟩:=g_law.ex;have e:=hfa.symm.trans (acv X G a4);cases e
 have T:=B.txt X G;have CC:=B3.cons X G;have hEn:=abp X G B5;have hRv:=abp X G B6;obtain⟨uE,hE,rE⟩:=CC.end_;refine⟨fd,c0,?_,g_trees_made.no,g_trees_made.hd,fun base _ _ hCd hBm=>?_⟩
 ·obtain⟨oc,od,kV,doc,pm,an,cdv,ct,osl,rfl,lk,hcd⟩:=F.ex;exact fun s v=>.of_eq rfl
 have d_sorts_of:=g_sorts_of.def (P:=l.prog) (w:=w) (base:=base) X G fun F=>si F T
 have d_words_of:=g_words_of.def (P:=l.prog) (w:=w) (base:=base) X G fun F=>sj F T d_sorts_of
 have d_first_sort:=g_first_sort.def (P:=l.prog) (w:=w) (base:=base) X G fun F=>v8 F
 have d_sorts_made_of:=g_sorts_made_of.def (P:=l.prog) (w:=w) (base:=base) X G fun F=>yt F T
 have d_sorts_reached:=g_sorts_reached.def (P:=l.prog) (w:=w) (base:=base) X G fun F=>v9 F T
 have d_sorts_in_trees_of_lines:=g_sorts_in_trees_of_lines.def (P:=l.prog) (w:=w) (base:=base) X G fun F=>wb F T d_sorts_of d_sorts_reached d_first_sort
 have d_check_rows:=g_check_rows.def (P:=l.prog) (w:=w) (base:=base) X G fun F=>wc F d_sorts_of d_words_of d_sorts_made_of d_sorts_in_trees_of_lines
 have d_empty_sorts:=g_empty_sorts.def (P:=l.prog) (w:=w) (base:=base) X G fun F=>we F d_check_rows d_sorts_made_of
 have d_lists_by_sort:=g_lists_by_sort.def (P:=l.prog) (w:=w) (base:=base) X G fun F=>wa F T d_sorts_of
 have d_leading_signs:=g_leading_signs.def (P:=l.prog) (w:=w) (base:=base) X G fun F=>yx F
 have d_gathered:=g_gathered.def (P:=l.prog) (w:=w) (base:=base) X G fun F=>yy F T d_sorts_reached
 have d_words_to_begin:=g_words_to_begin.def (P:=l.prog) (w:=w) (base:=base) X G fun F=>zF F d_empty_sorts d_lists_by_sort d_leading_signs d_gathered
 have d_can_be_empty:=g_can_be_empty.def (P:=l.prog) (w:=w) (base:=base) X G fun F=>yP F T
 have d_words_to_begin_signs:=g_words_to_begin_signs.def (P:=l.prog) (w:=w) (base:=base) X G fun F=>zU F T d_leading_signs
 have d_words_behind:=g_words_behind.def (P:=l.prog) (w:=w) (base:=base) X G fun F=>zV F T hEn hE rE d_empty_sorts d_words_to_begin d_lists_by_sort d_first_sort d_words_to_begin_signs (d_can_be_empty.imp xR) d_gathered
 have d_words_to_use_rows:=g_words_to_use_rows.def (P:=l.prog) (w:=w) (base:=base) X G fun F=>Ak F T d_empty_sorts d_words_to_begin d_words_behind d_words_to_begin_signs (d_can_be_empty.imp xR)
 have d_empty_keys:=g_empty_keys.def (P:=l.prog) (w:=w) (base:=base) X G fun F=>A2 F CC
 have d_cost_of_keys:=g_cost_of_keys.def (P:=l.prog) (w:=w) (base:=base) X G fun F=>Af F T
 have d_cheapest_recipes:=g_cheapest_recipes.def (P:=l.prog) (w:=w) (base:=base) X G fun F=>Ag F d_cost_of_keys
 have d_trees_made:=g_trees_made.def (P:=l.prog) (w:=w) (base:=base) X G fun F e=>A7 F e hCd hBm T
 have d_uses_in_order:=g_uses_in_order.def (P:=l.prog) (w:=w) (base:=base) X G fun F=>Al F T hEn d_words_to_use_rows
 have d_first_clash:=g_first_clash.def (P:=l.prog) (w:=w) (base:=base) X G fun F=>A8 F T
 have d_empty_recipes:=g_empty_recipes.def (P:=l.prog) (w:=w) (base:=base) X G fun F=>Ba F CC hEn d_empty_keys
 have d_empty_trees:=g_empty_trees.def (P:=l.prog) (w:=w) (base:=base) X G fun F=>Bb F d_empty_recipes d_cheapest_recipes d_trees_made
 have d_numbers_to_use:=g_numbers_to_use.def (P:=l.prog) (w:=w) (base:=base) X G fun F=>At F d_uses_in_order d_first_clash
 have d_signs_due:=g_signs_due.def (P:=l.prog) (w:=w) (base:=base) X G fun F=>Au F hRv
 have d__law_any_word:=g__law_any_word.def (P:=l.prog) (w:=w) (base:=base) X G fun F=>zN F T
 have d__law_drawn_rows:=g__law_drawn_rows.def (P:=l.prog) (w:=w) (base:=base) X G fun F=>vg F T d__law_any_word
 have d__law_renamed:=g__law_renamed.def (P:=l.prog) (w:=w) (base:=base) X G fun F=>zT F
 have d__law_so:=g__law_so.def (P:=l.prog) (w:=w) (base:=base) X G fun F=>AW F T
 have d__law_line_of:=g__law_line_of.def (P:=l.prog) (w:=w) (base:=base) X G fun F=>yS F T hRv
 have d__law_grown:=g__law_grown.def (P:=l.prog) (w:=w) (base:=base) X G fun F=>xl F T hRv
 have GT:jE K C:=⟨ck.cl,ck.nR,ck.nN,ck.nB,ck.nK⟩;have m___init__:oe l.prog w K mg base C 10 ["self","rows"] (xc C TP):=g___init__.make X G aC ck (fun F=>F.binds fun _ _ _ _ _ _ us hl=>match us,hl with | [_,_],_=>rfl) (fun F=>Bd F GT d_numbers_to_use d_words_to_begin d_empty_trees);have m_begins_with:=g_begins_with.qj (P:=l.prog) (w:=w) (mg:=mg) (base:=base) fun F=>Be F GT
 have m_goes_on:=g_goes_on.qj (P:=l.prog) (w:=w) (mg:=mg) (base:=base) fun F=>Bf F GT hRv m_begins_with
 have m_take:=g_take.qj (P:=l.prog) (w:=w) (mg:=mg) (base:=base) fun F=>Bi F GT hRv m_begins_with
 have m_can_end:=g_can_end.qj (P:=l.prog) (w:=w) (mg:=mg) (base:=base) fun F=>Bg F GT d_can_be_empty d_signs_due
 have m_finish:=g_finish.qj (P:=l.prog) (w:=w) (mg:=mg) (base:=base) fun F=>Bj F GT hRv
 have d_read:=g_read.def (P:=l.prog) (w:=w) (base:=base) X G fun F=>Bk F GT hEn m___init__ d_first_sort m_goes_on m_take m_can_end m_finish
 exact AG F T d__law_drawn_rows d__law_renamed d__law_grown d__law_line_of d_read d__law_so
def walk{l:PySem.W.OpenLaw}{q:Program}{loose:List Str}{XP:(Str->Option Value)->Heap->Prop}{YP:World->Heap->Prop}{d:DefRec}{K:Params->acX}{TP:Addr}(hn:l.most=some 63)(hdf:d.params.defaults=[])
  (hY:∀(w:World) (h:Heap),YP w h->(K w.params).In h)(hYT:∀(w:World) (h:Heap),YP w h->h.get? TP=some (PySem.W.tabObj #[]))
  (F:∀(w:World) (mg:Str->Option Value) (fa:Addr) (h:Heap),(K w.params).In h->h.Ns mainGlobals mg->mg d.name=some (.ref fa)->
   ∃(fd:FuncData) (c0:Addr),(∀(s:Shared) (u:Value),BindsTo s fd ⟨[u],[]⟩ [("_law_script",u)])/\(K w.params).lookup TP=none/\PySem.W.codeHdIn (K w.params) c0 TP=true/\∀base:Heap,(K w.params).In base->base.Ns mainGlobals mg->PySem.W.CodeHd base c0 TP->Bm mg base->aM l.prog w (K w.params) mg base CX0 13 fa fd ["_law_script"] (oh (K w.params) TP)) :
  PySem.W.WalkO q loose XP YP l.row.toRowW d [] (fun f vs=>PySem.call f vs):=
 L2.xp (n:=63) (k:=13) (x:="_law_script") (sp:=fun w=>oh (K w.params) TP) hn (by decide) hdf ⟨rfl,by decide,by decide⟩ hY hYT F (fun _ _ a ns hl hT hS=>⟨a,ns,rfl,hS,hl,⟨#[],hT,True.intro,.inl rfl⟩,fun _=>rfl⟩)
end Nw
open PySem PySem.W PyProof.Rows
namespace PySem.W.Fast
def tw959743730803835203:=0
def tw2941730219441988628:=0
def tw11855790305286001854:=0
def tw6153104852017856655:=0
def tw14522958392425312506:=0
def tw3378388403601483391:=0
def tw4668707342550982402:=0
def tw16516088127167830566:=0
def tw17958291457192822915:=0
def tw9621746504116277499:=0
def tw3221852680068897725:=0
def tw16658364323090725385:=0
def tw7445097094755534555:=0
def tw9872025807911801768:=0
def tw11041133195656627083:=0
def tw15743606739401042970:=0
def tw16153124705721466234:=0
def tw2706547388565632104:=0
def tw9456699612031718825:=0
def tw1174356227401285948:=0
def tw8812628350367126206:=0
def tw7429918423785894642:=0
def tw7384354213575448763:=0
def tw3643511511287251016:=0
def tw13117980509065492422:=0
def tw6361619203305461543:=0
def tw46306504135163240:=0
def tw860875126314223660:=0
def tw5532940135498261459:=0
def tw15460715800792468754:=0
def tw6037952169490597658:=0
def tw17441141488970748989:=0
def tw2792455468302032005:=0
def tw10357237120550840248:=0
def tw17660666060362797489:=0
def tw4444034697181187471:=0
def tw6376712125523296252:=0
def tw12940020053244354287:=0
def tw3164119474014998940:=0
def tw14187267891214039084:=0
def tw13300741166293756096:=0
def tw6489795780731399708:=0
def tw11324014441229026547:=0
def tw6079115195789228332:=0
def tw13513100929410064007:=0
def tw4092938186332346055:=0
def tw10825736076481829118:=0
def tw10827253203179209389:=0
def tw5416816521851498254:=0
def tw8436002007087061977:=0
def tw15648359480908839574:=0
def tw14678956969283285182:=0
def tw17923564006428795617:=0
def tw1264933809773959166:=0
def tw5460386141242529358:=0
def tw8382100453507846682:=0
def tw1085401381865263612:=0
def tw4629442879452792278:=0
def tw11778393589277614827:=0
def tw8813565283655561989:=0
def tw13823106902645714052:=0
def tw17005018495886211845:=0
def tw8717875334344908978:=0
def tw2775977005819091473:=0
def tw746112339778229424:=0
def tw5683645662403861884:=0
def tw16156304580269875716:=0
def tw9049907973784518318:=0
def tw11969402259549390880:=0
def tw10543837630415298408:=0
def tw7493823300061945239:=0
def tw1718774730673781275:=0
def tw14639117543048585527:=0
def tw2571809969195521068:=0
def tw3872957460041277061:=0
def tw12921129297932450341:=0
def tw7811659583925161395:=0
def tw6390064091447721352:=0
def tw857322579767937528:=0
def tw3372892716597428439:=0
def tw7422338828793536928:=0
def tw2366734447489104154:=0
def tw14183791267829323531:=0
def tw1268756994308115883:=0
def tw10259791874554793695:=0
def tw17768547054295365006:=0
def tw8049446696837900740:=0
def tw16814420892594740512:=0
def tw15593388322606972327:=0
def tw6876092135339405733:=0
def tw7451118002086132511:=0
def tw2562150644532623399:=0
def tw2580998587779616245:=0
def tw11103018362729029159:=0
def tw6906232399291969403:=0
def tw793080420421238116:=0
def tw4544768520494952687:=0
def tw1529497091271722976:=0
def tw2034741173292712919:=0
def tw11356803218855176142:=0
def tw3466465835009740902:=0
def tw12914564590424361285:=0
def tw1691200246594677189:=0
def tw4376145542417590655:=0
def tw7194614942396230012:=0
def tw1013334693221369229:=0
def tw15932259482368297363:=0
def tw3085543641672466613:=0
def tw6378930905416198806:=0
def tw16733217369558298206:=0
def tw15462994824131533230:=0
def tw9686357842217597107:=0
def tw206889615996159593:=0
def tw15602026782731438638:=0
def tw6631452375453650292:=0
def tw15566911842515860171:=0
def tw13429743257114699379:=0
def tw954613901786392921:=0
def tw10300958763642048778:=0
def tw12429093517748297061:=0
def tw13402057017793695628:=0
def tw5764771546818162176:=0
def tw7396106086443781618:=0
def tw2310511391765202534:=0
def tw12232490148803863391:=0
def tw3009143463654724259:=0
def tw7017779800910171863:=0
def tw3020785104530395507:=0
def tw5168484528380818195:=0
def tw16462557795425216855:=0
def tw2677712852357096669:=0
def tw1212362403498006059:=0
def tw7389199510711596607:=0
def tw100504188840738762:=0
def tw17970335198178050599:=0
def tw6377547894475339375:=0
def tw13446325490248309469:=0
def tw17309129444001107900:=0
def tw922107467020440690:=0
def tw8017354147815577036:=0
def tw2147257858968855024:=0
def tw205574305213896991:=0
def tw10803751428690762519:=0
def tw9747719752200017026:=0
def tw5993036015919009440:=0
def tw1910329847251506644:=0
def tw2826907273665413216:=0
def tw4362990737372270615:=0
def tw8502148371609432147:=0
def tw16627655333821622991:=0
def tw16812763349114663418:=0
def tw18236376782539725674:=0
def tw7185743968192782164:=0
def tw7318471932566563045:=0
def tw12888234202073867798:=0
def tw9626690736784014268:=0
def tw9590707787003575194:=0
def tw13871343721885136091:=0
def tw17277953772023640265:=0
def tw8234891002108939796:=0
def tw14627828147370044314:=0
def tw9753365188568069876:=0
def tw16336497419592141677:=0
def tw13400382089417155931:=0
def tw11613717176404790702:=0
def tw8169952366318753155:=0
def tw17620078329157294432:=0
def tw13755488305642120474:=0
def tw3395728378266950175:=0
def tw11839954853888812675:=0
def tw14795121573566510645:=0
def tw11637622068568311638:=0
def tw5591794679915989082:=0
def tw4833188210784057211:=0
def tw5355571413340880759:=0
def tw12635121070952574950:=0
def tw15790705724507882681:=0
def tw4854308127250313721:=0
def tw14919678702096765388:=0
def tw15083750950605578642:=0
def tw16646126484483394428:=0
def tw5120450601374575983:=0
def tw10497618609597291167:=0
def tw17923151082347723319:=0
def tw1062420647406120080:=0
def tw13325493162475759034:=0
def tw902780924020593195:=0
def tw3135425073546471310:=0
def tw3960687683936631712:=0
def tw9650758014127627808:=0
def tw18201859882270072993:=0
def tw15594711168624232837:=0
def tw12822896007009085622:=0
def tw5762103553314495768:=0
def tw15023452896232269225:=0
def tw8584823508007928539:=0
def tw15371084922489175527:=0
def tw8866321692717980689:=0
def tw3325516437541524811:=0
def tw18390954513797346736:=0
def tw15506562074309204786:=0
def tw9795136801705924046:=0
def tw11293860741247234:=0
def tw15593290581473457745:=0
def tw7314616806140414281:=0
def tw721326391593865940:=0
def tw7832687749499483724:=0
def tw5514713820584271449:=0
def tw17783113377184932252:=0
def tw3134380718826392968:=0
def tw9940224878987235418:=0
def tw18281033748228776401:=0
def tw18209323759468391779:=0
def tw642261016551807640:=0
def tw12108517287162074829:=0
def tw5609790919553899909:=0
def tw8560072361028384897:=0
def tw17961615159916504597:=0
def tw5842095493964333080:=0
def tw10053688463894151630:=0
def tw2463349364858804062:=0
def tw9865071412506251790:=0
def tw7509199395342094739:=0
def tw11255792161226438467:=0
def tw18395914935176896138:=0
def tw12202600197299963151:=0
def tw3016928584837330768:=0
def tw17103346100455304072:=0
def tw14268170619442427974:=0
def tw11584657145024755566:=0
def tw13005207723238221343:=0
def tw10079403525210535243:=0
def tw10672335176249309582:=0
def tw2413780161135060419:=0
def tw5921048705146808329:=0
def tw8011815977431234703:=0
def tw9981699232596857928:=0
def tw526951321305562134:=0
def tw2056452150474865429:=0
def tw17925026121504039649:=0
def tw6694234698688884581:=0
def tw6966318675447791655:=0
def tw3344348893536331920:=0
def tw14769499603937195663:=0
def tw7337631323041159121:=0
def tw342346337800457678:=0
def tw13904863322989263969:=0
def tw877766438261570566:=0
def tw4368092429548100685:=0
def tw18341736877633165634:=0
def tw2816394678846843639:=0
def tw10897858596902364682:=0
def tw12208594278972024722:=0
def tw12732719024083803342:=0
def tw9953577147821581255:=0
def tw14268752850334395914:=0
def tw2624498022675224436:=0
def tw9729693309370049926:=0
def tw10713850981634083065:=0
def tw13796056826896709370:=0
def tw16799313090513934454:=0
def tw2385667120922660224:=0
def tw11022091234181926683:=0
def tw10132279797298966944:=0
def tw13216289072445771393:=0
def tw18081177694557794009:=0
def tw18225570850334049645:=0
def tw16324730533828364813:=0
def tw4881621681258280092:=0
def tw12474940824786459799:=0
def tw12813095149540965101:=0
def tw10577870316904066522:=0
def tw15512881389454589144:=0
def tw797451535886201389:=0
def tw9487494767758587753:=0
def tw15957587322692777040:=0
def tw8675312888927105470:=0
def tw5344004445882539974:=0
def tw10475076304392667617:=0
def tw4589563195670169095:=0
def tw11841529414688912292:=0
def tw9929044404675467967:=0
def tw5101168198104277878:=0
def tw17282327535924616207:=0
def tw13683507416708374812:=0
def tw10766592551690579226:=0
def tw15170051573524522150:=0
def tw10576068063293366364:=0
def tw13644016975239016102:=0
def tw1390504410043976168:=0
end PySem.W.Fast
set_option maxRecDepth 100000 in
set_option maxHeartbeats 0 in
theorem PySem.Challenge.cw_nextword_k06_whole_trees_read_back_holds : PySem.Challenge.rw_nextword_k06_whole_trees_read_back.Holds := by
 w_on;o_law;k_head;(case hw=>w_witness2)
 k_fill
 refine Nw.walk (l:=PySem.Challenge.rw_nextword_k06_whole_trees_read_back) (TP:=_) rfl rfl (fun w h Y=>PySem.W.km_in_of Y) (fun w h Y=>PySem.W.km_tabs_of Y _ (List.Mem.head _)) ?F
 case F=>
  intro w mg fa h KX G hmg;refine' Nw.all_mk KX G hmg ?hbare ?hx0 ?hx1 ?hbare3 ?aC ?hcls ?hm0 ?hm1 ?hm2 ?hm3 ?hm4 ?hm5 ?_ ?_ ?_ ?_ ?_ ?_ ?_ ?_ ?_ ?_ ?_ ?_ ?_ ?_ ?_ ?_ ?_ ?_ ?_ ?hgotC ?_ ?_ ?_ ?_ ?_ ?_ ?_ ?_ ?_ ?_ ?_ ?_ ?_ ?_
  (case hbare=>exact⟨by k_is,by k_is,by k_is,by k_is,by k_is,by k_is,by k_is,by k_is,by k_is,by k_is,by k_is,by k_is,by k_is⟩)
  (case hx0=>k_is)
  (case hx1=>k_is)
  (case hbare3=>refine' ⟨?y0,?y1,?y2⟩;(case y0=>k_is);(case y1=>k_is);(case y2=>k_is))
  (case aC=>k_is)
  (case hcls=>refine' Nw.yV ?z0 ?z1 ?z2 ?z3 ?z4 ?z5 ?z6 ?z7 ?z8 ?z9;(case z0=>k_is);(case z1=>k_is);(case z2=>k_is);(case z3=>k_is);(case z4=>k_is);(case z5=>k_is);(case z6=>k_is);(case z7=>k_is);(case z8=>k_is);(case z9=>k_is))
  (case hm0=>refine' Nw.gt ?a ?i ?l ?c ?k;(case a=>k_is);(case i=>k_is);(case l=>k_is);(case c=>k_is);(case k=>k_is))
  (case hm1=>refine' Nw.gt ?a ?i ?l ?c ?k;(case a=>k_is);(case i=>k_is);(case l=>k_is);(case c=>k_is);(case k=>k_is))
  (case hm2=>refine' Nw.gt ?a ?i ?l ?c ?k;(case a=>k_is);(case i=>k_is);(case l=>k_is);(case c=>k_is);(case k=>k_is))
  (case hm3=>refine' Nw.gt ?a ?i ?l ?c ?k;(case a=>k_is);(case i=>k_is);(case l=>k_is);(case c=>k_is);(case k=>k_is))
  (case hm4=>refine' Nw.gt ?a ?i ?l ?c ?k;(case a=>k_is);(case i=>k_is);(case l=>k_is);(case c=>k_is);(case k=>k_is))
  (case hm5=>refine' Nw.gt ?a ?i ?l ?c ?k;(case a=>k_is);(case i=>k_is);(case l=>k_is);(case c=>k_is);(case k=>k_is))
  (case hgotC=>refine' Nw.yU ?a ?l ?c ?k ?hd ?no;(case a=>k_is);(case l=>k_is);(case c=>k_is);(case k=>k_is);(case hd=>rfl);(case no=>rfl))
  all_goals (refine' Nw.AH ?a ?l ?c ?k;(case a=>k_is);(case l=>k_is);(case c=>k_is);(case k=>k_is))
