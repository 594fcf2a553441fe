import PyProof.Rows.All
import Wide.All
import OpenK.AllK
import Wide.FinOn
import PyProof.EqAt
import PyProof.EqKinds
import PyProof.TupleCall
import PyProof.SetKind
import PyProof.DictKinds
import PyProof.Rows.SetFrom
import PyProof.FactsAll.set
import PyProof.WalksS
import PyProof.CollectWalk
import PyProof.Seq
import PyProof.WalkLemmas
import PyProof.Rows.SortStr
import PyProof.Rows.SortWalk
import PyProof.Tail
import PyProof.NeKinds
import PyProof.EnumFor
import PyProof.EnumMake
import KE.KSortTup
import KE.KDictSum
import KE.KRevIter
import KE.KNestM
import Lean
import PySem.Challenge.RW_nextword_k05_whole_clash_shown
set_option Elab.async false
set_option linter.all false
set_option maxRecDepth 100000
set_option maxHeartbeats 4000000
def aaa:=@List.length_map
def aab:=@List.getElem?_eq_some_iff
def aac:=@List.mem_cons_self
def aad:=@List.mem_cons_of_mem
def aae:=@List.getElem?_eq_getElem
def aaf:=@PySem.Heap.get?_push_of_some
def aag:=@List.length_append
def aah:=@List.mem_of_getElem?
def aai:=@decide_eq_false
def aaj:=@List.mem_singleton
def aak:=@List.mem_append
def aal:=@List.length_take
def aam:=@List.map_append
def aan:=@decide_eq_true
def aao:=@List.mem_map
def aap:=@List.take_succ
def aaq:=@List.size_toArray
def aar:=@List.mem_append_right
def aas:=@List.take_length
def aat:=@List.getD_eq_getElem?_getD
def aau:=@List.length_cons
def aav:=@List.length_singleton
def aaw:=@List.map_cons
def aax:=@List.getElem?_map
def aay:=@PySem.Heap.get?_push_size
namespace L2
open PySem PySem.Spec PyProof.Rows
abbrev Key:=Sum Int Str
def ju:Key->Value->Bool
 |.inl k,v=>Value.isInt k v
 |.inr x,v=>Value.isStrOf x v
def Ah(w:World):Key->Int
 |.inl k=>hashInt k
 |.inr x=>hashStr w x
theorem cj:∀{k:Key} {v:Value},ju k v=true->(∃i t,k=Sum.inl i/\v=Value.int i t)\/(∃x t,k=Sum.inr x/\v=Value.str x t)
 |.inl i,v,h=>by
  obtain⟨t,e⟩:=Value.isInt_shape (k:=i) (v:=v) h;exact .inl ⟨i,t,rfl,e⟩
 |.inr x,v,h=>by
  obtain⟨t,e⟩:=Value.isStrOf_shape (x:=x) (v:=v) h;exact .inr ⟨x,t,rfl,e⟩
theorem sd(i:Int)(t:Tok):ju (.inl i) (.int i t)=true:=by simp[ju,Value.isInt]
theorem se(x:Str)(t:Tok):ju (.inr x) (.str x t)=true:=by simp[ju,Value.isStrOf]
theorem yd(a b:Int):decide ((Sum.inl a:Key)=Sum.inl b)=(a == b):=by
 by_cases e:a=b
 ·subst e;simp
 ·have h:¬(Sum.inl a:Key)=Sum.inl b:=fun q=>e (Sum.inl.inj q)
  rw[aai h];exact(beq_eq_false_iff_ne.mpr e).symm
theorem ye(a b:Str):decide ((Sum.inr a:Key)=Sum.inr b)=decide (a=b):=by
 by_cases e:a=b
 ·subst e;simp
 ·have h:¬(Sum.inr a:Key)=Sum.inr b:=fun q=>e (Sum.inr.inj q)
  rw[aai h,aai e]
theorem yf(a:Int)(b:Str):decide ((Sum.inl a:Key)=Sum.inr b)=false:=aai (fun q=>nomatch q)
theorem yg(a:Str)(b:Int):decide ((Sum.inr a:Key)=Sum.inl b)=false:=aai (fun q=>nomatch q)
def bI(prog:Program)(w:World):PySem.KeyKind prog w Key where
 is:=ju
 hash:=Ah w
 inj:=fun v a b ha hb=>by
  rcases cj ha with ⟨i,t,rfl,rfl⟩|⟨x,t,rfl,rfl⟩
  ·rcases cj hb with ⟨j,u,rfl,e⟩|⟨y,u,rfl,e⟩
   ·injection e with e1 _;rw[e1]
   ·exact nomatch e
  ·rcases cj hb with ⟨j,u,rfl,e⟩|⟨y,u,rfl,e⟩
   ·exact nomatch e
   ·injection e with e1 _;rw[e1]
 byValue:=fun k v h=>by
  rcases cj h with ⟨i,t,rfl,rfl⟩|⟨x,t,rfl,rfl⟩ <;> rfl
 pyHash:=fun hv h=>by
  rcases cj hv with ⟨i,t,rfl,rfl⟩|⟨x,t,rfl,rfl⟩
  ·exact wpAny_pyHash_int h
  ·exact wpAny_pyHash_str h
 eqBool:=fun hu hv h=>by
  rcases cj hu with ⟨i,t,rfl,rfl⟩|⟨x,t,rfl,rfl⟩
  ·rcases cj hv with ⟨j,u,rfl,rfl⟩|⟨y,u,rfl,rfl⟩
   ·rw[yd] at h;exact wpAny_eqBool_int h
   ·rw[yf] at h;exact SeqAt.EqAt.int_str i t y u _ _ _ _ h
  ·rcases cj hv with ⟨j,u,rfl,rfl⟩|⟨y,u,rfl,rfl⟩
   ·rw[yg] at h;exact SeqAt.EqAt.str_int x t j u _ _ _ _ h
   ·rw[ye] at h;exact wpAny_eqBool_str h
 «strs»:=fun k x t v h=>by
  rcases cj h with ⟨i,u,rfl,e⟩|⟨y,u,rfl,e⟩
  ·exact nomatch e
  ·injection e with e1 _;subst e1;cases v <;> rfl
theorem pL(prog:Program)(w:World)(i:Int)(t:Tok):(bI prog w).is (.inl i) (.int i t)=true:=sd i t
theorem pM(prog:Program)(w:World)(x:Str)(t:Tok):(bI prog w).is (.inr x) (.str x t)=true:=se x t
end L2
namespace L2
open PySem PySem.Spec PyProof.Rows
inductive V where
 |non | bl(b:Bool) | int(i:Int) | str(x:Str) | byt(b:Array UInt8) | flt(b:UInt64) | ref(a:Addr) | ty(n:String)
 deriving DecidableEq
def RelV:V->Value->Prop
 |.non,u=>u=Value.none
 |.bl b,u=>u=Value.bool b
 |.int i,u=>∃t,u=Value.int i t
 |.str x,u=>∃t,u=Value.str x t
 |.byt b,u=>∃t,u=Value.bytes b t
 |.flt b,u=>∃t,u=Value.float b t
 |.ref a,u=>u=Value.ref a
 |.ty n,u=>u=Value.type n
abbrev Vals:List V->List Value->Prop:=Paired RelV
theorem Vals.length{xs:List V}{us:List Value}(r:Vals xs us):xs.length=us.length:=Paired.length r
theorem Vals.get:∀{xs:List V} {us:List Value} {i:Nat} {x:V},Vals xs us->xs[i]? =some x->∃u,us[i]? =some u/\RelV x u
 |_,_,_,_,.nil,e=>by simp at e
 |_,_,0,_,.cons r _,e=>by simp at e;subst e;exact⟨_,rfl,r⟩
 |_,_,i+1,x,.cons _ t,e=>by
  obtain⟨u,h1,h2⟩:=Vals.get (i:=i) (x:=x) t (by simpa using e);exact⟨u,by simpa using h1,h2⟩
theorem Vals.append:∀{xs ys:List V} {us ws:List Value},Vals xs us->Vals ys ws->Vals (xs++ys) (us++ws)
 |_,_,_,_,.nil,s=>s
 |_,_,_,_,.cons r t,s=>.cons r (Vals.append t s)
theorem Vals.take:∀{xs:List V} {us:List Value} (n:Nat),Vals xs us->Vals (xs.take n) (us.take n)
 |_,_,0,_=>.nil
 |_,_,_+1,.nil=>.nil
 |_,_,n+1,.cons r t=>.cons r (Vals.take n t)
theorem Vals.drop:∀{xs:List V} {us:List Value} (n:Nat),Vals xs us->Vals (xs.drop n) (us.drop n)
 |_,_,0,r=>r
 |_,_,_+1,.nil=>.nil
 |_,_,n+1,.cons _ t=>Vals.drop n t
theorem Vals.none_of:∀{xs:List V} {us:List Value} {i:Nat},Vals xs us->xs[i]? =none->us[i]? =none:=fun{xs us i} r e=>by
 have h1:=r.length;have h2:xs.length<=i:=List.getElem?_eq_none_iff.mp e;exact List.getElem?_eq_none_iff.mpr (by omega)
def fi:Option V->Option Value->Prop
 |some v,some u=>RelV v u
 |none,none=>True
 |_,_=>False
def KV{κ:Type}:List (κ×V)->List (κ×Value)->Prop:=Paired fun(p:κ×V) (q:κ×Value)=>p.1=q.1/\RelV p.2 q.2
def kV:Key->V
 |.inl i=>.int i
 |.inr x=>.str x
inductive HO where
 |lst(xs:List V)
 |tup(xs:List V)
 |dK(kvs:List (Key×V)) | dT(kvs:List (List Key×V))
 |set(S:Int->Bool)(n:Nat)
 |ins(C dx:Addr)(fs:List (Str×V))
 |own(x:Addr)
 |xd(fs:List (Str×V))
 |met(f x:Addr)
 |rng(lo hi:Int)
 |frz(o:Obj)(u:HO)
 |tbl(ps:Array Value)
 |ext(φ:Heap->Prop)
abbrev Hp:=Addr->Option HO
def upd(H:Hp)(a:Addr)(o:HO):Hp:=fun b=>if b=a then some o else H b
theorem aa{H:Hp}{a:Addr}{o:HO}:upd H a o a=some o:=by unfold upd;rw[if_pos rfl]
theorem aj{H:Hp}{a b:Addr}{o:HO}(h:b≠a):upd H a o b=H b:=by unfold upd;rw[if_neg h]
theorem cZ{H:Hp}{a:Addr}{o u:HO}:upd (upd H a o) a u=upd H a u:=by
 funext b;unfold upd;split <;> rfl
theorem mY{H:Hp}{a b:Addr}{o u:HO}(h:H a=some o)(h':H b=some u)(d:o≠u):a≠b:=by
 intro e;subst e;rw[h] at h';exact d (Option.some.inj h')
theorem aP{H:Hp}{a b:Addr}{o:HO}(h:H a=some o)(h':H b=none):a≠b:=by
 intro e;subst e;rw[h] at h';cases h'
section
variable (P:Program)(w:World)
def bi(H:Hp)(h:Heap)(a:Addr):HO->Prop
 |.lst xs=>xs.length<=sizeLine/\∃(its:List Value) (n:Nat),Vals xs its/\h.get? a=some {cls:=.type "list",data:=.seq its.toArray n}
 |.tup xs=>xs.length<=sizeLine/\∃its:List Value,Vals xs its/\IsTup h a its.toArray
 |.dK kvs=>kvs.length<=sizeLine/\(a == sysModules)=false/\∃vs,KV kvs vs/\h.DictOf (bI P w) a vs
 |.dT kvs=>kvs.length<=sizeLine/\(a == sysModules)=false/\∃xs:List (List Key×Addr×Value),
   Paired (fun(p:List Key×V) (q:List Key×Addr×Value)=>p.1=q.1/\H q.2.1=some (.tup (p.1.map kV))/\RelV p.2 q.2.2) kvs xs/\
   ∃o es ep,h.get? a=some o/\o.ExactDict/\o.data=.dict es ep/\es.toList=xs.map (entryOfKey (tupleKind (bI P w)))/\(xs.map (·.1)).Nodup
 |.set S n=>h.SetOf (intKind P w) a S n
 |.ins C dx fs=>H dx=some (.own a)/\fs.length<=1000/\dx≠a/\h.get? a=some (PySem.W.instObj C dx)/\
   ∃mA,h.Ns1 dx mA/\(∀f,fi (fs.lookup f) (mA f))/\PySem.Within mA (fs.map (·.1))
 |.own _=>∃o,h.get? a=some o
 |.xd fs=>∃mA,h.Ns1 a mA/\∀f,fi (fs.lookup f) (mA f)
 |.rng lo hi=>∃t u v,h.get? a=some {cls:=.type "range",data:=.fields #[.int lo t,.int hi u,.int 1 v]}
 |.frz o u=>h.get? a=some o/\bi H h a u
 |.tbl ps=>h.get? a=some {cls:=.none,data:=.fields ps}
 |.met f x=>h.get? a=some (PySem.W.methodObj (.ref f) (.ref x))
 |.ext φ=>φ h/\(∃o,h.get? a=some o)/\∀h1 h2:Heap,φ h1->(∀o,h1.get? a=some o->h2.get? a=some o)->φ h2
def HOk(H:Hp)(h:Heap):Prop:=∀a o,H a=some o->bi P w H h a o
end
section
variable {P:Program}{w:World}{H H':Hp}{h h':Heap}{a:Addr}{o:HO}
theorem bi.lt(x:bi P w H h a o):a<h.objs.size:=by
 cases o with
 |lst xs=>obtain⟨_,_,_,_,e⟩:=x;exact Heap.lt_size e
 |tup xs=>obtain⟨_,_,_,p⟩:=x;exact p.lt
 |dK kvs=>obtain⟨_,_,_,_,o,_,_,e,_⟩:=x;exact Heap.lt_size e
 |dT kvs=>obtain⟨_,_,_,_,o,_,_,e,_⟩:=x;exact Heap.lt_size e
 |set S n=>obtain⟨o,_,_,_,e,_⟩:=x;exact Heap.lt_size e
 |ins C dx fs=>obtain⟨_,_,_,e,_⟩:=x;exact Heap.lt_size e
 |own y=>obtain⟨_,e⟩:=x;exact Heap.lt_size e
 |xd fs=>obtain⟨_,⟨_,_,_,e,_⟩,_⟩:=x;exact Heap.lt_size e
 |rng lo hi=>obtain⟨_,_,_,e⟩:=x;exact Heap.lt_size e
 |frz ob u=>obtain⟨e,_⟩:=x;exact Heap.lt_size e
 |tbl ps=>exact Heap.lt_size (show h.get? a=some _ from x)
 |met f y=>exact Heap.lt_size (show h.get? a=some _ from x)
 |ext φ=>obtain⟨_,⟨_,e⟩,_⟩:=x;exact Heap.lt_size e
theorem Paired.bT{α β:Type}{F G:α->β->Prop}:∀{l₁:List α} {l₂:List β},Paired F l₁ l₂->(∀a b,F a b->G a b)->Paired G l₁ l₂
 |_,_,.nil,_=>.nil
 |_,_,.cons r t,f=>.cons (f _ _ r) (Paired.bT t f)
theorem bi.eK(x:bi P w H h a o)(k:∀b u,(b=a\/H b=some (.own a))->h.get? b=some u->h'.get? b=some u)
  (ho:∀b,H b=some (.own a)->H' b=some (.own a))(ht:∀b xs,H b=some (.tup xs)->H' b=some (.tup xs)):bi P w H' h' a o:=by
 induction o with
 |lst xs=>obtain⟨z,its,n,r,e⟩:=x;exact⟨z,its,n,r,k _ _ (.inl rfl) e⟩
 |tup xs=>obtain⟨z,its,r,ob,e,c⟩:=x;exact⟨z,its,r,ob,k _ _ (.inl rfl) e,c⟩
 |dK kvs=>obtain⟨z,y,vs,r,ob,es,ep,e,c⟩:=x;exact⟨z,y,vs,r,ob,es,ep,k _ _ (.inl rfl) e,c⟩
 |dT kvs=>
  obtain⟨z,y,xs,r,ob,es,ep,e,c⟩:=x;exact⟨z,y,xs,Paired.bT r fun p q z=>⟨z.1,ht _ _ z.2.1,z.2.2⟩,ob,es,ep,k _ _ (.inl rfl) e,c⟩
 |set S n=>obtain⟨ob,es,ep,t,e,c⟩:=x;exact⟨ob,es,ep,t,k _ _ (.inl rfl) e,c⟩
 |ins C dx fs=>
  obtain⟨d,z,ne,e,mA,⟨od,es,ep,e2,c⟩,r⟩:=x;exact⟨ho _ d,z,ne,k _ _ (.inl rfl) e,mA,⟨od,es,ep,k _ _ (.inr d) e2,c⟩,r⟩
 |own y=>obtain⟨ob,e⟩:=x;exact⟨ob,k _ _ (.inl rfl) e⟩
 |xd fs=>obtain⟨mA,⟨od,es,ep,e,c⟩,r⟩:=x;exact⟨mA,⟨od,es,ep,k _ _ (.inl rfl) e,c⟩,r⟩
 |rng lo hi=>obtain⟨t,u,v,e⟩:=x;exact⟨t,u,v,k _ _ (.inl rfl) e⟩
 |frz ob u ih=>obtain⟨e,q⟩:=x;exact⟨k _ _ (.inl rfl) e,ih q⟩
 |tbl ps=>
  have e:h.get? a=some {cls:=.none,data:=.fields ps}:=x;show h'.get? a=some {cls:=.none,data:=.fields ps};exact k a _ (.inl rfl) e
 |met f y=>
  have e:h.get? a=some (PySem.W.methodObj (.ref f) (.ref y)):=x;show h'.get? a=some (PySem.W.methodObj (.ref f) (.ref y));exact k a _ (.inl rfl) e
 |ext φ=>obtain⟨p,⟨o,e⟩,st⟩:=x;exact⟨st _ _ p fun o q=>k _ _ (.inl rfl) q,⟨o,k _ _ (.inl rfl) e⟩,st⟩
theorem HOk.lt(x:HOk P w H h)(e:H a=some o):a<h.objs.size:=(x a o e).lt
theorem HOk.fresh(x:HOk P w H h)(e:h.objs.size<=a):H a=none:=by
 cases q:H a with
 |none=>rfl
 |some u=>exact absurd (Nat.lt_of_lt_of_le (x.lt q) e) (Nat.lt_irrefl _)
theorem HOk.kept(x:HOk P w H h)(k:∀b u,h.get? b=some u->h'.get? b=some u):HOk P w H h':=fun a o e=>
 (x a o e).eK (fun b u _ q=>k b u q) (fun _ q=>q) fun _ _ q=>q
theorem HOk.laid(x:HOk P w H h)(k:∀b u,h.get? b=some u->h'.get? b=some u)(hp:h.objs.size<=a)(new:bi P w (upd H a o) h' a o):HOk P w (upd H a o) h':=fun b u e=>by
 have hn:=x.fresh hp
 by_cases hb:b=a
 ·subst hb;rw[aa] at e;cases e;exact new
 ·rw[aj hb] at e;exact(x b u e).eK (fun c v _ q=>k c v q) (fun c q=>by rw[aj (aP q hn)];exact q) fun c xs q=>by rw[aj (aP q hn)];exact q
end
def Rd(H:Hp)(a:Addr)(u:HO):Prop:=H a=some u\/∃o,H a=some (.frz o u)
theorem Rd.ok{P:Program}{w:World}{H:Hp}{h:Heap}{a:Addr}{u:HO}(r:Rd H a u)(x:HOk P w H h):bi P w H h a u:=by
 rcases r with r|⟨o,r⟩
 ·exact x a u r
 ·obtain⟨_,q⟩:=x a _ r;exact q
def Mut:Option HO->Prop
 |some (.lst _)=>True
 |some (.dK _)=>True
 |some (.dT _)=>True
 |some (.set _ _)=>True
 |some (.ins _ _ _)=>True
 |some (.ext _)=>True
 |_=>False
section
variable {P:Program}{w:World}{H:Hp}{h h':Heap}{x e:Addr}{o':HO}
theorem HOk.write(ok:HOk P w H h)(mu:Mut (H x))(he:e=x\/H e=some (.own x))(k:∀b u,b≠e->h.get? b=some u->h'.get? b=some u)(heo:∃u,h'.get? e=some u)
  (new:bi P w (upd H x o') h' x o'):HOk P w (upd H x o') h':=fun b u q=>by
 have nown:∀c y,H c=some (.own y)->c≠x:=fun c y r z=>by subst z;rw[r] at mu;exact mu
 have ntup:∀c xs,H c=some (.tup xs)->c≠x:=fun c xs r z=>by subst z;rw[r] at mu;exact mu
 by_cases hb:b=x
 ·subst hb;rw[aa] at q;cases q;exact new
 ·rw[aj hb] at q
  by_cases hbe:b=e
  ·have q':H b=some (.own x):=by
    rcases he with z|z
    ·exact absurd (hbe.trans z) hb
    ·rw[hbe];exact z
   rw[q] at q';cases q';obtain⟨v,hv⟩:=heo;exact⟨v,by rw[hbe];exact hv⟩
  ·refine(ok b u q).eK (fun c v hc r=>k c v ?_ r) (fun c r=>by rw[aj (nown c b r)];exact r) fun c xs r=>by rw[aj (ntup c xs r)];exact r
   rcases hc with rfl|hc
   ·exact hbe
   ·rintro rfl;rcases he with z|z
    ·exact nown c b hc z
    ·rw[hc] at z;cases z;exact hb rfl
end
structure Un(fs ex:List Addr)(H H':Hp)(h h':Heap):Prop where
 keep:∀b o,h.get? b=some o->H b=none->b ∉ fs->b ∉ ex->h'.get? b=some o
 slot:∀b o,h.get? b=some o->H b=none->b∈fs->b ∉ ex->∃sl,h'.get? b=some {o with slots:=sl}
 free:∀b o,h.get? b=some o->H b=none->b ∉ ex->H' b=none
 there:∀b o,h.get? b=some o->b ∉ ex->∃o',h'.get? b=some o'
 tups:∀b xs,H b=some (.tup xs)->H' b=some (.tup xs)
 frzs:∀b o u,H b=some (.frz o u)->H' b=some (.frz o u)
 tbls:∀b ps,H b=some (.tbl ps)->∃more,H' b=some (.tbl (ps++more))
section
variable {fs fs' ex ex':List Addr}{H H1 H2:Hp}{h h1 h2 h':Heap}{a x e:Addr}{o:HO}
theorem Un.any(u:Un fs ex H H1 h h1){b:Addr}{ob:Obj}(q:h.get? b=some ob)(n:H b=none)(hx:b ∉ ex):∃sl,h1.get? b=some {ob with slots:=sl}:=by
 by_cases hb:b∈fs
 ·exact u.slot b ob q n hb hx
 ·exact⟨ob.slots,u.keep b ob q n hb hx⟩
theorem Un.kept(k:∀b u,h.get? b=some u->h'.get? b=some u):Un fs ex H H h h':=
 ⟨fun b ob q _ _ _=>k b ob q,fun b ob q _ _ _=>⟨ob.slots,k b ob q⟩,fun _ _ _ n _=>n,fun b ob q _=>⟨ob,k b ob q⟩,fun _ _ q=>q,fun _ _ _ q=>q,fun _ ps q=>⟨#[],by rw[q];simp⟩⟩
theorem Un.refl:Un fs ex H H h h:=Un.kept fun _ _ q=>q
theorem Un.laid(k:∀b u,h.get? b=some u->h'.get? b=some u)(hp:h.objs.size<=a)(hn:H a=none):Un fs ex H (upd H a o) h h' where
 keep:=fun b u q _ _ _=>k b u q
 slot:=fun b u q _ _ _=>⟨u.slots,k b u q⟩
 free:=fun b u q n _=>by rw[aj (Nat.ne_of_lt (Nat.lt_of_lt_of_le (Heap.lt_size q) hp))];exact n
 there:=fun b u q _=>⟨u,k b u q⟩
 tups:=fun b xs q=>by rw[aj (aP q hn)];exact q
 frzs:=fun b u xs q=>by rw[aj (aP q hn)];exact q
 tbls:=fun b ps q=>⟨#[],by rw[aj (aP q hn),q];simp⟩
theorem Un.write(mu:Mut (H x))(he:e=x\/H e=some (.own x))(k:∀b u,b≠e->h.get? b=some u->h'.get? b=some u)(heo:∃u,h'.get? e=some u):Un fs ex H (upd H x o) h h':=by
 have hx:∀b,H b=none->b≠x:=fun b n z=>by subst z;rw[n] at mu;exact mu
 have hb:∀b,H b=none->b≠e:=fun b n z=>by
  subst z;rcases he with r|r
  ·exact hx b n r
  ·rw[n] at r;cases r
 have hm:∀b u,H b=some u->¬Mut (some u)->b≠x:=fun b u q nm z=>by subst z;rw[q] at mu;exact nm mu
 refine⟨fun b u q n _ _=>k b u (hb b n) q,fun b u q n _ _=>⟨u.slots,k b u (hb b n) q⟩,fun b u q n _=>by rw[aj (hx b n)];exact n,fun b u q _=>?_,
  fun b xs q=>by rw[aj (hm b _ q fun z=>z)];exact q,fun b u xs q=>by rw[aj (hm b _ q fun z=>z)];exact q,fun b ps q=>⟨#[],by rw[aj (hm b _ q fun z=>z),q];simp⟩⟩
 by_cases hbe:b=e
 ·subst hbe;exact heo
 ·exact⟨u,k b u hbe q⟩
end
def trk(h:Heap)(H:Hp):List Addr:=(List.range h.objs.size).filter fun a=>(H a).isSome
def g6(h:Heap)(H:Hp):Heap:=PySem.W.hideAll h (trk h H)
theorem si(h:Heap)(H:Hp):(g6 h H).objs.size=h.objs.size:=PySem.W.hideAll_size _ _
theorem uC{h:Heap}{H:Hp}{b:Addr}{o:Obj}(e:h.get? b=some o)(n:H b=none):(g6 h H).get? b=some o:=
 PySem.W.hideAll_get _ e fun hm=>by
  have q:(H b).isSome=true:=(List.mem_filter.mp hm).2;rw[n] at q;simp at q
theorem xc{h:Heap}{H:Hp}{b:Addr}{o:Obj}(e:(g6 h H).get? b=some o):h.get? b=some o/\H b=none:=by
 have e':h.get? b=some o:=PySem.W.of_hideAll (trk h H) e;refine⟨e',?_⟩;cases q:H b with
 |none=>rfl
 |some x=>
  have hm:b∈trk h H:=List.mem_filter.mpr ⟨List.mem_range.mpr (Heap.lt_size e'),by simp[q]⟩;have z:(g6 h H).get? b=none:=PySem.W.hideAll_none (trk h H) hm;rw[z] at e;cases e
end L2
namespace L2
open PySem PySem.Spec PyProof.Rows
structure Mod(K:PySem.W.Frag)(mg:Str->Option Value)(base:Heap):Prop where
 kin:K.In base
 glob:base.Ns mainGlobals mg
 blt:∃mb,base.Ns builtinsNs mb/\∀x:Str,x≠"__name__"->mb x=bootBuiltins x
 nolimit:base.NoLimit
structure Cx where
 prog:Program
 w:World
 K:PySem.W.Frag
 mg:Str->Option Value
 base:Heap
 A:Around
 N:List Str
 s₀:Shared
 H₀:Hp
 env:Env
 outer:List Env
 stack:List Env
 ex:List Addr
 fn:Str->Bool
 calm:Bool
 pn:List (Addr×Obj)
 xe:Value->Shared->Prop
def frs(l:List Env):List Addr:=l.filterMap (·.frame)
abbrev Cx.fs(X:Cx):List Addr:=frs X.outer
def Vis(sc:Scope)(x:Str):Prop:=sc.names.lookup x=some .local\/sc.names.lookup x=some .cell\/sc.names.lookup x=some .free
def Loc(sc:Scope)(x:Str):Prop:=sc.names.lookup x=some .local\/sc.names.lookup x=some .cell
def Look(env:Env)(h:Heap)(m:Str->Option Value)(x:Str)(u:Value):Prop:=
 (env.kindOf x=some .local/\m x=some u)\/((env.kindOf x=some .cell\/env.kindOf x=some .free)/\∃c,env.cells.lookup x=some c/\h.IsCell c (some u))
structure Cx.Ok(X:Cx):Prop where
 mod:Mod X.K X.mg X.base
 kind:X.env.scope.kind=.function
 glob:X.env.globals=mainGlobals
 blt:X.env.builtins=builtinsNs
 above:X.s₀.heap.objs.size<=X.env.locals
 inj:∀x y c,X.env.cells.lookup x=some c->X.env.cells.lookup y=some c->x=y
 has:∀x,(X.env.kindOf x=some .cell\/X.env.kindOf x=some .free)->∃c,X.env.cells.lookup x=some c
 cab:∀x c,X.fn x=true->X.env.cells.lookup x=some c->X.s₀.heap.objs.size<=c
 hd:X.calm=true->X.A.handled=none
 frames:X.A.frames=some X.stack
 stk:X.stack=X.outer\/(X.stack=X.env::X.outer/\X.env.frame=some X.env.locals)
 exf:∀b∈X.ex,b≠X.env.locals/\∀x c,X.env.cells.lookup x=some c->c≠b
 bs:∀b o,X.base.get? b=some o->X.s₀.heap.get? b=some o/\X.H₀ b=none
 bsz:X.base.objs.size<=X.s₀.heap.objs.size
 noex:∀b o,X.base.get? b=some o->b ∉ X.ex
 exfs:∀b∈X.ex,b ∉ X.fs
 fZ:X.s₀.heap.FunFrames X.base X.outer
 frf:∀b∈X.fs,X.H₀ b=none
structure Inv(X:Cx)(pins:List (Addr×Obj))(σ:List (Option V))(H:Hp)(s:Shared):Prop where
 ok:X.Ok
 os:s.os=X.s₀.os
 bare:AllBare s.gens
 base:Un X.fs X.ex X.H₀ H X.s₀.heap s.heap
 loc:∃m,s.heap.Ns X.env.locals m/\∀(i:Nat) (x:Str) (v:V),X.N[i]? =some x->σ[i]? =some (some v)->Vis X.env.scope x->∃u,RelV v u/\Look X.env s.heap m x u
 cell:∀x c,X.env.cells.lookup x=some c->∃v,s.heap.IsCell c v
 free:H X.env.locals=none
 freeC:∀x c,X.env.cells.lookup x=some c->H c=none
 pin:∀p∈X.pn++pins,s.heap.get? p.1=some p.2/\H p.1=none/\p.1≠X.env.locals/\p.1 ∉ X.fs/\∀v,p.2.data≠.cell v
 hok:HOk X.prog X.w H s.heap
 len:σ.length=X.N.length
section
variable {X:Cx}{pins:List (Addr×Obj)}{σ:List (Option V)}{H H':Hp}{s:Shared}{h':Heap}
theorem Cx.Ok.Ai(ok:X.Ok){b:Addr}{o:Obj}(e:X.base.get? b=some o):b ∉ X.fs:=fun hb=>by
 have:=(ok.fZ.mem hb).1;rw[e] at this;cases this
theorem Inv.bs(I:Inv X pins σ H s):∀b o,X.base.get? b=some o->s.heap.get? b=some o/\H b=none:=fun b o e=>
 ⟨I.base.keep b o (I.ok.bs b o e).1 (I.ok.bs b o e).2 (I.ok.Ai e) (I.ok.noex b o e),I.base.free b o (I.ok.bs b o e).1 (I.ok.bs b o e).2 (I.ok.noex b o e)⟩
theorem Inv.bk(I:Inv X pins σ H s):∀b o,X.base.get? b=some o->s.heap.get? b=some o:=fun b o e=>(I.bs b o e).1
theorem Inv.mod(I:Inv X pins σ H s):Mod X.K X.mg X.base:=I.ok.mod
theorem Inv.kIn(I:Inv X pins σ H s):X.K.In s.heap:=I.ok.mod.kin.keeps I.bk
theorem Inv.nolimit(I:Inv X pins σ H s):s.heap.NoLimit:=I.ok.mod.nolimit.keeps I.bk
theorem Inv.lt(I:Inv X pins σ H s):X.env.locals<s.heap.objs.size:=let ⟨_,hn,_⟩:=I.loc;hn.lt
theorem Inv.sz(I:Inv X pins σ H s):X.s₀.heap.objs.size<=s.heap.objs.size:=Nat.le_trans I.ok.above (Nat.le_of_lt I.lt)
theorem Inv.Aj(I:Inv X pins σ H s){a:Addr}(h:s.heap.objs.size<=a):a ∉ X.fs:=fun hb=>by
 obtain⟨_,o,ho,_⟩:=I.ok.fZ.mem hb;exact absurd (Nat.lt_of_lt_of_le (Heap.lt_size ho) (Nat.le_trans I.sz h)) (Nat.lt_irrefl _)
theorem Inv.cne(I:Inv X pins σ H s):∀x c,X.env.cells.lookup x=some c->c≠X.env.locals:=fun x c e z=>by
 obtain⟨v,o,ho,hd⟩:=I.cell x c e;obtain⟨m,⟨o',es,ep,ho',hd',_⟩,_⟩:=I.loc;rw[z,ho'] at ho;cases ho;rw[hd'] at hd;cases hd
theorem Inv.fZ(I:Inv X pins σ H s):s.heap.FunFrames X.base X.outer:=by
 have all:∀(l:List Env),(∀b∈frs l,b∈X.fs)->X.s₀.heap.FunFrames X.base l->s.heap.FunFrames X.base l:=by
  intro l
  induction l with
  |nil=>intro _ _;trivial
  |cons env r ih=>
   intro hs hl;obtain⟨hk,⟨L,o,hf,hn,ho,hd⟩,hr⟩:=hl;have hL:L∈X.fs:=hs L (by unfold frs;rw[List.filterMap_cons,hf];exact aac);obtain⟨sl,e⟩:=I.base.slot L o ho (I.ok.frf L hL) hL fun z=>I.ok.exfs L z hL
   exact⟨hk,⟨L,_,hf,hn,e,hd⟩,ih (fun b hb=>hs b (by unfold frs;rw[List.filterMap_cons,hf];exact aad _ hb)) hr⟩
 exact all X.outer (fun _ hb=>hb) I.ok.fZ
theorem Inv.stack(I:Inv X pins σ H s):s.heap.FunFrames X.base X.stack:=by
 rcases I.ok.stk with e|⟨e,hf⟩
 ·rw[e];exact I.fZ
 ·rw[e];obtain⟨m,hn,_⟩:=I.loc;refine .cons (by rw[I.ok.kind];decide) hf hn ?_ I.fZ;exact Heap.get?_none_of_le (Nat.le_trans I.ok.bsz I.ok.above)
theorem Inv.nE(I:Inv X pins σ H s):∀b∈frs X.stack,b∈X.env.locals::X.fs:=fun b hb=>by
 rcases I.ok.stk with e|⟨e,hf⟩
 ·rw[e] at hb;exact aad _ hb
 ·rw[e] at hb;unfold frs at hb;rw[List.filterMap_cons,hf] at hb;exact hb
theorem Inv.lB(I:Inv X pins σ H s):∀b∈frs X.stack,H b=none:=fun b hb=>by
 rcases List.mem_cons.mp (I.nE b hb) with e|hb
 ·rw[e];exact I.free
 ·obtain⟨_,o,ho,_⟩:=I.ok.fZ.mem hb;exact I.base.free b o ho (I.ok.frf b hb) fun z=>I.ok.exfs b z hb
theorem Inv.step{g':Array GenState}{t':Nat}{d':Drawn}{ch:List Addr}(I:Inv X pins σ H s)
  (hch:∀b∈ch,(b∈X.ex\/X.s₀.heap.objs.size<=b)/\b≠X.env.locals/\(∀x c,X.env.cells.lookup x=some c->c≠b)/\∀p∈X.pn++pins,p.1≠b)
  (keep:∀b o,b≠X.env.locals->b ∉ X.fs->b ∉ ch->s.heap.get? b=some o->H b=none->h'.get? b=some o)
  (slot:∀b o,b≠X.env.locals->b∈X.fs->b ∉ ch->s.heap.get? b=some o->H b=none->∃sl,h'.get? b=some {o with slots:=sl})(free:∀b o,b ∉ ch->s.heap.get? b=some o->H b=none->H' b=none)
  (there:∀b o,b ∉ ch->s.heap.get? b=some o->∃o',h'.get? b=some o')
  (tups:∀b xs,H b=some (.tup xs)->H' b=some (.tup xs))(frzs:∀b o u,H b=some (.frz o u)->H' b=some (.frz o u))(tbls:∀b ps,H b=some (.tbl ps)->∃more,H' b=some (.tbl (ps++more)))
  (ns:∀m,s.heap.Ns X.env.locals m->h'.Ns X.env.locals m)(hok:HOk X.prog X.w H' h')(hg:AllBare g') :
  Inv X pins σ H' {s with heap:=h',gens:=g',drawn:=d',toks:=t'}:=by
 have neL:∀b o,X.s₀.heap.get? b=some o->b≠X.env.locals:=fun b o e=>Nat.ne_of_lt (Nat.lt_of_lt_of_le (Heap.lt_size e) I.ok.above)
 have neC:∀b o,X.s₀.heap.get? b=some o->b ∉ X.ex->b ∉ ch:=fun b o e hx hb=>by
  rcases(hch b hb).1 with z|z
  ·exact hx z
  ·exact absurd (Nat.lt_of_lt_of_le (Heap.lt_size e) z) (Nat.lt_irrefl _)
 have cellK:∀x c,X.env.cells.lookup x=some c->∀v,s.heap.IsCell c v->h'.IsCell c v:=fun x c e v ⟨o,ho,hd⟩=>by
  have nch:c ∉ ch:=fun z=>(hch c z).2.2.1 x c e rfl
  by_cases hc:c∈X.fs
  ·obtain⟨sl,q⟩:=slot c o (I.cne x c e) hc nch ho (I.freeC x c e);exact⟨_,q,hd⟩
  ·exact⟨o,keep c o (I.cne x c e) hc nch ho (I.freeC x c e),hd⟩
 refine⟨I.ok,I.os,hg,⟨fun b o e n hb hx=>?_,fun b o e n hb hx=>?_,fun b o e n hx=>?_,fun b o e hx=>?_,fun b xs e=>tups b xs (I.base.tups b xs e),fun b o xs e=>frzs b o xs (I.base.frzs b o xs e),fun b ps e=>?_⟩,?_,fun x c e=>?_,?_,fun x c e=>?_,fun p hp=>?_,hok,I.len⟩
 ·exact keep b o (neL b o e) hb (neC b o e hx) (I.base.keep b o e n hb hx) (I.base.free b o e n hx)
 ·obtain⟨sl,e1⟩:=I.base.slot b o e n hb hx;obtain⟨sl',e2⟩:=slot b _ (neL b o e) hb (neC b o e hx) e1 (I.base.free b o e n hx);exact⟨sl',e2⟩
 ·obtain⟨o',e1⟩:=I.base.there b o e hx;exact free b o' (neC b o e hx) e1 (I.base.free b o e n hx)
 ·obtain⟨o',e1⟩:=I.base.there b o e hx;exact there b o' (neC b o e hx) e1
 ·obtain⟨m1,e1⟩:=I.base.tbls b ps e;obtain⟨m2,e2⟩:=tbls b _ e1;exact⟨m1++m2,by rw[e2,Array.append_assoc]⟩
 ·obtain⟨m,hn,hl⟩:=I.loc;refine⟨m,ns m hn,fun i x v e1 e2 e3=>?_⟩;obtain⟨u,r,l⟩:=hl i x v e1 e2 e3;refine⟨u,r,?_⟩;rcases l with l|⟨k,c,e,z⟩
  ·exact .inl l
  ·exact .inr ⟨k,c,e,cellK x c e _ z⟩
 ·obtain⟨v,z⟩:=I.cell x c e;exact⟨v,cellK x c e v z⟩
 ·obtain⟨m,⟨o,_,_,ho,_⟩,_⟩:=I.loc;exact free _ o (fun z=>(hch _ z).2.1 rfl) ho I.free
 ·obtain⟨v,o,ho,hd⟩:=I.cell x c e;exact free c o (fun z=>(hch c z).2.2.1 x c e rfl) ho (I.freeC x c e)
 ·obtain⟨e,n,ne,nf,d⟩:=I.pin p hp;have nch:p.1 ∉ ch:=fun z=>(hch p.1 z).2.2.2 p hp rfl
  exact⟨keep p.1 p.2 ne nf nch e n,free p.1 p.2 nch e n,ne,nf,d⟩
theorem Inv.un{t':Nat}(I:Inv X pins σ H s)(u:Un X.fs [] H H' s.heap h')(hok:HOk X.prog X.w H' h'):Inv X pins σ H' {s with heap:=h',toks:=t'}:=by
 obtain⟨m,⟨o,es,ep,ho,r⟩,_⟩:=id I.loc;obtain⟨sl,hL⟩:=u.any ho I.free (by simp);exact I.step (g':=s.gens) (d':=s.drawn) (ch:=[]) (fun _ z=>nomatch z) (fun b o _ hb _ e n=>u.keep b o e n hb (by simp)) (fun b o _ hb _ e n=>u.slot b o e n hb (by simp)) (fun b o _ e n=>u.free b o e n (by simp)) (fun b o _ e=>u.there b o e (by simp)) u.tups u.frzs u.tbls (fun m' hm=>by
  obtain⟨o',es',ep',ho',r'⟩:=hm;rw[ho] at ho';cases ho';exact⟨_,es',ep',hL,r'⟩) hok I.bare
theorem Inv.call{g':Array GenState}{t':Nat}{d':Drawn}{ch:List Addr}(I:Inv X pins σ H s)(u:Un (frs X.stack) ch H H' s.heap h')(hok:HOk X.prog X.w H' h')(hg:AllBare g')
  (hch:∀b∈ch,(b∈X.ex\/X.s₀.heap.objs.size<=b)/\b≠X.env.locals/\(∀x c,X.env.cells.lookup x=some c->c≠b)/\∀p∈X.pn++pins,p.1≠b) :
  Inv X pins σ H' {s with heap:=h',gens:=g',drawn:=d',toks:=t'}:=by
 obtain⟨m,⟨o,es,ep,ho,r⟩,_⟩:=id I.loc;obtain⟨sl,hL⟩:=u.any ho I.free fun z=>(hch _ z).2.1 rfl
 exact I.step (ch:=ch) hch (fun b o hL hb hc e n=>u.keep b o e n (fun z=>(List.mem_cons.mp (I.nE b z)).elim hL hb) hc) (fun b o _ _ hc e n=>u.any e n hc) (fun b o hc e n=>u.free b o e n hc) (fun b o hc e=>u.there b o e hc) u.tups u.frzs u.tbls (fun m' hm=>by
  obtain⟨o',es',ep',ho',r'⟩:=hm;rw[ho] at ho';cases ho';exact⟨_,es',ep',hL,r'⟩) hok hg
theorem Inv.turned{t':Nat}{it:Addr}(I:Inv X pins σ H s)(k:∀b o,b≠it->s.heap.get? b=some o->h'.get? b=some o)(hn:H it=none)(hL:it≠X.env.locals)
  (h1:it∈X.ex\/X.s₀.heap.objs.size<=it)(h2:∀x c,X.env.cells.lookup x=some c->c≠it)(h3:∀p∈X.pn++pins,p.1≠it):Inv X pins σ H {s with heap:=h',toks:=t'}:=by
 have nit:∀b u,H b=some u->b≠it:=fun b u e z=>by rw[z,hn] at e;cases e
 refine I.step (g':=s.gens) (d':=s.drawn) (ch:=[it]) (fun b hb=>?_) (fun b o _ _ hc e _=>k b o (fun z=>hc (by simp[z])) e) (fun b o _ _ hc e _=>⟨o.slots,k b o (fun z=>hc (by simp[z])) e⟩) (fun _ _ _ _ n=>n)
  (fun b o hc e=>⟨o,k b o (fun z=>hc (by simp[z])) e⟩) (fun _ _ e=>e) (fun _ _ _ e=>e) (fun b ps e=>⟨#[],by rw[e];simp⟩) (fun m hm=>?_) (fun b u e=>?_) I.bare
 ·have e:b=it:=by simpa using hb
  subst e;exact⟨h1,hL,h2,h3⟩
 ·obtain⟨o,es,ep,ho,r⟩:=hm;exact⟨o,es,ep,k _ o (Ne.symm hL) ho,r⟩
 ·refine(I.hok b u e).eK (fun c v hc q=>k c v ?_ q) (fun _ q=>q) fun _ _ q=>q
  rcases hc with z|z
  ·rw[z];exact nit b u e
  ·exact nit c _ z
theorem Inv.tok(I:Inv X pins σ H s)(t:Nat):Inv X pins σ H {s with toks:=t}:=I.un (h':=s.heap) (t':=t) Un.refl I.hok
theorem Inv.kept{t':Nat}(I:Inv X pins σ H s)(k:∀b u,s.heap.get? b=some u->h'.get? b=some u):Inv X pins σ H {s with heap:=h',toks:=t'}:=I.un (Un.kept k) (I.hok.kept k)
theorem Inv.laid{a:Addr}{o:HO}{t':Nat}(I:Inv X pins σ H s)(k:∀b u,s.heap.get? b=some u->h'.get? b=some u)(hp:s.heap.objs.size<=a)(new:bi X.prog X.w (upd H a o) h' a o) :
  Inv X pins σ (upd H a o) {s with heap:=h',toks:=t'}:=I.un (Un.laid k hp (I.hok.fresh hp)) (I.hok.laid k hp new)
theorem Inv.write{x e:Addr}{o:HO}{t':Nat}(I:Inv X pins σ H s)(mu:Mut (H x))(he:e=x\/H e=some (.own x))(k:∀b u,b≠e->s.heap.get? b=some u->h'.get? b=some u)(heo:∃u,h'.get? e=some u)
  (new:bi X.prog X.w (upd H x o) h' x o):Inv X pins σ (upd H x o) {s with heap:=h',toks:=t'}:=I.un (Un.write mu he k heo) (I.hok.write mu he k heo new)
theorem Inv.gm{pins':List (Addr×Obj)}(I:Inv X pins σ H s)(h:∀p∈pins',s.heap.get? p.1=some p.2/\H p.1=none/\p.1≠X.env.locals/\p.1 ∉ X.fs/\∀v,p.2.data≠.cell v):Inv X pins' σ H s:=
 ⟨I.ok,I.os,I.bare,I.base,I.loc,I.cell,I.free,I.freeC,fun p hp=>(aak.mp hp).elim (fun z=>I.pin p (List.mem_append_left _ z)) (h p),I.hok,I.len⟩
theorem jX{N:List Str}(hN:N.Nodup){i j:Nat}{x:Str}(a:N[i]? =some x)(b:N[j]? =some x):i=j:=by
 obtain⟨h1,e1⟩:=aab.mp a;obtain⟨h2,e2⟩:=aab.mp b;exact(List.getElem_inj hN).mp (e1.trans e2.symm)
theorem sv{M:Model}{A:Around}{E:Value->Shared->Prop}{i:Nat}{x:Str}{v:V}{u:Value}{Q:Unit->Shared->Prop}(I:Inv X pins σ H s)(hN:X.N.Nodup)(hi:X.N[i]? =some x)(hx:Loc X.env.scope x)(r:RelV v u)
  (h:∀s',Inv X pins (σ.set i (some v)) H s'->(∃a,Heap.SameBut a s.heap s'.heap/\(a=X.env.locals\/X.env.cells.lookup x=some a))->Q () s')(hf:X.fn x=true\/X.env.scope.names.lookup x=some .local:=by first | exact .inl rfl | exact .inr rfl | assumption):wpAny M A (storeName X.env x u) Q E s:=by
 obtain⟨m,hn,hl⟩:=id I.loc;have hcls:(X.env.scope.kind == .class || (X.env.scope.kind == .module && X.env.locals != X.env.globals))=false:=by rw[I.ok.kind];rfl
 have hiσ:i < σ.length:=by rw[I.len];exact(aab.mp hi).1
 have cne:=I.cne;have tracked:∀{a:Addr} {h':Heap},(∃o,s.heap.get? a=some o/\H a=none)->Heap.SameBut a s.heap h'->HOk X.prog X.w H h':=fun{a h'} ha hs b ob e=>by
  obtain⟨_,_,hfree⟩:=ha;refine(I.hok b ob e).eK (fun c w' hc q=>(hs.2 c ?_).trans q) (fun _ q=>q) fun _ _ q=>q
  rintro rfl;rcases hc with rfl|hc
  ·rw[hfree] at e;cases e
  ·rw[hfree] at hc;cases hc
 rcases hx with hk|hk
 ·refine wpAny_storeName_local hk hn (fun h' hn' hs=>?_) hcls;obtain⟨oL,_,_,hoL,_⟩:=id hn;refine h _ ⟨I.ok,I.os,I.bare,⟨fun b o e n hb hx=>?_,fun b o e n hb hx=>?_,I.base.free,fun b o e hx=>?_,I.base.tups,I.base.frzs,I.base.tbls⟩,⟨_,hn',fun j y v' e1 e2 e3=>?_⟩,fun y c e=>?_,I.free,I.freeC,fun p hp=>?_,tracked ⟨oL,hoL,I.free⟩ hs,by simpa using I.len⟩ ⟨_,hs,.inl rfl⟩
  ·exact(hs.2 b (Nat.ne_of_lt (Nat.lt_of_lt_of_le (Heap.lt_size e) I.ok.above))).trans (I.base.keep b o e n hb hx)
  ·obtain⟨sl,e1⟩:=I.base.slot b o e n hb hx;exact⟨sl,(hs.2 b (Nat.ne_of_lt (Nat.lt_of_lt_of_le (Heap.lt_size e) I.ok.above))).trans e1⟩
  ·obtain⟨o',e1⟩:=I.base.there b o e hx;exact⟨o',(hs.2 b (Nat.ne_of_lt (Nat.lt_of_lt_of_le (Heap.lt_size e) I.ok.above))).trans e1⟩
  ·by_cases hj:j=i
   ·subst hj;rw[hi] at e1;cases e1;rw[List.getElem?_set_self hiσ] at e2;cases e2
    exact⟨u,r,.inl ⟨hk,by simp⟩⟩
   ·rw[List.getElem?_set_ne (Ne.symm hj)] at e2;obtain⟨u',r',q⟩:=hl j y v' e1 e2 e3;refine⟨u',r',?_⟩;rcases q with ⟨k,e⟩|⟨k,c,e,z⟩
    ·refine .inl ⟨k,?_⟩;have:y≠x:=fun e=>hj (jX hN e1 (e▸hi))
     simp[this,e]
    ·exact .inr ⟨k,c,e,z.sameBut hs (cne y c e)⟩
  ·obtain⟨w',z⟩:=I.cell y c e;exact⟨w',z.sameBut hs (cne y c e)⟩
  ·obtain⟨e,n,ne,nf,d⟩:=I.pin p hp;exact⟨(hs.2 p.1 ne).trans e,n,ne,nf,d⟩
 ·have hfn:X.fn x=true:=by
   rcases hf with z|z
   ·exact z
   ·rw[z] at hk;cases hk
  obtain⟨c,hc⟩:=I.ok.has x (.inl hk);obtain⟨w',z⟩:=I.cell x c hc;refine wpAny_storeName_cell I.ok.kind hk hc z (fun h' hc' hs=>?_);obtain⟨oc,hoc,hocd⟩:=id z;refine h {s with heap:=h'} ⟨I.ok,I.os,I.bare,⟨fun b o e n hb hx=>?_,fun b o e n hb hx=>?_,I.base.free,fun b o e hx=>?_,I.base.tups,I.base.frzs,I.base.tbls⟩,⟨m,hn.sameBut hs (Ne.symm (cne x c hc)),fun j y v' e1 e2 e3=>?_⟩,fun y c' e=>?_,I.free,I.freeC,fun p hp=>?_,tracked ⟨oc,hoc,I.freeC x c hc⟩ hs,by simpa using I.len⟩ ⟨c,hs,.inr hc⟩
  ·exact(hs.2 b (Nat.ne_of_lt (Nat.lt_of_lt_of_le (Heap.lt_size e) (I.ok.cab x c hfn hc)))).trans (I.base.keep b o e n hb hx)
  ·obtain⟨sl,e1⟩:=I.base.slot b o e n hb hx;exact⟨sl,(hs.2 b (Nat.ne_of_lt (Nat.lt_of_lt_of_le (Heap.lt_size e) (I.ok.cab x c hfn hc)))).trans e1⟩
  ·obtain⟨o',e1⟩:=I.base.there b o e hx;exact⟨o',(hs.2 b (Nat.ne_of_lt (Nat.lt_of_lt_of_le (Heap.lt_size e) (I.ok.cab x c hfn hc)))).trans e1⟩
  ·by_cases hj:j=i
   ·subst hj;rw[hi] at e1;cases e1;rw[List.getElem?_set_self hiσ] at e2;cases e2
    exact⟨u,r,.inr ⟨.inl hk,c,hc,hc'⟩⟩
   ·rw[List.getElem?_set_ne (Ne.symm hj)] at e2;obtain⟨u',r',q⟩:=hl j y v' e1 e2 e3;refine⟨u',r',?_⟩;rcases q with q|⟨k,c',e,z'⟩
    ·exact .inl q
    ·refine .inr ⟨k,c',e,z'.sameBut hs ?_⟩;rintro rfl;exact hj (jX hN e1 (I.ok.inj _ _ _ e hc▸hi))
  ·by_cases hcc:c'=c
   ·subst hcc;exact⟨_,hc'⟩
   ·obtain⟨w2,z2⟩:=I.cell y c' e;exact⟨w2,z2.sameBut hs hcc⟩
  ·obtain⟨e,n,ne,nf,d⟩:=I.pin p hp;refine⟨(hs.2 p.1 ?_).trans e,n,ne,nf,d⟩;intro q;rw[q,hoc] at e;have q':oc=p.2:=Option.some.inj e;exact d w' (by rw[←q'];exact hocd)
theorem jY{M:Model}{A:Around}{E:Value->Shared->Prop}{i:Nat}{x:Str}{v:V}{u:Value}{Q:Unit->Shared->Prop}(I:Inv X pins σ H s)(hN:X.N.Nodup)(hi:X.N[i]? =some x)(hx:Loc X.env.scope x)(r:RelV v u)
  (h:∀s',Inv X pins (σ.set i (some v)) H s'->Q () s')(hf:X.fn x=true\/X.env.scope.names.lookup x=some .local:=by first | exact .inl rfl | exact .inr rfl | assumption):wpAny M A (storeName X.env x u) Q E s:=
 sv I hN hi hx r (fun s' I' _=>h s' I') hf
theorem Inv.zE{s':Shared}{ch:List Addr}(I:Inv X pins σ H s)(ho:s'.os=s.os)(u:Un (frs X.stack) ch H H' s.heap s'.heap)(hok:HOk X.prog X.w H' s'.heap)(hg:AllBare s'.gens)
  (hch:∀b∈ch,(b∈X.ex\/X.s₀.heap.objs.size<=b)/\b≠X.env.locals/\(∀x c,X.env.cells.lookup x=some c->c≠b)/\∀p∈X.pn++pins,p.1≠b):Inv X pins σ H' s':=by
 obtain⟨h',g',d',t',o'⟩:=s';have e:o'=s.os:=ho;subst e;exact I.call (g':=g') (t':=t') (d':=d') u hok hg hch
end
abbrev XK:=Value->Option Addr->Hp->Prop
abbrev St:=List (Option V)
abbrev VK:=V->Hp->Prop
abbrev TE:=St->Hp->VK->Prop
abbrev TT:=St->Hp->(Bool->Hp->Prop)->Prop
abbrev TA:=St->Hp->(List V->Hp->Prop)->Prop
structure Ends where
 nx:St->Hp->Prop
 rt:VK
 bk:St->Hp->Prop:=fun _ _=>False
 ct:St->Hp->Prop:=fun _ _=>False
abbrev TS:=Ends->St->Hp->Prop
def EP(X:Cx)(pins:List (Addr×Obj))(σ:St)(Q:VK)(u:Value)(s':Shared):Prop:=∃v H',Inv X pins σ H' s'/\RelV v u/\Q v H'
def TP(X:Cx)(pins:List (Addr×Obj))(σ:St)(Q:Bool->Hp->Prop)(b:Bool)(s':Shared):Prop:=∃H',Inv X pins σ H' s'/\Q b H'
def AP(X:Cx)(pins:List (Addr×Obj))(σ:St)(Q:List V->Hp->Prop)(us:List Value)(s':Shared):Prop:=∃vs H',Inv X pins σ H' s'/\Vals vs us/\Q vs H'
def SP(X:Cx)(pins:List (Addr×Obj))(D:Ends)(f:Flow)(s':Shared):Prop:=
 match f with
 |.next=>∃σ' H',Inv X pins σ' H' s'/\D.nx σ' H'
 |.brk=>∃σ' H',Inv X pins σ' H' s'/\D.bk σ' H'
 |.cont=>∃σ' H',Inv X pins σ' H' s'/\D.ct σ' H'
 |.ret u=>∃v σ' H',Inv X pins σ' H' s'/\RelV v u/\D.rt v H'
def PE(X:Cx)(e:Expr)(t:TE):Prop:=
 ∀(pins:List (Addr×Obj)) (s:Shared) (σ:St) (H:Hp) (Q:VK),Inv X pins σ H s->t σ H Q->wpAny (model X.prog X.w) X.A (eval e X.env) (EP X pins σ Q) X.xe s
def PT(X:Cx)(e:Expr)(t:TT):Prop:=
 ∀(pins:List (Addr×Obj)) (s:Shared) (σ:St) (H:Hp) (Q:Bool->Hp->Prop),Inv X pins σ H s->t σ H Q->wpAny (model X.prog X.w) X.A (isTrue e X.env (eval e X.env)) (TP X pins σ Q) X.xe s
def PW(X:Cx)(e:Expr)(t:TT):Prop:=
 ∀(whole:Sem Value) (pins:List (Addr×Obj)) (s:Shared) (σ:St) (H:Hp) (Q:Bool->Hp->Prop),Inv X pins σ H s->t σ H Q->wpAny (model X.prog X.w) X.A (isTrue e X.env whole) (TP X pins σ Q) X.xe s
theorem PW.pt{X:Cx}{e:Expr}{t:TT}(h:PW X e t):PT X e t:=h _
def PA(X:Cx)(es:List Expr)(t:TA):Prop:=
 ∀(pos:Pos) (pins:List (Addr×Obj)) (s:Shared) (σ:St) (H:Hp) (Q:List V->Hp->Prop),Inv X pins σ H s->t σ H Q->wpAny (model X.prog X.w) X.A (spliced (backTo pos (starEach es X.env))) (AP X pins σ Q) X.xe s
def PS(X:Cx)(st:Stmt)(t:TS):Prop:=
 ∀(pins:List (Addr×Obj)) (s:Shared) (σ:St) (H:Hp) (D:Ends),Inv X pins σ H s->t D σ H->wpAny (model X.prog X.w) X.A (exec st X.env) (SP X pins D) X.xe s
def PSs(X:Cx)(st:List Stmt)(t:TS):Prop:=
 ∀(pins:List (Addr×Obj)) (s:Shared) (σ:St) (H:Hp) (D:Ends),Inv X pins σ H s->t D σ H->wpAny (model X.prog X.w) X.A (execs st X.env) (SP X pins D) X.xe s
theorem thn{α:Type}{t:Sem α}{Q Q':α->Shared->Prop}{M:Model}{A:Around}{E:Value->Shared->Prop}{s:Shared}(h:wpAny M A t Q E s)(hQ:∀a s,Q a s->Q' a s):wpAny M A t Q' E s:=wpAny_mono h hQ fun _ _ x=>x
end L2
namespace L2
open PySem PySem.Spec PyProof.Rows
section
variable {X:Cx}
def nF(i:Nat):TE:=fun σ H Q=>∃v,σ[i]? =some (some v)/\Q v H
def tC(v:V):TE:=fun _ H Q=>Q v H
theorem sx{i:Nat}{x:Str}{pos:Pos}(hN:X.N[i]? =some x)(hv:Vis X.env.scope x)(hd:(x == ("__debug__":Str))=false:=by decide)(hcd:(x == ("__classdict__":Str))=false:=by decide):PE X (.Name x pos) (nF i):=by
 intro pins s σ H Q I h;obtain⟨v,e,h⟩:=h;obtain⟨m,hn,hl⟩:=I.loc;obtain⟨u,r,l⟩:=hl i x v hN e hv;have fin:EP X pins σ Q u s:=⟨v,H,I,r,h⟩;rcases l with ⟨hk,hm⟩|⟨hk,c,hc,hcell⟩
 ·exact wpAny_Name (wpAny_loadName_local I.ok.kind hk hn hm fin) hd
 ·rcases hk with hk|hk
  ·exact wpAny_Name (wpAny_loadName_cell I.ok.kind hk hc hcell fin) hd
  ·exact wpAny_Name (wpAny_loadName_free I.ok.kind hk hc hcell fin hcd) hd
theorem am{i j pos}:PE X (.Constant (.int i) j pos) (tC (.int i)):=fun _ _ _ H _ I h=>wpAny_Constant_int ⟨.int i,H,I.tok _,⟨_,rfl⟩,h⟩
theorem fF{b j pos}:PE X (.Constant (.bool b) j pos) (tC (.bl b)):=fun _ _ _ H _ I h=>Constant_bool ⟨.bl b,H,I,rfl,h⟩
theorem gs{j pos}:PE X (.Constant .none j pos) (tC .non):=fun _ _ _ H _ I h=>Constant_none ⟨.non,H,I,rfl,h⟩
theorem fN{x j pos}:PE X (.Constant (.str x) j pos) (tC (.str x)):=fun _ _ _ H _ I h=>Calls.Constant_str ⟨.str x,H,I.tok _,⟨_,rfl⟩,h⟩
def Gl(X:Cx)(x:Str):Prop:=X.env.kindOf x=some .globalImplicit
theorem pU{E:Value->Shared->Prop}{pins:List (Addr×Obj)}{s:Shared}{σ:St}{H:Hp}{x:Str}{u:Value}{pos:Pos}{Q:Value->Shared->Prop}(I:Inv X pins σ H s)(hg:Gl X x)(hm:X.mg x=some u)(h:Q u s)
  (hd:(x == ("__debug__":Str))=false:=by decide):wpAny (model X.prog X.w) X.A (eval (.Name x pos) X.env) Q E s:=
 Calls.Name_function_global I.ok.kind hg (Calls.loadGlobal_global (by rw[I.ok.glob];exact I.mod.glob.keeps I.bk) hm h) hd
theorem fO{E:Value->Shared->Prop}{pins:List (Addr×Obj)}{s:Shared}{σ:St}{H:Hp}{x:Str}{u:Value}{pos:Pos}{Q:Value->Shared->Prop}(I:Inv X pins σ H s)(hg:Gl X x)(hm:X.mg x=none)(hv:bootBuiltins x=some u)(h:Q u s)
  (hn:x≠"__name__":=by decide)(hd:(x == ("__debug__":Str))=false:=by decide):wpAny (model X.prog X.w) X.A (eval (.Name x pos) X.env) Q E s:=by
 obtain⟨mb,h1,h2⟩:=I.mod.blt;exact Calls.Name_function_global I.ok.kind hg (Calls.loadGlobal_builtin (by rw[I.ok.glob];exact I.mod.glob.keeps I.bk) hm (by rw[I.ok.blt];exact h1.keeps I.bk) ((h2 x hn).trans hv) h) hd
theorem bQ{x:Str}{v:V}{u:Value}{pos:Pos}(hg:Gl X x)(hm:X.mg x=some u)(r:RelV v u)(hd:(x == ("__debug__":Str))=false:=by decide):PE X (.Name x pos) (tC v):=
 fun _ _ _ H _ I h=>pU I hg hm ⟨v,H,I,r,h⟩ hd
theorem a9{x:Str}{v:V}{u:Value}{pos:Pos}(hg:Gl X x)(hm:X.mg x=none)(hv:bootBuiltins x=some u)(r:RelV v u)(hn:x≠"__name__":=by decide)(hd:(x == ("__debug__":Str))=false:=by decide):PE X (.Name x pos) (tC v):=
 fun _ _ _ H _ I h=>fO I hg hm hv ⟨v,H,I,r,h⟩ hn hd
variable {a b:Expr}{ta tb:TE}{pos:Pos}
def PC(X:Cx)(op:CmpOp)(a b:Expr)(t:TE):Prop:=
 ∀(pins:List (Addr×Obj)) (s:Shared) (σ:St) (H:Hp) (Q:VK),Inv X pins σ H s->t σ H Q->
  wpAny (model X.prog X.w) X.A (eval a X.env) (fun v s₁=>wpAny (model X.prog X.w) X.A (eval b X.env) (fun u s₂=>wpAny (model X.prog X.w) X.A (compareOp op v u) (EP X pins σ Q) X.xe s₂) X.xe s₁) X.xe s
def tB(t:TE):TT:=fun σ H Q=>t σ H fun x H1=>∃c,x=.bl c/\Q c H1
theorem yh{op:CmpOp}{t:TE}(h:PC X op a b t)(h1:behindInMarks op b=false:=by first | exact nobehind _ (by decide) (by decide) | rfl):PE X (.Compare a [op] [b] pos) t:=fun pins s σ H Q I hw=>wpAny_Compare1 (h pins s σ H Q I hw) h1
theorem gt{op:CmpOp}{t:TE}(h:PC X op a b t)(h1:behindInMarks op b=false:=by first | exact nobehind _ (by decide) (by decide) | rfl):PT X (.Compare a [op] [b] pos) (tB t):=by
 intro pins s σ H Q I hw;refine wpAny_isTrue_Compare1 (thn (h pins s σ H _ I hw) fun v s1 h1=>thn h1 fun u s2 h2=>thn h2 fun c s3 ⟨x,H1,I1,r1,q1⟩=>?_) h1;obtain⟨d,rfl,q⟩:=q1;cases r1
 exact wpAny_truthy_bool ⟨H1,I1,q⟩
theorem ba{e:Expr}{t:TE}(h:PE X e t)(he:∀whole,isTrue e X.env whole=(do let v ←whole;standAt e.pos;holding [v] (truthy v)):=by intro _;rfl):PT X e (tB t):=by
 intro pins s σ H Q I hw;refine isTrue_plain (thn (h pins s σ H _ I hw) fun v s1 ⟨x,H1,I1,r1,q1⟩=>?_) (he _);obtain⟨d,rfl,q⟩:=q1;cases r1
 exact wpAny_truthy_bool ⟨H1,I1,q⟩
variable {tA tB':TT}{rest:List Expr}
def Ak(t u:TT):TT:=fun σ H Q=>t σ H fun c H1=>if c=true then u σ H1 Q else Q false H1
def tOr(t u:TT):TT:=fun σ H Q=>t σ H fun c H1=>if c=true then Q true H1 else u σ H1 Q
def Al(t:TT):TT:=fun σ H Q=>t σ H fun c H1=>Q (!c) H1
theorem lC(ha:PT X a tA):PW X (.BoolOp .And [a] pos) tA:=by
 intro wh pins s σ H Q I h;refine isTrue_and (thn (ha pins s σ H Q I h) fun c s1 e=>?_);cases c with
 |true=>exact isTrue_and_nil e
 |false=>exact e
theorem c7(ha:PT X a tA):PW X (.BoolOp .Or [a] pos) tA:=by
 intro wh pins s σ H Q I h;refine isTrue_or (thn (ha pins s σ H Q I h) fun c s1 e=>?_);cases c with
 |false=>exact isTrue_or_nil e
 |true=>exact e
theorem nG(ha:PT X a tA)(hb:PW X (.BoolOp .And (b::rest) pos) tB'):PW X (.BoolOp .And (a::b::rest) pos) (Ak tA tB'):=by
 intro wh pins s σ H Q I h;refine isTrue_and (thn (ha pins s σ H _ I h) fun c s1 ⟨H1,I1,q1⟩=>?_);cases c with
 |true=>exact hb wh pins s1 σ H1 Q I1 q1
 |false=>exact⟨H1,I1,q1⟩
theorem ci(ha:PT X a tA)(hb:PW X (.BoolOp .Or (b::rest) pos) tB'):PW X (.BoolOp .Or (a::b::rest) pos) (tOr tA tB'):=by
 intro wh pins s σ H Q I h;refine isTrue_or (thn (ha pins s σ H _ I h) fun c s1 ⟨H1,I1,q1⟩=>?_);cases c with
 |true=>exact⟨H1,I1,q1⟩
 |false=>exact hb wh pins s1 σ H1 Q I1 q1
theorem b8(ha:PT X a tA):PT X (.UnaryOp .Not a pos) (Al tA):=by
 intro pins s σ H Q I h;exact isTrue_not (ha pins s σ H (fun c H1=>Q (!c) H1) I h)
def zF(ta tb:TE):TE:=fun σ H Q=>ta σ H fun x H1=>∃c,x=.bl c/\if c=true then tb σ H1 Q else Q (.bl false) H1
def Am(ta tb:TE):TE:=fun σ H Q=>ta σ H fun x H1=>∃c,x=.bl c/\if c=true then Q (.bl true) H1 else tb σ H1 Q
def zG(ta:TE):TE:=fun σ H Q=>ta σ H fun x H1=>∃c,x=.bl c/\Q (.bl (!c)) H1
theorem sC{op}{t:TE}(h:PE X a t):PE X (.BoolOp op [a] pos) t:=fun pins s σ H Q I hw=>BoolOp_one (h pins s σ H Q I hw)
theorem yi(ha:PE X a ta)(hb:PE X (.BoolOp .And (b::rest) pos) tb):PE X (.BoolOp .And (a::b::rest) pos) (zF ta tb):=by
 intro pins s σ H Q I h;refine BoolOp_and (thn (ha pins s σ H _ I h) fun v s1 ⟨x,H1,I1,r1,q1⟩=>?_);obtain⟨c,rfl,q1⟩:=q1;cases r1
 refine wpAny_truthy_bool ?_;cases c with
 |true=>exact hb pins s1 σ H1 Q I1 q1
 |false=>exact⟨.bl false,H1,I1,rfl,q1⟩
theorem zH(ha:PE X a ta)(hb:PE X (.BoolOp .Or (b::rest) pos) tb):PE X (.BoolOp .Or (a::b::rest) pos) (Am ta tb):=by
 intro pins s σ H Q I h;refine BoolOp_or (thn (ha pins s σ H _ I h) fun v s1 ⟨x,H1,I1,r1,q1⟩=>?_);obtain⟨c,rfl,q1⟩:=q1;cases r1
 refine wpAny_truthy_bool ?_;cases c with
 |false=>exact hb pins s1 σ H1 Q I1 q1
 |true=>exact⟨.bl true,H1,I1,rfl,q1⟩
theorem sE(ha:PE X a ta):PE X (.UnaryOp .Not a pos) (zG ta):=by
 intro pins s σ H Q I h;refine UnaryOp_ (thn (ha pins s σ H _ I h) fun v s1 ⟨x,H1,I1,r1,q1⟩=>?_);obtain⟨c,rfl,q1⟩:=q1;cases r1
 exact not_of (wpAny_truthy_bool ⟨.bl (!c),H1,I1,rfl,q1⟩)
def tIf(t:TT)(ta tb:TE):TE:=fun σ H Q=>t σ H fun c H1=>if c=true then ta σ H1 Q else tb σ H1 Q
theorem jZ{c:Expr}(hc:PT X c tA)(ha:PE X a ta)(hb:PE X b tb):PE X (.IfExp c a b pos) (tIf tA ta tb):=by
 intro pins s σ H Q I h;refine wpAny_IfExp (thn (hc pins s σ H _ I h) fun d s1 ⟨H1,I1,q1⟩=>?_);cases d with
 |true=>exact ha pins s1 σ H1 Q I1 q1
 |false=>exact hb pins s1 σ H1 Q I1 q1
end
end L2
namespace L2
open PySem PySem.Spec PyProof.Rows
def SqL(K:PySem.W.Frag)(H:Hp)(a:Addr)(xs:List V):Prop:=
 Rd H a (.lst xs)\/
  ∃(o:Obj) (its:Array Value) (n:Nat),K.lookup a=some o/\o.cls=.type "list"/\o.dict=none/\o.data=.seq its n/\its.size<=sizeLine/\Vals xs its.toList
def SqT(K:PySem.W.Frag)(H:Hp)(a:Addr)(xs:List V):Prop:=
 Rd H a (.tup xs)\/
  ∃(o:Obj) (its:Array Value) (n:Nat),K.lookup a=some o/\o.cls=.type "tuple"/\o.data=.seq its n/\its.size<=sizeLine/\Vals xs its.toList
def An:Value->Option V
 |.none=>some .non
 |.bool b=>some (.bl b)
 |.int i _=>some (.int i)
 |.str x _=>some (.str x)
 |.bytes b _=>some (.byt b)
 |.float b _=>some (.flt b)
 |.ref a=>some (.ref a)
 |.type n=>some (.ty n)
 |_=>none
theorem RelV.abs{x:V}{u:Value}(r:RelV x u):An u=some x:=by
 cases x with
 |non=>cases r;rfl
 |bl _=>cases r;rfl
 |int _=>obtain⟨t,rfl⟩:=r;rfl
 |str _=>obtain⟨t,rfl⟩:=r;rfl
 |byt _=>obtain⟨t,rfl⟩:=r;rfl
 |flt _=>obtain⟨t,rfl⟩:=r;rfl
 |ref _=>cases r;rfl
 |ty _=>cases r;rfl
theorem RelV.inj{x y:V}{u:Value}(r:RelV x u)(q:RelV y u):x=y:=Option.some.inj (r.abs.symm.trans q.abs)
theorem Vals.inj:∀{xs ys:List V} {us:List Value},Vals xs us->Vals ys us->xs=ys
 |_,_,_,.nil,.nil=>rfl
 |_,_,_,.cons r t,.cons r' t'=>by rw[r.inj r',Vals.inj t t']
section
variable {X:Cx}{pins:List (Addr×Obj)}{σ:St}{H:Hp}{s:Shared}{a:Addr}{xs ys:List V}
theorem SqL.of{K:PySem.W.Frag}(h:H a=some (.lst xs)):SqL K H a xs:=.inl (.inl h)
theorem SqT.of{K:PySem.W.Frag}(h:H a=some (.tup xs)):SqT K H a xs:=.inl (.inl h)
theorem Inv.list(I:Inv X pins σ H s)(h:SqL X.K H a xs):∃its:List Value,Vals xs its/\PlainL s.heap a its.toArray/\xs.length<=sizeLine:=by
 rcases h with h|⟨o,its,n,hk,hc,hd,hs,hz,r⟩
 ·obtain⟨z,its,n,r,e⟩:=h.ok I.hok;exact⟨its,r,⟨_,n,e,rfl,rfl,rfl⟩,z⟩
 ·refine⟨its.toList,r,⟨o,n,I.kIn a o hk,hc,hd,by simpa using hs⟩,?_⟩;have e:=r.length;simp only[Array.length_toList] at e;omega
theorem Inv.tuple(I:Inv X pins σ H s)(h:SqT X.K H a xs):∃its:List Value,Vals xs its/\IsTup s.heap a its.toArray/\xs.length<=sizeLine:=by
 rcases h with h|⟨o,its,n,hk,hc,hs,hz,r⟩
 ·obtain⟨z,its,r,p⟩:=h.ok I.hok;exact⟨its,r,p,z⟩
 ·refine⟨its.toList,r,⟨o,I.kIn a o hk,hc,n,by simpa using hs⟩,?_⟩;have e:=r.length;simp only[Array.length_toList] at e;omega
theorem Inv.nH(I:Inv X pins σ H s)(h:SqL X.K H a xs)(h':SqL X.K H a ys):xs=ys:=by
 obtain⟨its,r,⟨o,n,e,_,_,d⟩,_⟩:=I.list h;obtain⟨its',r',⟨o',n',e',_,_,d'⟩,_⟩:=I.list h';rw[e] at e';cases e';rw[d] at d';injection d' with d1 _;have:its=its':=by simpa using congrArg Array.toList d1
 subst this;exact r.inj r'
end
abbrev Cx.g7(X:Cx)(E:Value->Shared->Prop):Cx:={X with xe:=E}
abbrev Cx.nox(X:Cx):Cx:=X.g7 fun _ _=>False
theorem Cx.Ok.g7{X:Cx}(ok:X.Ok)(E:Value->Shared->Prop):(X.g7 E).Ok:=
 ⟨ok.mod,ok.kind,ok.glob,ok.blt,ok.above,ok.inj,ok.has,ok.cab,ok.hd,ok.frames,ok.stk,ok.exf,ok.bs,ok.bsz,ok.noex,ok.exfs,ok.fZ,ok.frf⟩
theorem Cx.Ok.fP{X:Cx}{E:Value->Shared->Prop}(ok:(X.g7 E).Ok):X.Ok:=
 ⟨ok.mod,ok.kind,ok.glob,ok.blt,ok.above,ok.inj,ok.has,ok.cab,ok.hd,ok.frames,ok.stk,ok.exf,ok.bs,ok.bsz,ok.noex,ok.exfs,ok.fZ,ok.frf⟩
section
variable {X:Cx}{pins:List (Addr×Obj)}{σ:St}{H:Hp}{s:Shared}{E:Value->Shared->Prop}
theorem Inv.g7(I:Inv X pins σ H s)(E:Value->Shared->Prop):Inv (X.g7 E) pins σ H s:=⟨I.ok.g7 E,I.os,I.bare,I.base,I.loc,I.cell,I.free,I.freeC,I.pin,I.hok,I.len⟩
theorem Inv.fP(I:Inv (X.g7 E) pins σ H s):Inv X pins σ H s:=⟨I.ok.fP,I.os,I.bare,I.base,I.loc,I.cell,I.free,I.freeC,I.pin,I.hok,I.len⟩
theorem SP.fP{D:Ends}{f:Flow}{s':Shared}(h:SP (X.g7 E) pins D f s'):SP X pins D f s':=by
 cases f with
 |next=>obtain⟨σ',H',I,q⟩:=h;exact⟨σ',H',I.fP,q⟩
 |brk=>obtain⟨σ',H',I,q⟩:=h;exact⟨σ',H',I.fP,q⟩
 |cont=>obtain⟨σ',H',I,q⟩:=h;exact⟨σ',H',I.fP,q⟩
 |ret u=>obtain⟨v,σ',H',I,r,q⟩:=h;exact⟨v,σ',H',I.fP,r,q⟩
theorem PSs.nox{st:List Stmt}{t:TS}(h:PSs X.nox st t):PSs X st t:=fun pins s σ H D I hw=>
 wpAny_mono (h pins s σ H D (I.g7 _) hw) (fun _ _ q=>q.fP) fun _ _ z=>False.elim z
end
section
variable {X:Cx}{st:Stmt}{rest:List Stmt}{t u:TS}{e:Expr}{te:TE}{pos:Pos}
def wL:TS:=fun D σ H=>D.nx σ H
def uD(t u:TS):TS:=fun D σ H=>t {D with nx:=u D} σ H
theorem aT:PSs X [] wL:=fun _ _ σ H _ I h=>wpAny_execs_nil ⟨σ,H,I,h⟩
theorem af(h1:PS X st t)(h2:PSs X rest u):PSs X (st::rest) (uD t u):=by
 intro pins s σ H D I h;refine wpAny_execs_cons (thn (h1 pins s σ H {D with nx:=u D} I h) fun f s1 q=>?_);cases f with
 |next=>
  obtain⟨σ',H',I',q⟩:=q;exact h2 pins s1 σ' H' D I' q
 |ret v=>exact q
 |brk=>exact q
 |cont=>exact q
theorem ag(h1:PS X st t):PSs X [st] t:=by
 intro pins s σ H D I h;refine wpAny_execs_cons (thn (h1 pins s σ H D I h) fun f s1 q=>?_);cases f with
 |next=>exact wpAny_execs_nil q
 |ret v=>exact q
 |brk=>exact q
 |cont=>exact q
def yj:TS:=fun D σ H=>D.bk σ H
theorem uF:PS X (.Break pos) yj:=fun _ _ σ H _ I h=>wpAny_Break ⟨σ,H,I,h⟩
theorem Inv.quiet{pins:List (Addr×Obj)}{σ:St}{H:Hp}{s:Shared}(I:Inv X pins σ H s):interactive X.env=false:=by simp[interactive,I.ok.kind]
def wM(te:TE):TS:=fun D σ H=>te σ H fun _ H1=>D.nx σ H1
theorem bv(he:PE X e te)(hs:swapsWith e none pos.line X.env=pure false:=by rfl):PS X (.Expr e pos) (wM te):=by
 intro pins s σ H D I h;exact wpAny_Expr_any (thn (he pins s σ H _ I h) fun v s1 ⟨x,H1,I1,r1,q1⟩=>⟨σ,H1,I1,q1⟩) I.quiet hs
def yk(te:TE):TS:=fun D σ H=>te σ H D.rt
theorem aQ(he:PE X e te):PS X (.Return (some e) pos) (yk te):=by
 intro pins s σ H D I h;exact wpAny_Return_some (thn (he pins s σ H _ I h) fun v s1 ⟨x,H1,I1,r1,q1⟩=>⟨x,σ,H1,I1,r1,q1⟩)
def yl(c:TT)(t u:TS):TS:=fun D σ H=>c σ H fun b H1=>if b=true then t D σ H1 else u D σ H1
theorem a7{c:Expr}{a b:List Stmt}{tc:TT}(hc:PT X c tc)(ha:PSs X a t)(hb:PSs X b u):PS X (.If c a b pos) (yl tc t u):=by
 intro pins s σ H D I h;refine wpAny_If (thn (hc pins s σ H _ I h) fun d s1 ⟨H1,I1,q1⟩=>?_);cases d with
 |true=>exact ha pins s1 σ H1 D I1 q1
 |false=>exact hb pins s1 σ H1 D I1 q1
def ym:TS:=fun _ _ _=>False
theorem a8{sts:List Stmt}:PSs X sts ym:=fun _ _ _ _ _ _ h=>h.elim
end
abbrev TG:=V->St->Hp->(St->Hp->Prop)->Prop
abbrev TGs:=List V->St->Hp->(St->Hp->Prop)->Prop
def PG(X:Cx)(target:Expr)(t:TG):Prop:=
 ∀(pins:List (Addr×Obj)) (s:Shared) (σ:St) (H:Hp) (v:V) (u:Value) (Q:St->Hp->Prop),Inv X pins σ H s->RelV v u->t v σ H Q->
  wpAny (model X.prog X.w) X.A (assign target X.env u) (fun _ s'=>∃σ' H',Inv X pins σ' H' s'/\Q σ' H') X.xe s
def PGs(X:Cx)(ts:List Expr)(t:TGs):Prop:=
 ∀(pins:List (Addr×Obj)) (s:Shared) (σ:St) (H:Hp) (vs:List V) (us:List Value) (Q:St->Hp->Prop),Inv X pins σ H s->Vals vs us->t vs σ H Q->
  wpAny (model X.prog X.w) X.A (assignInOrder ((assignEach ts X.env).map (·.2)) us) (fun _ s'=>∃σ' H',Inv X pins σ' H' s'/\Q σ' H') X.xe s
section
variable {X:Cx}{pos:Pos}
def jv(i:Nat):TG:=fun v σ H Q=>Q (σ.set i (some v)) H
theorem az{i:Nat}{x:Str}(hN:X.N.Nodup)(hi:X.N[i]? =some x)(hx:Loc X.env.scope x)(hf:X.fn x=true\/X.env.scope.names.lookup x=some .local:=by first | exact .inl rfl | exact .inr rfl | assumption):PG X (.Name x pos) (jv i):=by
 intro pins s σ H v u Q I r h;exact wpAny_assign_Name (jY I hN hi hx r (fun s' I'=>⟨_,H,I',h⟩) hf)
def Ao:TGs:=fun vs σ H Q=>vs=[]/\Q σ H
def zI(t:TG)(u:TGs):TGs:=fun vs σ H Q=>∃v r,vs=v::r/\t v σ H fun σ' H'=>u r σ' H' Q
theorem cp:PGs X [] Ao:=by
 intro pins s σ H vs us Q I r h;obtain⟨e,h⟩:=h;subst e;cases r
 exact assignInOrder_nil ⟨σ,H,I,h⟩
theorem aN{e:Expr}{es:List Expr}{t:TG}{u:TGs}(h1:PG X e t)(h2:PGs X es u)
  (hs:(assignEach (e::es) X.env).map (·.2)=assign e X.env::(assignEach es X.env).map (·.2):=by rfl):PGs X (e::es) (zI t u):=by
 intro pins s σ H vs us Q I r h;obtain⟨v,vr,e1,h⟩:=h;subst e1;cases r with
 |cons r rr=>
  rw[hs];refine assignInOrder_cons (thn (h1 pins s σ H _ _ _ I r h) fun _ s1 ⟨σ1,H1,I1,q1⟩=>?_);exact h2 pins s1 σ1 H1 _ _ Q I1 rr q1
def yn(K:PySem.W.Frag)(n:Nat)(t:TGs):TG:=fun v σ H Q=>∃a xs,v=.ref a/\SqT K H a xs/\xs.length=n/\t xs σ H Q
theorem cT{es:List Expr}{k:Nat}{t:TGs}{n:Nat}(hc:X.calm=true)(h:PGs X es t)
  (hn:(assignEach es X.env).length=n:=by rfl)(hst:(assignEach es X.env).findIdx? (·.1)=none:=by rfl):PG X (.Tuple es k pos) (yn X.K n t):=by
 intro pins s σ H v u Q I r hw;obtain⟨a,xs,e1,hq,hl,hw⟩:=hw;subst e1;cases r
 obtain⟨its,rv,ht,hz⟩:=I.tuple hq;refine assign_Tuple_tuple (I.ok.hd hc) ht (by simp[hn,←hl,rv.length]) hst fun h' hx=>?_
 have I1:Inv X pins σ H {s with heap:=h'}:=I.kept (t':=s.toks) fun b o e=>hx b o (Nat.ne_of_lt (Heap.lt_size e)) e
 exact h pins _ σ H xs _ Q I1 (by simpa using rv) hw
def qz(te:TE)(g:TG):TS:=fun D σ H=>te σ H fun x H1=>g x σ H1 D.nx
theorem nI{tg e:Expr}{te:TE}{g:TG}(he:PE X e te)(hg:PG X tg g)(hs:swapsWithSole [tg] e pos.line X.env=pure false:=by rfl)(hw:swappedStores [tg] e X.env=pure none:=by rfl)
  (h1:(assignEach [tg] X.env).map (·.2)=[assign tg X.env]:=by rfl):PS X (.Assign [tg] e pos) (qz te g):=by
 intro pins s σ H D I h;refine wpAny_Assign_stores (thn (he pins s σ H _ I h) fun v s1 ⟨x,H1,I1,r1,q1⟩=>?_) hs hw;rw[h1];exact thn (hg pins s1 σ H1 x v _ I1 r1 q1) fun _ s2 q=>q
theorem aq{i:Nat}{x:Str}{e:Expr}{te:TE}{pos':Pos}(hN:X.N.Nodup)(hi:X.N[i]? =some x)(hx:Loc X.env.scope x)(he:PE X e te)(hs:swapsWith e (some (.Name x pos')) pos.line X.env=pure false:=by rfl)(hf:X.fn x=true\/X.env.scope.names.lookup x=some .local:=by first | exact .inl rfl | exact .inr rfl | assumption) :
  PS X (.Assign [.Name x pos'] e pos) (qz te (jv i)):=by
 intro pins s σ H D I h;refine wpAny_Assign_Name (thn (he pins s σ H _ I h) fun v s1 ⟨y,H1,I1,r1,q1⟩=>?_) hs;exact jY I1 hN hi hx r1 (fun s2 I2=>⟨_,H1,I2,q1⟩) hf
end
section
variable {X:Cx}{pos:Pos}
def yo(c:TT)(tb:TS):TS:=fun D σ H=>∃W:Nat->St->Hp->Prop,(∃m,W m σ H)/\∀m σ H,W m σ H->
 c σ H fun b H1=>if b=true then ∃N:St->Hp->Prop,(∀σ' H',N σ' H'->∃m',m'<m/\W m' σ' H')/\tb {D with nx:=N,ct:=N,bk:=D.nx} σ H1 else D.nx σ H1
theorem dS{c:Expr}{body:List Stmt}{tc:TT}{tb:TS}(hp:PassesOwn (model X.prog X.w) X.A X.env X.xe)(hc:PT X c tc)(hb:PSs X body tb):PS X (.While c body [] pos) (yo tc tb):=by
 intro pins s σ H D I h;obtain⟨W,⟨m0,w0⟩,turn⟩:=h;refine wpAny_While (codeAny_whileLoop (fun n s'=>∃σ' H',Inv X pins σ' H' s'/\W n σ' H') ?_ m0 ⟨σ,H,I,w0⟩);rintro n s1 ⟨σ1,H1,I1,w1⟩;refine wpAny_passesOwn hp (thn (hc pins s1 σ1 H1 _ I1 (turn n σ1 H1 w1)) fun b s2 ⟨H2,I2,q2⟩=>?_);cases b with
 |true=>
  obtain⟨N,hN,q2⟩:=q2;rw[if_pos rfl];refine wpAny_passesOwn hp (thn (hb pins s2 σ1 H2 _ I2 q2) fun f s3 q3=>?_);cases f with
  |next=>
   obtain⟨σ3,H3,I3,n3⟩:=q3;obtain⟨m',hm,w3⟩:=hN σ3 H3 n3;exact⟨m',hm,σ3,H3,I3,w3⟩
  |cont=>
   obtain⟨σ3,H3,I3,n3⟩:=q3;obtain⟨m',hm,w3⟩:=hN σ3 H3 n3;exact⟨m',hm,σ3,H3,I3,w3⟩
  |brk=>exact q3
  |ret v=>exact q3
 |false=>
  rw[if_neg Bool.false_ne_true];exact wpAny_execs_nil ⟨σ1,H2,I2,q2⟩
end
structure It where
 go:Nat->Hp->Prop
 yld:Nat->Hp->V->Hp->Prop
 stop:Nat->Hp->Prop
def cJ(X:Cx)(pins:List (Addr×Obj))(H:Hp)(b:Addr):Prop:=
 H b=none/\b≠X.env.locals/\b ∉ X.fs/\(b∈X.ex\/X.s₀.heap.objs.size<=b)/\(∀x c,X.env.cells.lookup x=some c->c≠b)/\∀p∈X.pn++pins,p.1≠b
theorem Inv.g8{X:Cx}{pins:List (Addr×Obj)}{σ:St}{H H':Hp}{s:Shared}{b:Addr}(I:Inv X pins σ H s)(hb:s.heap.objs.size<=b)(hn:H' b=none):cJ X pins H' b:=by
 refine⟨hn,Nat.ne_of_gt (Nat.lt_of_lt_of_le I.lt hb),I.Aj hb,.inr (Nat.le_trans I.sz hb),fun x c e z=>?_,fun p hp z=>?_⟩
 ·obtain⟨v,q⟩:=I.cell x c e;exact absurd (Nat.lt_of_lt_of_le q.lt (by rw[z];exact hb)) (Nat.lt_irrefl _)
 ·exact absurd (Nat.lt_of_lt_of_le (Heap.lt_size (I.pin p hp).1) (by rw[z];exact hb)) (Nat.lt_irrefl _)
structure Turn(P:Program)(w:World)(K:PySem.W.Frag)(tg:Expr)(J:It)(fp:List Addr)(it:Addr)(tn:Nat->Heap->Prop):Prop where
 mem:it∈fp
 obj:∀i h,tn i h->∀b∈fp,∃o,h.get? b=some o/\∀v,o.data≠.cell v
 keep:∀i h h',tn i h->(∀b∈fp,∀o,h.get? b=some o->h'.get? b=some o)->tn i h'
 item:∀(X:Cx),X.prog=P->X.w=w->X.K=K->X.calm=true->∀(i:Nat) (pins:List (Addr×Obj)) (s:Shared) (σ:St) (H:Hp) (E:Value->Shared->Prop),Inv X pins σ H s->(∀b∈fp,cJ X pins H b)->tn i s.heap->J.go i H->
  wpAny (model P w) X.A (pyNext (.ref it)) (fun r s1=>∃u,r=some u/\
   wpAny (model P w) X.A (letOwnedTupleGo tg (.ref it) u) (fun _ s2=>∃x H',Inv X pins σ H' s2/\RelV x u/\J.yld i H x H'/\tn (i+1) s2.heap/\∀b∈fp,H' b=none) E s1) E s
 done:∀(X:Cx),X.prog=P->X.w=w->X.K=K->X.calm=true->∀(i:Nat) (pins:List (Addr×Obj)) (s:Shared) (σ:St) (H:Hp) (E:Value->Shared->Prop),Inv X pins σ H s->(∀b∈fp,cJ X pins H b)->tn i s.heap->J.stop i H->
  wpAny (model P w) X.A (pyNext (.ref it)) (fun r s1=>r=none/\Inv X pins σ H s1) E s
 self:∀(A:Around) (i:Nat) (s:Shared) (Q:Value->Shared->Prop) (E:Value->Shared->Prop),tn i s.heap->Q (.ref it) s->wpAny (model P w) A (pyIter (.ref it)) Q E s
abbrev TI:=St->Hp->(It->Hp->Prop)->Prop
def PIE(X:Cx)(pins:List (Addr×Obj))(σ:St)(tg:Expr)(R:It->Hp->Prop)(itv:Value)(s2:Shared):Prop:=
 ∃(it:Addr) (fp:List Addr) (tn:Nat->Heap->Prop) (J:It) (H':Hp),itv=.ref it/\Inv X pins σ H' s2/\Turn X.prog X.w X.K tg J fp it tn/\tn 0 s2.heap/\(∀b∈fp,cJ X pins H' b)/\R J H'
def PI(X:Cx)(tg iter:Expr)(wi:TI):Prop:=
 ∀(pins:List (Addr×Obj)) (s:Shared) (σ:St) (H:Hp) (R:It->Hp->Prop),Inv X pins σ H s->wi σ H R->
  wpAny (model X.prog X.w) X.A (eval iter X.env) (fun v s1=>wpAny (model X.prog X.w) X.A (pyIter v) (PIE X pins σ tg R) X.xe s1) X.xe s
theorem qA{M:Model}{A:Around}{E:Value->Shared->Prop}{s:Shared}{tg:Expr}{it:Addr}{u:Value}{o:Obj}{n:String}{vs:Array Value}{Q:Unit->Shared->Prop}(ho:s.heap.get? it=some o)(hc:o.cls=.type n)(hd:o.data=.fields vs)
  (hn:["enumerate","zip","dict_itemiterator","dict_reverseitemiterator","odict_iterator","itertools.zip_longest","itertools.pairwise"].contains n=false)(hQ:Q () s):wpAny M A (letOwnedTupleGo tg (.ref it) u) Q E s:=by
 unfold letOwnedTupleGo;cases tg <;> first
  |exact wpAny_pure hQ
  |(cases u <;> first
    |exact wpAny_pure hQ
    |(refine wpAny_bind (wpAny_load ho ?_);rw[hc,hd];show wpAny M A (if (["enumerate","zip","dict_itemiterator","dict_reverseitemiterator","odict_iterator","itertools.zip_longest","itertools.pairwise"].contains n && vs[0]? == some (rawInt _))=true then _ else _) Q E s;rw[if_neg (by intro h;rw[hn,Bool.false_and] at h;cases h)];exact wpAny_pure hQ))
def Itl(K:PySem.W.Frag)(a:Addr):It:=
 ⟨fun i H=>∃xs x,SqL K H a xs/\xs[i]? =some x,fun i H x H'=>H'=H/\∀xs,SqL K H a xs->xs[i]? =some x,fun i H=>∃xs,SqL K H a xs/\xs.length<=i⟩
def Itr(lo:Int)(n:Nat):It:=⟨fun i _=>i<n,fun i H x H'=>H'=H/\x=.int (lo+i),fun i _=>n<=i⟩
theorem sF{P:Program}{w:World}{K:PySem.W.Frag}{tg:Expr}(a it:Addr):Turn P w K tg (Itl K a) [it] it (fun i h=>h.IsListIter it a i) where
 mem:=by simp
 obj:=fun i h st b hb=>by
  have e:b=it:=by simpa using hb
  subst e;obtain⟨o,e,c,d⟩:=st;exact⟨o,e,fun v z=>by rw[d] at z;cases z⟩
 keep:=fun i h h' st k=>st.at fun o e=>k it (by simp) o e
 item:=by
  intro X hP hw hK hc i pins s σ H E I hf st hg;subst hP hw hK;obtain⟨xs,x,hq,hx⟩:=hg;obtain⟨its,rv,p,hz⟩:=I.list hq;obtain⟨u,hu,ru⟩:=rv.get hx;obtain⟨f0,f1,f2,f3,f4,f5⟩:=hf it (by simp);refine wpAny_pyNext_list_item st p.isList (x:=u) (by simpa using hu) fun h' st' sb=>?_
  have I1:Inv X pins σ H {s with heap:=h'}:=I.turned (t':=s.toks) (fun b o hb e=>(sb.2 b hb).trans e) f0 f1 f3 f4 f5;obtain⟨o,e,c,d⟩:=id st';exact⟨u,rfl,qA (s:={s with heap:=h'}) e c d (by decide) ⟨x,H,I1,ru,⟨rfl,fun ys hy=>by rw[I.nH hy hq];exact hx⟩,st',fun b hb=>(hf b hb).1⟩⟩
 done:=by
  intro X hP hw hK hc i pins s σ H E I hf st hg;subst hP hw hK;obtain⟨xs,hq,hx⟩:=hg;obtain⟨its,rv,p,hz⟩:=I.list hq;obtain⟨f0,f1,f2,f3,f4,f5⟩:=hf it (by simp);have hl:=rv.length;exact wpAny_pyNext_list_end (I.ok.hd hc) st p.isList (by simp;omega) fun h' eb=>⟨rfl,I.turned (t':=s.toks) (fun b o hb e=>eb b o hb e) f0 f1 f3 f4 f5⟩
 self:=fun _ _ _ _ _ st h=>wpAny_pyIter_listiter st h
theorem qB{P:Program}{w:World}{K:PySem.W.Frag}{tg:Expr}(it:Addr)(lo:Int)(n:Nat):Turn P w K tg (Itr lo n) [it] it (fun i h=>IsRangeIter h it (lo+(i:Nat)*1) ((n:Int) - (i:Nat)) 1) where
 mem:=by simp
 obj:=fun i h st b hb=>by
  have e:b=it:=by simpa using hb
  subst e;exact⟨_,st,fun v z=>by
   have z':Data.fields _=Data.cell v:=z;cases z'⟩
 keep:=fun i h h' st k=>k it (by simp) _ st
 item:=by
  intro X hP hw hK hc i pins s σ H E I hf st hg;subst hP hw hK;obtain⟨f0,f1,f2,f3,f4,f5⟩:=hf it (by simp);have W:=Walks.range (prog:=X.prog) (w:=X.w) (I.ok.hd hc) it lo 1 n;refine W.item i s _ _ hg st fun v h' tk hv st' kk=>?_
  obtain⟨t,rfl⟩:=hv;have I1:Inv X pins σ H {s with heap:=h',toks:=tk}:=I.turned (fun b o hb e=>kk b o (by simpa using hb) e) f0 f1 f3 f4 f5;refine⟨_,rfl,qA (s:={s with heap:=h',toks:=tk}) (n:="range_iterator") st' rfl rfl (by decide) ⟨.int (lo+i),H,I1,⟨t,?_⟩,⟨rfl,rfl⟩,st',fun b hb=>(hf b hb).1⟩⟩;rw[Int.mul_one]
 done:=by
  intro X hP hw hK hc i pins s σ H E I hf st hg;subst hP hw hK;obtain⟨f0,f1,f2,f3,f4,f5⟩:=hf it (by simp);exact wpAny_pyNext_range_end (I.ok.hd hc) st (by have:n<=i:=hg;omega) fun h' eb=>⟨rfl,I.turned (t':=s.toks) (fun b o hb e=>eb b o hb e) f0 f1 f3 f4 f5⟩
 self:=fun _ _ _ _ _ st h=>wpAny_pyIter_rangeiter st h
end L2
namespace L2
open PySem PySem.Spec PyProof.Rows
section
variable {X:Cx}{tg:Expr}
def zJ(K:PySem.W.Frag)(tl:TE):TI:=fun σ H R=>tl σ H fun x H1=>∃a,x=.ref a/\(∃xs,SqL K H1 a xs)/\R (Itl K a) H1
theorem aO{l:Expr}{tl:TE}(hl:PE X l tl):PI X tg l (zJ X.K tl):=by
 intro pins s σ H R I h;refine thn (hl pins s σ H _ I h) fun v s1 ⟨x,H1,I1,r1,q1⟩=>?_
 obtain⟨a,e,⟨xs,hq⟩,q⟩:=q1;subst e;cases r1
 obtain⟨its,rv,p,hz⟩:=I1.list hq;refine wpAny_pyIter_list p.isList ?_;refine⟨s1.heap.objs.size,[s1.heap.objs.size],_,_,H1,rfl,I1.kept (t':=s1.toks) fun b o e=>aaf _ e,sF a _,⟨_,aay _ rfl,rfl,rfl⟩,fun b hb=>?_,q⟩;have e:b=s1.heap.objs.size:=by simpa using hb
 subst e;exact I1.g8 (Nat.le_refl _) (I1.hok.fresh (Nat.le_refl _))
theorem uG{pins:List (Addr×Obj)}{σ:St}{H:Hp}{s:Shared}{R:It->Hp->Prop}{E:Value->Shared->Prop}{lo hi:Int}{t u v:Tok}{tk:Nat}(I:Inv X pins σ H s)(h1:-(2 ^ 62)<=lo)(h2:lo<2 ^ 62)(h3:-(2 ^ 62)<=hi)(h4:hi<2 ^ 62)
  (q:R (Itr lo (hi - lo).toNat) H):wpAny (model X.prog X.w) X.A (pyIter (.ref s.heap.objs.size)) (PIE X pins σ tg R) E {s with heap:=s.heap.push {cls:=.type "range",data:=.fields #[.int lo t,.int hi u,.int 1 v]},toks:=tk}:=by
 refine wpAny_pyIter_range (IsRange.new ..) (small_one h1 h2 h3 h4) ?_;have I1:Inv X pins σ H {s with heap:=s.heap.push {cls:=.type "range",data:=.fields #[.int lo t,.int hi u,.int 1 v]},toks:=tk}:=I.kept fun b o e=>aaf _ e
 refine⟨(s.heap.push {cls:=.type "range",data:=.fields #[.int lo t,.int hi u,.int 1 v]}).objs.size,[(s.heap.push {cls:=.type "range",data:=.fields #[.int lo t,.int hi u,.int 1 v]}).objs.size],_,_,H,rfl,
  I1.kept (t':=tk) fun b o e=>aaf _ e,qB _ lo (hi - lo).toNat,?_,fun b hb=>?_,q⟩
 ·have e1:lo+((0:Nat):Int)*1=lo:=by simp
  have e2:(((hi - lo).toNat:Nat):Int) - ((0:Nat):Int)=Builtin.Range.rangeSize lo hi 1:=by rw[rangeSize_one];split <;> omega
  show IsRangeIter _ _ (lo+((0:Nat):Int)*1) ((((hi - lo).toNat:Nat):Int) - ((0:Nat):Int)) 1;rw[e1,e2];exact aay _ rfl
 ·have e:b=(s.heap.push {cls:=.type "range",data:=.fields #[.int lo t,.int hi u,.int 1 v]}).objs.size:=by simpa using hb
  subst e;exact I1.g8 (Nat.le_refl _) (I1.hok.fresh (Nat.le_refl _))
def zK(ta:TA):TI:=fun σ H R=>ta σ H fun vs H1=>∃j:Int,vs=[.int j]/\-(2 ^ 62)<=j/\j<2 ^ 62/\R (Itr 0 j.toNat) H1
theorem gG{a:Expr}{ta:TA}{p pos:Pos}(hg:Gl X "range")(hm:X.mg "range"=none)(ha:PA X [a] ta)(hs:starEach [a] X.env=[(false,eval a X.env)]:=by rfl):PI X tg (.Call (.Name "range" p) [a] [] pos) (zK ta):=by
 intro pins s σ H R I h;refine Call_ (fO I hg hm boot_range (PyProof.Rows.callWith_type1 (thn (ha pos pins s σ H _ I h) fun us s1 ⟨vs,H1,I1,r1,q1⟩=>?_) hs rfl));obtain⟨j,e,q1,q2,q⟩:=q1;subst e;cases r1 with
 |cons r rr=>
  cases rr
  obtain⟨t,rfl⟩:=r;exact call_range_1 (uG I1 (by omega) (by omega) q1 q2 (by simpa using q))
def yp(wi:TI)(g:TG)(tb:TS):TS:=fun D σ H=>wi σ H fun J H1=>∃W:Nat->Nat->St->Hp->Prop,(∃m,W 0 m σ H1)/\∀i m σ H,W i m σ H->
 (J.stop i H/\D.nx σ H)\/(J.go i H/\∃N:St->Hp->Prop,(∀σ' H',N σ' H'->∃m',m'<m/\W (i+1) m' σ' H')/\∀x H',J.yld i H x H'->g x σ H' fun σ2 H2=>tb {D with nx:=N,ct:=N,bk:=D.nx} σ2 H2)
def i8(fp:List Addr)(h:Heap):List (Addr×Obj):=fp.filterMap fun b=>(h.get? b).map fun o=>(b,o)
theorem f9{fp:List Addr}{h:Heap}{b:Addr}{o:Obj}(hb:b∈fp)(e:h.get? b=some o):(b,o)∈i8 fp h:=List.mem_filterMap.mpr ⟨b,hb,by rw[e];rfl⟩
theorem sG{fp:List Addr}{h:Heap}{p:Addr×Obj}(hp:p∈i8 fp h):p.1∈fp/\h.get? p.1=some p.2:=by
 obtain⟨b,hb,e⟩:=List.mem_filterMap.mp hp;cases q:h.get? b with
 |none=>rw[q] at e;cases e
 |some o=>
  rw[q] at e;have e':(b,o)=p:=Option.some.inj e;subst e';exact⟨hb,q⟩
theorem Inv.pinned{pins:List (Addr×Obj)}{σ:St}{H:Hp}{s:Shared}{fp:List Addr}(I:Inv X pins σ H s)(hf:∀b∈fp,cJ X pins H b)(ho:∀b∈fp,∃o,s.heap.get? b=some o/\∀v,o.data≠.cell v):Inv X (pins++i8 fp s.heap) σ H s:=
 I.gm fun p hp=>(aak.mp hp).elim (fun z=>I.pin p (aar _ z)) fun z=>by
  obtain⟨hb,e⟩:=sG z;obtain⟨f0,f1,f2,_⟩:=hf p.1 hb;obtain⟨o,e',d⟩:=ho p.1 hb;rw[e] at e';cases e';exact⟨e,f0,f1,f2,d⟩
theorem Inv.fj{pins pl:List (Addr×Obj)}{σ:St}{H:Hp}{s:Shared}(I:Inv X (pins++pl) σ H s):Inv X pins σ H s:=I.gm fun p hp=>I.pin p (aar _ (List.mem_append_left _ hp))
theorem bb{iter:Expr}{body:List Stmt}{wi:TI}{g:TG}{tb:TS}{pos:Pos}(hp:PassesOwn (model X.prog X.w) X.A X.env X.xe)(hc:X.calm=true)(hi:PI X tg iter wi)(hg:PG X tg g)(hb:PSs X body tb)
  (hs:∀x,foldedSetIterable iter X.env x=pure x:=by intro _;rfl):PS X (.For tg iter body [] pos) (yp wi g tb):=by
 intro pins s σ H D I h;refine wpAny_For (thn (hi pins s σ H _ I h) fun v s1 h1=>thn h1 fun itv s2 h2=>?_) hs;obtain⟨it,fp,tn,J,H2,e,I2,T,st2,f2,W,⟨m0,w0⟩,turn⟩:=h2;subst e;have stat:∀{H':Hp},(∀b∈fp,H' b=none)->∀b∈fp,cJ X pins H' b:=fun hn b hb=>⟨hn b hb,(f2 b hb).2⟩
 refine codeAny_forLoop_any (fun n s'=>∃i σ' H',Inv X pins σ' H' s'/\tn i s'.heap/\(∀b∈fp,H' b=none)/\W i n σ' H') ?_ m0 ⟨0,σ,H2,I2,st2,fun b hb=>(f2 b hb).1,w0⟩;rintro n s3 ⟨i,σ3,H3,I3,st3,fr3,w3⟩;rcases turn i n σ3 H3 w3 with ⟨stop,qn⟩|⟨go,N,hN,step⟩
 ·refine wpAny_passesOwn hp (thn (T.done X rfl rfl rfl hc i pins s3 σ3 H3 X.xe I3 (stat fr3) st3 stop) fun r s4 ⟨hr,I4⟩=>?_);subst hr;exact wpAny_execs_nil ⟨σ3,H3,I4,qn⟩
 ·refine wpAny_passesOwn hp (thn (T.item X rfl rfl rfl hc i pins s3 σ3 H3 X.xe I3 (stat fr3) st3 go) fun r s4 ⟨u,hr,h4⟩=>?_);subst hr;refine wpAny_passesOwn hp (thn h4 fun _ s5 ⟨x,H5,I5,r5,y5,st5,fr5⟩=>?_);have I5':=I5.pinned (stat fr5) (T.obj _ _ st5);refine wpAny_passesOwn hp (thn (hg _ s5 σ3 H5 x u _ I5' r5 (step x H5 y5)) fun _ s6 ⟨σ6,H6,I6,q6⟩=>?_);refine wpAny_passesOwn hp (thn (hb _ s6 σ6 H6 _ I6 q6) fun f s7 q7=>?_);have again:∀{σ7:St} {H7:Hp},Inv X (pins++i8 fp s5.heap) σ7 H7 s7->N σ7 H7->∃m,m<n/\∃i σ' H',Inv X pins σ' H' s7/\tn i s7.heap/\(∀b∈fp,H' b=none)/\W i m σ' H':=fun{σ7 H7} I7 n7=>by
   obtain⟨m',hm,w7⟩:=hN σ7 H7 n7;refine⟨m',hm,i+1,σ7,H7,I7.fj,T.keep _ _ _ st5 fun b hb o e=>(I7.pin (b,o) (aar _ (aar _ (f9 hb e)))).1,fun b hb=>?_,w7⟩;obtain⟨o,e,d⟩:=T.obj _ _ st5 b hb;exact(I7.pin (b,o) (aar _ (aar _ (f9 hb e)))).2.1
  cases f with
  |next=>obtain⟨σ7,H7,I7,n7⟩:=q7;exact again I7 n7
  |cont=>obtain⟨σ7,H7,I7,n7⟩:=q7;exact again I7 n7
  |brk=>obtain⟨σ7,H7,I7,q7⟩:=q7;exact⟨σ7,H7,I7.fj,q7⟩
  |ret v=>obtain⟨x7,σ7,H7,I7,r7,q7⟩:=q7;exact⟨x7,σ7,H7,I7.fj,r7,q7⟩
end
theorem bc{K:PySem.W.Frag}{a:Addr}{xs:List V}{g:TG}{tb:TS}{D:Ends}{σ:St}{H:Hp}(Pv:Nat->St->Hp->Prop)(h0:Pv 0 σ H)(hl:∀i σ H,i<=xs.length->Pv i σ H->SqL K H a xs)
  (hs:∀i x σ H,xs[i]? =some x->Pv i σ H->g x σ H fun σ2 H2=>tb {D with nx:=Pv (i+1),ct:=Pv (i+1),bk:=D.nx} σ2 H2)(hd:∀σ H,Pv xs.length σ H->D.nx σ H) :
  ∃W:Nat->Nat->St->Hp->Prop,(∃m,W 0 m σ H)/\∀i m σ H,W i m σ H->
   ((Itl K a).stop i H/\D.nx σ H)\/((Itl K a).go i H/\∃N:St->Hp->Prop,(∀σ' H',N σ' H'->∃m',m'<m/\W (i+1) m' σ' H')/\∀x H',(Itl K a).yld i H x H'->g x σ H' fun σ2 H2=>tb {D with nx:=N,ct:=N,bk:=D.nx} σ2 H2):=by
 refine⟨fun i m σ H=>m=xs.length - i/\i<=xs.length/\Pv i σ H,⟨xs.length,by simp,Nat.zero_le _,h0⟩,?_⟩;rintro i m σ H ⟨rfl,hi,p⟩;have q:=hl i σ H hi p
 by_cases hlt:i<xs.length
 ·refine .inr ⟨⟨xs,xs[i],q,by simp[hlt]⟩,Pv (i+1),fun σ' H' p'=>⟨xs.length - (i+1),by omega,rfl,hlt,p'⟩,fun x H' y=>?_⟩;obtain⟨e,y⟩:=y;subst e;exact hs i x σ _ (y xs q) p
 ·have e:i=xs.length:=by omega
  subst e;exact .inl ⟨⟨xs,q,Nat.le_refl _⟩,hd σ H p⟩
theorem gH{lo:Int}{n:Nat}{g:TG}{tb:TS}{D:Ends}{σ:St}{H:Hp}(Pv:Nat->St->Hp->Prop)(h0:Pv 0 σ H)
  (hs:∀i σ H,i<n->Pv i σ H->g (.int (lo+i)) σ H fun σ2 H2=>tb {D with nx:=Pv (i+1),ct:=Pv (i+1),bk:=D.nx} σ2 H2)(hd:∀σ H,Pv n σ H->D.nx σ H) :
  ∃W:Nat->Nat->St->Hp->Prop,(∃m,W 0 m σ H)/\∀i m σ H,W i m σ H->
   ((Itr lo n).stop i H/\D.nx σ H)\/((Itr lo n).go i H/\∃N:St->Hp->Prop,(∀σ' H',N σ' H'->∃m',m'<m/\W (i+1) m' σ' H')/\∀x H',(Itr lo n).yld i H x H'->g x σ H' fun σ2 H2=>tb {D with nx:=N,ct:=N,bk:=D.nx} σ2 H2):=by
 refine⟨fun i m σ H=>m=n - i/\i<=n/\Pv i σ H,⟨n,by simp,Nat.zero_le _,h0⟩,?_⟩;rintro i m σ H ⟨rfl,hi,p⟩
 by_cases hlt:i<n
 ·refine .inr ⟨hlt,Pv (i+1),fun σ' H' p'=>⟨n - (i+1),by omega,rfl,hlt,p'⟩,fun x H' y=>?_⟩;obtain⟨e,y⟩:=y;subst e y;exact hs i σ _ hlt p
 ·have e:i=n:=by omega
  subst e;exact .inl ⟨Nat.le_refl _,hd σ H p⟩
end L2
namespace L2
open PySem PySem.Spec PyProof.Rows
abbrev R2:=V->V->Hp->VK->Prop
def OpR(X:Cx)(f:Value->Value->Sem Value)(r:R2):Prop:=
 ∀(pins:List (Addr×Obj)) (s:Shared) (σ:St) (H:Hp) (x y:V) (v u:Value) (Q:VK),Inv X pins σ H s->RelV x v->RelV y u->r x y H Q->
  wpAny (model X.prog X.w) X.A (f v u) (EP X pins σ Q) X.xe s
def dQ(X:Cx)(f:Value)(r:List V->Hp->VK->Prop):Prop:=
 ∀(pins:List (Addr×Obj)) (s:Shared) (σ:St) (H:Hp) (xs:List V) (us:List Value) (Q:VK),Inv X pins σ H s->Vals xs us->r xs H Q->
  wpAny (model X.prog X.w) X.A (call f us) (EP X pins σ Q) X.xe s
def Ap(X:Cx)(r:V->Hp->(Bool->Hp->Prop)->Prop):Prop:=
 ∀(pins:List (Addr×Obj)) (s:Shared) (σ:St) (H:Hp) (x:V) (v:Value) (Q:Bool->Hp->Prop),Inv X pins σ H s->RelV x v->r x H Q->
  wpAny (model X.prog X.w) X.A (truthy v) (TP X pins σ Q) X.xe s
def tOp(r:R2)(ta tb:TE):TE:=fun σ H Q=>ta σ H fun x H1=>tb σ H1 fun y H2=>r x y H2 Q
def rI(C:Int->Int->Prop)(g:Int->Int->V):R2:=fun x y H Q=>∃i j,x=.int i/\y=.int j/\C i j/\Q (g i j) H
def rI0(g:Int->Int->V):R2:=fun x y H Q=>∃i j,x=.int i/\y=.int j/\Q (g i j) H
section
variable {X:Cx}{a b c:Expr}{ta tb tc:TE}{pos:Pos}
theorem uH(ha:PE X a ta)(hb:PE X b tb){pins:List (Addr×Obj)}{s:Shared}{σ:St}{H:Hp}{R:V->V->Hp->Prop}(I:Inv X pins σ H s)
  (h:ta σ H fun x H1=>tb σ H1 fun y H2=>R x y H2){Q:Value->Shared->Prop}{f:Value->Value->Sem Value}
  (hf:∀v u s2 x y H2,Inv X pins σ H2 s2->RelV x v->RelV y u->R x y H2->wpAny (model X.prog X.w) X.A (f v u) Q X.xe s2) :
  wpAny (model X.prog X.w) X.A (eval a X.env) (fun v s₁=>wpAny (model X.prog X.w) X.A (eval b X.env) (fun u s₂=>wpAny (model X.prog X.w) X.A (f v u) Q X.xe s₂) X.xe s₁) X.xe s:=by
 refine thn (ha pins s σ H _ I h) fun v s1 ⟨x,H1,I1,r1,q1⟩=>?_
 refine thn (hb pins s1 σ H1 _ I1 q1) fun u s2 ⟨y,H2,I2,r2,q2⟩=>?_
 exact hf v u s2 x y H2 I2 r1 r2 q2
theorem bN{op:Operator}{r:R2}(ho:OpR X (binaryOp op) r)(ha:PE X a ta)(hb:PE X b tb):PE X (.BinOp a op b pos) (tOp r ta tb):=by
 intro pins s σ H Q I h;exact wpAny_BinOp (uH ha hb I h fun v u s2 x y H2 I2 rx ry q=>ho pins s2 σ H2 x y v u Q I2 rx ry q)
theorem opI{f:Value->Value->Sem Value}{C:Int->Int->Prop}{g:Int->Int->Int}
  (rule:∀(i j:Int) (t u:Tok) (s:Shared) (Q:Value->Shared->Prop) (E:Value->Shared->Prop),C i j->Q (.int (g i j) s.toks) {s with toks:=s.toks+1}->wpAny (model X.prog X.w) X.A (f (.int i t) (.int j u)) Q E s) :
  OpR X f (rI C fun i j=>.int (g i j)):=by
 intro pins s σ H x y v u Q I rx ry h;obtain⟨i,j,rfl,rfl,hc,q⟩:=h;obtain⟨t,rfl⟩:=rx;obtain⟨t',rfl⟩:=ry;exact rule i j t t' s _ _ hc ⟨.int (g i j),H,I.tok _,⟨_,rfl⟩,q⟩
theorem yq{f:Value->Value->Sem Value}{g:Int->Int->Int}
  (rule:∀(i j:Int) (t u:Tok) (s:Shared) (Q:Value->Shared->Prop) (E:Value->Shared->Prop),Q (.int (g i j) s.toks) {s with toks:=s.toks+1}->wpAny (model X.prog X.w) X.A (f (.int i t) (.int j u)) Q E s) :
  OpR X f (rI0 fun i j=>.int (g i j)):=by
 intro pins s σ H x y v u Q I rx ry h;obtain⟨i,j,rfl,rfl,q⟩:=h;obtain⟨t,rfl⟩:=rx;obtain⟨t',rfl⟩:=ry;exact rule i j t t' s _ _ ⟨.int (g i j),H,I.tok _,⟨_,rfl⟩,q⟩
theorem uI{f:Value->Value->Sem Value}{g:Int->Int->Bool}
  (rule:∀(i j:Int) (t u:Tok) (s:Shared) (Q:Value->Shared->Prop) (E:Value->Shared->Prop),Q (.bool (g i j)) s->wpAny (model X.prog X.w) X.A (f (.int i t) (.int j u)) Q E s) :
  OpR X f (rI0 fun i j=>.bl (g i j)):=by
 intro pins s σ H x y v u Q I rx ry h;obtain⟨i,j,rfl,rfl,q⟩:=h;obtain⟨t,rfl⟩:=rx;obtain⟨t',rfl⟩:=ry;exact rule i j t t' s _ _ ⟨.bl (g i j),H,I,rfl,q⟩
def Aq(i j:Int):Prop:=0<j/\j<1073741824
def Ar(i j:Int):Prop:=0<=j/\j<=1000000/\i.natAbs<2 ^ 64
theorem eY:OpR X (binaryOp .Add) (rI0 fun i j=>.int (i+j)):=yq fun _ _ _ _ _ _ _ q=>add_int q
theorem yr:OpR X (binaryOp .Sub) (rI0 fun i j=>.int (i - j)):=yq fun _ _ _ _ _ _ _ q=>sub_int q
theorem jw:OpR X (binaryOp .FloorDiv) (rI Aq fun i j=>.int (i / j)):=opI fun i j _ _ _ _ _ hc q=>by
 have h1:(0:Int)<j:=hc.1;have h2:j<1073741824:=hc.2;exact floordiv_int (by omega) (by rw[Int.fdiv_eq_ediv_of_nonneg i (by omega)];exact q) (.inl (PyProof.noPylong_small (by omega)))
theorem eE:OpR X (binaryOp .Mod) (rI (fun _ j=>0<j) fun i j=>.int (i % j)):=opI fun i j _ _ _ _ _ hc q=>by
 have h1:(0:Int)<j:=hc;exact mod_int' (by omega) (by rw[Int.fmod_eq_emod_of_nonneg i (by omega)];exact q)
theorem yt:OpR X (binaryOp .Pow) (rI Ar fun i j=>.int (i ^ j.toNat)):=opI fun _ _ _ _ _ _ _ hc q=>pow_int_small hc.1 hc.2.1 hc.2.2 q
end
def yu:V->V->Bool
 |.non,.non=>true | .non,.int _=>true | .int _,.non=>true | .non,.bl _=>true | .bl _,.non=>true | .non,.str _=>true | .str _,.non=>true
 |.int _,.int _=>true | .bl _,.bl _=>true | .str _,.str _=>true | .byt _,.byt _=>true
 |.int _,.str _=>true | .str _,.int _=>true | .bl _,.str _=>true | .str _,.bl _=>true
 |_,_=>false
def rEq:R2:=fun x y H Q=>yu x y=true/\Q (.bl (decide (x=y))) H
def rNe:R2:=fun x y H Q=>yu x y=true/\Q (.bl (!decide (x=y))) H
theorem pV{i j:Int}:decide (V.int i=V.int j)=(i == j):=by
 rw[Bool.eq_iff_iff];simp
theorem sI{i j:Bool}:decide (V.bl i=V.bl j)=(i == j):=by
 rw[Bool.eq_iff_iff];simp
theorem pW{i j:Str}:decide (V.str i=V.str j)=(i == j):=by
 rw[Bool.eq_iff_iff];simp
theorem pX{i j:Array UInt8}:decide (V.byt i=V.byt j)=(i.toList == j.toList):=by
 rw[Bool.eq_iff_iff];cases i
 cases j
 simp
section
variable {X:Cx}{a b c:Expr}{ta tb tc:TE}{pos:Pos}
theorem bu{pins:List (Addr×Obj)}{σ:St}{H:Hp}{s:Shared}{Q:VK}{k k':Bool}(I:Inv X pins σ H s)(q:Q (.bl k) H)(e:k=k'):EP X pins σ Q (.bool k') s:=by
 subst e;exact⟨.bl k,H,I,rfl,q⟩
theorem jx:OpR X (compareOp .Eq) rEq:=by
 intro pins s σ H x y v u Q I rx ry h;obtain⟨hs,q⟩:=h;cases x with
 |non=>
  cases rx
  cases y with
  |non=>cases ry;exact PySem.EqNone.eq_none_none (bu I q (by simp))
  |bl j=>cases ry;exact PySem.EqNone.eq_none_bool (bu I q (by simp))
  |int j=>obtain⟨t',rfl⟩:=ry;exact PySem.EqNone.eq_none_int (bu I q (by simp))
  |str j=>obtain⟨t',rfl⟩:=ry;exact PySem.EqNone.eq_none_str (bu I q (by simp))
  |_=>exact absurd (show false=true from hs) Bool.false_ne_true
 |bl i=>
  cases rx
  cases y with
  |non=>cases ry;exact PySem.EqNone.eq_bool_none (bu I q (by simp))
  |bl j=>cases ry;exact eq_bool (bu I q sI)
  |str j=>obtain⟨t',rfl⟩:=ry;exact PySem.EqMixed.eq_bool_str (bu I q (by simp))
  |_=>exact absurd (show false=true from hs) Bool.false_ne_true
 |int i=>
  obtain⟨t,rfl⟩:=rx;cases y with
  |non=>cases ry;exact PySem.EqNone.eq_int_none (bu I q (by simp))
  |int j=>obtain⟨t',rfl⟩:=ry;exact eq_int (bu I q pV)
  |str j=>obtain⟨t',rfl⟩:=ry;exact PySem.EqMixed.eq_int_str (bu I q (by simp))
  |_=>exact absurd (show false=true from hs) Bool.false_ne_true
 |str i=>
  obtain⟨t,rfl⟩:=rx;cases y with
  |non=>cases ry;exact PySem.EqNone.eq_str_none (bu I q (by simp))
  |bl j=>cases ry;exact PySem.EqMixed.eq_str_bool (bu I q (by simp))
  |int j=>obtain⟨t',rfl⟩:=ry;exact PySem.EqMixed.eq_str_int (bu I q (by simp))
  |str j=>obtain⟨t',rfl⟩:=ry;exact eq_str (bu I q pW)
  |_=>exact absurd (show false=true from hs) Bool.false_ne_true
 |byt i=>
  obtain⟨t,rfl⟩:=rx;cases y with
  |byt j=>obtain⟨t',rfl⟩:=ry;exact PySem.W.eq_bytes (bu I q pX)
  |_=>exact absurd (show false=true from hs) Bool.false_ne_true
 |_=>cases y <;> exact absurd (show false=true from hs) Bool.false_ne_true
theorem dC:OpR X (compareOp .NotEq) rNe:=by
 intro pins s σ H x y v u Q I rx ry h;obtain⟨hs,q⟩:=h;cases x with
 |non=>
  cases rx
  cases y with
  |non=>cases ry;exact PySem.EqNone.ne_none_none (bu I q (by simp))
  |bl j=>cases ry;exact PySem.EqNone.ne_none_bool (bu I q (by simp))
  |int j=>obtain⟨t',rfl⟩:=ry;exact PySem.EqNone.ne_none_int (bu I q (by simp))
  |str j=>obtain⟨t',rfl⟩:=ry;exact PySem.EqNone.ne_none_str (bu I q (by simp))
  |_=>exact absurd (show false=true from hs) Bool.false_ne_true
 |bl i=>
  cases rx
  cases y with
  |non=>cases ry;exact PySem.EqNone.ne_bool_none (bu I q (by simp))
  |bl j=>cases ry;exact ne_bool (bu I q (congrArg not sI))
  |str j=>obtain⟨t',rfl⟩:=ry;exact PySem.EqMixed.ne_bool_str (bu I q (by simp))
  |_=>exact absurd (show false=true from hs) Bool.false_ne_true
 |int i=>
  obtain⟨t,rfl⟩:=rx;cases y with
  |non=>cases ry;exact PySem.EqNone.ne_int_none (bu I q (by simp))
  |int j=>obtain⟨t',rfl⟩:=ry;exact ne_int (bu I q (congrArg not pV))
  |str j=>obtain⟨t',rfl⟩:=ry;exact PySem.EqMixed.ne_int_str (bu I q (by simp))
  |_=>exact absurd (show false=true from hs) Bool.false_ne_true
 |str i=>
  obtain⟨t,rfl⟩:=rx;cases y with
  |non=>cases ry;exact PySem.EqNone.ne_str_none (bu I q (by simp))
  |bl j=>cases ry;exact PySem.EqMixed.ne_str_bool (bu I q (by simp))
  |int j=>obtain⟨t',rfl⟩:=ry;exact PySem.EqMixed.ne_str_int (bu I q (by simp))
  |str j=>obtain⟨t',rfl⟩:=ry;exact ne_str (bu I q (congrArg not pW))
  |_=>exact absurd (show false=true from hs) Bool.false_ne_true
 |byt i=>
  obtain⟨t,rfl⟩:=rx;cases y with
  |byt j=>obtain⟨t',rfl⟩:=ry;exact PySem.W.ne_bytes (bu I q (congrArg not pX))
  |_=>exact absurd (show false=true from hs) Bool.false_ne_true
 |_=>cases y <;> exact absurd (show false=true from hs) Bool.false_ne_true
theorem jy:OpR X (compareOp .Lt) (rI0 fun i j=>.bl (decide (i<j))):=uI fun _ _ _ _ _ _ _ q=>lt_int q
theorem wN:OpR X (compareOp .Gt) (rI0 fun i j=>.bl (decide (j<i))):=uI fun _ _ _ _ _ _ _ q=>gt_int q
theorem qC:OpR X (compareOp .GtE) (rI0 fun i j=>.bl (decide (j<=i))):=uI fun _ _ _ _ _ _ _ q=>ge_int q
theorem sJ:OpR X (compareOp .Is) (fun x y H Q=>y=.non/\Q (.bl (decide (x=.non))) H):=by
 intro pins s σ H x y v u Q I rx ry h;obtain⟨rfl,q⟩:=h;cases ry
 refine is_none_gen (bu I q ?_);cases x <;> first
  |(cases rx;rfl)
  |(obtain⟨t,rfl⟩:=rx;rfl)
theorem pY:OpR X (compareOp .IsNot) (fun x y H Q=>y=.non/\Q (.bl (!decide (x=.non))) H):=by
 intro pins s σ H x y v u Q I rx ry h;obtain⟨rfl,q⟩:=h;cases ry
 refine isnot_none_gen (bu I q ?_);cases x <;> first
  |(cases rx;rfl)
  |(obtain⟨t,rfl⟩:=rx;rfl)
theorem aY(b:Expr){op:CmpOp}(h:op≠.In:=by decide)(h2:op≠.NotIn:=by decide):behindInMarks op b=false:=by
 have e1:(op == CmpOp.In)=false:=by cases op <;> first | rfl | exact absurd rfl h
 have e2:(op == CmpOp.NotIn)=false:=by cases op <;> first | rfl | exact absurd rfl h2
 cases b <;> simp[behindInMarks,e1,e2]
theorem hV{op:CmpOp}{r:R2}(ho:OpR X (compareOp op) r)(ha:PE X a ta)(hb:PE X b tb)(hm:behindInMarks op b=false):PE X (.Compare a [op] [b] pos) (tOp r ta tb):=by
 intro pins s σ H Q I h;exact wpAny_Compare1 (uH ha hb I h fun v u s2 x y H2 I2 rx ry q=>ho pins s2 σ H2 x y v u Q I2 rx ry q) hm
def wO(t:TE):TT:=fun σ H Q=>t σ H fun x H'=>∃k,x=.bl k/\Q k H'
theorem aL{op:CmpOp}{r:R2}(ho:OpR X (compareOp op) r)(ha:PE X a ta)(hb:PE X b tb)(hm:behindInMarks op b=false):PT X (.Compare a [op] [b] pos) (wO (tOp r ta tb)):=by
 intro pins s σ H Q I h;refine wpAny_isTrue_Compare1 (thn (ha pins s σ H _ I h) fun v s1 ⟨x,H1,I1,r1,q1⟩=>thn (hb pins s1 σ H1 _ I1 q1) fun u s2 ⟨y,H2,I2,r2,q2⟩=>
  thn (ho pins s2 σ H2 x y v u _ I2 r1 r2 q2) fun c s3 ⟨z,H3,I3,r3,k,e,q3⟩=>?_) hm
 subst e;cases r3
 exact wpAny_truthy_bool ⟨H3,I3,q3⟩
def yw(K:PySem.W.Frag)(x:V)(H:Hp)(k:Bool):Prop:=
 match x with
 |.non=>k=false
 |.bl b=>k=b
 |.int i=>k=(i != 0)
 |.str y=>y.length<=sizeLine/\k=((y.length:Int) != 0)
 |.byt y=>y.size<=sizeLine/\k=((y.size:Int) != 0)
 |.ref p=>(∃xs,SqL K H p xs/\k=!xs.isEmpty)\/(∃xs,SqT K H p xs/\k=!xs.isEmpty)\/∃kvs,H p=some (.dK kvs)/\k=!kvs.isEmpty
 |_=>False
theorem qD{κ:Type}{kvs:List (κ×V)}{vs:List (κ×Value)}(r:KV kvs vs):(!vs.isEmpty)=!kvs.isEmpty:=by
 cases r <;> rfl
theorem kw{xs:List V}{its:List Value}(r:Vals xs its):(!its.toArray.isEmpty)=!xs.isEmpty:=by
 cases r <;> simp
theorem i9:(sizeLine:Nat)<2 ^ 63:=by rw[sizeLine_eq];decide
theorem yx:Ap X (fun x H Q=>∃k,yw X.K x H k/\Q k H):=by
 intro pins s σ H x v Q I rx h;obtain⟨k,e,q⟩:=h;have hl:=i9;have hs:sizeLine=16777216:=sizeLine_eq;cases x with
 |non=>
  cases rx
  have e':k=false:=e;subst e';exact truthy_none ⟨H,I,q⟩
 |bl b=>
  cases rx
  have e':k=b:=e;subst e';exact wpAny_truthy_bool ⟨H,I,q⟩
 |int i=>
  obtain⟨t,rfl⟩:=rx;have e':k=(i != 0):=e;subst e';exact PySem.P.truthy_int ⟨H,I,q⟩
 |str y=>
  obtain⟨t,rfl⟩:=rx;obtain⟨hy,e'⟩:y.length<=sizeLine/\k=((y.length:Int) != 0):=e;subst e';exact PySem.P.truthy_str (by omega) ⟨H,I.tok _,q⟩
 |byt y=>
  obtain⟨t,rfl⟩:=rx;obtain⟨hy,e'⟩:y.size<=sizeLine/\k=((y.size:Int) != 0):=e;subst e';exact PySem.W.truthy_bytes (by omega) ⟨H,I.tok _,q⟩
 |ref p=>
  cases rx
  have e':(∃xs,SqL X.K H p xs/\k=!xs.isEmpty)\/(∃xs,SqT X.K H p xs/\k=!xs.isEmpty)\/∃kvs,H p=some (.dK kvs)/\k=!kvs.isEmpty:=e;rcases e' with ⟨xs,hx,e'⟩|⟨xs,hx,e'⟩|⟨kvs,hx,e'⟩
  ·subst e';obtain⟨its,r,pl,hz⟩:=I.list hx;have hlen:=r.length;exact wpAny_truthy_list pl.isList (by simp only[aaq];omega) ⟨H,I.tok _,by rw[kw r];exact q⟩
  ·subst e';obtain⟨its,r,pl,hz⟩:=I.tuple hx;have hlen:=r.length;exact truthy_tuple pl (by simp only[aaq];omega) ⟨H,I.tok _,by rw[kw r];exact q⟩
  ·subst e';obtain⟨hz,hS,vs,r,m⟩:kvs.length<=sizeLine/\(p == sysModules)=false/\∃vs,KV kvs vs/\s.heap.DictOf (bI X.prog X.w) p vs:=I.hok p _ hx;have hlen:kvs.length=vs.length:=Paired.length r;exact wpAny_truthy_dict hS m (by omega) ⟨H,I.tok _,by rw[qD r];exact q⟩
 |_=>exact(show False from e).elim
theorem uJ(ha:PE X a ta)(he:∀whole,isTrue a X.env whole=(do let v ←whole;standAt a.pos;holding [v] (truthy v))) :
  PT X a (fun σ H Q=>ta σ H fun x H'=>∃k,yw X.K x H' k/\Q k H'):=by
 intro pins s σ H Q I h;exact isTrue_plain (thn (ha pins s σ H _ I h) fun v s1 ⟨x,H1,I1,r1,q1⟩=>yx pins s1 σ H1 x v Q I1 r1 q1) (he _)
theorem iF:OpR X (binaryOp .Add) (fun x y H Q=>∃i j,x=.str i/\y=.str j/\i.length+j.length<=sizeLine/\Q (.str (i++j)) H):=by
 intro pins s σ H x y v u Q I rx ry h;obtain⟨i,j,rfl,rfl,hz,q⟩:=h;obtain⟨t,rfl⟩:=rx;obtain⟨t',rfl⟩:=ry;exact add_str (fun t' tk=>⟨.str (i++j),H,I.tok _,⟨_,rfl⟩,q⟩) hz
theorem vals1{x:V}{us:List Value}(r:Vals [x] us):∃u,us=[u]/\RelV x u:=by
 cases r with
 |cons r1 r2=>cases r2;exact⟨_,rfl,r1⟩
theorem vals2{x y:V}{us:List Value}(r:Vals [x,y] us):∃u w',us=[u,w']/\RelV x u/\RelV y w':=by
 cases r with
 |cons r1 r2=>
  cases r2 with
  |cons r3 r4=>cases r4;exact⟨_,_,rfl,r1,r3⟩
theorem uK:dQ X (.builtin "abs") (fun xs H Q=>∃i,xs=[.int i]/\Q (.int (if i<0 then -i else i)) H):=by
 intro pins s σ H xs us Q I r h;obtain⟨i,rfl,q⟩:=h;obtain⟨u,rfl,t,rfl⟩:=vals1 r;exact call_abs_int fun u tk=>⟨.int (if i<0 then -i else i),H,I.tok _,⟨_,rfl⟩,q⟩
end
end L2
namespace L2
open PySem PySem.Spec PyProof.Rows
structure uM(h:Heap)(x dx C:Addr)(mA:Str->Option Value):Prop where
 obj:h.get? x=some (PySem.W.instObj C dx)
 ns:h.Ns1 dx mA
 ne:dx≠x
theorem sK{h:Heap}{dx:Addr}{mA:Str->Option Value}(n:h.Ns1 dx mA):∃od,h.get? dx=some od/\∀name,PySem.W.lookIn name od=some (mA name):=by
 obtain⟨o,es,ep,ho,hd,hk,_,hm⟩:=n;refine⟨o,ho,fun name=>?_⟩;have e:=hm name;unfold nsFind findBy at e;rw[←Array.find?_toList] at e;unfold PySem.W.lookIn;rw[hd];dsimp only;split
 ·rename_i y q;rw[q] at e;exact congrArg some e
 ·rename_i q;rw[q] at e;have a:es.toList.any (·.refKey)=false:=by
   rw[List.any_eq_false];intro y hy;obtain⟨z,t,hkey⟩:=hk y (Array.mem_toList_iff.mp hy);simp[DictEntry.refKey,hkey]
  have a':¬es.toList.any (·.refKey)=true:=by rw[a];exact Bool.false_ne_true
  rw[if_neg a'];exact congrArg some e
theorem uM.look{h:Heap}{x dx C:Addr}{mA:Str->Option Value}(I:uM h x dx C mA):∃od,PySem.W.InstAt h x (PySem.W.instObj C dx) C (some od)/\∀name,PySem.W.lookIn name od=some (mA name):=
 let ⟨od,ho,hl⟩:=sK I.ns
 ⟨od,⟨I.obj,rfl,rfl,ho⟩,hl⟩
section
variable {prog:Program}{w:World}{A:Around}{E:Value->Shared->Prop}{s:Shared}{K:PySem.W.Frag}{x dx C f:Addr}{mA:Str->Option Value}{name:Str}{v:Value}
end
theorem fi.some_of{v:V}{o:Option Value}(r:fi (some v) o):∃u,o=some u/\RelV v u:=by
 cases o with
 |none=>exact(show False from r).elim
 |some u=>exact⟨u,rfl,r⟩
section
variable {P:Program}{w:World}{H H':Hp}{h h':Heap}{a C dx:Addr}{fs fs':List (Str×V)}
theorem pZ(hok:HOk P w H h)(e:H a=some (.ins C dx fs)):∃mA,uM h a dx C mA/\(∀f,fi (fs.lookup f) (mA f))/\PySem.Within mA (fs.map (·.1))/\fs.length<=1000/\H dx=some (.own a):=by
 obtain⟨d,z,ne,ob,mA,n,r,q⟩:=(show bi P w H h a (.ins C dx fs) from hok a _ e);exact⟨mA,⟨ob,n,ne⟩,r,q,z,d⟩
end
structure Cls(K:PySem.W.Frag)(C:Addr):Prop where
 pg:PySem.W.plainGet K C Str.empty=true
 hd:PySem.W.hasDictIn K C=true
 po:PySem.W.plainOver K C=true
 sa:PySem.W.findIn K (.ref C) "__setattr__"=some (some (.builtin "object.__setattr__"))
theorem Cls.get{K:PySem.W.Frag}{C:Addr}(c:Cls K C)(f:Str):PySem.W.plainGet K C f=true:=c.pg
section
variable {X:Cx}{pins:List (Addr×Obj)}{σ:St}{H:Hp}{s:Shared}{a C dx:Addr}{fs:List (Str×V)}{f:Str}{v:V}{A:Around}{E:Value->Shared->Prop}
end
section
variable {X:Cx}{o e value:Expr}{f:Str}{pos pos' tpos:Pos}{ta tv:TE}
end
section
variable {X:Cx}{pins:List (Addr×Obj)}{σ:St}{H:Hp}{s:Shared}{A:Around}{E:Value->Shared->Prop}{Q:Value->Shared->Prop}{c:Value}{b:Bool}
inductive cx(K:PySem.W.Frag)(H:Hp):V->Value->Prop where
 |non:cx K H .non (.type "NoneType")
 |bl (x:Bool):cx K H (.bl x) (.type "bool")
 |int (i:Int):cx K H (.int i) (.type "int")
 |str (x:Str):cx K H (.str x) (.type "str")
 |flt (x:UInt64):cx K H (.flt x) (.type "float")
 |lst {a:Addr} {xs:List V} (e:H a=some (.lst xs)):cx K H (.ref a) (.type "list")
 |frz {a:Addr} {o:Obj} {xs:List V} (e:H a=some (.frz o (.lst xs))):cx K H (.ref a) (.type "list")
 |tup {a:Addr} {xs:List V} (e:H a=some (.tup xs)):cx K H (.ref a) (.type "tuple")
 |dK {a:Addr} {kvs:List (Key×V)} (e:H a=some (.dK kvs)):cx K H (.ref a) (.type "dict")
 |dT {a:Addr} {kvs:List (List Key×V)} (e:H a=some (.dT kvs)):cx K H (.ref a) (.type "dict")
 |ins {a C dx:Addr} {fs:List (Str×V)} (e:H a=some (.ins C dx fs)) (cl:Cls K C) (ha:PySem.W.findIn K (.ref C) "__class__"=some (some (.builtin "object.__class__")))
   (hn:PySem.W.specialIn K (.builtin "object.__class__") "__get__"=some (some (.builtin "getset_descriptor.__get__"))) (htk:PySem.W.takesIn K (.builtin "object.__class__")=some true)
   (hm:PySem.W.mroIn K C (.type "object")=some true):cx K H (.ref a) (.ref C)
theorem sM{x:V}{u t:Value}(I:Inv X pins σ H s)(rx:RelV x u)(ty:cx X.K H x t)(e:PySem.W.kitOne X.K t c=some b)(h:∀tk,Q (.bool b) {s with toks:=tk}) :
  wpAny (model X.prog X.w) A (call (.builtin "isinstance") [u,c]) Q E s:=by
 cases ty with
 |non=>cases (show u=Value.none from rx);exact PySem.W.kia_one PySem.W.kitx_none I.kIn True.intro e (fun z=>nomatch z) h
 |bl y=>cases (show u=Value.bool y from rx);exact PySem.W.kia_one PySem.W.kitx_bool I.kIn True.intro e (fun z=>nomatch z) h
 |int i=>obtain⟨t,q⟩:=(show ∃t,u=Value.int i t from rx);cases q;exact PySem.W.kia_one PySem.W.kitx_int I.kIn True.intro e (fun z=>nomatch z) h
 |str y=>obtain⟨t,q⟩:=(show ∃t,u=Value.str y t from rx);cases q;exact PySem.W.kia_one PySem.W.kitx_str I.kIn True.intro e (fun z=>nomatch z) h
 |flt y=>obtain⟨t,q⟩:=(show ∃t,u=Value.float y t from rx);cases q;exact PySem.W.kia_one PySem.W.kitx_float I.kIn True.intro e (fun z=>nomatch z) h
 |@lst a xs ea=>
  cases (show u=Value.ref a from rx)
  obtain⟨_,_,n,_,h1⟩:=(show bi X.prog X.w H s.heap a (.lst xs) from I.hok a _ ea);exact PySem.W.kia_one PySem.W.kitx_list I.kIn ⟨_,h1,rfl⟩ e (fun z=>nomatch z) h
 |@frz a ob xs ea=>
  cases (show u=Value.ref a from rx)
  obtain⟨_,_,_,n,_,h1⟩:=(show bi X.prog X.w H s.heap a (.frz ob (.lst xs)) from I.hok a _ ea);exact PySem.W.kia_one PySem.W.kitx_list I.kIn ⟨_,h1,rfl⟩ e (fun z=>nomatch z) h
 |@tup a xs ea=>
  cases (show u=Value.ref a from rx)
  obtain⟨_,_,_,p⟩:=(show bi X.prog X.w H s.heap a (.tup xs) from I.hok a _ ea);obtain⟨o,h1,h2,_⟩:=p;exact PySem.W.kia_one PySem.W.kitx_tuple I.kIn ⟨o,h1,h2⟩ e (fun z=>nomatch z) h
 |@dK a kvs ea=>
  cases (show u=Value.ref a from rx)
  obtain⟨_,_,vs,_,p⟩:=(show bi X.prog X.w H s.heap a (.dK kvs) from I.hok a _ ea);obtain⟨o,es,ep,h1,h2,_⟩:=p;exact PySem.W.kia_one PySem.W.kitx_dict I.kIn ⟨o,h1,h2.1⟩ e (fun z=>nomatch z) h
 |@dT a kvs ea=>
  cases (show u=Value.ref a from rx)
  obtain⟨_,_,xs,_,o,es,ep,h1,h2,_⟩:=(show bi X.prog X.w H s.heap a (.dT kvs) from I.hok a _ ea);exact PySem.W.kia_one PySem.W.kitx_dict I.kIn ⟨o,h1,h2.1⟩ e (fun z=>nomatch z) h
 |@ins a C dx fs ea cl ha hn htk hm=>
  cases (show u=Value.ref a from rx)
  obtain⟨mA,O,_⟩:=pZ I.hok ea;obtain⟨od,J,_⟩:=O.look;exact PySem.W.kia_one (PySem.W.kitx_own (cl.get _) cl.hd ha hn htk hm) I.kIn J e (fun z=>nomatch z) h
end
end L2
namespace L2
open PySem PySem.Spec PyProof.Rows
structure bC(k:Nat)(A:Around):Prop where
 hd:A.handled=none
 dp:A.depth+3*k+5<recursionLimit
 un:A.units+16*k+200<cLine
theorem bC.mono{j k:Nat}{A:Around}(r:bC k A)(h:j<=k):bC j A:=⟨r.hd,by have:=r.dp;omega,by have:=r.un;omega⟩
theorem bC.deeper{k:Nat}{A:Around}(r:bC (k+1) A)(env:Env):bC k (A.deeper env):=
 ⟨r.hd,by have:=r.dp;show A.depth+1+3*k+5<_;omega,by have:=r.un;show A.units+3+16*k+200<_;omega⟩
theorem bC.depth{k:Nat}{A:Around}(r:bC k A):A.depth<recursionLimit:=by have:=r.dp;omega
theorem bC.units{k:Nat}{A:Around}(r:bC k A):A.units+64<cLine:=by have:=r.un;omega
def qE:TA:=fun _ H Q=>Q [] H
def jz(ta:TE)(tr:TA):TA:=fun σ H Q=>ta σ H fun x H1=>tr σ H1 fun xs H2=>Q (x::xs) H2
section
variable {X:Cx}{e:Expr}{es:List Expr}{te:TE}{t:TA}{pos:Pos}
theorem ac:PA X [] qE:=fun _ _ _ _ H Q I h=>Calls.spliced_nil ⟨[],H,I,.nil,h⟩
theorem ai(ha:PE X e te)(hr:PA X es t)(hs:starEach (e::es) X.env=(false,eval e X.env)::starEach es X.env:=by rfl):PA X (e::es) (jz te t):=by
 intro pos pins s σ H Q I h;rw[hs];show wpAny _ _ (spliced ((false,eval e X.env)::backTo pos (starEach es X.env))) _ _ s;refine Calls.spliced_cons (thn (ha pins s σ H _ I h) fun u s1 ⟨x,H1,I1,r1,q1⟩=>?_);exact thn (hr pos pins s1 σ H1 _ I1 q1) fun us s2 ⟨xs,H2,I2,r2,q2⟩=>⟨x::xs,H2,I2,.cons r1 r2,q2⟩
def uN(t:TA):TE:=fun σ H Q=>t σ H fun xs H1=>xs.length<=sizeLine/\∀p,H1 p=none->Q (.ref p) (upd H1 p (.tup xs))
def uO(t:TA):TE:=fun σ H Q=>t σ H fun xs H1=>xs.length<=sizeLine/\∀p,H1 p=none->Q (.ref p) (upd H1 p (.lst xs))
theorem aZ{x1}(h:PA X es t):PE X (.Tuple es x1 pos) (uN t):=by
 intro pins s σ H Q I hq;refine wpAny_Tuple_spliced (thn (h pos pins s σ H _ I hq) fun us s1 ⟨xs,H1,I1,r,z,q⟩=>⟨by rw[←r.length];exact z,?_⟩);have hf:H1 s1.heap.objs.size=none:=I1.hok.fresh (Nat.le_refl _);refine⟨.ref s1.heap.objs.size,upd H1 s1.heap.objs.size (.tup xs),I1.laid (t':=s1.toks) (fun b u e=>aaf _ e) (Nat.le_refl _) ?_,rfl,q _ hf⟩;exact⟨z,us,r,⟨_,aay _ rfl,rfl,_,rfl⟩⟩
theorem bx(h:PA X es t):PE X (.List es pos) (uO t):=by
 intro pins s σ H Q I hq;refine wpAny_List_spliced (thn (h pos pins s σ H _ I hq) fun us s1 ⟨xs,H1,I1,r,z,q⟩=>⟨by rw[←r.length];exact z,?_⟩);have hf:H1 s1.heap.objs.size=none:=I1.hok.fresh (Nat.le_refl _);refine⟨.ref s1.heap.objs.size,upd H1 s1.heap.objs.size (.lst xs),I1.laid (t':=s1.toks) (fun b u e=>aaf _ e) (Nat.le_refl _) ?_,rfl,q _ hf⟩;exact⟨z,us,0,r,aay _ rfl⟩
end
abbrev Sp:=List V->Hp->VK->XK->Prop
abbrev CXT:=List Env->Hp->Shared->XK->Value->Shared->Prop
structure qF(P:Program)(w:World)(K:PySem.W.Frag)(mg:Str->Option Value)(base:Heap)(A:Around)(outer:List Env)(s:Shared)(H:Hp):Prop where
 frames:A.frames=some outer
 mod:Mod K mg base
 bs:∀b o,base.get? b=some o->s.heap.get? b=some o/\H b=none
 bsz:base.objs.size<=s.heap.objs.size
 fZ:s.heap.FunFrames base outer
 frf:∀b∈frs outer,H b=none
 hok:HOk P w H s.heap
 bare:AllBare s.gens
def CE(outer:List Env)(P:Program)(w:World)(H:Hp)(s:Shared)(Q:VK)(u:Value)(s':Shared):Prop:=
 ∃v H',s'.os=s.os/\AllBare s'.gens/\Un (frs outer) [] H H' s.heap s'.heap/\HOk P w H' s'.heap/\RelV v u/\Q v H'
def CR(CX:CXT)(outer:List Env)(P:Program)(w:World)(H:Hp)(s:Shared)(Q:VK)(E:XK)(r:Result)(s':Shared):Prop:=
 match r with
 |.ok (.ret u)=>CE outer P w H s Q u s'
 |.ok _=>False
 |.error e=>CX outer H s E e s'
structure be(P:Program)(w:World)(K:PySem.W.Frag)(mg:Str->Option Value)(base:Heap)(CX:CXT)(k:Nat)(f:Addr)(fd:FuncData)(ps:List Str)(sp:Sp):Prop where
 len:∀vs H Q E,sp vs H Q E->vs.length=ps.length
 run:∀(A:Around) (outer:List Env) (s:Shared) (H:Hp) (args:Args) (us:List Value) (vs:List V) (Q:VK) (E:XK),bC k A->qF P w K mg base A outer s H->BindsTo s fd args (ps.zip us)->Vals vs us->sp vs H Q E->
  codeAny (model P w) A (.call (.ref f) args) (CR CX outer P w H s Q E) s
section
variable {X:Cx}{pins:List (Addr×Obj)}{σ:St}{H:Hp}{s s':Shared}
theorem Inv.As(I:Inv X pins σ H s):qF X.prog X.w X.K X.mg X.base X.A X.stack s H:=
 ⟨I.ok.frames,I.ok.mod,I.bs,Nat.le_trans I.ok.bsz I.sz,I.stack,I.lB,I.hok,I.bare⟩
theorem Inv.after{Q:VK}{u:Value}(I:Inv X pins σ H s)(h:CE X.stack X.prog X.w H s Q u s'):EP X pins σ Q u s':=by
 obtain⟨v,H',os,bare,un,hok,r,q⟩:=h;obtain⟨hh,g,d,t,os'⟩:=s';obtain rfl:os'=s.os:=os;exact⟨v,H',I.call (h':=hh) (g':=g) (d':=d) (t':=t) (ch:=[]) un hok bare (fun b z=>absurd z (by simp)),r,q⟩
end
def qG(sp:Sp)(dvs:List V)(E:XK)(t:TA):TE:=fun σ H Q=>t σ H fun vs H1=>sp (vs++dvs) H1 Q E
def Binds(K:PySem.W.Frag)(fd:FuncData)(ps:List Str)(ds:List Value):Prop:=
 ∀(s:Shared) (us:List Value),K.In s.heap->(us++ds).length=ps.length->BindsTo s fd ⟨us,[]⟩ (ps.zip (us++ds))
theorem Binds.all{K:PySem.W.Frag}{fd:FuncData}{ps:List Str}(h:∀us:List Value,us.length=ps.length->bindArgs fd ⟨us,[]⟩=pure (ps.zip us)):Binds K fd ps []:=fun s us _ hl=>by
 rw[List.append_nil] at hl ⊢;exact .of_eq (h us hl)
def Passes(CX:CXT)(X:Cx)(E:XK):Prop:=∀(pins:List (Addr×Obj)) (σ:St) (H:Hp) (s:Shared) (e:Value) (s':Shared),Inv X pins σ H s->CX X.stack H s E e s'->X.xe e s'
section
variable {X:Cx}{CX:CXT}{k:Nat}{f C:Addr}{fd:FuncData}{ps:List Str}{sp:Sp}{dvs:List V}{ds:List Value}{E:XK}{x m:Str}{p pos apos:Pos}{e o:Expr}{es:List Expr}{ta:TE}{t:TA}
theorem yy{pins:List (Addr×Obj)}{σ:St}{H:Hp}{s:Shared}{Q:VK}{us:List Value}{vs:List V}(F:be X.prog X.w X.K X.mg X.base CX k f fd ps sp)(hr:bC k X.A)(hb:Binds X.K fd ps ds)(hd:Vals dvs ds)(hx:Passes CX X E)
  (I:Inv X pins σ H s)(r:Vals vs us)(h:sp (vs++dvs) H Q E):wpAny (model X.prog X.w) X.A (call (.ref f) us) (EP X pins σ Q) X.xe s:=by
 have r2:Vals (vs++dvs) (us++ds):=r.append hd;have hl:(us++ds).length=ps.length:=by rw[←r2.length];exact F.len _ _ _ _ h
 refine wpAny_call (codeAny_mono (F.run X.A X.stack s H ⟨us,[]⟩ (us++ds) (vs++dvs) Q E hr I.As (hb s us I.kIn hl) r2 h) fun r s' hq=>?_);cases r with
 |error e=>exact hx pins σ H s e s' I hq
 |ok fl=>
  cases fl with
  |ret u=>exact I.after hq
  |next=>exact False.elim hq
  |brk=>exact False.elim hq
  |cont=>exact False.elim hq
theorem xf(F:be X.prog X.w X.K X.mg X.base CX k f fd ps sp)(hr:bC k X.A)(hg:Gl X x)(hm:X.mg x=some (.ref f))(hk:PySem.W.keepIn X.K (.ref f)=true)(hb:Binds X.K fd ps ds)(hd:Vals dvs ds)(hx:Passes CX X E)
  (ha:PA X (e::es) t)(hdb:(x == ("__debug__":Str))=false:=by decide)(he:starEach (e::es) X.env=(false,eval e X.env)::starEach es X.env:=by rfl)(hpl:(backTo pos (starEach es X.env)).any (·.1)=false:=by rfl) :
  PE X (.Call (.Name x p) (e::es) [] pos) (qG sp dvs E t):=by
 intro pins s σ H Q I h;refine wpAny_Call_Name_kw (pU I hg hm ?_ hdb);refine PySem.W.callWith_K (h₀:=X.base) I.ok.mod.kin hk (thn (ha pos pins s σ H _ I h) fun us s1 ⟨vs,H1,I1,r,q⟩=>⟨I1.kIn,?_⟩) he hpl;exact yy F hr hb hd hx I1 r q
end
section
variable {X:Cx}{CX:CXT}{k:Nat}{f C:Addr}{fd:FuncData}{ps ks:List Str}{sp:Sp}{E:XK}{x m:Str}{p pos apos kpos:Pos}{e o:Expr}{es:List Expr}{kws:List Keyword}{te ta:TE}{t tk:TA}{nm:Option Str}
variable {g:List Value->List Value->List Value}{gV:List V->List V->List V}
end
structure aJ(N P:List Str)(sc:Scope):Prop where
 kind:sc.kind=.function
 co:sc.isCoroutine=false
 gen:sc.isGenerator=false
 nd:N.Nodup
 pre:N.take P.length=P
 par:∀x∈P,sc.names.lookup x=some .local\/sc.names.lookup x=some .cell
 nofree:∀y∈sc.names,y.2≠.free
theorem mf{kindOf:Str->Option NameKind}{x:Str}:∀{binds:List (Str×Value)} {m:Str->Option Value},(∀v,(x,v) ∉ binds)->bindL kindOf binds m x=m x
 |[],_,_=>rfl
 |(n,v)::r,m,h=>by
  unfold bindL;rw[mf fun w hw=>h w (aad _ hw)];split
  ·have:x≠n:=by rintro rfl;exact h v aac
   simp[this]
  ·rfl
theorem mh{kindOf:Str->Option NameKind}{x:Str}:∀{binds:List (Str×Value)} {m:Str->Option Value},(∀v,(x,v) ∉ binds)->bindC kindOf binds m x=m x
 |[],_,_=>rfl
 |(n,v)::r,m,h=>by
  unfold bindC;rw[mh fun w hw=>h w (aad _ hw)];split
  ·rfl
  ·have:x≠n:=by rintro rfl;exact h v aac
   simp[this]
theorem mi{kindOf:Str->Option NameKind}{x:Str}{v:Value}:∀{P:List Str} {vs:List Value} {i:Nat} {m:Str->Option Value},P.Nodup->P[i]? =some x->vs[i]? =some v->kindOf x=some .local->
  bindL kindOf (P.zip vs) m x=some v
 |[],_,_,_,_,h,_,_=>by simp at h
 |_::_,[],_,_,_,_,h,_=>by simp at h
 |p::P,w::vs,0,m,nd,h1,h2,hk=>by
  simp at h1 h2;subst h1;subst h2;show bindL kindOf ((p,w)::P.zip vs) m p=_;unfold bindL;rw[mf fun v hv=>(List.nodup_cons.mp nd).1 (List.of_mem_zip hv).1,if_pos hk];simp
 |p::P,w::vs,i+1,m,nd,h1,h2,hk=>by
  show bindL kindOf ((p,w)::P.zip vs) m x=_;unfold bindL;exact mi (i:=i) (List.nodup_cons.mp nd).2 (by simpa using h1) (by simpa using h2) hk
theorem mj{kindOf:Str->Option NameKind}{x:Str}{v:Value}:∀{P:List Str} {vs:List Value} {i:Nat} {m:Str->Option Value},P.Nodup->P[i]? =some x->vs[i]? =some v->kindOf x≠some .local->
  bindC kindOf (P.zip vs) m x=some v
 |[],_,_,_,_,h,_,_=>by simp at h
 |_::_,[],_,_,_,_,h,_=>by simp at h
 |p::P,w::vs,0,m,nd,h1,h2,hk=>by
  simp at h1 h2;subst h1;subst h2;show bindC kindOf ((p,w)::P.zip vs) m p=_;unfold bindC;rw[mh fun v hv=>(List.nodup_cons.mp nd).1 (List.of_mem_zip hv).1,if_neg hk];simp
 |p::P,w::vs,i+1,m,nd,h1,h2,hk=>by
  show bindC kindOf ((p,w)::P.zip vs) m x=_;unfold bindC;exact mj (i:=i) (List.nodup_cons.mp nd).2 (by simpa using h1) (by simpa using h2) hk
def start(N:List Str)(vs:List V):St:=vs.map some++List.replicate (N.length - vs.length) none
def iG(CX:CXT)(P:Program)(w:World)(K:PySem.W.Frag)(mg:Str->Option Value)(base:Heap)(N:List Str)(qual:Str)(scope:Scope)(f:Addr)(cd:Value)(A:Around)(outer:List Env)(s:Shared)(H:Hp)(E:XK):Cx where
 prog:=P
 w:=w
 K:=K
 mg:=mg
 base:=base
 A:=A.deeper (envOfC qual scope s.heap.objs.size f cd)
 N:=N
 s₀:=s
 H₀:=H
 env:=envOfC qual scope s.heap.objs.size f cd
 outer:=outer
 stack:=envOfC qual scope s.heap.objs.size f cd::outer
 ex:=[]
 calm:=true
 fn:=fun _=>true
 pn:=[]
 xe:=fun e s'=>wpAny (model P w) (A.deeper (envOfC qual scope s.heap.objs.size f cd)) (leaving (envOfC qual scope s.heap.objs.size f cd) e) (fun _ s''=>CX outer H s E e s'') (fun e' s''=>CX outer H s E e' s'') s'
theorem nJ{sc:Scope}{n:Nat}{x:Str}(h:sc.names.lookup x=some .cell):∃c,(cellsFrom n sc.names []).lookup x=some c:=by
 have q:=PySem.W.cellsFrom_some sc.names n [] (.inl h);exact Option.isSome_iff_exists.mp q
theorem sN{CX:CXT}{P:Program}{w:World}{K:PySem.W.Frag}{mg:Str->Option Value}{base:Heap}{N ps:List Str}{qual:Str}{scope:Scope}{f:Addr}{cd:Value}{A:Around}{outer:List Env}{s s1:Shared}{H:Hp}{E:XK}{us:List Value}{vs:List V}
  (S:aJ N ps scope)(hd:A.handled=none)(e0:qF P w K mg base A outer s H)(hl:vs.length=ps.length)(r:Vals vs us)
  (x:InCallC s s.heap.objs.size (bindL (envOfC qual scope s.heap.objs.size f cd).kindOf (ps.zip us) fun _=>none) (cellsFrom (s.heap.objs.size+1) scope.names []) (bindC (envOfC qual scope s.heap.objs.size f cd).kindOf (ps.zip us) fun _=>none) s1) :
  Inv (iG CX P w K mg base N qual scope f cd A outer s H E) [] (start N vs) H s1:=by
 have hpl:ps.length<=N.length:=by have:=congrArg List.length S.pre;rw[aal] at this;omega
 obtain⟨h1,tk,rfl,hk⟩:=x.done;have noA:∀b:Addr,b ∉ (iG CX P w K mg base N qual scope f cd A outer s H E).ex:=fun b z=>absurd (show b∈([]:List Addr) from z) (by simp)
 refine⟨⟨e0.mod,S.kind,rfl,rfl,Nat.le_refl _,fun y z c h1 h2=>?_,fun y hy=>?_,fun y c _ h=>?_,fun _=>hd,Around.frames_deeper e0.frames,.inr ⟨rfl,rfl⟩,fun b z=>absurd z (noA b),e0.bs,e0.bsz,fun b _ _=>noA b,fun b z=>absurd z (noA b),e0.fZ,e0.frf⟩,
  rfl,e0.bare,Un.kept hk,⟨_,x.toInCall.ns,fun i y v h1 h2 h3=>?_⟩,fun y c h=>⟨_,x.cell y c h⟩,e0.hok.fresh (Nat.le_refl _),fun y c h=>?_,fun p hp=>absurd (show p∈([]:List (Addr×Obj)) from hp) (by simp),e0.hok.kept hk,?_⟩
 ·exact name_of_addr x.apart (PySem.mem_of_lookup h1) (PySem.mem_of_lookup h2)
 ·have hy:scope.names.lookup y=some .cell\/scope.names.lookup y=some .free:=hy;rcases hy with hy|hy
  ·exact nJ hy
  ·exact absurd rfl (S.nofree _ (PySem.mem_of_lookup hy))
 ·exact Nat.le_of_lt (x.above y c (PySem.mem_of_lookup h))
 ·have hi:i<vs.length:=by
   unfold start at h2
   by_cases hi:i<vs.length
   ·exact hi
   ·rw[List.getElem?_append_right (by simpa using hi)] at h2;rw[List.getElem?_replicate] at h2;split at h2 <;> cases h2
  have ha:vs[i]? =some v:=by
   unfold start at h2;rw[List.getElem?_append_left (by simpa using hi),aax] at h2;cases e:vs[i]? with
   |none=>rw[e] at h2;cases h2
   |some a=>rw[e] at h2;cases h2;rfl
  obtain⟨u,hu,rv⟩:=r.get ha;have hp:ps[i]? =some y:=by
   rw[←S.pre,List.getElem?_take_of_lt (by omega)];exact h1
  have ndP:ps.Nodup:=by rw[←S.pre];exact S.nd.sublist (List.take_sublist _ _)
  refine⟨u,rv,?_⟩;rcases S.par y (aah hp) with k|k
  ·exact .inl ⟨k,mi ndP hp hu k⟩
  ·obtain⟨c,e⟩:=nJ (n:=s.heap.objs.size+1) k;refine .inr ⟨.inl k,c,e,?_⟩;have q:=x.cell y c e;rw[mj ndP hp hu (by show scope.names.lookup y≠_;rw[k];decide)] at q;exact q
 ·exact e0.hok.fresh (Nat.le_of_lt (x.above y c (PySem.mem_of_lookup h)))
 ·unfold start;show _=N.length;rw[aag,aaa,List.length_replicate];omega
theorem wP{CX:CXT}{P:Program}{w:World}{K:PySem.W.Frag}{mg:Str->Option Value}{base:Heap}{k:Nat}{f:Addr}{name qual:Str}{params:Arguments}{body:List Stmt}{scope:Scope}{dV kV doc pm cdv ct oc:Value}{an od:Option Addr}
  {osl:Array (Option Value)}{N ps:List Str}{sp:Sp}(lk:K.lookup f=some ⟨oc,od,.func (PySem.W.fnOf name qual params body scope dV kV doc pm an cdv ct),osl⟩)(hcd:PySem.W.codeIn K cdv qual=true)(S:aJ N ps scope)
  (len:∀vs H Q E,sp vs H Q E->vs.length=ps.length)
  (hbody:∀(A:Around) (outer:List Env) (s:Shared) (H:Hp) (vs:List V) (Q:VK) (E:XK),bC k (A.deeper (envOfC qual scope s.heap.objs.size f cdv))->sp vs H Q E->
   ∃t,PSs (iG CX P w K mg base N qual scope f cdv A outer s H E) body t/\t {nx:=fun _ H'=>Q .non H',rt:=Q} (start N vs) H) :
  be P w K mg base CX (k+1) f (PySem.W.fnOf name qual params body scope dV kV doc pm an cdv ct) ps sp:=by
 refine⟨len,fun A outer s H args us vs Q E hr e0 hb r hsp=>?_⟩;have hl:=len _ _ _ _ hsp;have KX:K.In s.heap:=e0.mod.kin.keeps fun b o e=>(e0.bs b o e).1
 have lim:s.heap.NoLimit:=e0.mod.nolimit.keeps fun b o e=>(e0.bs b o e).1
 have hkind:∀y∈ps.zip us,scope.names.lookup y.1=some .local\/(scope.names.lookup y.1=some .cell/\((cellsFrom (s.heap.objs.size+1) scope.names []).lookup y.1).isSome=true):=fun⟨n,v⟩ hy=>by
  rcases S.par n (List.of_mem_zip hy).1 with q|q
  ·exact .inl q
  ·exact .inr ⟨q,PySem.W.cellsFrom_some _ _ _ (.inl q)⟩
 refine codeAny_call_function hr.depth (KX _ _ lk) rfl S.co S.gen rfl (PySem.W.codeRec_of KX hcd) (hb _ _ _ _ ?_);refine wpAny_newFunctionEnv_cells S.kind hkind fun env he s1 x=>?_
 subst he;refine⟨lim.keeps x.toInCall.keep,codeAny_func ?_⟩;obtain⟨t,ht,hq⟩:=hbody A outer s H vs Q E (hr.deeper _) hsp;have I:Inv (iG CX P w K mg base N qual scope f cdv A outer s H E) [] (start N vs) H s1:=sN S hr.hd e0 hl r x;refine wpAny_mono (ht [] s1 (start N vs) H _ I hq) (fun fl s' hs=>?_) fun e s' hs=>hs
 have fin:∀{σ':St} {H':Hp} {v:V} {u:Value},Inv (iG CX P w K mg base N qual scope f cdv A outer s H E) [] σ' H' s'->RelV v u->Q v H'->CE outer P w H s Q u s':=
  fun{σ' H' v u} J rv q=>⟨v,H',J.os,J.bare,J.base,J.hok,rv,q⟩
 cases fl with
 |ret u=>
  obtain⟨v,σ',H',J,rv,q⟩:=hs;exact fin J rv q
 |next=>
  obtain⟨σ',H',J,q⟩:=hs;exact fin (v:=V.non) (u:=Value.none) J rfl q
 |brk=>
  obtain⟨_,_,_,q⟩:=hs;exact False.elim q
 |cont=>
  obtain⟨_,_,_,q⟩:=hs;exact False.elim q
end L2
namespace L2
open PySem PySem.Spec PyProof.Rows
section
variable {X:Cx}{x:Str}{p pos:Pos}{e:Expr}{es:List Expr}{t:TA}{id T:String}{r:List V->Hp->VK->Prop}
def tCB(r:List V->Hp->VK->Prop)(t:TA):TE:=fun σ H Q=>t σ H fun vs H1=>r vs H1 Q
theorem au(hc:dQ X (.builtin id) r)(hg:Gl X x)(hm:X.mg x=none)(hv:bootBuiltins x=some (.builtin id))(ha:PA X (e::es) t)(hn:x≠"__name__":=by decide)(hdb:(x == ("__debug__":Str))=false:=by decide)
  (he:starEach (e::es) X.env=(false,eval e X.env)::starEach es X.env:=by rfl)(hpl:(backTo pos (starEach es X.env)).any (·.1)=false:=by rfl):PE X (.Call (.Name x p) (e::es) [] pos) (tCB r t):=by
 intro pins s σ H Q I h;refine wpAny_Call_Name_kw (fO I hg hm hv ?_ hn hdb);exact PyProof.Rows.callWith_builtin1 (thn (ha pos pins s σ H _ I h) fun us s1 ⟨vs,H1,I1,r1,q1⟩=>hc pins s1 σ H1 vs us Q I1 r1 q1) he hpl
theorem dy(hc:dQ X (.type T) r)(hg:Gl X x)(hm:X.mg x=none)(hv:bootBuiltins x=some (.type T))(ha:PA X (e::es) t)(hn:x≠"__name__":=by decide)(hdb:(x == ("__debug__":Str))=false:=by decide)
  (he:starEach (e::es) X.env=(false,eval e X.env)::starEach es X.env:=by rfl)(hpl:(backTo pos (starEach es X.env)).any (·.1)=false:=by rfl):PE X (.Call (.Name x p) (e::es) [] pos) (tCB r t):=by
 intro pins s σ H Q I h;refine wpAny_Call_Name_kw (fO I hg hm hv ?_ hn hdb);exact PyProof.Rows.callWith_type1 (thn (ha pos pins s σ H _ I h) fun us s1 ⟨vs,H1,I1,r1,q1⟩=>hc pins s1 σ H1 vs us Q I1 r1 q1) he hpl
end
end L2
namespace HT
open PySem PyProof.Rows
section
open PySem.SeqAt
open PySem.MeetsSeq PySem.MeetsSeq2 PySem.MeetsSeq3
end
section
variable {prog:Program}{w:World}{A:Around}{E:Value->Shared->Prop}{s:Shared}
def sIx(n d:Nat):Option Int->Nat
 |none=>d
 |some v=>if v<0 then (v+(n:Int)).toNat else min v.toNat n
theorem iH(n d:Nat):sIx n d none=d:=rfl
theorem gn(n d k:Nat):sIx n d (some (k:Int))=min k n:=by
 show(if (k:Int)<0 then ((k:Int)+(n:Int)).toNat else min (k:Int).toNat n)=min k n;rw[if_neg (by omega),Int.toNat_natCast]
theorem yz(n d:Nat)(hd:d<=n)(o:Option Int):sIx n d o<=n:=by
 cases o with
 |none=>exact hd
 |some v=>
  show(if v<0 then (v+(n:Int)).toNat else min v.toNat n)<=n
  by_cases hv:v<0
  ·rw[if_pos hv];omega
  ·rw[if_neg hv];exact Nat.min_le_right _ _
theorem p4(v:Int)(n d:Nat):(if v<0 then max (v+(n:Int)) 0 else min v (n:Int))=((sIx n d (some v):Nat):Int):=by
 show(if v<0 then max (v+(n:Int)) 0 else min v (n:Int))=(((if v<0 then (v+(n:Int)).toNat else min v.toNat n):Nat):Int)
 by_cases hv:v<0
 ·simp only[if_pos hv];omega
 ·simp only[if_neg hv];omega
theorem qH(lo hi:Option Int)(n:Nat):Builtin.Slice.sliceAdjust lo hi 1 (n:Int)=(((sIx n 0 lo:Nat):Int),((sIx n n hi:Nat):Int)):=by
 have h1:¬((1:Int)<0):=by omega
 unfold Builtin.Slice.sliceAdjust;simp only[h1,if_false];refine Prod.ext ?_ ?_
 ·cases lo with
  |none=>rfl
  |some v=>exact p4 v n 0
 ·cases hi with
  |none=>rfl
  |some v=>exact p4 v n n
theorem qI(i j:Nat):Builtin.Slice.slicePlaces (i:Int) (j:Int) 1=j - i:=by
 unfold Builtin.Slice.slicePlaces;have h1:(1:Int) > 0:=by omega
 simp only[h1,if_true,Int.ediv_one];split <;> omega
theorem ky{v:Value}{o:Option Int}{Q:Option Int->Shared->Prop}(p:IsPart v o)(h:Q o s):wpAny (model prog w) A (Builtin.Slice.slicePartIndex v) Q E s:=by
 cases p with
 |none=>exact slicePart_none h
 |int i t=>exact slicePart_int h
theorem j0{sl:Addr}{vl vu:Value}{lo hi:Option Int}{n:Nat}{Q:Int×Int×Nat->Shared->Prop}(hs:s.heap.IsSliceOf sl vl vu .none)(pl:IsPart vl lo)(pu:IsPart vu hi)
  (h:Q (((sIx n 0 lo:Nat):Int),1,sIx n n hi - sIx n 0 lo) s):wpAny (model prog w) A (Builtin.Slice.sliceApplied (.ref sl) (pure (n:Int))) Q E s:=by
 obtain⟨os,hos,hcs,hds⟩:=id hs;unfold Builtin.Slice.sliceApplied Builtin.Slice.sliceFields;refine wpAny_bind (wpAny_bind (wpAny_field hos hds (x:=vl) rfl (wpAny_bind (wpAny_field hos hds (x:=vu) rfl (wpAny_bind (wpAny_field hos hds (x:=.none) rfl (wpAny_pure ?_)))))));refine wpAny_bind (slicePart_none ?_);show wpAny _ _ (if ((1:Int) == 0)=true then _ else _) _ _ s;rw[if_neg (by decide)];refine wpAny_bind (ky pl (wpAny_bind (ky pu (wpAny_bind (wpAny_pure ?_)))));show wpAny _ _ (match Builtin.Slice.sliceAdjust lo hi 1 (n:Int) with | (lo,hi)=>pure (lo,(1:Int),Builtin.Slice.slicePlaces lo hi 1)) _ _ s;rw[qH lo hi n];show wpAny _ _ (pure (((sIx n 0 lo:Nat):Int),(1:Int),Builtin.Slice.slicePlaces ((sIx n 0 lo:Nat):Int) ((sIx n n hi:Nat):Int) 1)) _ _ s;rw[qI];exact wpAny_pure h
theorem uP(xs:Array Value)(i k:Nat):((List.range k).filterMap fun(m:Nat)=>xs[((i:Int)+(m:Int)*1).toNat]?).toArray=((xs.toList.drop i).take k).toArray:=by
 have e:(fun(m:Nat)=>xs[((i:Int)+(m:Int)*1).toNat]?)=fun m=>xs[i+m]?:=by
  funext m
  have:((i:Int)+(m:Int)*1).toNat=i+m:=by omega
  rw[this]
 rw[e];have:=pick_run xs i k;rw[List.filterMap_map] at this;have e2:((fun x=>xs[x]?) ∘ fun x=>i+x)=fun m=>xs[i+m]?:=rfl
 rw[e2] at this;rw[this]
theorem jL{t sl:Addr}{items:Array Value}{vl vu:Value}{lo hi:Option Int}{Q:Value->Shared->Prop}(ht:IsTup s.heap t items)(hs:s.heap.IsSliceOf sl vl vu .none)(pl:IsPart vl lo)(pu:IsPart vu hi)
  (hw:¬(sIx items.size 0 lo=0/\sIx items.size items.size hi=items.size))
  (h:Q (.ref s.heap.objs.size) {s with heap:=s.heap.push {cls:=.type "tuple",data:=.seq ((items.toList.drop (sIx items.size 0 lo)).take (sIx items.size items.size hi - sIx items.size 0 lo)).toArray}})
  (hsz:items.size<=sizeLine):wpAny (model prog w) A (getItem (.ref t) (.ref sl)) Q E s:=by
 have htake:sizeOk (.seq ((items.toList.drop (sIx items.size 0 lo)).take (sIx items.size items.size hi - sIx items.size 0 lo)).toArray):=by
  show((items.toList.drop (sIx items.size 0 lo)).take (sIx items.size items.size hi - sIx items.size 0 lo)).toArray.size<=sizeLine;rw[aaq,aal,List.length_drop,Array.length_toList];omega
 have hj:sIx items.size items.size hi<=items.size:=yz _ _ (Nat.le_refl _) hi;obtain⟨os,hos,hcs,hds⟩:=id hs;have hTs:s.TypeIs (.ref sl) "slice":=⟨os,hos,hcs⟩;unfold getItem
 try with_reducible refine wpAny_holding ?_
 first | refine wpAny_bind (wpAny_pure ?_) | skip
 refine wpAny_bind (wpAny_sequenceKey ht.typeIs (by decide) ?_);refine wpAny_bind (wpAny_callSpecial?_slot (name:=Str.ofString "__getitem__") ht.typeIs PyProof.Rows.slot_tuple_getitem
  (wpAny_call_entry PyProof.Rows.slot_tuple_getitem ht.typeIs entry_tuple_getitem ?_ (args_tuple_getitem _ _)))
 show wpAny _ _ (Builtin.Tuple.tupleItemsOf (.ref t) >>= _) _ _ s;refine wpAny_bind (tupleItemsOf_ ht ?_);refine wpAny_bind (wpAny_typeOf hTs ?_);rw[if_pos (by decide)];refine wpAny_bind (j0 hs pl pu ?_);have hno:¬((((sIx items.size 0 lo:Nat):Int) == 0 && (1:Int) == 1 && (sIx items.size items.size hi - sIx items.size 0 lo) == items.size)=true):=by
  intro q;rw[Bool.and_eq_true,Bool.and_eq_true] at q;have q1:((sIx items.size 0 lo:Nat):Int)=0:=eq_of_beq q.1.1;have q2:sIx items.size items.size hi - sIx items.size 0 lo=items.size:=eq_of_beq q.2;exact hw ⟨by omega,by omega⟩
 show wpAny _ _ (if (((sIx items.size 0 lo:Nat):Int) == 0 && (1:Int) == 1 && (sIx items.size items.size hi - sIx items.size 0 lo) == items.size)=true then _ else _) _ _ s;rw[if_neg hno,uP]
 first
  |exact wpAny_bind (m:=Builtin.Tuple.tupleExact _) (wpAny_newObj_type (wpAny_pure ⟨_,rfl,wpAny_pure h⟩) htake)
  |exact wpAny_bind (m:=Builtin.Tuple.tupleExact _) (wpAny_newObj_type (wpAny_bind (wpAny_pure (wpAny_pure ⟨_,rfl,wpAny_pure h⟩))) htake)
  |exact wpAny_bind (wpAny_bind (m:=Builtin.Tuple.tupleExact _) (wpAny_newObj_type (wpAny_pure (wpAny_pure ⟨_,rfl,wpAny_pure h⟩)) htake))
  |exact wpAny_bind (wpAny_bind (m:=Builtin.Tuple.tupleExact _) (wpAny_newObj_type (wpAny_pure ⟨_,rfl,wpAny_pure h⟩) htake))
end
end HT
namespace L2
open PySem PySem.Spec PyProof.Rows
abbrev TO:=St->Hp->(Option Int->Hp->Prop)->Prop
def PO(X:Cx)(e:Option Expr)(t:TO):Prop:=
 ∀(pins:List (Addr×Obj)) (s:Shared) (σ:St) (H:Hp) (Q:Option Int->Hp->Prop),Inv X pins σ H s->t σ H Q->
  wpAny (model X.prog X.w) X.A (evalPart e X.env) (fun u s'=>∃o H',Inv X pins σ H' s'/\IsPart u o/\Q o H') X.xe s
def xg:TO:=fun _ H Q=>Q none H
def zL(t:TE):TO:=fun σ H Q=>t σ H fun x H1=>∃i,x=.int i/\Q (some i) H1
theorem intsAre_of{ns:List Int}:∀{us:List Value},Vals (ns.map V.int) us->IntsAre us ns:=by
 induction ns with
 |nil=>intro us r;rw[List.map_nil] at r;cases r;exact .nil
 |cons n ns ih=>
  intro us r;rw[aaw] at r;cases r with
  |cons r1 r2=>
   obtain⟨t,e⟩:=r1;subst e;exact .cons n t (ih r2)
section
variable {X:Cx}{e:Expr}{te:TE}{lo hi:Option Expr}{tl th:TO}{pos p2:Pos}
theorem eQ:PO X none xg:=by
 intro pins s σ H Q I h;rw[evalPart_none];exact wpAny_pure ⟨none,H,I,.none,h⟩
theorem dN(h:PE X e te):PO X (some e) (zL te):=by
 intro pins s σ H Q I hw;rw[evalPart_some];refine thn (h pins s σ H _ I hw) fun u s1 ⟨x,H1,I1,r1,q1⟩=>?_
 obtain⟨i,rfl,q⟩:=q1;obtain⟨t,rfl⟩:=r1;exact⟨some i,H1,I1,.int i t,q⟩
def SlR(X:Cx)(r:V->Option Int->Option Int->Hp->VK->Prop):Prop:=
 ∀(pins:List (Addr×Obj)) (s:Shared) (σ:St) (H:Hp) (x:V) (v vl vu:Value) (lo hi:Option Int) (sl:Addr) (Q:VK),Inv X pins σ H s->RelV x v->s.heap.IsSliceOf sl vl vu .none->IsPart vl lo->IsPart vu hi->r x lo hi H Q->
  ∃T id,typeLookup (.type T) "__getitem__"=pure (some (.builtin id))/\s.TypeIs v T/\wpAny (model X.prog X.w) X.A (getItem v (.ref sl)) (EP X pins σ Q) X.xe s
def tSl(r:V->Option Int->Option Int->Hp->VK->Prop)(te:TE)(tl th:TO):TE:=fun σ H Q=>te σ H fun x H1=>tl σ H1 fun l H2=>th σ H2 fun u H3=>r x l u H3 Q
theorem dD{r:V->Option Int->Option Int->Hp->VK->Prop}(hr:SlR X r)(he:PE X e te)(hl:PO X lo tl)(hu:PO X hi th):PE X (.Subscript e (.Slice lo hi none p2) pos) (tSl r te tl th):=by
 intro pins s σ H Q I h;refine Subscript_ (thn (he pins s σ H _ I h) fun v s1 ⟨x,H1,I1,r1,q1⟩=>?_);refine wpAny_Slice (thn (hl pins s1 σ H1 _ I1 q1) fun vl s2 ⟨l,H2,I2,pl,q2⟩=>thn (hu pins s2 σ H2 _ I2 q2) fun vu s3 ⟨u,H3,I3,pu,q3⟩=>?_);rw[evalPart_none];refine wpAny_pure ?_;have I4:Inv X pins σ H3 {s3 with heap:=s3.heap.push {cls:=.type "slice",data:=.fields #[vl,vu,.none]}}:=I3.kept (t':=s3.toks) fun b ob q=>aaf _ q
 obtain⟨T,id,hT,ht,hg⟩:=hr pins {s3 with heap:=s3.heap.push {cls:=.type "slice",data:=.fields #[vl,vu,.none]}} σ H3 x v vl vu l u s3.heap.objs.size Q I4 r1 (Heap.IsSliceOf.new ..) pl pu q3;show wpAny (model X.prog X.w) X.A (subscriptTail e (.Slice lo hi none p2) v (.ref s3.heap.objs.size)) (EP X pins σ Q) X.xe {s3 with heap:=s3.heap.push {cls:=.type "slice",data:=.fields #[vl,vu,.none]}};exact tail_any (ops:=[.ref s3.heap.objs.size,v]) ht hT hg (by with_unfolding_all rfl)
def de(xs:List V)(lo hi:Option Int):List V:=(xs.drop (HT.sIx xs.length 0 lo)).take (HT.sIx xs.length xs.length hi - HT.sIx xs.length 0 lo)
theorem jM(xs:List V)(lo hi:Option Int):(de xs lo hi).length<=xs.length:=by
 unfold de;rw[aal,List.length_drop];omega
def At(K:PySem.W.Frag):V->Option Int->Option Int->Hp->VK->Prop:=fun x lo hi H Q=>∃a xs,x=.ref a/\SqT K H a xs/\
 ¬(HT.sIx xs.length 0 lo=0/\HT.sIx xs.length xs.length hi=xs.length)/\∀p,H p=none->Q (.ref p) (upd H p (.tup (de xs lo hi)))
theorem yA:SlR X (At X.K):=by
 intro pins s σ H x v vl vu lo hi sl Q I rx hs pl pu h;obtain⟨a,xs,rfl,hx,hw,q⟩:=h;cases rx
 obtain⟨its,r,ht,hz⟩:=I.tuple hx;have hlen:its.toArray.size=xs.length:=by rw[aaq];exact r.length.symm
 refine⟨"tuple",_,PyProof.Rows.slot_tuple_getitem.lookup,ht.typeIs,?_⟩;refine HT.jL ht hs pl pu (by rw[hlen];exact hw) ?_ (by rw[hlen];exact hz);rw[hlen];refine⟨.ref s.heap.objs.size,_,I.laid (t':=s.toks) (o:=.tup (de xs lo hi)) (fun b ob q=>aaf _ q) (Nat.le_refl _) ?_,rfl,q _ (I.hok.fresh (Nat.le_refl _))⟩;exact⟨Nat.le_trans (jM xs lo hi) hz,_,(r.drop (HT.sIx xs.length 0 lo)).take (HT.sIx xs.length xs.length hi - HT.sIx xs.length 0 lo),IsTup.new _ _⟩
end
end L2
namespace L2
open PySem PySem.Spec PyProof.Rows
def ixN(n:Nat)(i:Int):Option Nat:=if 0<=i then (if i<n then some i.toNat else none) else if -(n:Int)<=i then some (i+n).toNat else none
def atI{α:Type}(xs:List α)(i:Int):Option α:=(ixN xs.length i).bind fun j=>xs[j]?
theorem xh{n:Nat}{i:Int}{j:Nat}(h:ixN n i=some j):seqIndex? i n=some j/\j<n/\-(n:Int)<=i/\i<n:=by
 unfold ixN at h
 by_cases h0:0<=i
 ·rw[if_pos h0] at h
  by_cases h1:i<n
  ·rw[if_pos h1] at h;have e:i.toNat=j:=Option.some.inj h;exact⟨by rw[seqIndex_of h0 h1,e],by omega,by omega,h1⟩
  ·rw[if_neg h1] at h;cases h
 ·rw[if_neg h0] at h
  by_cases h1:-(n:Int)<=i
  ·rw[if_pos h1] at h;have e:(i+n).toNat=j:=Option.some.inj h;exact⟨by rw[seqIndex_neg (by omega) h1,e],by omega,h1,by omega⟩
  ·rw[if_neg h1] at h;cases h
theorem lD{α:Type}{xs:List α}{i:Int}{v:α}(h:atI xs i=some v):∃j,seqIndex? i xs.length=some j/\xs[j]? =some v/\j<xs.length/\-(xs.length:Int)<=i/\i<xs.length:=by
 unfold atI at h;cases e:ixN xs.length i with
 |none=>rw[e] at h;cases h
 |some j=>
  rw[e] at h;obtain⟨h1,h2,h3,h4⟩:=xh e;exact⟨j,h1,h,h2,h3,h4⟩
theorem ak{α:Type}{xs:List α}{j:Nat}{v:α}(h:xs[j]? =some v):atI xs (j:Int)=some v:=by
 have hj:j<xs.length:=(aab.mp h).1;have e:ixN xs.length (j:Int)=some j:=by
  unfold ixN;rw[if_pos (by omega),if_pos (by omega)];simp
 unfold atI;rw[e];exact h
def p5(b:Expr):Prop:=∀o i,subscripted b false o i=operate [o,i] (getItem o i)
def IxR(X:Cx)(r:R2):Prop:=
 ∀(value slice:Expr) (pins:List (Addr×Obj)) (s:Shared) (σ:St) (H:Hp) (x y:V) (v u:Value) (Q:VK),Inv X pins σ H s->RelV x v->RelV y u->r x y H Q->
  subscripted slice false v u=operate [v,u] (getItem v u)->wpAny (model X.prog X.w) X.A (subscriptTail value slice v u) (EP X pins σ Q) X.xe s
def MtR(X:Cx)(id:String)(r:V->List V->Hp->VK->Prop):Prop:=
 ∀(pins:List (Addr×Obj)) (s:Shared) (σ:St) (H:Hp) (x:V) (xs:List V) (v:Value) (us:List Value) (Q:VK),Inv X pins σ H s->RelV x v->Vals xs us->r x xs H Q->
  wpAny (model X.prog X.w) X.A (call (.builtin id) (v::us)) (EP X pins σ Q) X.xe s
section
variable {X:Cx}{a b:Expr}{ta tb:TE}{pos:Pos}
theorem IxR.or{r r':R2}(h:IxR X r)(h':IxR X r'):IxR X (fun x y H Q=>r x y H Q\/r' x y H Q):=by
 intro value slice pins s σ H x y v u Q I rx ry q hs;rcases q with q|q
 ·exact h value slice pins s σ H x y v u Q I rx ry q hs
 ·exact h' value slice pins s σ H x y v u Q I rx ry q hs
theorem aC{r:R2}(hr:IxR X r)(ha:PE X a ta)(hb:PE X b tb)(hs:p5 b):PE X (.Subscript a b pos) (tOp r ta tb):=by
 intro pins s σ H Q I h;exact Subscript_ (uH ha hb I h fun v u s2 x y H2 I2 rx ry q=>hr a b pins s2 σ H2 x y v u Q I2 rx ry q (hs _ _))
def eZ(K:PySem.W.Frag):R2:=fun x y H Q=>∃p xs i v,x=.ref p/\y=.int i/\SqL K H p xs/\atI xs i=some v/\Q v H
def j1(K:PySem.W.Frag):R2:=fun x y H Q=>∃p xs i v,x=.ref p/\y=.int i/\SqT K H p xs/\atI xs i=some v/\Q v H
def qJ:R2:=fun x y H Q=>∃z i c,x=.str z/\y=.int i/\z.length<=sizeLine/\atI z.cps.toList i=some c/\Q (.str ⟨#[c]⟩) H
theorem bn:IxR X (eZ X.K):=by
 intro value slice pins s σ H x y v u Q I rx ry h hs;obtain⟨p,xs,i,z,rfl,rfl,hq,he,q⟩:=h;cases rx
 obtain⟨t,rfl⟩:=ry;obtain⟨its,r,pl,hz⟩:=I.list hq;obtain⟨j,h1,h2,h3,h4,h5⟩:=lD he;obtain⟨w,ew,rw'⟩:=r.get h2;have hl:=r.length;have hn:=i9;have fin:EP X pins σ Q w s:=⟨z,H,I,rw',q⟩
 by_cases h0:0<=i
 ·have hj:i.toNat=j:=by
   rw[seqIndex_of h0 h5] at h1;exact Option.some.inj h1
  exact item_listR pl.isList h0 (by omega) (by rw[hj];simpa using ew) fin hs
 ·have hj:(i+(its.toArray.size:Int)).toNat=j:=by
   rw[seqIndex_neg (by omega) h4] at h1;rw[aaq,←hl];exact Option.some.inj h1
  exact subscriptTail_builtinR (x:=w) pl.isList.typeIs slot_list_getitem.lookup
   (wpAny_getItem_list_neg (Q:=fun r s'=>r=w/\EP X pins σ Q r s') pl.isList (by omega) (by rw[aaq] <;> omega) (by omega) (by rw[hj];simpa using ew) ⟨rfl,fin⟩) hs
theorem aF:IxR X (j1 X.K):=by
 intro value slice pins s σ H x y v u Q I rx ry h hs;obtain⟨p,xs,i,z,rfl,rfl,hq,he,q⟩:=h;cases rx
 obtain⟨t,rfl⟩:=ry;obtain⟨its,r,pl,hz⟩:=I.tuple hq;obtain⟨j,h1,h2,h3,h4,h5⟩:=lD he;obtain⟨w,ew,rw'⟩:=r.get h2;have hl:=r.length;have hn:=i9;have fin:EP X pins σ Q w s:=⟨z,H,I,rw',q⟩;exact subscriptTail_builtinR (x:=w) pl.typeIs slot_tuple_getitem.lookup
  (getItem_tuple (j:=j) (Q:=fun r s'=>r=w/\EP X pins σ Q r s') pl (by omega) (by omega) (by rw[aaq,←hl];exact h1) (by simpa using ew) ⟨rfl,fin⟩) hs
theorem nK:IxR X qJ:=by
 intro value slice pins s σ H x y v u Q I rx ry h hs;obtain⟨z,i,c,rfl,rfl,hz,he,q⟩:=h;obtain⟨t,rfl⟩:=rx;obtain⟨t',rfl⟩:=ry;obtain⟨j,h1,h2,h3,h4,h5⟩:=lD he;have hl:z.cps.toList.length=z.length:=by simp[Str.length]
 rw[hl] at h1 h4 h5;have hn:=i9;exact tail_any (typeIs_str s z t) slot_str_getitem.lookup (getItem_str (c:=c) (by
  have e1:decide (i < -(2 ^ 63:Int))=false:=aai (by omega);have e2:decide (i ≥ 2 ^ 63)=false:=aai (by omega);rw[e1,e2,Bool.or_false]) (by rw[h1];simpa using h2) ⟨.str ⟨#[c]⟩,H,I.tok _,⟨_,rfl⟩,q⟩) hs
def rIx(K:PySem.W.Frag):R2:=fun x y H Q=>eZ K x y H Q\/j1 K x y H Q\/qJ x y H Q
theorem sO:IxR X (rIx X.K):=bn.or (aF.or nK)
theorem nL(lo hi:Option Int)(n:Nat):(sliceBounds lo hi none n).1=((HT.sIx n 0 lo:Nat):Int)/\(sliceBounds lo hi none n).2.1=((HT.sIx n n hi:Nat):Int)/\(sliceBounds lo hi none n).2.2=1:=by
 refine⟨?_,?_,rfl⟩
 ·cases lo with
  |none=>simp[sliceBounds,HT.sIx]
  |some i=>
   simp only[sliceBounds,HT.sIx,Option.getD_none,show(1:Int) > 0 by decide,if_true]
   by_cases h:i<0
   ·simp only[h,if_true] <;> omega
   ·simp only[h,if_false] <;> omega
 ·cases hi with
  |none=>simp[sliceBounds,HT.sIx]
  |some i=>
   simp only[sliceBounds,HT.sIx,Option.getD_none,show(1:Int) > 0 by decide,if_true]
   by_cases h:i<0
   ·simp only[h,if_true] <;> omega
   ·simp only[h,if_false] <;> omega
theorem mP(its:List Value)(lo hi:Option Int):slicePick its.toArray lo hi none=((its.drop (HT.sIx its.length 0 lo)).take (HT.sIx its.length its.length hi - HT.sIx its.length 0 lo)).toArray:=by
 obtain⟨h1,h2,h3⟩:=nL lo hi its.toArray.size;unfold slicePick;rw[h1,h2,h3];simp only[sliceRange_one,pick_run,aaq] <;> rfl
def Au(K:PySem.W.Frag):V->Option Int->Option Int->Hp->VK->Prop:=fun x lo hi H Q=>∃a xs,x=.ref a/\SqL K H a xs/\∀p,H p=none->Q (.ref p) (upd H p (.lst (de xs lo hi)))
theorem eR:SlR X (Au X.K):=by
 intro pins s σ H x v vl vu lo hi sl Q I rx hs pl pu h;obtain⟨a,xs,rfl,hx,q⟩:=h;cases rx
 obtain⟨its,r,ht,hz⟩:=I.list hx;have hlen:=r.length;refine⟨"list",_,slot_list_getitem.lookup,ht.isList.typeIs,?_⟩;refine wpAny_getItem_list_slice ht.isList hs pl pu .none (by simp) ?_ (by rw[aaq] <;> omega);rw[mP,←hlen];refine⟨.ref s.heap.objs.size,_,I.laid (t':=s.toks) (o:=.lst (de xs lo hi)) (fun b ob q=>aaf _ q) (Nat.le_refl _) ?_,rfl,q _ (I.hok.fresh (Nat.le_refl _))⟩;exact⟨Nat.le_trans (jM xs lo hi) hz,_,0,(r.drop (HT.sIx xs.length 0 lo)).take (HT.sIx xs.length xs.length hi - HT.sIx xs.length 0 lo),aay _ rfl⟩
def ga:V->Bool
 |.non=>true
 |.bl _=>true
 |.int _=>true
 |.str _=>true
 |_=>false
def eqV:V->V->Bool
 |.non,.non=>true
 |.bl a,.bl b=>a == b
 |.bl a,.int b=>(if a then 1 else 0) == b
 |.int a,.bl b=>a == (if b then 1 else 0)
 |.int a,.int b=>a == b
 |.str a,.str b=>a == b
 |_,_=>false
theorem nM{A:Around}{s:Shared}{y x:V}{u v:Value}(ry:RelV y u)(rx:RelV x v)(fy:ga y=true)(fx:ga x=true):SeqAt.EqAt A s u v (eqV y x):=by
 cases y with
 |non=>
  cases ry
  cases x with
  |non=>cases rx;exact SeqAt.EqAt.same _
  |bl b=>cases rx;exact SeqAt.EqAt.none_bool b
  |int b=>obtain⟨t,rfl⟩:=rx;exact SeqAt.EqAt.none_int b t
  |str b=>obtain⟨t,rfl⟩:=rx;exact SeqAt.EqAt.none_str b t
  |_=>exact absurd (show false=true from fx) Bool.false_ne_true
 |bl a=>
  cases ry
  cases x with
  |non=>cases rx;exact SeqAt.EqAt.bool_none a
  |bl b=>cases rx;exact SeqAt.EqAt.bool_bool a b
  |int b=>obtain⟨t,rfl⟩:=rx;exact SeqAt.EqAt.bool_int a b t
  |str b=>obtain⟨t,rfl⟩:=rx;exact SeqAt.EqAt.bool_str a b t
  |_=>exact absurd (show false=true from fx) Bool.false_ne_true
 |int a=>
  obtain⟨t',rfl⟩:=ry;cases x with
  |non=>cases rx;exact SeqAt.EqAt.int_none a t'
  |bl b=>cases rx;exact SeqAt.EqAt.int_bool a t' b
  |int b=>obtain⟨t,rfl⟩:=rx;exact SeqAt.EqAt.int_int a t' b t
  |str b=>obtain⟨t,rfl⟩:=rx;exact SeqAt.EqAt.int_str a t' b t
  |_=>exact absurd (show false=true from fx) Bool.false_ne_true
 |str a=>
  obtain⟨t',rfl⟩:=ry;cases x with
  |non=>cases rx;exact SeqAt.EqAt.str_none a t'
  |bl b=>cases rx;exact SeqAt.EqAt.str_bool a t' b
  |int b=>obtain⟨t,rfl⟩:=rx;exact SeqAt.EqAt.str_int a t' b t
  |str b=>obtain⟨t,rfl⟩:=rx;exact SeqAt.EqAt.str_str a t' b t
  |_=>exact absurd (show false=true from fx) Bool.false_ne_true
 |_=>exact absurd (show false=true from fy) Bool.false_ne_true
def eqU(x:V)(u:Value):Bool:=match u with
 |.none=>eqV .non x
 |.bool b=>eqV (.bl b) x
 |.int i _=>eqV (.int i) x
 |.str z _=>eqV (.str z) x
 |_=>false
theorem sP{x y:V}{u:Value}(r:RelV y u)(f:ga y=true):eqU x u=eqV y x:=by
 cases y with
 |non=>cases r;rfl
 |bl b=>cases r;rfl
 |int i=>obtain⟨t,rfl⟩:=r;rfl
 |str z=>obtain⟨t,rfl⟩:=r;rfl
 |_=>exact absurd (show false=true from f) Bool.false_ne_true
theorem hX{x:V}:∀{xs:List V} {us:List Value},Vals xs us->xs.all ga=true->us.any (eqU x)=xs.any fun y=>eqV y x
 |_,_,.nil,_=>rfl
 |y::xs,u::us,.cons r t,f=>by
  rw[List.all_cons,Bool.and_eq_true] at f;rw[List.any_cons,List.any_cons,sP r f.1,hX t f.2]
theorem gu{A:Around}{s:Shared}{x:V}{v:Value}(rx:RelV x v)(fx:ga x=true):∀{xs:List V} {us:List Value},Vals xs us->xs.all ga=true->∀u∈us,SeqAt.EqAt A s u v (eqU x u)
 |_,_,.nil,_=>fun u hu=>by cases hu
 |y::xs,u::us,.cons r t,f=>fun u' hu=>by
  rw[List.all_cons,Bool.and_eq_true] at f;rcases List.mem_cons.mp hu with rfl|hu
  ·rw[sP r f.1];exact nM r rx f.1 fx
  ·exact gu rx fx t f.2 u' hu
def inV(x:V)(xs:List V):Bool:=xs.any fun y=>eqV y x
def rIn(K:PySem.W.Frag)(neg:Bool):R2:=fun x y H Q=>∃p xs,y=.ref p/\(SqL K H p xs\/SqT K H p xs)/\ga x=true/\xs.all ga=true/\Q (.bl (if neg then !inV x xs else inV x xs)) H
theorem fQ:OpR X (compareOp .In) (rIn X.K false):=by
 intro pins s σ H x y v u Q I rx ry h;obtain⟨p,xs,rfl,hq,fx,fs,q⟩:=h;cases ry
 rcases hq with hq|hq
 ·obtain⟨its,r,pl,hz⟩:=I.list hq;refine SeqAt.in_listAt (eqU x) pl.isList (fun w hw=>gu rx fx r fs w (by simpa using hw)) ⟨.bl _,H,I,rfl,?_⟩;rw[show its.toArray.any (eqU x)=its.any (eqU x) by simp,hX r fs];exact q
 ·obtain⟨its,r,pl,hz⟩:=I.tuple hq;refine SeqAt.in_tupleAt (eqU x) pl (fun w hw=>gu rx fx r fs w (by simpa using hw)) ⟨.bl _,H,I,rfl,?_⟩;rw[show its.toArray.any (eqU x)=its.any (eqU x) by simp,hX r fs];exact q
theorem gv:OpR X (compareOp .NotIn) (rIn X.K true):=by
 intro pins s σ H x y v u Q I rx ry h;obtain⟨p,xs,rfl,hq,fx,fs,q⟩:=h;cases ry
 rcases hq with hq|hq
 ·obtain⟨its,r,pl,hz⟩:=I.list hq;refine SeqAt.notIn_listAt (eqU x) pl.isList (fun w hw=>gu rx fx r fs w (by simpa using hw)) ⟨.bl _,H,I,rfl,?_⟩;rw[show its.toArray.any (eqU x)=its.any (eqU x) by simp,hX r fs];exact q
 ·obtain⟨its,r,pl,hz⟩:=I.tuple hq;refine SeqAt.notIn_tupleAt (eqU x) pl (fun w hw=>gu rx fx r fs w (by simpa using hw)) ⟨.bl _,H,I,rfl,?_⟩;rw[show its.toArray.any (eqU x)=its.any (eqU x) by simp,hX r fs];exact q
theorem aV:dQ X (.builtin "len") (fun xs H Q=>∃p ys,xs=[.ref p]/\(SqL X.K H p ys\/SqT X.K H p ys)/\Q (.int ys.length) H):=by
 intro pins s σ H xs us Q I r h;obtain⟨p,ys,rfl,hq,q⟩:=h;obtain⟨u,rfl,rx⟩:=vals1 r;cases rx
 have hn:=i9;rcases hq with hq|hq
 ·obtain⟨its,r',pl,hz⟩:=I.list hq;have hlen:=r'.length;exact Calls.call_len_list pl.isList (by simp only[aaq] <;> omega) ⟨.int ys.length,H,I.tok _,⟨s.toks+1,by rw[aaq,hlen]⟩,q⟩
 ·obtain⟨its,r',pl,hz⟩:=I.tuple hq;have hlen:=r'.length;exact len_tuple pl (by simp only[aaq] <;> omega) ⟨.int ys.length,H,I.tok _,⟨s.toks+1,by rw[aaq,hlen]⟩,q⟩
theorem nN:dQ X (.type "list") (fun xs H Q=>∃p ys,xs=[.ref p]/\(SqL X.K H p ys\/SqT X.K H p ys)/\∀l,H l=none->Q (.ref l) (upd H l (.lst ys))):=by
 intro pins s σ H xs us Q I r h;obtain⟨p,ys,rfl,hq,q⟩:=h;obtain⟨u,rfl,rx⟩:=vals1 r;cases rx
 have fin:∀(its:List Value),Vals ys its->ys.length<=sizeLine->∀(h':Heap) (c':Nat),(∀b o',s.heap.get? b=some o'->h'.get? b=some o')->
   h'.get? s.heap.objs.size=some {cls:=.type "list",dict:=none,data:=.seq its.toArray c',slots:=#[]}->EP X pins σ Q (.ref s.heap.objs.size) {s with heap:=h'}:=fun its r' hz h' c' kp e=>
  ⟨.ref s.heap.objs.size,_,I.laid (t':=s.toks) kp (Nat.le_refl _) (show bi X.prog X.w _ h' _ (.lst ys) from ⟨hz,its,c',r',e⟩),rfl,q _ (I.hok.fresh (Nat.le_refl _))⟩
 rcases hq with hq|hq
 ·obtain⟨its,r',pl,hz⟩:=I.list hq;have hlen:=r'.length;obtain⟨o,ho,hc,n,hd⟩:=pl.isList;exact call_list_seq p (.inl rfl) ho hc hd (fun h' c' kp e=>fin its r' hz h' c' kp e) (by simp only[aaq] <;> omega)
 ·obtain⟨its,r',pl,hz⟩:=I.tuple hq;have hlen:=r'.length;obtain⟨o,ho,hc,n,hd⟩:=pl;exact call_list_seq p (.inr rfl) ho hc hd (fun h' c' kp e=>fin its r' hz h' c' kp e) (by simp only[aaq] <;> omega)
def tyV(K:PySem.W.Frag)(T:String)(x:V)(H:Hp):Prop:=match x with
 |.str _=>T="str"
 |.int _=>T="int"
 |.ref p=>(T="list"/\∃xs,SqL K H p xs)\/(T="tuple"/\∃o,K.lookup p=some o/\o.cls=.type "tuple"/\o.dict=none)\/
   (T="dict"/\((∃kvs,H p=some (.dK kvs))\/∃kvs,H p=some (.dT kvs)))\/(T="set"/\∃S n,H p=some (.set S n))
 |_=>False
theorem sQ{pins:List (Addr×Obj)}{σ:St}{H:Hp}{s:Shared}{T:String}{x:V}{v:Value}(I:Inv X pins σ H s)(r:RelV x v)(ty:tyV X.K T x H) :
  s.TypeIs v T/\∀a,v=.ref a->∃ob,s.heap.get? a=some ob/\ob.dict=none:=by
 cases x with
 |str z=>
  obtain⟨t,rfl⟩:=r;cases (show T="str" from ty)
  exact⟨typeIs_str s z t,fun _ e=>nomatch e⟩
 |int i=>
  obtain⟨t,rfl⟩:=r;cases (show T="int" from ty)
  exact⟨typeIs_int s i t,fun _ e=>nomatch e⟩
 |ref p=>
  cases r
  rcases ty with ⟨rfl,xs,hq⟩|⟨rfl,o,hk,hc,hd⟩|⟨rfl,hk⟩|⟨rfl,S,n,hk⟩
  ·obtain⟨its,_,pl,_⟩:=I.list hq;refine⟨pl.isList.typeIs,fun a e=>?_⟩;cases e
   obtain⟨o,n,e,c,hd,_⟩:=pl;exact⟨o,e,hd⟩
  ·refine⟨⟨o,I.kIn p o hk,hc⟩,fun a e=>?_⟩;cases e
   exact⟨o,I.kIn _ o hk,hd⟩
  ·have z:∃o,s.heap.get? p=some o/\o.ExactDict:=by
    rcases hk with ⟨kvs,hk⟩|⟨kvs,hk⟩
    ·obtain⟨_,_,_,_,o,_,_,e,ex,_⟩:=I.hok p _ hk;exact⟨o,e,ex⟩
    ·obtain⟨_,_,_,_,o,_,_,e,ex,_⟩:=I.hok p _ hk;exact⟨o,e,ex⟩
   obtain⟨o,e,ex⟩:=z;refine⟨⟨o,e,ex.1⟩,fun a e2=>?_⟩;cases e2
   exact⟨o,e,ex.2.1⟩
  ·obtain⟨o,_,_,_,e,ex,_⟩:=I.hok p _ hk;refine⟨⟨o,e,ex.1⟩,fun a e2=>?_⟩;cases e2
   exact⟨o,e,ex.2.1⟩
 |_=>exact False.elim ty
def Av(K:PySem.W.Frag)(T:String)(r:V->List V->Hp->VK->Prop)(to:TE):TE:=fun σ H Q=>to σ H fun x H1=>tyV K T x H1/\r x [] H1 Q
def tBM(K:PySem.W.Frag)(T:String)(r:V->List V->Hp->VK->Prop)(to:TE)(t:TA):TE:=fun σ H Q=>to σ H fun x H1=>tyV K T x H1/\t σ H1 fun xs H2=>r x xs H2 Q
variable {o e:Expr}{es:List Expr}{to:TE}{t:TA}{name:Str}{apos cpos:Pos}{T id:String}{r:V->List V->Hp->VK->Prop}
theorem kz(pa:PlainAttrs T)(slot:Slot T name id)(hty:typeOf (.builtin id)=pure (.type "method_descriptor"))(hm:MtR X id r)(ho:PE X o to)
  (hbase:attributeBase o name X.env (eval o X.env)=eval o X.env:=by rfl)(hline:(apos.endLine == cpos.line)=true:=by rfl):PE X (.Call (.Attribute o name apos) [] [] cpos) (Av X.K T r to):=by
 intro pins s σ H Q I h;refine wpAny_Call_method0_late hbase hline (thn (ho pins s σ H _ I h) fun v s1 ⟨x,H1,I1,r1,ty,q1⟩=>?_);obtain⟨h1,h2⟩:=sQ I1 r1 ty;exact⟨T,id,pa,slot,hty,h1,h2,Calls.callWith_builtin rfl (PySem.evalArgs_none (hm pins s1 σ H1 x [] v [] Q I1 r1 .nil q1))⟩
theorem bZ(pa:PlainAttrs T)(slot:Slot T name id)(hty:typeOf (.builtin id)=pure (.type "method_descriptor"))(hm:MtR X id r)(ho:PE X o to)(ha:PA X (e::es) t)
  (hbase:attributeBase o name X.env (eval o X.env)=eval o X.env:=by rfl)
  (hfew:((backTo cpos (starEach (e::es) X.env)).all (fun x=>!x.1) && (backToKw cpos (keywordEach [] X.env)).all (fun x=>x.1.isSome)
   && decide ((e::es).length+([]:List Keyword).length+(if ([]:List Keyword).isEmpty then 0 else 1)<30))=true:=by rfl)
  (hline:(apos.endLine == cpos.line)=true:=by rfl)(hs:starEach (e::es) X.env=(false,eval e X.env)::starEach es X.env:=by rfl)(hplain:(backTo cpos (starEach es X.env)).any (·.1)=false:=by rfl) :
  PE X (.Call (.Attribute o name apos) (e::es) [] cpos) (tBM X.K T r to t):=by
 intro pins s σ H Q I h;refine wpAny_Call_method_late hbase hfew hline rfl (thn (ho pins s σ H _ I h) fun v s1 ⟨x,H1,I1,r1,ty,q1⟩=>?_);obtain⟨h1,h2⟩:=sQ I1 r1 ty;refine⟨T,id,pa,slot,hty,h1,h2,?_⟩;have hA:=ha cpos pins s1 σ H1 _ I1 q1;rw[hs] at hA ⊢;refine Calls.callWith_builtin (by show(false || (backTo cpos (starEach es X.env)).any (·.1))=false;rw[hplain] <;> rfl) (Calls.evalArgs_plain ?_);exact thn hA fun us s2 ⟨vs,H2,I2,r2,q2⟩=>hm pins s2 σ H2 x vs v us Q I2 r1 r2 q2
end
end L2
namespace L2
open PySem PySem.Spec PyProof.Rows
def MtM(X:Cx)(id:String)(r:V->List V->Hp->VK->Prop):Prop:=
 ∀(pins:List (Addr×Obj)) (s:Shared) (σ:St) (H:Hp) (x:V) (xs:List V) (v:Value) (us:List Value) (Q:VK),Inv X pins σ H s->RelV x v->Vals xs us->r x xs H Q->
  wpAny (model X.prog X.w) X.A (call (.builtin id) (v::us)) (EP X pins σ Q) X.xe s
theorem Vals.one:∀{x:V} {us:List Value},Vals [x] us->∃u,us=[u]/\RelV x u
 |_,_,.cons r .nil=>⟨_,rfl,r⟩
theorem Vals.two:∀{x y:V} {us:List Value},Vals [x,y] us->∃u v,us=[u,v]/\RelV x u/\RelV y v
 |_,_,_,.cons r (.cons q .nil)=>⟨_,_,rfl,r,q⟩
theorem Vals.zero:∀{us:List Value},Vals [] us->us=[]
 |_,.nil=>rfl
theorem Vals.dropLast{xs:List V}{us:List Value}(h:Vals xs us):Vals xs.dropLast us.dropLast:=by
 induction h with
 |nil=>exact .nil
 |cons r t ih=>
  cases t with
  |nil=>exact .nil
  |cons q t'=>exact .cons r ih
theorem Vals.rep{xs:List V}{us:List Value}(h:Vals xs us):∀k:Nat,Vals (List.replicate k xs).flatten (List.replicate k us).flatten
 |0=>.nil
 |k+1=>by
  rw[List.replicate_succ,List.replicate_succ,List.flatten_cons,List.flatten_cons];exact Vals.append h (Vals.rep h k)
theorem qK{α:Type}(l:List α):l.eraseIdx (l.length - 1)=l.dropLast:=by
 induction l with
 |nil=>rfl
 |cons a r ih=>
  cases r with
  |nil=>rfl
  |cons b r=>
   have e:(a::b::r).length - 1=((b::r).length - 1)+1:=by
    have h1:(a::b::r).length=r.length+2:=rfl;have h2:(b::r).length=r.length+1:=rfl;omega
   rw[e,List.eraseIdx_cons_succ,ih]
   all_goals rfl
theorem foldl_rep(its:List Value):∀(k:Nat) (acc:List Value),
  List.foldl (fun x1 x2=>x1++x2) acc.toArray (List.replicate k its.toArray)=(acc++(List.replicate k its).flatten).toArray
 |0,acc=>by simp
 |k+1,acc=>by
  have e:acc.toArray++its.toArray=(acc++its).toArray:=by simp
  have e2:(acc++its)++(List.replicate k its).flatten=acc++(List.replicate (k+1) its).flatten:=by
   rw[List.replicate_succ,List.flatten_cons,List.append_assoc]
  rw[←e2,←foldl_rep its k (acc++its),←e,List.replicate_succ,List.foldl_cons]
section
variable {X:Cx}{pins:List (Addr×Obj)}{σ:St}{H:Hp}{s:Shared}{l b:Addr}{xs ys zs:List V}
theorem Inv.uQ{its its':List Value}{n:Nat}{f:Array Value->Array Value}{t':Nat}(I:Inv X pins σ H s)(hH:H l=some (.lst xs))
  (e:s.heap.get? l=some {cls:=.type "list",data:=.seq its.toArray n})(hf:f its.toArray=its'.toArray)(hv:Vals ys its')(hz:ys.length<=sizeLine) :
  Inv X pins σ (upd H l (.lst ys)) {s with heap:=s.heap.update l (Obj.mapSeq f),toks:=t'}:=by
 have q:=PySem.IsL.update e f;rw[hf] at q;refine I.write (x:=l) (e:=l) (by rw[hH];exact trivial) (.inl rfl) (fun b' u hb hu=>(Heap.get?_update_other s.heap (Obj.mapSeq f) (Ne.symm hb)).trans hu) ⟨_,q⟩ ?_;exact⟨hz,its',_,hv,q⟩
theorem Inv.uR{its:List Value}{t':Nat}(I:Inv X pins σ H s)(hv:Vals ys its)(hz:ys.length<=sizeLine) :
  Inv X pins σ (upd H s.heap.objs.size (.lst ys)) {s with heap:=s.heap.push {cls:=.type "list",data:=.seq its.toArray},toks:=t'}:=
 I.laid (fun _ _ q=>aaf _ q) (Nat.le_refl _) ⟨hz,its,0,hv,aay _ rfl⟩
theorem Inv.fresh(I:Inv X pins σ H s):H s.heap.objs.size=none:=I.hok.fresh (Nat.le_refl _)
theorem Inv.j2(I:Inv X pins σ H s)(hH:H l=some (.lst xs)):xs.length<=sizeLine/\∃(its:List Value) (n:Nat),Vals xs its/\xs.length=its.length/\s.heap.get? l=some {cls:=.type "list",data:=.seq its.toArray n}:=by
 obtain⟨z,its,n,r,e⟩:=I.hok l _ hH;exact⟨z,its,n,r,r.length,e⟩
theorem nO{n:Nat}(h:n<=sizeLine):Builtin.List.listTooLong n=false:=by
 unfold Builtin.List.listTooLong;exact aai (by omega)
end
section
variable {X:Cx}
def xi:V->List V->Hp->VK->Prop:=fun x vs H Q=>∃l xs y,x=.ref l/\vs=[y]/\H l=some (.lst xs)/\xs.length<sizeLine/\Q .non (upd H l (.lst (xs++[y])))
theorem bf:MtM X "list.append" xi:=by
 intro pins s σ H x vs v us Q I rx rv h;obtain⟨l,xs,y,rfl,rfl,hH,hz,q⟩:=h;cases rx
 obtain⟨u,rfl,ru⟩:=rv.one;obtain⟨z,its,n,r,hl,e⟩:=I.j2 hH;refine call_meets F.slot_list_append ⟨_,e,rfl⟩ F.entry_list_append (F.args_list_append_2 _ _) (PySem.list_append l its.toArray n u (by rw[aaq];omega)) ⟨e,?_⟩;refine⟨.non,_,I.uQ (its':=its++[u]) hH e (by simp) (r.append (.cons ru .nil)) ?_,rfl,q⟩;rw[aag,aav];omega
def xj:V->List V->Hp->VK->Prop:=fun x vs H Q=>∃l b xs zs,x=.ref l/\vs=[.ref b]/\H l=some (.lst xs)/\H b=some (.lst zs)/\xs.length+zs.length<=sizeLine/\Q .non (upd H l (.lst (xs++zs)))
theorem dU:MtM X "list.extend" xj:=by
 intro pins s σ H x vs v us Q I rx rv h;obtain⟨l,b,xs,zs,rfl,rfl,hH,hB,hz,q⟩:=h;cases rx
 obtain⟨u,rfl,ru⟩:=rv.one;cases ru
 obtain⟨z,its,n,r,hl,e⟩:=I.j2 hH;obtain⟨z2,its2,n2,r2,hl2,e2⟩:=I.j2 hB;have hsz:its.toArray.size+its2.toArray.size<=sizeLine:=by rw[aaq,aaq];omega
 have hlong:¬(!its.toArray.isEmpty && Builtin.List.listTooLong (its.toArray.size+its2.toArray.size))=true:=by
  rw[nO hsz,Bool.and_false];exact Bool.false_ne_true
 refine call_meets F.slot_list_extend ⟨_,e,rfl⟩ F.entry_list_extend (F.args_list_extend_2 _ _)
  (AutoSeq1.list_extend_list_list_0 l its.toArray n b its2.toArray n2 hlong (by rw[aaq];omega) (by omega)) ⟨e,e2,?_⟩
 refine⟨.non,_,I.uQ (its':=its++its2) hH e (by simp) (r.append r2) ?_,rfl,q⟩;rw[aag];omega
def Aw:V->List V->Hp->VK->Prop:=fun x vs H Q=>∃l xs y,x=.ref l/\vs=[]/\H l=some (.lst xs)/\xs[xs.length - 1]? =some y/\Q y (upd H l (.lst xs.dropLast))
theorem kA:MtM X "list.pop" Aw:=by
 intro pins s σ H x vs v us Q I rx rv h;obtain⟨l,xs,y,rfl,rfl,hH,hy,q⟩:=h;cases rx
 have hus:=rv.zero;subst hus;obtain⟨z,its,n,r,hl,e⟩:=I.j2 hH;obtain⟨u,hu,ru⟩:=r.get hy;have hy':its.toArray[its.toArray.size - 1]? =some u:=by
  show its.toArray[its.length - 1]? =some u;rw[←Array.getElem?_toList,←hl];exact hu
 refine call_meets F.slot_list_pop ⟨_,e,rfl⟩ F.entry_list_pop (F.args_list_pop_1 _) (MeetsSeq.list_pop_last l its.toArray n u hy' (by rw[aaq];omega)) ⟨e,?_⟩;refine⟨y,_,I.uQ (its':=its.dropLast) hH e ?_ r.dropLast ?_,ru,q⟩
 ·show its.toArray.eraseIdxIfInBounds (its.toArray.size - 1)=its.dropLast.toArray;rw[aaq,List.eraseIdxIfInBounds_toArray,qK]
 ·rw[List.length_dropLast];omega
def nQ:R2:=fun x y H Q=>∃l b xs zs,x=.ref l/\y=.ref b/\H l=some (.lst xs)/\H b=some (.lst zs)/\xs.length+zs.length<=sizeLine/\∀p,H p=none->Q (.ref p) (upd H p (.lst (xs++zs)))
theorem c8:OpR X (binaryOp .Add) nQ:=by
 intro pins s σ H x y v u Q I rx ry h;obtain⟨l,b,xs,zs,rfl,rfl,hH,hB,hz,q⟩:=h;cases rx
 cases ry
 obtain⟨z,its,n,r,hl,e⟩:=I.j2 hH;obtain⟨z2,its2,n2,r2,hl2,e2⟩:=I.j2 hB;refine PySem.P.add_list e e2 ?_ (by rw[aaq,aaq];omega);have ea:its.toArray++its2.toArray=(its++its2).toArray:=by simp
 rw[ea];exact⟨.ref _,_,I.uR (t':=s.toks) (r.append r2) (by rw[aag];omega),rfl,q _ I.fresh⟩
def Ax:R2:=fun x y H Q=>∃l k xs,x=.ref l/\y=.int k/\H l=some (.lst xs)/\-(2 ^ 63)<=k/\k<2 ^ 63/\xs.length*k.toNat<=sizeLine/\
 ∀p,H p=none->Q (.ref p) (upd H p (.lst (List.replicate k.toNat xs).flatten))
theorem len_rep{α:Type}(xs:List α)(k:Nat):(List.replicate k xs).flatten.length=k*xs.length:=by
 induction k with
 |zero=>simp
 |succ k ih=>rw[List.replicate_succ,List.flatten_cons,aag,ih,Nat.succ_mul,Nat.add_comm]
theorem yB:OpR X (binaryOp .Mult) Ax:=by
 intro pins s σ H x y v u Q I rx ry h;obtain⟨l,k,xs,rfl,rfl,hH,h1,h2,hz,q⟩:=h;cases rx
 obtain⟨t,rfl⟩:=ry;obtain⟨z,its,n,r,hl,e⟩:=I.j2 hH;have hlen:its.toArray.size*k.toNat<=sizeLine:=by rw[aaq,←hl];exact hz
 have hcap:¬its.toArray.size*k.toNat > (2 ^ 63 - 1) / 8:=by
  have:(sizeLine:Nat)<=(2 ^ 63 - 1) / 8:=by decide
  omega
 have hfit:¬(!Builtin.List.listFitsIndex k)=true:=by
  rw[fitsIndex_both h1 h2];exact Bool.false_ne_true
 have hlong:¬Builtin.List.listTooLong (its.toArray.size*k.toNat)=true:=by
  rw[nO hlen];exact Bool.false_ne_true
 have hnew:List.foldl (fun x1 x2=>x1++x2) #[] (List.replicate (if its.toArray.isEmpty=true then 0 else k.toNat) its.toArray)=(List.replicate k.toNat its).flatten.toArray:=by
  have f0:∀m:Nat,List.foldl (fun x1 x2=>x1++x2) #[] (List.replicate m its.toArray)=(List.replicate m its).flatten.toArray:=fun m=>by
   have:=foldl_rep its m [];rw[List.nil_append] at this;exact this
  rw[f0];cases its with
  |nil=>simp
  |cons a r'=>rw[if_neg (by simp)]
 refine wpAny_binaryOp_repeat_ref (T:="list") (U:="int") (by decide) ⟨_,e,rfl⟩ (fun s'=>typeIs_int s' k t) noFill_list_mul F.fills_int_mul F.slot_int_rmul repeat_list F.slot_int_index.lookup
  (call_meets F.slot_int_rmul (typeIs_int s k t) F.entry_int_rmul (F.args_int_rmul_2 _ _) (int___rmul___int_list k t l its.toArray n)
   ⟨e,rfl,⟨_,e,rfl⟩,call_meets F.slot_list_mul ⟨_,e,rfl⟩ F.entry_list_mul (F.args_list_mul_2 _ _) (AutoListH.list___mul___list_int_3 l its.toArray n k t hfit hcap hlong) ⟨e,?_⟩⟩)
 rw[hnew];exact⟨.ref _,_,I.uR (t':=s.toks) (r.rep k.toNat) (by rw[len_rep,Nat.mul_comm];exact hz),rfl,q _ I.fresh⟩
end
section
variable {prog:Program}{w:World}{A:Around}{E:Value->Shared->Prop}{s:Shared}
end
section
variable {X:Cx}
end
end L2
namespace L2
open PySem PySem.Spec PyProof.Rows
section
variable {κ:Type}[DecidableEq κ]
def bj(kvs:List (κ×V))(k:κ):Option V:=(kvs.find? fun kv=>decide (kv.1=k)).map (·.2)
def putK(kvs:List (κ×V))(k:κ)(v:V):List (κ×V):=
 if (kvs.any fun kv=>decide (kv.1=k))=true then kvs.map (fun kv=>if kv.1=k then (kv.1,v) else kv) else kvs++[(k,v)]
theorem bU{p:κ×V}{r:List (κ×V)}{k:κ}(e:p.1=k):bj (p::r) k=some p.2:=by simp[bj,List.find?_cons,e]
theorem bV{p:κ×V}{r:List (κ×V)}{k:κ}(e:¬p.1=k):bj (p::r) k=bj r k:=by simp[bj,List.find?_cons,e]
theorem eM(k:κ):∀kvs:List (κ×V),(kvs.any fun kv=>decide (kv.1=k))=(bj kvs k).isSome
 |[]=>rfl
 |p::r=>by
  rw[List.any_cons]
  by_cases e:p.1=k
  ·simp only[bU e,aan e,Bool.true_or,Option.isSome_some]
  ·rw[bV e,aai e,Bool.false_or];exact eM k r
theorem nR(k j:κ)(y:V):∀kvs:List (κ×V),bj (kvs.map fun kv=>if kv.1=k then (kv.1,y) else kv) j=(bj kvs j).map fun x=>if j=k then y else x
 |[]=>rfl
 |p::r=>by
  have ih:=nR k j y r;rw[aaw]
  by_cases h:p.1=k
  ·rw[if_pos h]
   by_cases e:p.1=j
   ·rw[bU (p:=(p.1,y)) e,bU e,Option.map_some,if_pos (e.symm.trans h)]
   ·rw[bV (p:=(p.1,y)) e,bV e,ih]
  ·rw[if_neg h]
   by_cases e:p.1=j
   ·rw[bU (p:=p) e,bU e,Option.map_some,if_neg (fun z=>h (e.trans z))]
   ·rw[bV (p:=p) e,bV e,ih]
theorem ml(k j:κ)(y:V):∀kvs:List (κ×V),bj kvs k=none->bj (kvs++[(k,y)]) j=if j=k then some y else bj kvs j
 |[],_=>by
  by_cases e:k=j
  ·rw[if_pos e.symm];exact bU (p:=(k,y)) e
  ·rw[if_neg (fun z=>e z.symm)];exact bV (p:=(k,y)) e
 |p::r,hn=>by
  rw[List.cons_append];have hk:¬p.1=k:=fun z=>by rw[bU z] at hn;cases hn
  rw[bV hk] at hn;have ih:=ml k j y r hn
  by_cases e:p.1=j
  ·rw[bU e,bU e,if_neg (fun z=>hk (e.trans z))]
  ·rw[bV e,bV e,ih]
theorem j3(kvs:List (κ×V))(k j:κ)(y:V):bj (putK kvs k y) j=if j=k then some y else bj kvs j:=by
 unfold putK
 by_cases a:(kvs.any fun kv=>decide (kv.1=k))=true
 ·rw[if_pos a,nR];rw[eM] at a
  by_cases e:j=k
  ·obtain⟨x,hx⟩:=Option.isSome_iff_exists.mp a;rw[if_pos e,e,hx,Option.map_some,if_pos rfl]
  ·rw[if_neg e];cases bj kvs j with
   |none=>rfl
   |some x=>rw[Option.map_some,if_neg e]
 ·rw[if_neg a];refine ml k j y kvs ?_;rw[eM] at a;cases q:bj kvs k with
  |none=>rfl
  |some x=>rw[q] at a;exact(a rfl).elim
theorem fG(kvs:List (κ×V))(k:κ)(v:V):(putK kvs k v).length<=kvs.length+1:=by
 unfold putK;split
 ·rw[aaa];omega
 ·rw[aag,aau,List.length_nil];omega
theorem gw{kvs:List (κ×V)}{k:κ}(v:V)(h:bj kvs k=none):putK kvs k v=kvs++[(k,v)]:=by
 unfold putK;rw[eM,h];exact if_neg (by decide)
theorem fi.fR{o:Option V}{u:Option Value}(r:fi o u):o.isSome=u.isSome:=by
 cases o with
 |none=>cases u with
  |none=>rfl
  |some _=>exact(show False from r).elim
 |some _=>cases u with
  |none=>exact(show False from r).elim
  |some _=>rfl
theorem fi.getD{o:Option V}{u:Option Value}{d:V}{d':Value}(r:fi o u)(rd:RelV d d'):RelV (o.getD d) (u.getD d'):=by
 cases o with
 |none=>cases u with
  |none=>exact rd
  |some _=>exact(show False from r).elim
 |some _=>cases u with
  |none=>exact(show False from r).elim
  |some _=>exact r
theorem KV.val{kvs:List (κ×V)}{vs:List (κ×Value)}(r:KV kvs vs)(k:κ):fi (bj kvs k) (valueAt vs k):=by
 unfold KV at r
 induction r with
 |nil=>exact True.intro
 |@cons p q ps qs h t ih=>
  obtain⟨h1,h2⟩:=h
  by_cases e:p.1=k
  ·have e':q.1=k:=h1.symm.trans e;have b:valueAt (q::qs) k=some q.2:=by simp[valueAt,List.find?_cons,e']
   rw[bU e,b];exact h2
  ·have e':¬q.1=k:=fun z=>e (h1.trans z)
   have b:valueAt (q::qs) k=valueAt qs k:=by simp[valueAt,List.find?_cons,e']
   rw[bV e,b];exact ih
theorem KV.any{kvs:List (κ×V)}{vs:List (κ×Value)}(r:KV kvs vs)(k:κ):(kvs.any fun kv=>decide (kv.1=k))=vs.any fun kv=>decide (kv.1=k):=by
 unfold KV at r
 induction r with
 |nil=>rfl
 |cons h t ih=>rw[List.any_cons,List.any_cons,ih,h.1]
theorem KV.uS{kvs:List (κ×V)}{vs:List (κ×Value)}(r:KV kvs vs)(k:κ){y:V}{u:Value}(ry:RelV y u) :
  KV (kvs.map fun kv=>if kv.1=k then (kv.1,y) else kv) (vs.map fun kv=>if kv.1=k then (kv.1,u) else kv):=by
 unfold KV at r ⊢
 induction r with
 |nil=>exact .nil
 |@cons p q ps qs h t ih=>
  rw[aaw,aaw];refine .cons ?_ ih;obtain⟨h1,h2⟩:=h
  by_cases e:p.1=k
  ·rw[if_pos e,if_pos (h1.symm.trans e)];exact⟨h1,ry⟩
  ·rw[if_neg e,if_neg (fun z=>e (h1.trans z))];exact⟨h1,h2⟩
theorem KV.put{kvs:List (κ×V)}{vs:List (κ×Value)}(r:KV kvs vs)(k:κ){y:V}{u:Value}(ry:RelV y u):KV (putK kvs k y) (stored vs k u):=by
 unfold putK stored;rw[r.any k]
 by_cases e:(vs.any fun kv=>decide (kv.1=k))=true
 ·rw[if_pos e,if_pos e];exact r.uS k ry
 ·rw[if_neg e,if_neg e];exact Paired.snoc r ⟨rfl,ry⟩
theorem KV.keys{kvs:List (κ×V)}{vs:List (κ×Value)}(r:KV kvs vs):kvs.map (·.1)=vs.map (·.1):=by
 unfold KV at r
 induction r with
 |nil=>rfl
 |cons h t ih=>rw[aaw,aaw,ih,h.1]
theorem KV.length{kvs:List (κ×V)}{vs:List (κ×Value)}(r:KV kvs vs):kvs.length=vs.length:=Paired.length r
end
theorem iI{P:Program}{w:World}{k:Key}{u:Value}(r:RelV (kV k) u):(bI P w).is k u=true:=by
 cases k with
 |inl i=>obtain⟨t,e⟩:=(show ∃t,u=Value.int i t from r);subst e;exact pL P w i t
 |inr x=>obtain⟨t,e⟩:=(show ∃t,u=Value.str x t from r);subst e;exact pM P w x t
theorem mn{P:Program}{w:World}:∀{ks:List Key} {us:List Value},Vals (ks.map kV) us->ItemsAre (bI P w) ks us
 |[],_,r=>by rw[List.map_nil] at r;cases r;exact .nil
 |k::ks,_,r=>by
  rw[aaw] at r;cases r with
  |cons h t=>exact .cons (iI h) (mn t)
abbrev KT(H:Hp):List (List Key×V)->List (List Key×Addr×Value)->Prop:=Paired fun p q=>p.1=q.1/\H q.2.1=some (.tup (p.1.map kV))/\RelV p.2 q.2.2
theorem KT.val{H:Hp}{kvs:List (List Key×V)}{xs:List (List Key×Addr×Value)}(r:KT H kvs xs)(k:List Key):fi (bj kvs k) ((atKey xs k).map (·.2)):=by
 induction r with
 |nil=>exact True.intro
 |@cons p q ps qs h t ih=>
  obtain⟨h1,_,h2⟩:=h
  by_cases e:p.1=k
  ·have e':q.1=k:=h1.symm.trans e;have b:atKey (q::qs) k=some q.2:=by simp[atKey,List.find?_cons,e']
   rw[bU e,b];exact h2
  ·have e':¬q.1=k:=fun z=>e (h1.trans z)
   have b:atKey (q::qs) k=atKey qs k:=by simp[atKey,List.find?_cons,e']
   rw[bV e,b];exact ih
theorem KT.uS{H:Hp}{kvs:List (List Key×V)}{xs:List (List Key×Addr×Value)}(r:KT H kvs xs)(k:List Key){y:V}{u:Value}(ry:RelV y u) :
  KT H (kvs.map fun kv=>if kv.1=k then (kv.1,y) else kv) (xs.map (putAt k u)):=by
 induction r with
 |nil=>exact .nil
 |@cons p q ps qs h t ih=>
  rw[aaw,aaw];refine .cons ?_ ih;obtain⟨h1,h2,h3⟩:=h;unfold putAt
  by_cases e:p.1=k
  ·rw[if_pos e,if_pos (h1.symm.trans e)];exact⟨h1,h2,ry⟩
  ·rw[if_neg e,if_neg (fun z=>e (h1.trans z))];exact⟨h1,h2,h3⟩
theorem KT.put{H:Hp}{kvs:List (List Key×V)}{xs:List (List Key×Addr×Value)}(r:KT H kvs xs)(k:List Key){b:Addr}{y:V}{u:Value}(hb:H b=some (.tup (k.map kV)))(ry:RelV y u) :
  KT H (putK kvs k y) (storedH xs k b u):=by
 have e:(kvs.any fun kv=>decide (kv.1=k))=(atKey xs k).isSome:=by
  rw[eM,(r.val k).fR,Option.isSome_map]
 unfold putK storedH;rw[e]
 by_cases q:(atKey xs k).isSome=true
 ·rw[if_pos q,if_pos q];exact r.uS k ry
 ·rw[if_neg q,if_neg q];exact Paired.snoc r ⟨rfl,hb,ry⟩
theorem KT.keeps{H H':Hp}{kvs:List (List Key×V)}{xs:List (List Key×Addr×Value)}(r:KT H kvs xs)(ht:∀b ys,H b=some (.tup ys)->H' b=some (.tup ys)):KT H' kvs xs:=
 Paired.bT r fun _ _ z=>⟨z.1,ht _ _ z.2.1,z.2.2⟩
section
variable {P:Program}{w:World}{H:Hp}{h:Heap}{a:Addr}
theorem wQ{u:HO}(ok:HOk P w H h)(e:Rd H a u):bi P w H h a u:=e.ok ok
theorem iJ{kvs:List (Key×V)}(ok:HOk P w H h)(e:Rd H a (.dK kvs)):kvs.length<=sizeLine/\(a == sysModules)=false/\∃vs,KV kvs vs/\h.DictOf (bI P w) a vs:=
 show bi P w H h a (.dK kvs) from wQ ok e
theorem mZ{kvs:List (Key×V)}(ok:HOk P w H h)(e:H a=some (.dK kvs)):kvs.length<=sizeLine/\(a == sysModules)=false/\∃vs,KV kvs vs/\h.DictOf (bI P w) a vs:=iJ ok (.inl e)
theorem gx{ks:List Key}(ok:HOk P w H h)(e:H a=some (.tup (ks.map kV))):(tupleKind (bI P w)).is h ks a:=by
 obtain⟨_,its,r,o,h1,h2,n,h3⟩:=(show bi P w H h a (.tup (ks.map kV)) from ok a _ e);exact⟨o,its.toArray,n,h1,h2,h3,by simpa using mn r⟩
theorem gI{kvs:List (List Key×V)}(ok:HOk P w H h)(e:Rd H a (.dT kvs)):kvs.length<=sizeLine/\(a == sysModules)=false/\
  ∃xs,KT H kvs xs/\h.DictOfH (tupleKind (bI P w)) a xs:=by
 obtain⟨z,y,xs,r,o,es,ep,h1,h2,h3,h4,h5⟩:=(show bi P w H h a (.dT kvs) from wQ ok e);refine⟨z,y,xs,r,o,es,ep,h1,h2,h3,h4,fun x hx=>?_,h5⟩;have all:∀{l:List (List Key×V)} {m:List (List Key×Addr×Value)},KT H l m->∀x∈m,(tupleKind (bI P w)).is h x.1 x.2.1:=by
  intro l m q
  induction q with
  |nil=>intro x hx;exact nomatch hx
  |@cons p q ps qs hq t ih=>
   intro x hx;rcases List.mem_cons.mp hx with e|hx
   ·subst e;exact gx ok (by rw[←hq.1];exact hq.2.1)
   ·exact ih x hx
 exact all r x hx
theorem wR{kvs:List (List Key×V)}(ok:HOk P w H h)(e:H a=some (.dT kvs)):kvs.length<=sizeLine/\(a == sysModules)=false/\
  ∃xs,KT H kvs xs/\h.DictOfH (tupleKind (bI P w)) a xs:=gI ok (.inl e)
end
def bR(H:Hp)(a:Addr)(y:V)(r:Option V):Prop:=
 (∃kvs k,Rd H a (.dK kvs)/\y=kV k/\r=bj kvs k)\/∃kvs k b,Rd H a (.dT kvs)/\y=.ref b/\H b=some (.tup (k.map kV))/\r=bj kvs k
def e7(H:Hp)(a:Addr)(y v:V)(H':Hp):Prop:=
 (∃kvs k,H a=some (.dK kvs)/\y=kV k/\kvs.length<sizeLine/\H'=upd H a (.dK (putK kvs k v)))\/
 ∃kvs k b,H a=some (.dT kvs)/\y=.ref b/\H b=some (.tup (k.map kV))/\kvs.length<sizeLine/\H'=upd H a (.dT (putK kvs k v))
theorem bR.k{H:Hp}{a:Addr}{kvs:List (Key×V)}{k:Key}(e:H a=some (.dK kvs)):bR H a (kV k) (bj kvs k):=.inl ⟨kvs,k,.inl e,rfl,rfl⟩
theorem bR.t{H:Hp}{a b:Addr}{kvs:List (List Key×V)}{k:List Key}(e:H a=some (.dT kvs))(eb:H b=some (.tup (k.map kV))):bR H a (.ref b) (bj kvs k):=.inr ⟨kvs,k,b,.inl e,rfl,eb,rfl⟩
theorem e7.k{H:Hp}{a:Addr}{kvs:List (Key×V)}{k:Key}{v:V}(e:H a=some (.dK kvs))(hl:kvs.length<sizeLine):e7 H a (kV k) v (upd H a (.dK (putK kvs k v))):=.inl ⟨kvs,k,e,rfl,hl,rfl⟩
theorem e7.t{H:Hp}{a b:Addr}{kvs:List (List Key×V)}{k:List Key}{v:V}(e:H a=some (.dT kvs))(eb:H b=some (.tup (k.map kV)))(hl:kvs.length<sizeLine) :
  e7 H a (.ref b) v (upd H a (.dT (putK kvs k v))):=.inr ⟨kvs,k,b,e,rfl,eb,hl,rfl⟩
section
variable {X:Cx}{pins:List (Addr×Obj)}{σ:St}{H:Hp}{s:Shared}{a:Addr}{y v:V}{u r:Value}{o:Option V}{A:Around}{E:Value->Shared->Prop}
theorem Inv.big(I:Inv X pins σ H s):sysModules<s.heap.objs.size:=by
 have h:mainGlobals<s.heap.objs.size:=(I.mod.glob.keeps I.bk).lt;exact Nat.lt_trans (by decide) h
theorem sR{Q:Value->Shared->Prop}(hu:A.units+1<cLine)(I:Inv X pins σ H s)(g:bR H a y (some v))(ry:RelV y u)(h:∀w' s',Inv X pins σ H s'->RelV v w'->Q w' s') :
  wpAny (model X.prog X.w) A (getItem (.ref a) u) Q E s:=by
 rcases g with ⟨kvs,k,e,ey,l⟩|⟨kvs,k,b,e,ey,eb,l⟩
 ·subst ey;obtain⟨z,hd,vs,rel,dd⟩:=iJ I.hok e;obtain⟨w',hw,rw'⟩:=fi.some_of (v:=v) (o:=valueAt vs k) (by rw[l];exact rel.val k);exact wpAny_getItem_of (iI ry) dd.mapOf hw (h w' _ (I.tok _) rw')
 ·subst ey;cases (show u=Value.ref b from ry)
  obtain⟨z,hd,xs,rel,dd⟩:=gI I.hok e;obtain⟨w',hw,rw'⟩:=fi.some_of (v:=v) (o:=(atKey xs k).map (·.2)) (by rw[l];exact rel.val k);obtain⟨p,hp,hp2⟩:=Option.map_eq_some_iff.mp hw;refine wpAny_getItem_heap (tupleKind_room_in1 hu) (gx I.hok eb) dd hp ?_;rw[hp2];exact h w' _ (I.tok _) rw'
theorem Ay{Q:Value->Shared->Prop}(hu:A.units+1<cLine)(I:Inv X pins σ H s)(g:bR H a y o)(ry:RelV y u)(h:∀s',Inv X pins σ H s'->Q (.bool o.isSome) s') :
  wpAny (model X.prog X.w) A (compareOp .In u (.ref a)) Q E s:=by
 rcases g with ⟨kvs,k,e,ey,l⟩|⟨kvs,k,b,e,ey,eb,l⟩
 ·subst ey;obtain⟨z,hd,vs,rel,dd⟩:=iJ I.hok e;refine wpAny_in_of (iI ry) hd dd.mapOf ?_;rw[←(rel.val k).fR,←l];exact h _ (I.tok _)
 ·subst ey;cases (show u=Value.ref b from ry)
  obtain⟨z,hd,xs,rel,dd⟩:=gI I.hok e;refine wpAny_in_heap (tupleKind_room_in1 hu) (gx I.hok eb) hd dd ?_;have q:=(rel.val k).fR;rw[Option.isSome_map] at q;rw[←q,←l];exact h _ (I.tok _)
theorem xk{Q:Value->Shared->Prop}(hu:A.units+1<cLine)(I:Inv X pins σ H s)(g:bR H a y o)(ry:RelV y u)(h:∀s',Inv X pins σ H s'->Q (.bool (!o.isSome)) s') :
  wpAny (model X.prog X.w) A (compareOp .NotIn u (.ref a)) Q E s:=by
 rcases g with ⟨kvs,k,e,ey,l⟩|⟨kvs,k,b,e,ey,eb,l⟩
 ·subst ey;obtain⟨z,hd,vs,rel,dd⟩:=iJ I.hok e;refine wpAny_notIn_of (iI ry) hd dd.mapOf ?_;rw[←(rel.val k).fR,←l];exact h _ (I.tok _)
 ·subst ey;cases (show u=Value.ref b from ry)
  obtain⟨z,hd,xs,rel,dd⟩:=gI I.hok e;refine wpAny_notIn_heap (tupleKind_room_in1 hu) (gx I.hok eb) hd dd ?_;have q:=(rel.val k).fR;rw[Option.isSome_map] at q;rw[←q,←l];exact h _ (I.tok _)
theorem jA{h':Heap}{t':Nat}{ob:HO}(I:Inv X pins σ H s)(mu:Mut (H a))(hs:Heap.SameBut a s.heap h')(he:∃q,h'.get? a=some q)(new:bi X.prog X.w (upd H a ob) h' a ob) :
  Inv X pins σ (upd H a ob) {s with heap:=h',toks:=t'}:=
 I.write (x:=a) (e:=a) mu (.inl rfl) (fun b q hb z=>(hs.2 b hb).trans z) he new
theorem sS{P:Program}{w:World}{H':Hp}{h':Heap}{kvs:List (Key×V)}{vs:List (Key×Value)}(z:kvs.length<=sizeLine)(hd:(a == sysModules)=false)(rel:KV kvs vs)(dd:h'.DictOf (bI P w) a vs) :
  bi P w H' h' a (.dK kvs):=⟨z,hd,vs,rel,dd⟩
theorem sU{H':Hp}{Q:Unit->Shared->Prop}(hu:A.units+1<cLine)(I:Inv X pins σ H s)(g:e7 H a y v H')(ry:RelV y u)(rv:RelV v r)(h:∀s',Inv X pins σ H' s'->Q () s') :
  wpAny (model X.prog X.w) A (setItem (.ref a) u r) Q E s:=by
 rcases g with ⟨kvs,k,e,ey,l,eH⟩|⟨kvs,k,b,e,ey,eb,l,eH⟩
 ·subst ey eH;obtain⟨z,hd,vs,rel,dd⟩:=mZ I.hok e;have hz:vs.length<=sizeLine:=by rw[←rel.length];exact z
  have hl:(putK kvs k v).length<=sizeLine:=by have:=fG kvs k v;omega
  refine wpAny_setItem_pairs (hsz:=hz) (iI ry) dd fun h' dd' hs=>h _ ?_
  have he:∃q,h'.get? a=some q:=let ⟨q,_,_,hq,_⟩:=dd';⟨q,hq⟩
  exact jA I (by rw[e];exact True.intro) hs he (sS hl hd (rel.put k rv) dd')
 ·subst ey eH;cases (show u=Value.ref b from ry)
  obtain⟨z,hd,xs,rel,dd⟩:=wR I.hok e;have hz:xs.length<=sizeLine:=by rw[←Paired.length rel];exact z
  have hl:(putK kvs k v).length<=sizeLine:=by have:=fG kvs k v;omega
  refine wpAny_setItem_heap (hsz:=hz) (tupleKind_room_in1 hu) (gx I.hok eb) dd fun h' dd' hs=>h _ ?_
  obtain⟨q,es,ep,hq,h2,h3,h4,_,h5⟩:=dd';refine jA I (by rw[e];exact True.intro) hs ⟨q,hq⟩ ⟨hl,hd,_,(rel.put k eb rv).keeps fun c ys ec=>?_,q,es,ep,hq,h2,h3,h4,h5⟩;rw[aj (mY ec e (fun z=>nomatch z))];exact ec
end
section
variable {X:Cx}{pins:List (Addr×Obj)}{σ:St}{H:Hp}{s:Shared}{a:Addr}{kvs:List (Key×V)}{k:Key}{u:Value}{A:Around}{E:Value->Shared->Prop}
end
def yC(i:Expr):Prop:=∀ov iv,subscripted i false ov iv=operate [ov,iv] (getItem ov iv)
theorem xl{prog:Program}{w:World}{A:Around}{E:Value->Shared->Prop}{s:Shared}{env:Env}{value slice:Expr}{pos:Pos}{T id:String}{Q:Value->Shared->Prop}
  (hl:typeLookup (.type T) "__getitem__"=pure (some (.builtin id)))(hs:yC slice)
  (h:wpAny (model prog w) A (eval value env) (fun o s₁=>wpAny (model prog w) A (eval slice env) (fun i s₂=>s₂.TypeIs o T/\wpAny (model prog w) A (getItem o i) Q E s₂) E s₁) E s) :
  wpAny (model prog w) A (eval (.Subscript value slice pos) env) Q E s:=by
 refine Subscript_ (wpAny_mono h (fun o s₁ h₁=>wpAny_mono h₁ (fun i s₂ h₂=>?_) fun _ _ x=>x) fun _ _ x=>x);obtain⟨hT,h₂⟩:=h₂;unfold subscriptTail;refine wpAny_bind ?_;rw[getitemInPython_of_ne hT.not_modules];refine wpAny_bind (wpAny_specialOf hT hl ?_);have fin:wpAny (model prog w) A (subscripted slice false o i) (fun r s₃=>wpAny (model prog w) A (letTemporaryGo value o r >>= fun _=>pure r) Q E s₃) E s₂:=by
  rw[hs o i];exact wpAny_operating (wpAny_mono h₂ (fun r s₃ h₃=>wpAny_bind (wpAny_letTemporaryGo (wpAny_pure h₃))) fun _ _ x=>x)
 first
  |exact wpAny_pure (wpAny_bind fin)
  |exact wpAny_bind (wpAny_pure (wpAny_bind fin))
  |exact wpAny_bind fin
theorem pN{X:Cx}{pins:List (Addr×Obj)}{σ:St}{H:Hp}{s:Shared}{a:Addr}{y:V}{o:Option V}(I:Inv X pins σ H s)(g:bR H a y o):s.TypeIs (.ref a) "dict":=by
 rcases g with ⟨kvs,k,e,_,_⟩|⟨kvs,k,b,e,_,_,_⟩
 ·obtain⟨_,_,vs,_,dd⟩:=iJ I.hok e;exact dd.typeIs
 ·obtain⟨_,_,xs,_,dd⟩:=gI I.hok e;exact dd.typeIs
def zM(td ty:TE):TE:=fun σ H Q=>td σ H fun x H1=>ty σ H1 fun y H2=>∃a v,x=.ref a/\bR H2 a y (some v)/\Q v H2
def Az(ty td:TE):TE:=fun σ H Q=>ty σ H fun y H1=>td σ H1 fun x H2=>∃a o,x=.ref a/\bR H2 a y o/\Q (.bl o.isSome) H2
def xm(ty td:TE):TE:=fun σ H Q=>ty σ H fun y H1=>td σ H1 fun x H2=>∃a o,x=.ref a/\bR H2 a y o/\Q (.bl (!o.isSome)) H2
def zN(td ty tv:TE):TS:=fun D σ H=>tv σ H fun v H1=>td σ H1 fun x H2=>ty σ H2 fun y H3=>∃a H4,x=.ref a/\e7 H3 a y v H4/\D.nx σ H4
section
variable {X:Cx}{o i e value:Expr}{pos pos' tpos:Pos}{td ty tv:TE}
theorem cq(hu:X.A.units+1<cLine)(ho:PE X o td)(hi:PE X i ty)(hs:yC i):PE X (.Subscript o i pos) (zM td ty):=by
 intro pins s σ H Q I h;refine xl PySem.F.slot_dict_getitem.lookup hs (thn (ho pins s σ H _ I h) fun u s1 ⟨x,H1,I1,rx,q1⟩=>thn (hi pins s1 σ H1 _ I1 q1) fun iv s2 ⟨y,H2,I2,ry,a,v,ex,g,q2⟩=>?_);subst ex;obtain rfl:u=Value.ref a:=rx;exact⟨pN I2 g,sR hu I2 g ry fun w' s3 I3 rw'=>⟨v,H2,I3,rw',q2⟩⟩
theorem ja(hu:X.A.units+1<cLine)(hi:PE X i ty)(ho:PE X o td):PC X .In i o (Az ty td):=by
 intro pins s σ H Q I h;refine thn (hi pins s σ H _ I h) fun iv s1 ⟨y,H1,I1,ry,q1⟩=>thn (ho pins s1 σ H1 _ I1 q1) fun u s2 ⟨x,H2,I2,rx,a,ov,ex,g,q2⟩=>?_
 subst ex;obtain rfl:u=Value.ref a:=rx;exact Ay hu I2 g ry fun s3 I3=>⟨.bl ov.isSome,H2,I3,rfl,q2⟩
theorem jb(hu:X.A.units+1<cLine)(hi:PE X i ty)(ho:PE X o td):PC X .NotIn i o (xm ty td):=by
 intro pins s σ H Q I h;refine thn (hi pins s σ H _ I h) fun iv s1 ⟨y,H1,I1,ry,q1⟩=>thn (ho pins s1 σ H1 _ I1 q1) fun u s2 ⟨x,H2,I2,rx,a,ov,ex,g,q2⟩=>?_
 subst ex;obtain rfl:u=Value.ref a:=rx;exact xk hu I2 g ry fun s3 I3=>⟨.bl (!ov.isSome),H2,I3,rfl,q2⟩
theorem fk(hu:X.A.units+1<cLine)(ho:PE X o td)(hi:PE X i ty)(hv:PE X value tv)(hs:swapsWith value (some (.Subscript o i pos')) pos.line X.env=pure false) :
  PS X (.Assign [.Subscript o i pos'] value pos) (zN td ty tv):=by
 intro pins s σ H D I h;refine wpAny_Assign_Subscript (thn (hv pins s σ H _ I h) fun r s1 ⟨v,H1,I1,rv,q1⟩=>thn (ho pins s1 σ H1 _ I1 q1) fun u s2 ⟨x,H2,I2,rx,q2⟩=>thn (hi pins s2 σ H2 _ I2 q2) fun iv s3 ⟨y,H3,I3,ry,a,H4,ex,g,q3⟩=>?_) hs;subst ex;obtain rfl:u=Value.ref a:=rx;exact sU hu I3 g ry rv fun s4 I4=>⟨σ,H4,I4,q3⟩
end
theorem nS{P:Program}{w:World}{H:Hp}(h:Heap)(hb:sysModules<h.objs.size):bi P w H (h.push {cls:=.type "dict",data:=.dict #[]}) h.objs.size (.dK []):=
 ⟨Nat.zero_le _,beq_eq_false_iff_ne.mpr (Ne.symm (Nat.ne_of_lt hb)),[],.nil,Heap.DictOf.new h⟩
theorem uT{P:Program}{w:World}{H:Hp}(h:Heap)(hb:sysModules<h.objs.size):bi P w H (h.push {cls:=.type "dict",data:=.dict #[]}) h.objs.size (.dT []):=
 ⟨Nat.zero_le _,beq_eq_false_iff_ne.mpr (Ne.symm (Nat.ne_of_lt hb)),[],.nil,_,#[],0,aay _ rfl,⟨rfl,rfl,rfl⟩,rfl,rfl,List.nodup_nil⟩
def yD:TE:=fun _ H Q=>∀p,H p=none->Q (.ref p) (upd H p (.dK []))
def yE:TE:=fun _ H Q=>∀p,H p=none->Q (.ref p) (upd H p (.dT []))
section
variable {X:Cx}{pos:Pos}
theorem fm:PE X (.Dict [] [] pos) yD:=fun pins s σ H Q I h=>
 wpAny_Dict_empty ⟨.ref s.heap.objs.size,_,I.laid (a:=s.heap.objs.size) (o:=.dK []) (t':=s.toks) (fun _ _ q=>aaf _ q) (Nat.le_refl _) (nS s.heap I.big),rfl,h _ (I.hok.fresh (Nat.le_refl _))⟩
theorem j4:PE X (.Dict [] [] pos) yE:=fun pins s σ H Q I h=>
 wpAny_Dict_empty ⟨.ref s.heap.objs.size,_,I.laid (a:=s.heap.objs.size) (o:=.dT []) (t':=s.toks) (fun _ _ q=>aaf _ q) (Nat.le_refl _) (uT s.heap I.big),rfl,h _ (I.hok.fresh (Nat.le_refl _))⟩
end
def nT:List (TE×TE)->St->Hp->(List (V×V)->Hp->Prop)->Prop
 |[],_,H,Q=>Q [] H
 |(tk,tv)::r,σ,H,Q=>tk σ H fun x H1=>tv σ H1 fun y H2=>nT r σ H2 fun ps H3=>Q ((x,y)::ps) H3
abbrev VV:List (V×V)->List (Value×Value)->Prop:=Paired fun p q=>RelV p.1 q.1/\RelV p.2 q.2
def PPs(X:Cx)(pos:Pos)(keys:List (Option Expr))(values:List Expr)(trs:List (TE×TE)):Prop:=
 ∀(pins:List (Addr×Obj)) (s:Shared) (σ:St) (H:Hp) (Q:List (V×V)->Hp->Prop),Inv X pins σ H s->nT trs σ H Q->
  wpAny (model X.prog X.w) X.A (evalPairs (pairTrees keys values X.env pos)) (fun vs s'=>∃ps H',Inv X pins σ H' s'/\VV ps vs/\Q ps H') X.xe s
theorem xn{X:Cx}{pos:Pos}:PPs X pos [] [] []:=fun pins s σ H Q I h=>pairTrees_nil_walk ⟨[],H,I,.nil,h⟩
theorem uU{X:Cx}{pos:Pos}{k v:Expr}{ks:List (Option Expr)}{vs:List Expr}{tk tv:TE}{trs:List (TE×TE)}(hk:PE X k tk)(hv:PE X v tv)(hr:PPs X pos ks vs trs) :
  PPs X pos (some k::ks) (v::vs) ((tk,tv)::trs):=fun pins s σ H Q I h=>
 pairTrees_cons_walk (thn (hk pins s σ H _ I h) fun u s1 ⟨x,H1,I1,rx,q1⟩=>thn (hv pins s1 σ H1 _ I1 q1) fun w2 s2 ⟨y,H2,I2,ry,q2⟩=>
  thn (hr pins s2 σ H2 _ I2 q2) fun ws s3 ⟨ps,H3,I3,rel,q3⟩=>⟨(x,y)::ps,H3,I3,.cons ⟨rx,ry⟩ rel,q3⟩)
def e8(kvs more:List (Key×V)):List (Key×V):=more.foldl (fun acc kv=>putK acc kv.1 kv.2) kvs
theorem KV.merge:∀{more:List (Key×V)} {rs:List (Key×Value)} {kvs:List (Key×V)} {vs:List (Key×Value)},KV more rs->KV kvs vs->KV (e8 kvs more) (merged vs rs):=by
 intro more rs kvs vs r;unfold KV at r
 induction r generalizing kvs vs with
 |nil=>intro q;exact q
 |@cons p q ps qs h t ih=>
  intro r0;have e:KV (putK kvs p.1 p.2) (stored vs q.1 q.2):=by
   have:=r0.put p.1 h.2;rw[←h.1];exact this
  exact ih e
theorem i5:∀(more kvs:List (Key×V)),(e8 kvs more).length<=kvs.length+more.length
 |[],kvs=>by show kvs.length<=kvs.length+0;omega
 |p::r,kvs=>by
  have h1:=i5 r (putK kvs p.1 p.2);have h2:=fG kvs p.1 p.2;show(e8 (putK kvs p.1 p.2) r).length<=_;rw[aau];omega
theorem kC{P:Program}{w:World}:∀{kvs:List (Key×V)} {ws:List (Value×Value)},VV (kvs.map fun kv=>(kV kv.1,kv.2)) ws->∃rs,Carries (bI P w) ws rs/\KV kvs rs
 |[],_,r=>by rw[List.map_nil] at r;cases r;exact⟨[],True.intro,.nil⟩
 |p::kvs,_,r=>by
  rw[aaw] at r;cases r with
  |@cons a b as bs h t=>
   obtain⟨rs,c,q⟩:=kC (P:=P) (w:=w) t;obtain⟨b1,b2⟩:=b;exact⟨(p.1,b2)::rs,⟨iI h.1,rfl,c⟩,.cons ⟨rfl,h.2⟩ q⟩
def wS(trs:List (TE×TE)):TE:=fun σ H Q=>∀p,H p=none->nT trs σ (upd H p (.dK [])) fun ps H2=>H2 p=some (.dK [])/\∃kvs:List (Key×V),ps=kvs.map (fun kv=>(kV kv.1,kv.2))/\kvs.length<=15/\Q (.ref p) (upd H2 p (.dK (e8 [] kvs)))
theorem xo{X:Cx}{pos:Pos}{keys:List (Option Expr)}{values:List Expr}{trs:List (TE×TE)}(h:PPs X pos keys values trs)(hall:keys.all (·.isSome)=true)(hl:keys.length=values.length)(h0:keys≠[])
  (h15:keys.length<=15):PE X (.Dict keys values pos) (wS trs):=by
 intro pins s σ H Q I q;have hn:=I.hok.fresh (Nat.le_refl s.heap.objs.size);have I1:=I.laid (a:=s.heap.objs.size) (o:=.dK []) (h':=s.heap.push {cls:=.type "dict",data:=.dict #[]}) (t':=s.toks) (fun _ _ q=>aaf _ q) (Nat.le_refl _) (nS s.heap I.big);refine wpAny_Dict_walk (knd:=bI X.prog X.w) hall hl h0 h15 (thn (h pins _ σ _ _ I1 (q _ hn)) fun ws s2 ⟨ps,H2,I2,rel,e,kvs,ep,lk,q2⟩=>?_);subst ep;obtain⟨rs,c,rk⟩:=kC (P:=X.prog) (w:=X.w) rel;obtain⟨z,hd,vs0,r0,dd⟩:=mZ I2.hok e;cases r0
 refine⟨rs,c,dd,fun h' dd' hs=>⟨.ref s.heap.objs.size,_,?_,rfl,q2⟩⟩;have hz:(e8 [] kvs).length<=sizeLine:=by
  have h1:=i5 kvs [];rw[List.length_nil] at h1;rw[sizeLine_eq];omega
 have he:∃q,h'.get? s.heap.objs.size=some q:=let ⟨q,_,_,hq,_⟩:=dd';⟨q,hq⟩
 exact jA I2 (by rw[e];exact True.intro) hs he (sS hz hd (rk.merge .nil) dd')
structure M2(X:Cx)(o:Expr)(m:Str)(apos:Pos)(e f:Expr)(cpos:Pos):Prop where
 base:attributeBase o m X.env (eval o X.env)=eval o X.env
 few:((backTo cpos (starEach [e,f] X.env)).all (fun x=>!x.1) && (backToKw cpos (keywordEach [] X.env)).all (fun x=>x.1.isSome)
  && decide (([e,f]:List Expr).length+([]:List Keyword).length+(if ([]:List Keyword).isEmpty then 0 else 1)<30))=true
 line:(apos.endLine == cpos.line)=true
 trees:backTo cpos (starEach [e,f] X.env)=[(false,eval e X.env),(false,eval f X.env)]
def IsD(H:Hp)(a:Addr):Prop:=(∃kvs,Rd H a (.dK kvs))\/∃kvs,Rd H a (.dT kvs)
theorem nU{X:Cx}{pins:List (Addr×Obj)}{σ:St}{H:Hp}{s:Shared}{a:Addr}(I:Inv X pins σ H s)(d:IsD H a) :
  s.TypeIs (.ref a) "dict"/\(∀b,Value.ref a=.ref b->∃ob,s.heap.get? b=some ob/\ob.dict=none)/\(a == sysModules)=false:=by
 rcases d with ⟨kvs,e⟩|⟨kvs,e⟩
 ·obtain⟨_,hd,vs,_,dd⟩:=iJ I.hok e;refine⟨dd.typeIs,fun b q=>?_,hd⟩;cases q
  obtain⟨ob,_,_,h1,h2,_⟩:=dd;exact⟨ob,h1,h2.2.1⟩
 ·obtain⟨_,hd,xs,_,dd⟩:=gI I.hok e;refine⟨dd.typeIs,fun b q=>?_,hd⟩;cases q
  obtain⟨ob,_,_,h1,h2,_⟩:=dd;exact⟨ob,h1,h2.2.1⟩
section
variable {X:Cx}{pins:List (Addr×Obj)}{σ:St}{H:Hp}{s:Shared}{a:Addr}{y d:V}{u r:Value}{o:Option V}{A:Around}{E:Value->Shared->Prop}
theorem sV{Q:Value->Shared->Prop}(hu:A.units+1<cLine)(I:Inv X pins σ H s)(g:bR H a y o)(ry:RelV y u)(rd:RelV d r)(h:∀w' s',Inv X pins σ H s'->RelV (o.getD d) w'->Q w' s') :
  wpAny (model X.prog X.w) A (call (.builtin "dict.get") [.ref a,u,r]) Q E s:=by
 rcases g with ⟨kvs,k,e,ey,l⟩|⟨kvs,k,b,e,ey,eb,l⟩
 ·subst ey;obtain⟨z,hd,vs,rel,dd⟩:=iJ I.hok e;refine call_meetsIn PySem.F.slot_dict_get dd.typeIs PySem.F.entry_dict_get (PySem.F.args_dict_get_3 _ _ _) (meets_dict_get_default (bI X.prog X.w) a (iI ry) hd r) ⟨_,dd.mapOf,h _ _ (I.tok _) ?_⟩;rw[l];exact(rel.val k).getD rd
 ·subst ey;cases (show u=Value.ref b from ry)
  obtain⟨z,hd,xs,rel,dd⟩:=gI I.hok e;refine call_meetsIn PySem.F.slot_dict_get dd.typeIs PySem.F.entry_dict_get (PySem.F.args_dict_get_3 _ _ _) (meetsH_dict_get_default (tupleKind (bI X.prog X.w)) a b hd r) ⟨tupleKind_room_in1 hu,k,xs,gx I.hok eb,dd,h _ _ (I.tok _) ?_⟩;rw[l];exact(rel.val k).getD rd
end
def yF(td ty tx:TE):TE:=fun σ H Q=>td σ H fun x H1=>∃a,x=.ref a/\IsD H1 a/\ty σ H1 fun y H2=>tx σ H2 fun z H3=>∃o,bR H3 a y o/\Q (o.getD z) H3
section
variable {X:Cx}{o e f:Expr}{apos cpos:Pos}{td ty tx:TE}
theorem j5(hu:X.A.units+1<cLine)(ho:PE X o td)(he:PE X e ty)(hf:PE X f tx)(m:M2 X o "get" apos e f cpos):PE X (.Call (.Attribute o "get" apos) [e,f] [] cpos) (yF td ty tx):=by
 intro pins s σ H Q I h;refine wpAny_Call_method m.base m.few m.line PySem.F.plainAttrs_dict PySem.F.slot_dict_get PySem.F.type_dict_get (thn (ho pins s σ H _ I h) fun u s1 ⟨x,H1,I1,rx,a,ex,d,q1⟩=>?_);subst ex;obtain rfl:u=Value.ref a:=rx;obtain⟨t1,t2,_⟩:=nU I1 d;refine⟨t1,t2,?_⟩;rw[m.trees];refine Calls.callWith_builtin rfl (Calls.evalArgs_plain (Calls.spliced_cons (thn (he pins s1 σ H1 _ I1 q1) fun iv s2 ⟨y,H2,I2,ry,q2⟩=>
  Calls.spliced_cons (thn (hf pins s2 σ H2 _ I2 q2) fun fv s3 ⟨z,H3,I3,rz,ov,g,q3⟩=>Calls.spliced_nil ?_))))
 exact sV hu I3 g ry rz fun w' s4 I4 rw'=>⟨_,H3,I4,rw',q3⟩
end
section
variable {X:Cx}{pins:List (Addr×Obj)}{σ:St}{H:Hp}{s:Shared}{a:Addr}{kvs:List (Key×V)}{A:Around}{E:Value->Shared->Prop}
end
section
variable {X:Cx}{pins:List (Addr×Obj)}{σ:St}{H:Hp}{s:Shared}{a:Addr}{y:V}{u:Value}{A:Around}{E:Value->Shared->Prop}
end
end L2
namespace Att
open PySem PySem.W PySem.Calls PyProof.Rows
theorem kF{P:Params}{h:Heap}:∀(ns:List Int) (vs:List Value),WellAll P h vs (ns.map WData.int)->IntsAre vs ns:=by
 intro ns
 induction ns with
 |nil=>
  intro vs w;rw[List.map_nil] at w;cases w
  exact .nil
 |cons n ns ih=>
  intro vs w;rw[aaw] at w;cases w with
  |cons a b=>
   cases a
   exact .cons _ _ (ih _ b)
theorem sW{l:OpenLaw}{n:Nat}(hn:l.most=some n){P:Params}{h:Heap}{args:List WData}{vals:List Value}
  (hpre:l.row.toRowW.claim.pre args=true)(hwl:WellAll P h vals args) :
  ∃a vs ns,vals=[Value.ref a]/\args=[WData.list (ns.map WData.int)]/\h.get? a=some {cls:=.type "list",data:=.seq vs.toArray}/\IntsAre vs ns/\ns.length<=n:=by
 have hsh:WShape.hasAll [] args [.list .int]=true:=(pre_splitW hpre).1;have hc:l.pre.holds [] {args:=args}=true:=(pre_splitW hpre).2;obtain⟨d,r,rfl,h1,h2⟩:=hasAllW_cons hsh;obtain rfl:=hasAllW_nil h2;obtain⟨xs,rfl,h3⟩:=hasW_list h1;obtain⟨ns,rfl⟩:=items_int h3;have hlen:ns.length<=n:=by
  unfold OpenLaw.pre at hc;have h4:(WTm.not (.lt (.lit (.int (n:Int))) (.len (.arg 0)))).holds [] {args:=[.list (ns.map .int)]}=true:=by
   have h4:=(holds_andW hc).1;rw[hn] at h4;exact h4
  have h5:=condW_of h4 (w_not (w_lt w_lit (w_len_list (w_arg rfl))));rw[aaa] at h5;refine Nat.le_of_not_lt fun q=>?_
  have q':(n:Int)<((ns.length:Nat):Int):=by omega
  first
   |(rw[aan q'] at h5;exact absurd h5 (by decide))
   |(simp at h5;omega)
 cases hwl with
 |cons w1 w2=>
  cases w2
  cases w1 with
  |list ho hall=>exact⟨_,_,ns,rfl,rfl,ho,kF ns _ hall,hlen⟩
theorem sY(l:OpenLaw)(args:List WData):l.row.toRowW.claim.post args (.bool true) args=true:=
 postW_of (r:=l.row.toRowW) (X:=(true == true))
  (show WShape.has [] (.bool true) .bool=true by first | rfl | decide | simp[WShape.has,WShape.arms,WShape.armsAll])
  (show(WTm.eq .res (.lit (.bool true))).value [] {args:=args,res:=some (.bool true),after:=args}=some (.bool (true == true)) from w_eq_bool (w_res rfl) w_lit) rfl
theorem pO{l:OpenLaw}{n:Nat}{q:Program}{loose:List Str}{XP:(Str->Option Value)->Heap->Prop}{YP:World->Heap->Prop}{d:DefRec}
  (hn:l.most=some n)(hdf:d.params.defaults=[])
  (call:∀(w:World) (s₀ s₁:Shared) (mg mb:Str->Option Value) (fa:Addr) (o:Obj) (pm cd doc:Value) (a:Addr) (vs:List Value) (ns:List Int),
   Ground q loose [] XP w s₀ mg mb s₁.heap->YP w s₁.heap->
   s₁.heap.get? fa=some o->o.data=.func (docDef d.name d.params d.body d.scope pm cd doc)->s₁.heap.CodeRec cd d.name->mg d.name=some (.ref fa)->
   s₁.heap.get? a=some {cls:=.type "list",data:=.seq vs.toArray}->IntsAre vs ns->ns.length<=n->s₁.gens=#[]->
   codeAny (model l.prog w) callerA (.call (.ref fa) ⟨[.ref a],[]⟩) (fun r s'=>r=.ok (.ret (.bool true))/\OldK s₁.heap s'.heap/\s'.os=s₁.os/\AllBare s'.gens) s₁) :
  WalkO q loose XP YP l.row.toRowW d [] (fun f vs=>PySem.call f vs):=by
 intro w s₀ s₁ mg mb G Y fa o pm cd doc dV kV ho hd hcd hD hmg hg args vals as hpre hlay hrd hwl hlo;obtain rfl:dV=.none:=Dflts.none hD hdf;obtain rfl:kV=.none:=Dflts.noKw hD;obtain⟨a,vs,ns,rfl,rfl,hobj,hints,hlen⟩:=sW hn hpre hwl;refine enter_call (codeAny_mono (call w s₀ s₁ mg mb fa o pm cd doc a vs ns G Y ho (fd_plain hd) hcd hmg hobj hints hlen hg) fun r s' hq=>?_);obtain⟨rfl,h2,h3,h4⟩:=hq;exact⟨.inl ⟨.bool true,.bool true,[],rfl,fun _=>rfl,.bool true,sY l _,fun _=>⟨List.Pairwise.nil,fun _ hm=>(nomatch hm)⟩⟩,h2,h3,h4⟩
section
variable {prog:Program}{w:World}{A:Around}{E:Value->Shared->Prop}{s:Shared}{K:Frag}
end
end Att
namespace L2
open PySem PySem.Spec PyProof.Rows
theorem mo:∀{vs:List Value} {ns:List Int},IntsAre vs ns->Vals (ns.map V.int) vs
 |_,_,.nil=>.nil
 |_,_,.cons n t h=>.cons ⟨t,rfl⟩ (mo h)
end L2
namespace L2
open PySem PySem.Spec PyProof.Rows
end L2
namespace L2
open PySem PySem.Spec PyProof.Rows
def gp(s:Stmt):Arguments:=match s with
 |.FunctionDef _ a _ _ _ _ _ _ _ _=>a
 |_=>{posonlyargs:=[],args:=[],vararg:=none,kwonlyargs:=[],kw_defaults:=[],kwarg:=none,defaults:=[]}
def eT(s:Stmt):List Stmt:=match s with
 |.FunctionDef _ _ b _ _ _ _ _ _ _=>b
 |_=>[]
def aw(s:Stmt):Scope:=match s with
 |.FunctionDef _ _ _ _ _ _ sc _ _ _=>sc
 |_=>{kind:=.function,names:=[],isGenerator:=false,isCoroutine:=false}
abbrev CX0:CXT:=fun _ _ _ _ _ _=>False
abbrev E0:XK:=fun _ _ _=>False
theorem zO{X:Cx}:Passes CX0 X E0:=fun _ _ _ _ _ _ _ h=>h.elim
structure Fun(K:PySem.W.Frag)(x qual:Str)(st:Stmt)(f:Addr)(fd:FuncData):Prop where
 ex:∃(oc:Value) (od:Option Addr) (kV doc pm:Value) (an:Option Addr) (cdv ct:Value) (osl:Array (Option Value)),
  fd=PySem.W.fnOf x qual (gp st) (eT st) (aw st) .none kV doc pm an cdv ct/\K.lookup f=some ⟨oc,od,.func fd,osl⟩/\PySem.W.codeIn K cdv qual=true
 kp:PySem.W.keepIn K (.ref f)=true
section
variable {P:Program}{w:World}{K:PySem.W.Frag}{mg:Str->Option Value}{base:Heap}
theorem Fun.ok{x qual:Str}{st:Stmt}{f:Addr}{fd:FuncData}{N ps:List Str}{k:Nat}{sp:Sp}(F:Fun K x qual st f fd)(S:aJ N ps (aw st))(len:∀vs H Q E,sp vs H Q E->vs.length=ps.length)
  (hbody:∀(cdv:Value) (A:Around) (outer:List Env) (s:Shared) (H:Hp) (vs:List V) (Q:VK) (E:XK),bC k (A.deeper (envOfC qual (aw st) s.heap.objs.size f cdv))->sp vs H Q E->
   ∃t,PSs (iG CX0 P w K mg base N qual (aw st) f cdv A outer s H E).nox (eT st) t/\t {nx:=fun _ H'=>Q .non H',rt:=Q} (start N vs) H):be P w K mg base CX0 (k+1) f fd ps sp:=by
 obtain⟨oc,od,kV,doc,pm,an,cdv,ct,osl,rfl,lk,hcd⟩:=F.ex;refine wP lk hcd S len fun A outer s H vs Q E hr hsp=>?_
 obtain⟨t,h,q⟩:=hbody cdv A outer s H vs Q E hr hsp;exact⟨t,h.nox,q⟩
theorem Fun.binds{x qual:Str}{st:Stmt}{f:Addr}{fd:FuncData}{ps:List Str}(F:Fun K x qual st f fd)
  (h:∀(kV doc pm:Value) (an:Option Addr) (cdv ct:Value) (us:List Value),us.length=ps.length->bindArgs (PySem.W.fnOf x qual (gp st) (eT st) (aw st) .none kV doc pm an cdv ct) ⟨us,[]⟩=pure (ps.zip us)):Binds K fd ps []:=by
 obtain⟨oc,od,kV,doc,pm,an,cdv,ct,osl,rfl,lk,hcd⟩:=F.ex;exact .all (h kV doc pm an cdv ct)
theorem sZ{x qual:Str}{st:Stmt}{f:Addr}{oc:Value}{od an:Option Addr}{osl:Array (Option Value)}{kV doc pm cdv ct:Value}(l:K.lookup f=some ⟨oc,od,.func (PySem.W.fnOf x qual (gp st) (eT st) (aw st) .none kV doc pm an cdv ct),osl⟩)
  (c:PySem.W.codeIn K cdv qual=true)(k:PySem.W.keepIn K (.ref f)=true):Fun K x qual st f (PySem.W.fnOf x qual (gp st) (eT st) (aw st) .none kV doc pm an cdv ct):=⟨⟨oc,od,kV,doc,pm,an,cdv,ct,osl,rfl,l,c⟩,k⟩
end
theorem cI{A:Around}{k:Nat}(hr:bC k A):A.units+1<cLine:=Nat.lt_of_le_of_lt (Nat.add_le_add_left (by decide:1<=64) _) hr.units
theorem aD{n:Nat}(h:n<=1000):n<sizeLine:=Nat.lt_of_le_of_lt h (by decide)
section
variable {X:Cx}
theorem pv(i:Nat){x:Str}{pos:Pos}(hN:X.N[i]? =some x:=by rfl)(hv:Vis X.env.scope x:=by first | exact Or.inl rfl | exact Or.inr (Or.inl rfl) | exact Or.inr (Or.inr rfl))(hd:(x == ("__debug__":Str))=false:=by decide)
  (hcd:(x == ("__classdict__":Str))=false:=by decide):PE X (.Name x pos) (nF i):=sx hN hv hd hcd
end
theorem aK{A B:Prop}(h:B):if false=true then A else B:=by
 rw[if_neg Bool.false_ne_true];exact h
theorem bF{A B:Prop}(h:A):if true=true then A else B:=by
 rw[if_pos rfl];exact h
theorem AA{c A B:Prop}[Decidable c](h1:c->A)(h2:¬c->B):if c then A else B:=by
 by_cases h:c
 ·rw[if_pos h];exact h1 h
 ·rw[if_neg h];exact h2 h
theorem dE{c A B:Prop}[Decidable c](hc:c)(h:B):if (!decide c)=true then A else B:=by
 rw[aan hc];exact aK h
def ab(H H':Hp):Prop:=∀b o,H b=some o->H' b=some o
theorem ab.refl(H:Hp):ab H H:=fun _ _ h=>h
theorem ab.trans{H H1 H2:Hp}(a:ab H H1)(b:ab H1 H2):ab H H2:=fun c o h=>b c o (a c o h)
theorem ab.free{H H':Hp}(e:ab H H'){l:Addr}(h:H' l=Option.none):H l=Option.none:=by
 cases q:H l with
 |none=>rfl
 |some o=>
  rw[e l o q] at h;cases h
theorem ab.seq{K:PySem.W.Frag}{H H':Hp}{a:Addr}{xs:List V}(e:ab H H')(h:SqL K H a xs):SqL K H' a xs:=by
 rcases h with (h|⟨o,h⟩)|h
 ·exact .inl (.inl (e _ _ h))
 ·exact .inl (.inr ⟨o,e _ _ h⟩)
 ·exact .inr h
section
variable {κ:Type}[DecidableEq κ]
theorem xp{kvs:List (κ×V)}{k:κ}{v:V}(h:bj kvs k=some v):k∈kvs.map (·.1):=by
 have q:(kvs.any fun kv=>decide (kv.1=k))=true:=by
  rw[eM,h]
  all_goals rfl
 obtain⟨p,hp,e⟩:=List.any_eq_true.mp q;exact aao.mpr ⟨p,hp,of_decide_eq_true e⟩
theorem fq:∀{l:List κ} {k:κ},l.Nodup->¬k∈l->(l++[k]).Nodup
 |[],k,_,_=>by simp
 |a::r,k,h,hk=>by
  obtain⟨h1,h2⟩:=List.nodup_cons.mp h;show(a::(r++[k])).Nodup;refine List.nodup_cons.mpr ⟨fun m=>?_,fq h2 fun m=>hk (List.mem_cons.mpr (Or.inr m))⟩;rcases aak.mp m with q|q
  ·exact h1 q
  ·exact hk (List.mem_cons.mpr (Or.inl (aaj.mp q).symm))
end
end L2
namespace L2
open PySem PySem.Spec PyProof.Rows
section
variable {prog:Program}{w:World}{A:Around}{R:Result->Shared->Prop}{s:Shared}
theorem nW{elt target iter:Expr}{ifs:List Expr}{scope:Scope}{pos:Pos}{it acc:Value}{env:Env}(I:Nat->Shared->Prop)
  (turn:∀n s,I n s->wpAny (model prog w) A (pyNext it) (fun r s₁=>match r with
   |none=>R (.ok .next) s₁
   |some v=>wpAny (model prog w) A (letOwnedTupleGo target it v) (fun _ s₁'=>wpAny (model prog w) A (assign target env v) (fun _ s₂=>
     wpAny (model prog w) A (forIn ifs true fun c r=>if r=true then do let ok ←isTrue c env (eval c env);pure (ForInStep.yield ok) else pure (ForInStep.yield r)) (fun ok s₃=>
      if ok=true then wpAny (model prog w) A (eval elt env) (fun x s₄=>
       wpAny (model prog w) A (call (.builtin "list.append") [acc,x]) (fun _ s₅=>∃m,m<n/\I m s₅) (fun _ _=>False) s₄) (fun _ _=>False) s₃
      else ∃m,m<n/\I m s₃) (fun _ _=>False) s₂) (fun _ _=>False) s₁') (fun _ _=>False) s₁) (fun _ _=>False) s)
  (n:Nat)(h:I n s) :
  codeAny (model prog w) A (.compLoop (.ListComp elt [⟨target,iter,ifs,0⟩] scope pos) 0 it acc env) R s:=by
 refine codeAny_loop rfl I (fun n s hI=>?_) n h;show wpAny _ A ((compTurn (.ListComp elt [⟨target,iter,ifs,0⟩] scope pos) 0 it acc env).onRaise (fun x=>do noteFrame x env;theTreesLotGoes x)) _ _ s;refine wpAny_noted ?_;rw[compTurn_list];refine wpAny_bind (wpAny_standAt (wpAny_bind (wpAny_mono (turn n s hI) (fun r s₁ h₁=>?_) fun _ _ h'=>h'.elim)));cases r with
 |none=>exact wpAny_pure h₁
 |some v=>
  refine wpAny_bind (wpAny_mono h₁ (fun _ s₁' h₁'=>?_) fun _ _ h'=>h'.elim);refine wpAny_bind (wpAny_mono h₁' (fun _ s₂ h₂=>wpAny_bind (wpAny_mono h₂ (fun ok s₃ h₃=>?_) fun _ _ h'=>h'.elim)) fun _ _ h'=>h'.elim);cases ok with
  |false=>exact wpAny_pure ⟨rfl,h₃⟩
  |true=>
   exact wpAny_bind (wpAny_bind (wpAny_mono h₃ (fun x s₄ h₄=>wpAny_bind (wpAny_mono h₄ (fun _ s₅ h₅=>wpAny_pure (wpAny_pure ⟨rfl,h₅⟩)) fun _ _ h'=>h'.elim)) fun _ _ h'=>h'.elim))
end
def PIf(X:Cx)(ifs:List Expr)(t:TT):Prop:=
 ∀(pins:List (Addr×Obj)) (s:Shared) (σ:St) (H:Hp) (Q:Bool->Hp->Prop),Inv X pins σ H s->t σ H Q->
  wpAny (model X.prog X.w) X.A (forIn ifs true fun c r=>if r=true then do let ok ←isTrue c X.env (eval c X.env);pure (ForInStep.yield ok) else pure (ForInStep.yield r)) (TP X pins σ Q) X.xe s
def m7:TT:=fun _ H Q=>Q true H
theorem di{X:Cx}:PIf X [] m7:=fun _ _ _ H _ I h=>wpAny_tests_nil ⟨H,I,h⟩
theorem xq{X:Cx}{c:Expr}{t:TT}(h:PT X c t):PIf X [c] t:=fun pins s σ H Q I hw=>wpAny_tests_one (h pins s σ H Q I hw)
def gb(sel:List (Option Nat))(σ:St):St:=sel.map fun o=>match o with
 |some i=>(σ[i]?).join
 |none=>none
def cD(X:Cx)(scope:Scope)(cl:List (Str×Addr))(N:List Str)(s₃:Shared)(H₃:Hp)(fp:List Addr):Cx where
 prog:=X.prog
 w:=X.w
 K:=X.K
 mg:=X.mg
 base:=X.base
 A:=X.A
 N:=N
 s₀:=s₃
 H₀:=H₃
 env:=compEnvC scope cl s₃.heap.objs.size X.env
 outer:=X.stack
 stack:=X.stack
 ex:=fp
 fn:=fun _=>false
 calm:=X.calm
 pn:=[]
 xe:=fun _ _=>False
structure bq(X:Cx)(scope:Scope)(cl:List (Str×Addr))(N:List Str)(sel:List (Option Nat)):Prop where
 clos:closureFor scope X.env=pure cl
 nocell:∀y∈scope.names,y.2≠.cell
 kind:scope.kind=.function
 locs:∀y∈scope.names,y.2=.local->scope.names.lookup y.1=some .local
 cells:∀x c,cl.lookup x=some c->X.env.cells.lookup x=some c
 has:∀x,(Vis (relabel scope X.env) x/\(relabel scope X.env).names.lookup x≠some .local)->∃c,cl.lookup x=some c
 len:sel.length=N.length
 names:∀(j i:Nat),sel[j]? =some (some i)->∃x,X.N[i]? =some x/\N[j]? =some x/\(Vis X.env.scope x/\X.env.scope.names.lookup x≠some .local)/\(relabel scope X.env).names.lookup x≠some .local
def m8(sel:List (Option Nat))(J:It)(D:Addr)(g:TG)(tc:TT)(te:TE)(σ:St)(H1:Hp)(Q:VK):Prop:=
 ∃W:Nat->Nat->St->Hp->Prop,(∃m,W 0 m (gb sel σ) (upd H1 D (.lst [])))/\∀i m τ H2,W i m τ H2->
  (J.stop i H2/\Q (.ref D) H2)\/(J.go i H2/\∃N:St->Hp->Prop,(∀τ' H',N τ' H'->∃m',m'<m/\W (i+1) m' τ' H')/\∀x H3,J.yld i H2 x H3->g x τ H3 fun τ2 H4=>tc τ2 H4 fun b H5=>
   if b=true then te τ2 H5 fun y H6=>∃ys,H6 D=some (.lst ys)/\ys.length<sizeLine/\N τ2 (upd H6 D (.lst (ys++[y])))
   else N τ2 H5)
def qL(sel:List (Option Nat))(wi:TI)(g:TG)(tc:TT)(te:TE):TE:=fun σ H Q=>wi σ H fun J H1=>∀D,H1 D=none->m8 sel J D g tc te σ H1 Q
theorem tj{sel:List (Option Nat)}{σ:St}{j:Nat}{v:V}(h:(gb sel σ)[j]? =some (some v)):∃i,sel[j]? =some (some i)/\σ[i]? =some (some v):=by
 unfold gb at h;rw[aax] at h;cases e:sel[j]? with
 |none=>rw[e] at h;cases h
 |some o=>
  rw[e] at h;cases o with
  |none=>cases h
  |some i=>
   refine⟨i,rfl,?_⟩;have h:(σ[i]?).join=some v:=by simpa using h
   cases q:σ[i]? with
   |none=>rw[q] at h;cases h
   |some o=>
    rw[q] at h;have h:o=some v:=h;rw[h]
section
variable {X:Cx}{pins:List (Addr×Obj)}{σ:St}{H:Hp}{s:Shared}{scope:Scope}{cl:List (Str×Addr)}{N:List Str}{sel:List (Option Nat)}
theorem bq.ok(C:bq X scope cl N sel){s₃:Shared}{H₃:Hp}{fp:List Addr}(I:Inv X pins σ H₃ s₃)(hf:∀b∈fp,cJ X pins H₃ b)(hlt:∀b∈fp,b<s₃.heap.objs.size):(cD X scope cl N s₃ H₃ fp).Ok where
 mod:=I.ok.mod
 kind:=C.kind
 glob:=I.ok.glob
 blt:=I.ok.blt
 above:=Nat.le_refl _
 inj:=fun x y c h1 h2=>I.ok.inj x y c (C.cells x c h1) (C.cells y c h2)
 has:=fun x hx=>C.has x (by
  rcases hx with k|k
  ·exact⟨.inr (.inl k),by rw[show(relabel scope X.env).names.lookup x=some .cell from k];decide⟩
  ·exact⟨.inr (.inr k),by rw[show(relabel scope X.env).names.lookup x=some .free from k];decide⟩)
 cab:=fun x c h=>absurd (show false=true from h) (by decide)
 hd:=I.ok.hd
 frames:=I.ok.frames
 stk:=.inl rfl
 exf:=fun b hb=>⟨Nat.ne_of_lt (hlt b hb),fun x c h=>(hf b hb).2.2.2.2.1 x c (C.cells x c h)⟩
 bs:=I.bs
 bsz:=Nat.le_trans I.ok.bsz I.sz
 noex:=fun b o e hb=>by
  rcases(hf b hb).2.2.2.1 with z|z
  ·exact I.ok.noex b o e z
  ·exact absurd (Nat.lt_of_lt_of_le (Heap.lt_size (I.ok.bs b o e).1) z) (Nat.lt_irrefl _)
 exfs:=fun b hb z=>by
  rcases List.mem_cons.mp (I.nE b z) with e|e
  ·exact(hf b hb).2.1 e
  ·exact(hf b hb).2.2.1 e
 fZ:=I.stack
 frf:=I.lB
theorem bq.start(C:bq X scope cl N sel){s₃:Shared}{H₃:Hp}{fp:List Addr}{h':Heap}(I:Inv X pins σ H₃ s₃)(hf:∀b∈fp,cJ X pins H₃ b)(hlt:∀b∈fp,b<s₃.heap.objs.size)
  (hn:h'.Ns s₃.heap.objs.size (fun _=>none))(k:∀b o,s₃.heap.get? b=some o->h'.get? b=some o)(tk:Nat):Inv (cD X scope cl N s₃ H₃ fp) [] (gb sel σ) H₃ {s₃ with heap:=h',toks:=tk}:=by
 refine⟨C.ok I hf hlt,rfl,I.bare,Un.kept k,⟨_,hn,fun j x v h1 h2 h3=>?_⟩,fun x c h=>?_,I.hok.fresh (Nat.le_refl _),fun x c h=>I.freeC x c (C.cells x c h),fun p hp=>absurd (show p∈([]:List (Addr×Obj)) from hp) (by simp),I.hok.kept k,?_⟩
 ·obtain⟨i,e1,e2⟩:=tj h2;obtain⟨y,n1,n2,⟨vis,nl⟩,nl'⟩:=C.names j i e1;have e:x=y:=by
   have z:N[j]? =some x:=h1;rw[n2] at z;exact(Option.some.inj z).symm
  subst e;obtain⟨m,hm,hl⟩:=I.loc;obtain⟨u,r,l⟩:=hl i x v n1 e2 vis;rcases l with ⟨k1,_⟩|⟨_,c,hc,hcell⟩
  ·exact absurd k1 nl
  ·refine⟨u,r,.inr ⟨?_,?_⟩⟩
   ·rcases h3 with z|z|z
    ·exact absurd z nl'
    ·exact .inl z
    ·exact .inr z
   ·obtain⟨c',hc'⟩:=C.has x ⟨h3,nl'⟩;have e:=C.cells x c' hc';rw[hc] at e;cases e
    obtain⟨o,ho,hd⟩:=hcell;exact⟨c,hc',o,k c o ho,hd⟩
 ·obtain⟨v,o,ho,hd⟩:=I.cell x c (C.cells x c h);exact⟨v,o,k c o ho,hd⟩
 ·unfold gb;rw[aaa];exact C.len
theorem bq.back(C:bq X scope cl N sel){s₃ s':Shared}{H₃ H':Hp}{fp:List Addr}{τ:St}{pl:List (Addr×Obj)}(I:Inv X pins σ H₃ s₃)(hf:∀b∈fp,cJ X pins H₃ b)
  (J:Inv (cD X scope cl N s₃ H₃ fp) pl τ H' s'){h':Heap}(hs:Heap.SameBut s₃.heap.objs.size s'.heap h'):Inv X pins σ H' {s' with heap:=h'}:=by
 have fr:H' s₃.heap.objs.size=none:=J.free;have lt:∀b o,s₃.heap.get? b=some o->b≠s₃.heap.objs.size:=fun b o e=>Nat.ne_of_lt (Heap.lt_size e)
 have u:Un (frs X.stack) fp H₃ H' s₃.heap h':=by
  have u0:Un (frs X.stack) fp H₃ H' s₃.heap s'.heap:=J.base;exact⟨fun b o e n h1 h2=>hs.extBut b o (lt b o e) (u0.keep b o e n h1 h2),fun b o e n h1 h2=>by
    obtain⟨sl,q⟩:=u0.slot b o e n h1 h2;exact⟨sl,hs.extBut b _ (lt b o e) q⟩,u0.free,fun b o e h1=>by
    obtain⟨o',q⟩:=u0.there b o e h1;exact⟨o',hs.extBut b _ (lt b o e) q⟩,u0.tups,u0.frzs,u0.tbls⟩
 refine I.zE (s':={s' with heap:=h'}) (ch:=fp) J.os u (fun a o e=>?_) J.bare fun b hb=>⟨(hf b hb).2.2.2.1,(hf b hb).2.1,(hf b hb).2.2.2.2.1,(hf b hb).2.2.2.2.2⟩
 have ne:∀b x,H' b=some x->b≠s₃.heap.objs.size:=fun b x q z=>by rw[z,fr] at q;cases q
 refine(J.hok a o e).eK (fun b u hb q=>hs.extBut b u ?_ q) (fun _ q=>q) fun _ _ q=>q
 rcases hb with z|z
 ·rw[z];exact ne a o e
 ·exact ne b _ z
theorem mq(C:bq X scope cl N sel){tg iter elt:Expr}{ifs:List Expr}{wi:TI}{g:TG}{tc:TT}{te:TE}{pos:Pos}(hc:X.calm=true)(hi:PI X tg iter wi)
  (hg:∀s₃ H₃ fp,PG (cD X scope cl N s₃ H₃ fp) tg g)(ht:∀s₃ H₃ fp,PIf (cD X scope cl N s₃ H₃ fp) ifs tc)(he:∀s₃ H₃ fp,PE (cD X scope cl N s₃ H₃ fp) elt te)
  {RR:Value->Addr->Result->Shared->Prop}{R:VK}(I:Inv X pins σ H s)(h:qL sel wi g tc te σ H R)
  (fin:∀D C' H' s' m,R (.ref D) H'->s'.heap.Ns C' m->cJ X pins H' C'->(∀h',Heap.SameBut C' s'.heap h'->Inv X pins σ H' {s' with heap:=h'})->RR (.ref D) C' (.ok .next) s') :
  wpAny (model X.prog X.w) X.A (eval iter X.env) (fun x s₁=>wpAny (model X.prog X.w) X.A (pyIter x) (fun it s₂=>wpAny (model X.prog X.w) X.A (newList []) (fun acc s₃=>
   wpAny (model X.prog X.w) X.A (newFunctionEnv scope X.env.globals cl [] X.env.qual none .none (some X.env)) (fun cenv s₄=>
    codeAny (model X.prog X.w) X.A (.compStart (.ListComp elt [⟨tg,iter,ifs,0⟩] scope pos) 0 it acc {cenv with scope:=relabel scope X.env}) (RR acc cenv.locals) s₄) X.xe s₃) X.xe s₂) X.xe s₁) X.xe s:=by
 refine thn (hi pins s σ H _ I h) fun v s1 h1=>thn h1 fun itv s2 h2=>?_
 obtain⟨it,fp,tn,J,H2,e,I2,T,st2,f2,hD⟩:=h2;subst e;have frD:H2 s2.heap.objs.size=none:=I2.fresh;obtain⟨W,⟨m0,w0⟩,turn⟩:=hD s2.heap.objs.size frD;refine wpAny_newObj_type ?_;have I3:Inv X pins σ (upd H2 s2.heap.objs.size (.lst [])) {s2 with heap:=s2.heap.push {cls:=.type "list",data:=.seq ([]:List Value).toArray},toks:=s2.toks}:=I2.uR (its:=[]) .nil (Nat.zero_le _);have lt2:∀b∈fp,b<s2.heap.objs.size:=fun b hb=>by
  obtain⟨o,e,_⟩:=T.obj _ _ st2 b hb;exact Heap.lt_size e
 have f3:∀b∈fp,cJ X pins (upd H2 s2.heap.objs.size (.lst [])) b:=fun b hb=>⟨by rw[aj (Nat.ne_of_lt (lt2 b hb))];exact(f2 b hb).1,(f2 b hb).2⟩
 generalize eH:upd H2 s2.heap.objs.size (.lst [])=H3 at I3 f3 w0;have hD3:H3 s2.heap.objs.size=some (.lst []):=by rw[←eH];exact aa
 generalize es:({s2 with heap:=s2.heap.push {cls:=.type "list",data:=.seq ([]:List Value).toArray},toks:=s2.toks}:Shared)=s3 at I3;have st3:tn 0 s3.heap:=by
  rw[←es];exact T.keep _ _ _ st2 fun b _ o e=>aaf _ e
 have lt3:∀b∈fp,b<s3.heap.objs.size:=fun b hb=>by
  obtain⟨o,e,_⟩:=T.obj _ _ st3 b hb;exact Heap.lt_size e
 refine wpAny_newFunctionEnv C.nocell (fun x hx=>by simp at hx) (fun h4 hn4 hs4=>?_) C.kind;have k4:∀b o,s3.heap.get? b=some o->h4.get? b=some o:=fun b o e=>hs4.extBut b o (Nat.ne_of_lt (Heap.lt_size e)) (aaf _ e)
 have I4:=C.start (tk:=s3.toks+([]:List (Str×Value)).length) I3 f3 lt3 (by simpa using hn4) k4;have st4:tn 0 h4:=T.keep _ _ _ st3 fun b _ o e=>k4 b o e
 have stat:∀{H':Hp},(∀b∈fp,H' b=none)->∀b∈fp,cJ (cD X scope cl N s3 H3 fp) [] H' b:=fun hn b hb=>
  ⟨hn b hb,Nat.ne_of_lt (lt3 b hb),(C.ok I3 f3 lt3).exfs b hb,.inl hb,fun x c h=>(f3 b hb).2.2.2.2.1 x c (C.cells x c h),fun p hp=>absurd (show p∈([]:List (Addr×Obj)) from hp) (by simp)⟩
 have loop:codeAny (model X.prog X.w) X.A (.compLoop (.ListComp elt [⟨tg,iter,ifs,0⟩] scope pos) 0 (.ref it) (.ref s2.heap.objs.size) (compEnvC scope cl s3.heap.objs.size X.env)) (RR (.ref s2.heap.objs.size) s3.heap.objs.size)
   {s3 with heap:=h4,toks:=s3.toks+([]:List (Str×Value)).length}:=by
  refine nW (fun n s'=>∃i τ H',Inv (cD X scope cl N s3 H3 fp) [] τ H' s'/\tn i s'.heap/\(∀b∈fp,H' b=none)/\W i n τ H') ?_ m0 ⟨0,gb sel σ,H3,I4,st4,fun b hb=>(f3 b hb).1,w0⟩;rintro n s5 ⟨i,τ5,H5,I5,st5,fr5,w5⟩;rcases turn i n τ5 H5 w5 with ⟨stop,q⟩|⟨go,Nx,hNx,step⟩
  ·refine thn (T.done (cD X scope cl N s3 H3 fp) rfl rfl rfl hc i [] s5 τ5 H5 _ I5 (stat fr5) st5 stop) fun r s6 ⟨hr,I6⟩=>?_
   subst hr;obtain⟨m6,hn6,_⟩:=id I6.loc;exact fin _ _ H5 s6 m6 q hn6 (I3.g8 (Nat.le_refl _) I6.free) fun h' hs'=>C.back I3 f3 I6 hs'
  ·refine thn (T.item (cD X scope cl N s3 H3 fp) rfl rfl rfl hc i [] s5 τ5 H5 _ I5 (stat fr5) st5 go) fun r s6 ⟨u,hr,h6⟩=>?_
   subst hr;refine thn h6 fun _ s7 ⟨x,H7,I7,r7,y7,st7,fr7⟩=>?_
   have I7':=I7.pinned (stat fr7) (T.obj _ _ st7);have c9:∀{τ':St} {H':Hp} {s':Shared},Inv (cD X scope cl N s3 H3 fp) ([]++i8 fp s7.heap) τ' H' s'->tn (i+1) s'.heap/\∀b∈fp,H' b=none:=fun{τ' H' s'} Iz=>
    ⟨T.keep _ _ _ st7 fun b hb o e=>(Iz.pin (b,o) (aar _ (aar _ (f9 hb e)))).1,fun b hb=>by
     obtain⟨o,e,d⟩:=T.obj _ _ st7 b hb;exact(Iz.pin (b,o) (aar _ (aar _ (f9 hb e)))).2.1⟩
   refine thn (hg s3 H3 fp _ s7 τ5 H7 x u _ I7' r7 (step x H7 y7)) fun _ s8 ⟨τ8,H8,I8,q8⟩=>?_
   refine thn (ht s3 H3 fp _ s8 τ8 H8 _ I8 q8) fun ok s9 ⟨H9,I9,q9⟩=>?_
   cases ok with
   |false=>
    obtain⟨m',hm,w9⟩:=hNx _ _ (show Nx τ8 H9 from q9);exact⟨m',hm,i+1,τ8,H9,I9.fj,(c9 I9).1,(c9 I9).2,w9⟩
   |true=>
    have q9:te τ8 H9 _:=q9;refine thn (he s3 H3 fp _ s9 τ8 H9 _ I9 q9) fun y s10 ⟨yv,H10,I10,r10,q10⟩=>?_
    obtain⟨ys,hys,hl,n10⟩:=q10;obtain⟨m',hm,w10⟩:=hNx _ _ n10;refine thn (bf (X:=cD X scope cl N s3 H3 fp) _ s10 τ8 H10 (.ref s2.heap.objs.size) [yv] (.ref s2.heap.objs.size) [y] (fun _ H'=>W (i+1) m' τ8 H') I10 rfl (.cons r10 .nil) ⟨_,ys,yv,rfl,rfl,hys,hl,w10⟩) fun _ s11 ⟨_,H11,I11,_,w11⟩=>?_
    exact⟨m',hm,i+1,τ8,H11,I11.fj,(c9 I11).1,(c9 I11).2,w11⟩
 exact codeAny_compStart_list loop (T.self X.A 0 _ _ _ st4 loop)
theorem dj(C:bq X scope cl N sel){tg iter elt:Expr}{ifs:List Expr}{wi:TI}{g:TG}{tc:TT}{te:TE}{pos:Pos}(hc:X.calm=true)(hi:PI X tg iter wi)
  (hg:∀s₃ H₃ fp,PG (cD X scope cl N s₃ H₃ fp) tg g)(ht:∀s₃ H₃ fp,PIf (cD X scope cl N s₃ H₃ fp) ifs tc)(he:∀s₃ H₃ fp,PE (cD X scope cl N s₃ H₃ fp) elt te)
  (hs:∀x,foldedSetIterable iter X.env x=pure x:=by intro _;rfl):PE X (.ListComp elt [⟨tg,iter,ifs,0⟩] scope pos) (qL sel wi g tc te):=by
 intro pins s σ H Q I h;rw[eval_ListComp];refine wpAny_comprehension_free (use:=none) rfl hs C.clos C.kind C.locs (mq C hc hi hg ht he I h (R:=Q) fun D C' H' s' m q hn _ back=>?_);exact⟨m,hn,fun h' hs'=>⟨.ref D,H',back h' hs',rfl,q⟩⟩
theorem qM(C:bq X scope cl N sel){tg iter elt:Expr}{ifs:List Expr}{wi:TI}{g:TG}{tc:TT}{te:TE}{pos spos py:Pos}{y:Str}{k:Nat}(hc:X.calm=true)(hN:X.N.Nodup)(hk:X.N[k]? =some y)(hy:Loc X.env.scope y)(hi:PI X tg iter wi)
  (hg:∀s₃ H₃ fp,PG (cD X scope cl N s₃ H₃ fp) tg g)(ht:∀s₃ H₃ fp,PIf (cD X scope cl N s₃ H₃ fp) ifs tc)(he:∀s₃ H₃ fp,PE (cD X scope cl N s₃ H₃ fp) elt te)
  (hsw:swapsWith (.ListComp elt [⟨tg,iter,ifs,0⟩] scope pos) (some (.Name y py)) spos.line X.env=pure true:=by rfl)
  (hs:∀x,foldedSetIterable iter X.env x=pure x:=by intro _;rfl)(hf:X.fn y=true\/X.env.scope.names.lookup y=some .local:=by first | exact .inl rfl | exact .inr rfl | assumption) :
  PS X (.Assign [.Name y py] (.ListComp elt [⟨tg,iter,ifs,0⟩] scope pos) spos) (qz (qL sel wi g tc te) (jv k)):=by
 intro pins s σ H D I h;rw[exec_Assign_Name_used _ _ _ _ hsw];refine wpAny_bind (wpAny_standAt (wpAny_bind ?_));show wpAny _ X.A (do let _ ←comprehension (.ListComp elt [⟨tg,iter,ifs,0⟩] scope pos) scope X.env _ (newList []) false (eval iter X.env) (some (assign (.Name y py) X.env))) _ _ s;refine wpAny_bind (wpAny_mono (wpAny_comprehension_free (use:=some (assign (.Name y py) X.env)) (Q:=fun _ s'=>SP X pins D .next s') rfl hs C.clos C.kind C.locs
  (mq C hc hi hg ht he I h (R:=fun x H1=>D.nx (σ.set k (some x)) H1) fun D' C' H' s' m q hn fC back=>?_)) (fun _ s' hq=>wpAny_pure (wpAny_pure hq)) fun _ _ e=>e)
 show wpAny (model X.prog X.w) X.A (assign (.Name y py) X.env (.ref D')) _ _ s';have I':Inv X pins σ H' s':=back s'.heap (.refl ..);obtain⟨oC,hoC,hdC⟩:∃o,s'.heap.get? C'=some o/\∀v,o.data≠.cell v:=by
  obtain⟨o,es,ep,ho,hd,_⟩:=id hn;exact⟨o,ho,fun v z=>by rw[hd] at z;cases z⟩
 have I'':Inv X (pins++[(C',oC)]) σ H' s':=I'.gm fun p hp=>by
  rcases aak.mp hp with z|z
  ·exact I'.pin p (aar _ z)
  ·have e:p=(C',oC):=by simpa using z
   subst e;exact⟨hoC,fC.1,fC.2.1,fC.2.2.1,hdC⟩
 refine wpAny_assign_Name (jY I'' hN hk hy (v:=.ref D') rfl (fun s2 I2=>?_) hf);have p2:=I2.pin (C',oC) (aar _ (aar _ (by simp)));refine⟨m,?_,fun h' hs'=>⟨σ.set k (some (.ref D')),H',?_,q⟩⟩
 ·obtain⟨o,es,ep,ho,r⟩:=hn;rw[hoC] at ho;cases ho;exact⟨oC,es,ep,p2.1,r⟩
 ·exact I2.fj.turned (t':=s2.toks) (fun b o hb e=>hs'.extBut b o hb e) fC.1 fC.2.1 fC.2.2.2.1 fC.2.2.2.2.1 fC.2.2.2.2.2
end
end L2
namespace SL
open PySem
def cU:Value->Str
 |.str x _=>x
 |_=>Str.empty
def gc(w:World)(e:Int×Value):Prop:=∃k t,e=(hashStr w k,Value.str k t)
def bh(w:World)(h:Heap)(a:Addr)(L:List Str):Prop:=
 ∃o es ep t,h.get? a=some o/\o.ExactSet/\o.data=.set es ep t/\(∀e∈es.toList,gc w e)/\(es.toList.map fun e=>cU e.2).Perm L/\L.Nodup/\es.size<scanBound/\t.fits es.size=true
  /\t.led=(!w.params.followText "set-order")/\(t.plain=true->es.size=0)
theorem xt(t:SetTable)(j:Nat):(t.put j).1.led=t.led:=by
 unfold SetTable.put;first | rfl | (split <;> rfl) | (dsimp only;split <;> rfl)
theorem tm(t:SetTable)(j:Nat):(t.put j).1.plain=t.plain:=by
 unfold SetTable.put;first | rfl | (split <;> rfl) | (dsimp only;split <;> rfl)
theorem mQ(t:SetTable)(n:Nat):(t.orStandIn n).led=t.led:=by
 unfold SetTable.orStandIn;split <;> rfl
theorem kG(t:SetTable)(n:Nat)(h:t.plain=false):(t.orStandIn n).plain=false:=by
 unfold SetTable.orStandIn;split
 ·exact h
 ·rfl
theorem qN(t:SetTable)(es:Array (Int×Value))(h:Int)(x:Value):(layNew t es h x).2.1.led=t.led:=by
 unfold layNew;split
 ·dsimp only;rw[mQ,xt]
 ·rfl
theorem nX(t:SetTable)(es:Array (Int×Value))(h:Int)(x:Value)(hp:t.plain=false):(layNew t es h x).2.1.plain=false:=by
 unfold layNew;split
 ·dsimp only;exact kG _ _ (by rw[tm];exact hp)
 ·rfl
theorem kH{t t':SetTable}{hs:Array Int}{n:Nat}{o:Array Nat}(e:t.relaid hs n=some (t',o)):t'.led=t.led/\t'.plain=t.plain:=by
 unfold SetTable.relaid SetTable.laid at e;cases q:SetTable.layClean (SetTable.sizeAbove n - 1) hs with
 |none=>rw[q] at e;cases e
 |some ow=>
  rw[q] at e;simp only[Option.bind_eq_bind,Option.bind_some] at e;have e:=Option.some.inj e;have e1:=congrArg Prod.fst e;constructor
  ·exact(congrArg SetTable.led e1).symm
  ·exact(congrArg SetTable.plain e1).symm
theorem nY(t:SetTable)(es:Array (Int×Value))(n:Nat):(relayAll t es n).2.1.led=t.led:=by
 unfold relayAll;split
 ·rename_i t' o e;dsimp only;split
  ·exact(kH e).1
  ·rfl
 ·rfl
theorem lE(t:SetTable)(es:Array (Int×Value))(n:Nat)(h:t.plain=false):(relayAll t es n).2.1.plain=false:=by
 unfold relayAll;split
 ·rename_i t' o e;dsimp only;split
  ·rw[(kH e).2];exact h
  ·rfl
 ·rfl
end SL
namespace SL
open PySem
section
variable {prog:Program}{w:World}{A:Around}{E:Value->Shared->Prop}{s:Shared}{a:Addr}{L:List Str}
theorem gc.of{w:World}(prog:Program){e:Int×Value}(h:gc w e):(∃k,(strKind prog w).is k e.2=true/\e.1=(strKind prog w).hash k)/\e.2.scannable=true:=by
 obtain⟨k,t,rfl⟩:=h;exact⟨⟨k,by simp[strKind,Value.isStrOf],rfl⟩,rfl⟩
theorem kJ{w:World}{prog:Program}{e:Int×Value}(h:gc w e)(k:Str):(strKind prog w).is k e.2=true↔cU e.2=k:=by
 obtain⟨x,t,rfl⟩:=h;show Value.isStrOf k (.str x t)=true↔x=k;constructor
 ·intro q;obtain⟨u,e⟩:=Value.isStrOf_shape q;injection e
 ·intro e;subst e;simp[Value.isStrOf]
theorem lF{w:World}(prog:Program){l:List (Int×Value)}(h:∀e∈l,gc w e):ElemsOf (strKind prog w) l:=fun e he=>(h e he).of prog
theorem bh.setOf(prog:Program){h:Heap}(S:bh w h a L):h.SetOf (strKind prog w) a (fun k=>decide (k∈L)) L.length:=by
 obtain⟨o,es,ep,t,ho,hex,hd,hel,hp,nd,hb,hf,_,_⟩:=S;refine⟨o,es,ep,t,ho,hex,hd,lF prog hel,fun k=>?_,hb,hf,?_⟩
 ·rw[decide_eq_true_eq,←hp.mem_iff,aao];exact⟨fun⟨e,he,q⟩=>⟨e,he,(kJ (hel e he) k).mpr q⟩,fun⟨e,he,q⟩=>⟨e,he,(kJ (hel e he) k).mp q⟩⟩
 ·have:=hp.length_eq;rw[aaa,Array.length_toList] at this;exact this
theorem bh.at{h h':Heap}(S:bh w h a L)(k:∀o,h.get? a=some o->h'.get? a=some o):bh w h' a L:=by
 obtain⟨o,es,ep,t,ho,r⟩:=S;exact⟨o,es,ep,t,k o ho,r⟩
theorem bh.there{h:Heap}(S:bh w h a L):∃o,h.get? a=some o:=by
 obtain⟨o,es,ep,t,ho,r⟩:=S;exact⟨o,ho⟩
theorem uV{Q:Value->Shared->Prop}
  (h:∀h',bh w h' s.heap.objs.size []->(∀b o,s.heap.get? b=some o->h'.get? b=some o)->Q (.ref s.heap.objs.size) {s with heap:=h'}) :
  wpAny (model prog w) A (newSet (.type "set")) Q E s:=by
 unfold newSet setsByText;refine wpAny_bind (wpAny_bind (wpAny_askSetting (wpAny_pure ?_)));dsimp only;simp only[newObj];refine wpAny_bind (wpAny_alloc (wpAny_pure (h _ ⟨_,#[],0,_,aay _ rfl,⟨rfl,rfl,rfl⟩,rfl,fun e he=>by simp at he,.refl _,List.nodup_nil,by decide,by rfl,rfl,fun _=>rfl⟩ fun b o e=>aaf _ e)))
def cN(L:List Str)(x:Str):List Str:=if x∈L then L else L++[x]
theorem iK{L:List Str}{x:Str}(h:L.Nodup):(cN L x).Nodup:=by
 unfold cN;split
 ·exact h
 ·rename_i hx;rw[List.nodup_append];refine⟨h,by simp,fun a ha b hb=>?_⟩;rw[aaj] at hb;subst hb;exact fun e=>hx (e▸ha)
theorem nZ{L:List Str}{x y:Str}:y∈cN L x↔y∈L\/y=x:=by
 unfold cN;split
 ·rename_i hx;exact⟨.inl,fun z=>z.elim id fun e=>e▸hx⟩
 ·rw[aak,aaj]
theorem jN{x:Str}{t₀:Tok}{Q:Bool->Shared->Prop}(S:bh w s.heap a L)(hroom:L.length+1<scanBound)
  (h:∀h',Heap.SameBut a s.heap h'->bh w h' a (cN L x)->Q (!decide (x∈L)) {s with heap:=h'}) :
  wpAny (model prog w) A (setAddHashed a (.str x t₀) (hashStr w x)) Q E s:=by
 have hkey:(strKind prog w).is x (.str x t₀)=true:=by simp[strKind,Value.isStrOf]
 obtain⟨o,es,ep,t,ho,hex,hd,hel,hp,nd,hb,hf,hled,hpl⟩:=id S;have hn:es.size=L.length:=by
  have:=hp.length_eq;rw[aaa,Array.length_toList] at this;exact this
 have hb1:es.size+1<scanBound:=by rw[hn];exact hroom
 unfold setAddHashed setAddHashedIn;refine wpAny_holding (wpAny_bind (wpAny_setState_of ho hd hf ?_));dsimp only;rw[byScan_of (knd:=strKind prog w) rfl hb (lF prog hel)];simp only[↓reduceIte];unfold setAddByScan;refine wpAny_bind ?_;refine wpAny_bind (wpAny_rule ?_);refine wpAny_bind (wpAny_setScan_of (knd:=strKind prog w) (k:=x) hkey ho hd hf (lF prog hel) ?_);cases hr:List.findIdx? (fun e=>(strKind prog w).is x e.2) es.toList with
 |some j=>
  dsimp only;obtain⟨hj,hpj,_⟩:=List.findIdx?_eq_some_iff_getElem.mp hr;have hx:x∈L:=by
   rw[←hp.mem_iff,aao];exact⟨_,List.getElem_mem hj,(kJ (hel _ (List.getElem_mem hj)) x).mp hpj⟩
  refine wpAny_pure (wpAny_pure ?_);have e:s={s with heap:=s.heap}:=by cases s;rfl
  have q:=h s.heap (Heap.SameBut.refl a s.heap) (by rw[cN,if_pos hx];exact S);rw[aan hx] at q;rw[e];exact q
 |none=>
  dsimp only;have hx:¬x∈L:=by
   rw[←hp.mem_iff,aao];rintro⟨e,he,q⟩;have z:=List.findIdx?_eq_none_iff.mp hr e he;rw[(kJ (hel e he) x).mpr q] at z;cases z
  have hgw:∀(b:Bool) {s₁:Shared} {Q':Unit->Shared->Prop},Q' () s₁->wpAny (model prog w) A (match b with | true=>rule "set.scan.the-table-gave-way" | false=>pure ()) Q' E s₁:=
   fun b s₁ Q' hq=>by cases b <;> first | exact wpAny_pure hq | exact wpAny_rule hq
  have hperm:=layNew_perm t es (hashStr w x) (.str x t₀);have hfits:=layNew_fits t es (hashStr w x) (.str x t₀);have hledN:=qN t es (hashStr w x) (.str x t₀);have hplN:=nX t es (hashStr w x) (.str x t₀);generalize hL:layNew t es (hashStr w x) (.str x t₀)=L0 at hperm hfits hledN hplN ⊢;obtain⟨es1,t1,wasDummy,gave⟩:=L0;dsimp only at hperm hfits hledN hplN ⊢;rw[Array.toList_push] at hperm;have hel1:∀e∈es1.toList,gc w e:=fun e he=>by
   rcases aak.mp (hperm.mem_iff.mp he) with z|z
   ·exact hel e z
   ·rw[aaj] at z;exact⟨x,t₀,z⟩
  have hp1:(es1.toList.map fun e=>cU e.2).Perm (L++[x]):=by
   refine(hperm.map _).trans ?_;rw[aam];exact hp.append_right _
  have hsz1:es1.size=es.size+1:=by rw[←Array.length_toList,hperm.length_eq,aag,Array.length_toList];rfl
  have hb1':es1.size<scanBound:=by rw[hsz1];exact hb1
  have nd1:(L++[x]).Nodup:=by
   have:=iK (x:=x) nd;rw[cN,if_neg hx] at this;exact this
  refine wpAny_bind (hgw _ ?_);have tail:∀t2:SetTable,t2.fits es1.size=true->t2.led=t.led->t2.plain=false->wpAny (model prog w) A (do
    storeSet a es1 t2
    if (!wasDummy && t2.tooFull)=true then do
      (match (relayAll t2 es1 (SetTable.grown es1.size)).2.2 with | true=>rule "set.scan.the-table-gave-way" | false=>pure ())
      storeSet a (relayAll t2 es1 (SetTable.grown es1.size)).1 (relayAll t2 es1 (SetTable.grown es1.size)).2.1
      pure (some true)
     else pure (some true)) (fun r s'=>r=some true/\∃h',s'={s with heap:=h'}/\Heap.SameBut a s.heap h'/\bh w h' a (L++[x])) E s:=by
   intro t2 f2 l2 p2;refine wpAny_bind (wpAny_storeSet_of ho hd ?_ (fits_of_scanBound hb1'));have hsb1:=Heap.SameBut.update s.heap a (Obj.putSet es1 t2);have ho1:(s.heap.update a (Obj.putSet es1 t2)).get? a=some {o with data:=.set es1 (ep+1) t2}:=by
    have:=Heap.get?_update_self (Obj.putSet es1 t2) ho (by rw[putSet_of es1 t2 hd];rfl);rw[putSet_of es1 t2 hd] at this;exact this
   have fin:∀{h1:Heap} {o1:Obj} {e2:Array (Int×Value)} {n2:Nat} {t3:SetTable},h1.get? a=some o1->o1.ExactSet->o1.data=.set e2 n2 t3->e2.toList.Perm es1.toList->t3.fits e2.size=true->t3.led=t.led->t3.plain=false->bh w h1 a (L++[x]):=by
    intro h1 o1 e2 n2 t3 q1 q2 q3 pq q4 q5 q6;refine⟨o1,e2,n2,t3,q1,q2,q3,fun e he=>hel1 e (pq.mem_iff.mp he),(pq.map _).trans hp1,nd1,?_,q4,q5.trans hled,fun z=>by rw[q6] at z;cases z⟩;have:e2.size=es1.size:=by rw[←Array.length_toList,pq.length_eq,Array.length_toList]
    rw[this];exact hb1'
   split
   ·have hpr:=relayAll_perm t2 es1 (SetTable.grown es1.size);have hfr:=relayAll_fits t2 es1 (SetTable.grown es1.size);have hlr:=nY t2 es1 (SetTable.grown es1.size);have hplr:=lE t2 es1 (SetTable.grown es1.size) p2;generalize hRl:relayAll t2 es1 (SetTable.grown es1.size)=Rl at hpr hfr hlr hplr ⊢;obtain⟨es2,t3,gave2⟩:=Rl;dsimp only at hpr hfr hlr hplr ⊢;have hsz:es2.size=es1.size:=by rw[←Array.length_toList,hpr.length_eq,Array.length_toList]
    have hb2:es2.size<scanBound:=by rw[hsz];exact hb1'
    refine wpAny_bind (hgw _ ?_);refine wpAny_bind (wpAny_storeSet_of ho1 rfl ?_ (fits_of_scanBound hb2));have ho2:=Heap.get?_update_self (Obj.putSet es2 t3) ho1 (by rw[putSet_of es2 t3 rfl];rfl);rw[putSet_of es2 t3 rfl] at ho2;exact wpAny_pure ⟨rfl,_,rfl,hsb1.trans (Heap.SameBut.update _ a _),fin ho2 hex rfl hpr hfr (hlr.trans l2) hplr⟩
   ·exact wpAny_pure ⟨rfl,_,rfl,hsb1,fin ho1 hex rfl (.refl _) f2 l2 p2⟩
  have done:∀r s',(r=some true/\∃h',s'={s with heap:=h'}/\Heap.SameBut a s.heap h'/\bh w h' a (L++[x]))->r=some true/\Q true s':=by
   rintro r s' ⟨rfl,h',rfl,hs,S'⟩;have q:=h h' hs (by rw[cN,if_neg hx];exact S');rw[aai hx] at q;exact⟨rfl,q⟩
  split
  ·rename_i hp1';refine wpAny_bind ?_;rw[hashByValue_scannable 8 (show(Value.str x t₀).scannable=true from rfl)];refine wpAny_pure ?_;refine wpAny_mono (tail _ ?_ ?_ ?_) (fun r s' q=>?_) fun _ _ e=>e
   ·exact SetTable.fits_plain_off hfits
   ·exact hledN
   ·rfl
   ·obtain⟨rfl,q'⟩:=done r s' q;exact wpAny_pure q'
  ·rename_i hp1';refine wpAny_bind (wpAny_pure ?_);simp only[↓reduceIte];refine wpAny_mono (tail t1 hfits hledN (by cases z:t1.plain with | false=>rfl | true=>exact absurd z hp1')) (fun r s' q=>?_) fun _ _ e=>e
   obtain⟨rfl,q'⟩:=done r s' q;exact wpAny_pure q'
theorem yG{x:Str}{t₀:Tok}{Q:Option Nat->Shared->Prop}(S:bh w s.heap a L)(h:∀r:Option Nat,r.isSome=decide (x∈L)->Q r s) :
  wpAny (model prog w) A (setFind a (.str x t₀) (hashStr w x)) Q E s:=
 wpAny_setFind_of (knd:=strKind prog w) (k:=x) (by simp[strKind,Value.isStrOf]) rfl (S.setOf prog) h
end
end SL
namespace SL
open PySem PySem.Spec
def gy(val:Nat->Str)(i:Nat):List Str:=((List.range i).map val).foldl cN []
theorem mr(val:Nat->Str)(i:Nat):gy val (i+1)=cN (gy val i) (val i):=by
 unfold gy;rw[List.range_succ,aam,List.foldl_append];rfl
theorem j6(L:List Str)(x:Str):(cN L x).length<=L.length+1:=by
 unfold cN;split
 ·omega
 ·simp
theorem oe(val:Nat->Str):∀i,(gy val i).length<=i
 |0=>Nat.le_refl _
 |i+1=>by
  rw[mr];have:=j6 (gy val i) (val i);have:=oe val i;omega
def ap(ss:List Str):List Str:=ss.foldl cN []
theorem mt:∀(ss L:List Str) (x:Str),x∈ss.foldl cN L↔x∈L\/x∈ss
 |[],L,x=>by simp
 |y::r,L,x=>by
  rw[List.foldl_cons,mt r,nZ,List.mem_cons,or_assoc]
theorem jO:∀(ss L:List Str),L.Nodup->(ss.foldl cN L).Nodup
 |[],L,h=>h
 |y::r,L,h=>jO r _ (iK h)
theorem bO{ss:List Str}{x:Str}:x∈ap ss↔x∈ss:=by
 unfold ap;rw[mt];simp
theorem ck(ss:List Str):(ap ss).Nodup:=jO ss [] List.nodup_nil
theorem mv:∀(ss L:List Str),(ss.foldl cN L).length<=L.length+ss.length
 |[],L=>by simp
 |y::r,L=>by
  have h1:=mv r (cN L y);have h2:=j6 L y;rw[List.foldl_cons,aau];omega
theorem fS(ss:List Str):(ap ss).length<=ss.length:=by
 have:=mv ss [];simpa [ap] using this
theorem tq(ss:List Str):gy (fun i=>ss.getD i Str.empty) ss.length=ap ss:=by
 unfold gy ap;have e:(List.range ss.length).map (fun i=>ss.getD i Str.empty)=ss:=by
  apply List.ext_getElem
  ·simp
  ·intro i h1 h2;simp only[List.getElem_map,List.getElem_range];rw[aat,aae h2];rfl
 rw[e]
section
variable {prog:Program}{w:World}{A:Around}{R:Result->Shared->Prop}{I:Addr}{fp wr:List Addr}{G:Array GenState->Array GenState->Prop}{n:Nat}{P:Nat->Value->Prop}{St:Nat->Shared->Prop}
theorem mR(W:WalksS prog w A.in1 I fp wr G n P St)(S:Addr)(hSf:S ∉ fp)
  (val:Nat->Str)(hval:∀i v,P i v->∃t,v=.str (val i) t)(hb:n+1<scanBound) :
  ∀(k i:Nat) (s:Shared),n - i=k->i<=n->St i s->bh w s.heap S (gy val i)->
   (∀s',Moved (S::wr) G s s'->bh w s'.heap S (gy val n)->R (.ok (.ret .none)) s')->
   codeAny (model prog w) A (.builtin "set.update.loop" ⟨[.ref S,.ref I],[]⟩) R s:=by
 have hSw:S ∉ wr:=fun h=>hSf (W.sub _ h)
 have hsub:∀b∈wr,b∈S::wr:=fun b hb=>aad _ hb
 intro k
 induction k with
 |zero=>
  intro i s hk hi hst hS hR;have hin:i=n:=by omega
  subst hin;refine codeAny_builtin PyProof.Rows.F.entry_set_update_loop ?_;rw[Around.under_plainId PyProof.Rows.F.plain_set_update_loop _];show wpAny _ A.in1 (pyNext (.ref I) >>= _) _ _ s;refine wpAny_bind (W.done s _ _ hst fun s' hm=>?_);show wpAny _ A.in1 (ret Value.none) _ _ s';exact wpAny_pure (hR s' (hm.mono hsub) (hS.at fun o e=>hm.heap S _ hSw e))
 |succ k ih=>
  intro i s hk hi hst hS hR;have hlt:i<n:=by omega
  refine codeAny_builtin PyProof.Rows.F.entry_set_update_loop ?_;rw[Around.under_plainId PyProof.Rows.F.plain_set_update_loop _];show wpAny _ A.in1 (pyNext (.ref I) >>= _) _ _ s;refine wpAny_bind (W.item i s _ _ hlt hst fun v s' hP hst' hm=>?_);obtain⟨t,rfl⟩:=hval i v hP;have hS':bh w s'.heap S (gy val i):=hS.at fun o e=>hm.heap S _ hSw e
  show wpAny _ A.in1 (holding [Value.str (val i) t] (setAdd S (.str (val i) t)) >>= _) _ _ s';refine wpAny_bind (wpAny_holding ?_);unfold setAdd;refine wpAny_holding ?_;refine wpAny_bind ((strKind prog w).pyHash (k:=val i) (by simp[strKind,Value.isStrOf]) ?_);have hroom:(gy val i).length+1<scanBound:=by have:=oe val i;omega
  refine jN (x:=val i) (t₀:=t) (s:={s' with toks:=s'.toks+1}) hS' hroom fun h' hsb hS2=>?_
  rw[←mr] at hS2;refine wpAny_pure ⟨plainId_quiet PyProof.Rows.F.plain_set_update_loop _,ih (i+1) _ (by omega) hlt (W.frame _ s' _ _ hst' (Nat.le_succ _) fun b hb o e=>?_) hS2 fun s'' hm'' hS''=>?_⟩
  ·rw[hsb.2 b (fun h:b=S=>hSf (by rw[←h];exact hb))];exact e
  ·refine hR s'' (Moved.trans W.gtrans ((hm.mono hsub).then_heap (Nat.le_succ _) fun b o hb e=>?_) hm'') hS'';rw[hsb.2 b (fun h:b=S=>hb (by rw[h];exact aac))];exact e
end
section
variable {prog:Program}{w:World}{A:Around}{E:Value->Shared->Prop}{s:Shared}
abbrev cE(w:World):Obj:={cls:=.type "set",dict:=none,data:=.set #[] 0 (.fresh 0 0 (!w.params.followText "set-order"))}
theorem xu{h:Heap}{a:Addr}(e:h.get? a=some (cE w)):bh w h a []:=
 ⟨_,#[],0,_,e,⟨rfl,rfl,rfl⟩,rfl,fun e he=>by simp at he,.refl _,List.nodup_nil,by decide,by rfl,rfl,fun _=>rfl⟩
theorem lG(a:Value){Q₁:Value->Shared->Prop}(h:Q₁ (.ref s.heap.objs.size) {s with heap:=s.heap.push (cE w)}) :
  codeAny (model prog w) A (.call (.builtin "set.__new__") ⟨[.type "set",a],[]⟩) (wants Q₁ E) s:=by
 refine codeAny_of_tree ?_;show wpAny _ A.in1 (do checkBuiltinCall "set.__new__" ⟨[.type "set",a],[]⟩;again (.builtin "set.__new__" ⟨[.type "set",a],[]⟩)) _ _ s;refine wpAny_bind (wpAny_of_eq (F.newCall_set_1 a) (wpAny_pure ⟨plainId_quiet F.plain_set_new _,codeAny_builtin F.entry_set_new ?_⟩));rw[Around.under_plainId F.plain_set_new _];unfold Builtin.«set.__new__» Builtin.Frozenset.newClass;have hsub:=sub_set_self;obtain⟨hp,g,d,tk,os⟩:=s;dsimp only
 wp_walk
 refine wpAny_askSetting (wpAny_pure ?_);dsimp only;simp only[newObj];refine wpAny_bind (wpAny_alloc (wpAny_pure ?_));exact wpAny_pure h
set_option maxHeartbeats 8000000 in
theorem mT{l:Addr}{items:Array Value}{ss:List Str}{Q:Value->Shared->Prop}
  (hh:A.handled=none)(hl:s.heap.IsList l items)(hi:∀(i:Nat) (v:Value),items[i]? =some v->∃t,v=.str (ss.getD i Str.empty) t)(hn:items.size=ss.length)(hb:items.size+1<scanBound)
  (h:∀(h':Heap) (tk:Nat),bh w h' s.heap.objs.size (ap ss)->
   (∀b o,b<s.heap.objs.size->s.heap.get? b=some o->h'.get? b=some o)->Q (.ref s.heap.objs.size) {s with heap:=h',toks:=tk}) :
  wpAny (model prog w) A (call (.type "set") [.ref l]) Q E s:=by
 obtain⟨c,tl,hmro⟩:=F.called_set.mro;have hmade:=F.called_set.made;have hsub:=F.called_set.sub;refine wpAny_call (codeAny_of_tree ?_);show wpAny _ _ (callAny (.type "set") _) _ _ _;refine wpAny_pure ⟨Code.quiet_builtin _ (by decide +kernel),codeAny_builtin F.entry_type_call ?_⟩;rw[Around.under_plain (weight_type_call_type "set" [.ref l] []) rfl];have h1:=F.called_set.notType;have h2:=F.called_set.canCreate;have hct:=F.typeCall_set_1 (.ref l)
 repeat (any_goals (first | assumption | wp_step))
 refine codeAny_mono (lG (.ref l) (E:=E) (Q₁:=fun obj s₁=>obj=.ref s.heap.objs.size/\s₁={s with heap:=s.heap.push (cE w)}) ⟨rfl,rfl⟩) fun r s₁ hr=>?_
 cases r with
 |error e=>exact hr
 |ok fl=>
  cases fl with
  |ret obj=>
   obtain⟨rfl,rfl⟩:=hr;have hS:(s.heap.push (cE w)).get? s.heap.objs.size=some (cE w):=aay _ rfl;have hT:Shared.TypeIs {s with heap:=s.heap.push (cE w)} (.ref s.heap.objs.size) "set":=⟨_,hS,rfl⟩;have hli:=F.called_set.init.lookup;have hbi:=F.called_set.init.bind (.ref s.heap.objs.size)
   repeat (any_goals (first | assumption | wp_step))
   refine codeAny_mono (codeAny_call_builtin (R:=wants (fun r s₂=>r=.none/\∃h' tk,s₂={s with heap:=h',toks:=tk}/\bh w h' s.heap.objs.size (ap ss)/\
     (∀b o,b<s.heap.objs.size->s.heap.get? b=some o->h'.get? b=some o)) E) F.called_set.init.plain F.entry_set_init (check_set_init_1 hT ?_)) fun r₂ s₂ hr₂=>?_
   ·obtain⟨ol,hol,hcl,nl,hdl⟩:=hl;obtain⟨ocls,odict,odata,oslots⟩:=ol;simp only at hcl hdl;subst hcl;subst hdl;have hol':(s.heap.push (cE w)).get? l=some {cls:=.type "list",dict:=odict,data:=.seq items nl,slots:=oslots}:=aaf _ hol;have hsls:=F.sub_list_set;have hslf:=F.sub_list_frozenset;have hne:(Value.type "list" == Value.type "dict")=false:=by decide
    have hl1:(s.heap.push (cE w)).IsList l items:=⟨_,hol',rfl,nl,rfl⟩;unfold Builtin.«set.__init__» noKeywords Builtin.Frozenset.updateFrom;generalize hPI:pyIter=PI
    wp_walk
    subst hPI;refine wpAny_pyIter_list hl1 ?_;refine wpAny_bind (wpAny_runValue ?_);have hlS:l<s.heap.objs.size:=Heap.lt_size hol;have hh3:A.in1.in1.in1.handled=none:=by simp[hh]
    have hneI:l≠(s.heap.push (cE w)).objs.size:=by
     rw[Heap.size_push];exact Nat.ne_of_lt (Nat.lt_succ_of_lt hlS)
    have hSf:s.heap.objs.size ∉ [(s.heap.push (cE w)).objs.size,l]:=by
     rw[Heap.size_push];simp only[List.mem_cons,aaj,List.not_mem_nil,or_false,not_or];exact⟨Nat.ne_of_lt (Nat.lt_succ_self _),Nat.ne_of_gt hlS⟩
    refine mR ((Walks.list hh3 _ l hneI items).toS) s.heap.objs.size
     hSf (fun i=>ss.getD i Str.empty) hi hb (items.size - 0) 0 _ (by omega) (Nat.zero_le _)
     ⟨⟨_,aay _ rfl,rfl,rfl⟩,(hl1.push _)⟩ ?hS0 ?hR
    case hS0=>exact xu (aaf _ hS)
    case hR=>
     intro s' hm hS';rw[hn,tq] at hS';obtain⟨h',g',d',tk',os'⟩:=s';have eg:g'=s.gens:=hm.gens;have ed:d'=s.drawn:=hm.drawn;have eo:os'=s.os:=hm.os;subst eg;subst ed;subst eo;show wpAny _ _ _ _ _ _;refine wpAny_pure ?_;show wpAny _ _ (ret Value.none) _ _ _;refine wpAny_pure ⟨rfl,h',tk',rfl,hS',fun b o hb e=>?_⟩;have hb1:b≠s.heap.objs.size:=Nat.ne_of_lt hb;have hb2:b≠(s.heap.push (cE w)).objs.size:=by
      rw[Heap.size_push];exact Nat.ne_of_lt (Nat.lt_succ_of_lt hb)
     exact hm.heap b o (by simp only[List.mem_cons,aaj,List.not_mem_nil,or_false,not_or];exact⟨hb1,hb2⟩) (aaf _ (aaf _ e))
   ·cases r₂ with
    |error e=>exact hr₂
    |ok fl₂=>
     cases fl₂ with
     |ret r=>
      obtain⟨rfl,h',tk,rfl,hS',hk'⟩:=hr₂
      repeat (any_goals (first | assumption | wp_step))
      exact h _ _ hS' hk'
     |_=>exact hr₂.elim
  |_=>exact hr.elim
end
end SL
namespace SL
open PySem
theorem f7{α:Type}:∀(l:List α) (i:Nat) (h:i<l.length),(l[i]::l.eraseIdx i).Perm l
 |[],i,h=>by simp at h
 |x::r,0,h=>.refl _
 |x::r,i+1,h=>by
  have hi:i<r.length:=by simpa using h
  have:=f7 r i hi;show(r[i]::x::r.eraseIdx i).Perm (x::r);exact(List.Perm.swap _ _ _).trans (List.Perm.cons _ this)
theorem p6{α:Type}(next:Nat->Nat):∀(fuel k:Nat) (left:List α) (out:Array α),left.length<=fuel->(pickOrder.go next fuel k left out).toList.Perm (out.toList++left)
 |0,k,left,out,h=>by
  have e:left=[]:=List.length_eq_zero_iff.mp (by omega);subst e;unfold pickOrder.go;simp
 |fuel+1,k,left,out,h=>by
  unfold pickOrder.go;cases e:left[next k % left.length]? with
  |none=>
   have hl:left.length=0:=by
    rcases Nat.eq_zero_or_pos left.length with z|z
    ·exact z
    ·have:=Nat.mod_lt (next k) z;rw[aae this] at e;cases e
   have:left=[]:=List.length_eq_zero_iff.mp hl;subst this;simp
  |some x=>
   dsimp only;obtain⟨hi,hx⟩:=aab.mp e;have hlen:(left.eraseIdx (next k % left.length)).length<=fuel:=by
    rw[List.length_eraseIdx_of_lt hi];omega
   refine(p6 next fuel (k+1) _ (out.push x) hlen).trans ?_;rw[Array.toList_push,List.append_assoc];refine List.Perm.append_left _ ?_;have:=f7 left _ hi;rw[hx] at this;exact this
theorem h7{α:Type}(next:Nat->Nat)(xs:Array α):(pickOrder next xs).toList.Perm xs.toList:=by
 unfold pickOrder;have:=p6 next xs.size 0 xs.toList #[] (by simp);simpa using this
section
variable {M:Model}{A:Around}{E:Value->Shared->Prop}
theorem og{src:Source}{n:Nat}{s:Shared}{Q:Nat->Shared->Prop}(hn:n≠0)(h:∀i,i<n->Q i {s with drawn:=s.drawn.bump src}):wpAny M A (choose src n) Q E s:=by
 have hlt:M.w.draws src (s.drawn.get src) % n<n:=Nat.mod_lt _ (Nat.pos_of_ne_zero hn);exact fun _ _ _=>⟨hn,h _ hlt⟩
theorem h8{α:Type}:∀(n:Nat) (xs:List α) (s:Shared) {Q:List α->Shared->Prop},xs.length=n->(∀ys d,ys.Perm xs->Q ys {s with drawn:=d})->wpAny M A (drawOrder n xs) Q E s
 |0,xs,s,Q,hl,h=>by
  have e:xs=[]:=List.length_eq_zero_iff.mp hl;subst e;exact wpAny_pure (h [] s.drawn (.refl _))
 |n+1,[],s,Q,hl,h=>by simp at hl
 |n+1,x::xs,s,Q,hl,h=>by
  unfold drawOrder;refine wpAny_bind (og (by simp) fun i hi=>?_);have e:(x::xs)[i]? =some (x::xs)[i]:=aae hi;rw[e];dsimp only;refine wpAny_bind (h8 n _ _ ?_ fun ys d hp=>wpAny_pure ?_)
  ·rw[List.length_eraseIdx_of_lt hi];simp at hl ⊢;exact hl
  ·refine h _ d ?_;exact(List.Perm.cons _ hp).trans (f7 (x::xs) i hi)
end
theorem qO{xs:Array Nat}(h:xs.size<=1):SetTable.below xs 0=0:=by
 unfold SetTable.below;rcases Nat.eq_zero_or_pos xs.size with z|z
 ·rw[z];rfl
 ·have e:xs.size=1:=by omega
  rw[e];unfold SetTable.below.go;simp[SetTable.below.go]
theorem qP{xs:Array Nat}(h:xs.size=1):SetTable.below xs (xs.getD 0 0+1)=1:=by
 unfold SetTable.below;rw[h];obtain⟨j,hj⟩:∃j,xs[0]? =some j:=⟨xs[0],Array.getElem?_eq_getElem (by omega)⟩;have e1:xs.getD 0 0=j:=by rw[Array.getD_eq_getD_getElem?,hj];rfl
 have e2:xs.getD 0 (j+1)=j:=by rw[Array.getD_eq_getD_getElem?,hj];rfl
 rw[e1];unfold SetTable.below.go;simp only[Nat.zero_lt_one,if_true,Nat.zero_add,show 1 / 2=0 from rfl,e2,Nat.lt_succ_self];unfold SetTable.below.go;rfl
theorem dm:Slot "set_iterator" "__next__" "set_iterator.__next__":=
 .of (owner:="set_iterator") (n:="__next__") (by rw[typeLookup_type,builtinLookup_eq_fast];kernel_rfl) (by decide +kernel) (by decide +kernel) (by decide +kernel)
  (by first | exact .inl (by decide +kernel) | exact .inr (by decide +kernel)) (by rw[isSubtype_type];kernel_rfl)
theorem i6:entryFor table "set_iterator.__next__"=some Builtin.«set_iterator.__next__»:=entryFor_of_tree (by kernel_rfl)
theorem oh:Manifest.owners.lookup (String.ofList ['r','o','t','a','r','e','t','i','_','t','e','s'].reverse)=some Manifest.sig_set_iterator:=by kernel_rfl
theorem jc(a:Value):argsOk "set_iterator.__next__" ⟨[a],[]⟩:=by
 unfold argsOk;rw[signature?_of (id:="set_iterator.__next__") (n:=['_','_','t','x','e','n','_','_']) (o:=['r','o','t','a','r','e','t','i','_','t','e','s']) (by kernel_rfl) oh];kernel_rfl
theorem jd:Slot "set_iterator" "__iter__" "set_iterator.__iter__":=
 .of (owner:="set_iterator") (n:="__iter__") (by rw[typeLookup_type,builtinLookup_eq_fast];kernel_rfl) (by decide +kernel) (by decide +kernel) (by decide +kernel)
  (by first | exact .inl (by decide +kernel) | exact .inr (by decide +kernel)) (by rw[isSubtype_type];kernel_rfl)
theorem mU:entryFor table "set_iterator.__iter__"=some Builtin.«dict_keyiterator.__iter__»:=entryFor_alias (id':="dict_keyiterator.__iter__") (by kernel_rfl) rfl (by decide +kernel) (by kernel_rfl)
theorem oj(a:Value):argsOk "set_iterator.__iter__" ⟨[a],[]⟩:=by
 unfold argsOk;rw[signature?_of (id:="set_iterator.__iter__") (n:=['_','_','r','e','t','i','_','_']) (o:=['r','o','t','a','r','e','t','i','_','t','e','s']) (by kernel_rfl) oh];kernel_rfl
theorem lH:entryFor table "set.__iter__"=some Builtin.«frozenset.__iter__»:=entryFor_alias (id':="frozenset.__iter__") (by kernel_rfl) rfl (by decide +kernel) (by kernel_rfl)
inductive SIt(w:World)(h:Heap)(I a tp:Addr)(vs:List Value)(i:Nat):Prop where
 |txt {o:Obj} {es:Array (Int×Value)} {ep:Nat} {t:SetTable} {sl:Int} (ho:h.get? a=some o) (hd:o.data=.set es ep t) (hf:t.fits es.size=true) (by_:w.params.followText "set-order"=true)
   (hv:vs=(pickOrder (w.params.setOrder a ep) es).toList.map (·.2)) (hI:h.get? I=some {cls:=.type "set_iterator",data:=.fields #[.int sl 0,.int i 0,.ref a,.int es.size 0,.int ep 0]}):SIt w h I a tp vs i
 |drw {o:Obj} {es:Array (Int×Value)} {ep:Nat} {t:SetTable} {ps:List Nat} (ho:h.get? a=some o) (hd:o.data=.set es ep t) (hf:t.fits es.size=true)
   (hv:vs.map some=ps.map fun p=>(es[p]?).map (·.2)) (ht:h.get? tp=some {cls:=.type "tuple",data:=.seq (ps.map fun(p:Nat)=>rawInt p).toArray})
   (hI:h.get? I=some {cls:=.type "set_iterator",data:=.fields #[.ref tp,.int i 0,.ref a,.int es.size 0,.int ep 0]}):SIt w h I a tp vs i
 |one {o:Obj} {es:Array (Int×Value)} {ep:Nat} {t:SetTable} (ho:h.get? a=some o) (hd:o.data=.set es ep t) (hf:t.fits es.size=true) (by_:w.params.followText "set-order"=false) (hl:t.led=true) (hz:es.size<=1)
   (hv:vs=es.toList.map (·.2)) (hI:h.get? I=some {cls:=.type "set_iterator",data:=.fields #[.int (if i=0 then 0 else (t.place.getD 0 0:Nat)+1) 0,.int i 0,.ref a,.int es.size 0,.int ep 0]}):SIt w h I a tp vs i
theorem SIt.keep{w:World}{h h':Heap}{I a tp:Addr}{vs:List Value}{i:Nat}(x:SIt w h I a tp vs i)(k:∀b∈[I,a,tp],∀o,h.get? b=some o->h'.get? b=some o):SIt w h' I a tp vs i:=by
 have kI:=k I (by simp);have ka:=k a (by simp);have kt:=k tp (by simp);cases x with
 |txt ho hd hf b hv hI=>exact .txt (ka _ ho) hd hf b hv (kI _ hI)
 |drw ho hd hf hv ht hI=>exact .drw (ka _ ho) hd hf hv (kt _ ht) (kI _ hI)
 |one ho hd hf b hl hz hv hI=>exact .one (ka _ ho) hd hf b hl hz hv (kI _ hI)
theorem SIt.typeIs{w:World}{s:Shared}{I a tp:Addr}{vs:List Value}{i:Nat}(x:SIt w s.heap I a tp vs i):s.TypeIs (.ref I) "set_iterator":=by
 cases x with
 |txt ho hd hf b hv hI=>exact⟨_,hI,rfl⟩
 |drw ho hd hf hv ht hI=>exact⟨_,hI,rfl⟩
 |one ho hd hf b hl hz hv hI=>exact⟨_,hI,rfl⟩
section
variable {prog:Program}{w:World}{A:Around}{E:Value->Shared->Prop}{s:Shared}{I a tp:Addr}{vs:List Value}{i:Nat}
theorem jP{o:Obj}{es:Array (Int×Value)}{ep:Nat}{t:SetTable}{Q:Array (Int×Value)->Shared->Prop}(ho:s.heap.get? a=some o)(hd:o.data=.set es ep t)(hf:t.fits es.size=true)(b:w.params.followText "set-order"=true)
  (h:Q (pickOrder (w.params.setOrder a ep) es) s):wpAny (model prog w) A (setWalk a) Q E s:=by
 unfold setWalk setsByText;refine wpAny_bind (wpAny_setState_of ho hd hf ?_);dsimp only;refine wpAny_bind (wpAny_bind (wpAny_askSetting (wpAny_pure ?_)));show wpAny _ _ (if (w.params.followText "set-order")=true then _ else _) _ _ _;rw[if_pos b];exact wpAny_bind (wpAny_askSetting (wpAny_pure h))
theorem xv{v:Value}{Q:Option Value->Shared->Prop}(x:SIt w s.heap I a tp vs i)(hIa:I≠a)(hIt:I≠tp)(hv:vs[i]? =some v)
  (h:∀h',SIt w h' I a tp vs (i+1)->(∀b o,b≠I->s.heap.get? b=some o->h'.get? b=some o)->Q (some v) {s with heap:=h'}):wpAny (model prog w) A (pyNext (.ref I)) Q E s:=by
 unfold pyNext;refine wpAny_bind (wpAny_attempt (wpAny_callSpecial?_slot (name:=Str.ofString "__next__") x.typeIs dm
  (wpAny_call_entry dm x.typeIs i6 ?_ (jc _))))
 unfold Builtin.«set_iterator.__next__»;refine wpAny_bind (wpAny_pure ?_);cases x with
 |@txt o es ep t sl ho hd hf b hve hI=>
  refine wpAny_bind (wpAny_fieldsOf hI rfl ?_);dsimp only;refine wpAny_bind (wpAny_setEntries_of ho hd hf ?_);rw[if_neg (by simp)];unfold setNext setsByText;refine wpAny_bind (wpAny_bind (wpAny_setState_of ho hd hf ?_));dsimp only;refine wpAny_bind (wpAny_bind (wpAny_askSetting (wpAny_pure ?_)));show wpAny _ _ (if (w.params.followText "set-order")=true then _ else _) _ _ _;rw[if_pos b,if_neg (by simp)];refine wpAny_bind (jP ho hd hf b (wpAny_pure ?_));have e:((pickOrder (w.params.setOrder a ep) es)[(i:Int).toNat]?).map (fun e=>(e.2,(sl).toNat))=some (v,sl.toNat):=by
   rw[hve,aax,Array.getElem?_toList] at hv;rw[Int.toNat_natCast];cases q:(pickOrder (w.params.setOrder a ep) es)[i]? with
   |none=>rw[q] at hv;cases hv
   |some z=>
    rw[q] at hv;have hv:some z.2=some v:=hv;injection hv with hv;rw[←hv];rfl
  rw[e];dsimp only;refine wpAny_bind (wpAny_setField hI rfl (by simp) ?_);have hI1:=Heap.get?_update_self (Obj.mapFields (·.setIfInBounds 0 (rawInt sl.toNat))) hI rfl;refine wpAny_bind (wpAny_setField hI1 rfl (by simp[Obj.mapFields]) ?_);have hI2:=Heap.get?_update_self (Obj.mapFields (·.setIfInBounds 1 (rawInt ((i:Int)+1)))) hI1 rfl;have oth:∀b o,b≠I->s.heap.get? b=some o->((s.heap.update I (Obj.mapFields (·.setIfInBounds 0 (rawInt sl.toNat)))).update I (Obj.mapFields (·.setIfInBounds 1 (rawInt ((i:Int)+1))))).get? b=some o:=fun b o hb e=>
   (Heap.get?_update_other _ _ (Ne.symm hb)).trans ((Heap.get?_update_other _ _ (Ne.symm hb)).trans e)
  refine wpAny_pure ⟨_,rfl,wpAny_pure (h _ (.txt (oth _ _ (Ne.symm hIa) ho) hd hf b hve (sl:=sl.toNat) ?_) oth)⟩;exact hI2
 |@drw o es ep t ps ho hd hf hve ht hI=>
  refine wpAny_bind (wpAny_fieldsOf hI rfl ?_);dsimp only;refine wpAny_bind (wpAny_setEntries_of ho hd hf ?_);rw[if_neg (by simp)];refine wpAny_bind (wpAny_seqItems ht rfl ?_);dsimp only;have hp:∃p,ps[i]? =some p/\∃e,es[p]? =some e/\e.2=v:=by
   have q:=congrArg (fun l=>l[i]?) hve;simp only[aax] at q;rw[hv] at q;cases z:ps[i]? with
   |none=>rw[z] at q;cases q
   |some p=>
    rw[z] at q;have q:some (some v)=some ((es[p]?).map (·.2)):=q;injection q with q;cases y:es[p]? with
    |none=>rw[y] at q;cases q
    |some e=>
     rw[y] at q;have q:some v=some e.2:=q;injection q with q;exact⟨p,rfl,e,y,q.symm⟩
  obtain⟨p,hps,e,he,rfl⟩:=hp;have e1:((ps.map fun(p:Nat)=>rawInt p).toArray)[(i:Int).toNat]? =some (rawInt p):=by
   rw[Int.toNat_natCast,List.getElem?_toArray,aax,hps];rfl
  rw[e1];show wpAny _ _ (setNextDrawn a (p:Int).toNat (ep:Int).toNat >>= _) _ _ _;unfold setNextDrawn;refine wpAny_bind (wpAny_bind (wpAny_setState_of ho hd hf ?_));dsimp only;rw[if_neg (by simp),Int.toNat_natCast,he];dsimp only;refine wpAny_pure ?_;refine wpAny_bind (wpAny_setField hI rfl (by simp) ?_);have hI2:=Heap.get?_update_self (Obj.mapFields (·.setIfInBounds 1 (rawInt ((i:Int)+1)))) hI rfl;have oth:∀b o,b≠I->s.heap.get? b=some o->(s.heap.update I (Obj.mapFields (·.setIfInBounds 1 (rawInt ((i:Int)+1))))).get? b=some o:=fun b o hb e=>
   (Heap.get?_update_other _ _ (Ne.symm hb)).trans e
  refine wpAny_pure ⟨_,rfl,wpAny_pure (h _ (.drw (oth _ _ (Ne.symm hIa) ho) hd hf hve (oth _ _ (Ne.symm hIt) ht) ?_) oth)⟩;exact hI2
 |@one o es ep t ho hd hf b hl hz hve hI=>
  have h0:i=0/\∃e,es[0]? =some e/\e.2=v/\es.size=1:=by
   rw[hve,aax,Array.getElem?_toList] at hv;cases q:es[i]? with
   |none=>rw[q] at hv;cases hv
   |some e=>
    rw[q] at hv;have hv:some e.2=some v:=hv;injection hv with hv;obtain⟨hlt,_⟩:=Array.getElem?_eq_some_iff.mp q;have:i=0:=by omega
    subst this;exact⟨rfl,e,q,hv,by omega⟩
  obtain⟨rfl,e,he,rfl,hsz⟩:=h0;have hpl:t.place.size=1:=by
   simp only[SetTable.fits,Bool.and_eq_true,beq_iff_eq] at hf;rw[hf.1,hsz]
  obtain⟨j,hj⟩:∃j,t.place[0]? =some j:=⟨t.place[0],Array.getElem?_eq_getElem (by omega)⟩;have hjd:t.place.getD 0 0=j:=by
   rw[Array.getD_eq_getD_getElem?,hj];rfl
  refine wpAny_bind (wpAny_fieldsOf hI rfl ?_);dsimp only;refine wpAny_bind (wpAny_setEntries_of ho hd hf ?_);rw[if_neg (by simp)];unfold setNext setsByText;refine wpAny_bind (wpAny_bind (wpAny_setState_of ho hd hf ?_));dsimp only;refine wpAny_bind (wpAny_bind (wpAny_askSetting (wpAny_pure ?_)));show wpAny _ _ (if (w.params.followText "set-order")=true then _ else _) _ _ _;rw[if_neg (by rw[b];decide)];refine wpAny_ite_split (fun hab=>absurd (show(!t.plain && decide (es.size > 1))=true from hab) (by rw[hsz];simp)) fun _=>?_
  refine wpAny_bind ?_;show wpAny _ _ (if (!t.led && !es.isEmpty)=true then _ else _) _ _ _;rw[if_neg (by rw[hl];simp)];refine wpAny_pure ?_;show wpAny (model prog w) A.in1 (pure (match es[SetTable.below t.place 0]?,t.place[SetTable.below t.place 0]? with
     |some (_,x),some j=>some (x,j+1)
     |_,_=>none)) _ _ _
  rw[qO (by omega),he,hj];refine wpAny_pure ?_;dsimp only;refine wpAny_bind (wpAny_setField hI rfl (by simp) ?_);have hI1:=Heap.get?_update_self (Obj.mapFields (·.setIfInBounds 0 (rawInt ((j+1:Nat):Int)))) hI rfl;refine wpAny_bind (wpAny_setField hI1 rfl (by simp[Obj.mapFields]) ?_);have hI2:=Heap.get?_update_self (Obj.mapFields (·.setIfInBounds 1 (rawInt (((0:Nat):Int)+1)))) hI1 rfl;have oth:∀b o,b≠I->s.heap.get? b=some o->((s.heap.update I (Obj.mapFields (·.setIfInBounds 0 (rawInt ((j+1:Nat):Int))))).update I (Obj.mapFields (·.setIfInBounds 1 (rawInt (((0:Nat):Int)+1))))).get? b=some o:=fun b o hb e=>
   (Heap.get?_update_other _ _ (Ne.symm hb)).trans ((Heap.get?_update_other _ _ (Ne.symm hb)).trans e)
  refine wpAny_pure ⟨_,rfl,wpAny_pure (h _ (.one (oth _ _ (Ne.symm hIa) ho) hd hf b hl hz hve ?_) oth)⟩;rw[hjd];exact hI2
theorem xw{Q:Option Value->Shared->Prop}(hh:A.handled=none)(x:SIt w s.heap I a tp vs i)(hv:vs.length=i)
  (h:∀h',(∀b o,b≠I->s.heap.get? b=some o->h'.get? b=some o)->Q none {s with heap:=h'}):wpAny (model prog w) A (pyNext (.ref I)) Q E s:=by
 unfold pyNext;refine wpAny_bind (wpAny_attempt (wpAny_callSpecial?_slot (name:=Str.ofString "__next__") x.typeIs dm
  (wpAny_call_entry dm x.typeIs i6 ?_ (jc _))))
 unfold Builtin.«set_iterator.__next__»;refine wpAny_bind (wpAny_pure ?_);have fin:∀(h1:Heap),(∀b o,b≠I->s.heap.get? b=some o->h1.get? b=some o)->wpAny (model prog w) A.in1 (newExc (.type "StopIteration") [] >>= fun e=>raiseNew e)
   (fun fin s'=>∃v,fin=PySem.Fin.done (Flow.ret v)/\wpAny (model prog w) A (pure (some v)) Q E s')
   (fun e s'=>wpAny (model prog w) A (do if ←isInstance e (.type "StopIteration") then pure none else throw e) Q E s') {s with heap:=h1}:=by
  intro h1 k;refine wpAny_bind ?_;simp only[newExc,newTuple];refine wpAny_bind (wpAny_newObj_type ?_ (by size_fits));refine wpAny_bind (m:=firstArgMember _ _) (wpAny_of_eq (a:=Value.none) (by first | rfl | (simp only[firstArgMember];rfl)) ?_);refine wpAny_newObj_type ?_ (by size_fits);simp only[raiseNew];refine wpAny_bind (wpAny_handled ?_);rw[show A.in1.handled=none from hh];refine wpAny_bind (wpAny_pure (wpAny_throw ?_));refine wpAny_bind (wpAny_isInstance (T:="StopIteration") (b:=true) ⟨_,aay _ rfl,rfl⟩ isSubtype_stop ?_);exact wpAny_pure (h _ fun b o hb e=>aaf _ (aaf _ (k b o hb e)))
 have oth1:∀(f:Obj->Obj) b o,b≠I->s.heap.get? b=some o->(s.heap.update I f).get? b=some o:=fun f b o hb e=>(Heap.get?_update_other _ _ (Ne.symm hb)).trans e
 cases x with
 |@txt o es ep t sl ho hd hf b hve hI=>
  refine wpAny_bind (wpAny_fieldsOf hI rfl ?_);dsimp only;refine wpAny_bind (wpAny_setEntries_of ho hd hf ?_);rw[if_neg (by simp)];unfold setNext setsByText;refine wpAny_bind (wpAny_bind (wpAny_setState_of ho hd hf ?_));dsimp only;refine wpAny_bind (wpAny_bind (wpAny_askSetting (wpAny_pure ?_)));show wpAny _ _ (if (w.params.followText "set-order")=true then _ else _) _ _ _;rw[if_pos b,if_neg (by simp)];refine wpAny_bind (jP ho hd hf b (wpAny_pure ?_));have e:(pickOrder (w.params.setOrder a ep) es)[(i:Int).toNat]? =none:=by
   rw[Int.toNat_natCast];refine Array.getElem?_eq_none ?_;rw[←Array.length_toList,←hv,hve,aaa];exact Nat.le_refl _
  rw[e];show wpAny _ _ (setField (.ref I) 2 .none >>= _) _ _ _;refine wpAny_bind (wpAny_setField hI rfl (by simp) ?_);exact fin _ (oth1 _)
 |@drw o es ep t ps ho hd hf hve ht hI=>
  refine wpAny_bind (wpAny_fieldsOf hI rfl ?_);dsimp only;refine wpAny_bind (wpAny_setEntries_of ho hd hf ?_);rw[if_neg (by simp)];refine wpAny_bind (wpAny_seqItems ht rfl ?_);dsimp only;have hl:ps.length=i:=by
   have:=congrArg List.length hve;rw[aaa,aaa] at this;omega
  have e1:((ps.map fun(p:Nat)=>rawInt p).toArray)[(i:Int).toNat]? =none:=by
   rw[Int.toNat_natCast];refine Array.getElem?_eq_none ?_;simp[hl]
  rw[e1];dsimp only;refine wpAny_bind (wpAny_setField hI rfl (by simp) ?_);have hI1:=Heap.get?_update_self (Obj.mapFields (·.setIfInBounds 0 (rawInt 0))) hI rfl;refine wpAny_bind (wpAny_setField hI1 rfl (by simp[Obj.mapFields]) ?_);exact fin _ fun b o hb e=>(Heap.get?_update_other _ _ (Ne.symm hb)).trans (oth1 _ b o hb e)
 |@one o es ep t ho hd hf b hl hz hve hI=>
  have hsz:es.size=i:=by rw[←hv,hve,aaa,Array.length_toList]
  have hpl:t.place.size=es.size:=by
   simp only[SetTable.fits,Bool.and_eq_true,beq_iff_eq] at hf;exact hf.1
  refine wpAny_bind (wpAny_fieldsOf hI rfl ?_);dsimp only;refine wpAny_bind (wpAny_setEntries_of ho hd hf ?_);rw[if_neg (by simp)];unfold setNext setsByText;refine wpAny_bind (wpAny_bind (wpAny_setState_of ho hd hf ?_));dsimp only;refine wpAny_bind (wpAny_bind (wpAny_askSetting (wpAny_pure ?_)));show wpAny _ _ (if (w.params.followText "set-order")=true then _ else _) _ _ _;rw[if_neg (by rw[b];decide)];refine wpAny_ite_split (fun hab=>absurd (show(!t.plain && decide (es.size > 1))=true from hab) (by
   have:decide (es.size > 1)=false:=aai (by omega);rw[this];simp)) fun _=>?_
  refine wpAny_bind ?_;show wpAny _ _ (if (!t.led && !es.isEmpty)=true then _ else _) _ _ _;rw[if_neg (by rw[hl];simp)];refine wpAny_pure ?_;have e:es[SetTable.below t.place (if i=0 then (0:Int) else (t.place.getD 0 0:Nat)+1).toNat]? =none:=by
   refine Array.getElem?_eq_none ?_;rcases Nat.eq_zero_or_pos i with z|z
   ·omega
   ·have h1:t.place.size=1:=by omega
    rw[if_neg (by omega)];rw[show(((t.place.getD 0 0:Nat):Int)+1).toNat=t.place.getD 0 0+1 from by omega,qP h1];exact hz
  rw[e];refine wpAny_pure ?_;show wpAny _ _ (setField (.ref I) 2 .none >>= _) _ _ _;refine wpAny_bind (wpAny_setField hI rfl (by simp) ?_);exact fin _ (oth1 _)
theorem xy{Q:Value->Shared->Prop}(x:SIt w s.heap I a tp vs i)(h:Q (.ref I) s):wpAny (model prog w) A (pyIter (.ref I)) Q E s:=by
 refine wpAny_pyIter_slot x.typeIs jd (wpAny_call_entry jd x.typeIs mU ?_ (oj _));show wpAny _ _ (ret (.ref I)) _ _ s;exact wpAny_pure ⟨_,rfl,"set_iterator",_,x.typeIs,dm.lookup,h⟩
theorem tu(hh:A.handled=none)(hIa:I≠a)(hIt:I≠tp):Walks prog w A I [I,a,tp] [I] vs.length (fun i v=>vs[i]? =some v) (fun i h=>SIt w h I a tp vs i) where
 sub:=fun b hb=>by simp at hb;simp[hb]
 frame:=fun _ _ _ st hk=>st.keep hk
 item:=fun i s Q E hi st hQ=>by
  refine xv st hIa hIt (aae hi) fun h' st' k=>hQ _ h' s.toks (aae hi) st' fun b o hb e=>k b o (fun z=>hb (by simp[z])) e
 done:=fun s Q E st hQ=>xw hh st rfl fun h' k=>hQ h' s.toks fun b o hb e=>k b o (fun z=>hb (by simp[z])) e
 self:=fun _ _ _ _ st hQ=>xy st hQ
end
end SL
namespace SL
open PySem PyProof.Rows
def leS(a b:Str):Bool:=!decide (b.cps.toList<a.cps.toList)
theorem je(a b:Str):(leS a b || leS b a)=true:=by
 unfold leS
 by_cases h:b.cps.toList<a.cps.toList
 ·have:¬a.cps.toList<b.cps.toList:=fun z=>List.lt_irrefl _ (List.lt_trans h z)
  simp[this]
 ·simp[h]
theorem jf(a b c:Str)(h1:leS a b=true)(h2:leS b c=true):leS a c=true:=by
 unfold leS at *;simp only[Bool.not_eq_true',decide_eq_false_iff_not] at *;have h1:a.cps.toList<=b.cps.toList:=List.not_lt.mp h1;have h2:b.cps.toList<=c.cps.toList:=List.not_lt.mp h2;exact List.not_lt.mpr (List.le_trans h1 h2)
theorem xz{a b:Str}(h:a.cps.toList=b.cps.toList):a=b:=by
 cases a;cases b
 simp only[Str.mk.injEq];exact Array.toList_inj.mp h
theorem om(a b:Str)(h1:leS a b=true)(h2:leS b a=true):a=b:=by
 unfold leS at *;simp only[Bool.not_eq_true',decide_eq_false_iff_not] at *;exact xz (List.le_antisymm (List.not_lt.mp h1) (List.not_lt.mp h2))
def srt(l:List Str):List Str:=l.mergeSort leS
theorem gz(l:List Str):(srt l).Perm l:=List.mergeSort_perm l leS
theorem tw(l:List Str):(srt l).Pairwise (fun a b=>leS a b=true):=List.pairwise_mergeSort jf je l
theorem zQ{l l':List Str}(h:l.Pairwise (fun a b=>leS a b=true))(h':l'.Pairwise (fun a b=>leS a b=true))(p:l.Perm l'):l=l':=
 List.Perm.eq_of_pairwise (fun a b _ _=>om a b) h h' p
theorem tz{l l':List Str}(h:l'.Pairwise (fun a b=>leS a b=true))(p:l'.Perm l):l'=srt l:=zQ h (tw l) (p.trans (gz l).symm)
theorem tD{l l':List Str}(p:l.Perm l'):srt l=srt l':=tz (tw l) ((gz l).trans p)
theorem cu{l:List Str}{x:Str}:x∈srt l↔x∈l:=(gz l).mem_iff
theorem d7(l:List Str):(srt l).length=l.length:=(gz l).length_eq
theorem gJ{l:List Str}(h:l.Nodup):(srt l).Nodup:=(gz l).nodup_iff.mpr h
theorem pP{l l':List Str}(h:l.Nodup)(h':l'.Nodup)(e:∀x,x∈l↔x∈l'):l.Perm l':=(List.perm_ext_iff_of_nodup h h').mpr e
theorem yH{vs:List Value}{ss:List Str}(hS:StrsAre vs ss){xs:Array Keyed}(hp:xs.Perm (pairsOf vs))(hs:SortedToK PyProof.Rows.strKind xs (pairsOf vs).size):StrsAre (xs.map (·.2)).toList (srt ss):=by
 have hl:xs.toList.Perm (vs.zip vs):=by rw[←pairsOf_toList];exact Array.perm_iff_toList_perm.mp hp
 have hmem:∀p,p∈xs.toList->p.1=p.2/\p.1∈vs:=fun p hp'=>mem_zip_self (hl.mem_iff.mp hp')
 have h1:StrsAre (xs.map (·.2)).toList (xs.toList.map (fun p=>strOf p.1)):=by
  have e:(xs.map (·.2)).toList=xs.toList.map (·.1):=by
   rw[Array.toList_map];exact List.map_congr_left fun p hp'=>(hmem p hp').1.symm
  rw[e];have h1:=strsAre_map (xs.toList.map (·.1)) (by
   intro v hv;obtain⟨p,hp',rfl⟩:=aao.mp hv;exact hS.all _ (hmem p hp').2)
  rwa [List.map_map] at h1
 have h2:(xs.toList.map (fun p=>strOf p.1)).Perm ss:=by
  have h1:=hl.map (fun p=>strOf p.1);have e2:(vs.zip vs).map (fun p=>strOf p.1)=ss:=by
   have:(vs.zip vs).map (fun p=>strOf p.1)=((vs.zip vs).map Prod.fst).map strOf:=by rw[List.map_map];rfl
   rw[this,List.map_fst_zip (Nat.le_refl _),hS.strs]
  rwa [e2] at h1
 have h3:(xs.toList.map (fun p=>strOf p.1)).Pairwise (fun a b=>leS a b=true):=by
  rw[List.pairwise_iff_getElem];intro i j hi hj hij;have hi':i<xs.size:=by simpa using hi
  have hj':j<xs.size:=by simpa using hj
  have h1:=hs i j (Nat.le_of_lt hij) (by rw[←hp.size_eq];exact hj');obtain⟨x,t,ex⟩:=hS.all _ (hmem xs[i] (by simp)).2;obtain⟨y,u,ey⟩:=hS.all _ (hmem xs[j] (by simp)).2;rw[KK_str hi' (x:=x) (t:=t) (q:=xs[i].2) (Prod.ext ex rfl),KK_str hj' (x:=y) (t:=u) (q:=xs[j].2) (Prod.ext ey rfl)] at h1;change decide (y.cps.toList<x.cps.toList)=false at h1;simp only[List.getElem_map,Array.getElem_toList];rw[show strOf xs[i].1=x by rw[ex];rfl,show strOf xs[j].1=y by rw[ey];rfl];unfold leS;rw[h1];rfl
 rw[←tz h3 h2];exact h1
section
variable {prog:Program}{w:World}{A:Around}{E:Value->Shared->Prop}{s:Shared}
theorem tE{x:Value}{Q:Value->Shared->Prop}(hcol:wpAny (model prog w) A.in1 (collect x) (fun vs s₁=>∃ss,StrsAre vs ss/\vs.length<64/\
   ∀(out:List Value) (e:Nat) (h':Heap),StrsAre out (srt ss)->(∀b o,s₁.heap.get? b=some o->h'.get? b=some o)->h'.get? s₁.heap.objs.size=some {cls:=.type "list",data:=.seq out.toArray e}->Q (.ref s₁.heap.objs.size) {s₁ with heap:=h'}) E s) :
  wpAny (model prog w) A (call (.builtin "sorted") [x]) Q E s:=by
 refine Calls.call_function_entry kind_sorted plain_sorted entry_sorted (args_sorted1 _) ?_;unfold Builtin.«sorted»;refine wpAny_bind (m:=checkCount "sorted" 1 1 _) (wpAny_pure ?_);refine wpAny_bind (wpAny_mono hcol (fun vs s₁ h₁=>?_) fun _ _ e=>e);obtain⟨ss,hS,h64,fin⟩:=h₁;refine wpAny_bind (wpAny_newList ?_ (by rw[sizeLine_eq];omega));have hoL:(s₁.heap.push (seqObj "list" vs.toArray 0)).get? s₁.heap.objs.size=some (seqObj "list" vs.toArray 0):=aay _ rfl;show wpAny _ _ _ _ _ {s₁ with heap:=s₁.heap.push (seqObj "list" vs.toArray 0)};refine wpAny_bind (wpAny_holding (wpAny_call_entry slot_list_sort ⟨_,hoL,rfl⟩ entry_list_sort (list_sort_treeK strKind_oneLt hoL hS.keysOf (fun v₁ v₂ rest e=>keyKind_strs (by rw[←e];exact hS)) h64 fun st' a1 a2=>⟨_,rfl,?_⟩) (args_list_sort _)));obtain⟨e,he⟩:=sortedHeap_at (out:=(arrOf st').map (·.2)) hoL;refine wpAny_pure ⟨_,rfl,fin _ e _ (yH hS a1 a2) (fun b o q=>?_) (by rw[Array.toArray_toList];exact he)⟩;have hlt:=Heap.lt_size q;rw[sortedHeap_old (Nat.ne_of_lt hlt) (by rw[size_push'];exact Nat.lt_succ_of_lt hlt)];exact aaf _ q
end
end SL
namespace SL
open PySem PyProof.Rows
theorem xA{prog:Program}{w:World}{A:Around}{E:Value->Shared->Prop}{s:Shared}{r:Addr}{Q:Bool->Shared->Prop}(hT:s.TypeIs (.ref r) "set")(h:Q false s):wpAny (model prog w) A (Builtin.List.listLengthHint (.ref r)) Q E s:=by
 unfold Builtin.List.listLengthHint;refine wpAny_bind (wpAny_specialOf hT PySem.F.slot_set_len.lookup ?_);generalize hid:("set.__len__":String)=id0
 wp_delta
 rw[show splitId id0=some ("set","__len__") from by subst hid;decide +kernel];subst hid;refine wpAny_bind (wpAny_isInstance (T:="set") (b:=true) hT (by rw[isSubtype_type];kernel_rfl) ?_);refine wpAny_ite_split (fun hab=>absurd hab (by decide)) (fun _=>?_);refine wpAny_ite_split (fun _=>?_) (fun hab=>absurd (by decide +kernel) hab);refine wpAny_bind (wpAny_typeOf hT ?_);exact wpAny_pure h
structure jg(vs:List Value)(L:List Str):Prop where
 str:∀v∈vs,∃x t,v=Value.str x t
 perm:(vs.map cU).Perm L
theorem jg.of{w:World}{es:Array (Int×Value)}{L:List Str}(hel:∀e∈es.toList,gc w e)(hp:(es.toList.map fun e=>cU e.2).Perm L){vs:List Value}(h:vs.Perm (es.toList.map (·.2))):jg vs L:=by
 refine⟨fun v hv=>?_,?_⟩
 ·obtain⟨e,he,rfl⟩:=aao.mp (h.mem_iff.mp hv);obtain⟨k,t,rfl⟩:=hel e he;exact⟨k,t,rfl⟩
 ·refine(h.map cU).trans ?_;rw[List.map_map];exact hp
theorem oo{wr:List Addr}{s s':Shared}(hm:Moved wr (fun a b=>b=a) s s'):s'={s with heap:=s'.heap,toks:=s'.toks}:=by
 obtain⟨h',g',d',tk',os'⟩:=s';have eg:g'=s.gens:=hm.gens;have ed:d'=s.drawn:=hm.drawn;have eo:os'=s.os:=hm.os;subst eg;subst ed;subst eo;rfl
section
variable {prog:Program}{w:World}{A:Around}{E:Value->Shared->Prop}{s:Shared}{a:Addr}{L:List Str}
theorem bh.typeIs(S:bh w s.heap a L):s.TypeIs (.ref a) "set":=by
 obtain⟨o,es,ep,t,ho,hex,_⟩:=S;exact⟨o,ho,hex.1⟩
theorem map_range{es:Array (Int×Value)}:(List.range es.size).map (fun p=>((es[p]?).map (·.2)).getD Value.none)=es.toList.map (·.2):=by
 apply List.ext_getElem
 ·simp
 ·intro i h1 h2;have hi:i<es.size:=by simpa using h1
  simp[hi]
theorem uW{Q:Value->Shared->Prop}(S:bh w s.heap a L)
  (h:∀(I tp:Addr) (vs:List Value) (h':Heap) (d:Drawn),SIt w h' I a tp vs 0->I≠a->I≠tp->s.heap.objs.size<=I->(tp=a\/s.heap.objs.size<=tp)->I<h'.objs.size->tp<h'.objs.size->jg vs L->(∀b o,s.heap.get? b=some o->h'.get? b=some o)->Q (.ref I) {s with heap:=h',drawn:=d}) :
  wpAny (model prog w) A (pyIter (.ref a)) Q E s:=by
 have hT:=S.typeIs;obtain⟨o,es,ep,t,ho,hex,hd,hel,hp,nd,hb,hf,hled,hpl⟩:=S;have halt:a<s.heap.objs.size:=Heap.lt_size ho;have hsl:es.size<=sizeLine:=fits_of_scanBound hb;refine wpAny_pyIter_slot hT PySem.F.slot_set_iter (wpAny_call_entry PySem.F.slot_set_iter hT lH ?_ (PySem.F.args_set_iter_1 _));unfold Builtin.«frozenset.__iter__»;refine wpAny_bind (wpAny_pure ?_);refine wpAny_bind ?_;unfold Builtin.Frozenset.sizeOf;refine wpAny_bind (wpAny_setEntries_of ho hd hf (wpAny_pure ?_));unfold setDrawn setsByText;refine wpAny_bind (wpAny_bind (wpAny_setState_of ho hd hf ?_));dsimp only;refine wpAny_bind (wpAny_bind (wpAny_askSetting (wpAny_pure ?_)));refine wpAny_pure ?_;have fin:∀(first:Value) (h1:Heap) (d:Drawn) (tp:Addr) (vs:List Value),(∀b o,s.heap.get? b=some o->h1.get? b=some o)->s.heap.objs.size<=h1.objs.size->(tp=a\/s.heap.objs.size<=tp)->tp<h1.objs.size->jg vs L->
   (∀h',(∀b o,h1.get? b=some o->h'.get? b=some o)->h'.get? h1.objs.size=some {cls:=.type "set_iterator",data:=.fields #[first,rawInt 0,.ref a,rawInt es.size,rawInt ep]}->SIt w h' h1.objs.size a tp vs 0)->
   wpAny (model prog w) A.in1 (do ret (←newFields "set_iterator" [first,rawInt 0,.ref a,rawInt es.size,rawInt (←setEpoch a)])) (fun fin s'=>∃it,fin=PySem.Fin.done (.ret it)/\∃(T:String) (id:Value),s'.TypeIs it T/\typeLookup (.type T) "__next__"=pure (some id)/\Q it s') (fun e s'=>E e s') {s with heap:=h1,drawn:=d}:=by
  intro first h1 d tp vs k1 hsz htp htl ho2 mk;refine wpAny_bind (wpAny_setEpoch_of (k1 _ _ ho) hd hf ?_);unfold newFields;refine wpAny_bind (wpAny_newObj_type ?_ (by size_fits));have hI:(h1.push {cls:=.type "set_iterator",data:=.fields #[first,rawInt 0,.ref a,rawInt es.size,rawInt ep]}).get? h1.objs.size=some {cls:=.type "set_iterator",data:=.fields #[first,rawInt 0,.ref a,rawInt es.size,rawInt ep]}:=aay _ rfl;refine wpAny_pure ⟨_,rfl,"set_iterator",_,⟨_,hI,rfl⟩,dm.lookup,?_⟩;refine h h1.objs.size tp vs _ d (mk _ (fun b o e=>aaf _ e) hI) (Ne.symm (Nat.ne_of_lt (Nat.lt_of_lt_of_le halt hsz))) (Ne.symm (Nat.ne_of_lt htl)) hsz htp ?_ ?_ ho2 fun b o e=>aaf _ (k1 b o e)
  ·show h1.objs.size<(h1.push _).objs.size;rw[Heap.size_push];exact Nat.lt_succ_self _
  ·show tp<(h1.push _).objs.size;rw[Heap.size_push];exact Nat.lt_succ_of_lt htl
 by_cases b:w.params.followText "set-order"=true
 ·
  refine wpAny_ite_split (fun hab=>absurd (show(!(w.params.followText "set-order") && (!t.plain && decide (es.size > 1)))=true from hab) (by rw[b];simp)) fun _=>?_
  refine wpAny_bind (wpAny_pure ?_);refine fin (rawInt 0) s.heap s.drawn a _ (fun _ _ e=>e) (Nat.le_refl _) (.inl rfl) halt (jg.of hel hp ((h7 (w.params.setOrder a ep) es).map (·.2))) fun h' k hI=>?_
  exact .txt (sl:=0) (k _ _ ho) hd hf b rfl hI
 ·have b:w.params.followText "set-order"=false:=by simpa using b
  refine wpAny_ite_split (fun hab=>?_) (fun hab=>?_)
  ·refine wpAny_bind (h8 _ _ _ (List.length_range) fun ps d hps=>?_);have hlen:ps.length=es.size:=by rw[hps.length_eq,List.length_range]
   refine wpAny_bind (wpAny_newTuple ?_ (by rw[aaa,hlen];exact hsl));have hv:((ps.map fun p=>((es[p]?).map (·.2)).getD Value.none).map some)=ps.map fun p=>(es[p]?).map (·.2):=by
    rw[List.map_map];refine List.map_congr_left fun p hpm=>?_
    have hlt:p<es.size:=List.mem_range.mp (hps.mem_iff.mp hpm);simp[hlt]
   refine fin _ _ d s.heap.objs.size (ps.map fun p=>((es[p]?).map (·.2)).getD Value.none) (fun _ _ e=>aaf _ e) (by rw[Heap.size_push];exact Nat.le_succ _) (.inr (Nat.le_refl _)) (by rw[Heap.size_push];exact Nat.lt_succ_self _)
    (jg.of hel hp (by rw[←map_range];exact hps.map _)) fun h' k hI=>?_
   exact .drw (k _ _ (aaf _ ho)) hd hf hv (k _ _ (aay _ rfl)) hI
  ·refine wpAny_bind (wpAny_pure ?_);have hdr:¬(!t.plain && decide (es.size > 1))=true:=fun z=>hab (show(!(w.params.followText "set-order") && (!t.plain && decide (es.size > 1)))=true by rw[b,z];rfl)
   have hz:es.size<=1:=by
    rcases Nat.lt_or_ge 1 es.size with z|z
    ·cases q:t.plain with
     |true=>have:=hpl q;omega
     |false=>
      rw[q] at hdr;simp at hdr;omega
    ·exact z
   refine fin (rawInt 0) s.heap s.drawn a _ (fun _ _ e=>e) (Nat.le_refl _) (.inl rfl) halt (jg.of hel hp (.refl _)) fun h' k hI=>?_
   exact .one (k _ _ ho) hd hf b (by rw[hled,b];rfl) hz rfl hI
theorem pQ{Q:List Value->Shared->Prop}(hh:A.handled=none)(S:bh w s.heap a L)
  (h:∀(vs:List Value) (h':Heap) (tk:Nat) (d:Drawn),jg vs L->(∀b o,s.heap.get? b=some o->h'.get? b=some o)->Q vs {s with heap:=h',toks:=tk,drawn:=d}) :
  wpAny (model prog w) A (collect (.ref a)) Q E s:=by
 obtain⟨oa,hoa⟩:=S.there;have halt:a<s.heap.objs.size:=Heap.lt_size hoa;have hLs:L.length<=sizeLine:=by
  obtain⟨o,es,ep,t,ho,hex,hd,hel,hp,nd,hb,_⟩:=id S;have:=hp.length_eq;rw[aaa,Array.length_toList] at this;rw[←this];exact fits_of_scanBound hb
 unfold collect;refine wpAny_bind (wpAny_runValue (codeAny_builtin entry_proto_collect' ?_));rw[Around.under_plainId PySem.F.plain_proto_collect _];show wpAny _ A.in1 (newList [] >>= fun l=>again (.builtin "list.__iadd__" ⟨[l,.ref a],[]⟩)) _ _ s;refine wpAny_bind (wpAny_newObj_type ?_);refine wpAny_pure ⟨plainId_quiet PySem.F.plain_list_iadd _,codeAny_builtin entry_list_iadd' ?_⟩;rw[Around.under_plainId PySem.F.plain_list_iadd _];have hS₁:(s.heap.push {cls:=.type "list",data:=.seq ([]:List Value).toArray}).get? s.heap.objs.size=some {cls:=.type "list",data:=.seq #[]}:=aay _ rfl;generalize hs1:s.heap.push {cls:=.type "list",data:=.seq ([]:List Value).toArray}=h1 at hS₁;have k1:∀b o,s.heap.get? b=some o->h1.get? b=some o:=fun b o e=>by rw[←hs1];exact aaf _ e
 have z1:h1.objs.size=s.heap.objs.size+1:=by rw[←hs1,Heap.size_push]
 have S1:bh w h1 a L:=S.at fun o e=>k1 _ _ e
 show wpAny _ A.in1 (Builtin.List.listExtendWith (.ref s.heap.objs.size) (.ref a) (.ref s.heap.objs.size)) _ _ {s with heap:=h1};unfold Builtin.List.listExtendWith;have hT1:Shared.TypeIs {s with heap:=h1} (.ref a) "set":=bh.typeIs (s:={s with heap:=h1}) S1;refine wpAny_bind (wpAny_typeOf hT1 ?_);have e1:Builtin.List.listSameRef (.ref s.heap.objs.size) (.ref a)=false:=by simp[Builtin.List.listSameRef,Ne.symm (Nat.ne_of_lt halt)]
 have e2:(Value.type "set" == Value.type "list")=false:=by decide
 have e3:(Value.type "set" == Value.type "tuple")=false:=by decide
 simp only[e1,e2,e3,Bool.or_false,Bool.false_eq_true,if_false];refine wpAny_bind (uW (s:={s with heap:=h1}) S1 fun I tp vs h2 d st hIa hIt hI htp hIl htl hO k2=>?_);have hI:h1.objs.size<=I:=hI;rw[z1] at hI;have hvl:vs.length<=sizeLine:=by
  have:=hO.perm.length_eq;rw[aaa] at this;rw[this];exact hLs
 have hT2:Shared.TypeIs {s with heap:=h2,drawn:=d} (.ref a) "set":=bh.typeIs (s:={s with heap:=h2,drawn:=d}) (S1.at fun o e=>k2 _ _ e);refine wpAny_bind (wpAny_holding (xA hT2 ?_));have hSf:s.heap.objs.size ∉ [I,a,tp]:=by
  simp only[List.mem_cons,List.not_mem_nil,or_false,not_or];refine⟨by omega,Ne.symm (Nat.ne_of_lt halt),?_⟩;rcases htp with z|z
  ·rw[z];exact Ne.symm (Nat.ne_of_lt halt)
  ·have z:h1.objs.size<=tp:=z;rw[z1] at z;omega
 have hh2:A.in1.handled=none:=hh;have key:∀(h3:Heap) (c tk:Nat),SIt w h3 I a tp vs 0->(∀b o,b≠s.heap.objs.size->h2.get? b=some o->h3.get? b=some o)->h3.get? s.heap.objs.size=some {cls:=.type "list",data:=.seq #[] c}->
   codeAny (model prog w) A (.builtin "list.extend.loop" ⟨[.ref s.heap.objs.size,.ref I,.ref s.heap.objs.size],[]⟩)
    (fun(q:Result) (s':Shared)=>∃(h':Heap) (tk:Nat) (acc':Array Value) (c':Nat),q=.ok (.ret (.ref s.heap.objs.size))/\s'={s with heap:=h',toks:=tk,drawn:=d}/\
     (∀b o,s.heap.get? b=some o->h'.get? b=some o)/\h'.get? s.heap.objs.size=some {cls:=.type "list",dict:=none,data:=.seq acc' c',slots:=#[]}/\acc'.toList=vs)
    {s with heap:=h3,toks:=tk,drawn:=d}:=by
  intro h3 c tk st3 k3 hS3;refine codeAny_extend_loopS (tu (A:=A.in1) hh2 hIa hIt).toS hvl _ hSf _ vs.length 0 _ #[] c rfl (Nat.zero_le _) st3 hS3 (ItemsOf.nil _) fun s' acc' c' hm hS' hacc=>?_
  refine⟨s'.heap,s'.toks,acc',c',rfl,?_,fun b o e=>?_,hS',?_⟩
  ·exact oo hm
  ·have hb:b<s.heap.objs.size:=Heap.lt_size e;refine hm.heap b o (fun z=>?_) (k3 b o (Nat.ne_of_lt hb) (k2 b o (k1 b o e)));simp only[List.mem_cons,List.not_mem_nil,or_false] at z;have hI0:s.heap.objs.size<I:=by omega
   rcases z with z|z
   ·exact absurd z (Nat.ne_of_lt hb)
   ·exact absurd (z▸hb) (Nat.not_lt.mpr (Nat.le_of_lt hI0))
  ·apply List.ext_getElem?;intro j;rcases Nat.lt_or_ge j vs.length with z|z
   ·have hj:j<acc'.size:=by rw[hacc.1];exact z
    have q:=hacc.2 j acc'[j] (Array.getElem?_eq_getElem hj);rw[Array.getElem?_toList,Array.getElem?_eq_getElem hj];exact q.symm
   ·rw[List.getElem?_eq_none z,List.getElem?_eq_none (by rw[Array.length_toList,hacc.1];exact z)]
 have hS2:h2.get? s.heap.objs.size=some {cls:=.type "list",data:=.seq #[]}:=k2 _ _ hS₁;refine wpAny_ite_split (fun _=>?_) (fun _=>?_)
 ·refine wpAny_bind (wpAny_rule ?_);refine wpAny_bind ?_;show wpAny _ _ (updateSeq s.heap.objs.size (·.push .none) >>= fun _=>updateSeq s.heap.objs.size (·.pop)) _ _ _;refine wpAny_bind (wpAny_updateSeq hS2 rfl ?_);have hS3:=Heap.get?_update_self (Obj.mapSeq (·.push Value.none)) hS2 rfl;refine wpAny_updateSeq (hz:=by seq_fits) hS3 rfl ?_;have hS4:=Heap.get?_update_self (Obj.mapSeq (·.pop)) hS3 rfl;have oth:∀b o,b≠s.heap.objs.size->h2.get? b=some o->((h2.update s.heap.objs.size (Obj.mapSeq (·.push Value.none))).update s.heap.objs.size (Obj.mapSeq (·.pop))).get? b=some o:=fun b o hb e=>
   (Heap.get?_update_other _ _ (Ne.symm hb)).trans ((Heap.get?_update_other _ _ (Ne.symm hb)).trans e)
  refine wpAny_pure ⟨plainId_quiet PySem.F.plain_extend_loop _,codeAny_mono (key _ _ s.toks (st.keep fun b hb o e=>oth b o (fun z=>hSf (z▸hb)) e) oth hS4) fun q s' y=>?_⟩;obtain⟨h',tk,acc',c',rfl,rfl,k,hS',rfl⟩:=y;show wpAny _ A (load s.heap.objs.size >>= _) _ _ _;refine wpAny_bind (wpAny_load hS' ?_);exact wpAny_pure (h _ h' tk d hO k)
 ·refine wpAny_pure ⟨plainId_quiet PySem.F.plain_extend_loop _,codeAny_mono (key h2 _ s.toks st (fun _ _ _ e=>e) hS2) fun q s' y=>?_⟩;obtain⟨h',tk,acc',c',rfl,rfl,k,hS',rfl⟩:=y;show wpAny _ A (load s.heap.objs.size >>= _) _ _ _;refine wpAny_bind (wpAny_load hS' ?_);exact wpAny_pure (h _ h' tk d hO k)
end
end SL
namespace SL
open PySem PyProof.Rows
theorem mV:entryFor table "set.__sub__"=some Builtin.«frozenset.__sub__»:=entryFor_alias (id':="frozenset.__sub__") (by kernel_rfl) rfl (by decide +kernel) (by kernel_rfl)
theorem sub_set_set:isSubtype (.type "set") (.type "set")=pure true:=by rw[isSubtype_type];kernel_rfl
section
variable {prog:Program}{w:World}{A:Around}{E:Value->Shared->Prop}{s:Shared}{a b r:Addr}{L M:List Str}
def yI(w:World)(es:List (Int×Value))(L:List Str):Prop:=(∀e∈es,gc w e)/\(es.map fun e=>cU e.2).Perm L
theorem bh.data{h:Heap}(S:bh w h a L):∃o es ep t,h.get? a=some o/\o.data=.set es ep t/\t.fits es.size=true/\yI w es.toList L/\t.led=(!w.params.followText "set-order")/\(t.plain=true->es.size=0)/\es.size=L.length:=by
 obtain⟨o,es,ep,t,ho,hex,hd,hel,hp,nd,hb,hf,hled,hpl⟩:=S;have:=hp.length_eq;rw[aaa,Array.length_toList] at this;exact⟨o,es,ep,t,ho,hd,hf,⟨hel,hp⟩,hled,hpl,this⟩
theorem qQ:∀{as:List Addr} {s:Shared},(∀x∈as,∃L,bh w s.heap x L)->∀{Q:Bool->Shared->Prop},Q true s->wpAny (model prog w) A (setsQuiet as) Q E s:=by
 intro as s hS Q h;unfold setsQuiet;refine wpAny_bind (wpAny_forIn_list _ (fun rest (r:Option Bool×Unit) s'=>r=(none,())/\s'=s/\∀x∈rest,∃L,bh w s.heap x L) _ ?_ ?_ as _ ⟨rfl,rfl,hS⟩)
 ·rintro x rest r s' ⟨rfl,rfl,hr⟩;obtain⟨L',S'⟩:=hr x (aac ..);obtain⟨o,es,ep,t,ho,hd,hf,hE,_,_,_⟩:=S'.data;refine wpAny_bind (wpAny_setEntries_of ho hd hf ?_);refine wpAny_bind (wpAny_forIn_array' _ (fun rest (r:Option Bool×Unit) s''=>r=(none,())/\s''=s'/\∀e∈rest,gc w e) _ ?_ ?_ es _ ⟨rfl,rfl,hE.1⟩)
  ·rintro e rest r s'' ⟨rfl,rfl,he⟩;obtain⟨k,tk,rfl⟩:=he e (aac ..);exact wpAny_pure ⟨rfl,rfl,fun e' h'=>he e' (aad _ h')⟩
  ·rintro r s'' ⟨rfl,rfl,_⟩;exact wpAny_pure ⟨rfl,rfl,fun y hy=>hr y (aad _ hy)⟩
 ·rintro r s' ⟨rfl,rfl,_⟩;exact wpAny_pure h
theorem oq{others:List Addr}{Q:Array (Int×Value)->Shared->Prop}(S:bh w s.heap a L)(F:bh w s.heap r [])(hne:a≠r)(ho:∀x∈others,∃L,bh w s.heap x L)
  (h:∀(es:Array (Int×Value)) (h':Heap) (d:Drawn),yI w es.toList L->Heap.SameBut r s.heap h'->bh w h' r []->Q es {s with heap:=h',drawn:=d}) :
  wpAny (model prog w) A (setWalkUnseen a others (some r)) Q E s:=by
 obtain⟨o,es,ep,t,hoa,hd,hf,hE,hled,hpl,hn⟩:=S.data;unfold setWalkUnseen setsByText;refine wpAny_bind (wpAny_setState_of hoa hd hf ?_);dsimp only;refine wpAny_bind (wpAny_bind (wpAny_askSetting (wpAny_pure ?_)));have walk:(w.params.followText "set-order"=true\/es.size<=1)->wpAny (model prog w) A (setWalk a) Q E s:=by
  intro hc;unfold setWalk setsByText;refine wpAny_bind (wpAny_setState_of hoa hd hf ?_);dsimp only;refine wpAny_bind (wpAny_bind (wpAny_askSetting (wpAny_pure ?_)));refine wpAny_ite_split (fun hb=>?_) (fun hb=>?_)
  ·refine wpAny_bind (wpAny_askSetting (wpAny_pure ?_));have p:=h7 (w.params.setOrder a ep) es;exact h _ s.heap s.drawn ⟨fun e he=>hE.1 e (p.mem_iff.mp he),(p.map _).trans hE.2⟩ (.refl ..) F
  ·have hz:es.size<=1:=hc.resolve_left hb;refine wpAny_ite_split (fun hab=>absurd (show(!t.plain && decide (es.size > 1))=true from hab) (by
    have:decide (es.size > 1)=false:=aai (by omega);rw[this];simp)) fun _=>?_
   refine wpAny_bind ?_;show wpAny _ _ (if (!t.led && decide (es.size > 1))=true then _ else _) _ _ _;rw[if_neg (by
    have:decide (es.size > 1)=false:=aai (by omega);rw[this];simp)]
   exact wpAny_pure (wpAny_pure (h es s.heap s.drawn hE (.refl ..) F))
 refine wpAny_ite_split (fun hab=>?_) (fun hab=>?_)
 ·have hab:((w.params.followText "set-order" || (t.led && t.plain)) || decide (es.size<=1))=true:=hab;refine wpAny_mono (walk ?_) (fun _ _ q=>?_) fun _ _ e=>e
  ·by_cases b:w.params.followText "set-order"=true
   ·exact .inl b
   ·right
    cases q:t.plain with
    |true=>have:=hpl q;omega
    |false=>
     rw[q] at hab;simp at hab;rcases hab with z|z
     ·exact absurd z b
     ·exact z
  ·first | exact wpAny_pure q | exact q
 ·refine wpAny_bind (qQ (as:=a::others) (fun x hx=>?_) ?_)
  ·rcases List.mem_cons.mp hx with rfl|hx
   ·exact⟨L,S⟩
   ·exact ho x hx
  ·simp only[Bool.not_true,Bool.false_eq_true,if_false];refine wpAny_bind (wpAny_rule ?_);obtain⟨of,ef,epf,tf,hof,hexf,hdf,helf,hpf,ndf,hbf,hff,hledf,hplf⟩:=id F;refine wpAny_bind (wpAny_setState_of hof hdf hff ?_);dsimp only;have hz:ef.size=0:=by
    have:=hpf.length_eq;rw[aaa,Array.length_toList] at this;exact this
   refine wpAny_ite_split (fun _=>?_) (fun _=>?_)
   ·refine wpAny_bind (wpAny_storeSet_of hof hdf ?_ (by omega));have ho2:=Heap.get?_update_self (Obj.putSet ef {tf with led:=tf.led && t.led,plain:=tf.plain && t.plain}) hof (by rw[putSet_of ef _ hdf];rfl);rw[putSet_of ef _ hdf] at ho2;refine wpAny_pure (h es _ s.drawn hE (Heap.SameBut.update ..) ⟨_,ef,epf+1,_,ho2,hexf,rfl,helf,hpf,ndf,hbf,?_,?_,fun _=>hz⟩)
    ·cases tf;exact hff
    ·show(tf.led && t.led)=_;rw[hledf,hled,Bool.and_self]
   ·exact wpAny_pure (h es s.heap s.drawn hE (.refl ..) F)
def dq(es:List (Int×Value))(M:List Str)(acc:List Str):List Str:=es.foldl (fun acc e=>if cU e.2∈M then acc else cN acc (cU e.2)) acc
theorem mw(M:List Str):∀(es:List (Int×Value)) (acc:List Str) (x:Str),x∈dq es M acc↔x∈acc\/(x∈es.map (fun e=>cU e.2)/\¬x∈M)
 |[],acc,x=>by simp[dq]
 |e::r,acc,x=>by
  have ih:=mw M r (if cU e.2∈M then acc else cN acc (cU e.2)) x;show x∈dq r M (if cU e.2∈M then acc else cN acc (cU e.2))↔_;rw[ih,aaw,List.mem_cons]
  by_cases h:cU e.2∈M
  ·rw[if_pos h];constructor
   ·rintro(z|⟨z,y⟩)
    ·exact .inl z
    ·exact .inr ⟨.inr z,y⟩
   ·rintro(z|⟨rfl|z,y⟩)
    ·exact .inl z
    ·exact absurd h y
    ·exact .inr ⟨z,y⟩
  ·rw[if_neg h,nZ];constructor
   ·rintro((z|rfl)|⟨z,y⟩)
    ·exact .inl z
    ·exact .inr ⟨.inl rfl,h⟩
    ·exact .inr ⟨.inr z,y⟩
   ·rintro(z|⟨rfl|z,y⟩)
    ·exact .inl (.inl z)
    ·exact .inl (.inr rfl)
    ·exact .inr ⟨z,y⟩
theorem jQ(M:List Str):∀(es:List (Int×Value)) (acc:List Str),acc.Nodup->(dq es M acc).Nodup
 |[],acc,h=>h
 |e::r,acc,h=>by
  refine jQ M r _ ?_;show(if cU e.2∈M then acc else cN acc (cU e.2)).Nodup;split
  ·exact h
  ·exact iK h
theorem mx(M:List Str):∀(es:List (Int×Value)) (acc:List Str),(dq es M acc).length<=acc.length+es.length
 |[],acc=>by simp[dq]
 |e::r,acc=>by
  have ih:=mx M r (if cU e.2∈M then acc else cN acc (cU e.2));show(dq r M (if cU e.2∈M then acc else cN acc (cU e.2))).length<=_;have h2:=j6 acc (cU e.2);rw[aau];split at ih <;> simp_all <;> omega
theorem h9{h:Heap}(S:bh w h a L):L.length<scanBound:=by
 obtain⟨o,es,ep,t,ho,hex,hd,hel,hp,nd,hb,_⟩:=S;have:=hp.length_eq;rw[aaa,Array.length_toList] at this;omega
theorem ot{Q:Bool->Shared->Prop}(S:bh w s.heap a L)(h:Q true s):wpAny (model prog w) A (Builtin.Frozenset.isAnySet (.ref a)) Q E s:=by
 unfold Builtin.Frozenset.isAnySet;refine wpAny_bind (wpAny_isInstance S.typeIs sub_set_set ?_);exact wpAny_pure h
theorem uX{Q:Value->Shared->Prop}(S:bh w s.heap a L)(h:Q (.type "set") s):wpAny (model prog w) A (Builtin.Frozenset.baseOf a) Q E s:=by
 unfold Builtin.Frozenset.baseOf;refine wpAny_bind (wpAny_isInstance S.typeIs sub_set_set ?_);exact wpAny_pure h
theorem ou{Q:Nat->Shared->Prop}(S:bh w s.heap a L)(h:Q L.length s):wpAny (model prog w) A (Builtin.Frozenset.sizeOf a) Q E s:=by
 obtain⟨oa,esa,epa,ta,hoa,hda,hfa,_,_,_,hna⟩:=S.data;unfold Builtin.Frozenset.sizeOf;refine wpAny_bind (wpAny_setEntries_of hoa hda hfa (wpAny_pure ?_));rw[hna];exact h
theorem yJ{Q:Value->Shared->Prop}(S:bh w s.heap a L)(T:bh w s.heap b M)(hsm:L.length / 4<=M.length)
  (h:∀(D:List Str) (h':Heap) (tk:Nat) (d:Drawn),D.Nodup->(∀x,x∈D↔x∈L/\¬x∈M)->bh w h' s.heap.objs.size D->(∀b o,s.heap.get? b=some o->h'.get? b=some o)->Q (.ref s.heap.objs.size) {s with heap:=h',toks:=tk,drawn:=d}) :
  wpAny (model prog w) A (binaryOp .Sub (.ref a) (.ref b)) Q E s:=by
 refine wpAny_binaryOp_same S.typeIs T.typeIs PySem.F.fills_set_sub PySem.F.slot_set_sub ?_;refine wpAny_call_entry PySem.F.slot_set_sub S.typeIs mV ?_ (PySem.F.args_set_sub_2 _ _);obtain⟨oa,esa,epa,ta,hoa,hda,hfa,hEa,_,_,hna⟩:=S.data;obtain⟨ob,esb,epb,tb,hob,hdb,hfb,hEb,_,_,hnb⟩:=T.data;have lta:=Heap.lt_size hoa;have ltb:=Heap.lt_size hob;show wpAny _ _ (do
  let (self,other) ←Builtin.Frozenset.slot1 "__sub__" ⟨[.ref a,.ref b],[]⟩
  let (l,r):=if false then (other,self) else (self,other)
  if !(←Builtin.Frozenset.isAnySet l <&&> Builtin.Frozenset.isAnySet r) then rule s!"frozenset.__sub__.declined";return ←ret .notImplemented
  ret (←Builtin.Frozenset.difference s!"frozenset.__sub__" (←Builtin.Frozenset.addrOf l) r)) _ _ s
 refine wpAny_bind (wpAny_pure ?_);show wpAny _ _ (do
  let d ←Builtin.Frozenset.isAnySet (.ref a) <&&> Builtin.Frozenset.isAnySet (.ref b)
  if (!d)=true then do rule (toString "frozenset.__sub__.declined");ret .notImplemented
  else do
   let x ←Builtin.Frozenset.addrOf (.ref a)
   let y ←Builtin.Frozenset.difference (toString "frozenset.__sub__") x (.ref b)
   ret y) _ _ s
 refine wpAny_bind ?_;refine wpAny_bind (ot S ?_);refine ot T ?_;rw[if_neg (by decide)];refine wpAny_bind (wpAny_pure ?_);refine wpAny_bind ?_;unfold Builtin.Frozenset.difference;refine wpAny_bind (ot T ?_);simp only[Bool.not_true,Bool.false_eq_true,if_false,Bool.false_and,if_true];refine wpAny_bind (wpAny_pure ?_);refine wpAny_bind (ou T ?_);refine wpAny_bind (ou S ?_);rw[if_neg (by omega)];refine wpAny_bind (uX S ?_);refine wpAny_bind (uV fun h1 F1 k1=>?_);refine wpAny_bind (wpAny_pure ?_);have S1:bh w h1 a L:=S.at fun o e=>k1 _ _ e
 have T1:bh w h1 b M:=T.at fun o e=>k1 _ _ e
 have hna1:a≠s.heap.objs.size:=Nat.ne_of_lt lta;have hnb1:b≠s.heap.objs.size:=Nat.ne_of_lt ltb;refine wpAny_bind (wpAny_setEpoch_of (k1 _ _ hoa) hda hfa ?_);refine wpAny_bind (wpAny_holding ?_);have hlen:L.length<scanBound:=h9 S;refine wpAny_bind (oq (s:={s with heap:=h1}) S1 F1 hna1 (fun x hx=>?_) fun es h2 d hE sb2 F2=>?_)
 ·simp only[List.mem_cons,List.not_mem_nil,or_false] at hx;rcases hx with rfl|rfl
  ·exact⟨M,T1⟩
  ·exact⟨[],F1⟩
 have hel:es.toList.length=L.length:=by
  have:=hE.2.length_eq;rw[aaa] at this;exact this
 have hoa2:h2.get? a=some oa:=sb2.extBut _ _ hna1 (k1 _ _ hoa);refine wpAny_bind (wpAny_forIn_array' _ (fun rest (_:PUnit) s'=>∃(done:List (Int×Value)) (h3:Heap) (tk:Nat),es.toList=done++rest/\s'={s with heap:=h3,toks:=tk,drawn:=d}/\
   bh w h3 s.heap.objs.size (dq done M [])/\(∀x o,x≠s.heap.objs.size->h2.get? x=some o->h3.get? x=some o)) _ ?_ ?_ es _ ⟨[],h2,s.toks,rfl,rfl,F2,fun _ _ _ e=>e⟩)
 ·rintro e rest u s' ⟨done,h3,tk,hsp,rfl,F3,k3⟩;obtain⟨k,tk',rfl⟩:=hE.1 e (by rw[hsp];simp);have T3:bh w h3 b M:=T1.at fun o e=>k3 _ _ hnb1 (sb2.extBut _ _ hnb1 e)
  have hdl:(dq done M []).length+1<scanBound:=by
   have h1:=mx M done [];have h2:done.length+(rest.length+1)=L.length:=by rw[←hel,hsp];simp
   simp at h1;omega
  have step:∀(h4:Heap) (tk4:Nat) (P:ForInStep PUnit->Shared->Prop),(∀x o,x≠s.heap.objs.size->h2.get? x=some o->h4.get? x=some o)->P (.yield PUnit.unit) {s with heap:=h4,toks:=tk4,drawn:=d}->
    wpAny (model prog w) A.in1 (do Builtin.Frozenset.unchanged (toString "frozenset.__sub__") a epa;pure (ForInStep.yield PUnit.unit)) P E {s with heap:=h4,toks:=tk4,drawn:=d}:=by
   intro h4 tk4 P k4 hP;refine wpAny_bind ?_;unfold Builtin.Frozenset.unchanged;refine wpAny_bind (wpAny_setEpoch_of (k4 _ _ hna1 hoa2) hda hfa ?_);rw[if_neg (by simp)];exact wpAny_pure (wpAny_pure hP)
  have em:dq (done++[(hashStr w k,Value.str k tk')]) M []=if k∈M then dq done M [] else cN (dq done M []) k:=by
   unfold dq;rw[List.foldl_append];rfl
  refine wpAny_bind (wpAny_holding ?_);refine wpAny_bind (yG (s:={s with heap:=h3,toks:=tk,drawn:=d}) T3 fun o ho=>?_);refine wpAny_bind (wpAny_pure ?_)
  by_cases hk:k∈M
  ·rw[if_neg (by rw[ho,aan hk];decide)];refine wpAny_pure (step h3 tk _ k3 ⟨done++[(hashStr w k,Value.str k tk')],h3,tk,by rw[hsp];simp,rfl,?_,k3⟩);rw[em,if_pos hk];exact F3
  ·rw[if_pos (by rw[ho,aai hk];rfl)];refine wpAny_bind (jN (s:={s with heap:=h3,toks:=tk,drawn:=d}) F3 hdl fun h4 sb4 F4=>?_);have k4:∀x o,x≠s.heap.objs.size->h2.get? x=some o->h4.get? x=some o:=fun x o hx e=>sb4.extBut _ _ hx (k3 x o hx e)
   refine wpAny_pure (step h4 tk _ k4 ⟨done++[(hashStr w k,Value.str k tk')],h4,tk,by rw[hsp];simp,rfl,?_,k4⟩);rw[em,if_neg hk];exact F4
 ·rintro u s' ⟨done,h3,tk,hsp,rfl,F3,k3⟩;have hsp:es.toList=done:=by rw[hsp];simp
  subst hsp;refine wpAny_pure (wpAny_pure (wpAny_pure ⟨_,rfl,(by intro z;cases z),h _ h3 tk d (jQ M _ _ List.nodup_nil) (fun x=>?_) F3 fun x o e=>?_⟩))
  ·rw[mw];rw[hE.2.mem_iff];simp
  ·have hlt:x≠s.heap.objs.size:=Nat.ne_of_lt (Heap.lt_size e);exact k3 x o hlt (sb2.extBut _ _ hlt (k1 x o e))
end
end SL
namespace L2
open PySem PySem.Spec PyProof.Rows
open SL (bh ap srt h9)
section
variable {X:Cx}{pins:List (Addr×Obj)}{σ:St}{H:Hp}{s:Shared}
theorem Inv.draw(I:Inv X pins σ H s)(d:Drawn):Inv X pins σ H {s with drawn:=d}:=⟨I.ok,I.os,I.bare,I.base,I.loc,I.cell,I.free,I.freeC,I.pin,I.hok,I.len⟩
theorem lI:∀{ss:List Str} {us:List Value},Vals (ss.map V.str) us->StrsAre us ss
 |[],us,h=>by cases h;exact .nil
 |x::r,us,h=>by
  cases h with
  |cons e t=>
   obtain⟨tk,rfl⟩:=e;exact .cons x tk (lI t)
theorem jh:∀{us:List Value} {ss:List Str},StrsAre us ss->Vals (ss.map V.str) us
 |_,_,.nil=>.nil
 |_,_,.cons x t h=>.cons ⟨t,rfl⟩ (jh h)
theorem jR{us:List Value}{ss:List Str}(h:StrsAre us ss):us.length=ss.length:=by
 have:=(jh h).length;rw[aaa] at this;exact this.symm
theorem jS:∀{us:List Value} {ss:List Str},StrsAre us ss->∀(i:Nat) (v:Value),us[i]? =some v->∃t,v=.str (ss.getD i Str.empty) t
 |_,_,.nil,i,v,h=>by simp at h
 |_,_,.cons x t r,0,v,h=>by simp at h;exact⟨t,by rw[←h];rfl⟩
 |_,_,.cons x t r,i+1,v,h=>by
  simp only[List.getElem?_cons_succ] at h;obtain⟨t',e⟩:=jS r i v h;exact⟨t',by rw[e];rfl⟩
def dt(w:World)(a:Addr)(L:List Str):HO:=.ext fun h=>bh w h a L
theorem p7{P:Program}{w:World}{H:Hp}{h:Heap}{a:Addr}{L:List Str}(S:bh w h a L):bi P w H h a (dt w a L):=⟨S,S.there,fun _ _ S k=>S.at k⟩
theorem Inv.uY{a:Addr}{L:List Str}(I:Inv X pins σ H s)(h:H a=some (dt X.w a L)):bh X.w s.heap a L:=(I.hok a _ h).1
theorem Inv.newList{its:List Value}{ys:List V}{n:Nat}{h':Heap}{a:Addr}{tk:Nat}(I:Inv X pins σ H s)(k:∀b o,s.heap.get? b=some o->h'.get? b=some o)(ha:s.heap.objs.size<=a)(e:h'.get? a=some {cls:=.type "list",data:=.seq its.toArray n})(r:Vals ys its)(hz:ys.length<=sizeLine) :
  Inv X pins σ (upd H a (.lst ys)) {s with heap:=h',toks:=tk}:=I.laid (t':=tk) k ha (show bi X.prog X.w _ h' _ (.lst ys) from ⟨hz,its,n,r,e⟩)
end
section
variable {X:Cx}
theorem eO(hc:X.calm=true):dQ X (.type "set") (fun xs H Q=>∃p ss,xs=[.ref p]/\SqL X.K H p (ss.map V.str)/\ss.length+1<scanBound/\∀q,H q=none->Q (.ref q) (upd H q (dt X.w q (ap ss)))):=by
 intro pins s σ H xs us Q I r h;obtain⟨p,ss,rfl,hq,hb,q⟩:=h;obtain⟨u,rfl,rx⟩:=vals1 r;cases rx
 obtain⟨its,r',pl,hz⟩:=I.list hq;have hS:=lI r';have hl:=jR hS;refine SL.mT (I.ok.hd hc) pl.isList (ss:=ss) (fun i v e=>jS hS i v (by simpa using e)) (by simpa using hl) (by simp only[aaq];omega) fun h' tk S k=>?_
 exact⟨.ref _,_,I.laid (t':=tk) (fun b o e=>k b o (Heap.lt_size e) e) (Nat.le_refl _) (p7 S),rfl,q _ I.fresh⟩
theorem xB:OpR X (binaryOp .Sub) (fun x y H Q=>∃a b L M,x=.ref a/\y=.ref b/\H a=some (dt X.w a L)/\H b=some (dt X.w b M)/\L.length / 4<=M.length/\
  ∀q D,H q=none->D.Nodup->(∀z,z∈D↔z∈L/\¬z∈M)->Q (.ref q) (upd H q (dt X.w q D))):=by
 intro pins s σ H x y v u Q I rx ry h;obtain⟨a,b,L,M,rfl,rfl,h1,h2,hl,q⟩:=h;cases rx
 cases ry
 refine SL.yJ (I.uY h1) (I.uY h2) hl fun D h' tk d nd hm S k=>?_
 have J:Inv X pins σ (upd H s.heap.objs.size (dt X.w s.heap.objs.size D)) {s with heap:=h',toks:=tk}:=I.laid (t':=tk) k (Nat.le_refl _) (p7 S);exact⟨.ref _,_,J.draw d,rfl,q _ D I.fresh nd hm⟩
def AB(X:Cx)(H:Hp)(p:Addr)(ss:List Str):Prop:=SqL X.K H p (ss.map V.str)\/H p=some (dt X.w p ss)\/∃kvs,H p=some (.dK kvs)/\kvs.map (·.1)=ss.map Sum.inr
theorem cR(hc:X.calm=true):dQ X (.builtin "sorted") (fun xs H Q=>∃p ss,xs=[.ref p]/\AB X H p ss/\ss.length<64/\∀q,H q=none->Q (.ref q) (upd H q (.lst ((srt ss).map V.str)))):=by
 intro pins s σ H xs us Q I r h;obtain⟨p,ss,rfl,hq,h64,q⟩:=h;obtain⟨u,rfl,rx⟩:=vals1 r;cases rx
 have hh:X.A.in1.handled=none:=I.ok.hd hc;have hz:((srt ss).map V.str).length<=sizeLine:=by rw[aaa,SL.d7,sizeLine_eq];omega
 have fin:∀(vs:List Value) (ss':List Str) (h1:Heap) (tk:Nat) (d:Drawn),StrsAre vs ss'->ss'.Perm ss->(∀b o,s.heap.get? b=some o->h1.get? b=some o)->
   ∃ss,StrsAre vs ss/\vs.length<64/\∀(out:List Value) (e:Nat) (h':Heap),StrsAre out (srt ss)->(∀b o,h1.get? b=some o->h'.get? b=some o)->h'.get? h1.objs.size=some {cls:=.type "list",data:=.seq out.toArray e}->
    EP X pins σ Q (.ref h1.objs.size) {s with heap:=h',toks:=tk,drawn:=d}:=by
  intro vs ss' h1 tk d hS hp k;have I1:Inv X pins σ H {s with heap:=h1,toks:=tk}:=I.kept (t':=tk) k;refine⟨ss',hS,by rw[jR hS,hp.length_eq];exact h64,fun out e h' hO k' he=>?_⟩;rw[SL.tD hp] at hO;have J:=I1.newList (tk:=tk) k' (Nat.le_refl _) he (jh hO) hz;exact⟨.ref _,_,J.draw d,rfl,q _ I1.fresh⟩
 refine SL.tE ?_;rcases hq with hq|hq|⟨kvs,hq,hk⟩
 ·obtain⟨its,r',pl,hz'⟩:=I.list hq;have hS:=lI r';refine collect_list pl.isList ?_;refine fin its ss _ s.toks s.drawn hS (.refl _) (fun b o e=>?_);refine(Heap.get?_update_other _ _ ?_).trans (aaf _ e);exact Ne.symm (Nat.ne_of_lt (Heap.lt_size e))
 ·refine SL.pQ hh (I.uY hq) fun vs h' tk d hO k=>?_
  have hS:=strsAre_map vs hO.str;have e:vs.map strOf=vs.map SL.cU:=List.map_congr_left fun v hv=>by
   obtain⟨x,t,rfl⟩:=hO.str v hv;rfl
  exact fin vs _ h' tk d hS (by rw[e];exact hO.perm) k
 ·obtain⟨z,hsm,vs,rel,dd⟩:=mZ I.hok hq;obtain⟨ep,hat⟩:=dd.dictAt;have hlen:vs.length=ss.length:=by
   have h1:=rel.length;have h2:=congrArg List.length hk;rw[aaa,aaa] at h2;omega
  refine PySem.W.kdu_collect (PySem.W.kdl_dict (knd:=bI X.prog X.w) (kvs:=vs) (ep:=ep) hsm) hh hat (by rw[hlen,sizeLine_eq];omega) fun h' tk acc k hacc=>?_
  have hS:StrsAre acc.toList ss:=by
   have hks:vs.map (·.1)=ss.map Sum.inr:=by rw[←rel.keys];exact hk
   have hst:∀(j:Nat) (v:Value),acc[j]? =some v->∃t,v=.str (ss.getD j Str.empty) t:=fun j v e=>by
    obtain⟨k',x,h1,h2⟩:=hacc.2 j v e;have h3:=congrArg (fun l=>l[j]?) hks;simp only[aax,h1] at h3;cases q3:ss[j]? with
    |none=>rw[q3] at h3;cases h3
    |some y=>
     rw[q3] at h3;have h3:some k'=some (Sum.inr y):=h3;injection h3 with h3;subst h3;obtain⟨t,rfl⟩:=Value.isStrOf_shape (x:=y) (v:=v) h2;exact⟨t,by rw[aat,q3];rfl⟩
   have ha:∀v,v∈acc.toList->∃x t,v=Value.str x t:=fun v hv=>by
    obtain⟨j,hj,e⟩:=List.mem_iff_getElem.mp hv;obtain⟨t,e'⟩:=hst j v (by rw[←Array.getElem?_toList,aae hj,e]);exact⟨_,t,e'⟩
   have h4:=strsAre_map acc.toList ha;have h5:acc.toList.map strOf=ss:=by
    apply List.ext_getElem?;intro j;rw[aax,Array.getElem?_toList];cases q4:acc[j]? with
    |none=>
     have:ss.length<=j:=by
      rw[Array.getElem?_eq_none_iff] at q4;rw[hacc.1,hlen] at q4;exact q4
     rw[List.getElem?_eq_none this];rfl
    |some v=>
     obtain⟨t,rfl⟩:=hst j v q4;have hj:j<ss.length:=by
      obtain⟨hlt,_⟩:=Array.getElem?_eq_some_iff.mp q4;rw[hacc.1,hlen] at hlt;exact hlt
     rw[aat,aae hj];rfl
   rw[h5] at h4;exact h4
  exact fin _ ss h' tk s.drawn hS (.refl _) k
theorem ox(hc:X.calm=true):dQ X (.builtin "all") (fun xs H Q=>∃(p:Addr) (bs:List Bool),xs=[.ref p]/\SqL X.K H p (bs.map V.bl)/\Q (.bl (bs.all id)) H):=by
 intro pins s σ H xs us Q I r h;obtain⟨p,bs,rfl,hq,q⟩:=h;obtain⟨u,rfl,rx⟩:=vals1 r;cases rx
 obtain⟨its,r',pl,hz⟩:=I.list hq;have hplt:p<s.heap.objs.size:=by
  obtain⟨o,n,e,_⟩:=pl;exact Heap.lt_size e
 have hb:∀(i:Nat) (v:Value),its.toArray[i]? =some v->v=.bool (bs.getD i true)/\i<bs.length:=fun i v e=>by
  have e:its[i]? =some v:=by simpa using e
  cases q1:(bs.map V.bl)[i]? with
  |none=>
   have:=Vals.none_of r' q1;rw[this] at e;cases e
  |some x=>
   obtain⟨u,h1,h2⟩:=Vals.get r' q1;rw[e] at h1;cases h1;rw[aax] at q1;cases q2:bs[i]? with
   |none=>rw[q2] at q1;cases q1
   |some b=>
    rw[q2] at q1;have q1:some (V.bl b)=some x:=q1;injection q1 with q1;subst q1;cases h2
    rw[aat,q2];exact⟨rfl,(aab.mp q2).1⟩
 have hl:its.length=bs.length:=by
  have:=r'.length;rw[aaa] at this;exact this.symm
 refine call_all_walk (wpAny_pyIter_list pl.isList ?_);refine⟨s.heap.objs.size,_,_,_,_,_,fun i=>bs.getD i true,rfl,Walks.list (show X.A.in1.handled=none from I.ok.hd hc) s.heap.objs.size p (Nat.ne_of_lt hplt) its.toArray,⟨⟨_,aay _ rfl,rfl,rfl⟩,pl.isList.push _⟩,?_,fun h' tk k=>?_⟩
 ·intro i v s' Q' E' hP h';obtain⟨rfl,_⟩:=hb i v hP;exact wpAny_truthy_bool h'
 ·have e:((List.range its.toArray.size).all fun i=>bs.getD i true)=bs.all id:=by
   rw[aaq,hl,Bool.eq_iff_iff,List.all_eq_true,List.all_eq_true];constructor
   ·intro z b hb';obtain⟨i,hi,e⟩:=List.mem_iff_getElem.mp hb';have:=z i (List.mem_range.mpr hi);rw[aat,aae hi] at this;rw[←e];exact this
   ·intro z i hi;have hi:=List.mem_range.mp hi;rw[aat,aae hi];exact z _ (List.getElem_mem hi)
  rw[e];refine⟨.bl _,H,I.kept (t':=tk) fun b o z=>?_,rfl,q⟩;exact k b o (by simp only[aaj];exact Nat.ne_of_lt (Heap.lt_size z)) (aaf _ z)
theorem preSum_eq(ns:List Int):∀n,n<=ns.length->preSum (fun i=>ns.getD i 0) n=(ns.take n).sum
 |0,_=>rfl
 |n+1,h=>by
  show preSum _ n+ns.getD n 0=_;rw[preSum_eq ns n (by omega),aap,List.sum_append,aat,aae (by omega)];simp
theorem uZ(hc:X.calm=true):dQ X (.builtin "sum") (fun xs H Q=>∃(p:Addr) (ns:List Int),xs=[.ref p]/\SqL X.K H p (ns.map V.int)/\Q (.int ns.sum) H):=by
 intro pins s σ H xs us Q I r h;obtain⟨p,ns,rfl,hq,q⟩:=h;obtain⟨u,rfl,rx⟩:=vals1 r;cases rx
 obtain⟨its,r',pl,hz⟩:=I.list hq;have hI:=intsAre_of r';have hplt:p<s.heap.objs.size:=by
  obtain⟨o,n,e,_⟩:=pl;exact Heap.lt_size e
 have hl:its.length=ns.length:=hI.length;refine call_sum_walkAnyS (wpAny_pyIter_list pl.isList ?_);refine⟨s.heap.objs.size,_,_,_,_,_,_,fun i=>ns.getD i 0,rfl,(Walks.list (show X.A.in1.handled=none from I.ok.hd hc) s.heap.objs.size p (Nat.ne_of_lt hplt) its.toArray).toS,⟨⟨_,aay _ rfl,rfl,rfl⟩,pl.isList.push _⟩,fun b hb=>?_,fun i v e=>IntsAre.int_at hI i v (by simpa using e),fun s' t' hm=>?_⟩
 ·simp only[List.mem_cons,List.not_mem_nil,or_false] at hb;show b<(s.heap.push _).objs.size;rw[Heap.size_push];rcases hb with rfl|rfl
  ·exact Nat.lt_succ_self _
  ·exact Nat.lt_succ_of_lt hplt
 ·have e:preSum (fun i=>ns.getD i 0) its.toArray.size=ns.sum:=by
   rw[aaq,hl,preSum_eq ns _ (Nat.le_refl _),aas]
  rw[e,SL.oo hm];refine⟨.int _,H,I.kept (t':=s'.toks) fun b o z=>?_,⟨_,rfl⟩,q⟩;exact hm.heap b o (by simp only[aaj];exact Nat.ne_of_lt (Heap.lt_size z)) (aaf _ z)
end
end L2
namespace L2
open PySem PySem.Spec PyProof.Rows
open SL (bh ap srt h9)
def Itd(o:Obj)(d:Addr)(kvs:List (Key×V)):It:=
 ⟨fun i H=>H d=some (.frz o (.dK kvs))/\i<kvs.length,fun i H x H'=>H'=H/\∃k v,kvs[i]? =some (k,v)/\x=kV k,fun i H=>H d=some (.frz o (.dK kvs))/\kvs.length<=i⟩
theorem xC{P:Program}{w:World}{k:Key}{u:Value}(h:(bI P w).is k u=true):RelV (kV k) u:=by
 rcases cj (k:=k) (v:=u) h with ⟨i,t,rfl,rfl⟩|⟨x,t,rfl,rfl⟩
 ·exact⟨t,rfl⟩
 ·exact⟨t,rfl⟩
theorem tF{P:Program}{w:World}{K:PySem.W.Frag}{tg:Expr}(d it:Addr)(o:Obj)(kvs:List (Key×V))(n ep:Nat)(hn:n=kvs.length)(hep:∃es,o.data=.dict es ep):Turn P w K tg (Itd o d kvs) [it] it (fun i h=>h.IsKeyIter it d i n ep) where
 mem:=by simp
 obj:=fun i h st b hb=>by
  have e:b=it:=by simpa using hb
  subst e;obtain⟨o',ho,hc,hd⟩:=st;exact⟨o',ho,fun v z=>by rw[hd] at z;cases z⟩
 keep:=fun i h h' st k=>by
  obtain⟨o',ho,r⟩:=st;exact⟨o',k it (by simp) o' ho,r⟩
 item:=by
  intro X hP hw hK hc i pins s σ H E I f st go;subst hP;subst hw;subst hK;obtain⟨e,hi⟩:=go;obtain⟨ho,ob⟩:=I.hok d _ e;obtain⟨z,hsm,vs,rel,o2,es2,ep2,h1,h2,h3,h4,h5,h6⟩:=ob;rw[ho] at h1;cases h1;obtain⟨es,hes⟩:=hep;rw[hes] at h3;injection h3 with h3 h3';subst h3';have hvl:vs.length=n:=by rw[hn,←rel.length]
  have hat:s.heap.DictAt (bI X.prog X.w) d vs ep:=⟨o,es2,ho,h2,by rw[hes,h3],h4,h5,h6⟩;subst hvl;obtain⟨kv,hkv⟩:∃kv,kvs[i]? =some kv:=⟨kvs[i],aae hi⟩;have hvi:∃u,vs[i]? =some (kv.1,u):=by
   have hk:=congrArg (fun l=>l[i]?) rel.keys;simp only[aax,hkv] at hk;cases q:vs[i]? with
   |none=>rw[q] at hk;cases hk
   |some p=>
    rw[q] at hk;have hk:some kv.1=some p.1:=hk;injection hk with hk;exact⟨p.2,by rw[hk]⟩
  obtain⟨u,hu⟩:=hvi;have hf:=f it (by simp);refine wpAny_pyNext_dict_item st hat hu fun key h' hkey st' hs=>?_
  obtain⟨oi,hoi,hci,hdi⟩:=id st';refine⟨key,rfl,qA (n:="dict_keyiterator") hoi hci hdi (by decide) ?_⟩;exact⟨kV kv.1,H,I.turned (t':=s.toks) (fun b o hb e=>hs.extBut b o hb e) hf.1 hf.2.1 hf.2.2.2.1 hf.2.2.2.2.1 hf.2.2.2.2.2,xC hkey,⟨rfl,kv.1,kv.2,hkv,rfl⟩,st',fun b hb=>by
   have e:b=it:=by simpa using hb
   subst e;exact hf.1⟩
 done:=by
  intro X hP hw hK hc i pins s σ H E I f st stop;subst hP;subst hw;subst hK;obtain⟨e,hi⟩:=stop;obtain⟨ho,ob⟩:=I.hok d _ e;obtain⟨z,hsm,vs,rel,o2,es2,ep2,h1,h2,h3,h4,h5,h6⟩:=ob;rw[ho] at h1;cases h1;obtain⟨es,hes⟩:=hep;rw[hes] at h3;injection h3 with h3 h3';subst h3';have hvl:vs.length=n:=by rw[hn,←rel.length]
  have hat:s.heap.DictAt (bI X.prog X.w) d vs ep:=⟨o,es2,ho,h2,by rw[hes,h3],h4,h5,h6⟩;subst hvl;have hf:=f it (by simp);refine wpAny_pyNext_dict_end (I.ok.hd hc) st hat (List.getElem?_eq_none (by rw[←rel.length];exact hi)) fun h' hs=>?_
  exact⟨rfl,I.turned (t':=s.toks) (fun b o hb e=>hs b o hb e) hf.1 hf.2.1 hf.2.2.2.1 hf.2.2.2.2.1 hf.2.2.2.2.2⟩
 self:=fun A i s Q E st h=>wpAny_pyIter_keyiter st h
def zR(tl:TE):TI:=fun σ H R=>tl σ H fun x H1=>∃d kvs,x=.ref d/\H1 d=some (.dK kvs)/\∀o,R (Itd o d kvs) (upd H1 d (.frz o (.dK kvs)))
section
variable {X:Cx}{tg:Expr}
theorem Inv.freeze{pins:List (Addr×Obj)}{σ:St}{H:Hp}{s:Shared}{d:Addr}{kvs:List (Key×V)}{o:Obj}(I:Inv X pins σ H s)(e:H d=some (.dK kvs))(ho:s.heap.get? d=some o):Inv X pins σ (upd H d (.frz o (.dK kvs))) s:=by
 have mu:Mut (H d):=by rw[e];trivial
 have hok:HOk X.prog X.w (upd H d (.frz o (.dK kvs))) s.heap:=I.hok.write mu (.inl rfl) (fun _ _ _ q=>q) ⟨o,ho⟩ ⟨ho,(I.hok d _ e).eK (fun _ _ _ q=>q) (fun b q=>by
   rw[aj (fun z=>by rw[z,e] at q;cases q)];exact q) fun b xs q=>by rw[aj (fun z=>by rw[z,e] at q;cases q)];exact q⟩
 have:=I.un (t':=s.toks) (h':=s.heap) (H':=upd H d (.frz o (.dK kvs))) (Un.write mu (.inl rfl) (fun _ _ _ q=>q) ⟨o,ho⟩) hok;exact this
theorem xD{l:Expr}{tl:TE}(hl:PE X l tl):PI X tg l (zR tl):=by
 intro pins s σ H R I h;refine thn (hl pins s σ H _ I h) fun v s1 ⟨x,H1,I1,r1,q1⟩=>?_
 obtain⟨d,kvs,rfl,hd,q⟩:=q1;cases r1
 obtain⟨z,hsm,vs,rel,dd⟩:=mZ I1.hok hd;obtain⟨ep,hat⟩:=dd.dictAt;obtain⟨o,es,ho,h2,h3,h4⟩:=id hat;refine wpAny_pyIter_dict hsm hat ?_;have I2:=I1.freeze hd ho;have I3:Inv X pins σ (upd H1 d (.frz o (.dK kvs))) {s1 with heap:=s1.heap.push {cls:=.type "dict_keyiterator",data:=.fields #[.ref d,.int 0 0,.int vs.length 0,.int ep 0]}}:=I2.kept (t':=s1.toks) fun b o e=>aaf _ e
 refine⟨s1.heap.objs.size,[s1.heap.objs.size],_,Itd o d kvs,_,rfl,I3,tF d s1.heap.objs.size o kvs vs.length ep rel.length.symm ⟨es,h3⟩,⟨_,aay _ rfl,rfl,rfl⟩,fun b hb=>?_,q o⟩;have e:b=s1.heap.objs.size:=by simpa using hb
 subst e;exact I2.g8 (Nat.le_refl _) I2.fresh
theorem va{o:Obj}{d:Addr}{kvs:List (Key×V)}{g:TG}{tb:TS}{D:Ends}{σ:St}{H:Hp}(Pv:Nat->St->Hp->Prop)(h0:Pv 0 σ H)(hl:∀i σ H,Pv i σ H->H d=some (.frz o (.dK kvs)))
  (hs:∀i k v σ H,kvs[i]? =some (k,v)->Pv i σ H->g (kV k) σ H fun σ2 H2=>tb {D with nx:=Pv (i+1),ct:=Pv (i+1),bk:=D.nx} σ2 H2)(hd:∀σ H,Pv kvs.length σ H->D.nx σ H) :
  ∃W:Nat->Nat->St->Hp->Prop,(∃m,W 0 m σ H)/\∀i m σ H,W i m σ H->
   ((Itd o d kvs).stop i H/\D.nx σ H)\/((Itd o d kvs).go i H/\∃N:St->Hp->Prop,(∀σ' H',N σ' H'->∃m',m'<m/\W (i+1) m' σ' H')/\∀x H',(Itd o d kvs).yld i H x H'->g x σ H' fun σ2 H2=>tb {D with nx:=N,ct:=N,bk:=D.nx} σ2 H2):=by
 refine⟨fun i m σ H=>Pv i σ H/\i<=kvs.length/\m=kvs.length - i,⟨_,h0,Nat.zero_le _,rfl⟩,fun i m σ H ⟨p,hi,hm⟩=>?_⟩;rcases Nat.lt_or_ge i kvs.length with hlt|hge
 ·refine .inr ⟨⟨hl i σ H p,hlt⟩,Pv (i+1),fun σ' H' n=>⟨kvs.length - (i+1),by omega,n,hlt,rfl⟩,fun x H' y=>?_⟩;obtain⟨rfl,k,v,e,rfl⟩:=y;exact hs i k v σ _ e p
 ·have e:i=kvs.length:=by omega
  subst e;exact .inl ⟨⟨hl _ σ H p,Nat.le_refl _⟩,hd σ H p⟩
end
end L2
namespace L2
open PySem PySem.Spec PyProof.Rows
open SL (bh ap srt h9)
section
variable {X:Cx}
theorem a0:dQ X (.builtin "isinstance") (fun xs H Q=>∃x c t b,xs=[x,.ty c]/\cx X.K H x t/\PySem.W.kitOne X.K t (.type c)=some b/\Q (.bl b) H):=by
 intro pins s σ H xs us Q I r h;obtain⟨x,c,t,b,rfl,ty,e,q⟩:=h;obtain⟨u,w',rfl,rx,ry⟩:=vals2 r;cases ry
 exact sM I rx ty e fun tk=>⟨.bl b,H,I.tok tk,rfl,q⟩
theorem tG:dQ X (.builtin "isinstance") (fun xs H Q=>∃(x:V) (tp:Addr) (cs:List String) (t:Value) (b:Bool),xs=[x,.ref tp]/\H tp=some (.tup (cs.map V.ty))/\cx X.K H x t/\PySem.W.kitAny X.K t (cs.map Value.type)=some b/\Q (.bl b) H):=by
 intro pins s σ H xs us Q I r h;obtain⟨x,tp,cs,t,b,rfl,htp,ty,e,q⟩:=h;obtain⟨u,w',rfl,rx,ry⟩:=vals2 r;cases ry
 obtain⟨_,its,rv,⟨o,ho,hoc,n,hod⟩⟩:=I.hok tp _ htp;have ei:its=cs.map Value.type:=by
  clear e htp ho hod;have:∀(cs:List String) (its:List Value),Vals (cs.map V.ty) its->its=cs.map Value.type:=by
   intro cs
   induction cs with
   |nil=>intro its h;cases h;rfl
   |cons c r ih=>
    intro its h;cases h with
    |cons h1 h2=>
     have h1:_=Value.type c:=h1;rw[h1,ih _ h2];rfl
  exact this cs its rv
 obtain⟨oc,od,odt,osl⟩:=o;simp only at hoc hod;subst hoc;subst hod;rw[ei] at ho;have fin:∀tk,EP X pins σ Q (.bool b) {s with toks:=tk}:=fun tk=>⟨.bl b,H,I.tok tk,rfl,q⟩
 cases ty with
 |non=>cases (show u=Value.none from rx);exact PySem.W.kia_tup PySem.W.kitx_none I.kIn True.intro ho e (fun z=>nomatch z) fin
 |bl y=>cases (show u=Value.bool y from rx);exact PySem.W.kia_tup PySem.W.kitx_bool I.kIn True.intro ho e (fun z=>nomatch z) fin
 |int i=>obtain⟨t,q⟩:=(show ∃t,u=Value.int i t from rx);cases q;exact PySem.W.kia_tup PySem.W.kitx_int I.kIn True.intro ho e (fun z=>nomatch z) fin
 |str y=>obtain⟨t,q⟩:=(show ∃t,u=Value.str y t from rx);cases q;exact PySem.W.kia_tup PySem.W.kitx_str I.kIn True.intro ho e (fun z=>nomatch z) fin
 |flt y=>obtain⟨t,q⟩:=(show ∃t,u=Value.float y t from rx);cases q;exact PySem.W.kia_tup PySem.W.kitx_float I.kIn True.intro ho e (fun z=>nomatch z) fin
 |@lst a xs ea=>
  cases (show u=Value.ref a from rx)
  obtain⟨_,_,n,_,h1⟩:=(show bi X.prog X.w H s.heap a (.lst xs) from I.hok a _ ea);exact PySem.W.kia_tup PySem.W.kitx_list I.kIn ⟨_,h1,rfl⟩ ho e (fun z=>nomatch z) fin
 |@frz a ob xs ea=>
  cases (show u=Value.ref a from rx)
  obtain⟨_,_,_,n,_,h1⟩:=(show bi X.prog X.w H s.heap a (.frz ob (.lst xs)) from I.hok a _ ea);exact PySem.W.kia_tup PySem.W.kitx_list I.kIn ⟨_,h1,rfl⟩ ho e (fun z=>nomatch z) fin
 |@tup a xs ea=>
  cases (show u=Value.ref a from rx)
  obtain⟨_,_,_,p⟩:=(show bi X.prog X.w H s.heap a (.tup xs) from I.hok a _ ea);obtain⟨o,h1,h2,_⟩:=p;exact PySem.W.kia_tup PySem.W.kitx_tuple I.kIn ⟨o,h1,h2⟩ ho e (fun z=>nomatch z) fin
 |@dK a kvs ea=>
  cases (show u=Value.ref a from rx)
  obtain⟨_,_,vs,_,p⟩:=(show bi X.prog X.w H s.heap a (.dK kvs) from I.hok a _ ea);obtain⟨o,es,ep,h1,h2,_⟩:=p;exact PySem.W.kia_tup PySem.W.kitx_dict I.kIn ⟨o,h1,h2.1⟩ ho e (fun z=>nomatch z) fin
 |@dT a kvs ea=>
  cases (show u=Value.ref a from rx)
  obtain⟨_,_,xs,_,o,es,ep,h1,h2,_⟩:=(show bi X.prog X.w H s.heap a (.dT kvs) from I.hok a _ ea);exact PySem.W.kia_tup PySem.W.kitx_dict I.kIn ⟨o,h1,h2.1⟩ ho e (fun z=>nomatch z) fin
 |@ins a C dx fs ea cl ha hn htk hm=>
  cases (show u=Value.ref a from rx)
  obtain⟨mA,O,_⟩:=pZ I.hok ea;obtain⟨od,J,_⟩:=O.look;exact PySem.W.kia_tup (PySem.W.kitx_own (cl.get _) cl.hd ha hn htk hm) I.kIn J ho e (fun z=>nomatch z) fin
end
end L2
namespace L2
open PySem PySem.Spec PyProof.Rows
open SL (bh ap srt h9)
section
variable {X:Cx}
theorem j7(hu:X.A.units<cLine):OpR X (compareOp .NotEq) (fun x y H Q=>∃a b xs,x=.ref a/\y=.ref b/\SqL X.K H a xs/\SqL X.K H b []/\Q (.bl (!xs.isEmpty)) H):=by
 intro pins s σ H x y v u Q I rx ry h;obtain⟨a,b,xs,rfl,rfl,h1,h2,q⟩:=h;cases rx
 cases ry
 obtain⟨its,r,pl,hz⟩:=I.list h1;obtain⟨its2,r2,pl2,hz2⟩:=I.list h2;cases r2
 have hl:=r.length;cases xs with
 |nil=>
  cases r
  refine SeqAt.RcNeAt.lists (e:=fun _=>true) pl.isList pl2.isList rfl hu (fun j h1 h2=>absurd h1 (by simp)) X.prog X.w _ _ ?_;exact⟨.bl false,H,I,rfl,q⟩
 |cons x xr=>
  refine SeqAt.RcNeAt.lists_lengths pl.isList pl2.isList ?_ hu X.prog X.w _ _ ?_
  ·simp only[aaq];rw[←hl];simp
  ·exact⟨.bl true,H,I,rfl,q⟩
end
abbrev Row:=Str×List Str
def aA(H:Hp)(a:Addr)(ss:List Str):Prop:=H a=some (.lst (ss.map V.str))
def df(H:Hp)(v:V)(p:Row):Prop:=∃t b,v=.ref t/\H t=some (.tup [.str p.1,.ref b])/\aA H b p.2
def bt(H:Hp)(a:Addr)(R:List Row):Prop:=∃vs,H a=some (.lst vs)/\Paired (df H) vs R
theorem aA.mono{H H':Hp}(e:ab H H'){a:Addr}{ss:List Str}(h:aA H a ss):aA H' a ss:=e _ _ h
theorem df.mono{H H':Hp}(e:ab H H'){v:V}{p:Row}(h:df H v p):df H' v p:=by
 obtain⟨t,b,h1,h2,h3⟩:=h;exact⟨t,b,h1,e _ _ h2,h3.mono e⟩
theorem bt.mono{H H':Hp}(e:ab H H'){a:Addr}{R:List Row}(h:bt H a R):bt H' a R:=by
 obtain⟨vs,h1,h2⟩:=h;exact⟨vs,e _ _ h1,Paired.bT h2 fun _ _ q=>q.mono e⟩
theorem aW{α β:Type}{F:α->β->Prop}:∀{l₁:List α} {l₂:List β},Paired F l₁ l₂->∀(i:Nat) (x:α),l₁[i]? =some x->∃y,l₂[i]? =some y/\F x y
 |_,_,.nil,i,x,e=>by simp at e
 |_,_,.cons h _,0,x,e=>by simp at e;subst e;exact⟨_,rfl,h⟩
 |_,_,.cons _ t,i+1,x,e=>by
  obtain⟨y,h1,h2⟩:=aW t i x (by simpa using e);exact⟨y,by simpa using h1,h2⟩
theorem cm{α β:Type}{F:α->β->Prop}:∀{l₁:List α} {l₂:List β},Paired F l₁ l₂->∀{x:α} {y:β},F x y->Paired F (l₁++[x]) (l₂++[y])
 |_,_,.nil,x,y,h=>.cons h .nil
 |_,_,.cons h t,x,y,h'=>.cons h (cm t h')
theorem ab.upd{H:Hp}{a:Addr}{o:HO}(h:H a=none):ab H (upd H a o):=fun b u e=>by rw[aj (aP e h)];exact e
theorem ab.bK{H H1:Hp}{a:Addr}{o:HO}(e:ab H H1)(h:H a=none):ab H (L2.upd H1 a o):=fun b u q=>by rw[aj (aP q h)];exact e b u q
section
variable {A:Around}{s:Shared}{P:Program}{w:World}{H:Hp}
theorem tH(A:Around)(s:Shared):∀{ss rs:List Str} {us vs:List Value},Vals (ss.map V.str) us->Vals (rs.map V.str) vs->∀(j:Nat) (h1:j<us.toArray.size) (h2:j<vs.toArray.size),SeqAt.EqAt A s us.toArray[j] vs.toArray[j] (decide (ss[j]? =rs[j]?)):=by
 intro ss rs us vs r1 r2 j h1 h2;have e1:us[j]? =some us.toArray[j]:=by rw[←List.getElem?_toArray,Array.getElem?_eq_getElem h1]
 have e2:vs[j]? =some vs.toArray[j]:=by rw[←List.getElem?_toArray,Array.getElem?_eq_getElem h2]
 have l1:=r1.length;have l2:=r2.length;rw[aaa] at l1 l2;have hj1:j<ss.length:=by rw[l1];simpa using h1
 have hj2:j<rs.length:=by rw[l2];simpa using h2
 obtain⟨u,hu,ru⟩:=Vals.get r1 (i:=j) (x:=.str ss[j]) (by rw[aax,aae hj1];rfl);obtain⟨v,hv,rv⟩:=Vals.get r2 (i:=j) (x:=.str rs[j]) (by rw[aax,aae hj2];rfl);rw[e1] at hu;cases hu;rw[e2] at hv;cases hv;have:=nM (A:=A) (s:=s) ru rv rfl rfl;have e:decide (ss[j]? =rs[j]?)=eqV (.str ss[j]) (.str rs[j]):=by
  rw[aae hj1,aae hj2];show _=(ss[j] == rs[j])
  by_cases z:ss[j]=rs[j]
  ·rw[z];simp
  ·rw[aai (fun q=>z (Option.some.inj q))];exact(beq_eq_false_iff_ne.mpr z).symm
 rw[e];exact this
theorem qR{ss rs:List Str}(hl:ss.length=rs.length):((List.range ss.length).all fun j=>decide (ss[j]? =rs[j]?))=decide (ss=rs):=by
 rw[Bool.eq_iff_iff,List.all_eq_true,decide_eq_true_eq];constructor
 ·intro h;apply List.ext_getElem?;intro j;rcases Nat.lt_or_ge j ss.length with z|z
  ·exact of_decide_eq_true (h j (List.mem_range.mpr z))
  ·rw[List.getElem?_eq_none z,List.getElem?_eq_none (by omega)]
 ·intro h j _;rw[h];simp
theorem vb{t t' b b':Addr}{l l':Str}{r r':List Str}(ok:HOk P w H s.heap)(hu1:A.units<cLine)(hu2:A.in1.units<cLine)(h1:H t=some (.tup [.str l,.ref b]))(h2:aA H b r)(h1':H t'=some (.tup [.str l',.ref b']))(h2':aA H b' r')(ht:t≠t')(hb:b≠b') :
  SeqAt.EqAt A s (.ref t) (.ref t') (decide ((l,r)=(l',r'))):=by
 obtain⟨_,its,rv,tp⟩:=ok t _ h1;obtain⟨_,its',rv',tp'⟩:=ok t' _ h1';obtain⟨_,us,n,ru,eu⟩:=ok b _ h2;obtain⟨_,us',n',ru',eu'⟩:=ok b' _ h2';obtain⟨x1,x2,rfl,rx1,rx2⟩:∃x1 x2,its=[x1,x2]/\RelV (.str l) x1/\RelV (.ref b) x2:=Vals.two rv;obtain⟨y1,y2,rfl,ry1,ry2⟩:∃x1 x2,its'=[x1,x2]/\RelV (.str l') x1/\RelV (.ref b') x2:=Vals.two rv';cases rx2
 cases ry2
 have l1:us.length=r.length:=by have:=ru.length;rw[aaa] at this;exact this.symm
 have l2:us'.length=r'.length:=by have:=ru'.length;rw[aaa] at this;exact this.symm
 have il:s.heap.IsList b us.toArray:=⟨_,eu,rfl,n,rfl⟩;have il':s.heap.IsList b' us'.toArray:=⟨_,eu',rfl,n',rfl⟩;have eL:SeqAt.EqAt A.in1 s (.ref b) (.ref b') (decide (r=r')):=by
  refine SeqAt.EqAt.of_refs hb ?_
  by_cases hl:r.length=r'.length
  ·have:=SeqAt.RcAt.lists (A:=A.in1) (e:=fun j=>decide (r[j]? =r'[j]?)) il il' (by simp[l1,l2,hl]) hu2 (fun j h1 h2=>tH _ _ ru ru' j h1 h2);rw[aaq,l1,qR hl] at this;exact this
  ·have e:decide (r=r')=false:=aai fun z=>hl (by rw[z])
   rw[e];exact SeqAt.RcAt.lists_lengths (A:=A.in1) il il' (by simp[l1,l2,hl]) hu2
 have eS:SeqAt.EqAt A.in1 s x1 y1 (decide (l=l')):=by
  have:=nM (A:=A.in1) (s:=s) rx1 ry1 rfl rfl;have e:eqV (.str l) (.str l')=decide (l=l'):=by
   show(l == l')=_
   by_cases z:l=l'
   ·rw[z];simp
   ·rw[aai z];exact beq_eq_false_iff_ne.mpr z
  rw[e] at this;exact this
 refine SeqAt.EqAt.of_refs ht ?_;have:=SeqAt.RcAt.tuples (A:=A) (e:=fun j=>if j=0 then decide (l=l') else decide (r=r')) tp tp' hu1 (fun j h1 h2=>by
  have hj:j<2:=h1;rcases j with _|_|j
  ·exact eS
  ·exact eL
  ·omega)
 have e2:((List.range (min ([x1,Value.ref b]:List Value).toArray.size ([y1,Value.ref b']:List Value).toArray.size)).all (fun j=>if j=0 then decide (l=l') else decide (r=r')) && ([x1,Value.ref b]:List Value).toArray.size == ([y1,Value.ref b']:List Value).toArray.size)=decide ((l,r)=(l',r')):=by
  show((decide (l=l') && (decide (r=r') && true)) && true)=_
  by_cases z1:l=l'
  ·by_cases z2:r=r'
   ·subst z1;subst z2;simp
   ·simp[z1,z2]
  ·simp[z1]
 rw[e2] at this;exact this
end
def iL(H:Hp)(p:Row):Value->Bool
 |.ref t=>match H t with
  |some (.tup [.str l,.ref b])=>match H b with
   |some (.lst xs)=>decide (l=p.1/\xs=p.2.map V.str)
   |_=>false
  |_=>false
 |_=>false
theorem pR{a b:List Str}(h:a.map V.str=b.map V.str):a=b:=by
 induction a generalizing b with
 |nil=>cases b with | nil=>rfl | cons _ _=>cases h
 |cons x r ih=>cases b with
  |nil=>cases h
  |cons y q=>
   rw[aaw,aaw] at h;injection h with h1 h2;injection h1 with h1;rw[h1,ih h2]
theorem vc{H:Hp}{p p':Row}{t b:Addr}(h1:H t=some (.tup [.str p'.1,.ref b]))(h2:aA H b p'.2):iL H p (.ref t)=decide (p'=p):=by
 have h2:H b=some (.lst (p'.2.map V.str)):=h2;unfold iL;dsimp only;rw[h1];dsimp only;rw[h2];dsimp only
 by_cases z:p'=p
 ·subst z;simp
 ·rw[aai z,aai];rintro⟨e1,e2⟩;exact z (Prod.ext e1 (pR e2))
section
variable {X:Cx}
theorem oz(hu1:X.A.in1.units<cLine)(hu2:X.A.in1.in1.units<cLine):OpR X (compareOp .NotIn) (fun x y H Q=>∃(t b a:Addr) (p:Row) (R:List Row),x=.ref t/\y=.ref a/\H t=some (.tup [.str p.1,.ref b])/\aA H b p.2/\
  (∃vs,H a=some (.lst vs)/\Paired (df H) vs R/\∀v∈vs,∀t' b' l',v=.ref t'->H t'=some (.tup [.str l',.ref b'])->t'≠t/\b'≠b)/\Q (.bl (!decide (p∈R))) H):=by
 intro pins s σ H x y v u Q I rx ry h;obtain⟨t,b,a,p,R,rfl,rfl,h1,h2,⟨vs,h3,h4,h5⟩,q⟩:=h;cases rx
 cases ry
 obtain⟨_,its,n,rv,e⟩:=I.hok a _ h3;have il:s.heap.IsList a its.toArray:=⟨_,e,rfl,n,rfl⟩;have key:∀{vs:List V} {its:List Value} {R:List Row},Vals vs its->Paired (df H) vs R->(∀v∈vs,∀t' b' l',v=.ref t'->H t'=some (.tup [.str l',.ref b'])->t'≠t/\b'≠b)->
   (∀z∈its,SeqAt.EqAt X.A.in1 s z (.ref t) (iL H p z))/\its.any (iL H p)=decide (p∈R):=by
  intro vs its R rv
  induction rv generalizing R with
  |nil=>intro h4 _;cases h4;exact⟨fun z hz=>(by cases hz),by simp⟩
  |@cons v u vr ur hvu _ ih=>
   intro h4 h5;cases h4 with
   |@cons _ p' _ Rr hp hrest=>
    obtain⟨hf,ha⟩:=ih hrest fun v hv=>h5 v (aad _ hv)
    obtain⟨t',b',rfl,g1,g2⟩:=hp;cases hvu
    obtain⟨nt,nb⟩:=h5 _ (aac ..) t' b' p'.1 rfl g1;have ee:=vb (A:=X.A.in1) I.hok hu1 hu2 g1 g2 h1 h2 nt nb;have er:=vc (p:=p) g1 g2;refine⟨fun z hz=>?_,?_⟩
    ·rcases List.mem_cons.mp hz with e|hz
     ·subst e;rw[er];exact ee
     ·exact hf z hz
    ·rw[List.any_cons,er,ha,Bool.eq_iff_iff,Bool.or_eq_true,decide_eq_true_eq,decide_eq_true_eq,decide_eq_true_eq,List.mem_cons];exact⟨fun z=>z.imp Eq.symm id,fun z=>z.imp Eq.symm id⟩
 obtain⟨hf,ha⟩:=key rv h4 h5;refine SeqAt.notIn_listAt (iL H p) il (fun z hz=>hf z (by simpa using hz)) ⟨.bl _,H,I,rfl,?_⟩;rw[show its.toArray.any (iL H p)=its.any (iL H p) by simp,ha];exact q
end
end L2
namespace L2
open PySem PySem.Spec PyProof.Rows
theorem lookup_mem{α β:Type}[BEq α][LawfulBEq α]:∀{l:List (α×β)} {a:α} {b:β},l.lookup a=some b->(a,b)∈l
 |[],_,_,h=>by cases h
 |(x,y)::r,a,b,h=>by
  rw[List.lookup_cons] at h;cases e:a == x with
  |true=>
   rw[e] at h;have h:some y=some b:=h;injection h with h;rw[eq_of_beq e,h];exact aac ..
  |false=>
   rw[e] at h;exact aad _ (lookup_mem h)
theorem bq.plain{X:Cx}{scope:Scope}{N:List Str}(hall:scope.names.all (fun y=>y.2 == .local)=true)(hk:scope.kind=.function)(hl:∀y∈scope.names,y.2=.local->scope.names.lookup y.1=some .local):bq X scope [] N (List.replicate N.length none) where
 clos:=closureFor_none fun y hy=>by
  have:=List.all_eq_true.mp hall y hy;intro z;rw[z] at this;exact absurd this (by decide)
 nocell:=fun y hy z=>by
  have:=List.all_eq_true.mp hall y hy;rw[z] at this;exact absurd this (by decide)
 kind:=hk
 locs:=hl
 cells:=fun x c h=>by cases h
 has:=fun x ⟨v,n⟩=>by
  exfalso;have e:(relabel scope X.env).names=scope.names:=map_eq_self fun y hy=>by
   obtain⟨a,k⟩:=y;have h:(k == NameKind.local)=true:=List.all_eq_true.mp hall (a,k) hy;have h:k=.local:=eq_of_beq h;subst h;rfl
  have key:∀kd:NameKind,(relabel scope X.env).names.lookup x=some kd->kd=.local:=fun kd h=>by
   rw[e] at h;have:=List.all_eq_true.mp hall _ (lookup_mem h);exact eq_of_beq this
  rcases v with z|z|z
  ·exact n z
  ·cases key _ z
  ·cases key _ z
 len:=by simp
 names:=fun j i h=>by
  rw[List.getElem?_replicate] at h;split at h <;> cases h
section
variable {sel:List (Option Nat)}{g:TG}{tc:TT}{te:TE}{σ:St}{H:Hp}{Q:VK}
theorem gK{K:PySem.W.Frag}{a D:Addr}{xs:List V}(Pv:Nat->St->Hp->Prop)(h0:Pv 0 (gb sel σ) (upd H D (.lst [])))
  (hl:∀i τ H1,Pv i τ H1->SqL K H1 a xs)
  (hs:∀i x τ H1,xs[i]? =some x->Pv i τ H1->g x τ H1 fun τ2 H4=>tc τ2 H4 fun b H5=>if b=true then te τ2 H5 fun y H6=>∃ys,H6 D=some (.lst ys)/\ys.length<sizeLine/\Pv (i+1) τ2 (upd H6 D (.lst (ys++[y]))) else Pv (i+1) τ2 H5)
  (hd:∀τ H1,Pv xs.length τ H1->Q (.ref D) H1) :
  m8 sel (Itl K a) D g tc te σ H Q:=by
 refine⟨fun i m τ H1=>Pv i τ H1/\i<=xs.length/\m=xs.length - i,⟨_,h0,Nat.zero_le _,rfl⟩,?_⟩;rintro i m τ H2 ⟨p,hi,hm⟩;have sq:=hl i τ H2 p;rcases Nat.lt_or_ge i xs.length with hlt|hge
 ·refine .inr ⟨⟨xs,xs[i],sq,aae hlt⟩,Pv (i+1),fun τ' H' n=>⟨xs.length - (i+1),by omega,n,hlt,rfl⟩,?_⟩;rintro x H3 ⟨rfl,hx⟩;exact hs i x τ _ (hx xs sq) p
 ·have e:i=xs.length:=by omega
  subst e;exact .inl ⟨⟨xs,sq,Nat.le_refl _⟩,hd τ H2 p⟩
theorem cO{K:PySem.W.Frag}{a D:Addr}{xs:List V}{n:Nat}(Pv:Nat->St->Hp->Prop)(h0:Pv 0 (gb sel σ) (upd H D (.lst [])))
  (hl:∀i τ H1,Pv i τ H1->SqL K H1 a xs)
  (hs:∀i x τ H1,xs[i]? =some x->Pv i τ H1->te (τ.set n (some x)) H1 fun y H6=>∃ys,H6 D=some (.lst ys)/\ys.length<sizeLine/\Pv (i+1) (τ.set n (some x)) (upd H6 D (.lst (ys++[y]))))
  (hd:∀τ H1,Pv xs.length τ H1->Q (.ref D) H1):m8 sel (Itl K a) D (jv n) m7 te σ H Q:=
 gK Pv h0 hl (fun i x τ H1 e p=>bF (B:=Pv (i+1) (τ.set n (some x)) H1) (hs i x τ H1 e p)) hd
theorem qS{K:PySem.W.Frag}{a D:Addr}{xs:List V}{n:Nat}(Pv:Nat->St->Hp->Prop)(h0:Pv 0 (gb sel σ) (upd H D (.lst [])))
  (hl:∀i τ H1,Pv i τ H1->SqL K H1 a xs)
  (hs:∀i x τ H1,xs[i]? =some x->Pv i τ H1->tc (τ.set n (some x)) H1 fun b H5=>if b=true then te (τ.set n (some x)) H5 fun y H6=>∃ys,H6 D=some (.lst ys)/\ys.length<sizeLine/\Pv (i+1) (τ.set n (some x)) (upd H6 D (.lst (ys++[y]))) else Pv (i+1) (τ.set n (some x)) H5)
  (hd:∀τ H1,Pv xs.length τ H1->Q (.ref D) H1):m8 sel (Itl K a) D (jv n) tc te σ H Q:=
 gK Pv h0 hl hs hd
end
end L2
namespace Gram
variable {α:Type}[DecidableEq α]
inductive Made(R:List (α×List α))(W:α->Prop):α->Prop
 |mk {l:α} {r:List α}:(l,r)∈R->(∀s,s∈r->¬W s->Made R W s)->Made R W l
theorem lJ{R:List (α×List α)}{W:α->Prop}{ks:List α}(closed:∀l r,(l,r)∈R->(∀s,s∈r->W s\/s∈ks)->l∈ks):∀{x:α},Made R W x->x∈ks:=by
 intro x h
 induction h with
 |mk hm _ ih=>
  refine closed _ _ hm fun s hs=>?_
  by_cases w:W s
  ·exact .inl w
  ·exact .inr (ih s hs w)
theorem tI{R:List (α×List α)}{W:α->Prop}{ks:List α}(sound:∀x,x∈ks->Made R W x){l:α}{r:List α}(hm:(l,r)∈R)(h:∀s,s∈r->W s\/s∈ks):Made R W l:=
 .mk hm fun s hs nw=>sound s ((h s hs).resolve_left nw)
theorem Made.left{R:List (α×List α)}{W:α->Prop}{x:α}(h:Made R W x):x∈R.map (·.1):=by
 cases h with
 |mk hm _=>exact aao.mpr ⟨_,hm,rfl⟩
theorem Made.mono{R:List (α×List α)}{W W':α->Prop}(hw:∀x,W x->W' x){x:α}(h:Made R W x):Made R W' x:=by
 induction h with
 |mk hm _ ih=>exact .mk hm fun s hs nw=>ih s hs fun z=>nw (hw s z)
inductive Reach(f:α->List α)(a:α):α->Prop
 |refl:Reach f a a
 |step {b c:α}:Reach f a b->c∈f b->Reach f a c
theorem Reach.head{f:α->List α}{a c b:α}(hc:c∈f a)(h:Reach f c b):Reach f a b:=by
 induction h with
 |refl=>exact .step .refl hc
 |step _ hd ih=>exact .step ih hd
theorem gM{f:α->List α}{a:α}{ks:List α}(h0:a∈ks)(closed:∀x,x∈ks->∀y,y∈f x->y∈ks){b:α}(h:Reach f a b):b∈ks:=by
 induction h with
 |refl=>exact h0
 |step _ hc ih=>exact closed _ ih _ hc
theorem Reach.congr{f g:α->List α}(e:∀x y,y∈f x->y∈g x){a b:α}(h:Reach f a b):Reach g a b:=by
 induction h with
 |refl=>exact .refl
 |step _ hc ih=>exact .step ih (e _ _ hc)
def lead(E:List α):List α->List α
 |[]=>[]
 |s::r=>s::(if s∈E then lead E r else [])
theorem iM(E:List α):∀(r:List α) (x:α),x∈lead E r->x∈r
 |[],x,h=>h
 |s::r,x,h=>by
  unfold lead at h;rcases List.mem_cons.mp h with e|h
  ·exact List.mem_cons.mpr (.inl e)
  ·split at h
   ·exact List.mem_cons.mpr (.inr (iM E r x h))
   ·cases h
theorem ge{E E':List α}(h:∀x,x∈E↔x∈E'):∀r:List α,lead E r=lead E' r
 |[]=>rfl
 |s::r=>by
  unfold lead;rw[ge h r]
  by_cases z:s∈E
  ·rw[if_pos z,if_pos ((h s).mp z)]
  ·rw[if_neg z,if_neg fun y=>z ((h s).mpr y)]
theorem gA(E:List α):∀r:List α,(lead E r).length<=r.length
 |[]=>Nat.le_refl _
 |s::r=>by
  unfold lead;have:=gA E r;split
  ·simp;omega
  ·simp
def sorts(R:List (α×List α)):List α:=R.map (·.1)
inductive Beg(R:List (α×List α))(E:List α):α->α->Prop
 |word {l w:α} {r:List α}:(l,r)∈R->w∈lead E r->¬w∈sorts R->Beg R E l w
 |sort {l b w:α} {r:List α}:(l,r)∈R->b∈lead E r->b∈sorts R->Beg R E b w->Beg R E l w
def own(R:List (α×List α))(E:List α)(l:α):List α:=R.flatMap fun p=>if p.1=l then (lead E p.2).filter (fun s=>¬s∈sorts R) else []
def links(R:List (α×List α))(E:List α)(l:α):List α:=R.flatMap fun p=>if p.1=l then (lead E p.2).filter (fun s=>s∈sorts R) else []
theorem jB{R:List (α×List α)}{E:List α}{l w:α}:w∈own R E l↔∃r,(l,r)∈R/\w∈lead E r/\¬w∈sorts R:=by
 unfold own;rw[List.mem_flatMap];constructor
 ·rintro⟨⟨l',r⟩,hm,h⟩;split at h
  ·rename_i e;have e:l'=l:=e;subst e;obtain⟨h1,h2⟩:=List.mem_filter.mp h;exact⟨r,hm,h1,of_decide_eq_true h2⟩
  ·cases h
 ·rintro⟨r,hm,h1,h2⟩;refine⟨(l,r),hm,?_⟩;rw[if_pos rfl];exact List.mem_filter.mpr ⟨h1,aan h2⟩
theorem gN{R:List (α×List α)}{E:List α}{l w:α}:w∈links R E l↔∃r,(l,r)∈R/\w∈lead E r/\w∈sorts R:=by
 unfold links;rw[List.mem_flatMap];constructor
 ·rintro⟨⟨l',r⟩,hm,h⟩;split at h
  ·rename_i e;have e:l'=l:=e;subst e;obtain⟨h1,h2⟩:=List.mem_filter.mp h;exact⟨r,hm,h1,of_decide_eq_true h2⟩
  ·cases h
 ·rintro⟨r,hm,h1,h2⟩;refine⟨(l,r),hm,?_⟩;rw[if_pos rfl];exact List.mem_filter.mpr ⟨h1,aan h2⟩
theorem xE{R:List (α×List α)}{E:List α}{a w:α}:(∃b,Reach (links R E) a b/\w∈own R E b)↔Beg R E a w:=by
 constructor
 ·rintro⟨b,hr,hw⟩;obtain⟨r,hm,h1,h2⟩:=jB.mp hw;have hb:Beg R E b w:=.word hm h1 h2;clear hw hm h1 h2
  induction hr with
  |refl=>exact hb
  |step _ hc ih=>
   obtain⟨r',hm',h1',h2'⟩:=gN.mp hc;exact ih (.sort hm' h1' h2' hb)
 ·intro h
  induction h with
  |word hm h1 h2=>exact⟨_,.refl,jB.mpr ⟨_,hm,h1,h2⟩⟩
  |sort hm h1 h2 _ ih=>
   obtain⟨b,hr,hw⟩:=ih;exact⟨b,Reach.head (gN.mpr ⟨_,hm,h1,h2⟩) hr,hw⟩
theorem Beg.sign{R:List (α×List α)}{E:List α}{l w:α}(h:Beg R E l w):¬w∈sorts R/\∃p∈R,w∈p.2:=by
 induction h with
 |word hm h1 h2=>exact⟨h2,_,hm,iM _ _ _ h1⟩
 |sort _ _ _ _ ih=>exact ih
theorem cw:∀{l m:List α},l.Nodup->(∀x,x∈l->x∈m)->l.length<=m.length
 |[],m,_,_=>Nat.zero_le _
 |x::r,m,nd,h=>by
  obtain⟨hx,nd'⟩:=List.nodup_cons.mp nd;have hm:x∈m:=h x (aac ..);have h2:r.length<=(m.erase x).length:=cw nd' fun y hy=>by
   have:y≠x:=fun e=>hx (e▸hy)
   exact(List.mem_erase_of_ne this).mpr (h y (aad _ hy))
  rw[List.length_erase_of_mem hm] at h2;have:0<m.length:=List.length_pos_of_mem hm;simp only[aau];omega
end Gram
namespace Nw
inductive X1_3 {a:Sort _}(A B C:a->Prop):Prop|mk(x0:a)(_:A x0)(_:B x0)(_:C x0):X1_3 A B C
inductive X1_4 {a:Sort _}(A B C D:a->Prop):Prop|mk(x0:a)(_:A x0)(_:B x0)(_:C x0)(_:D x0):X1_4 A B C D
inductive X1_5 {a:Sort _}(A B C D E:a->Prop):Prop|mk(x0:a)(_:A x0)(_:B x0)(_:C x0)(_:D x0)(_:E x0):X1_5 A B C D E
inductive X1_6 {a:Sort _}(A B C D E F:a->Prop):Prop|mk(x0:a)(_:A x0)(_:B x0)(_:C x0)(_:D x0)(_:E x0)(_:F x0):X1_6 A B C D E F
inductive X1_7 {a:Sort _}(A B C D E F G:a->Prop):Prop|mk(x0:a)(_:A x0)(_:B x0)(_:C x0)(_:D x0)(_:E x0)(_:F x0)(_:G x0):X1_7 A B C D E F G
inductive X1_8 {a:Sort _}(A B C D E F G H:a->Prop):Prop|mk(x0:a)(_:A x0)(_:B x0)(_:C x0)(_:D x0)(_:E x0)(_:F x0)(_:G x0)(_:H x0):X1_8 A B C D E F G H
inductive X2_2 {a:Sort _}{b:Sort _}(A B:a->b->Prop):Prop|mk(x0:a)(x1:b)(_:A x0 x1)(_:B x0 x1):X2_2 A B
inductive X2_3 {a:Sort _}{b:Sort _}(A B C:a->b->Prop):Prop|mk(x0:a)(x1:b)(_:A x0 x1)(_:B x0 x1)(_:C x0 x1):X2_3 A B C
inductive X2_4 {a:Sort _}{b:Sort _}(A B C D:a->b->Prop):Prop|mk(x0:a)(x1:b)(_:A x0 x1)(_:B x0 x1)(_:C x0 x1)(_:D x0 x1):X2_4 A B C D
inductive X2_5 {a:Sort _}{b:Sort _}(A B C D E:a->b->Prop):Prop|mk(x0:a)(x1:b)(_:A x0 x1)(_:B x0 x1)(_:C x0 x1)(_:D x0 x1)(_:E x0 x1):X2_5 A B C D E
inductive X2_6 {a:Sort _}{b:Sort _}(A B C D E F:a->b->Prop):Prop|mk(x0:a)(x1:b)(_:A x0 x1)(_:B x0 x1)(_:C x0 x1)(_:D x0 x1)(_:E x0 x1)(_:F x0 x1):X2_6 A B C D E F
inductive X2_7 {a:Sort _}{b:Sort _}(A B C D E F G:a->b->Prop):Prop|mk(x0:a)(x1:b)(_:A x0 x1)(_:B x0 x1)(_:C x0 x1)(_:D x0 x1)(_:E x0 x1)(_:F x0 x1)(_:G x0 x1):X2_7 A B C D E F G
inductive X2_8 {a:Sort _}{b:Sort _}(A B C D E F G H:a->b->Prop):Prop|mk(x0:a)(x1:b)(_:A x0 x1)(_:B x0 x1)(_:C x0 x1)(_:D x0 x1)(_:E x0 x1)(_:F x0 x1)(_:G x0 x1)(_:H x0 x1):X2_8 A B C D E F G H
inductive X3_2 {a:Sort _}{b:Sort _}{c:Sort _}(A B:a->b->c->Prop):Prop|mk(x0:a)(x1:b)(x2:c)(_:A x0 x1 x2)(_:B x0 x1 x2):X3_2 A B
inductive X3_3 {a:Sort _}{b:Sort _}{c:Sort _}(A B C:a->b->c->Prop):Prop|mk(x0:a)(x1:b)(x2:c)(_:A x0 x1 x2)(_:B x0 x1 x2)(_:C x0 x1 x2):X3_3 A B C
inductive X3_4 {a:Sort _}{b:Sort _}{c:Sort _}(A B C D:a->b->c->Prop):Prop|mk(x0:a)(x1:b)(x2:c)(_:A x0 x1 x2)(_:B x0 x1 x2)(_:C x0 x1 x2)(_:D x0 x1 x2):X3_4 A B C D
inductive X3_5 {a:Sort _}{b:Sort _}{c:Sort _}(A B C D E:a->b->c->Prop):Prop|mk(x0:a)(x1:b)(x2:c)(_:A x0 x1 x2)(_:B x0 x1 x2)(_:C x0 x1 x2)(_:D x0 x1 x2)(_:E x0 x1 x2):X3_5 A B C D E
inductive X3_6 {a:Sort _}{b:Sort _}{c:Sort _}(A B C D E F:a->b->c->Prop):Prop|mk(x0:a)(x1:b)(x2:c)(_:A x0 x1 x2)(_:B x0 x1 x2)(_:C x0 x1 x2)(_:D x0 x1 x2)(_:E x0 x1 x2)(_:F x0 x1 x2):X3_6 A B C D E F
inductive X3_7 {a:Sort _}{b:Sort _}{c:Sort _}(A B C D E F G:a->b->c->Prop):Prop|mk(x0:a)(x1:b)(x2:c)(_:A x0 x1 x2)(_:B x0 x1 x2)(_:C x0 x1 x2)(_:D x0 x1 x2)(_:E x0 x1 x2)(_:F x0 x1 x2)(_:G x0 x1 x2):X3_7 A B C D E F G
inductive X3_8 {a:Sort _}{b:Sort _}{c:Sort _}(A B C D E F G H:a->b->c->Prop):Prop|mk(x0:a)(x1:b)(x2:c)(_:A x0 x1 x2)(_:B x0 x1 x2)(_:C x0 x1 x2)(_:D x0 x1 x2)(_:E x0 x1 x2)(_:F x0 x1 x2)(_:G x0 x1 x2)(_:H x0 x1 x2):X3_8 A B C D E F G H
inductive X4_2 {a:Sort _}{b:Sort _}{c:Sort _}{d:Sort _}(A B:a->b->c->d->Prop):Prop|mk(x0:a)(x1:b)(x2:c)(x3:d)(_:A x0 x1 x2 x3)(_:B x0 x1 x2 x3):X4_2 A B
inductive X4_3 {a:Sort _}{b:Sort _}{c:Sort _}{d:Sort _}(A B C:a->b->c->d->Prop):Prop|mk(x0:a)(x1:b)(x2:c)(x3:d)(_:A x0 x1 x2 x3)(_:B x0 x1 x2 x3)(_:C x0 x1 x2 x3):X4_3 A B C
inductive X4_4 {a:Sort _}{b:Sort _}{c:Sort _}{d:Sort _}(A B C D:a->b->c->d->Prop):Prop|mk(x0:a)(x1:b)(x2:c)(x3:d)(_:A x0 x1 x2 x3)(_:B x0 x1 x2 x3)(_:C x0 x1 x2 x3)(_:D x0 x1 x2 x3):X4_4 A B C D
inductive X4_5 {a:Sort _}{b:Sort _}{c:Sort _}{d:Sort _}(A B C D E:a->b->c->d->Prop):Prop|mk(x0:a)(x1:b)(x2:c)(x3:d)(_:A x0 x1 x2 x3)(_:B x0 x1 x2 x3)(_:C x0 x1 x2 x3)(_:D x0 x1 x2 x3)(_:E x0 x1 x2 x3):X4_5 A B C D E
inductive X4_6 {a:Sort _}{b:Sort _}{c:Sort _}{d:Sort _}(A B C D E F:a->b->c->d->Prop):Prop|mk(x0:a)(x1:b)(x2:c)(x3:d)(_:A x0 x1 x2 x3)(_:B x0 x1 x2 x3)(_:C x0 x1 x2 x3)(_:D x0 x1 x2 x3)(_:E x0 x1 x2 x3)(_:F x0 x1 x2 x3):X4_6 A B C D E F
inductive X4_7 {a:Sort _}{b:Sort _}{c:Sort _}{d:Sort _}(A B C D E F G:a->b->c->d->Prop):Prop|mk(x0:a)(x1:b)(x2:c)(x3:d)(_:A x0 x1 x2 x3)(_:B x0 x1 x2 x3)(_:C x0 x1 x2 x3)(_:D x0 x1 x2 x3)(_:E x0 x1 x2 x3)(_:F x0 x1 x2 x3)(_:G x0 x1 x2 x3):X4_7 A B C D E F G
inductive X4_8 {a:Sort _}{b:Sort _}{c:Sort _}{d:Sort _}(A B C D E F G H:a->b->c->d->Prop):Prop|mk(x0:a)(x1:b)(x2:c)(x3:d)(_:A x0 x1 x2 x3)(_:B x0 x1 x2 x3)(_:C x0 x1 x2 x3)(_:D x0 x1 x2 x3)(_:E x0 x1 x2 x3)(_:F x0 x1 x2 x3)(_:G x0 x1 x2 x3)(_:H x0 x1 x2 x3):X4_8 A B C D E F G H
inductive X5_2 {a:Sort _}{b:Sort _}{c:Sort _}{d:Sort _}{e:Sort _}(A B:a->b->c->d->e->Prop):Prop|mk(x0:a)(x1:b)(x2:c)(x3:d)(x4:e)(_:A x0 x1 x2 x3 x4)(_:B x0 x1 x2 x3 x4):X5_2 A B
inductive X5_3 {a:Sort _}{b:Sort _}{c:Sort _}{d:Sort _}{e:Sort _}(A B C:a->b->c->d->e->Prop):Prop|mk(x0:a)(x1:b)(x2:c)(x3:d)(x4:e)(_:A x0 x1 x2 x3 x4)(_:B x0 x1 x2 x3 x4)(_:C x0 x1 x2 x3 x4):X5_3 A B C
inductive X5_4 {a:Sort _}{b:Sort _}{c:Sort _}{d:Sort _}{e:Sort _}(A B C D:a->b->c->d->e->Prop):Prop|mk(x0:a)(x1:b)(x2:c)(x3:d)(x4:e)(_:A x0 x1 x2 x3 x4)(_:B x0 x1 x2 x3 x4)(_:C x0 x1 x2 x3 x4)(_:D x0 x1 x2 x3 x4):X5_4 A B C D
inductive X5_5 {a:Sort _}{b:Sort _}{c:Sort _}{d:Sort _}{e:Sort _}(A B C D E:a->b->c->d->e->Prop):Prop|mk(x0:a)(x1:b)(x2:c)(x3:d)(x4:e)(_:A x0 x1 x2 x3 x4)(_:B x0 x1 x2 x3 x4)(_:C x0 x1 x2 x3 x4)(_:D x0 x1 x2 x3 x4)(_:E x0 x1 x2 x3 x4):X5_5 A B C D E
inductive X5_6 {a:Sort _}{b:Sort _}{c:Sort _}{d:Sort _}{e:Sort _}(A B C D E F:a->b->c->d->e->Prop):Prop|mk(x0:a)(x1:b)(x2:c)(x3:d)(x4:e)(_:A x0 x1 x2 x3 x4)(_:B x0 x1 x2 x3 x4)(_:C x0 x1 x2 x3 x4)(_:D x0 x1 x2 x3 x4)(_:E x0 x1 x2 x3 x4)(_:F x0 x1 x2 x3 x4):X5_6 A B C D E F
inductive X5_7 {a:Sort _}{b:Sort _}{c:Sort _}{d:Sort _}{e:Sort _}(A B C D E F G:a->b->c->d->e->Prop):Prop|mk(x0:a)(x1:b)(x2:c)(x3:d)(x4:e)(_:A x0 x1 x2 x3 x4)(_:B x0 x1 x2 x3 x4)(_:C x0 x1 x2 x3 x4)(_:D x0 x1 x2 x3 x4)(_:E x0 x1 x2 x3 x4)(_:F x0 x1 x2 x3 x4)(_:G x0 x1 x2 x3 x4):X5_7 A B C D E F G
inductive X5_8 {a:Sort _}{b:Sort _}{c:Sort _}{d:Sort _}{e:Sort _}(A B C D E F G H:a->b->c->d->e->Prop):Prop|mk(x0:a)(x1:b)(x2:c)(x3:d)(x4:e)(_:A x0 x1 x2 x3 x4)(_:B x0 x1 x2 x3 x4)(_:C x0 x1 x2 x3 x4)(_:D x0 x1 x2 x3 x4)(_:E x0 x1 x2 x3 x4)(_:F x0 x1 x2 x3 x4)(_:G x0 x1 x2 x3 x4)(_:H x0 x1 x2 x3 x4):X5_8 A B C D E F G H
inductive X6_2 {a:Sort _}{b:Sort _}{c:Sort _}{d:Sort _}{e:Sort _}{f:Sort _}(A B:a->b->c->d->e->f->Prop):Prop|mk(x0:a)(x1:b)(x2:c)(x3:d)(x4:e)(x5:f)(_:A x0 x1 x2 x3 x4 x5)(_:B x0 x1 x2 x3 x4 x5):X6_2 A B
inductive X6_3 {a:Sort _}{b:Sort _}{c:Sort _}{d:Sort _}{e:Sort _}{f:Sort _}(A B C:a->b->c->d->e->f->Prop):Prop|mk(x0:a)(x1:b)(x2:c)(x3:d)(x4:e)(x5:f)(_:A x0 x1 x2 x3 x4 x5)(_:B x0 x1 x2 x3 x4 x5)(_:C x0 x1 x2 x3 x4 x5):X6_3 A B C
inductive X6_4 {a:Sort _}{b:Sort _}{c:Sort _}{d:Sort _}{e:Sort _}{f:Sort _}(A B C D:a->b->c->d->e->f->Prop):Prop|mk(x0:a)(x1:b)(x2:c)(x3:d)(x4:e)(x5:f)(_:A x0 x1 x2 x3 x4 x5)(_:B x0 x1 x2 x3 x4 x5)(_:C x0 x1 x2 x3 x4 x5)(_:D x0 x1 x2 x3 x4 x5):X6_4 A B C D
inductive X6_5 {a:Sort _}{b:Sort _}{c:Sort _}{d:Sort _}{e:Sort _}{f:Sort _}(A B C D E:a->b->c->d->e->f->Prop):Prop|mk(x0:a)(x1:b)(x2:c)(x3:d)(x4:e)(x5:f)(_:A x0 x1 x2 x3 x4 x5)(_:B x0 x1 x2 x3 x4 x5)(_:C x0 x1 x2 x3 x4 x5)(_:D x0 x1 x2 x3 x4 x5)(_:E x0 x1 x2 x3 x4 x5):X6_5 A B C D E
inductive X6_6 {a:Sort _}{b:Sort _}{c:Sort _}{d:Sort _}{e:Sort _}{f:Sort _}(A B C D E F:a->b->c->d->e->f->Prop):Prop|mk(x0:a)(x1:b)(x2:c)(x3:d)(x4:e)(x5:f)(_:A x0 x1 x2 x3 x4 x5)(_:B x0 x1 x2 x3 x4 x5)(_:C x0 x1 x2 x3 x4 x5)(_:D x0 x1 x2 x3 x4 x5)(_:E x0 x1 x2 x3 x4 x5)(_:F x0 x1 x2 x3 x4 x5):X6_6 A B C D E F
inductive X6_7 {a:Sort _}{b:Sort _}{c:Sort _}{d:Sort _}{e:Sort _}{f:Sort _}(A B C D E F G:a->b->c->d->e->f->Prop):Prop|mk(x0:a)(x1:b)(x2:c)(x3:d)(x4:e)(x5:f)(_:A x0 x1 x2 x3 x4 x5)(_:B x0 x1 x2 x3 x4 x5)(_:C x0 x1 x2 x3 x4 x5)(_:D x0 x1 x2 x3 x4 x5)(_:E x0 x1 x2 x3 x4 x5)(_:F x0 x1 x2 x3 x4 x5)(_:G x0 x1 x2 x3 x4 x5):X6_7 A B C D E F G
inductive X6_8 {a:Sort _}{b:Sort _}{c:Sort _}{d:Sort _}{e:Sort _}{f:Sort _}(A B C D E F G H:a->b->c->d->e->f->Prop):Prop|mk(x0:a)(x1:b)(x2:c)(x3:d)(x4:e)(x5:f)(_:A x0 x1 x2 x3 x4 x5)(_:B x0 x1 x2 x3 x4 x5)(_:C x0 x1 x2 x3 x4 x5)(_:D x0 x1 x2 x3 x4 x5)(_:E x0 x1 x2 x3 x4 x5)(_:F x0 x1 x2 x3 x4 x5)(_:G x0 x1 x2 x3 x4 x5)(_:H x0 x1 x2 x3 x4 x5):X6_8 A B C D E F G H
inductive X7_2 {a:Sort _}{b:Sort _}{c:Sort _}{d:Sort _}{e:Sort _}{f:Sort _}{g:Sort _}(A B:a->b->c->d->e->f->g->Prop):Prop|mk(x0:a)(x1:b)(x2:c)(x3:d)(x4:e)(x5:f)(x6:g)(_:A x0 x1 x2 x3 x4 x5 x6)(_:B x0 x1 x2 x3 x4 x5 x6):X7_2 A B
inductive X7_3 {a:Sort _}{b:Sort _}{c:Sort _}{d:Sort _}{e:Sort _}{f:Sort _}{g:Sort _}(A B C:a->b->c->d->e->f->g->Prop):Prop|mk(x0:a)(x1:b)(x2:c)(x3:d)(x4:e)(x5:f)(x6:g)(_:A x0 x1 x2 x3 x4 x5 x6)(_:B x0 x1 x2 x3 x4 x5 x6)(_:C x0 x1 x2 x3 x4 x5 x6):X7_3 A B C
inductive X7_4 {a:Sort _}{b:Sort _}{c:Sort _}{d:Sort _}{e:Sort _}{f:Sort _}{g:Sort _}(A B C D:a->b->c->d->e->f->g->Prop):Prop|mk(x0:a)(x1:b)(x2:c)(x3:d)(x4:e)(x5:f)(x6:g)(_:A x0 x1 x2 x3 x4 x5 x6)(_:B x0 x1 x2 x3 x4 x5 x6)(_:C x0 x1 x2 x3 x4 x5 x6)(_:D x0 x1 x2 x3 x4 x5 x6):X7_4 A B C D
inductive X7_5 {a:Sort _}{b:Sort _}{c:Sort _}{d:Sort _}{e:Sort _}{f:Sort _}{g:Sort _}(A B C D E:a->b->c->d->e->f->g->Prop):Prop|mk(x0:a)(x1:b)(x2:c)(x3:d)(x4:e)(x5:f)(x6:g)(_:A x0 x1 x2 x3 x4 x5 x6)(_:B x0 x1 x2 x3 x4 x5 x6)(_:C x0 x1 x2 x3 x4 x5 x6)(_:D x0 x1 x2 x3 x4 x5 x6)(_:E x0 x1 x2 x3 x4 x5 x6):X7_5 A B C D E
inductive X7_6 {a:Sort _}{b:Sort _}{c:Sort _}{d:Sort _}{e:Sort _}{f:Sort _}{g:Sort _}(A B C D E F:a->b->c->d->e->f->g->Prop):Prop|mk(x0:a)(x1:b)(x2:c)(x3:d)(x4:e)(x5:f)(x6:g)(_:A x0 x1 x2 x3 x4 x5 x6)(_:B x0 x1 x2 x3 x4 x5 x6)(_:C x0 x1 x2 x3 x4 x5 x6)(_:D x0 x1 x2 x3 x4 x5 x6)(_:E x0 x1 x2 x3 x4 x5 x6)(_:F x0 x1 x2 x3 x4 x5 x6):X7_6 A B C D E F
inductive X7_7 {a:Sort _}{b:Sort _}{c:Sort _}{d:Sort _}{e:Sort _}{f:Sort _}{g:Sort _}(A B C D E F G:a->b->c->d->e->f->g->Prop):Prop|mk(x0:a)(x1:b)(x2:c)(x3:d)(x4:e)(x5:f)(x6:g)(_:A x0 x1 x2 x3 x4 x5 x6)(_:B x0 x1 x2 x3 x4 x5 x6)(_:C x0 x1 x2 x3 x4 x5 x6)(_:D x0 x1 x2 x3 x4 x5 x6)(_:E x0 x1 x2 x3 x4 x5 x6)(_:F x0 x1 x2 x3 x4 x5 x6)(_:G x0 x1 x2 x3 x4 x5 x6):X7_7 A B C D E F G
inductive X7_8 {a:Sort _}{b:Sort _}{c:Sort _}{d:Sort _}{e:Sort _}{f:Sort _}{g:Sort _}(A B C D E F G H:a->b->c->d->e->f->g->Prop):Prop|mk(x0:a)(x1:b)(x2:c)(x3:d)(x4:e)(x5:f)(x6:g)(_:A x0 x1 x2 x3 x4 x5 x6)(_:B x0 x1 x2 x3 x4 x5 x6)(_:C x0 x1 x2 x3 x4 x5 x6)(_:D x0 x1 x2 x3 x4 x5 x6)(_:E x0 x1 x2 x3 x4 x5 x6)(_:F x0 x1 x2 x3 x4 x5 x6)(_:G x0 x1 x2 x3 x4 x5 x6)(_:H x0 x1 x2 x3 x4 x5 x6):X7_8 A B C D E F G H
inductive X8_2 {a:Sort _}{b:Sort _}{c:Sort _}{d:Sort _}{e:Sort _}{f:Sort _}{g:Sort _}{h:Sort _}(A B:a->b->c->d->e->f->g->h->Prop):Prop|mk(x0:a)(x1:b)(x2:c)(x3:d)(x4:e)(x5:f)(x6:g)(x7:h)(_:A x0 x1 x2 x3 x4 x5 x6 x7)(_:B x0 x1 x2 x3 x4 x5 x6 x7):X8_2 A B
inductive X8_3 {a:Sort _}{b:Sort _}{c:Sort _}{d:Sort _}{e:Sort _}{f:Sort _}{g:Sort _}{h:Sort _}(A B C:a->b->c->d->e->f->g->h->Prop):Prop|mk(x0:a)(x1:b)(x2:c)(x3:d)(x4:e)(x5:f)(x6:g)(x7:h)(_:A x0 x1 x2 x3 x4 x5 x6 x7)(_:B x0 x1 x2 x3 x4 x5 x6 x7)(_:C x0 x1 x2 x3 x4 x5 x6 x7):X8_3 A B C
inductive X8_4 {a:Sort _}{b:Sort _}{c:Sort _}{d:Sort _}{e:Sort _}{f:Sort _}{g:Sort _}{h:Sort _}(A B C D:a->b->c->d->e->f->g->h->Prop):Prop|mk(x0:a)(x1:b)(x2:c)(x3:d)(x4:e)(x5:f)(x6:g)(x7:h)(_:A x0 x1 x2 x3 x4 x5 x6 x7)(_:B x0 x1 x2 x3 x4 x5 x6 x7)(_:C x0 x1 x2 x3 x4 x5 x6 x7)(_:D x0 x1 x2 x3 x4 x5 x6 x7):X8_4 A B C D
inductive X8_5 {a:Sort _}{b:Sort _}{c:Sort _}{d:Sort _}{e:Sort _}{f:Sort _}{g:Sort _}{h:Sort _}(A B C D E:a->b->c->d->e->f->g->h->Prop):Prop|mk(x0:a)(x1:b)(x2:c)(x3:d)(x4:e)(x5:f)(x6:g)(x7:h)(_:A x0 x1 x2 x3 x4 x5 x6 x7)(_:B x0 x1 x2 x3 x4 x5 x6 x7)(_:C x0 x1 x2 x3 x4 x5 x6 x7)(_:D x0 x1 x2 x3 x4 x5 x6 x7)(_:E x0 x1 x2 x3 x4 x5 x6 x7):X8_5 A B C D E
inductive X8_6 {a:Sort _}{b:Sort _}{c:Sort _}{d:Sort _}{e:Sort _}{f:Sort _}{g:Sort _}{h:Sort _}(A B C D E F:a->b->c->d->e->f->g->h->Prop):Prop|mk(x0:a)(x1:b)(x2:c)(x3:d)(x4:e)(x5:f)(x6:g)(x7:h)(_:A x0 x1 x2 x3 x4 x5 x6 x7)(_:B x0 x1 x2 x3 x4 x5 x6 x7)(_:C x0 x1 x2 x3 x4 x5 x6 x7)(_:D x0 x1 x2 x3 x4 x5 x6 x7)(_:E x0 x1 x2 x3 x4 x5 x6 x7)(_:F x0 x1 x2 x3 x4 x5 x6 x7):X8_6 A B C D E F
inductive X8_7 {a:Sort _}{b:Sort _}{c:Sort _}{d:Sort _}{e:Sort _}{f:Sort _}{g:Sort _}{h:Sort _}(A B C D E F G:a->b->c->d->e->f->g->h->Prop):Prop|mk(x0:a)(x1:b)(x2:c)(x3:d)(x4:e)(x5:f)(x6:g)(x7:h)(_:A x0 x1 x2 x3 x4 x5 x6 x7)(_:B x0 x1 x2 x3 x4 x5 x6 x7)(_:C x0 x1 x2 x3 x4 x5 x6 x7)(_:D x0 x1 x2 x3 x4 x5 x6 x7)(_:E x0 x1 x2 x3 x4 x5 x6 x7)(_:F x0 x1 x2 x3 x4 x5 x6 x7)(_:G x0 x1 x2 x3 x4 x5 x6 x7):X8_7 A B C D E F G
inductive X9_2 {a:Sort _}{b:Sort _}{c:Sort _}{d:Sort _}{e:Sort _}{f:Sort _}{g:Sort _}{h:Sort _}{i:Sort _}(A B:a->b->c->d->e->f->g->h->i->Prop):Prop|mk(x0:a)(x1:b)(x2:c)(x3:d)(x4:e)(x5:f)(x6:g)(x7:h)(x8:i)(_:A x0 x1 x2 x3 x4 x5 x6 x7 x8)(_:B x0 x1 x2 x3 x4 x5 x6 x7 x8):X9_2 A B
inductive X9_3 {a:Sort _}{b:Sort _}{c:Sort _}{d:Sort _}{e:Sort _}{f:Sort _}{g:Sort _}{h:Sort _}{i:Sort _}(A B C:a->b->c->d->e->f->g->h->i->Prop):Prop|mk(x0:a)(x1:b)(x2:c)(x3:d)(x4:e)(x5:f)(x6:g)(x7:h)(x8:i)(_:A x0 x1 x2 x3 x4 x5 x6 x7 x8)(_:B x0 x1 x2 x3 x4 x5 x6 x7 x8)(_:C x0 x1 x2 x3 x4 x5 x6 x7 x8):X9_3 A B C
inductive X9_4 {a:Sort _}{b:Sort _}{c:Sort _}{d:Sort _}{e:Sort _}{f:Sort _}{g:Sort _}{h:Sort _}{i:Sort _}(A B C D:a->b->c->d->e->f->g->h->i->Prop):Prop|mk(x0:a)(x1:b)(x2:c)(x3:d)(x4:e)(x5:f)(x6:g)(x7:h)(x8:i)(_:A x0 x1 x2 x3 x4 x5 x6 x7 x8)(_:B x0 x1 x2 x3 x4 x5 x6 x7 x8)(_:C x0 x1 x2 x3 x4 x5 x6 x7 x8)(_:D x0 x1 x2 x3 x4 x5 x6 x7 x8):X9_4 A B C D
inductive X9_5 {a:Sort _}{b:Sort _}{c:Sort _}{d:Sort _}{e:Sort _}{f:Sort _}{g:Sort _}{h:Sort _}{i:Sort _}(A B C D E:a->b->c->d->e->f->g->h->i->Prop):Prop|mk(x0:a)(x1:b)(x2:c)(x3:d)(x4:e)(x5:f)(x6:g)(x7:h)(x8:i)(_:A x0 x1 x2 x3 x4 x5 x6 x7 x8)(_:B x0 x1 x2 x3 x4 x5 x6 x7 x8)(_:C x0 x1 x2 x3 x4 x5 x6 x7 x8)(_:D x0 x1 x2 x3 x4 x5 x6 x7 x8)(_:E x0 x1 x2 x3 x4 x5 x6 x7 x8):X9_5 A B C D E
inductive X9_6 {a:Sort _}{b:Sort _}{c:Sort _}{d:Sort _}{e:Sort _}{f:Sort _}{g:Sort _}{h:Sort _}{i:Sort _}(A B C D E F:a->b->c->d->e->f->g->h->i->Prop):Prop|mk(x0:a)(x1:b)(x2:c)(x3:d)(x4:e)(x5:f)(x6:g)(x7:h)(x8:i)(_:A x0 x1 x2 x3 x4 x5 x6 x7 x8)(_:B x0 x1 x2 x3 x4 x5 x6 x7 x8)(_:C x0 x1 x2 x3 x4 x5 x6 x7 x8)(_:D x0 x1 x2 x3 x4 x5 x6 x7 x8)(_:E x0 x1 x2 x3 x4 x5 x6 x7 x8)(_:F x0 x1 x2 x3 x4 x5 x6 x7 x8):X9_6 A B C D E F
end Nw
open Lean in
def Nw.bndV (bs : Syntax) : Array (Syntax × Option Syntax) := Id.run do
 let b := bs[0]
 let mut r := #[]
 if b.getKind == ``Lean.unbracketedExplicitBinders then
  for i in b[0].getArgs do r := r.push (i, if b[1].getNumArgs == 0 then none else some b[1][1])
 else
  for c in b.getArgs do
   for i in c[1].getArgs do r := r.push (i, some c[3])
 return r
open Lean in
def Nw.exV : Nat → Term → MacroM (Array (Syntax × Option Syntax) × Term)
 | 0, t => return (#[], t)
 | n+1, t => do
  match t with
  | `(∃ $bs:explicitBinders, $b) =>
   let (r, b) ← Nw.exV n b
   return (Nw.bndV bs ++ r, b)
  | _ => return (#[], t)
open Lean in
def Nw.anV : Nat → Term → MacroM (Array Term)
 | 0, t => return #[t]
 | n+1, t => do
  match t with
  | `($a ∧ $b) => return #[a] ++ (← Nw.anV n b)
  | _ => return #[t]
open Lean in
local macro_rules
 | `(∃ $bs:explicitBinders, $b) => do
  let (r, b) ← Nw.exV 20 b
  let r := Nw.bndV bs ++ r
  let cs ← Nw.anV 20 b
  let nm := (Name.mkSimple "Nw").str s!"X{r.size}_{cs.size}"
  if !(← Macro.hasDecl nm) then Macro.throwUnsupported
  let st := match cs[0]! with
   | `($l:ident = $_) => l.getId.toString.startsWith "σ"
   | `([$_,*] = $_) => true
   | _ => false
  if !st then Macro.throwUnsupported
  let mut fs : Array Term := #[]
  for c in cs do
   let mut t := c
   for (i, ty) in r.reverse do
    let id : Term ← if i[0].isIdent then pure ⟨i[0]⟩ else `(_)
    t ← match ty with
     | some ty => `(fun ($id : $(⟨ty⟩)) => $t)
     | none => `(fun $id => $t)
   fs := fs.push t
  `($(mkCIdent nm) $fs*)
open Lean in
local macro_rules
 | `(tactic| refine ⟨fun $x:ident $y:ident => $b, $rs,*⟩) => do
  if (b.raw.find? (·.getKind == `termIfThenElse)).isSome then Macro.throwUnsupported
  `(tactic| first | refine' (let J : L2.St → L2.Hp → Prop := fun $x $y => $b; ⟨J, $rs,*⟩) | fail)
 | `(tactic| refine ⟨fun $x:ident $y:ident $z:ident => $b, $rs,*⟩) => do
  if (b.raw.find? (·.getKind == `termIfThenElse)).isSome then Macro.throwUnsupported
  `(tactic| first | refine' (let J : Nat → L2.St → L2.Hp → Prop := fun $x $y $z => $b; ⟨J, $rs,*⟩) | fail)
open Lean in
local macro_rules
 | `(tactic| rintro $[$ps]*) => do
  let mut ns : Array Ident := #[]
  let mut ts : Array (TSyntax `tactic) := #[]
  for i in [0:ps.size] do
   let q := ps[i]!.raw
   if q.getKind != ``Parser.Tactic.rintroPat.one then Macro.throwUnsupported
   let q := q[0]
   let x := mkIdent (Name.mkSimple s!"y{i}'")
   if q.getKind == ``Parser.Tactic.rcasesPat.one && q[0].getId != `rfl then ns := ns.push ⟨q[0]⟩
   else if q.getKind == ``Parser.Tactic.rcasesPat.ignore then ns := ns.push x
   else if q.getKind == ``Parser.Tactic.rcasesPat.one then
    ns := ns.push x
    ts := ts.push (← `(tactic| subst $x))
   else
    ns := ns.push x
    let m : TSyntax ``Parser.Tactic.rcasesPatMed := ⟨mkNode ``Parser.Tactic.rcasesPatMed #[mkNullNode #[q]]⟩
    ts := ts.push (← `(tactic| obtain $m:rcasesPatMed := $x:ident))
  if ts.isEmpty then Macro.throwUnsupported
  let l ← `(tactic| try first | refine' (let dd : L2.Ends := _; (?_ : (_ : L2.TS) dd _ _)) | fail)
  `(tactic| (intro $[$ns]*; $l; $[$ts];*))
namespace Nw
open PySem L2
open SL (ap srt)
def top(i:Nat):Stmt:=PySem.Challenge.pw_nextword_k05_whole_clash_shown.main.body.getD i (.Pass ⟨0,0,0,0⟩)
abbrev j8:Stmt:=top 5
theorem tJ:aJ ["rows"] ["rows"] (aw j8):=⟨rfl,rfl,rfl,by decide +kernel,rfl,by decide +kernel,by decide +kernel⟩
structure Txt(mg:Str->Option Value):Prop where
 srt:mg "sorted"=none
 set:mg "set"=none
 all:mg "all"=none
 lst:mg "list"=none
 tup:mg "tuple"=none
 str:mg "str"=none
 bl:mg "bool"=none
 int:mg "int"=none
 len:mg "len"=none
 rng:mg "range"=none
 isi:mg "isinstance"=none
 abs:mg "abs"=none
 sum:mg "sum"=none
structure Small(R:List Row):Prop where
 len:R.length<=14
 wid:∀p∈R,p.2.length<=20
 few:∃U:List Str,U.length<=40/\∀p∈R,∀x∈p.2,x∈U
 dif:(ap (R.flatMap (·.2))).length / 4<=(ap (R.map (·.1))).length
 ne:R≠[]
theorem j9:∀{R:List Row},(∀p∈R,p.2.length<=20)->(R.flatMap (·.2)).length<=20*R.length
 |[],_=>by simp
 |p::r,h=>by
  have h1:=h p (aac ..);have h2:=j9 (R:=r) fun q hq=>h q (aad _ hq)
  rw[List.flatMap_cons,aag,aau];omega
theorem Small.signs{R:List Row}(S:Small R):(R.flatMap (·.2)).length<=280:=by
 have:=j9 S.wid;have:=S.len;omega
theorem tK{R:List Row}{x:Str}:x∈R.flatMap (·.2)↔∃p∈R,x∈p.2:=List.mem_flatMap
theorem Small.lK{R:List Row}(S:Small R){D:List Str}(nd:D.Nodup)(h:∀z∈D,∃p∈R,z∈p.2):D.length<=40:=by
 obtain⟨U,hU,hm⟩:=S.few;exact Nat.le_trans (Gram.cw nd fun z hz=>by obtain⟨p,hp,hz'⟩:=h z hz;exact hm p hp z hz') hU
structure Def(P:Program)(w:World)(K:PySem.W.Frag)(mg:Str->Option Value)(base:Heap)(x:Str)(k:Nat)(ps:List Str)(sp:Sp):Prop where
 ex:∃f fd,mg x=some (.ref f)/\PySem.W.keepIn K (.ref f)=true/\be P w K mg base CX0 k f fd ps sp/\Binds K fd ps []
theorem aB{X:Cx}{x:Str}{k:Nat}{ps:List Str}{sp:Sp}{p pos:Pos}{e:Expr}{es:List Expr}{t:TA}(D:Def X.prog X.w X.K X.mg X.base x k ps sp)(hr:bC k X.A)(hg:Gl X x)(ha:PA X (e::es) t)(hdb:(x == ("__debug__":Str))=false:=by decide)
  (he:starEach (e::es) X.env=(false,eval e X.env)::starEach es X.env:=by rfl)(hpl:(backTo pos (starEach es X.env)).any (·.1)=false:=by rfl):PE X (.Call (.Name x p) (e::es) [] pos) (qG sp [] E0 t):=by
 obtain⟨f,fd,h1,h2,h3,h4⟩:=D.ex;exact xf h3 hr hg h1 h2 h4 .nil zO ha hdb he hpl
def cF:Sp:=fun vs H Q _=>∃(a:Addr) (R:List Row),vs=[.ref a]/\bt H a R/\Small R/\∀q H',ab H H'->H q=none->aA H' q (srt (ap (R.map (·.1))))->Q (.ref q) H'
section
variable {P:Program}{w:World}{K:PySem.W.Frag}{mg:Str->Option Value}{base:Heap}
theorem qT{f:Addr}{fd:FuncData}(F:Fun K "sorts_of" "sorts_of" j8 f fd)(T:Txt mg):be P w K mg base CX0 1 f fd ["rows"] cF:=by
 refine F.ok tJ (fun vs H Q E h=>?_) (fun cdv A outer s H vs Q E hr h=>?_)
 ·obtain⟨a,R,rfl,_⟩:=h;rfl
 ·obtain⟨a,R,rfl,hR,hsm,k⟩:=h;have hn:R.length<64:=by have:=hsm.len;omega
  refine⟨_,ag (aQ (au (cR rfl) (by rfl) T.srt PyProof.Rows.boot_sorted (ai
   (dy (eO rfl) (by rfl) T.set (by decide +kernel) (ai
    (dj (bq.plain (N:=["row"]) (by rfl) (by rfl) (by decide)) rfl (aO (pv 0)) (fun s₃ H₃ fp=>az (i:=0) (show(["row"]:List Str).Nodup by decide) rfl (Or.inl rfl)) (fun s₃ H₃ fp=>di)
     (fun s₃ H₃ fp=>aC (r:=j1 K) aF (pv 0) am (fun _ _=>rfl))) ac)) ac))),?_⟩
  obtain⟨vs,hv,hp⟩:=hR;have hlen:vs.length=R.length:=Paired.length hp;refine⟨_,rfl,a,rfl,⟨vs,SqL.of hv⟩,fun D hD=>cO (K:=K) (xs:=vs) (fun i τ H1=>(∃o,τ=[o])/\H1=upd H D (.lst ((R.take i).map fun p=>V.str p.1))) ⟨⟨_,rfl⟩,rfl⟩ ?_ ?_ ?_⟩
  ·rintro i τ H1 ⟨_,rfl⟩;exact(ab.upd hD).seq (SqL.of hv)
  ·rintro i x τ H1 hx ⟨⟨o,rfl⟩,rfl⟩;obtain⟨p,hpi,t,b,rfl,ht,hb⟩:=aW hp i x hx;have hil:i<R.length:=(aab.mp hpi).1;refine⟨_,rfl,t,_,0,_,rfl,rfl,SqT.of (ab.upd hD _ _ ht),ak (j:=0) rfl,_,aa,?_,⟨_,rfl⟩,?_⟩
   ·rw[aaa,aal];exact aD (by omega)
   ·rw[cZ,aap,hpi,aam];rfl
  ·rintro τ H1 ⟨_,rfl⟩;rw[hlen,aas];have em:(R.map fun p=>V.str p.1)=(R.map (·.1)).map V.str:=by rw[List.map_map];rfl
   rw[em];refine⟨D,R.map (·.1),rfl,SqL.of aa,?_,fun q hq=>?_⟩
   ·rw[aaa];unfold scanBound;omega
   ·refine⟨q,ap (R.map (·.1)),rfl,.inr (.inl aa),?_,fun q2 hq2=>?_⟩
    ·have:=SL.fS (R.map (·.1));rw[aaa] at this;omega
    ·have s1:=(ab.upd (o:=.lst ((R.map (·.1)).map V.str)) hD);have n1:H q=none:=s1.free hq;have s2:ab H (upd (upd H D (.lst ((R.map (·.1)).map V.str))) q (dt w q (ap (R.map (·.1))))):=s1.trans (ab.upd hq);exact k q2 _ (s2.trans (ab.upd hq2)) (s2.free hq2) aa
end
end Nw
namespace Nw
open PySem L2
open SL (ap srt)
abbrev kb:Stmt:=top 6
theorem ji:aJ ["rows","signs","row"] ["rows"] (aw kb):=⟨rfl,rfl,rfl,by decide +kernel,rfl,by decide +kernel,by decide +kernel⟩
def jj:Sp:=fun vs H Q _=>∃(a:Addr) (R:List Row),vs=[.ref a]/\bt H a R/\Small R/\∀q ws H',ab H H'->H q=none->(∀z,z∈ws↔(∃p∈R,z∈p.2)/\¬z∈R.map (·.1))->aA H' q ws->Q (.ref q) H'
section
variable {P:Program}{w:World}{K:PySem.W.Frag}{mg:Str->Option Value}{base:Heap}
theorem qU{f:Addr}{fd:FuncData}(F:Fun K "words_of" "words_of" kb f fd)(T:Txt mg)(D1:Def P w K mg base "sorts_of" 1 ["rows"] cF):be P w K mg base CX0 2 f fd ["rows"] jj:=by
 refine F.ok ji (fun vs H Q E h=>?_) (fun cdv A outer s H vs Q E hr h=>?_)
 ·obtain⟨a,R,rfl,_⟩:=h;rfl
 ·obtain⟨a,R,rfl,hR,hsm,k⟩:=h;refine⟨_,af (aq (i:=1) ji.nd rfl (Or.inl rfl) (bx ac))
   (af (bb PassesOwn.never rfl (aO (pv 0)) (az (i:=2) ji.nd rfl (Or.inl rfl))
    (ag (bv (bZ PySem.F.plainAttrs_list PySem.F.slot_list_extend PySem.F.type_list_extend dU (pv 1) (ai (aC aF (pv 2) am (fun _ _=>rfl)) ac)))))
   (ag (aQ (au (cR rfl) (by rfl) T.srt PyProof.Rows.boot_sorted (ai
    (bN xB (dy (eO rfl) (by rfl) T.set (by decide +kernel) (ai (pv 1) ac))
     (dy (eO rfl) (by rfl) T.set (by decide +kernel) (ai (aB D1 hr (by rfl) (ai (pv 0) ac)) ac))) ac))))),?_⟩
  obtain⟨vs,hv,hp⟩:=id hR;have hlen:vs.length=R.length:=Paired.length hp;refine⟨by decide,fun l hl=>?_⟩;have s0:ab H (upd H l (.lst [])):=ab.upd hl;refine⟨_,rfl,a,rfl,⟨_,s0.seq (SqL.of hv)⟩,bc (K:=K) (a:=a) (xs:=vs) (fun i σ H1=>(∃o,σ=[some (.ref a),some (.ref l),o])/\H1=upd H l (.lst (((R.take i).flatMap (·.2)).map V.str))) ⟨⟨_,rfl⟩,rfl⟩ ?_ ?_ ?_⟩
  ·rintro i σ H1 _ ⟨_,rfl⟩;exact(ab.upd hl).seq (SqL.of hv)
  ·rintro i x σ H1 hx ⟨⟨o,rfl⟩,rfl⟩;obtain⟨p,hpi,t,b,rfl,ht,hb⟩:=aW hp i x hx;have hil:i<R.length:=(aab.mp hpi).1;have sl:=ab.upd (o:=HO.lst (((R.take i).flatMap (·.2)).map V.str)) hl;refine⟨_,rfl,.inl ⟨rfl,_,SqL.of aa⟩,_,rfl,t,_,1,_,rfl,rfl,SqT.of (sl _ _ ht),ak (j:=1) rfl,l,b,_,_,rfl,rfl,aa,sl _ _ hb,?_,⟨_,rfl⟩,?_⟩
   ·have h1:=j9 (R:=R.take i) fun q hq=>hsm.wid q (List.mem_of_mem_take hq)
    have h2:=hsm.wid p (aah hpi);have h3:=hsm.len;rw[aal] at h1;rw[aaa,aaa];exact Nat.le_of_lt (aD (by omega))
   ·rw[cZ,aap,hpi,List.flatMap_append,aam];simp
  ·rintro σ H1 ⟨⟨o,rfl⟩,rfl⟩;rw[hlen,aas];have sg:=hsm.signs;have s1:=ab.upd (o:=HO.lst ((R.flatMap (·.2)).map V.str)) hl;refine⟨_,rfl,l,R.flatMap (·.2),rfl,SqL.of aa,by unfold scanBound;omega,fun q1 hq1=>?_⟩;have s2:=s1.trans (ab.upd (o:=dt w q1 (ap (R.flatMap (·.2)))) hq1);refine⟨_,rfl,a,R,rfl,hR.mono s2,hsm,fun q2 H2 s3 n2 hS=>?_⟩;have hso:(srt (ap (R.map (·.1)))).length<=14:=by
    rw[SL.d7];have:=SL.fS (R.map (·.1));rw[aaa] at this;have:=hsm.len;omega
   refine⟨q2,_,rfl,SqL.of hS,by unfold scanBound;omega,fun q3 hq3=>?_⟩;have h1:H2 q1=some (dt w q1 (ap (R.flatMap (·.2)))):=s3 _ _ aa;have s4:=ab.upd (H:=H2) (o:=dt w q3 (ap (srt (ap (R.map (·.1)))))) hq3;have hon:(ap (srt (ap (R.map (·.1))))).length=(ap (R.map (·.1))).length:=by
    have:=SL.pP (SL.ck (srt (ap (R.map (·.1))))) (SL.ck (R.map (·.1))) fun x=>by rw[SL.bO,SL.cu]
    exact this.length_eq
   refine⟨q1,q3,_,_,rfl,rfl,s4 _ _ h1,aa,by rw[hon];exact hsm.dif,fun q4 D hq4 nd hm=>?_⟩;have hD:∀z,z∈D↔(∃p∈R,z∈p.2)/\¬z∈R.map (·.1):=fun z=>by
    rw[hm z,SL.bO,tK,SL.bO,SL.cu,SL.bO]
   refine⟨q4,D,rfl,.inr (.inl aa),?_,fun q5 hq5=>?_⟩
   ·have:=hsm.lK nd fun z hz=>((hD z).mp hz).1
    omega
   ·have s5:ab H (upd (upd H2 q3 (dt w q3 (ap (srt (ap (R.map (·.1))))))) q4 (dt w q4 D)):=((s2.trans s3).trans s4).trans (ab.upd hq4);exact k q5 (srt D) _ (s5.trans (ab.upd hq5)) (s5.free hq5) (fun z=>by rw[SL.cu,hD z]) aa
end
end Nw
namespace L2
open PySem PySem.Spec PyProof.Rows
theorem jT{β:Type}(g:Str->NameKind->NameKind):∀(l:List (Str×NameKind)) (x:Str),(l.map fun y=>(y.1,g y.1 y.2)).lookup x=(l.lookup x).map (g x)
 |[],x=>rfl
 |(n,k)::r,x=>by
  rw[aaw,List.lookup_cons,List.lookup_cons];cases e:x == n with
  |true=>
   dsimp only;rw[eq_of_beq e];rfl
  |false=>exact jT (β:=β) g r x
theorem d8(scope:Scope)(env:Env)(x:Str):(relabel scope env).names.lookup x=(scope.names.lookup x).map fun k=>if (k == NameKind.free && env.scope.kind == .function && env.kindOf x == some .cell)=true then NameKind.cell else k:=by
 have e:(relabel scope env).names=scope.names.map fun y=>(y.1,(fun n k=>if (k == NameKind.free && env.scope.kind == .function && env.kindOf n == some .cell)=true then NameKind.cell else k) y.1 y.2):=by
  unfold relabel;refine List.map_congr_left fun y _=>?_
  obtain⟨n,k⟩:=y;dsimp only;split <;> rfl
 rw[e,jT (β:=Unit) (fun n k=>if (k == NameKind.free && env.scope.kind == .function && env.kindOf n == some .cell)=true then NameKind.cell else k)]
theorem bq.free{X:Cx}{scope:Scope}{cl:List (Str×Addr)}{N:List Str}{sel:List (Option Nat)}(fr:List Str)(clos:closureFor scope X.env=pure cl)(hk:scope.kind=.function)(hek:X.env.scope.kind=.function)
  (hn:∀y∈scope.names,y.2=.local\/(y.2=.free/\y.1∈fr))(hl:∀y∈scope.names,y.2=.local->scope.names.lookup y.1=some .local)
  (hfr:∀x∈fr,X.env.kindOf x=some .cell/\scope.names.lookup x=some .free/\∃c,cl.lookup x=some c/\X.env.cells.lookup x=some c)(hcl:∀y∈cl,y.1∈fr)
  (hlen:sel.length=N.length)(hsel:∀(j i:Nat),sel[j]? =some (some i)->∃x∈fr,X.N[i]? =some x/\N[j]? =some x):bq X scope cl N sel where
 clos:=clos
 nocell:=fun y hy z=>by
  rcases hn y hy with e|⟨e,_⟩
  ·rw[e] at z;cases z
  ·rw[e] at z;cases z
 kind:=hk
 locs:=hl
 cells:=fun x c h=>by
  obtain⟨_,_,c',h1,h2⟩:=hfr x (hcl _ (lookup_mem h));rw[h] at h1;cases h1
  exact h2
 has:=fun x ⟨v,n⟩=>by
  have key:∀kd:NameKind,(relabel scope X.env).names.lookup x=some kd->kd≠.local->∃c,cl.lookup x=some c:=fun kd h hne=>by
   rw[d8] at h;cases q:scope.names.lookup x with
   |none=>rw[q] at h;cases h
   |some k0=>
    rw[q] at h;rcases hn _ (lookup_mem q) with e|⟨_,e⟩
    ·have e:k0=.local:=e;subst e;have h:some NameKind.local=some kd:=h;injection h with h;exact absurd h.symm hne
    ·obtain⟨_,_,c,h1,_⟩:=hfr x e;exact⟨c,h1⟩
  rcases v with z|z|z
  ·exact absurd z n
  ·exact key _ z (by decide)
  ·exact key _ z (by decide)
 len:=hlen
 names:=fun j i h=>by
  obtain⟨x,hx,h1,h2⟩:=hsel j i h;obtain⟨k1,k2,_⟩:=hfr x hx;have k1:X.env.scope.names.lookup x=some .cell:=k1;refine⟨x,h1,h2,⟨.inr (.inl k1),by rw[k1];decide⟩,?_⟩;rw[d8,k2];show some (if _ then _ else _)≠_;split <;> decide
end L2
namespace Nw
open PySem L2
open SL (ap srt)
abbrev oA:Stmt:=top 7
theorem xF:aJ ["rows"] ["rows"] (aw oA):=⟨rfl,rfl,rfl,by decide +kernel,rfl,by decide +kernel,by decide +kernel⟩
def ia:Sp:=fun vs H Q _=>∃(a:Addr) (p:Row) (R:List Row),vs=[.ref a]/\bt H a (p::R)/\Q (.str p.1) H
abbrev qV:Stmt:=top 8
theorem gB:aJ ["rows","words","made","grown","left","right"] ["rows","words"] (aw qV):=⟨rfl,rfl,rfl,by decide +kernel,rfl,by decide +kernel,by decide +kernel⟩
def kK:Sp:=fun vs H Q _=>∃(a b:Addr) (R:List Row) (ws:List Str),vs=[.ref a,.ref b]/\bt H a R/\Small R/\aA H b ws/\∀q ms H',ab H H'->H q=none->ms.Nodup->(∀z,z∈ms↔Gram.Made R (·∈ws) z)->aA H' q (srt ms)->Q (.ref q) H'
def kd(ms:List Str):List (Key×V):=ms.map fun m=>((Sum.inr m:Key),V.bl true)
theorem jk:∀(ms:List Str) (x:Str),bj (kd ms) (Sum.inr x:Key)=if x∈ms then some (V.bl true) else none
 |[],x=>rfl
 |m::r,x=>by
  show bj (((Sum.inr m:Key),V.bl true)::kd r) (Sum.inr x)=_
  by_cases e:m=x
  ·subst e;rw[bU rfl,if_pos (aac ..)]
  ·rw[bV (fun z=>e (Sum.inr.inj z)),jk r x]
   by_cases h:x∈r
   ·rw[if_pos h,if_pos (aad _ h)]
   ·rw[if_neg h,if_neg fun z=>(List.mem_cons.mp z).elim (fun q=>e q.symm) h]
theorem tL{ms:List Str}{x:Str}(h:¬x∈ms):putK (kd ms) (Sum.inr x:Key) (V.bl true)=kd (ms++[x]):=by
 rw[gw _ (by rw[jk,if_neg h])];unfold kd;rw[aam];rfl
theorem p8(ms:List Str):(kd ms).map (·.1)=ms.map Sum.inr:=by
 unfold kd;rw[List.map_map];rfl
theorem dF(x:Str):∀ws:List Str,inV (.str x) (ws.map V.str)=decide (x∈ws)
 |[]=>rfl
 |y::r=>by
  have ih:=dF x r;unfold inV at ih ⊢;rw[aaw,List.any_cons,ih];show((y == x) || decide (x∈r))=_
  by_cases e:y=x
  ·subst e;simp
  ·have e1:(y == x)=false:=beq_eq_false_iff_ne.mpr e;have e2:¬x=y:=fun z=>e z.symm
   simp[e1,e2]
theorem dz:∀ws:List Str,(ws.map V.str).all ga=true
 |[]=>rfl
 |_::r=>dz r
theorem cS{H:Hp}{vs:List V}{R:List Row}(hp:Paired (df H) vs R){i:Nat}{x:V}(hx:vs[i]? =some x):∃p t b,R[i]? =some p/\x=.ref t/\H t=some (.tup [.str p.1,.ref b])/\aA H b p.2:=by
 obtain⟨p,hpi,t,b,rfl,ht,hb⟩:=aW hp i x hx;exact⟨p,t,b,hpi,rfl,ht,hb⟩
section
variable {P:Program}{w:World}{K:PySem.W.Frag}{mg:Str->Option Value}{base:Heap}
theorem vd{f:Addr}{fd:FuncData}(F:Fun K "first_sort" "first_sort" oA f fd):be P w K mg base CX0 1 f fd ["rows"] ia:=by
 refine F.ok xF (fun vs H Q E h=>?_) (fun cdv A outer s H vs Q E hr h=>?_)
 ·obtain⟨a,p,R,rfl,_⟩:=h;rfl
 ·obtain⟨a,p,R,rfl,hR,k⟩:=h;refine⟨_,ag (aQ (aC aF (aC bn (pv 0) am (fun _ _=>rfl)) am (fun _ _=>rfl))),?_⟩;obtain⟨vs,hv,hp⟩:=hR;cases hp with
  |@cons v _ vr _ h1 h2=>
   obtain⟨t,b,rfl,ht,hb⟩:=h1;exact⟨_,rfl,a,_,0,_,rfl,rfl,SqL.of hv,ak (j:=0) rfl,t,_,0,_,rfl,rfl,SqT.of ht,ak (j:=0) rfl,k⟩
theorem xG{f:Addr}{fd:FuncData}(F:Fun K "sorts_made_of" "sorts_made_of" qV f fd)(T:Txt mg):be P w K mg base CX0 1 f fd ["rows","words"] kK:=by
 refine F.ok gB (fun vs H Q E h=>?_) (fun cdv A outer s H vs Q E hr h=>?_)
 ·obtain⟨a,b,R,ws,rfl,_⟩:=h;rfl
 ·obtain⟨a,b,R,ws,rfl,hR,hsm,hW,k⟩:=h;have hu:=cI hr;refine⟨_,af (aq (i:=2) gB.nd rfl (Or.inr rfl) fm)
   (af (aq (i:=3) gB.nd rfl (Or.inl rfl) fF)
   (af (dS PassesOwn.never (ba (pv 3))
    (af (aq (i:=3) gB.nd rfl (Or.inl rfl) fF)
    (ag (bb PassesOwn.never rfl (aO (pv 0)) (cT (n:=2) rfl (aN (az (i:=4) gB.nd rfl (Or.inl rfl)) (aN (az (i:=5) gB.nd rfl (Or.inl rfl)) cp)))
     (ag (a7 (PW.pt (nG (gt (jb hu (pv 4) (pv 2))) (lC (ba (au (ox rfl) (by rfl) T.all PyProof.Rows.boot_all (ai
       (dj (bq.free (N:=["sign","words","made"]) (sel:=[none,some 1,some 2]) ["words","made"] (by rfl) (by rfl) (by rfl) ?c1 ?c2 ?c3 ?c4 (by rfl) ?c5) rfl (aO (pv 5)) (fun s₃ H₃ fp=>az (i:=0) (show(["sign","words","made"]:List Str).Nodup by decide) rfl (Or.inl rfl)) (fun s₃ H₃ fp=>di)
        (fun s₃ H₃ fp=>zH (hV (r:=rIn K false) fQ (pv 0) (pv 1) (by with_unfolding_all rfl)) (sC (yh (ja (X:=cD _ _ _ _ _ _ _) hu (pv 0) (pv 2)))))) ac))))))
      (af (fk hu (pv 2) (pv 4) fF rfl) (ag (aq (i:=3) gB.nd rfl (Or.inl rfl) fF))) aT))))))
   (ag (aQ (au (cR rfl) (by rfl) T.srt PyProof.Rows.boot_sorted (ai (pv 2) ac)))))),?_⟩
  case c1=>decide
  case c2=>decide
  case c3=>
   intro x hx;rcases List.mem_cons.mp hx with rfl|hx
   ·exact⟨rfl,rfl,_,rfl,rfl⟩
   ·rcases List.mem_cons.mp hx with rfl|hx
    ·exact⟨rfl,rfl,_,rfl,rfl⟩
    ·cases hx
  case c4=>
   intro y hy;rcases List.mem_cons.mp hy with rfl|hy
   ·exact aac ..
   ·rcases List.mem_cons.mp hy with rfl|hy
    ·exact aad _ (aac ..)
    ·cases hy
  case c5=>
   intro j i h;rcases j with _|_|_|j
   ·cases h
   ·cases h;exact⟨"words",aac ..,rfl,rfl⟩
   ·cases h;exact⟨"made",aad _ (aac ..),rfl,rfl⟩
   ·cases h
  obtain⟨vs,hv,hp⟩:=id hR;have hlen:vs.length=R.length:=Paired.length hp;have hRl:=hsm.len;intro d hd;refine⟨fun m σ H1=>∃ms g l r,σ=[some (.ref a),some (.ref b),some (.ref d),some (.bl g),l,r]/\ab H H1/\H1 d=some (.dK (kd ms))/\ms.Nodup/\(∀x∈ms,Gram.Made R (·∈ws) x)/\
    (g=false->∀l r,(l,r)∈R->(∀s∈r,s∈ws\/s∈ms)->l∈ms)/\m=(if g=true then 1 else 0)+2*(R.length - ms.length),
   ⟨_,[],true,none,none,rfl,ab.upd hd,aa,List.nodup_nil,fun x hx=>(by cases hx),fun z=>(by cases z),rfl⟩,?_⟩
  rintro m0 σ H1 ⟨ms0,g0,l0,r0,rfl,s1,hd1,nd0,so0,cl0,rfl⟩;refine⟨_,rfl,g0,rfl,?_⟩;have lenR:∀{ms:List Str},ms.Nodup->(∀x∈ms,Gram.Made R (·∈ws) x)->ms.length<=R.length:=fun nd so=>by
   have:=Gram.cw nd fun x hx=>(so x hx).left
   rw[aaa] at this;exact this
  cases g0 with
  |false=>
   refine aK ?_;have cl:=cl0 rfl;have l14:=lenR nd0 so0;refine⟨_,rfl,d,ms0,rfl,.inr (.inr ⟨_,hd1,p8 ms0⟩),by omega,fun q hq=>?_⟩;exact k q ms0 _ (s1.trans (ab.upd hq)) (s1.free hq) nd0 (fun z=>⟨so0 z,fun h=>Gram.lJ cl h⟩) aa
  |true=>
   refine bF ?_;refine⟨fun σ H2=>∃ms g l r,σ=[some (.ref a),some (.ref b),some (.ref d),some (.bl g),l,r]/\ab H H2/\H2 d=some (.dK (kd ms))/\ms.Nodup/\(∀x∈ms,Gram.Made R (·∈ws) x)/\
     (g=false->ms=ms0/\∀l r,(l,r)∈R->(∀s∈r,s∈ws\/s∈ms0)->l∈ms0)/\(g=true->ms0.length<ms.length),?_,?_⟩
   ·rintro σ' H' ⟨ms,g,l,r,rfl,s2,hd2,nd,so,cf,ct⟩;have l14:=lenR nd so;refine⟨(if g=true then 1 else 0)+2*(R.length - ms.length),?_,ms,g,l,r,rfl,s2,hd2,nd,so,fun z=>?_,rfl⟩
    ·rw[if_pos rfl];cases g with
     |true=>
      have:=ct rfl;rw[if_pos rfl];omega
     |false=>
      have:=(cf rfl).1;rw[if_neg (by decide),this];omega
    ·obtain⟨e,cl⟩:=cf z;rw[e];exact cl
   refine⟨_,rfl,a,rfl,⟨_,s1.seq (SqL.of hv)⟩,bc (K:=K) (a:=a) (xs:=vs)
    (fun i σ H2=>∃ms g l r,σ=[some (.ref a),some (.ref b),some (.ref d),some (.bl g),l,r]/\ab H H2/\H2 d=some (.dK (kd ms))/\ms.Nodup/\(∀x∈ms,Gram.Made R (·∈ws) x)/\ms0.length<=ms.length/\
     (g=false->ms=ms0/\∀j l r,j<i->R[j]? =some (l,r)->(∀s∈r,s∈ws\/s∈ms0)->l∈ms0)/\(g=true->ms0.length<ms.length))
    ⟨ms0,false,l0,r0,rfl,s1,hd1,nd0,so0,Nat.le_refl _,fun _=>⟨rfl,fun j l r hj=>absurd hj (Nat.not_lt_zero _)⟩,fun z=>(by cases z)⟩ ?_ ?_ ?_⟩
   ·rintro i σ H2 _ ⟨_,_,_,_,_,s2,_⟩;exact s2.seq (SqL.of hv)
   ·rintro i x σ H2 hx ⟨ms,g,l,r,rfl,s2,hd2,nd,so,le,cf,ct⟩;obtain⟨p,t,c,hpi,rfl,ht,hc⟩:=cS hp hx;have hpm:(p.1,p.2)∈R:=aah hpi;refine⟨t,_,rfl,SqT.of (s2 _ _ ht),rfl,_,_,rfl,_,_,rfl,rfl,?_⟩;refine⟨_,rfl,_,rfl,d,_,rfl,bR.k (k:=Sum.inr p.1) hd2,_,rfl,?_⟩;rw[jk]
    by_cases hin:p.1∈ms
    ·rw[if_pos hin];refine aK (aK ?_);refine⟨ms,g,_,_,rfl,s2,hd2,nd,so,le,fun z=>?_,ct⟩;obtain⟨e,cl⟩:=cf z;refine⟨e,fun j l r hj hR' hs=>?_⟩;rcases Nat.lt_or_ge j i with q|q
     ·exact cl j l r q hR' hs
     ·have:j=i:=by omega
      subst this;rw[hpi] at hR';cases hR'
      rw[←e];exact hin
    ·rw[if_neg hin];refine bF ?_;have hc2:H2 c=some (.lst (p.2.map V.str)):=s2 _ _ hc;have hw2:H2 b=some (.lst (ws.map V.str)):=s2 _ _ hW;refine⟨_,rfl,c,rfl,⟨_,SqL.of hc2⟩,fun D hD=>cO (K:=K) (xs:=p.2.map V.str)
      (fun i τ H3=>(∃o,τ=[o,some (.ref b),some (.ref d)])/\H3=upd H2 D (.lst ((p.2.take i).map fun s=>V.bl (decide (s∈ws\/s∈ms))))) ⟨⟨_,rfl⟩,rfl⟩ ?_ ?_ ?_⟩
     ·rintro i τ H3 ⟨_,rfl⟩;exact(ab.upd hD).seq (SqL.of hc2)
     ·rintro i x τ H3 hx ⟨⟨o,rfl⟩,rfl⟩;obtain⟨sg,hsg,rfl⟩:∃sg,p.2[i]? =some sg/\V.str sg=x:=by
       rw[aax] at hx;cases e:p.2[i]? with
       |none=>rw[e] at hx;cases hx
       |some sg=>rw[e] at hx;exact⟨sg,rfl,Option.some.inj hx⟩
      have sD:=ab.upd (o:=HO.lst ((p.2.take i).map fun s=>V.bl (decide (s∈ws\/s∈ms)))) hD;have hil:i<p.2.length:=(aab.mp hsg).1;have fin:∀bo:Bool,bo=decide (sg∈ws\/sg∈ms)->∃ys,upd H2 D (.lst ((p.2.take i).map fun s=>V.bl (decide (s∈ws\/s∈ms)))) D=some (.lst ys)/\ys.length<sizeLine/\
        (∃o',[some (V.str sg),some (V.ref b),some (V.ref d)]=[o',some (.ref b),some (.ref d)])/\upd (upd H2 D (.lst ((p.2.take i).map fun s=>V.bl (decide (s∈ws\/s∈ms))))) D (.lst (ys++[V.bl bo]))=upd H2 D (.lst ((p.2.take (i+1)).map fun s=>V.bl (decide (s∈ws\/s∈ms)))):=by
       rintro bo rfl;refine⟨_,aa,?_,⟨_,rfl⟩,?_⟩
       ·rw[aaa,aal];have:=hsm.wid p (aah hpi);exact aD (by omega)
       ·rw[cZ,aap,hsg,aam];rfl
      refine⟨_,rfl,_,rfl,b,_,rfl,.inl (SqL.of (sD _ _ hw2)),rfl,dz ws,_,rfl,?_⟩;rw[dF]
      by_cases hin1:sg∈ws
      ·rw[aan hin1];refine bF (fin true ?_);rw[aan (.inl hin1)]
      ·rw[aai hin1];refine aK ?_;refine⟨_,rfl,_,rfl,d,_,rfl,bR.k (k:=Sum.inr sg) (sD _ _ hd2),?_⟩;rw[jk]
       by_cases hin2:sg∈ms
       ·rw[if_pos hin2];exact fin true (by rw[aan (.inr hin2)])
       ·rw[if_neg hin2];exact fin false (by rw[aai];rintro(z|z);exact hin1 z;exact hin2 z)
     ·rintro τ H3 ⟨_,rfl⟩;rw[aaa,aas];have sD:=ab.upd (o:=HO.lst (p.2.map fun s=>V.bl (decide (s∈ws\/s∈ms)))) hD;have s3:ab H _:=s2.trans sD;refine⟨D,p.2.map fun s=>decide (s∈ws\/s∈ms),rfl,SqL.of (by rw[aa,List.map_map];rfl),_,rfl,?_⟩;have hall:((p.2.map fun s=>decide (s∈ws\/s∈ms)).all id=true)↔∀s∈p.2,s∈ws\/s∈ms:=by
       rw[List.all_map,List.all_eq_true];exact⟨fun h s hs=>of_decide_eq_true (h s hs),fun h s hs=>aan (h s hs)⟩
      cases hb:(p.2.map fun s=>decide (s∈ws\/s∈ms)).all id with
      |true=>
       refine bF ?_;have ha:=hall.mp hb;have l14:=lenR nd so;have hd3:upd H2 D (.lst (p.2.map fun s=>V.bl (decide (s∈ws\/s∈ms)))) d=some (.dK (kd ms)):=sD _ _ hd2;refine⟨_,rfl,_,rfl,d,_,rfl,e7.k (k:=Sum.inr p.1) hd3 (by unfold kd;rw[aaa];exact aD (by omega)),?_⟩;rw[tL hin];refine⟨ms++[p.1],true,_,_,rfl,s3.bK hd,aa,fq nd hin,fun x hx=>?_,by rw[aag];omega,fun z=>(by cases z),fun _=>by rw[aag,aav];omega⟩;rcases aak.mp hx with q|q
       ·exact so x q
       ·rw[aaj.mp q];exact Gram.tI so hpm ha
      |false=>
       refine aK ?_;refine⟨ms,g,_,_,rfl,s3,sD _ _ hd2,nd,so,le,fun z=>?_,ct⟩;obtain⟨e,cl⟩:=cf z;refine⟨e,fun j l r hj hR' hs=>?_⟩;rcases Nat.lt_or_ge j i with q|q
       ·exact cl j l r q hR' hs
       ·have:j=i:=by omega
        subst this;rw[hpi] at hR';cases hR'
        exfalso;have:=hall.mpr (by rw[e];exact hs);rw[hb] at this;cases this
   ·rintro σ H2 ⟨ms,g,l,r,rfl,s2,hd2,nd,so,le,cf,ct⟩;rw[hlen] at cf;refine⟨ms,g,l,r,rfl,s2,hd2,nd,so,fun z=>?_,ct⟩;obtain⟨e,cl⟩:=cf z;refine⟨e,fun l r hm hs=>?_⟩;obtain⟨j,hj⟩:=List.mem_iff_getElem?.mp hm;exact cl j l r (aab.mp hj).1 hj hs
end
end Nw
namespace Nw
open PySem L2
open SL (ap srt)
abbrev Tab:=List (Str×List Str)
def gP(H:Hp)(kv:Key×V)(e:Str×List Str):Prop:=kv.1=Sum.inr e.1/\∃l,kv.2=.ref l/\aA H l e.2
def d9(H:Hp)(a:Addr)(f:Tab):Prop:=∃kvs,Rd H a (.dK kvs)/\Paired (gP H) kvs f
def getL(f:Tab)(x:Str):List Str:=(f.lookup x).getD []
theorem xH{H H':Hp}(e:ab H H'){a:Addr}{u:HO}(h:Rd H a u):Rd H' a u:=by
 rcases h with h|⟨o,h⟩
 ·exact .inl (e _ _ h)
 ·exact .inr ⟨o,e _ _ h⟩
theorem d9.mono{H H':Hp}(e:ab H H'){a:Addr}{f:Tab}(h:d9 H a f):d9 H' a f:=by
 obtain⟨kvs,h1,h2⟩:=h;exact⟨kvs,xH e h1,Paired.bT h2 fun _ _ ⟨q1,l,q2,q3⟩=>⟨q1,l,q2,e _ _ q3⟩⟩
theorem jC{H:Hp}:∀{kvs:List (Key×V)} {f:Tab},Paired (gP H) kvs f->∀(x:Str),(f.lookup x=none/\bj kvs (Sum.inr x:Key)=none)\/∃ys l,f.lookup x=some ys/\bj kvs (Sum.inr x:Key)=some (.ref l)/\aA H l ys
 |_,_,.nil,x=>.inl ⟨rfl,rfl⟩
 |_,_,@Paired.cons _ _ _ kv e _ _ ⟨h1,l,h2,h3⟩ t,x=>by
  obtain⟨k,v⟩:=kv;obtain⟨n,ys⟩:=e;have h1:k=Sum.inr n:=h1;have h2:v=.ref l:=h2;subst h1;subst h2;rw[List.lookup_cons]
  by_cases q:n=x
  ·subst q
   right
   refine⟨ys,l,?_,bU rfl,h3⟩;simp
  ·have q':(x == n)=false:=beq_eq_false_iff_ne.mpr fun z=>q z.symm
   rw[q',bV (fun z=>q (Sum.inr.inj z))];exact jC t x
theorem cA:∀{f:Tab} {x:Str},x∈f.map (·.1)->∃ys,f.lookup x=some ys/\(x,ys)∈f
 |[],x,h=>by cases h
 |(n,ys)::r,x,h=>by
  rw[List.lookup_cons];cases e:x == n with
  |true=>
   have e:=eq_of_beq e;subst e;exact⟨ys,rfl,aac ..⟩
  |false=>
   rcases List.mem_cons.mp h with z|z
   ·rw[z] at e;simp at e
   ·obtain⟨ys',h1,h2⟩:=cA z;exact⟨ys',h1,aad _ h2⟩
theorem d9.get{H:Hp}{a:Addr}{f:Tab}(h:d9 H a f){x:Str}(hx:x∈f.map (·.1)):∃l,bR H a (.str x) (some (.ref l))/\aA H l (getL f x):=by
 obtain⟨kvs,h1,h2⟩:=h;obtain⟨ys,e,_⟩:=cA hx;rcases jC h2 x with ⟨z,_⟩|⟨ys',l,z,v,hl⟩
 ·rw[e] at z;cases z
 ·refine⟨l,.inl ⟨kvs,Sum.inr x,h1,rfl,v.symm⟩,?_⟩;unfold getL;rw[z];exact hl
def wsum(f:Tab)(ms:List Str):Nat:=(f.map fun e=>if e.1∈ms then 0 else e.2.length).sum
theorem lL:∀(f:Tab) (ms:List Str),wsum f ms<=(f.map fun e=>e.2.length).sum
 |[],_=>Nat.le_refl _
 |e::r,ms=>by
  have:=lL r ms;unfold wsum at this ⊢;rw[aaw,List.sum_cons,aaw,List.sum_cons];split <;> omega
theorem oB:∀{f:Tab} {ms:List Str} {x:Str},¬x∈f.map (·.1)->wsum f (ms++[x])=wsum f ms
 |[],_,_,_=>rfl
 |e::r,ms,x,h=>by
  have h1:¬e.1=x:=fun z=>h (by rw[←z];exact aac ..)
  have h2:=oB (f:=r) (ms:=ms) (x:=x) fun z=>h (aad _ z)
  unfold wsum at h2 ⊢;rw[aaw,List.sum_cons,aaw,List.sum_cons,h2];have:(e.1∈ms++[x])↔e.1∈ms:=by rw[aak,aaj];exact⟨fun z=>z.resolve_right h1,.inl⟩
  by_cases z:e.1∈ms
  ·rw[if_pos z,if_pos (this.mpr z)]
  ·rw[if_neg z,if_neg fun q=>z (this.mp q)]
theorem lM:∀{f:Tab} {ms:List Str} {x:Str},(f.map (·.1)).Nodup->x∈f.map (·.1)->¬x∈ms->wsum f (ms++[x])+(getL f x).length=wsum f ms
 |[],_,_,_,h,_=>by cases h
 |e::r,ms,x,nd,h,hx=>by
  rw[aaw,List.nodup_cons] at nd;obtain⟨n,ys⟩:=e
  by_cases q:n=x
  ·subst q;have h1:=oB (f:=r) (ms:=ms) (x:=n) nd.1;unfold wsum at h1 ⊢;rw[aaw,List.sum_cons,aaw,List.sum_cons,h1];have:getL ((n,ys)::r) n=ys:=by unfold getL;simp
   rw[this,if_pos (by simp),if_neg hx];show 0+_+ys.length=ys.length+_;omega
  ·have hr:x∈r.map (·.1):=by
    rcases List.mem_cons.mp h with z|z
    ·exact absurd z.symm q
    ·exact z
   have h1:=lM (f:=r) nd.2 hr hx;have q':(x == n)=false:=beq_eq_false_iff_ne.mpr fun z=>q z.symm
   have:getL ((n,ys)::r) x=getL r x:=by unfold getL;rw[List.lookup_cons,q']
   rw[this];unfold wsum at h1 ⊢;rw[aaw,List.sum_cons,aaw,List.sum_cons];have e2:(n∈ms++[x])↔n∈ms:=by rw[aak,aaj];exact⟨fun z=>z.resolve_right q,.inl⟩
   by_cases z:n∈ms
   ·rw[if_pos z,if_pos (e2.mpr z)];omega
   ·rw[if_neg z,if_neg fun q=>z (e2.mp q)];show ys.length+_+_=ys.length+_;omega
theorem gf{wi:List Str}{here y:Str}:y∈wi.concat here↔y∈wi\/y∈[here]:=by rw[List.concat_eq_append,aak]
structure Links(f:Tab):Prop where
 nd:(f.map (·.1)).Nodup
 cl:∀e∈f,∀y∈e.2,y∈f.map (·.1)
 len:f.length<=14
 sz:(f.map fun e=>e.2.length).sum<=10000
abbrev oD:Stmt:=top 9
theorem jD:aJ ["links","sort","reached","waiting","here"] ["links","sort"] (aw oD):=⟨rfl,rfl,rfl,by decide +kernel,rfl,by decide +kernel,by decide +kernel⟩
def jE:Sp:=fun vs H Q _=>∃(a:Addr) (x:Str) (f:Tab),vs=[.ref a,.str x]/\d9 H a f/\Links f/\x∈f.map (·.1)/\∀q ms H',ab H H'->H q=none->ms.Nodup->(∀z,z∈ms↔Gram.Reach (getL f) x z)->aA H' q (srt ms)->Q (.ref q) H'
theorem cy{n:Nat}(h:n<=20000):n<=sizeLine:=by rw[PySem.sizeLine_eq];omega
section
variable {P:Program}{w:World}{K:PySem.W.Frag}{mg:Str->Option Value}{base:Heap}
theorem ve{f:Addr}{fd:FuncData}(F:Fun K "sorts_reached" "sorts_reached" oD f fd)(T:Txt mg):be P w K mg base CX0 1 f fd ["links","sort"] jE:=by
 refine F.ok jD (fun vs H Q E h=>?_) (fun cdv A outer s H vs Q E hr h=>?_)
 ·obtain⟨a,x,f,rfl,_⟩:=h;rfl
 ·obtain⟨a,x,f,rfl,hL,hf,hx,k⟩:=h;have hu:=cI hr;refine⟨_,af (aq (i:=2) jD.nd rfl (Or.inl rfl) fm)
   (af (aq (i:=3) jD.nd rfl (Or.inl rfl) (bx (ai (pv 1) ac)))
   (af (dS PassesOwn.never (uJ (pv 3) (fun _=>rfl))
    (af (aq (i:=4) jD.nd rfl (Or.inl rfl) (kz PySem.F.plainAttrs_list PySem.F.slot_list_pop PySem.F.type_list_pop kA (pv 3)))
    (ag (a7 (gt (jb hu (pv 4) (pv 2)))
     (af (fk hu (pv 2) (pv 4) fF rfl)
     (ag (bv (bZ PySem.F.plainAttrs_list PySem.F.slot_list_extend PySem.F.type_list_extend dU (pv 3) (ai (cq hu (pv 0) (pv 4) (fun _ _=>rfl)) ac)))))
     aT))))
   (ag (aQ (au (cR rfl) (by rfl) T.srt PyProof.Rows.boot_sorted (ai (pv 2) ac)))))),?_⟩
  intro d hd;refine⟨_,rfl,(show 1<=sizeLine by decide),fun wl hwl=>?_⟩;have hwd:H wl=none:=(ab.upd (o:=HO.dK []) hd).free hwl;have ndw:wl≠d:=fun z=>by rw[z,aa] at hwl;cases hwl
  have hfl:=hf.len;refine⟨fun m σ H1=>∃ms ws o,σ=[some (.ref a),some (.str x),some (.ref d),some (.ref wl),o]/\ab H H1/\H1 d=some (.dK (kd ms))/\aA H1 wl ws/\ms.Nodup/\(∀z∈ms,z∈f.map (·.1)/\Gram.Reach (getL f) x z)/\
    (∀z∈ws,z∈f.map (·.1)/\Gram.Reach (getL f) x z)/\(x∈ms\/x∈ws)/\(∀z∈ms,∀y∈getL f z,y∈ms\/y∈ws)/\m=ws.length+wsum f ms/\m<=1+(f.map fun e=>e.2.length).sum,
   ⟨_,[],[x],none,rfl,(ab.upd hd).trans (ab.upd hwl),by rw[aj (Ne.symm ndw),aa];rfl,aa,List.nodup_nil,fun z hz=>(by cases hz),fun z hz=>by
    rw[aaj.mp hz];exact⟨hx,.refl⟩,.inr (aac ..),fun z hz=>(by cases hz),rfl,by have:=lL f [];simp only[aav];omega⟩,?_⟩
  rintro m σ H1 ⟨ms,ws,o,rfl,s1,hd1,hw1,nd,so,sw,st,cl,rfl,hm⟩;refine⟨_,rfl,_,.inl ⟨_,SqL.of hw1,rfl⟩,?_⟩;have lenM:ms.length<=f.length:=by
   have:=Gram.cw nd fun z hz=>(so z hz).1
   rw[aaa] at this;exact this
  rcases List.eq_nil_or_concat ws with rfl|⟨wi,here,rfl⟩
  ·refine aK ?_;refine⟨_,rfl,d,ms,rfl,.inr (.inr ⟨_,hd1,p8 ms⟩),by omega,fun q hq=>?_⟩;refine k q ms _ (s1.trans (ab.upd hq)) (s1.free hq) nd (fun z=>⟨fun h=>(so z h).2,fun h=>?_⟩) aa;refine Gram.gM (st.resolve_right (by intro z;cases z)) (fun z hz y hy=>(cl z hz y hy).resolve_right (by intro z;cases z)) h
  ·have e0:(!((wi.concat here).map V.str).isEmpty)=true:=by simp
   rw[e0];refine bF ?_;have hw1:H1 wl=some (.lst ((wi.map V.str)++[V.str here])):=by
    have:=hw1;unfold aA at this;rw[this];simp
   obtain⟨hk,hre⟩:=sw here (by simp);have nwd:H1 wl≠H1 d:=by rw[hw1,hd1];intro z;cases z
   have hwld:wl≠d:=ndw;have s2:ab H (upd H1 wl (.lst (wi.map V.str))):=s1.bK hwd;have hd2:upd H1 wl (.lst (wi.map V.str)) d=some (.dK (kd ms)):=by rw[aj (Ne.symm hwld)];exact hd1
   refine⟨fun σ H2=>∃ms' ws' o,σ=[some (.ref a),some (.str x),some (.ref d),some (.ref wl),o]/\ab H H2/\H2 d=some (.dK (kd ms'))/\aA H2 wl ws'/\ms'.Nodup/\(∀z∈ms',z∈f.map (·.1)/\Gram.Reach (getL f) x z)/\
    (∀z∈ws',z∈f.map (·.1)/\Gram.Reach (getL f) x z)/\(x∈ms'\/x∈ws')/\(∀z∈ms',∀y∈getL f z,y∈ms'\/y∈ws')/\ws'.length+wsum f ms'+1=(wi.concat here).length+wsum f ms,?_,?_⟩
   ·rintro σ' H' ⟨ms',ws',o',rfl,q1,q2,q3,q4,q5,q6,q7,q8,q9⟩;exact⟨_,by omega,ms',ws',o',rfl,q1,q2,q3,q4,q5,q6,q7,q8,rfl,by omega⟩
   refine⟨_,rfl,.inl ⟨rfl,_,SqL.of hw1⟩,wl,_,V.str here,rfl,rfl,hw1,by simp,?_⟩;rw[List.dropLast_concat];refine⟨_,rfl,_,rfl,d,_,rfl,bR.k (k:=Sum.inr here) hd2,_,rfl,?_⟩;rw[jk]
   by_cases hin:here∈ms
   ·rw[if_pos hin];refine aK ?_;refine⟨ms,wi,_,rfl,s2,hd2,aa,nd,so,fun z hz=>sw z (by simp[hz]),?_,fun z hz y hy=>?_,by simp;omega⟩
    ·rcases st with z|z
     ·exact .inl z
     ·rcases gf.mp z with q|q
      ·exact .inr q
      ·exact .inl (by rw[aaj.mp q];exact hin)
    ·rcases cl z hz y hy with q|q
     ·exact .inl q
     ·rcases gf.mp q with q|q
      ·exact .inr q
      ·exact .inl (by rw[aaj.mp q];exact hin)
   ·rw[if_neg hin];refine bF ?_;refine⟨_,rfl,_,rfl,d,_,rfl,e7.k (k:=Sum.inr here) hd2 (by unfold kd;rw[aaa];exact aD (by omega)),?_⟩;rw[tL hin];have s3:ab H (upd (upd H1 wl (.lst (wi.map V.str))) d (.dK (kd (ms++[here])))):=s2.bK hd;have hw3:upd (upd H1 wl (.lst (wi.map V.str))) d (.dK (kd (ms++[here]))) wl=some (.lst (wi.map V.str)):=by rw[aj hwld,aa]
    obtain⟨l,hg,hl⟩:=(hL.mono s3).get hk;have hws:=lM (ms:=ms) hf.nd hk hin;have hgl:∀y∈getL f here,y∈f.map (·.1)/\Gram.Reach (getL f) x y:=fun y hy=>by
     refine⟨?_,.step hre hy⟩;obtain⟨ys,e1,e2⟩:=cA hk;unfold getL at hy;rw[e1] at hy;exact hf.cl _ e2 y hy
    refine⟨_,rfl,.inl ⟨rfl,_,SqL.of hw3⟩,_,rfl,_,rfl,a,_,rfl,hg,wl,l,_,_,rfl,rfl,hw3,hl,?_,?_⟩
    ·rw[aaa,aaa];have:=hf.sz;simp only[List.length_concat] at hm;exact cy (by omega)
    ·refine⟨ms++[here],wi++getL f here,_,rfl,s3.bK hwd,?_,?_,fq nd hin,fun z hz=>?_,fun z hz=>?_,?_,fun z hz y hy=>?_,?_⟩
     ·rw[aj (Ne.symm hwld),aa]
     ·unfold aA;rw[aa,aam]
     ·rcases aak.mp hz with q|q
      ·exact so z q
      ·rw[aaj.mp q];exact⟨hk,hre⟩
     ·rcases aak.mp hz with q|q
      ·exact sw z (by simp[q])
      ·exact hgl z q
     ·rcases st with z|z
      ·exact .inl (List.mem_append_left _ z)
      ·rcases gf.mp z with q|q
       ·exact .inr (List.mem_append_left _ q)
       ·exact .inl (aar _ q)
     ·rcases aak.mp hz with q|q
      ·rcases cl z q y hy with r|r
       ·exact .inl (List.mem_append_left _ r)
       ·rcases gf.mp r with r|r
        ·exact .inr (List.mem_append_left _ r)
        ·exact .inl (aar _ r)
      ·rw[aaj.mp q] at hy;exact .inr (aar _ hy)
     ·simp only[aag,List.length_concat];omega
end
end Nw
namespace Nw
open PySem L2
open SL (ap srt)
abbrev KA:=List (Str×Addr)
def kvsOf(ka:KA):List (Key×V):=ka.map fun e=>((Sum.inr e.1:Key),V.ref e.2)
structure Ka(H:Hp)(d:Addr)(ka:KA):Prop where
 ndk:(ka.map (·.1)).Nodup
 nda:(ka.map (·.2)).Nodup
 ne:∀e∈ka,e.2≠d
 fr:∀e∈ka,H e.2=none
 frd:H d=none
structure bG(H:Hp)(d:Addr)(ka:KA)(v:Str->List Str):Prop where
 dk:H d=some (.dK (kvsOf ka))
 at_:∀e∈ka,H e.2=some (.lst ((v e.1).map V.str))
theorem ib:∀{ka:KA},(ka.map (·.1)).Nodup->∀(x:Str),(¬x∈ka.map (·.1)/\bj (kvsOf ka) (Sum.inr x:Key)=none)\/∃a,(x,a)∈ka/\bj (kvsOf ka) (Sum.inr x:Key)=some (.ref a)
 |[],_,x=>.inl ⟨fun h=>(by cases h),rfl⟩
 |(n,a)::r,nd,x=>by
  rw[aaw,List.nodup_cons] at nd;show _\/∃a',(x,a')∈(n,a)::r/\bj (((Sum.inr n:Key),V.ref a)::kvsOf r) (Sum.inr x)=some (.ref a')
  by_cases q:n=x
  ·subst q;exact .inr ⟨a,aac ..,bU rfl⟩
  ·have e:bj (((Sum.inr n:Key),V.ref a)::kvsOf r) (Sum.inr x:Key)=bj (kvsOf r) (Sum.inr x:Key):=bV fun z=>q (Sum.inr.inj z)
   rcases ib nd.2 x with ⟨h1,h2⟩|⟨a',h1,h2⟩
   ·left
    refine⟨fun z=>?_,by show bj (((Sum.inr n:Key),V.ref a)::kvsOf r) (Sum.inr x)=none;rw[e];exact h2⟩;rcases List.mem_cons.mp z with z|z
    ·exact q z.symm
    ·exact h1 z
   ·right
    exact⟨a',aad _ h1,by rw[e];exact h2⟩
theorem bG.get{H H0:Hp}{d:Addr}{ka:KA}{v:Str->List Str}(h:bG H d ka v)(g:Ka H0 d ka){x:Str}(hx:x∈ka.map (·.1)):∃a,(x,a)∈ka/\bR H d (.str x) (some (.ref a))/\H a=some (.lst ((v x).map V.str)):=by
 rcases ib g.ndk x with ⟨z,_⟩|⟨a,h1,h2⟩
 ·exact absurd hx z
 ·exact⟨a,h1,.inl ⟨_,Sum.inr x,.inl h.dk,rfl,h2.symm⟩,h.at_ _ h1⟩
theorem bG.has{H H0:Hp}{d:Addr}{ka:KA}{v:Str->List Str}(h:bG H d ka v)(g:Ka H0 d ka)(x:Str):∃o,bR H d (.str x) o/\o.isSome=decide (x∈ka.map (·.1)):=by
 refine⟨_,bR.k (k:=Sum.inr x) h.dk,?_⟩;rcases ib g.ndk x with ⟨z,h2⟩|⟨a,h1,h2⟩
 ·rw[h2,aai z];rfl
 ·rw[h2,aan (aao.mpr ⟨_,h1,rfl⟩)];rfl
theorem bG.keep{H H':Hp}{d:Addr}{ka:KA}{v:Str->List Str}(h:bG H d ka v)(k:ab H H'):bG H' d ka v:=⟨k _ _ h.dk,fun e he=>k _ _ (h.at_ e he)⟩
theorem bG.congr{H:Hp}{d:Addr}{ka:KA}{v v':Str->List Str}(h:bG H d ka v)(e:∀x∈ka.map (·.1),v x=v' x):bG H d ka v':=
 ⟨h.dk,fun y hy=>by rw[←e y.1 (aao.mpr ⟨y,hy,rfl⟩)];exact h.at_ y hy⟩
theorem oE:∀{ka:KA},(ka.map (·.2)).Nodup->∀{x y:Str} {a:Addr},(x,a)∈ka->(y,a)∈ka->x=y
 |[],_,_,_,_,h,_=>by cases h
 |(n,b)::r,nd,x,y,a,h1,h2=>by
  rw[aaw,List.nodup_cons] at nd;rcases List.mem_cons.mp h1 with e1|e1
  ·rcases List.mem_cons.mp h2 with e2|e2
   ·cases e1;cases e2;rfl
   ·cases e1
    exact absurd (aao.mpr ⟨_,e2,rfl⟩) nd.1
  ·rcases List.mem_cons.mp h2 with e2|e2
   ·cases e2
    exact absurd (aao.mpr ⟨_,e1,rfl⟩) nd.1
   ·exact oE nd.2 e1 e2
theorem bG.app{H H0:Hp}{d:Addr}{ka:KA}{v:Str->List Str}(h:bG H d ka v)(g:Ka H0 d ka){x:Str}{a:Addr}(ha:(x,a)∈ka)(more:List Str) :
  bG (upd H a (.lst ((v x++more).map V.str))) d ka (fun y=>if y=x then v x++more else v y):=by
 refine⟨by rw[aj (Ne.symm (g.ne _ ha))];exact h.dk,fun e he=>?_⟩;obtain⟨y,b⟩:=e
 by_cases q:b=a
 ·subst q;have:y=x:=oE g.nda he ha;subst this;rw[aa,if_pos rfl]
 ·rw[aj q];have:y≠x:=fun z=>by
   subst z;apply q;have key:∀{ka:KA},(ka.map (·.1)).Nodup->∀{y:Str} {a b:Addr},(y,a)∈ka->(y,b)∈ka->b=a:=by
    intro ka
    induction ka with
    |nil=>intro _ y a b h;cases h
    |cons p r ih=>
     intro nd y a b h1 h2;rw[aaw,List.nodup_cons] at nd;rcases List.mem_cons.mp h1 with e1|e1
     ·rcases List.mem_cons.mp h2 with e2|e2
      ·rw[←e1] at e2;exact(Prod.mk.inj e2).2
      ·exact absurd (aao.mpr ⟨_,e2,by rw[←e1]⟩) nd.1
     ·rcases List.mem_cons.mp h2 with e2|e2
      ·exact absurd (aao.mpr ⟨_,e1,by rw[←e2]⟩) nd.1
      ·exact ih nd.2 e1 e2
   exact key g.ndk ha he
  show H b=some (.lst ((if y=x then v x++more else v y).map V.str));rw[if_neg this];exact h.at_ _ he
theorem bG.new{H H0:Hp}{d p:Addr}{ka:KA}{v:Str->List Str}{x:Str}(h:bG H d ka v)(g:Ka H0 d ka)(hx:¬x∈ka.map (·.1))(hp:H p=none)(hv:v x=[]) :
  bG (upd (upd H p (.lst [])) d (.dK (putK (kvsOf ka) (Sum.inr x:Key) (.ref p)))) d (ka++[(x,p)]) v:=by
 have hpd:p≠d:=fun z=>by rw[z,h.dk] at hp;cases hp
 refine⟨?_,fun e he=>?_⟩
 ·rw[aa]
  congr 2
  rw[gw]
  ·unfold kvsOf;rw[aam];rfl
  ·rcases ib g.ndk x with ⟨_,h2⟩|⟨a,h1,_⟩
   ·exact h2
   ·exact absurd (aao.mpr ⟨_,h1,rfl⟩) hx
 ·rcases aak.mp he with q|q
  ·have:e.2≠p:=fun z=>by rw[←z,h.at_ e q] at hp;cases hp
   rw[aj (g.ne e q),aj this];exact h.at_ e q
  ·rw[aaj.mp q];show upd (upd H p (.lst [])) d _ p=_;rw[aj hpd,aa];show _=some (HO.lst ((v x).map V.str));rw[hv];rfl
theorem Ka.new{H0 H:Hp}{d p:Addr}{ka:KA}{x:Str}(g:Ka H0 d ka)(hx:¬x∈ka.map (·.1))(hp0:H0 p=none)(hpd:p≠d)(hpa:¬p∈ka.map (·.2)):Ka H0 d (ka++[(x,p)]) where
 ndk:=by rw[aam];exact fq g.ndk hx
 nda:=by rw[aam];exact fq g.nda hpa
 ne:=fun e he=>by
  rcases aak.mp he with q|q
  ·exact g.ne e q
  ·rw[aaj.mp q];exact hpd
 fr:=fun e he=>by
  rcases aak.mp he with q|q
  ·exact g.fr e q
  ·rw[aaj.mp q];exact hp0
 frd:=g.frd
def tabOf(ka:KA)(v:Str->List Str):Tab:=ka.map fun e=>(e.1,v e.1)
theorem bz(ka:KA)(v:Str->List Str):(tabOf ka v).map (·.1)=ka.map (·.1):=by unfold tabOf;rw[List.map_map];rfl
theorem bG.m9{H:Hp}{d:Addr}{ka:KA}{v:Str->List Str}(h:bG H d ka v):d9 H d (tabOf ka v):=by
 refine⟨kvsOf ka,.inl h.dk,?_⟩;have:∀(l:KA),(∀e∈l,H e.2=some (.lst ((v e.1).map V.str)))->Paired (gP H) (kvsOf l) (tabOf l v):=by
  intro l
  induction l with
  |nil=>intro _;exact .nil
  |cons e r ih=>intro q;exact .cons ⟨rfl,e.2,rfl,q e (aac ..)⟩ (ih fun z hz=>q z (aad _ hz))
 exact this ka h.at_
theorem eh(v:Str->List Str)(x:Str):∀(ka:KA),getL (tabOf ka v) x=if x∈ka.map (·.1) then v x else []
 |[]=>rfl
 |(n,a)::r=>by
  have ih:=eh v x r;unfold getL tabOf at ih ⊢;rw[aaw,List.lookup_cons,aaw];cases e:x == n with
  |true=>
   have e:=eq_of_beq e;subst e;simp
  |false=>
   have:x≠n:=fun z=>by rw[z] at e;simp at e
   dsimp only;rw[ih]
   by_cases q:x∈r.map (·.1)
   ·rw[if_pos q,if_pos (aad _ q)]
   ·rw[if_neg q,if_neg fun z=>(List.mem_cons.mp z).elim this q]
theorem jl{ka:KA}{v:Str->List Str}{b:Nat}(h:∀e∈ka,(v e.1).length<=b):((tabOf ka v).map fun e=>e.2.length).sum<=b*ka.length:=by
 induction ka with
 |nil=>simp[tabOf]
 |cons e r ih=>
  have h1:=h e (aac ..);have h2:=ih fun z hz=>h z (aad _ hz)
  unfold tabOf at h2 ⊢;rw[aaw,aaw,List.sum_cons,aau];show(v e.1).length+_<=_;rw[Nat.mul_succ];omega
end Nw
namespace Nw
open PySem L2
open SL (ap srt)
def ao(R:List Row):List Str:=srt (ap (R.map (·.1)))
theorem aU{R:List Row}{x:Str}:x∈ao R↔x∈R.map (·.1):=by unfold ao;rw[SL.cu,SL.bO]
theorem e9(R:List Row):(ao R).Nodup:=SL.gJ (SL.ck _)
theorem fH(R:List Row):(ao R).length<=R.length:=by
 unfold ao;rw[SL.d7];have:=SL.fS (R.map (·.1));rw[aaa] at this;exact this
theorem ic{H:Hp}{d:Addr}{ka:KA}{v:Str->List Str}(h:bG H d ka v){p:Addr}(hp:H p=none):¬p∈ka.map (·.2):=fun z=>by
 obtain⟨e,he,rfl⟩:=aao.mp z;rw[h.at_ e he] at hp;cases hp
theorem oF{ka:KA}{ss:List Str}{i:Nat}{x:Str}(hk:ka.map (·.1)=ss.take i)(nd:ss.Nodup)(hx:ss[i]? =some x):¬x∈ka.map (·.1):=by
 rw[hk];intro z;obtain⟨j,hj⟩:=List.mem_iff_getElem?.mp z;rw[List.getElem?_take] at hj;split at hj
 ·rename_i hlt;have:=jX nd hj hx;omega
 ·cases hj
theorem bS{ss:List Str}{i:Nat}{x:V}(hx:(ss.map V.str)[i]? =some x):∃y,ss[i]? =some y/\x=.str y:=by
 rw[aax] at hx;cases e:ss[i]? with
 |none=>rw[e] at hx;cases hx
 |some sg=>rw[e] at hx;exact⟨sg,rfl,(Option.some.inj hx).symm⟩
abbrev oG:Stmt:=top 15
theorem lN:aJ ["rows","lists","sort"] ["rows"] (aw oG):=⟨rfl,rfl,rfl,by decide +kernel,rfl,by decide +kernel,by decide +kernel⟩
def jF:Sp:=fun vs H Q _=>∃(a:Addr) (R:List Row),vs=[.ref a]/\bt H a R/\Small R/\∀d ka H',ab H H'->Ka H d ka->ka.map (·.1)=ao R->bG H' d ka (fun _=>[])->Q (.ref d) H'
def rl(R:List Row)(x:Str):List Str:=R.flatMap fun p=>if p.1=x then p.2.filter (fun s=>decide (s∈R.map (·.1))) else []
theorem kL{R:List Row}{x y:Str}:y∈rl R x↔∃r,(x,r)∈R/\y∈r/\y∈R.map (·.1):=by
 unfold rl;rw[List.mem_flatMap];constructor
 ·rintro⟨⟨l,r⟩,hm,h⟩;split at h
  ·rename_i e;have e:l=x:=e;subst e;obtain⟨h1,h2⟩:=List.mem_filter.mp h;exact⟨r,hm,h1,of_decide_eq_true h2⟩
  ·cases h
 ·rintro⟨r,hm,h1,h2⟩;refine⟨(x,r),hm,?_⟩;rw[if_pos rfl];exact List.mem_filter.mpr ⟨h1,aan h2⟩
theorem gg{R:List Row}{x:Str}{g:List Str->List Str}(hg:∀r,(g r).length<=r.length)(hw:∀p∈R,p.2.length<=20):(R.flatMap fun p=>if p.1=x then g p.2 else []).length<=20*R.length:=by
 induction R with
 |nil=>simp
 |cons p r ih=>
  have h1:=ih fun q hq=>hw q (aad _ hq)
  have h2:=hw p (aac ..);have h3:=hg p.2;rw[List.flatMap_cons,aag,aau];split
  ·omega
  ·rw[List.length_nil];omega
abbrev oH:Stmt:=top 10
theorem ie:aJ ["rows","links","sort","left","right"] ["rows"] (aw oH):=⟨rfl,rfl,rfl,by decide +kernel,rfl,by decide +kernel,by decide +kernel⟩
def lO:Sp:=fun vs H Q _=>∃(a:Addr) (p:Row) (R:List Row),vs=[.ref a]/\bt H a (p::R)/\Small (p::R)/\∀q ms H',ab H H'->H q=none->ms.Nodup->(∀z,z∈ms↔Gram.Reach (rl (p::R)) p.1 z)->aA H' q (srt ms)->Q (.ref q) H'
section
variable {P:Program}{w:World}{K:PySem.W.Frag}{mg:Str->Option Value}{base:Heap}
theorem vf{f:Addr}{fd:FuncData}(F:Fun K "lists_by_sort" "lists_by_sort" oG f fd)(T:Txt mg)(D1:Def P w K mg base "sorts_of" 1 ["rows"] cF):be P w K mg base CX0 2 f fd ["rows"] jF:=by
 refine F.ok lN (fun vs H Q E h=>?_) (fun cdv A outer s H vs Q E hr h=>?_)
 ·obtain⟨a,R,rfl,_⟩:=h;rfl
 ·obtain⟨a,R,rfl,hR,hsm,k⟩:=h;have hu:=cI hr;refine⟨_,af (aq (i:=1) lN.nd rfl (Or.inl rfl) fm)
   (af (bb PassesOwn.never rfl (aO (aB D1 hr (by rfl) (ai (pv 0) ac))) (az (i:=2) lN.nd rfl (Or.inl rfl))
    (ag (fk hu (pv 1) (pv 2) (bx ac) rfl)))
   (ag (aQ (pv 1)))),?_⟩
  intro d hd;have hl14:=fH R;have hR14:=hsm.len;refine⟨_,rfl,a,R,rfl,hR.mono (ab.upd hd),hsm,fun q H1 s1 n1 hS=>?_⟩;have hS:H1 q=some (.lst ((ao R).map V.str)):=hS;have s01:ab H H1:=(ab.upd hd).trans s1;have hqd:q≠d:=fun z=>by rw[z,aa] at n1;cases n1
  refine⟨q,rfl,⟨_,SqL.of hS⟩,bc (K:=K) (a:=q) (xs:=(ao R).map V.str)
   (fun i σ H2=>∃ka o,σ=[some (.ref a),some (.ref d),o]/\ab H H2/\H2 q=some (.lst ((ao R).map V.str))/\Ka H d ka/\ka.map (·.1)=(ao R).take i/\bG H2 d ka (fun _=>[]))
   ⟨[],none,rfl,s01,hS,⟨List.nodup_nil,List.nodup_nil,fun e he=>(by cases he),fun e he=>(by cases he),hd⟩,rfl,⟨s1 _ _ aa,fun e he=>(by cases he)⟩⟩ ?_ ?_ ?_⟩
  ·rintro i σ H2 _ ⟨_,_,_,_,h,_⟩;exact SqL.of h
  ·rintro i x σ H2 hx ⟨ka,o,rfl,s2,hq2,gk,hk,tv⟩;obtain⟨y,hy,rfl⟩:=bS hx;have hny:=oF hk (e9 R) hy;refine⟨by decide,fun p hp=>?_⟩;have hpd:p≠d:=fun z=>by rw[z,tv.dk] at hp;cases hp
   have hpq:p≠q:=fun z=>by rw[z,hq2] at hp;cases hp
   have hp0:H p=none:=s2.free hp;have hkl:ka.length<=14:=by
    have:=congrArg List.length hk;rw[aaa,aal] at this;omega
   refine⟨_,rfl,_,rfl,d,_,rfl,e7.k (k:=Sum.inr y) (kvs:=kvsOf ka) (by rw[aj (Ne.symm hpd)];exact tv.dk) (by unfold kvsOf;rw[aaa];exact aD (by omega)),?_⟩;refine⟨ka++[(y,p)],_,rfl,(s2.trans (ab.upd hp)).bK hd,?_,gk.new (H:=H2) hny hp0 hpd (ic tv hp),?_,tv.new gk hny hp rfl⟩
   ·rw[aj hqd,aj (Ne.symm hpq)];exact hq2
   ·rw[aam,hk,aap,hy];rfl
  ·rintro σ H2 ⟨ka,o,rfl,s2,hq2,gk,hk,tv⟩;rw[aaa,aas] at hk;exact⟨_,rfl,k d ka H2 s2 gk hk tv⟩
theorem vg{f:Addr}{fd:FuncData}(F:Fun K "sorts_in_trees_of_lines" "sorts_in_trees_of_lines" oH f fd)(T:Txt mg)(D1:Def P w K mg base "sorts_of" 1 ["rows"] cF)(D2:Def P w K mg base "sorts_reached" 1 ["links","sort"] jE)
  (D3:Def P w K mg base "first_sort" 1 ["rows"] ia):be P w K mg base CX0 2 f fd ["rows"] lO:=by
 refine F.ok ie (fun vs H Q E h=>?_) (fun cdv A outer s H vs Q E hr h=>?_)
 ·obtain⟨a,p,R,rfl,_⟩:=h;rfl
 ·obtain⟨a,p0,R0,rfl,hR,hsm,k⟩:=h;have hu:=cI hr;refine⟨_,af (aq (i:=1) ie.nd rfl (Or.inr rfl) fm)
   (af (bb PassesOwn.never rfl (aO (aB D1 hr (by rfl) (ai (pv 0) ac))) (az (i:=2) ie.nd rfl (Or.inl rfl))
    (ag (fk hu (pv 1) (pv 2) (bx ac) rfl)))
   (af (bb PassesOwn.never rfl (aO (pv 0)) (cT (n:=2) rfl (aN (az (i:=3) ie.nd rfl (Or.inl rfl)) (aN (az (i:=4) ie.nd rfl (Or.inl rfl)) cp)))
    (ag (bv (bZ PySem.F.plainAttrs_list PySem.F.slot_list_extend PySem.F.type_list_extend dU (cq hu (pv 1) (pv 3) (fun _ _=>rfl)) (ai
     (dj (bq.free (N:=["sign","links"]) (sel:=[none,some 1]) ["links"] (by rfl) (by rfl) (by rfl) ?c1 ?c2 ?c3 ?c4 (by rfl) ?c5) rfl (aO (pv 4)) (fun s₃ H₃ fp=>az (i:=0) (show(["sign","links"]:List Str).Nodup by decide) rfl (Or.inl rfl))
      (fun s₃ H₃ fp=>xq (gt (ja (X:=cD _ _ _ _ _ _ _) hu (pv 0) (pv 1)))) (fun s₃ H₃ fp=>pv 0)) ac)))))
   (ag (aQ (aB D2 hr (by rfl) (ai (pv 1) (ai (aB D3 hr (by rfl) (ai (pv 0) ac)) ac))))))),?_⟩
  case c1=>decide
  case c2=>decide
  case c3=>
   intro x hx;rcases List.mem_cons.mp hx with rfl|hx
   ·exact⟨rfl,rfl,_,rfl,rfl⟩
   ·cases hx
  case c4=>
   intro y hy;rcases List.mem_cons.mp hy with rfl|hy
   ·exact aac ..
   ·cases hy
  case c5=>
   intro j i h;rcases j with _|_|j
   ·cases h
   ·cases h;exact⟨"links",aac ..,rfl,rfl⟩
   ·cases h
  generalize hRR:p0::R0=R at hR hsm k;intro d hd;have hl14:=fH R;have hR14:=hsm.len;refine⟨_,rfl,a,R,rfl,hR.mono (ab.upd hd),hsm,fun q H1 s1 n1 hS=>?_⟩;have hS:H1 q=some (.lst ((ao R).map V.str)):=hS;have s01:ab H H1:=(ab.upd hd).trans s1;have hqd:q≠d:=fun z=>by rw[z,aa] at n1;cases n1
  refine⟨q,rfl,⟨_,SqL.of hS⟩,bc (K:=K) (a:=q) (xs:=(ao R).map V.str)
   (fun i σ H2=>∃ka o,σ=[some (.ref a),some (.ref d),o,none,none]/\ab H H2/\H2 q=some (.lst ((ao R).map V.str))/\Ka H d ka/\ka.map (·.1)=(ao R).take i/\bG H2 d ka (fun _=>[]))
   ⟨[],none,rfl,s01,hS,⟨List.nodup_nil,List.nodup_nil,fun e he=>(by cases he),fun e he=>(by cases he),hd⟩,rfl,⟨s1 _ _ aa,fun e he=>(by cases he)⟩⟩ ?_ ?_ ?_⟩
  ·rintro i σ H2 _ ⟨_,_,_,_,h,_⟩;exact SqL.of h
  ·rintro i x σ H2 hx ⟨ka,o,rfl,s2,hq2,gk,hk,tv⟩;obtain⟨y,hy,rfl⟩:=bS hx;have hny:=oF hk (e9 R) hy;refine⟨by decide,fun p hp=>?_⟩;have hpd:p≠d:=fun z=>by rw[z,tv.dk] at hp;cases hp
   have hpq:p≠q:=fun z=>by rw[z,hq2] at hp;cases hp
   have hp0:H p=none:=s2.free hp;have hkl:ka.length<=14:=by
    have:=congrArg List.length hk;rw[aaa,aal] at this;omega
   refine⟨_,rfl,_,rfl,d,_,rfl,e7.k (k:=Sum.inr y) (kvs:=kvsOf ka) (by rw[aj (Ne.symm hpd)];exact tv.dk) (by unfold kvsOf;rw[aaa];exact aD (by omega)),?_⟩;refine⟨ka++[(y,p)],_,rfl,(s2.trans (ab.upd hp)).bK hd,?_,gk.new (H:=H2) hny hp0 hpd (ic tv hp),?_,tv.new gk hny hp rfl⟩
   ·rw[aj hqd,aj (Ne.symm hpq)];exact hq2
   ·rw[aam,hk,aap,hy];rfl
  ·rintro σ H2 ⟨ka,o,rfl,s2,hq2,gk,hk,tv⟩;rw[aaa,aas] at hk;have hkm:∀x,x∈ka.map (·.1)↔x∈R.map (·.1):=fun x=>by rw[hk,aU]
   obtain⟨vs,hv,hp⟩:=id hR;have hlen:vs.length=R.length:=Paired.length hp;refine⟨_,rfl,a,rfl,⟨_,s2.seq (SqL.of hv)⟩,bc (K:=K) (a:=a) (xs:=vs)
    (fun i σ H3=>∃o1 o2 o3,σ=[some (.ref a),some (.ref d),o1,o2,o3]/\ab H H3/\bG H3 d ka (fun x=>(R.take i).flatMap fun p=>if p.1=x then p.2.filter (fun s=>decide (s∈R.map (·.1))) else []))
    ⟨_,_,_,rfl,s2,tv⟩ ?_ ?_ ?_⟩
   ·rintro i σ H3 _ ⟨_,_,_,_,s3,_⟩;exact s3.seq (SqL.of hv)
   ·rintro i x σ H3 hx ⟨o1,o2,o3,rfl,s3,tv3⟩;obtain⟨p,t,c,hpi,rfl,ht,hc⟩:=cS hp hx;have hpm:(p.1,p.2)∈R:=aah hpi;have hpw:=hsm.wid p hpm;have hil:i<R.length:=(aab.mp hpi).1;have hpk:p.1∈ka.map (·.1):=(hkm _).mpr (aao.mpr ⟨_,hpm,rfl⟩);obtain⟨al,hal,hg,hll⟩:=tv3.get gk hpk;refine⟨t,_,rfl,SqT.of (s3 _ _ ht),rfl,_,_,rfl,_,_,rfl,rfl,?_⟩;have hc3:H3 c=some (.lst (p.2.map V.str)):=s3 _ _ hc;refine⟨_,rfl,_,rfl,d,_,rfl,hg,.inl ⟨rfl,_,SqL.of hll⟩,_,rfl,c,rfl,⟨_,SqL.of hc3⟩,fun D hD=>qS (K:=K) (xs:=p.2.map V.str)
     (fun i τ H4=>(∃o,τ=[o,some (.ref d)])/\H4=upd H3 D (.lst (((p.2.take i).filter (fun s=>decide (s∈R.map (·.1)))).map V.str))) ⟨⟨_,rfl⟩,rfl⟩ ?_ ?_ ?_⟩
    ·rintro i τ H4 ⟨_,rfl⟩;exact(ab.upd hD).seq (SqL.of hc3)
    ·rintro j x τ H4 hx ⟨⟨o,rfl⟩,rfl⟩;obtain⟨y,hy,rfl⟩:=bS hx;have sD:=ab.upd (o:=HO.lst (((p.2.take j).filter (fun s=>decide (s∈R.map (·.1)))).map V.str)) hD;obtain⟨o',g',ho'⟩:=(tv3.keep sD).has gk y;refine⟨_,rfl,_,rfl,d,o',rfl,g',_,rfl,?_⟩;rw[ho'];have hjl:j<p.2.length:=(aab.mp hy).1;have hle:((p.2.take j).filter (fun s=>decide (s∈R.map (·.1)))).length<=p.2.length:=Nat.le_trans (List.length_filter_le _ _) (by rw[aal];omega)
     by_cases hyk:y∈R.map (·.1)
     ·rw[aan ((hkm y).mpr hyk)];refine bF ⟨_,rfl,_,aa,by rw[aaa];exact aD (by omega),⟨_,rfl⟩,?_⟩;rw[cZ,aap,hy,List.filter_append,aam];have:(some y).toList.filter (fun s=>decide (s∈R.map (·.1)))=[y]:=by
       show List.filter (fun s=>decide (s∈R.map (·.1))) [y]=[y];rw[List.filter_cons,if_pos (aan hyk)];rfl
      rw[this];rfl
     ·rw[aai fun z=>hyk ((hkm y).mp z)];refine aK ⟨⟨_,rfl⟩,?_⟩;rw[aap,hy,List.filter_append];have:(some y).toList.filter (fun s=>decide (s∈R.map (·.1)))=[]:=by
       show List.filter (fun s=>decide (s∈R.map (·.1))) [y]=[];rw[List.filter_cons,if_neg (by rw[aai hyk];decide)];rfl
      rw[this,List.append_nil]
    ·rintro τ H4 ⟨_,rfl⟩;rw[aaa,aas];have sD:=ab.upd (o:=HO.lst ((p.2.filter (fun s=>decide (s∈R.map (·.1)))).map V.str)) hD;have hll4:=sD _ _ hll;have hfl:=List.length_filter_le (fun s=>decide (s∈R.map (·.1))) p.2;refine⟨al,D,_,_,rfl,rfl,hll4,aa,?_,⟨_,_,_,rfl,(s3.trans sD).bK (gk.fr _ hal),?_⟩⟩
     ·rw[aaa,aaa];have:=gg (R:=R.take i) (x:=p.1) (g:=fun r=>r.filter (fun s=>decide (s∈R.map (·.1)))) (fun r=>List.length_filter_le _ _) fun q hq=>hsm.wid q (List.mem_of_mem_take hq)
      rw[aal] at this;exact Nat.le_of_lt (aD (by omega))
     ·have:=(tv3.keep sD).app gk hal (p.2.filter (fun s=>decide (s∈R.map (·.1))));rw[←aam];refine this.congr fun y hy=>?_
      rw[aap,hpi,List.flatMap_append]
      by_cases q:y=p.1
      ·subst q;rw[if_pos rfl];show _=_++((if p.1=p.1 then p.2.filter (fun s=>decide (s∈R.map (·.1))) else [])++[]);rw[if_pos rfl,List.append_nil]
      ·rw[if_neg q];show _=_++((if p.1=y then p.2.filter (fun s=>decide (s∈R.map (·.1))) else [])++[]);rw[if_neg fun z=>q z.symm,List.append_nil,List.append_nil]
   ·rintro σ H3 ⟨o1,o2,o3,rfl,s3,tv3⟩;rw[hlen,aas] at tv3;have tv3:bG H3 d ka (rl R):=tv3;have hg:∀x,getL (tabOf ka (rl R)) x=rl R x:=fun x=>by
     rw[eh]
     by_cases q:x∈ka.map (·.1)
     ·rw[if_pos q]
     ·rw[if_neg q]
      symm
      apply List.eq_nil_iff_forall_not_mem.mpr;intro y hy;obtain⟨r,hm,_⟩:=kL.mp hy;exact q ((hkm x).mpr (aao.mpr ⟨_,hm,rfl⟩))
    subst hRR;refine⟨_,rfl,_,rfl,a,p0,R0,rfl,hR.mono s3,?_⟩;refine⟨d,p0.1,tabOf ka (rl (p0::R0)),rfl,tv3.m9,⟨?_,?_,?_,?_⟩,?_,?_⟩
    ·rw[bz];exact gk.ndk
    ·intro e he y hy;rw[bz,hkm];unfold tabOf at he;obtain⟨z,hz,rfl⟩:=aao.mp he;obtain⟨r,_,_,h⟩:=kL.mp hy;exact h
    ·have:=congrArg List.length (bz ka (rl (p0::R0)));have h2:=congrArg List.length hk;rw[aaa,aaa] at this;rw[aaa] at h2;omega
    ·have:=jl (ka:=ka) (v:=rl (p0::R0)) (b:=280) fun e he=>by
      have:=gg (R:=p0::R0) (x:=e.1) (g:=fun r=>r.filter (fun s=>decide (s∈(p0::R0).map (·.1)))) (fun r=>List.length_filter_le _ _) hsm.wid;unfold rl;omega
     have h2:=congrArg List.length hk;rw[aaa] at h2;have:280*ka.length<=280*14:=Nat.mul_le_mul_left _ (by omega);omega
    ·rw[bz,hkm];exact aac ..
    ·intro q5 ms H5 s5 n5 nd5 hm5 hS5;refine k q5 ms H5 (s3.trans s5) (s3.free n5) nd5 (fun z=>?_) hS5;rw[hm5 z];exact⟨fun h=>h.congr fun x y hy=>by rw[hg] at hy;exact hy,fun h=>h.congr fun x y hy=>by rw[hg];exact hy⟩
end
end Nw
namespace Nw
open PySem L2
open SL (ap srt)
def lQ(R:List Row)(z:Str):Prop:=(∃p∈R,z∈p.2)/\¬z∈R.map (·.1)
def bW:List Row->Str
 |p::_=>p.1
 |[]=>Str.empty
structure Good(R:List Row):Prop where
 small:Small R
 made:∀x∈R.map (·.1),Gram.Made R (lQ R) x
 reach:∀x∈R.map (·.1),Gram.Reach (rl R) (bW R) x
abbrev oI:Stmt:=top 11
theorem ig:aJ ["rows","ended","sort","used"] ["rows"] (aw oI):=⟨rfl,rfl,rfl,by decide +kernel,rfl,by decide +kernel,by decide +kernel⟩
def lR:Sp:=fun vs H Q _=>∃(a:Addr) (R:List Row),vs=[.ref a]/\bt H a R/\Good R/\∀H',ab H H'->Q .non H'
abbrev oJ:Stmt:=top 13
theorem xI:aJ ["rows"] ["rows"] (aw oJ):=⟨rfl,rfl,rfl,by decide +kernel,rfl,by decide +kernel,by decide +kernel⟩
def ii:Sp:=fun vs H Q _=>∃(a:Addr) (R:List Row),vs=[.ref a]/\bt H a R/\Good R/\∀q ms H',ab H H'->H q=none->ms.Nodup->(∀z,z∈ms↔Gram.Made R (fun _=>False) z)->aA H' q (srt ms)->Q (.ref q) H'
abbrev qW:Stmt:=top 16
theorem oK:aJ ["signs","empties","leading","sign"] ["signs","empties"] (aw qW):=⟨rfl,rfl,rfl,by decide +kernel,rfl,by decide +kernel,by decide +kernel⟩
def kM:Sp:=fun vs H Q _=>∃(a b:Addr) (r es:List Str),vs=[.ref a,.ref b]/\aA H a r/\aA H b es/\r.length<=900/\∀q H',ab H H'->H q=none->aA H' q (Gram.lead es r)->Q (.ref q) H'
theorem my:∀{es r:List Str} {i:Nat} {x:Str},(∀s∈r.take i,s∈es)->r[i]? =some x->¬x∈es->Gram.lead es r=r.take (i+1)
 |es,[],i,x,_,h,_=>by simp at h
 |es,s::r,0,x,_,h,hx=>by
  simp at h;subst h;unfold Gram.lead;rw[if_neg hx];rfl
 |es,s::r,i+1,x,ha,h,hx=>by
  have hs:s∈es:=ha s (by simp);unfold Gram.lead;rw[if_pos hs,my (i:=i) (fun y hy=>ha y (by rw[List.take_succ_cons];exact aad _ hy)) (by simpa using h) hx];rfl
theorem oM:∀{es r:List Str},(∀s∈r,s∈es)->Gram.lead es r=r
 |es,[],_=>rfl
 |es,s::r,h=>by
  unfold Gram.lead;rw[if_pos (h s (aac ..)),oM fun y hy=>h y (aad _ hy)]
section
variable {P:Program}{w:World}{K:PySem.W.Frag}{mg:Str->Option Value}{base:Heap}
theorem xJ{f:Addr}{fd:FuncData}(F:Fun K "leading_signs" "leading_signs" qW f fd):be P w K mg base CX0 1 f fd ["signs","empties"] kM:=by
 refine F.ok oK (fun vs H Q E h=>?_) (fun cdv A outer s H vs Q E hr h=>?_)
 ·obtain⟨a,b,r,es,rfl,_⟩:=h;rfl
 ·obtain⟨a,b,r,es,rfl,hA,hB,hl,k⟩:=h;refine⟨_,af (aq (i:=2) oK.nd rfl (Or.inl rfl) (bx ac))
   (af (bb PassesOwn.never rfl (aO (pv 0)) (az (i:=3) oK.nd rfl (Or.inl rfl))
    (af (bv (bZ PySem.F.plainAttrs_list PySem.F.slot_list_append PySem.F.type_list_append bf (pv 2) (ai (pv 3) ac)))
    (ag (a7 (aL gv (pv 3) (pv 1) (by with_unfolding_all rfl)) (ag uF) aT))))
   (ag (aQ (pv 2)))),?_⟩
  refine⟨by decide,fun q hq=>?_⟩;refine⟨_,rfl,a,rfl,⟨_,SqL.of (ab.upd hq _ _ hA)⟩,bc (K:=K) (a:=a) (xs:=r.map V.str)
   (fun i σ H1=>(∃o,σ=[some (.ref a),some (.ref b),some (.ref q),o])/\H1=upd H q (.lst ((r.take i).map V.str))/\∀s∈r.take i,s∈es) ⟨⟨_,rfl⟩,rfl,fun s hs=>(by cases hs)⟩ ?_ ?_ ?_⟩
  ·rintro i σ H1 _ ⟨_,rfl,_⟩;exact SqL.of (ab.upd hq _ _ hA)
  ·rintro i x σ H1 hx ⟨⟨o,rfl⟩,rfl,hall⟩;obtain⟨y,hy,rfl⟩:=bS hx;have hil:i<r.length:=(aab.mp hy).1;refine⟨_,rfl,.inl ⟨rfl,_,SqL.of aa⟩,_,rfl,q,_,_,rfl,rfl,aa,by rw[aaa,aal];exact aD (by omega),?_⟩;rw[cZ];have et:(r.take i).map V.str++[V.str y]=(r.take (i+1)).map V.str:=by rw[aap,hy,aam];rfl
   rw[et];refine⟨_,rfl,_,rfl,b,_,rfl,.inl (SqL.of (ab.upd hq _ _ hB)),rfl,dz es,_,rfl,?_⟩;show if (!inV (.str y) (es.map V.str))=true then _ else _
   rw[dF]
   by_cases hin:y∈es
   ·rw[aan hin];refine aK ⟨⟨_,rfl⟩,rfl,fun s hs=>?_⟩;rw[aap,hy] at hs;rcases aak.mp hs with z|z
    ·exact hall s z
    ·have:s=y:=by simpa using z
     rw[this];exact hin
   ·rw[aai hin];refine bF ?_;refine⟨_,rfl,k q _ (ab.upd hq) hq ?_⟩;rw[my hall hy hin];exact aa
  ·rintro σ H1 ⟨⟨o,rfl⟩,rfl,hall⟩;rw[aaa,aas] at hall;refine⟨_,rfl,k q _ (ab.upd hq) hq ?_⟩;rw[oM hall,aaa,aas];exact aa
theorem vh{f:Addr}{fd:FuncData}(F:Fun K "check_rows" "check_rows" oI f fd)(D1:Def P w K mg base "sorts_of" 1 ["rows"] cF)(D2:Def P w K mg base "words_of" 2 ["rows"] jj)
  (D3:Def P w K mg base "sorts_made_of" 1 ["rows","words"] kK)(D4:Def P w K mg base "sorts_in_trees_of_lines" 2 ["rows"] lO):be P w K mg base CX0 3 f fd ["rows"] lR:=by
 refine F.ok ig (fun vs H Q E h=>?_) (fun cdv A outer s H vs Q E hr h=>?_)
 ·obtain⟨a,R,rfl,_⟩:=h;rfl
 ·obtain⟨a,R,rfl,hR,hg,k⟩:=h;have hr1:bC 1 _:=hr.mono (by decide);refine⟨_,af (aq (i:=1) ig.nd rfl (Or.inl rfl) (aB D3 hr1 (by rfl) (ai (pv 0) (ai (aB D2 hr (by rfl) (ai (pv 0) ac)) ac))))
   (af (bb PassesOwn.never rfl (aO (aB D1 hr1 (by rfl) (ai (pv 0) ac))) (az (i:=2) ig.nd rfl (Or.inl rfl))
    (ag (a7 (aL gv (pv 2) (pv 1) (by with_unfolding_all rfl)) a8 aT)))
   (af (aq (i:=3) ig.nd rfl (Or.inl rfl) (aB D4 hr (by rfl) (ai (pv 0) ac)))
   (ag (bb PassesOwn.never rfl (aO (aB D1 hr1 (by rfl) (ai (pv 0) ac))) (az (i:=2) ig.nd rfl (Or.inl rfl))
    (ag (a7 (aL gv (pv 2) (pv 3) (by with_unfolding_all rfl)) a8 aT)))))),?_⟩
  refine⟨_,rfl,_,rfl,a,R,rfl,hR,hg.small,fun q1 ws H1 s1 n1 hw hS1=>?_⟩;refine⟨a,q1,R,ws,rfl,hR.mono s1,hg.small,hS1,fun q2 ms H2 s2 n2 nd2 hm2 hS2=>?_⟩;have s12:=s1.trans s2;have hme:∀x∈R.map (·.1),x∈srt ms:=fun x hx=>by
   rw[SL.cu,hm2 x];exact(hg.made x hx).mono fun z hz=>(hw z).mpr hz
  refine⟨_,rfl,a,R,rfl,hR.mono s12,hg.small,fun q3 H3 s3 n3 hS3=>?_⟩;have s13:=s12.trans s3;have hS3:H3 q3=some (.lst ((ao R).map V.str)):=hS3;refine⟨q3,rfl,⟨_,SqL.of hS3⟩,bc (K:=K) (a:=q3) (xs:=(ao R).map V.str) (fun i σ H'=>(∃o,σ=[some (.ref a),some (.ref q2),o,none])/\H'=H3) ⟨⟨_,rfl⟩,rfl⟩ ?_ ?_ ?_⟩
  ·rintro i σ H' _ ⟨_,rfl⟩;exact SqL.of hS3
  ·rintro i x σ H' hx ⟨⟨o,rfl⟩,rfl⟩;obtain⟨y,hy,rfl⟩:=bS hx;refine⟨_,rfl,_,rfl,q2,_,rfl,.inl (SqL.of (s3 _ _ hS2)),rfl,dz _,_,rfl,?_⟩;show if (!inV (.str y) ((srt ms).map V.str))=true then _ else _
   rw[dF,aan (hme y (aU.mp (aah hy)))];exact aK ⟨⟨_,rfl⟩,rfl⟩
  ·rintro σ H' ⟨⟨o,rfl⟩,rfl⟩;have hRne:∃p R',R=p::R':=by
    cases R with
    |nil=>exact absurd rfl hg.small.ne
    |cons p R'=>exact⟨p,R',rfl⟩
   obtain⟨p,R',rfl⟩:=hRne;refine⟨_,rfl,a,p,R',rfl,hR.mono s13,hg.small,fun q4 ms' H4 s4 n4 nd4 hm4 hS4=>?_⟩;have s14:=s13.trans s4;have hru:∀x∈(p::R').map (·.1),x∈srt ms':=fun x hx=>by
    rw[SL.cu,hm4 x];exact hg.reach x hx
   refine⟨_,rfl,a,p::R',rfl,hR.mono s14,hg.small,fun q5 H5 s5 n5 hS5=>?_⟩;have s15:=s14.trans s5;have hS5:H5 q5=some (.lst ((ao (p::R')).map V.str)):=hS5;refine⟨q5,rfl,⟨_,SqL.of hS5⟩,bc (K:=K) (a:=q5) (xs:=(ao (p::R')).map V.str) (fun i σ H'=>(∃o,σ=[some (.ref a),some (.ref q2),o,some (.ref q4)])/\H'=H5) ⟨⟨_,rfl⟩,rfl⟩ ?_ ?_ ?_⟩
   ·rintro i σ H' _ ⟨_,rfl⟩;exact SqL.of hS5
   ·rintro i x σ H' hx ⟨⟨o,rfl⟩,rfl⟩;obtain⟨y,hy,rfl⟩:=bS hx;refine⟨_,rfl,_,rfl,q4,_,rfl,.inl (SqL.of (s5 _ _ hS4)),rfl,dz _,_,rfl,?_⟩;show if (!inV (.str y) ((srt ms').map V.str))=true then _ else _
    rw[dF,aan (hru y (aU.mp (aah hy)))];exact aK ⟨⟨_,rfl⟩,rfl⟩
   ·rintro σ H' ⟨⟨o,rfl⟩,rfl⟩;exact k _ s15
theorem vn{f:Addr}{fd:FuncData}(F:Fun K "empty_sorts" "empty_sorts" oJ f fd)(D1:Def P w K mg base "check_rows" 3 ["rows"] lR)(D3:Def P w K mg base "sorts_made_of" 1 ["rows","words"] kK):be P w K mg base CX0 4 f fd ["rows"] ii:=by
 refine F.ok xI (fun vs H Q E h=>?_) (fun cdv A outer s H vs Q E hr h=>?_)
 ·obtain⟨a,R,rfl,_⟩:=h;rfl
 ·obtain⟨a,R,rfl,hR,hg,k⟩:=h;have hr1:bC 1 _:=hr.mono (by decide);refine⟨_,af (bv (aB D1 hr (by rfl) (ai (pv 0) ac)))
   (ag (aQ (aB D3 hr1 (by rfl) (ai (pv 0) (ai (bx ac) ac))))),?_⟩
  refine⟨_,rfl,a,R,rfl,hR,hg,fun H1 s1=>?_⟩;refine⟨_,rfl,by decide,fun q1 hq1=>?_⟩;have s2:=s1.trans (ab.upd (o:=HO.lst []) hq1);refine⟨a,q1,R,[],rfl,hR.mono s2,hg.small,aa,fun q2 ms H2 s3 n2 nd hm hS=>?_⟩;refine k q2 ms H2 (s2.trans s3) (s2.free n2) nd (fun z=>?_) hS;rw[hm z];exact⟨fun h=>h.mono fun _ q=>(by cases q),fun h=>h.mono fun _ q=>q.elim⟩
end
end Nw
namespace Nw
open PySem L2
open SL (ap srt)
def Canon(P:Str->Prop)(L:List Str):Prop:=∃D,L=srt D/\D.Nodup/\∀z,z∈D↔P z
def ev(H:Hp)(a:Addr)(f:Tab):Prop:=∃kvs,H a=some (.dK kvs)/\Paired (gP H) kvs f
theorem ev.mono{H H':Hp}(e:ab H H'){a:Addr}{f:Tab}(h:ev H a f):ev H' a f:=by
 obtain⟨kvs,h1,h2⟩:=h;exact⟨kvs,e _ _ h1,Paired.bT h2 fun _ _ ⟨q1,l,q2,q3⟩=>⟨q1,l,q2,e _ _ q3⟩⟩
abbrev qX:Stmt:=top 19
theorem jm:aJ ["own","links","words","sort","found","other"] ["own","links"] (aw qX):=⟨rfl,rfl,rfl,by decide +kernel,rfl,by decide +kernel,by decide +kernel⟩
def kN:Sp:=fun vs H Q _=>∃(a b:Addr) (f1 f2:Tab),vs=[.ref a,.ref b]/\a≠b/\ev H a f1/\ev H b f2/\Links f2/\f1.map (·.1)=f2.map (·.1)/\(f1.map fun e=>e.2.length).sum<=4000/\(∃U:List Str,U.length<=40/\∀e∈f1,∀z∈e.2,z∈U)/\
 ∀d res H',(∀x o,H x=some o->x≠a->H' x=some o)->H d=none->ev H' d res->res.map (·.1)=f1.map (·.1)->(∀e∈res,Canon (fun z=>∃y,Gram.Reach (getL f2) e.1 y/\z∈getL f1 y) e.2)->Q (.ref d) H'
theorem mz{f:Tab}:∀{ks:List Str},ks.Nodup->(∀k∈ks,k∈f.map (·.1))->(f.map (·.1)).Nodup->(ks.flatMap (getL f)).length<=(f.map fun e=>e.2.length).sum:=by
 intro ks nd hk ndf;have h:∀{ks ms:List Str},(∀k∈ks,k∈f.map (·.1))->(ms++ks).Nodup->(ks.flatMap (getL f)).length+wsum f (ms++ks)=wsum f ms:=by
  intro ks
  induction ks with
  |nil=>intro ms _ _;simp
  |cons x r ih=>
   intro ms hk nd;have hx:=hk x (aac ..);have nd':((ms++[x])++r).Nodup:=by rw[List.append_assoc];exact nd
   have h1:=ih (ms:=ms++[x]) (fun y hy=>hk y (aad _ hy)) nd';have hxm:¬x∈ms:=by
    rw[List.nodup_append] at nd;intro z;exact nd.2.2 x z x (aac ..) rfl
   have h2:=lM ndf hx hxm;rw[List.append_assoc] at h1;rw[List.flatMap_cons,aag];show _+wsum f (ms++([x]++r))=_;omega
 have h1:=h (ks:=ks) (ms:=[]) hk (by simpa using nd);have h2:=lL f [];omega
section
variable {P:Program}{w:World}{K:PySem.W.Frag}{mg:Str->Option Value}{base:Heap}
theorem xK{f:Addr}{fd:FuncData}(F:Fun K "gathered" "gathered" qX f fd)(T:Txt mg)(D2:Def P w K mg base "sorts_reached" 1 ["links","sort"] jE):be P w K mg base CX0 2 f fd ["own","links"] kN:=by
 refine F.ok jm (fun vs H Q E h=>?_) (fun cdv A outer s H vs Q E hr h=>?_)
 ·obtain⟨a,b,f1,f2,rfl,_⟩:=h;rfl
 ·obtain⟨a,b,f1,f2,rfl,hab,hO,hL,hlk,hkeys,hsz,⟨U,hU,hUm⟩,k⟩:=h;have hu:=cI hr;refine⟨_,af (aq (i:=2) jm.nd rfl (Or.inl rfl) fm)
   (af (bb PassesOwn.never rfl (xD (pv 0)) (az (i:=3) jm.nd rfl (Or.inl rfl))
    (af (aq (i:=4) jm.nd rfl (Or.inl rfl) (bx ac))
    (af (bb PassesOwn.never rfl (aO (aB D2 hr (by rfl) (ai (pv 1) (ai (pv 3) ac)))) (az (i:=5) jm.nd rfl (Or.inl rfl))
     (ag (bv (bZ PySem.F.plainAttrs_list PySem.F.slot_list_extend PySem.F.type_list_extend dU (pv 4) (ai (cq hu (pv 0) (pv 5) (fun _ _=>rfl)) ac)))))
    (ag (fk hu (pv 2) (pv 3) (au (cR rfl) (by rfl) T.srt PyProof.Rows.boot_sorted (ai (dy (eO rfl) (by rfl) T.set (by decide +kernel) (ai (pv 4) ac)) ac)) rfl)))))
   (ag (aQ (pv 2)))),?_⟩
  intro d hd;obtain⟨kvs,ha,hp⟩:=hO;obtain⟨kvs2,hb,hp2⟩:=hL;have had:a≠d:=fun z=>by rw[z,hd] at ha;cases ha
  have hl14:=hlk.len;have hkl:kvs.length=f1.length:=Paired.length hp;have hfl:f1.length=f2.length:=by have:=congrArg List.length hkeys;rw[aaa,aaa] at this;exact this
  refine⟨_,rfl,a,kvs,rfl,by rw[aj had];exact ha,fun o=>?_⟩;generalize hH1:upd (upd H d (.dK [])) a (.frz o (.dK kvs))=H1;have x1:∀x ob,H x=some ob->x≠a->H1 x=some ob:=fun x ob e hx=>by
   rw[←hH1,aj hx,aj (aP e hd)];exact e
  have ha1:H1 a=some (.frz o (.dK kvs)):=by rw[←hH1,aa]
  have hd1:H1 d=some (.dK []):=by rw[←hH1,aj (Ne.symm had),aa]
  have fr1:∀x,H1 x=none->H x=none:=fun x e=>by
   rw[←hH1] at e
   by_cases q:x=a
   ·rw[q,aa] at e;cases e
   ·rw[aj q] at e;exact(ab.upd hd).free e
  have ent:∀{kv:Key×V} {e:Str×List Str},gP H kv e->gP H1 kv e:=fun{kv e} ⟨q1,l,q2,q3⟩=>⟨q1,l,q2,x1 _ _ q3 fun z=>by
   have q3:H l=some _:=q3;rw[z,ha] at q3;cases q3⟩
  have hO1:d9 H1 a f1:=⟨kvs,.inr ⟨o,ha1⟩,Paired.bT hp fun _ _ q=>ent q⟩;have hL1:d9 H1 b f2:=⟨kvs2,.inl (x1 _ _ hb (Ne.symm hab)),Paired.bT hp2 fun _ _ q=>ent q⟩;refine va (o:=o) (d:=a) (kvs:=kvs) (fun i σ H2=>∃(ka:KA) (v:Str->List Str) (o1 o2 o3:Option V),σ=[some (.ref a),some (.ref b),some (.ref d),o1,o2,o3]/\(∀x ob,H1 x=some ob->x≠d->H2 x=some ob)/\
    Ka H d ka/\ka.map (·.1)=(f1.map (·.1)).take i/\bG H2 d ka v/\∀x∈ka.map (·.1),Canon (fun z=>∃y,Gram.Reach (getL f2) x y/\z∈getL f1 y) (v x))
   ⟨[],fun _=>[],none,none,none,rfl,fun _ _ e _=>e,⟨List.nodup_nil,List.nodup_nil,fun e he=>(by cases he),fun e he=>(by cases he),hd⟩,rfl,⟨hd1,fun e he=>(by cases he)⟩,fun x hx=>(by cases hx)⟩ ?_ ?_ ?_
  ·rintro i σ H2 ⟨ka,v,o1,o2,o3,rfl,x2,_⟩;exact x2 _ _ ha1 had
  ·rintro i kk vv σ H2 hi ⟨ka,v,o1,o2,o3,rfl,x2,gk,hk,tv,hc⟩;obtain⟨e,hei,he1,he2⟩:=aW hp i _ hi;have he1:kk=Sum.inr e.1:=he1;subst he1;have hkx:(f1.map (·.1))[i]? =some e.1:=by rw[aax,hei];rfl
   have ndk:(f1.map (·.1)).Nodup:=by rw[hkeys];exact hlk.nd
   have hnx:=oF hk ndk hkx;have hex:e.1∈f2.map (·.1):=by rw[←hkeys];exact aah hkx
   have hS2:∀{H3:Hp},ab H2 H3->d9 H3 a f1/\d9 H3 b f2:=fun{H3} s3=>by
    have fz:∀x ob,H1 x=some ob->x≠d->H3 x=some ob:=fun x ob q hx=>s3 _ _ (x2 x ob q hx)
    have ne_d:∀{l:Addr} {ss:List Str},aA H1 l ss->l≠d:=fun{l ss} q z=>by
     have q:H1 l=some _:=q;rw[z,hd1] at q;cases q
    have en:∀{kv:Key×V} {e:Str×List Str},gP H1 kv e->gP H3 kv e:=fun{kv e} ⟨q1,l,q2,q3⟩=>⟨q1,l,q2,fz _ _ q3 (ne_d q3)⟩
    refine⟨⟨kvs,.inr ⟨o,fz _ _ ha1 had⟩,Paired.bT hp fun _ _ q=>en (ent q)⟩,⟨kvs2,.inl (fz _ _ (x1 _ _ hb (Ne.symm hab)) fun z=>?_),Paired.bT hp2 fun _ _ q=>en (ent q)⟩⟩;rw[z,hd] at hb;cases hb
   refine⟨by decide,fun fl hfl0=>?_⟩;have hfd:fl≠d:=fun z=>by rw[z,tv.dk] at hfl0;cases hfl0
   have s2':=ab.upd (o:=HO.lst []) hfl0;refine⟨_,rfl,_,rfl,b,e.1,f2,rfl,(hS2 s2').2,hlk,hex,fun q3 ms H3 s3 n3 nd3 hm3 hS3=>?_⟩;have s23:ab H2 H3:=s2'.trans s3;have hS3:H3 q3=some (.lst ((srt ms).map V.str)):=hS3;have hf3:H3 fl=some (.lst []):=s3 _ _ aa;have hq3f:q3≠fl:=fun z=>by rw[z,hf3] at hS3;injection hS3 with q;injection q with q;rw[z,aa] at n3;cases n3
   have hmk:∀z∈srt ms,z∈f1.map (·.1):=fun z hz=>by
    rw[hkeys];have hr:=(hm3 z).mp (SL.cu.mp hz);refine Gram.gM (ks:=f2.map (·.1)) hex (fun x hx y hy=>?_) hr;obtain⟨ys,e1,e2⟩:=cA hx;unfold getL at hy;rw[e1] at hy;exact hlk.cl _ e2 y hy
   refine⟨q3,rfl,⟨_,SqL.of hS3⟩,bc (K:=K) (a:=q3) (xs:=(srt ms).map V.str)
    (fun j σ H4=>(∃o4,σ=[some (.ref a),some (.ref b),some (.ref d),some (.str e.1),some (.ref fl),o4])/\H4=upd H3 fl (.lst ((((srt ms).take j).flatMap (getL f1)).map V.str))) ⟨⟨_,rfl⟩,?_⟩ ?_ ?_ ?_⟩
   ·funext x
    unfold upd;split
    ·rename_i q;rw[q,hf3];rfl
    ·rfl
   ·rintro j σ H4 _ ⟨_,rfl⟩;exact SqL.of (by rw[aj hq3f];exact hS3)
   ·rintro j x σ H4 hx ⟨⟨o4,rfl⟩,rfl⟩;obtain⟨y,hy,rfl⟩:=bS hx;have hyk:=hmk y (aah hy);have s4:ab H2 (upd H3 fl (.lst ((((srt ms).take j).flatMap (getL f1)).map V.str))):=s23.bK hfl0;obtain⟨l,hg,hl⟩:=(hS2 s4).1.get hyk;refine⟨_,rfl,.inl ⟨rfl,_,SqL.of aa⟩,_,rfl,_,rfl,a,_,rfl,hg,fl,l,_,_,rfl,rfl,aa,hl,?_,⟨_,rfl⟩,?_⟩
    ·have h1:=mz (f:=f1) (ks:=(srt ms).take (j+1)) ((SL.gJ nd3).sublist (List.take_sublist _ _)) (fun z hz=>hmk z (List.mem_of_mem_take hz)) ndk;rw[aap,hy,List.flatMap_append,aag] at h1;have e2:((some y).toList.flatMap (getL f1)).length=(getL f1 y).length:=by simp
     rw[e2] at h1;rw[aaa,aaa];exact cy (by omega)
    ·rw[cZ,aap,hy,List.flatMap_append,aam];simp
   ·rintro σ H4 ⟨⟨o4,rfl⟩,rfl⟩;rw[aaa,aas];generalize hfo:(srt ms).flatMap (getL f1)=fo;have hfo4:fo.length<=4000:=by
     have:=mz (f:=f1) (ks:=srt ms) (SL.gJ nd3) hmk ndk;rw[hfo] at this;omega
    have hfm:∀z,z∈fo↔∃y,Gram.Reach (getL f2) e.1 y/\z∈getL f1 y:=fun z=>by
     rw[←hfo,List.mem_flatMap];exact⟨fun⟨y,h1,h2⟩=>⟨y,(hm3 y).mp (SL.cu.mp h1),h2⟩,fun⟨y,h1,h2⟩=>⟨y,SL.cu.mpr ((hm3 y).mpr h1),h2⟩⟩
    have hfU:∀z∈ap fo,z∈U:=fun z hz=>by
     obtain⟨y,h1,h2⟩:=(hfm z).mp (SL.bO.mp hz);have hyk:=hmk y (SL.cu.mpr ((hm3 y).mpr h1));obtain⟨ys,e1,e2⟩:=cA hyk;unfold getL at h2;rw[e1] at h2;exact hUm _ e2 z h2
    have h40:(ap fo).length<=40:=Nat.le_trans (Gram.cw (SL.ck fo) hfU) hU;have s4:ab H2 (upd H3 fl (.lst (fo.map V.str))):=s23.bK hfl0;refine⟨_,rfl,fl,fo,rfl,SqL.of aa,by unfold scanBound;omega,fun q5 hq5=>?_⟩;refine⟨q5,ap fo,rfl,.inr (.inl aa),by omega,fun q6 hq6=>?_⟩;have s6:ab H2 (upd (upd (upd H3 fl (.lst (fo.map V.str))) q5 (dt w q5 (ap fo))) q6 (.lst ((srt (ap fo)).map V.str))):=(s4.trans (ab.upd hq5)).trans (ab.upd hq6);have n6:H2 q6=none:=(s4.trans (ab.upd hq5)).free hq6;have hq6d:q6≠d:=fun z=>by rw[z,tv.dk] at n6;cases n6
    have hq6a:¬q6∈ka.map (·.2):=ic tv n6;have hq6H:H q6=none:=fr1 _ (by
     cases q:H1 q6 with
     |none=>rfl
     |some ob=>rw[x2 _ _ q hq6d] at n6;cases n6)
    have hkal:ka.length<=14:=by
     have:=congrArg List.length hk;rw[aaa,aal,aaa] at this;omega
    have tv6:=tv.keep s6;refine⟨_,rfl,_,rfl,d,_,rfl,e7.k (k:=Sum.inr e.1) (kvs:=kvsOf ka) tv6.dk (by unfold kvsOf;rw[aaa];exact aD (by omega)),?_⟩;refine⟨ka++[(e.1,q6)],fun y=>if y=e.1 then srt (ap fo) else v y,_,_,_,rfl,fun x ob q hx=>?_,gk.new (H:=H2) hnx hq6H hq6d hq6a,?_,⟨?_,fun z hz=>?_⟩,fun x hx=>?_⟩
    ·rw[aj hx];exact s6 _ _ (x2 x ob q hx)
    ·rw[aam,hk,aap,hkx];rfl
    ·rw[aa]
     congr 2
     rw[gw]
     ·unfold kvsOf;rw[aam];rfl
     ·rcases ib gk.ndk e.1 with ⟨_,h2⟩|⟨a',h1,_⟩
      ·exact h2
      ·exact absurd (aao.mpr ⟨_,h1,rfl⟩) hnx
    ·rcases aak.mp hz with q|q
     ·have hne:z.1≠e.1:=fun y=>hnx (y▸aao.mpr ⟨z,q,rfl⟩)
      rw[aj (gk.ne z q)];exact(tv6.at_ z q).trans (by rw[if_neg hne])
     ·rw[aaj.mp q];dsimp only;rw[aj hq6d,if_pos rfl];exact aa
    ·rw[aam] at hx;rcases aak.mp hx with q|q
     ·have hne:x≠e.1:=fun y=>hnx (y▸q)
      show Canon _ (if x=e.1 then _ else v x);rw[if_neg hne];exact hc x q
     ·have:x=e.1:=by simpa using q
      subst this;show Canon _ (if e.1=e.1 then _ else v e.1);rw[if_pos rfl];exact⟨ap fo,rfl,SL.ck fo,fun z=>by rw[SL.bO];exact hfm z⟩
  ·rintro σ H2 ⟨ka,v,o1,o2,o3,rfl,x2,gk,hk,tv,hc⟩;rw[hkl,←aaa (f:=(·.1)),aas] at hk;refine⟨_,rfl,k d (tabOf ka v) H2 (fun x ob e hx=>x2 _ _ (x1 x ob e hx) (aP e hd)) hd ?_ ?_ fun e he=>?_⟩
   ·obtain⟨kv,h1,h2⟩:=tv.m9;refine⟨kvsOf ka,tv.dk,?_⟩;rcases h1 with h1|⟨_,h1⟩
    ·rw[tv.dk] at h1;cases h1
     exact h2
    ·rw[tv.dk] at h1;cases h1
   ·rw[bz,hk]
   ·unfold tabOf at he;obtain⟨z,hz,rfl⟩:=aao.mp he;exact hc z.1 (aao.mpr ⟨z,hz,rfl⟩)
end
end Nw
namespace Nw
open PySem L2
open SL (ap srt)
def gQ(R:List Row)(x z:Str):Prop:=∃es,(∀y,y∈es↔Gram.Made R (fun _=>False) y)/\Gram.Beg R es x z
theorem tM{R:List Row}{es es':List Str}(h:∀x,x∈es↔x∈es'){x z:Str}(b:Gram.Beg R es x z):Gram.Beg R es' x z:=by
 induction b with
 |word hm h1 h2=>exact .word hm (by rw[←Gram.ge h];exact h1) h2
 |sort hm h1 h2 _ ih=>exact .sort hm (by rw[←Gram.ge h];exact h1) h2 ih
theorem tN{R:List Row}{es:List Str}(h:∀y,y∈es↔Gram.Made R (fun _=>False) y){x z:Str}:gQ R x z↔Gram.Beg R es x z:=
 ⟨fun⟨es',h',b⟩=>tM (fun y=>(h' y).trans (h y).symm) b,fun b=>⟨es,h,b⟩⟩
theorem bG.kO{H:Hp}{d a:Addr}{o:HO}{ka:KA}{v:Str->List Str}(h:bG H d ka v)(h1:a≠d)(h2:¬a∈ka.map (·.2)):bG (upd H a o) d ka v:=
 ⟨by rw[aj (Ne.symm h1)];exact h.dk,fun e he=>by
  have ne:e.2≠a:=fun z=>h2 (aao.mpr ⟨e,he,z⟩)
  rw[aj ne];exact h.at_ e he⟩
abbrev vo:Stmt:=top 14
theorem iN:aJ ["rows","empties","own","links","left","right","sign"] ["rows"] (aw vo):=⟨rfl,rfl,rfl,by decide +kernel,rfl,by decide +kernel,by decide +kernel⟩
def nc:Sp:=fun vs H Q _=>∃(a:Addr) (R:List Row),vs=[.ref a]/\bt H a R/\Good R/\∀d res H',ab H H'->H d=none->ev H' d res->res.map (·.1)=ao R->(∀e∈res,Canon (gQ R e.1) e.2)->Q (.ref d) H'
def gat(g:List Str->List Str)(R:List Row)(x:Str):List Str:=R.flatMap fun p=>if p.1=x then g p.2 else []
theorem oN(g:List Str->List Str){R:List Row}{i:Nat}{p:Row}(h:R[i]? =some p)(x:Str):gat g (R.take (i+1)) x=gat g (R.take i) x++(if p.1=x then g p.2 else []):=by
 unfold gat;rw[aap,h,List.flatMap_append];show _++((if p.1=x then g p.2 else [])++[])=_;rw[List.append_nil]
section
variable {P:Program}{w:World}{K:PySem.W.Frag}{mg:Str->Option Value}{base:Heap}
theorem yK{f:Addr}{fd:FuncData}(F:Fun K "words_to_begin" "words_to_begin" vo f fd)(D1:Def P w K mg base "empty_sorts" 4 ["rows"] ii)(D2:Def P w K mg base "lists_by_sort" 2 ["rows"] jF)
  (D3:Def P w K mg base "leading_signs" 1 ["signs","empties"] kM)(D4:Def P w K mg base "gathered" 2 ["own","links"] kN):be P w K mg base CX0 5 f fd ["rows"] nc:=by
 refine F.ok iN (fun vs H Q E h=>?_) (fun cdv A outer s H vs Q E hr h=>?_)
 ·obtain⟨a,R,rfl,_⟩:=h;rfl
 ·obtain⟨a,R,rfl,hR,hg,k⟩:=h;have hu:=cI hr;have hr2:bC 2 _:=hr.mono (by decide);have hr1:bC 1 _:=hr.mono (by decide);refine⟨_,af (aq (i:=1) iN.nd rfl (Or.inl rfl) (aB D1 hr (by rfl) (ai (pv 0) ac)))
   (af (aq (i:=2) iN.nd rfl (Or.inl rfl) (aB D2 hr2 (by rfl) (ai (pv 0) ac)))
   (af (aq (i:=3) iN.nd rfl (Or.inl rfl) (aB D2 hr2 (by rfl) (ai (pv 0) ac)))
   (af (bb PassesOwn.never rfl (aO (pv 0)) (cT (n:=2) rfl (aN (az (i:=4) iN.nd rfl (Or.inl rfl)) (aN (az (i:=5) iN.nd rfl (Or.inl rfl)) cp)))
    (ag (bb PassesOwn.never rfl (aO (aB D3 hr1 (by rfl) (ai (pv 5) (ai (pv 1) ac)))) (az (i:=6) iN.nd rfl (Or.inl rfl))
     (ag (a7 (gt (ja hu (pv 6) (pv 3)))
      (ag (bv (bZ PySem.F.plainAttrs_list PySem.F.slot_list_append PySem.F.type_list_append bf (cq hu (pv 3) (pv 4) (fun _ _=>rfl)) (ai (pv 6) ac))))
      (ag (bv (bZ PySem.F.plainAttrs_list PySem.F.slot_list_append PySem.F.type_list_append bf (cq hu (pv 2) (pv 4) (fun _ _=>rfl)) (ai (pv 6) ac)))))))))
   (ag (aQ (aB D4 hr2 (by rfl) (ai (pv 2) (ai (pv 3) ac)))))))),?_⟩
  obtain⟨vs,hv,hp⟩:=id hR;have hlen:vs.length=R.length:=Paired.length hp;have hR14:=hg.small.len;refine⟨_,rfl,a,R,rfl,hR,hg,fun qe ms H1 s1 n1 nd1 hm1 hS1=>?_⟩;generalize hes:srt ms=es at hS1;have hem:∀y,y∈es↔Gram.Made R (fun _=>False) y:=fun y=>by rw[←hes,SL.cu];exact hm1 y
  refine⟨_,rfl,a,R,rfl,hR.mono s1,hg.small,fun d1 ka1 H2 s2 g1 hk1 tv1=>?_⟩;have s12:=s1.trans s2;refine⟨_,rfl,a,R,rfl,hR.mono s12,hg.small,fun d2 ka2 H3 s3 g2 hk2 tv2=>?_⟩;have s13:=s12.trans s3;have tv1':=tv1.keep s3;have hkm1:∀x,x∈ka1.map (·.1)↔x∈R.map (·.1):=fun x=>by rw[hk1,aU]
  have hkm2:∀x,x∈ka2.map (·.1)↔x∈R.map (·.1):=fun x=>by rw[hk2,aU]
  have frH1:∀{x:Addr},H1 x=none->H x=none:=fun{x} e=>s1.free e
  have ap2:∀e∈ka2,e.2≠d1/\¬e.2∈ka1.map (·.2):=fun e he=>by
   have:=g2.fr e he;exact⟨fun z=>(by rw[z,tv1.dk] at this;cases this),ic tv1 this⟩
  have ap1:∀e∈ka1,e.2≠d2/\¬e.2∈ka2.map (·.2):=fun e he=>by
   refine⟨fun z=>?_,fun z=>?_⟩
   ·have:=g2.frd;rw[←z,tv1.at_ e he] at this;cases this
   ·obtain⟨e',he',q⟩:=aao.mp z;have:=g2.fr e' he';rw[q,tv1.at_ e he] at this;cases this
  have hd12:d1≠d2:=fun z=>by
   have:=g2.frd;rw[←z,tv1.dk] at this;cases this
  have gH1:∀e∈ka1,H e.2=none:=fun e he=>frH1 (g1.fr e he)
  have gH2:∀e∈ka2,H e.2=none:=fun e he=>s12.free (g2.fr e he)
  refine⟨_,rfl,a,rfl,⟨_,s13.seq (SqL.of hv)⟩,bc (K:=K) (a:=a) (xs:=vs)
   (fun i σ H4=>(∃o1 o2 o3,σ=[some (.ref a),some (.ref qe),some (.ref d1),some (.ref d2),o1,o2,o3])/\ab H H4/\aA H4 qe es/\
    bG H4 d1 ka1 (gat (fun r=>(Gram.lead es r).filter (fun s=>¬s∈R.map (·.1))) (R.take i))/\bG H4 d2 ka2 (gat (fun r=>(Gram.lead es r).filter (fun s=>s∈R.map (·.1))) (R.take i)))
   ⟨⟨_,_,_,rfl⟩,s13,s3 _ _ (s2 _ _ hS1),tv1',tv2⟩ ?_ ?_ ?_⟩
  ·rintro i σ H4 _ ⟨_,s4,_⟩;exact s4.seq (SqL.of hv)
  ·rintro i x σ H4 hx ⟨⟨o1,o2,o3,rfl⟩,s4,hE4,t1,t2⟩;obtain⟨p,t,c,hpi,rfl,ht,hc⟩:=cS hp hx;have hpm:(p.1,p.2)∈R:=aah hpi;have hpw:=hg.small.wid p hpm;have hil:i<R.length:=(aab.mp hpi).1;have hpl:p.1∈R.map (·.1):=aao.mpr ⟨_,hpm,rfl⟩;refine⟨t,_,rfl,SqT.of (s4 _ _ ht),rfl,_,_,rfl,_,_,rfl,rfl,?_⟩;refine⟨_,rfl,_,rfl,c,qe,p.2,es,rfl,s4 _ _ hc,hE4,by omega,fun ql H5 s5 n5 hl5=>?_⟩;generalize hld:Gram.lead es p.2=ld at hl5;have hldl:ld.length<=20:=by rw[←hld];exact Nat.le_trans (Gram.gA es p.2) hpw
   have s45:=s4.trans s5;have nqe:ql≠qe:=fun z=>by
    have q:H4 qe=some _:=hE4;rw[←z,n5] at q;cases q
   refine⟨ql,rfl,⟨_,SqL.of hl5⟩,bc (K:=K) (a:=ql) (xs:=ld.map V.str)
    (fun j σ H6=>(∃o3,σ=[some (.ref a),some (.ref qe),some (.ref d1),some (.ref d2),some (.str p.1),some (.ref c),o3])/\ab H H6/\aA H6 qe es/\aA H6 ql ld/\
     bG H6 d1 ka1 (fun x=>gat (fun r=>(Gram.lead es r).filter (fun s=>¬s∈R.map (·.1))) (R.take i) x++(if p.1=x then (ld.take j).filter (fun s=>¬s∈R.map (·.1)) else []))/\
     bG H6 d2 ka2 (fun x=>gat (fun r=>(Gram.lead es r).filter (fun s=>s∈R.map (·.1))) (R.take i) x++(if p.1=x then (ld.take j).filter (fun s=>s∈R.map (·.1)) else [])))
    ⟨⟨_,rfl⟩,s45,s5 _ _ hE4,hl5,(t1.keep s5).congr fun x _=>by simp,(t2.keep s5).congr fun x _=>by simp⟩ ?_ ?_ ?_⟩
   ·rintro j σ H6 _ ⟨_,_,_,h,_⟩;exact SqL.of h
   ·rintro j x σ H6 hx ⟨⟨o3,rfl⟩,s6,hE6,hl6,u1,u2⟩;obtain⟨y,hy,rfl⟩:=bS hx;have hjl:j<ld.length:=(aab.mp hy).1;obtain⟨o',g',ho'⟩:=u2.has g2 y;refine⟨_,rfl,_,rfl,d2,o',rfl,g',_,rfl,?_⟩;rw[ho'];have fitl:∀(g:Str->Bool),(gat (fun r=>(Gram.lead es r).filter g) (R.take i) p.1++(if p.1=p.1 then (ld.take j).filter g else [])).length<=900:=fun g=>by
     have h1:=gg (R:=R.take i) (x:=p.1) (g:=fun r=>(Gram.lead es r).filter g) (fun r=>Nat.le_trans (List.length_filter_le _ _) (Gram.gA es r)) fun q hq=>hg.small.wid q (List.mem_of_mem_take hq)
     have h2:((ld.take j).filter g).length<=20:=Nat.le_trans (List.length_filter_le _ _) (by rw[aal];omega);rw[if_pos rfl,aag];have h3:(gat (fun r=>(Gram.lead es r).filter g) (R.take i) p.1).length<=20*(R.take i).length:=h1;rw[aal] at h3;omega
    have grow:∀(g:Str->Bool),g y=true->∀x,(if x=p.1 then (gat (fun r=>(Gram.lead es r).filter g) (R.take i) p.1++(if p.1=p.1 then (ld.take j).filter g else []))++[y] else (gat (fun r=>(Gram.lead es r).filter g) (R.take i) x++(if p.1=x then (ld.take j).filter g else [])))=
      gat (fun r=>(Gram.lead es r).filter g) (R.take i) x++(if p.1=x then (ld.take (j+1)).filter g else []):=fun g hgy x=>by
     by_cases q:x=p.1
     ·subst q;rw[if_pos rfl,if_pos rfl,if_pos rfl,aap,hy,List.filter_append,List.append_assoc]
      congr 2
      show [y]=List.filter g [y];rw[List.filter_cons,if_pos hgy];rfl
     ·rw[if_neg q,if_neg fun z=>q z.symm,if_neg fun z=>q z.symm]
    have eK:∀(g:Str->Bool),g y=false->∀x,gat (fun r=>(Gram.lead es r).filter g) (R.take i) x++(if p.1=x then (ld.take j).filter g else [])=gat (fun r=>(Gram.lead es r).filter g) (R.take i) x++(if p.1=x then (ld.take (j+1)).filter g else []):=fun g hgy x=>by
     rw[aap,hy,List.filter_append];have:List.filter g (some y).toList=[]:=by
      show List.filter g [y]=[];rw[List.filter_cons,if_neg (by rw[hgy];decide)];rfl
     rw[this,List.append_nil]
    by_cases hys:y∈R.map (·.1)
    ·rw[aan ((hkm2 y).mpr hys)];refine bF ?_;obtain⟨al,hal,hgl,hll⟩:=u2.get g2 ((hkm2 p.1).mpr hpl);refine⟨_,rfl,_,rfl,d2,_,rfl,hgl,.inl ⟨rfl,_,SqL.of hll⟩,_,rfl,al,_,_,rfl,rfl,hll,by rw[aaa];exact aD (Nat.le_trans (fitl _) (by decide)),?_⟩;have ae:∀(L:List Str),L.map V.str++[V.str y]=(L++[y]).map V.str:=fun L=>by rw[aam];rfl
     rw[ae];have nal:=ap2 _ hal;refine⟨⟨_,rfl⟩,s6.bK (gH2 _ hal),?_,?_,(u1.kO nal.1 nal.2).congr fun x _=>eK _ (by simp[hys]) x,(u2.app g2 hal [y]).congr fun x _=>grow _ (by simp[hys]) x⟩
     ·have:qe≠al:=fun z=>by
       have q:=g2.fr _ hal;have q1:H2 qe=some _:=s2 _ _ hS1;rw[z] at q1;rw[q1] at q;cases q
      show upd H6 al _ qe=_;rw[aj this];exact hE6
     ·have:ql≠al:=fun z=>by
       have q:H4 al=some _:=t2.at_ _ hal;rw[←z,n5] at q;cases q
      show upd H6 al _ ql=_;rw[aj this];exact hl6
    ·rw[aai fun z=>hys ((hkm2 y).mp z)];refine aK ?_;obtain⟨al,hal,hgl,hll⟩:=u1.get g1 ((hkm1 p.1).mpr hpl);refine⟨_,rfl,_,rfl,d1,_,rfl,hgl,.inl ⟨rfl,_,SqL.of hll⟩,_,rfl,al,_,_,rfl,rfl,hll,by rw[aaa];exact aD (Nat.le_trans (fitl _) (by decide)),?_⟩;have ae:∀(L:List Str),L.map V.str++[V.str y]=(L++[y]).map V.str:=fun L=>by rw[aam];rfl
     rw[ae];have nal:=ap1 _ hal;refine⟨⟨_,rfl⟩,s6.bK (gH1 _ hal),?_,?_,(u1.app g1 hal [y]).congr fun x _=>grow _ (by simp[hys]) x,(u2.kO nal.1 nal.2).congr fun x _=>eK _ (by simp[hys]) x⟩
     ·have:qe≠al:=fun z=>by
       have q:=g1.fr _ hal;have q1:H1 qe=some _:=hS1;rw[z] at q1;rw[q1] at q;cases q
      show upd H6 al _ qe=_;rw[aj this];exact hE6
     ·have:ql≠al:=fun z=>by
       have q:H4 al=some _:=t1.at_ _ hal;rw[←z,n5] at q;cases q
      show upd H6 al _ ql=_;rw[aj this];exact hl6
   ·rintro σ H6 ⟨⟨o3,rfl⟩,s6,hE6,hl6,u1,u2⟩;rw[aaa,aas] at u1 u2;refine⟨⟨_,_,_,rfl⟩,s6,hE6,u1.congr fun x _=>?_,u2.congr fun x _=>?_⟩
    ·rw[oN _ hpi,hld]
    ·rw[oN _ hpi,hld]
  ·rintro σ H4 ⟨⟨o1,o2,o3,rfl⟩,s4,hE4,t1,t2⟩;rw[hlen,aas] at t1 t2;have e1:∀x,gat (fun r=>(Gram.lead es r).filter (fun s=>¬s∈R.map (·.1))) R x=Gram.own R es x:=fun x=>rfl
   have e2:∀x,gat (fun r=>(Gram.lead es r).filter (fun s=>s∈R.map (·.1))) R x=Gram.links R es x:=fun x=>rfl
   have gO:∀x,getL (tabOf ka1 (Gram.own R es)) x=Gram.own R es x:=fun x=>by
    rw[eh]
    by_cases q:x∈ka1.map (·.1)
    ·rw[if_pos q]
    ·rw[if_neg q]
     symm
     apply List.eq_nil_iff_forall_not_mem.mpr;intro y hy;obtain⟨r,hm,_⟩:=Gram.jB.mp hy;exact q ((hkm1 x).mpr (aao.mpr ⟨_,hm,rfl⟩))
   have gL:∀x,getL (tabOf ka2 (Gram.links R es)) x=Gram.links R es x:=fun x=>by
    rw[eh]
    by_cases q:x∈ka2.map (·.1)
    ·rw[if_pos q]
    ·rw[if_neg q]
     symm
     apply List.eq_nil_iff_forall_not_mem.mpr;intro y hy;obtain⟨r,hm,_⟩:=Gram.gN.mp hy;exact q ((hkm2 x).mpr (aao.mpr ⟨_,hm,rfl⟩))
   have hkl:∀{ka:KA},ka.map (·.1)=ao R->ka.length<=14:=fun{ka} h=>by
    have:=congrArg List.length h;rw[aaa] at this;have:=fH R;omega
   have dR:∀{d:Addr} {ka:KA} {v:Str->List Str},bG H4 d ka v->ev H4 d (tabOf ka v):=fun{d ka v} tv=>by
    obtain⟨kv,h1,h2⟩:=tv.m9;refine⟨kvsOf ka,tv.dk,?_⟩;rcases h1 with h1|⟨_,h1⟩
    ·rw[tv.dk] at h1;cases h1
     exact h2
    ·rw[tv.dk] at h1;cases h1
   have szb:∀(g:Str->Bool) (x:Str),(gat (fun r=>(Gram.lead es r).filter g) R x).length<=280:=fun g x=>by
    have h1:=gg (R:=R) (x:=x) (g:=fun r=>(Gram.lead es r).filter g) (fun r=>Nat.le_trans (List.length_filter_le _ _) (Gram.gA es r)) hg.small.wid;have h3:(gat (fun r=>(Gram.lead es r).filter g) R x).length<=20*R.length:=h1;omega
   obtain⟨U,hU,hUm⟩:=hg.small.few;refine⟨_,rfl,_,rfl,d1,d2,tabOf ka1 (Gram.own R es),tabOf ka2 (Gram.links R es),rfl,hd12,dR t1,dR t2,⟨?_,?_,?_,?_⟩,?_,?_,⟨U,hU,?_⟩,?_⟩
   ·rw[bz];exact g2.ndk
   ·intro e he y hy;rw[bz,hkm2];unfold tabOf at he;obtain⟨z,hz,rfl⟩:=aao.mp he;obtain⟨r,_,_,h⟩:=Gram.gN.mp hy;exact h
   ·have:=congrArg List.length (bz ka2 (Gram.links R es));rw[aaa,aaa] at this;have:=hkl hk2;omega
   ·have:=jl (ka:=ka2) (v:=Gram.links R es) (b:=280) fun e he=>szb _ _
    have h2:280*ka2.length<=280*14:=Nat.mul_le_mul_left _ (hkl hk2);omega
   ·rw[bz,bz,hk1,hk2]
   ·have:=jl (ka:=ka1) (v:=Gram.own R es) (b:=280) fun e he=>szb _ _
    have h2:280*ka1.length<=280*14:=Nat.mul_le_mul_left _ (hkl hk1);omega
   ·intro e he z hz;unfold tabOf at he;obtain⟨y,hy,rfl⟩:=aao.mp he;obtain⟨r,hm,h1,_⟩:=Gram.jB.mp hz;exact hUm _ hm z (Gram.iM _ _ _ h1)
   ·intro d res H5 x5 n5 hD hkr hcan;refine k d res H5 (fun b o e=>x5 b o (s4 _ _ e) (aP e (frH1 g1.frd))) (s4.free n5) hD (by rw[hkr,bz,hk1]) fun e he=>?_
    obtain⟨D,h1,h2,h3⟩:=hcan e he;refine⟨D,h1,h2,fun z=>?_⟩;rw[h3 z,tN hem,←Gram.xE];constructor
    ·rintro⟨y,q1,q2⟩;refine⟨y,q1.congr fun x y hy=>?_,?_⟩
     ·rw[gL] at hy;exact hy
     ·rw[gO] at q2;exact q2
    ·rintro⟨y,q1,q2⟩;refine⟨y,q1.congr fun x y hy=>?_,?_⟩
     ·rw[gL];exact hy
     ·rw[gO];exact q2
end
end Nw
namespace Nw
open PySem L2
open SL (ap srt)
inductive D where
 |str(s:Str)
 |int(i:Int)
 |tup(ds:List D)
 |lst(ds:List D)
mutual
def D.sz:D->Nat
 |.str _=>1
 |.int _=>1
 |.tup ds=>1+D.szs ds
 |.lst ds=>1+D.szs ds
def D.szs:List D->Nat
 |[]=>0
 |d::r=>D.sz d+D.szs r
end
theorem D.lS:∀(a b:List D),D.szs (a++b)=D.szs a+D.szs b
 |[],b=>by simp[D.szs]
 |d::r,b=>by
  show D.sz d+D.szs (r++b)=D.sz d+D.szs r+D.szs b;rw[D.lS r b];omega
theorem D.ij(d:D):1<=d.sz:=by cases d <;> simp[D.sz] <;> omega
theorem D.lT:∀ds:List D,ds.length<=D.szs ds
 |[]=>Nat.le_refl _
 |d::r=>by
  have:=D.ij d;have:=D.lT r;show r.length+1<=D.sz d+D.szs r;omega
inductive Rep(H:Hp):V->D->Prop
 |str (s:Str):Rep H (.str s) (.str s)
 |int (i:Int):Rep H (.int i) (.int i)
 |tup {a:Addr} {xs:List V} {ds:List D}:H a=some (.tup xs)->xs.length=ds.length->(∀(i:Nat) (x:V) (d:D),xs[i]? =some x->ds[i]? =some d->Rep H x d)->Rep H (.ref a) (.tup ds)
 |lst {a:Addr} {xs:List V} {ds:List D}:H a=some (.lst xs)->xs.length=ds.length->(∀(i:Nat) (x:V) (d:D),xs[i]? =some x->ds[i]? =some d->Rep H x d)->Rep H (.ref a) (.lst ds)
theorem Rep.mono{H H':Hp}(e:ab H H'){v:V}{d:D}(h:Rep H v d):Rep H' v d:=by
 induction h with
 |str s=>exact .str s
 |int i=>exact .int i
 |tup h1 h2 _ ih=>exact .tup (e _ _ h1) h2 ih
 |lst h1 h2 _ ih=>exact .lst (e _ _ h1) h2 ih
abbrev sSo:Stmt:=top 56
theorem oO:aJ ["_law_found","_law_due","_law_todo","_law_one","_law_other","_law_k"] ["_law_found","_law_due"] (aw sSo):=⟨rfl,rfl,rfl,by decide +kernel,rfl,by decide +kernel,by decide +kernel⟩
def vp:Sp:=fun vs H Q _=>∃(x y:V) (d:D),vs=[x,y]/\Rep H x d/\Rep H y d/\d.sz<=10000/\∀H',ab H H'->Q (.bl true) H'
def eF(H H1:Hp)(v:V)(d:D):Prop:=∃t x y,v=.ref t/\H1 t=some (.tup [x,y])/\Rep H x d/\Rep H y d
theorem ik:bootBuiltins "list"=some (.type "list"):=by decide +kernel
theorem dG:bootBuiltins "tuple"=some (.type "tuple"):=by decide +kernel
theorem dJ:bootBuiltins "str"=some (.type "str"):=by decide +kernel
theorem lV:bootBuiltins "bool"=some (.type "bool"):=by decide +kernel
theorem tO:bootBuiltins "int"=some (.type "int"):=by decide +kernel
theorem boot_isinstance:bootBuiltins "isinstance"=some (.builtin "isinstance"):=by decide +kernel
section
variable {K:PySem.W.Frag}
theorem vq:PySem.W.kitAny K (.type "str") (["list","tuple"].map Value.type)=some false:=by rfl
theorem vt:PySem.W.kitAny K (.type "int") (["list","tuple"].map Value.type)=some false:=by rfl
theorem tP:PySem.W.kitAny K (.type "list") (["list","tuple"].map Value.type)=some true:=by rfl
theorem vw:PySem.W.kitAny K (.type "tuple") (["list","tuple"].map Value.type)=some true:=by rfl
theorem vx:PySem.W.kitOne K (.type "list") (.type "list")=some true:=by rfl
theorem k_lt:PySem.W.kitOne K (.type "list") (.type "tuple")=some false:=by rfl
theorem AC:PySem.W.kitOne K (.type "tuple") (.type "list")=some false:=by rfl
theorem kc:PySem.W.kitOne K (.type "tuple") (.type "tuple")=some true:=by rfl
theorem iO:PySem.W.kitOne K (.type "str") (.type "str")=some true:=by rfl
theorem k_is:PySem.W.kitOne K (.type "int") (.type "str")=some false:=by rfl
theorem vy:PySem.W.kitOne K (.type "int") (.type "bool")=some false:=by rfl
theorem yL:PySem.W.kitOne K (.type "int") (.type "int")=some true:=by rfl
end
section
variable {P:Program}{w:World}{K:PySem.W.Frag}{mg:Str->Option Value}{base:Heap}
theorem zS{f:Addr}{fd:FuncData}(F:Fun K "_law_so" "_law_so" sSo f fd)(T:Txt mg):be P w K mg base CX0 1 f fd ["_law_found","_law_due"] vp:=by
 refine F.ok oO (fun vs H Q E h=>?_) (fun cdv A outer s H vs Q E hr h=>?_)
 ·obtain⟨x,y,d,rfl,_⟩:=h;rfl
 ·obtain⟨x0,y0,d0,rfl,hx0,hy0,hsz,k⟩:=h;have hu:=cI hr;have hu0:(A.deeper (PyProof.Rows.envOfC "_law_so" (aw sSo) s.heap.objs.size f cdv)).units<cLine:=Nat.lt_of_succ_lt hu;refine⟨_,af (aq (i:=2) oO.nd rfl (Or.inl rfl) (bx (ai (aZ (ai (pv 0) (ai (pv 1) ac))) ac)))
   (af (dS PassesOwn.never (aL (j7 hu0) (pv 2) (bx ac) (aY _))
    (af (nI (kz PySem.F.plainAttrs_list PySem.F.slot_list_pop PySem.F.type_list_pop kA (pv 2)) (cT (n:=2) rfl (aN (az (i:=3) oO.nd rfl (Or.inl rfl)) (aN (az (i:=4) oO.nd rfl (Or.inl rfl)) cp))))
    (ag (a7 (ba (au tG (by rfl) T.isi boot_isinstance (ai (pv 4) (ai (aZ (ai (a9 (v:=.ty "list") (by rfl) T.lst ik rfl) (ai (a9 (v:=.ty "tuple") (by rfl) T.tup dG rfl) ac))) ac))))
     (af (a7 (aL dC (au a0 (by rfl) T.isi boot_isinstance (ai (pv 3) (ai (a9 (v:=.ty "list") (by rfl) T.lst ik rfl) ac))) (au a0 (by rfl) T.isi boot_isinstance (ai (pv 4) (ai (a9 (v:=.ty "list") (by rfl) T.lst ik rfl) ac))) (aY _)) a8 aT)
     (af (a7 (aL dC (au a0 (by rfl) T.isi boot_isinstance (ai (pv 3) (ai (a9 (v:=.ty "tuple") (by rfl) T.tup dG rfl) ac))) (au a0 (by rfl) T.isi boot_isinstance (ai (pv 4) (ai (a9 (v:=.ty "tuple") (by rfl) T.tup dG rfl) ac))) (aY _)) a8 aT)
     (af (a7 (aL dC (au aV (by rfl) T.len PySem.boot_len (ai (pv 3) ac)) (au aV (by rfl) T.len PySem.boot_len (ai (pv 4) ac)) (aY _)) a8 aT)
     (ag (bb PassesOwn.never rfl (gG (by rfl) T.rng (ai (au aV (by rfl) T.len PySem.boot_len (ai (pv 4) ac)) ac)) (az (i:=5) oO.nd rfl (Or.inl rfl))
      (ag (bv (bZ PySem.F.plainAttrs_list PySem.F.slot_list_append PySem.F.type_list_append bf (pv 2) (ai (aZ (ai (aC sO (pv 3) (pv 5) (fun _ _=>rfl)) (ai (aC sO (pv 4) (pv 5) (fun _ _=>rfl)) ac))) ac)))))))))
     (ag (a7 (ba (au a0 (by rfl) T.isi boot_isinstance (ai (pv 4) (ai (a9 (v:=.ty "str") (by rfl) T.str dJ rfl) ac))))
      (ag (a7 (PW.pt (ci (b8 (ba (au a0 (by rfl) T.isi boot_isinstance (ai (pv 3) (ai (a9 (v:=.ty "str") (by rfl) T.str dJ rfl) ac))))) (c7 (aL dC (pv 3) (pv 4) (aY _))))) a8 aT))
      (ag (a7 (ba (au a0 (by rfl) T.isi boot_isinstance (ai (pv 4) (ai (a9 (v:=.ty "bool") (by rfl) T.bl lV rfl) ac)))) a8
       (ag (a7 (aL sJ (pv 4) gs (aY _)) a8
        (ag (a7 (PW.pt (ci (b8 (ba (au a0 (by rfl) T.isi boot_isinstance (ai (pv 3) (ai (a9 (v:=.ty "int") (by rfl) T.int tO rfl) ac)))))
         (ci (ba (au a0 (by rfl) T.isi boot_isinstance (ai (pv 3) (ai (a9 (v:=.ty "bool") (by rfl) T.bl lV rfl) ac)))) (c7 (aL dC (pv 3) (pv 4) (aY _)))))) a8 aT))))))))))))
   (ag (aQ fF))),?_⟩
  refine⟨_,rfl,_,rfl,(show 2<=sizeLine by decide),fun t0 ht0=>⟨(show 1<=sizeLine by decide),fun tl htl=>?_⟩⟩;have s0:ab H (upd H t0 (.tup [x0,y0])):=ab.upd ht0;have htlH:H tl=none:=s0.free htl;refine⟨fun m σ H1=>∃ts vs o1 o2 o3,σ=[some x0,some y0,some (.ref tl),o1,o2,o3]/\ab H H1/\H1 tl=some (.lst vs)/\Paired (eF H H1) vs ts/\m=D.szs ts/\m<=10000,
   ⟨_,[d0],_,none,none,none,rfl,s0.trans (ab.upd htl),aa,.cons ⟨t0,x0,y0,rfl,by rw[aj (aP (aa (H:=H)) htl)];exact aa,hx0,hy0⟩ .nil,rfl,by show d0.sz+0<=_;omega⟩,?_⟩
  rintro m σ H1 ⟨ts,vs,o1,o2,o3,rfl,s1,hl1,hp1,rfl,hm⟩;refine⟨_,rfl,by decide,fun qn hqn=>?_⟩;have hqt:tl≠qn:=aP hl1 hqn;have sn:ab H1 (upd H1 qn (.lst [])):=ab.upd hqn;refine⟨tl,qn,vs,rfl,rfl,SqL.of (sn _ _ hl1),SqL.of aa,_,rfl,?_⟩;rcases List.eq_nil_or_concat vs with rfl|⟨vi,vl,rfl⟩
  ·exact aK (k _ (s1.trans sn))
  ·rw[show(!(vi.concat vl).isEmpty)=true by simp];refine bF ?_;obtain⟨ti,dl,rfl,hpi,hpl⟩:∃ti dl,ts=ti++[dl]/\Paired (eF H H1) vi ti/\eF H H1 vl dl:=by
    have key:∀{vi:List V} {ts:List D},Paired (eF H H1) (vi++[vl]) ts->∃ti dl,ts=ti++[dl]/\Paired (eF H H1) vi ti/\eF H H1 vl dl:=by
     intro vi
     induction vi with
     |nil=>
      intro ts h;cases h with
      |cons h1 h2=>cases h2;exact⟨[],_,rfl,.nil,h1⟩
     |cons v r ih=>
      intro ts h;cases h with
      |cons h1 h2=>
       obtain⟨ti,dl,rfl,q1,q2⟩:=ih h2;exact⟨_::ti,dl,rfl,.cons h1 q1,q2⟩
    exact key (by rw[←List.concat_eq_append];exact hp1)
   obtain⟨t,x,y,rfl,ht,hx,hy⟩:=hpl;have hsz2:D.szs (ti++[dl])=D.szs ti+dl.sz:=by rw[D.lS];rfl
   have s1n:=s1.trans sn;generalize hH2:upd H1 qn (.lst [])=H2 at sn s1n;have hl2:H2 tl=some (.lst (vi++[V.ref t])):=by rw[←List.concat_eq_append];exact sn _ _ hl1
   refine⟨fun σ H4=>∃ts' vs' o1 o2 o3,σ=[some x0,some y0,some (.ref tl),o1,o2,o3]/\ab H H4/\H4 tl=some (.lst vs')/\Paired (eF H H4) vs' ts'/\D.szs ts'<D.szs (ti++[dl]),?_,?_⟩
   ·rintro σ' H4 ⟨ts',vs',o1,o2,o3,rfl,q1,q2,q3,q4⟩;exact⟨_,q4,ts',vs',o1,o2,o3,rfl,q1,q2,q3,rfl,by omega⟩
   refine⟨_,rfl,.inl ⟨rfl,_,SqL.of hl2⟩,tl,_,V.ref t,rfl,rfl,hl2,by simp,?_⟩;rw[List.dropLast_concat];generalize hH3:upd H2 tl (.lst vi)=H3;have s3:ab H H3:=by rw[←hH3];exact s1n.bK htlH
   have c9:∀{H4:Hp} {b:Addr} {xs:List V},(∀z o,H2 z=some o->z≠tl->H4 z=some o)->H1 b=some (.tup xs)->H4 b=some (.tup xs):=fun{H4 b xs} h e=>by
    have e2:=sn _ _ e;refine h _ _ e2 fun z=>?_
    rw[z,hl2] at e2;cases e2
   have x3:∀z o,H2 z=some o->z≠tl->H3 z=some o:=fun z o e hz=>by rw[←hH3,aj hz];exact e
   have hl3:H3 tl=some (.lst vi):=by rw[←hH3,aa]
   have ht3:H3 t=some (.tup [x,y]):=c9 x3 ht;have keepP:∀{H4:Hp},(∀z o,H2 z=some o->z≠tl->H4 z=some o)->Paired (eF H H4) vi ti:=fun{H4} h=>Paired.bT hpi fun _ _ ⟨t',x',y',q1,q2,q3,q4⟩=>⟨t',x',y',q1,c9 h q2,q3,q4⟩
   have same3:∀{H4:Hp},ab H3 H4->∀z o,H2 z=some o->z≠tl->H4 z=some o:=fun{H4} h z o e hz=>h _ _ (x3 z o e hz)
   refine⟨t,_,rfl,SqT.of ht3,rfl,x,_,rfl,y,_,rfl,rfl,?_⟩;refine⟨_,rfl,(show 2<=sizeLine by decide),fun tp htp=>?_⟩;have s4:ab H3 (upd H3 tp (.tup [.ty "list",.ty "tuple"])):=ab.upd htp;generalize hH4:upd H3 tp (.tup [.ty "list",.ty "tuple"])=H4 at s4;have htp4:H4 tp=some (.tup (["list","tuple"].map V.ty)):=by rw[←hH4];exact aa
   have s34:=s3.trans s4;have hl4:H4 tl=some (.lst vi):=s4 _ _ hl3;have done:∀o3':Option V,∃ts' vs' o1 o2 o3,[some x0,some y0,some (V.ref tl),some x,some y,o3']=[some x0,some y0,some (.ref tl),o1,o2,o3]/\ab H H4/\H4 tl=some (.lst vs')/\Paired (eF H H4) vs' ts'/\D.szs ts'<D.szs (ti++[dl]):=fun _=>
    ⟨ti,vi,_,_,_,rfl,s34,hl4,keepP (same3 s4),by rw[hsz2];have:=D.ij dl;omega⟩
   have parts:∀(b:Bool) (ax ay:Addr) (xs ys:List V) (ds:List D),x=.ref ax->y=.ref ay->dl.sz=1+D.szs ds->xs.length=ds.length->ys.length=ds.length->
     (∀(i:Nat) (u:V) (d:D),xs[i]? =some u->ds[i]? =some d->Rep H u d)->(∀(i:Nat) (u:V) (d:D),ys[i]? =some u->ds[i]? =some d->Rep H u d)->
     (if b=true then H ax=some (.tup xs)/\H ay=some (.tup ys) else H ax=some (.lst xs)/\H ay=some (.lst ys))->∃tn:String,(∀H5,ab H H5->cx K H5 (.ref ax) (.type tn)/\cx K H5 (.ref ay) (.type tn))/\
      PySem.W.kitAny K (.type tn) (["list","tuple"].map Value.type)=some true/\PySem.W.kitOne K (.type tn) (.type "list")=some (!b)/\PySem.W.kitOne K (.type tn) (.type "tuple")=some b/\
      (∀H5,ab H H5->(SqL K H5 ax xs\/SqT K H5 ax xs)/\(SqL K H5 ay ys\/SqT K H5 ay ys))/\
      (∀(H5:Hp) (i:Nat) (u:V) (Q:VK),ab H H5->xs[i]? =some u->Q u H5->rIx K (.ref ax) (.int (0+(i:Int))) H5 Q)/\(∀(H5:Hp) (i:Nat) (u:V) (Q:VK),ab H H5->ys[i]? =some u->Q u H5->rIx K (.ref ay) (.int (0+(i:Int))) H5 Q):=by
    intro b ax ay xs ys ds _ _ _ _ _ _ _ hb;cases b with
    |true=>
     obtain⟨h1,h2⟩:=hb;refine⟨"tuple",fun H5 e=>⟨cx.tup (e _ _ h1),cx.tup (e _ _ h2)⟩,vw,AC,kc,fun H5 e=>⟨.inr (SqT.of (e _ _ h1)),.inr (SqT.of (e _ _ h2))⟩,fun H5 i u Q e hi q=>?_,fun H5 i u Q e hi q=>?_⟩
     ·exact .inr (.inl ⟨ax,xs,_,u,rfl,rfl,SqT.of (e _ _ h1),by rw[Int.zero_add];exact ak hi,q⟩)
     ·exact .inr (.inl ⟨ay,ys,_,u,rfl,rfl,SqT.of (e _ _ h2),by rw[Int.zero_add];exact ak hi,q⟩)
    |false=>
     obtain⟨h1,h2⟩:=hb;refine⟨"list",fun H5 e=>⟨cx.lst (e _ _ h1),cx.lst (e _ _ h2)⟩,tP,vx,k_lt,fun H5 e=>⟨.inl (SqL.of (e _ _ h1)),.inl (SqL.of (e _ _ h2))⟩,fun H5 i u Q e hi q=>?_,fun H5 i u Q e hi q=>?_⟩
     ·exact .inl ⟨ax,xs,_,u,rfl,rfl,SqL.of (e _ _ h1),by rw[Int.zero_add];exact ak hi,q⟩
     ·exact .inl ⟨ay,ys,_,u,rfl,rfl,SqL.of (e _ _ h2),by rw[Int.zero_add];exact ak hi,q⟩
   have kinds:(∃s,x=.str s/\y=.str s)\/(∃i,x=.int i/\y=.int i)\/∃(b:Bool) (ax ay:Addr) (xs ys:List V) (ds:List D),x=.ref ax/\y=.ref ay/\dl.sz=1+D.szs ds/\xs.length=ds.length/\ys.length=ds.length/\
     (∀(i:Nat) (u:V) (d:D),xs[i]? =some u->ds[i]? =some d->Rep H u d)/\(∀(i:Nat) (u:V) (d:D),ys[i]? =some u->ds[i]? =some d->Rep H u d)/\
     (if b=true then H ax=some (.tup xs)/\H ay=some (.tup ys) else H ax=some (.lst xs)/\H ay=some (.lst ys)):=by
    cases hy with
    |str sy=>cases hx with | str=>exact .inl ⟨_,rfl,rfl⟩
    |int i=>cases hx with | int=>exact .inr (.inl ⟨_,rfl,rfl⟩)
    |tup h1 h2 h3=>cases hx with | tup g1 g2 g3=>exact .inr (.inr ⟨true,_,_,_,_,_,rfl,rfl,rfl,g2,h2,g3,h3,g1,h1⟩)
    |lst h1 h2 h3=>cases hx with | lst g1 g2 g3=>exact .inr (.inr ⟨false,_,_,_,_,_,rfl,rfl,rfl,g2,h2,g3,h3,g1,h1⟩)
   rcases kinds with ⟨sy,rfl,rfl⟩|⟨iy,rfl,rfl⟩|⟨b,ax,ay,xs,ys,ds,ex,ey,esz,lx,ly,rx,ry,hb⟩
   ·refine⟨.str sy,tp,["list","tuple"],_,_,rfl,htp4,cx.str _,vq,_,rfl,aK ?_⟩;refine⟨_,rfl,_,_,_,_,rfl,cx.str _,iO,_,rfl,bF ?_⟩;refine⟨_,rfl,_,_,_,_,rfl,cx.str _,iO,_,rfl,aK ?_⟩;exact⟨_,rfl,_,rfl,rfl,_,rfl,dE rfl (done _)⟩
   ·refine⟨.int iy,tp,["list","tuple"],_,_,rfl,htp4,cx.int _,vt,_,rfl,aK ?_⟩;refine⟨_,rfl,_,_,_,_,rfl,cx.int _,k_is,_,rfl,aK ?_⟩;refine⟨_,rfl,_,_,_,_,rfl,cx.int _,vy,_,rfl,aK ?_⟩;refine⟨_,rfl,rfl,_,rfl,aK ?_⟩;refine⟨_,rfl,_,_,_,_,rfl,cx.int _,yL,_,rfl,aK ?_⟩;refine⟨_,rfl,_,_,_,_,rfl,cx.int _,vy,_,rfl,aK ?_⟩;exact⟨_,rfl,_,rfl,rfl,_,rfl,dE rfl (done _)⟩
   ·obtain⟨tn,ty,ka,kl,kt,sq,ix1,ix2⟩:=parts b ax ay xs ys ds ex ey esz lx ly rx ry hb;subst ex;subst ey;obtain⟨ty1,ty2⟩:=ty H4 s34;obtain⟨sq1,sq2⟩:=sq H4 s34;have hlen:xs.length=ys.length:=lx.trans ly.symm;have hds:ds.length<=10000:=by
     have:=D.lT ds;omega
    refine⟨.ref ay,tp,["list","tuple"],_,_,rfl,htp4,ty2,ka,_,rfl,bF ?_⟩;refine⟨_,rfl,_,_,_,_,rfl,ty1,kl,_,rfl,_,_,_,_,rfl,ty2,kl,rfl,_,rfl,dE rfl ?_⟩;refine⟨_,rfl,_,_,_,_,rfl,ty1,kt,_,rfl,_,_,_,_,rfl,ty2,kt,rfl,_,rfl,dE rfl ?_⟩;refine⟨_,rfl,ax,_,rfl,sq1,_,rfl,ay,_,rfl,sq2,rfl,_,rfl,dE (by rw[hlen]) ?_⟩;refine⟨_,rfl,ay,_,rfl,sq2,_,rfl,by omega,by omega,gH (n:=(ys.length:Int).toNat) (fun i σ H5=>∃vs' o3,σ=[some x0,some y0,some (.ref tl),some (.ref ax),some (.ref ay),o3]/\ab H H5/\H5 tl=some (.lst vs')/\Paired (eF H H5) vs' (ti++ds.take i))
     ⟨vi,_,rfl,s34,hl4,by rw[List.take_zero,List.append_nil];exact keepP (same3 s4)⟩ ?_ ?_⟩
    ·rintro i σ H5 hi ⟨vs',o3',rfl,s5,hl5,hp5⟩;have hi':i<ds.length:=by rw[Int.toNat_natCast] at hi;omega
     have hxi:xs[i]? =some xs[i]:=aae (by omega);have hyi:ys[i]? =some ys[i]:=aae (by omega);have hdi:ds[i]? =some ds[i]:=aae hi';have hvl:vs'.length<=20000:=by
      have h1:=Paired.length hp5;rw[aag,aal] at h1;have h2:=D.lT ti;omega
     refine⟨_,rfl,.inl ⟨rfl,_,SqL.of hl5⟩,_,rfl,_,rfl,ix1 H5 i _ _ s5 hxi ?_⟩;refine⟨_,rfl,_,rfl,ix2 H5 i _ _ s5 hyi ⟨(show 2<=sizeLine by decide),fun p hp=>?_⟩⟩;have hpt:tl≠p:=aP hl5 hp;have sp:ab H5 (upd H5 p (.tup [xs[i],ys[i]])):=ab.upd hp;refine⟨tl,vs',_,rfl,rfl,sp _ _ hl5,Nat.lt_of_le_of_lt hvl (by rw[PySem.sizeLine_eq];decide),vs'++[.ref p],_,rfl,(s5.trans sp).bK htlH,aa,?_⟩;have kt5:∀{b:Addr} {us:List V},H5 b=some (.tup us)->upd (upd H5 p (.tup [xs[i],ys[i]])) tl (.lst (vs'++[.ref p])) b=some (.tup us):=fun{b us} e=>by
      have e2:=sp _ _ e;rw[aj fun z=>by rw[z,hl5] at e;cases e];exact e2
     rw[aap,hdi,←List.append_assoc];refine cm (Paired.bT hp5 fun _ _ ⟨t',x',y',q1,q2,q3,q4⟩=>⟨t',x',y',q1,kt5 q2,q3,q4⟩) ⟨p,_,_,rfl,?_,rx i _ _ hxi hdi,ry i _ _ hyi hdi⟩;rw[aj (Ne.symm hpt),aa]
    ·rintro σ H5 ⟨vs',o3',rfl,s5,hl5,hp5⟩;rw[Int.toNat_natCast,ly,aas] at hp5;exact⟨_,vs',_,_,_,rfl,s5,hl5,hp5,by rw[hsz2,D.lS];omega⟩
end
end Nw
namespace Nw
open PySem L2
open SL (ap srt)
abbrev iP:Stmt:=top 49
theorem zT:aJ ["_law_rows"] ["_law_rows"] (aw iP):=⟨rfl,rfl,rfl,by decide +kernel,rfl,by decide +kernel,by decide +kernel⟩
def cb(es:List Str)(f:Tab)(r:List Str):List Str:=(Gram.lead es r).flatMap fun s=>(f.lookup s).getD [s]
theorem tQ{f:Tab}{x:Str}{ys:List Str}(h:f.lookup x=some ys):(x,ys)∈f:=lookup_mem h
theorem kP{es:List Str}{f:Tab}(hf:∀e∈f,e.2.length<=40):∀(l:List Str),(l.flatMap fun s=>(f.lookup s).getD [s]).length<=40*l.length
 |[]=>by simp
 |s::r=>by
  have ih:=kP (es:=es) hf r;rw[List.flatMap_cons,aag,aau];have:((f.lookup s).getD [s]).length<=40:=by
   cases e:f.lookup s with
   |none=>simp
   |some ys=>exact hf _ (tQ e)
  omega
section
variable {P:Program}{w:World}{K:PySem.W.Frag}{mg:Str->Option Value}{base:Heap}
theorem yM{f:Addr}{fd:FuncData}(F:Fun K "_law_all_sorts" "_law_all_sorts" iP f fd)(T:Txt mg):be P w K mg base CX0 1 f fd ["_law_rows"] cF:=by
 refine F.ok zT (fun vs H Q E h=>?_) (fun cdv A outer s H vs Q E hr h=>?_)
 ·obtain⟨a,R,rfl,_⟩:=h;rfl
 ·obtain⟨a,R,rfl,hR,hsm,k⟩:=h;have hn:R.length<64:=by have:=hsm.len;omega
  refine⟨_,ag (aQ (au (cR rfl) (by rfl) T.srt PyProof.Rows.boot_sorted (ai
   (dy (eO rfl) (by rfl) T.set (by decide +kernel) (ai
    (dj (bq.plain (N:=["_law_row"]) (by rfl) (by rfl) (by decide)) rfl (aO (pv 0)) (fun s₃ H₃ fp=>az (i:=0) (show(["_law_row"]:List Str).Nodup by decide) rfl (Or.inl rfl)) (fun s₃ H₃ fp=>di)
     (fun s₃ H₃ fp=>aC (r:=j1 K) aF (pv 0) am (fun _ _=>rfl))) ac)) ac))),?_⟩
  obtain⟨vs,hv,hp⟩:=hR;have hlen:vs.length=R.length:=Paired.length hp;refine⟨_,rfl,a,rfl,⟨vs,SqL.of hv⟩,fun D hD=>cO (K:=K) (xs:=vs) (fun i τ H1=>(∃o,τ=[o])/\H1=upd H D (.lst ((R.take i).map fun p=>V.str p.1))) ⟨⟨_,rfl⟩,rfl⟩ ?_ ?_ ?_⟩
  ·rintro i τ H1 ⟨_,rfl⟩;exact(ab.upd hD).seq (SqL.of hv)
  ·rintro i x τ H1 hx ⟨⟨o,rfl⟩,rfl⟩;obtain⟨p,hpi,t,b,rfl,ht,hb⟩:=aW hp i x hx;have hil:i<R.length:=(aab.mp hpi).1;refine⟨_,rfl,t,_,0,_,rfl,rfl,SqT.of (ab.upd hD _ _ ht),ak (j:=0) rfl,_,aa,?_,⟨_,rfl⟩,?_⟩
   ·rw[aaa,aal];exact aD (by omega)
   ·rw[cZ,aap,hpi,aam];rfl
  ·rintro τ H1 ⟨_,rfl⟩;rw[hlen,aas];have em:(R.map fun p=>V.str p.1)=(R.map (·.1)).map V.str:=by rw[List.map_map];rfl
   rw[em];refine⟨D,R.map (·.1),rfl,SqL.of aa,?_,fun q hq=>?_⟩
   ·rw[aaa];unfold scanBound;omega
   ·refine⟨q,ap (R.map (·.1)),rfl,.inr (.inl aa),?_,fun q2 hq2=>?_⟩
    ·have:=SL.fS (R.map (·.1));rw[aaa] at this;omega
    ·have s1:=(ab.upd (o:=.lst ((R.map (·.1)).map V.str)) hD);have n1:H q=none:=s1.free hq;have s2:ab H (upd (upd H D (.lst ((R.map (·.1)).map V.str))) q (dt w q (ap (R.map (·.1))))):=s1.trans (ab.upd hq);exact k q2 _ (s2.trans (ab.upd hq2)) (s2.free hq2) aa
end
end Nw
namespace Nw
open PySem L2
open SL (ap srt)
def gC(v:Str->List Str)(x:Str)(ys:List Str):Str->List Str:=fun y=>if y=x then ys else v y
theorem fT{v:Str->List Str}{x:Str}{ys:List Str}:gC v x ys x=ys:=if_pos rfl
theorem im{v:Str->List Str}{x y:Str}{ys:List Str}(h:y≠x):gC v x ys y=v y:=if_neg h
theorem ev.l{H:Hp}{d:Addr}{f:Tab}(h:ev H d f):d9 H d f:=by
 obtain⟨kvs,h1,h2⟩:=h;exact⟨kvs,.inl h1,h2⟩
def tot(ks:List Str)(v:Str->List Str):Nat:=(ks.map fun x=>(v x).length).sum
theorem jG:∀{ks:List Str} {v:Str->List Str} {x:Str} {ys:List Str},ks.Nodup->x∈ks->tot ks (gC v x ys)+(v x).length=tot ks v+ys.length
 |[],_,_,_,_,h=>by cases h
 |k::r,v,x,ys,nd,h=>by
  rw[List.nodup_cons] at nd;show(gC v x ys k).length+tot r (gC v x ys)+_=(v k).length+tot r v+_
  by_cases q:k=x
  ·subst q;have e:tot r (gC v k ys)=tot r v:=by
    unfold tot
    congr 1
    apply List.map_congr_left;intro y hy;have:y≠k:=fun z=>nd.1 (z▸hy)
    rw[im this]
   rw[fT,e];omega
  ·have hr:x∈r:=(List.mem_cons.mp h).resolve_left fun z=>q z.symm
   have ih:=jG (v:=v) (ys:=ys) nd.2 hr;rw[im q];omega
theorem yN{es:List Str}{f:Tab}{r:List Str}{z:Str}:z∈cb es f r↔∃s∈Gram.lead es r,z∈(f.lookup s).getD [s]:=List.mem_flatMap
section
variable {P:Program}{w:World}{K:PySem.W.Frag}{mg:Str->Option Value}{base:Heap}
end
end Nw
namespace L2
open PySem PySem.Spec PyProof.Rows
section
variable {X:Cx}{st:Stmt}{rest:List Stmt}{t u:TS}
def yO(t u:TS):TS:=fun D σ H=>∃N:St->Hp->Prop,t {D with nx:=N} σ H/\∀σ' H',N σ' H'->u D σ' H'
theorem b9(h1:PS X st t)(h2:PSs X rest u):PSs X (st::rest) (yO t u):=by
 intro pins s σ H D I h;obtain⟨N,h,k⟩:=h;refine wpAny_execs_cons (thn (h1 pins s σ H {D with nx:=N} I h) fun f s1 q=>?_);cases f with
 |next=>
  obtain⟨σ',H',I',q⟩:=q;exact h2 pins s1 σ' H' D I' (k _ _ q)
 |ret v=>exact q
 |brk=>exact q
 |cont=>exact q
end
theorem fU{e:Expr}{es:List Expr}{env:Env}(h:∀a p,e≠.Starred a p):starEach (e::es) env=(false,eval e env)::starEach es env:=by
 rw[starEach];intro a p z;exact h a p z
theorem ad{X:Cx}{e:Expr}{es:List Expr}{te:TE}{t:TA}(ha:PE X e te)(hr:PA X es t)(hs:∀a p,e≠Expr.Starred a p:=by intro _ _ h;cases h):PA X (e::es) (jz te t):=ai ha hr (fU hs)
theorem yP{X:Cx}{o e:Expr}{to:TE}{t:TA}{name:Str}{apos cpos:Pos}{T id:String}{r:V->List V->Hp->VK->Prop}(pa:PlainAttrs T)(slot:Slot T name id)(hty:typeOf (.builtin id)=pure (.type "method_descriptor"))(hm:MtR X id r)(ho:PE X o to)(ha:PA X [e] t)
  (hbase:attributeBase o name X.env (eval o X.env)=eval o X.env:=by rfl)(hline:(apos.endLine == cpos.line)=true:=by rfl)(hs:∀a p,e≠Expr.Starred a p:=by intro _ _ h;cases h):PE X (.Call (.Attribute o name apos) [e] [] cpos) (tBM X.K T r to t):=
 bZ pa slot hty hm ho ha hbase (by rw[fU hs];rfl) hline (fU hs) rfl
theorem fI(a b:Str):(a++b).length=a.length+b.length:=by
 show(a.cps++b.cps).size=a.cps.size+b.cps.size;rw[Array.size_append]
end L2
namespace Nw
open PySem L2
open SL (ap srt)
abbrev vz:Stmt:=top 53
theorem kQ:aJ ["_law_cell","_law_left","_law_word"] ["_law_cell"] (aw vz):=⟨rfl,rfl,rfl,by decide +kernel,rfl,by decide +kernel,by decide +kernel⟩
def qY:Sp:=fun vs H Q _=>∃(c:Int),vs=[.int c]/\∀z:Str,z.length<=40->Q (.str z) H
abbrev qZ:Stmt:=top 54
theorem yQ:aJ ["_law_script","_law_most","_law_bound"] ["_law_script","_law_most","_law_bound"] (aw qZ):=⟨rfl,rfl,rfl,by decide +kernel,rfl,by decide +kernel,by decide +kernel⟩
def oQ(K:PySem.W.Frag):Sp:=fun vs H Q _=>∃(a:Addr) (xs:List V) (x y:V),vs=[.ref a,x,y]/\SqL K H a xs/\xs.length<=63/\Q x H
theorem boot_abs:bootBuiltins "abs"=some (.builtin "abs"):=by decide +kernel
theorem io{α:Type}{xs:List α}{n:Int}(hn:n=(xs.length:Int))(h0:0<n)(c:Int):∃(j:Nat) (v:α),xs[j]? =some v/\c % n=(j:Int)/\atI xs (c % n)=some v:=by
 have h1:=Int.emod_nonneg c (Int.ne_of_gt h0);have h2:=Int.emod_lt_of_pos c h0;obtain⟨j,hj⟩:=Int.eq_ofNat_of_zero_le h1;have hjl:j<xs.length:=by omega
 have hg:xs[j]? =some xs[j]:=aae hjl;exact⟨j,xs[j],hg,hj,by rw[hj];exact ak hg⟩
theorem pow_step{l:Int}{e:Nat}(h0:0<=l)(h:l<26 ^ e)(h1:0<=l / 26 - 1):∃e',e=e'+1/\l / 26 - 1<26 ^ e':=by
 cases e with
 |zero=>simp at h;omega
 |succ e=>
  refine⟨e,rfl,?_⟩;rw[Int.pow_succ] at h;generalize (26:Int) ^ e=p at *;omega
section
variable {P:Program}{w:World}{K:PySem.W.Frag}{mg:Str->Option Value}{base:Heap}
theorem xL{f:Addr}{fd:FuncData}(F:Fun K "_law_room" "_law_room" qZ f fd)(T:Txt mg):be P w K mg base CX0 1 f fd ["_law_script","_law_most","_law_bound"] (oQ K):=by
 refine F.ok yQ (fun vs H Q E h=>?_) (fun cdv A outer s H vs Q E hr h=>?_)
 ·obtain⟨a,xs,x,y,rfl,_⟩:=h;rfl
 ·obtain⟨a,xs,x,y,rfl,hx,hl,k⟩:=h;refine⟨_,af (a7 (aL wN (au aV (by rfl) T.len PySem.boot_len (ai (pv 0) ac)) am (aY _)) a8 aT) (ag (aQ (pv 1))),?_⟩;refine⟨_,rfl,a,xs,rfl,.inl hx,_,_,rfl,rfl,_,rfl,?_⟩;rw[aai (by omega)];exact aK ⟨_,rfl,k⟩
theorem yR{f:Addr}{fd:FuncData}(F:Fun K "_law_any_word" "_law_any_word" vz f fd)(T:Txt mg):be P w K mg base CX0 1 f fd ["_law_cell"] qY:=by
 refine F.ok kQ (fun vs H Q E h=>?_) (fun cdv A outer s H vs Q E hr h=>?_)
 ·obtain⟨c,rfl,_⟩:=h;rfl
 ·obtain⟨c,rfl,k⟩:=h;refine⟨_,af (aq (i:=1) kQ.nd rfl (Or.inl rfl) (bN eE (au uK (by rfl) T.abs boot_abs (ai (pv 0) ac)) (bN yt am am)))
   (af (aq (i:=2) kQ.nd rfl (Or.inl rfl) fN)
   (af (dS PassesOwn.never (aL qC (pv 1) am (aY _))
    (af (aq (i:=2) kQ.nd rfl (Or.inl rfl) (bN iF (aC (r:=qJ) nK fN (bN eE (pv 1) am) (fun _ _=>rfl)) (pv 2)))
    (ag (aq (i:=1) kQ.nd rfl (Or.inl rfl) (bN yr (bN jw (pv 1) am) am)))))
   (ag (aQ (pv 2))))),?_⟩
  refine⟨_,rfl,c,rfl,_,_,rfl,rfl,⟨by decide,by decide,by decide⟩,_,_,rfl,rfl,(show(0:Int)<(10:Int) ^ (39:Int).toNat by decide +kernel),?_⟩;show uD _ _ _ _ _;dsimp only;generalize hn:(if c<0 then -c else c)=n;have b0:=Int.emod_nonneg n (show(10:Int) ^ (39:Int).toNat≠0 by decide +kernel);have b1:=Int.emod_lt_of_pos n (show(0:Int)<(10:Int) ^ (39:Int).toNat by decide +kernel);have b2:(10:Int) ^ (39:Int).toNat<26 ^ 28:=by decide +kernel
  generalize n % (10:Int) ^ (39:Int).toNat=l0 at b0 b1;refine⟨fun m σ H1=>∃(l:Int) (z:Str),σ=[some (.int c),some (.int l),some (.str z)]/\H1=H/\m=(l+1).toNat/\((l<0/\z.length<=30)\/(0<=l/\∃e,l<26 ^ e/\z.length+e<=29)),
   ⟨_,l0,"",rfl,rfl,rfl,.inr ⟨b0,28,Int.lt_trans b1 b2,by decide⟩⟩,?_⟩
  rintro m σ H1 ⟨l,z,rfl,rfl,rfl,alt⟩;refine⟨_,rfl,_,_,rfl,rfl,_,rfl,?_⟩
  by_cases hl:0<=l
  ·rw[aan hl];obtain⟨_,e,he,hz⟩:=alt.resolve_left fun q=>by omega
   refine bF ⟨fun σ H2=>∃(l':Int) (z':Str),σ=[some (.int c),some (.int l'),some (.str z')]/\H2=H1/\l'<l/\((l'<0/\z'.length<=30)\/(0<=l'/\∃e,l'<26 ^ e/\z'.length+e<=29)),?_,?_⟩
   ·rintro σ' H2 ⟨l',z',rfl,rfl,q1,q2⟩;exact⟨_,by omega,l',z',rfl,rfl,rfl,q2⟩
   ·obtain⟨j,ch,hj,_,hat⟩:=io (xs:=(Str.ofString "abcdefghijklmnopqrstuvwxyz").cps.toList) (n:=26) (by decide +kernel) (by decide) l;have hlen:((⟨#[ch]⟩:Str)++z).length=1+z.length:=fI _ _;refine⟨_,rfl,_,_,rfl,rfl,(show(0:Int)<26 by decide),_,_,ch,rfl,rfl,by decide +kernel,hat,_,rfl,_,_,rfl,rfl,?_,?_⟩
    ·show 1+z.length<=_;exact cy (by omega)
    refine⟨_,rfl,_,_,rfl,rfl,⟨by decide,by decide⟩,_,_,rfl,rfl,l / 26 - 1,_,rfl,rfl,by omega,?_⟩;rcases Int.lt_or_le (l / 26 - 1) 0 with q|q
    ·exact .inl ⟨q,by rw[hlen];omega⟩
    ·obtain⟨e',rfl,h2⟩:=pow_step hl he q;exact .inr ⟨q,e',h2,by rw[hlen];omega⟩
  ·rw[aai hl];refine aK ⟨_,rfl,k z ?_⟩;rcases alt with q|q
   ·omega
   ·exact absurd q.1 hl
end
end Nw
namespace Nw
open PySem L2
open SL (ap srt)
abbrev jn:Stmt:=top 48
theorem ez:aJ ["_law_cells","_law_wild","_law_rows","_law_k","_law_word","_law_left","_law_rights","_law_row"] ["_law_cells","_law_wild"] (aw jn):=⟨rfl,rfl,rfl,by decide +kernel,rfl,by decide +kernel,by decide +kernel⟩
def bX:List Row:=[("S",["s","A"]),("A",["t","B"]),("B",["u"])]
def ip:List Str:=["S","A","B"]
def du:List Str:=["S","A","B","s","t","u","x"]
structure Drawn(k:Nat)(R:List Row):Prop where
 sh:∃more,R=bX++more/\more.length<=k
 lf:∀p∈R,p.1∈ip
 wd:∀p∈R,p.2.length<=14
 sg:∃U:List Str,U.length<=k/\∀p∈R,∀x∈p.2,x∈U++du
 ne:∀p∈R,¬("":Str)∈p.2
theorem yS:Drawn 0 bX where
 sh:=⟨[],rfl,Nat.le_refl _⟩
 lf:=by decide +kernel
 wd:=by decide +kernel
 sg:=⟨[],Nat.le_refl _,by decide +kernel⟩
 ne:=by decide +kernel
theorem Drawn.eK{k:Nat}{R:List Row}(h:Drawn k R):Drawn (k+1) R where
 sh:=let ⟨m,e,q⟩:=h.sh;⟨m,e,by omega⟩
 lf:=h.lf
 wd:=h.wd
 sg:=let ⟨U,e,q⟩:=h.sg;⟨U,by omega,q⟩
 ne:=h.ne
theorem Drawn.add{k:Nat}{R:List Row}(h:Drawn k R){p:Row}{w:Str}(h1:p.1∈ip)(h2:p.2.length<=14)(h3:∀x∈p.2,x=w\/x∈du)(h4:w≠""):Drawn (k+1) (R++[p]) where
 ne:=fun q hq=>by
  rcases aak.mp hq with z|z
  ·exact h.ne q z
  ·rw[aaj.mp z];intro y;rcases h3 _ y with e|e
   ·exact h4 e.symm
   ·revert e;decide +kernel
 sh:=let ⟨m,e,q⟩:=h.sh;⟨m++[p],by rw[e,List.append_assoc],by rw[aag,aav];omega⟩
 lf:=fun q hq=>by
  rcases aak.mp hq with z|z
  ·exact h.lf q z
  ·rw[aaj.mp z];exact h1
 wd:=fun q hq=>by
  rcases aak.mp hq with z|z
  ·exact h.wd q z
  ·rw[aaj.mp z];exact h2
 sg:=let ⟨U,e,q⟩:=h.sg;⟨w::U,by rw[aau];omega,fun p' hp x hx=>by
  rcases aak.mp hp with z|z
  ·exact aad _ (q p' z x hx)
  ·rw[aaj.mp z] at hx;rcases h3 x hx with r|r
   ·rw[r];exact aac ..
   ·exact aad _ (aar _ r)⟩
theorem Drawn.toK{k m:Nat}{R:List Row}(dr:Drawn k R)(h:k<=m):Drawn m R:=
 ⟨let ⟨m,e,q⟩:=dr.sh;⟨m,e,by omega⟩,dr.lf,dr.wd,let ⟨U,e,q⟩:=dr.sg;⟨U,by omega,q⟩,dr.ne⟩
def lW:Sp:=fun vs H Q _=>∃(a:Addr) (ns:List Int) (wb:Bool),vs=[.ref a,.bl wb]/\H a=some (.lst (ns.map V.int))/\ns.length<=4/\∀q R H',ab H H'->H q=none->bt H' q R->Drawn ns.length R->Q (.ref q) H'
def lX(H0 H:Hp)(r:Addr)(v:V)(ss:List Str):Prop:=∃b,v=.ref b/\aA H b ss/\H0 b=none/\b≠r
def Chs(H0 H:Hp)(r:Addr)(sss:List (List Str)):Prop:=∃vs,H r=some (.lst vs)/\Paired (lX H0 H r) vs sss/\H0 r=none
theorem lX.mono{H0 H H':Hp}{r:Addr}{v:V}{ss:List Str}(s:ab H H')(h:lX H0 H r v ss):lX H0 H' r v ss:=by
 obtain⟨b,h1,h2,h3,h4⟩:=h;exact⟨b,h1,s _ _ h2,h3,h4⟩
theorem Chs.mono{H0 H H':Hp}{r:Addr}{sss:List (List Str)}(s:ab H H')(h:Chs H0 H r sss):Chs H0 H' r sss:=by
 obtain⟨vs,h1,h2,h3⟩:=h;exact⟨vs,s _ _ h1,Paired.bT h2 fun _ _ q=>q.mono s,h3⟩
def dH(H0 H:Hp)(v:V)(ss:List Str):Prop:=∃b,v=.ref b/\aA H b ss/\H0 b=none
theorem dH.mono{H0 H H':Hp}{v:V}{ss:List Str}(s:ab H H')(h:dH H0 H v ss):dH H0 H' v ss:=by
 obtain⟨b,h1,h2,h3⟩:=h;exact⟨b,h1,s _ _ h2,h3⟩
theorem dH.mk{H0 H:Hp}{p:Addr}(s:ab H0 H)(hp:H p=none)(ss:List Str){xs:List V}(e:xs=ss.map V.str):dH H0 (upd H p (.lst xs)) (.ref p) ss:=
 ⟨p,rfl,by subst e;exact aa,s.free hp⟩
theorem Chs.mk{H0 H:Hp}{r:Addr}{vs:List V}{sss:List (List Str)}(s:ab H0 H)(h:Paired (dH H0 H) vs sss)(hr:H r=none):Chs H0 (upd H r (.lst vs)) r sss:=by
 refine⟨vs,aa,Paired.bT h fun _ _ ⟨b,h1,h2,h3⟩=>?_,s.free hr⟩;have ne:b≠r:=aP h2 hr;exact⟨b,h1,ab.upd hr _ _ h2,h3,ne⟩
theorem Chs.app{H0 H:Hp}{r p:Addr}{ss:List Str}{sss:List (List Str)}(h:Chs H0 H r sss)(hp:aA H p ss)(h0:H0 p=none)(hne:p≠r):∃vs,H r=some (.lst vs)/\vs.length=sss.length/\Chs H0 (upd H r (.lst (vs++[.ref p]))) r (sss++[ss]):=by
 obtain⟨vs,h1,h2,h3⟩:=h;refine⟨vs,h1,Paired.length h2,vs++[.ref p],aa,?_,h3⟩;refine cm (Paired.bT h2 fun _ _ ⟨b,q1,q2,q3,q4⟩=>⟨b,q1,?_,q3,q4⟩) ⟨p,rfl,?_,h0,hne⟩
 ·unfold aA;rw[aj hne];exact hp
 ·unfold aA;rw[aj q4];exact q2
theorem kR{α β:Type}{F:α->β->Prop}:∀{l₁:List α} {l₂:List β} {m₁:List α} {m₂:List β},Paired F l₁ l₂->Paired F m₁ m₂->Paired F (l₁++m₁) (l₂++m₂)
 |_,_,_,_,.nil,h=>h
 |_,_,_,_,.cons a t,h=>.cons a (kR t h)
theorem Chs.cat{H0 H:Hp}{r r' p:Addr}{xss yss:List (List Str)}(s:ab H0 H)(h:Chs H0 H r xss)(h':Chs H0 H r' yss)(hp:H p=none):∃xs ys,H r=some (.lst xs)/\H r'=some (.lst ys)/\xs.length=xss.length/\ys.length=yss.length/\Chs H0 (upd H p (.lst (xs++ys))) p (xss++yss):=by
 obtain⟨xs,h1,h2,h3⟩:=h;obtain⟨ys,k1,k2,k3⟩:=h';refine⟨xs,ys,h1,k1,Paired.length h2,Paired.length k2,xs++ys,aa,?_,s.free hp⟩;have key:∀{r:Addr} {v:V} {ss:List Str},lX H0 H r v ss->lX H0 (upd H p (.lst (xs++ys))) p v ss:=fun{r v ss} ⟨b,q1,q2,q3,q4⟩=>⟨b,q1,ab.upd hp _ _ q2,q3,aP q2 hp⟩
 exact kR (Paired.bT h2 fun _ _ q=>key q) (Paired.bT k2 fun _ _ q=>key q)
def chs(w:Str)(n:Nat):List (List Str):=[[],[w],[w,"A"],[w,"B","x"],[w,"S","x"],[w,"A","x","B"],w::List.replicate n "x",["A",w],["B","A"],["t",w],["u"],["A","B",w]]
theorem yT(w:Str){n:Nat}(hn:n<=13):∀ss∈chs w n,ss.length<=14/\∀x∈ss,x=w\/x∈du:=by
 have m1:(("A":Str))∈du:=by decide +kernel
 have m2:(("B":Str))∈du:=by decide +kernel
 have m3:(("S":Str))∈du:=by decide +kernel
 have m4:(("x":Str))∈du:=by decide +kernel
 have m5:(("t":Str))∈du:=by decide +kernel
 have m6:(("u":Str))∈du:=by decide +kernel
 intro ss hs;unfold chs at hs;simp only[List.mem_cons,List.not_mem_nil,or_false] at hs;rcases hs with rfl|rfl|rfl|rfl|rfl|rfl|rfl|rfl|rfl|rfl|rfl|rfl
 all_goals refine⟨?_,fun x hx=>?_⟩
 all_goals first
  |(cases hx;done)
  |(simp only[aau,List.length_nil,List.length_replicate];omega)
  |(simp only[List.mem_cons,List.not_mem_nil,or_false,List.mem_replicate] at hx;rcases hx with rfl|rfl|rfl|rfl <;> simp_all)
  |(simp only[List.mem_cons,List.not_mem_nil,or_false,List.mem_replicate] at hx;rcases hx with rfl|rfl|rfl <;> simp_all)
  |(simp only[List.mem_cons,List.not_mem_nil,or_false,List.mem_replicate] at hx;rcases hx with rfl|rfl <;> simp_all)
  |(simp only[List.mem_cons,List.not_mem_nil,or_false,List.mem_replicate] at hx;rcases hx with rfl|⟨_,rfl⟩ <;> simp_all)
  |(simp only[List.mem_cons,List.not_mem_nil,or_false,List.mem_replicate] at hx;simp_all)
theorem p9{H:Hp}{vs:List V}{R:List Row}(h:Paired (df H) vs R)(hR:R≠[]){ar b:Addr}{ss:List Str}(ha:H ar=some (.lst vs))(hb:aA H b ss):b≠ar:=fun z=>by
 have hb:H b=some _:=hb;rw[z,ha] at hb;injection hb with hb;injection hb with hb;cases h with
 |nil=>exact hR rfl
 |cons h1 h2=>
  obtain⟨t,b,rfl,_⟩:=h1;cases ss with
  |nil=>cases hb
  |cons x r=>injection hb with q;cases q
end Nw
namespace L2
open PySem PySem.Spec PyProof.Rows
@[irreducible] def PEi (X:Cx) (e:Expr) (t:TE):Prop:=PE X e t
@[irreducible] def PTi (X:Cx) (e:Expr) (t:TT):Prop:=PT X e t
@[irreducible] def PAi (X:Cx) (es:List Expr) (t:TA):Prop:=PA X es t
@[irreducible] def PSi (X:Cx) (st:Stmt) (t:TS):Prop:=PS X st t
@[irreducible] def eC (X:Cx) (st:List Stmt) (t:TS):Prop:=PSs X st t
@[irreducible] def g9 (X:Cx) (pos:Pos) (ks:List (Option Expr)) (vs:List Expr) (trs:List (TE×TE)):Prop:=PPs X pos ks vs trs
section
variable {X:Cx}{e a b c:Expr}{es:List Expr}{te ta tb:TE}{tt:TT}{tA:TA}{st:Stmt}{sts:List Stmt}{t u:TS}{pos p:Pos}
theorem PEi.of(h:PE X e te):PEi X e te:=by unfold PEi;exact h
theorem PEi.to(h:PEi X e te):PE X e te:=by unfold PEi at h;exact h
theorem PTi.of(h:PT X e tt):PTi X e tt:=by unfold PTi;exact h
theorem PTi.to(h:PTi X e tt):PT X e tt:=by unfold PTi at h;exact h
theorem PAi.of(h:PA X es tA):PAi X es tA:=by unfold PAi;exact h
theorem PAi.to(h:PAi X es tA):PA X es tA:=by unfold PAi at h;exact h
theorem PSi.of(h:PS X st t):PSi X st t:=by unfold PSi;exact h
theorem PSi.to(h:PSi X st t):PS X st t:=by unfold PSi at h;exact h
theorem eC.of(h:PSs X sts t):eC X sts t:=by unfold eC;exact h
theorem eC.to(h:eC X sts t):PSs X sts t:=by unfold eC at h;exact h
theorem g9.of{ks:List (Option Expr)}{vs:List Expr}{trs:List (TE×TE)}(h:PPs X pos ks vs trs):g9 X pos ks vs trs:=by unfold g9;exact h
theorem g9.to{ks:List (Option Expr)}{vs:List Expr}{trs:List (TE×TE)}(h:g9 X pos ks vs trs):PPs X pos ks vs trs:=by unfold g9 at h;exact h
theorem eG{i j pos}:PEi X (.Constant (.int i) j pos) (tC (.int i)):=.of am
theorem aE{x j pos}:PEi X (.Constant (.str x) j pos) (tC (.str x)):=.of fN
theorem iv(i:Nat){x:Str}{pos:Pos}(hN:X.N[i]? =some x:=by rfl)(hv:Vis X.env.scope x:=by first | exact Or.inl rfl | exact Or.inr (Or.inl rfl) | exact Or.inr (Or.inr rfl))(hd:(x == ("__debug__":Str))=false:=by decide)
  (hcd:(x == ("__classdict__":Str))=false:=by decide):PEi X (.Name x pos) (nF i):=.of (sx hN hv hd hcd)
theorem aM:PAi X [] qE:=.of ac
theorem aG(ha:PEi X e te)(hr:PAi X es tA)(hs:∀a p,e≠Expr.Starred a p:=by intro _ _ h;cases h):PAi X (e::es) (jz te tA):=.of (ad ha.to hr.to hs)
theorem bA(h:PAi X es tA):PEi X (.List es pos) (uO tA):=.of (bx h.to)
theorem eI{x1}(h:PAi X es tA):PEi X (.Tuple es x1 pos) (uN tA):=.of (aZ h.to)
theorem dI{op:Operator}{r:R2}(ho:OpR X (binaryOp op) r)(ha:PEi X a ta)(hb:PEi X b tb):PEi X (.BinOp a op b pos) (tOp r ta tb):=.of (bN ho ha.to hb.to)
theorem fJ{r:R2}(hr:IxR X r)(ha:PEi X a ta)(hb:PEi X b tb)(hs:p5 b):PEi X (.Subscript a b pos) (tOp r ta tb):=.of (aC hr ha.to hb.to hs)
theorem qa{op:CmpOp}{r:R2}(ho:OpR X (compareOp op) r)(ha:PEi X a ta)(hb:PEi X b tb)(hm:behindInMarks op b=false):PTi X (.Compare a [op] [b] pos) (wO (tOp r ta tb)):=.of (aL ho ha.to hb.to hm)
theorem yU(h:PEi X e te)(he:∀whole,isTrue e X.env whole=(do let v ←whole;standAt e.pos;holding [v] (truthy v)):=by intro _;rfl):PTi X e (tB te):=.of (ba h.to he)
theorem vA{x:Str}{id:String}{r:List V->Hp->VK->Prop}(hc:dQ X (.builtin id) r)(hg:Gl X x)(hm:X.mg x=none)(hv:bootBuiltins x=some (.builtin id))(ha:PAi X [e] tA)(hn:x≠"__name__":=by decide)(hdb:(x == ("__debug__":Str))=false:=by decide)
  (hs:∀a p,e≠Expr.Starred a p:=by intro _ _ h;cases h):PEi X (.Call (.Name x p) [e] [] pos) (tCB r tA):=.of (au hc hg hm hv ha.to hn hdb (fU hs) rfl)
theorem yV{x:Str}{k:Nat}{ps:List Str}{sp:Sp}(D:Nw.Def X.prog X.w X.K X.mg X.base x k ps sp)(hr:bC k X.A)(hg:Gl X x)(ha:PAi X (e::es) tA)(hdb:(x == ("__debug__":Str))=false:=by decide)
  (hs:∀a p,e≠Expr.Starred a p:=by intro _ _ h;cases h)(hpl:(backTo pos (starEach es X.env)).any (·.1)=false:=by rfl):PEi X (.Call (.Name x p) (e::es) [] pos) (qG sp [] E0 tA):=.of (Nw.aB D hr hg ha.to hdb (fU hs) hpl)
theorem kT{o:Expr}{to:TE}{name:Str}{apos cpos:Pos}{T id:String}{r:V->List V->Hp->VK->Prop}(pa:PlainAttrs T)(slot:Slot T name id)(hty:typeOf (.builtin id)=pure (.type "method_descriptor"))(hm:MtR X id r)(ho:PEi X o to)(ha:PAi X [e] tA)
  (hbase:attributeBase o name X.env (eval o X.env)=eval o X.env:=by rfl)(hline:(apos.endLine == cpos.line)=true:=by rfl)(hs:∀a p,e≠Expr.Starred a p:=by intro _ _ h;cases h):PEi X (.Call (.Attribute o name apos) [e] [] cpos) (tBM X.K T r to tA):=.of (yP pa slot hty hm ho.to ha.to hbase hline hs)
theorem dM{i:Nat}{x:Str}{pos':Pos}(hN:X.N.Nodup)(hi:X.N[i]? =some x)(hx:Loc X.env.scope x)(he:PEi X e te)(hs:swapsWith e (some (.Name x pos')) pos.line X.env=pure false:=by rfl)(hf:X.fn x=true\/X.env.scope.names.lookup x=some .local:=by first | exact .inl rfl | exact .inr rfl | assumption) :
  PSi X (.Assign [.Name x pos'] e pos) (qz te (jv i)):=.of (aq hN hi hx he.to hs hf)
theorem iq(he:PEi X e te)(hs:swapsWith e none pos.line X.env=pure false:=by rfl):PSi X (.Expr e pos) (wM te):=.of (bv he.to hs)
theorem tR(he:PEi X e te):PSi X (.Return (some e) pos) (yk te):=.of (aQ he.to)
theorem ra{a b:List Stmt}(hc:PTi X c tt)(ha:eC X a t)(hb:eC X b u):PSi X (.If c a b pos) (yl tt t u):=.of (a7 hc.to ha.to hb.to)
theorem tS{tg iter:Expr}{body:List Stmt}{wi:TI}{g:TG}{tb:TS}(hp:PassesOwn (model X.prog X.w) X.A X.env X.xe)(hc:X.calm=true)(hi:PI X tg iter wi)(hg:PG X tg g)(hb:eC X body tb)
  (hs:∀x,foldedSetIterable iter X.env x=pure x:=by intro _;rfl):PSi X (.For tg iter body [] pos) (yp wi g tb):=.of (bb hp hc hi hg hb.to hs)
theorem lY:eC X [] wL:=.of aT
theorem eV(h:PSi X st t):eC X [st] t:=.of (ag h.to)
theorem cV(h1:PSi X st t)(h2:eC X sts u):eC X (st::sts) (uD t u):=.of (af h1.to h2.to)
theorem cv(h1:PSi X st t)(h2:eC X sts u):eC X (st::sts) (yO t u):=.of (b9 h1.to h2.to)
theorem exI{Q:TS->Prop}(h:∃t,eC X sts t/\Q t):∃t,PSs X sts t/\Q t:=by
 obtain⟨t,h1,h2⟩:=h;exact⟨t,h1.to,h2⟩
theorem qc:g9 X pos [] [] []:=.of xn
theorem dW{k v:Expr}{ks:List (Option Expr)}{vs:List Expr}{tk tv:TE}{trs:List (TE×TE)}(hk:PEi X k tk)(hv:PEi X v tv)(hr:g9 X pos ks vs trs):g9 X pos (some k::ks) (v::vs) ((tk,tv)::trs):=.of (uU hk.to hv.to hr.to)
theorem qd{keys:List (Option Expr)}{values:List Expr}{trs:List (TE×TE)}(h:g9 X pos keys values trs)(hall:keys.all (·.isSome)=true)(hl:keys.length=values.length)(h0:keys≠[])(h15:keys.length<=15):PEi X (.Dict keys values pos) (wS trs):=.of (xo h.to hall hl h0 h15)
end
end L2
namespace Nw
open PySem L2
open SL (ap srt)
theorem qf(x:Str):∀n:Nat,(List.replicate n [V.str x]).flatten=(List.replicate n x).map V.str
 |0=>rfl
 |n+1=>by
  rw[List.replicate_succ,List.flatten_cons,qf x n,List.replicate_succ];rfl
theorem ints_get{ns:List Int}{i:Nat}(h:i<ns.length):(ns.map V.int)[i]? =some (.int (ns[i]'h)):=by
 rw[aax,aae h];rfl
theorem vB(i:Nat):(0:Int)+(i:Int)=(i:Int):=Int.zero_add _
section
variable {P:Program}{w:World}{K:PySem.W.Frag}{mg:Str->Option Value}{base:Heap}
theorem vC{f:Addr}{fd:FuncData}(F:Fun K "_law_drawn_rows" "_law_drawn_rows" jn f fd)(T:Txt mg)(D1:Def P w K mg base "_law_any_word" 1 ["_law_cell"] qY):be P w K mg base CX0 2 f fd ["_law_cells","_law_wild"] lW:=by
 refine F.ok ez (fun vs H Q E h=>?_) (fun cdv A outer s H vs Q E hr h=>?_)
 ·obtain⟨a,ns,wb,rfl,_⟩:=h;rfl
 ·obtain⟨a,ns,wb,rfl,hA,hl4,k⟩:=h;have hu1:(A.deeper (PyProof.Rows.envOfC "_law_drawn_rows" (aw jn) s.heap.objs.size f cdv)).in1.units<cLine:=cI hr;have hu2:(A.deeper (PyProof.Rows.envOfC "_law_drawn_rows" (aw jn) s.heap.objs.size f cdv)).in1.in1.units<cLine:=Nat.lt_of_le_of_lt (Nat.add_le_add_left (by decide:2<=64) _) hr.units;refine exI ⟨_,cv (dM (i:=2) ez.nd rfl (Or.inl rfl) (bA (aG (eI (aG aE (aG (bA (aG aE (aG aE aM))) aM)))
    (aG (eI (aG aE (aG (bA (aG aE (aG aE aM))) aM))) (aG (eI (aG aE (aG (bA (aG aE aM)) aM))) aM)))))
   (cV (tS PassesOwn.never rfl (gG (by rfl) T.rng (ad (au aV (by rfl) T.len PySem.boot_len (ad (pv 0) ac)) ac)) (az (i:=3) ez.nd rfl (Or.inl rfl))
    (cV (dM (i:=4) ez.nd rfl (Or.inl rfl) (fJ (r:=eZ K) bn (bA (aG aE (aG aE (aG aE (aG aE (aG aE aM)))))) (dI eE (iv 3) eG) (fun _ _=>rfl)))
    (cv (ra (qa jx (dI eE (fJ (r:=eZ K) bn (iv 0) (iv 3) (fun _ _=>rfl)) eG) eG (aY _))
     (eV (dM (i:=4) ez.nd rfl (Or.inl rfl) (dI iF (dI iF aE (yV D1 hr (by rfl) (aG (dI jw (fJ (r:=eZ K) bn (iv 0) (iv 3) (fun _ _=>rfl)) eG) aM))) (fJ (r:=qJ) nK aE (dI eE (iv 3) eG) (fun _ _=>rfl)))))
     lY)
    (cV (dM (i:=5) ez.nd rfl (Or.inl rfl) (fJ (r:=eZ K) bn (bA (aG aE (aG aE (aG aE aM)))) (dI eE (fJ (r:=eZ K) bn (iv 0) (iv 3) (fun _ _=>rfl)) eG) (fun _ _=>rfl)))
    (cv (dM (i:=6) ez.nd rfl (Or.inl rfl) (bA (aG (bA aM) (aG (bA (aG (iv 4) aM)) (aG (bA (aG (iv 4) (aG aE aM))) (aG (bA (aG (iv 4) (aG aE (aG aE aM))))
     (aG (bA (aG (iv 4) (aG aE (aG aE aM)))) aM)))))))
    (cv (iq (kT PySem.F.plainAttrs_list PySem.F.slot_list_append PySem.F.type_list_append bf (iv 6) (aG (bA (aG (iv 4) (aG aE (aG aE (aG aE aM))))) aM)))
    (cv (iq (kT PySem.F.plainAttrs_list PySem.F.slot_list_append PySem.F.type_list_append bf (iv 6) (aG (dI c8 (bA (aG (iv 4) aM)) (dI yB (bA (aG aE aM))
     (dI eE (dI jw (fJ (r:=eZ K) bn (iv 0) (iv 3) (fun _ _=>rfl)) eG) eG))) aM)))
    (cv (ra (yU (iv 1))
     (cv (dM (i:=6) ez.nd rfl (Or.inl rfl) (dI c8 (iv 6) (bA (aG (bA (aG aE (aG (iv 4) aM))) (aG (bA (aG aE (aG aE aM)))
      (aG (bA (aG aE (aG (iv 4) aM))) (aG (bA (aG aE aM)) aM)))))))
     (eV (iq (kT PySem.F.plainAttrs_list PySem.F.slot_list_append PySem.F.type_list_append bf (iv 6) (aG (bA (aG aE (aG aE (aG (iv 4) aM)))) aM)))))
     lY)
    (cv (dM (i:=7) ez.nd rfl (Or.inl rfl) (eI (aG (iv 5) (aG (fJ (r:=eZ K) bn (iv 6) (dI eE (dI jw (fJ (r:=eZ K) bn (iv 0) (iv 3) (fun _ _=>rfl)) eG)
     (vA aV (by rfl) T.len PySem.boot_len (aG (iv 6) aM))) (fun _ _=>rfl)) aM))))
    (eV (ra (qa (oz hu1 hu2) (iv 7) (iv 2) (by with_unfolding_all rfl))
     (eV (iq (kT PySem.F.plainAttrs_list PySem.F.slot_list_append PySem.F.type_list_append bf (iv 2) (aG (iv 7) aM)))) lY)))))))))))
   (eV (tR (iv 2)))),?_⟩
  refine⟨fun σ H1=>∃ar vs,σ=[some (.ref a),some (.bl wb),some (.ref ar),none,none,none,none,none]/\H ar=none/\ab H H1/\H1 ar=some (.lst vs)/\Paired (df H1) vs bX,?_,?_⟩
  ·refine⟨(show 2<=sizeLine by decide),fun b1 hb1=>⟨(show 2<=sizeLine by decide),fun t1 ht1=>⟨(show 2<=sizeLine by decide),fun b2 hb2=>⟨(show 2<=sizeLine by decide),fun t2 ht2=>
    ⟨(show 1<=sizeLine by decide),fun b3 hb3=>⟨(show 2<=sizeLine by decide),fun t3 ht3=>⟨(show 3<=sizeLine by decide),fun ar har=>?_⟩⟩⟩⟩⟩⟩⟩
   have s1:=ab.upd (o:=HO.lst [V.str "s",V.str "A"]) hb1;have s2:=ab.upd (o:=HO.tup [V.str "S",V.ref b1]) ht1;have s3:=ab.upd (o:=HO.lst [V.str "t",V.str "B"]) hb2;have s4:=ab.upd (o:=HO.tup [V.str "A",V.ref b2]) ht2;have s5:=ab.upd (o:=HO.lst [V.str "u"]) hb3;have s6:=ab.upd (o:=HO.tup [V.str "B",V.ref b3]) ht3;have s7:=ab.upd (o:=HO.lst [V.ref t1,V.ref t2,V.ref t3]) har;have s67:=s6.trans s7;have s57:=s5.trans s67;have s47:=s4.trans s57;have s37:=s3.trans s47;have s27:=s2.trans s37;refine⟨ar,[V.ref t1,V.ref t2,V.ref t3],rfl,((((((s1.trans s2).trans s3).trans s4).trans s5).trans s6)).free har,s1.trans s27,aa,?_⟩;exact .cons ⟨t1,b1,rfl,s37 _ _ aa,s27 _ _ aa⟩ (.cons ⟨t2,b2,rfl,s57 _ _ aa,s47 _ _ aa⟩ (.cons ⟨t3,b3,rfl,s7 _ _ aa,s67 _ _ aa⟩ .nil))
  ·rintro σ H1 ⟨ar,vs0,rfl,har,s1,hv0,hp0⟩;refine⟨_,rfl,a,_,rfl,.inl (SqL.of (s1 _ _ hA)),_,rfl,?_,?_,gH (n:=(((ns.map V.int).length:Nat):Int).toNat)
    (fun i σ H2=>∃vs R o3 o4 o5 o6 o7,σ=[some (.ref a),some (.bl wb),some (.ref ar),o3,o4,o5,o6,o7]/\ab H H2/\H2 ar=some (.lst vs)/\Paired (df H2) vs R/\Drawn i R)
    ⟨vs0,bX,_,_,_,_,_,rfl,s1,hv0,hp0,yS⟩ ?_ ?_⟩
   ·rw[aaa];omega
   ·rw[aaa];omega
   ·rintro i σ H2 hi ⟨vs,R,o3,o4,o5,o6,o7,rfl,s2,hv2,hp2,dr⟩;have hi:i<ns.length:=by rw[aaa] at hi;simpa using hi
    have hA2:=s2 _ _ hA;generalize hc:ns[i]'hi=c;have hat:atI (ns.map V.int) ((0:Int)+(i:Int))=some (.int c):=by rw[vB,←hc];exact ak (ints_get hi)
    have cell:∀{H3:Hp} {Q:VK},ab H2 H3->Q (.int c) H3->eZ K (.ref a) (.int (0+(i:Int))) H3 Q:=fun{H3 Q} s q=>⟨a,_,_,_,rfl,rfl,SqL.of (s _ _ hA2),hat,q⟩
    refine⟨(show 5<=sizeLine by decide),fun p0 hp0=>?_⟩;obtain⟨_,w0,hw0,_,hat0⟩:=io (xs:=[V.str "a",V.str "Q",V.str "st",V.str "d",V.str "e"]) (n:=5) (by decide) (by decide) (0+(i:Int));obtain⟨ws0,rfl,hws0⟩:∃z,w0=V.str z/\z≠"":=by
     have hm:=aah hw0;simp only[List.mem_cons,List.not_mem_nil,or_false] at hm;rcases hm with rfl|rfl|rfl|rfl|rfl <;> exact⟨_,rfl,by decide +kernel⟩
    have sp0:=ab.upd (o:=HO.lst [V.str "a",V.str "Q",V.str "st",V.str "d",V.str "e"]) hp0;refine⟨_,rfl,_,_,rfl,rfl,(show(0:Int)<5 by decide),p0,_,_,_,rfl,rfl,SqL.of aa,hat0,?_⟩;refine⟨fun σ H3=>∃z:Str,σ=[some (.ref a),some (.bl wb),some (.ref ar),some (.int (0+(i:Int))),some (.str z),o5,o6,o7]/\ab H2 H3/\z≠"",?_,?_⟩
    ·refine⟨_,rfl,_,rfl,cell sp0 ⟨_,_,rfl,rfl,(show(0:Int)<7 by decide),rfl,_,rfl,?_⟩⟩;refine AA (fun _=>?_) fun _=>⟨ws0,rfl,sp0,hws0⟩
     refine⟨_,rfl,_,rfl,cell sp0 ⟨_,_,rfl,rfl,⟨by decide,by decide⟩,_,rfl,fun z hz=>?_⟩⟩;obtain⟨_,ch,_,_,hat1⟩:=io (xs:=(Str.ofString "abcde").cps.toList) (n:=5) (by decide +kernel) (by decide) (0+(i:Int));refine⟨_,_,rfl,rfl,?_,_,rfl,_,_,rfl,rfl,(show(0:Int)<5 by decide),_,_,ch,rfl,rfl,by decide +kernel,hat1,_,_,rfl,rfl,?_,⟨_,rfl,sp0,fun e=>?_⟩⟩
     ·show 1+z.length<=_;exact cy (by omega)
     ·rw[fI];show 1+z.length+1<=_;exact cy (by omega)
     ·have e:=congrArg Str.length e;rw[fI,fI] at e;have e:1+z.length+1=0:=e;omega
    ·rintro σ H3 ⟨z,rfl,s3,hz0⟩;refine⟨(show 3<=sizeLine by decide),fun p1 hp1=>?_⟩;obtain⟨_,l0,hl0,_,hat2⟩:=io (xs:=[V.str "S",V.str "A",V.str "B"]) (n:=3) (by decide) (by decide) c;obtain⟨l,rfl,hl⟩:∃l,l0=V.str l/\l∈ip:=by
      have hm:=aah hl0;simp only[List.mem_cons,List.not_mem_nil,or_false] at hm;rcases hm with rfl|rfl|rfl
      ·exact⟨_,rfl,by decide +kernel⟩
      ·exact⟨_,rfl,by decide +kernel⟩
      ·exact⟨_,rfl,by decide +kernel⟩
     have sp1:=s3.trans (ab.upd (o:=HO.lst [V.str "S",V.str "A",V.str "B"]) hp1);refine⟨_,rfl,_,rfl,cell sp1 ⟨_,_,rfl,rfl,(show(0:Int)<3 by decide),p1,_,_,_,rfl,rfl,SqL.of aa,hat2,?_⟩⟩;refine⟨fun σ H4=>∃r,σ=[some (.ref a),some (.bl wb),some (.ref ar),some (.int (0+(i:Int))),some (.str z),some (.str l),some (.ref r),o7]/\ab H2 H4/\Chs H2 H4 r [[],[z],[z,"A"],[z,"B","x"],[z,"S","x"]],?_,?_⟩
     ·generalize upd H3 p1 (HO.lst [V.str "S",V.str "A",V.str "B"])=H4 at sp1;refine⟨(show 0<=sizeLine by decide),fun b1 hb1=>⟨_,rfl,(show 1<=sizeLine by decide),fun b2 hb2=>⟨_,rfl,(show 2<=sizeLine by decide),fun b3 hb3=>⟨_,rfl,(show 3<=sizeLine by decide),fun b4 hb4=>⟨_,rfl,(show 3<=sizeLine by decide),fun b5 hb5=>
       ⟨(show 5<=sizeLine by decide),fun r hr0=>?_⟩⟩⟩⟩⟩⟩
      have t1:=ab.upd (o:=HO.lst []) hb1;have t2:=ab.upd (o:=HO.lst [V.str z]) hb2;have t3:=ab.upd (o:=HO.lst [V.str z,V.str "A"]) hb3;have t4:=ab.upd (o:=HO.lst [V.str z,V.str "B",V.str "x"]) hb4;have t5:=ab.upd (o:=HO.lst [V.str z,V.str "S",V.str "x"]) hb5;have u1:=sp1.trans t1;have u2:=u1.trans t2;have u3:=u2.trans t3;have u4:=u3.trans t4;have u5:=u4.trans t5;refine⟨r,rfl,u5.trans (ab.upd hr0),Chs.mk u5 ?_ hr0⟩;exact .cons ((dH.mk sp1 hb1 [] rfl).mono (((t2.trans t3).trans t4).trans t5)) (.cons ((dH.mk u1 hb2 [z] rfl).mono ((t3.trans t4).trans t5)) (.cons ((dH.mk u2 hb3 [z,"A"] rfl).mono (t4.trans t5))
       (.cons ((dH.mk u3 hb4 [z,"B","x"] rfl).mono t5) (.cons (dH.mk u4 hb5 [z,"S","x"] rfl) .nil))))
     ·rintro σ H4 ⟨r,rfl,s4,ch4⟩;refine⟨fun σ H5=>σ=[some (.ref a),some (.bl wb),some (.ref ar),some (.int (0+(i:Int))),some (.str z),some (.str l),some (.ref r),o7]/\ab H2 H5/\Chs H2 H5 r [[],[z],[z,"A"],[z,"B","x"],[z,"S","x"],[z,"A","x","B"]],?_,?_⟩
      ·obtain⟨vr,hvr,_,hr2⟩:=id ch4;refine⟨_,rfl,.inl ⟨rfl,_,SqL.of hvr⟩,_,rfl,(show 4<=sizeLine by decide),fun p hp=>?_⟩;have t:=ab.upd (o:=HO.lst [V.str z,V.str "A",V.str "x",V.str "B"]) hp;obtain⟨vr',h1,h2,h3⟩:=(ch4.mono t).app (p:=p) (ss:=[z,"A","x","B"]) aa (s4.free hp) (Ne.symm (aP hvr hp));exact⟨r,_,_,rfl,rfl,h1,by rw[h2];exact aD (show 5<=1000 by decide),rfl,(s4.trans t).bK hr2,h3⟩
      ·rintro σ H5 ⟨rfl,s5,ch5⟩;clear ch4 s4 H4;obtain⟨n,hn,hn13⟩:∃n:Nat,c / 49 % 14=(n:Int)/\n<=13:=by
        have h1:=Int.emod_nonneg (c / 49) (show(14:Int)≠0 by decide);have h2:=Int.emod_lt_of_pos (c / 49) (show(0:Int)<14 by decide);obtain⟨n,hn⟩:=Int.eq_ofNat_of_zero_le h1;exact⟨n,hn,by omega⟩
       refine⟨fun σ H6=>σ=[some (.ref a),some (.bl wb),some (.ref ar),some (.int (0+(i:Int))),some (.str z),some (.str l),some (.ref r),o7]/\ab H2 H6/\Chs H2 H6 r [[],[z],[z,"A"],[z,"B","x"],[z,"S","x"],[z,"A","x","B"],z::List.replicate n "x"],?_,?_⟩
       ·obtain⟨vr,hvr,_,hr2⟩:=id ch5;refine⟨_,rfl,.inl ⟨rfl,_,SqL.of hvr⟩,_,rfl,(show 1<=sizeLine by decide),fun b1 hb1=>⟨(show 1<=sizeLine by decide),fun b2 hb2=>?_⟩⟩;have t1:=ab.upd (o:=HO.lst [V.str z]) hb1;have t2:=ab.upd (o:=HO.lst [V.str "x"]) hb2;refine⟨_,rfl,_,rfl,cell ((s5.trans t1).trans t2) ⟨_,_,rfl,rfl,⟨by decide,by decide⟩,_,_,rfl,rfl,(show(0:Int)<14 by decide),b2,(n:Int),[V.str "x"],rfl,congrArg V.int hn,aa,by omega,by omega,cy (by rw[Int.toNat_natCast,aav];omega),?_⟩⟩;rw[Int.toNat_natCast,qf];intro b3 hb3;have t3:=ab.upd (o:=HO.lst ((List.replicate n ("x":Str)).map V.str)) hb3;refine⟨b1,b3,_,_,rfl,rfl,t3 _ _ (t2 _ _ aa),aa,?_,fun b4 hb4=>?_⟩
        ·show 1+_<=_;rw[aaa,List.length_replicate];exact cy (by omega)
        have t4:=ab.upd (o:=HO.lst ([V.str z]++(List.replicate n ("x":Str)).map V.str)) hb4;have u:=((t1.trans t2).trans t3);obtain⟨vr',h1,h2,h3⟩:=(ch5.mono (u.trans t4)).app (p:=b4) (ss:=z::List.replicate n "x") aa ((s5.trans u).free hb4) (Ne.symm (aP (u _ _ hvr) hb4));exact⟨r,_,_,rfl,rfl,h1,by rw[h2];exact aD (show 6<=1000 by decide),rfl,(s5.trans (u.trans t4)).bK hr2,h3⟩
       ·rintro σ H6 ⟨rfl,s6,ch6⟩;clear ch5 s5 H5;refine⟨fun σ H7=>∃r,σ=[some (.ref a),some (.bl wb),some (.ref ar),some (.int (0+(i:Int))),some (.str z),some (.str l),some (.ref r),o7]/\ab H2 H7/\∃L,Chs H2 H7 r L/\L≠[]/\∀ss∈L,ss∈chs z n,?_,?_⟩
        ·refine⟨_,rfl,_,rfl,?_⟩;cases wb with
         |false=>exact aK ⟨r,rfl,s6,_,ch6,(fun e=>by cases e),fun ss hs=>List.mem_append_left (bs:=([["A",z],["B","A"],["t",z],["u"],["A","B",z]]:List (List Str))) hs⟩
         |true=>
         refine bF ?_;refine⟨fun σ H7=>∃r,σ=[some (.ref a),some (.bl true),some (.ref ar),some (.int (0+(i:Int))),some (.str z),some (.str l),some (.ref r),o7]/\ab H2 H7/\Chs H2 H7 r [[],[z],[z,"A"],[z,"B","x"],[z,"S","x"],[z,"A","x","B"],z::List.replicate n "x",["A",z],["B","A"],["t",z],["u"]],?_,?_⟩
         ·refine⟨_,rfl,_,rfl,(show 2<=sizeLine by decide),fun b1 hb1=>⟨(show 2<=sizeLine by decide),fun b2 hb2=>⟨_,rfl,(show 2<=sizeLine by decide),fun b3 hb3=>⟨(show 1<=sizeLine by decide),fun b4 hb4=>⟨(show 4<=sizeLine by decide),fun r2 hr2=>?_⟩⟩⟩⟩⟩;have t1:=ab.upd (o:=HO.lst [V.str "A",V.str z]) hb1;have t2:=ab.upd (o:=HO.lst [V.str "B",V.str "A"]) hb2;have t3:=ab.upd (o:=HO.lst [V.str "t",V.str z]) hb3;have t4:=ab.upd (o:=HO.lst [V.str "u"]) hb4;have t5:=ab.upd (o:=HO.lst [V.ref b1,V.ref b2,V.ref b3,V.ref b4]) hr2;have u1:=s6.trans t1;have u2:=u1.trans t2;have u3:=u2.trans t3;have u4:=u3.trans t4;have cr2:Chs H2 _ r2 [["A",z],["B","A"],["t",z],["u"]]:=Chs.mk (vs:=[V.ref b1,V.ref b2,V.ref b3,V.ref b4]) u4 (.cons ((dH.mk s6 hb1 ["A",z] rfl).mono ((t2.trans t3).trans t4)) (.cons ((dH.mk u1 hb2 ["B","A"] rfl).mono (t3.trans t4)) (.cons ((dH.mk u2 hb3 ["t",z] rfl).mono t4)
           (.cons (dH.mk u3 hb4 ["u"] rfl) .nil)))) hr2
          have cr1:=ch6.mono ((((t1.trans t2).trans t3).trans t4).trans t5);obtain⟨xs,hx1,hx2,_⟩:=id cr1;obtain⟨ys,hy1,hy2,_⟩:=id cr2;have lx:=Paired.length hx2;have ly:=Paired.length hy2;refine⟨r,r2,xs,ys,rfl,rfl,hx1,hy1,by rw[lx,ly];exact cy (by simp),fun r3 hr3=>?_⟩;obtain⟨xs',ys',e1,e2,_,_,hcc⟩:=Chs.cat (u4.trans t5) cr1 cr2 hr3;rw[hx1] at e1;rw[hy1] at e2;cases e1;cases e2
          exact⟨r3,rfl,(u4.trans t5).trans (ab.upd hr3),hcc⟩
         ·rintro σ H7 ⟨r',rfl,s7,ch7⟩;obtain⟨vr,hvr,_,hr2⟩:=id ch7;refine⟨_,rfl,.inl ⟨rfl,_,SqL.of hvr⟩,_,rfl,(show 3<=sizeLine by decide),fun p hp=>?_⟩;have t:=ab.upd (o:=HO.lst [V.str "A",V.str "B",V.str z]) hp;obtain⟨vr',h1,h2,h3⟩:=(ch7.mono t).app (p:=p) (ss:=["A","B",z]) aa (s7.free hp) (Ne.symm (aP hvr hp));exact⟨r',_,_,rfl,rfl,h1,by rw[h2];exact aD (show 11<=1000 by decide),r',rfl,(s7.trans t).bK hr2,_,h3,(fun e=>by cases e),fun ss hs=>hs⟩
        ·rintro σ H7 ⟨r',rfl,s7,L,ch7,hLne,hLin⟩;clear ch6 s6 H6;refine⟨fun σ H8=>∃t b ss,σ=[some (.ref a),some (.bl wb),some (.ref ar),some (.int (0+(i:Int))),some (.str z),some (.str l),some (.ref r'),some (.ref t)]/\ab H2 H8/\H8 t=some (.tup [.str l,.ref b])/\aA H8 b ss/\H2 t=none/\H2 b=none/\ss∈chs z n,?_,?_⟩
         ·obtain⟨vr,hvr,hpr,hr2⟩:=id ch7;have hlr:0<vr.length:=by rw[Paired.length hpr];exact List.length_pos_iff.mpr hLne
          obtain⟨j,vj,hj,_,hatj⟩:=io (xs:=vr) (n:=(vr.length:Int)) rfl (by omega) (c / 3);obtain⟨ss,hss,b,rfl,hb,hb0,_⟩:=aW hpr j vj hj;refine⟨_,rfl,_,rfl,_,rfl,_,rfl,cell s7 ⟨_,_,rfl,rfl,⟨by decide,by decide⟩,_,rfl,r',vr,rfl,.inl (SqL.of hvr),_,_,rfl,rfl,(show(0:Int)<(vr.length:Int) by omega),r',vr,_,_,rfl,rfl,SqL.of hvr,hatj,(show 2<=sizeLine by decide),fun t ht=>?_⟩⟩;have st:=ab.upd (o:=HO.tup [V.str l,V.ref b]) ht;exact⟨t,b,ss,rfl,s7.trans st,aa,st _ _ hb,s7.free ht,hb0,hLin _ (aah hss)⟩
         ·rintro σ H8 ⟨t,b,ss,rfl,s8,ht8,hb8,ht0,hb0,hss⟩;have hv8:=s8 _ _ hv2;have hp8:Paired (df H8) vs R:=Paired.bT hp2 fun _ _ q=>q.mono s8
          obtain⟨hs14,hsg⟩:=yT z hn13 ss hss;have hRne:R≠[]:=by
           obtain⟨m,e,_⟩:=dr.sh;rw[e];intro q;cases q
          have fresh:∀v∈vs,∀t' b' l',v=.ref t'->H8 t'=some (.tup [.str l',.ref b'])->t'≠t/\b'≠b:=fun v hv t' b' l' e1 e2=>by
           obtain⟨ix,hix⟩:=List.mem_iff_getElem?.mp hv;obtain⟨p,_,t2,b2,e3,q1,q2⟩:=aW hp2 ix v hix;rw[e1] at e3;cases e3
           have q3:=s8 _ _ q1;rw[e2] at q3;cases q3
           exact⟨aP q1 ht0,aP q2 hb0⟩
          refine⟨_,rfl,_,rfl,t,b,ar,(l,ss),R,rfl,rfl,ht8,hb8,⟨vs,hv8,hp8,fresh⟩,_,rfl,?_⟩
          by_cases hin:(l,ss)∈R
          ·rw[aan hin];exact aK ⟨vs,R,_,_,_,_,_,rfl,s2.trans s8,hv8,hp8,dr.eK⟩
          ·rw[aai hin];have hlen:vs.length<=20:=by
            have h1:=Paired.length hp2;obtain⟨m,e,hm⟩:=dr.sh;have:R.length=3+m.length:=by rw[e,aag];rfl
            omega
           refine bF ⟨_,rfl,.inl ⟨rfl,_,SqL.of hv8⟩,_,rfl,ar,_,_,rfl,rfl,hv8,aD (by omega),vs++[V.ref t],R++[(l,ss)],_,_,_,_,_,rfl,(s2.trans s8).bK har,aa,?_,dr.add hl hs14 hsg hz0⟩;have nt:∀{t':Addr} {xs:List V},H8 t'=some (.tup xs)->t'≠ar:=fun{t' xs} e q=>by rw[q,hv8] at e;cases e
           have nb:∀{b':Addr} {rs:List Str},aA H8 b' rs->b'≠ar:=fun{b' rs} e=>p9 hp8 hRne hv8 e
           refine cm (Paired.bT hp8 fun _ _ ⟨t',b',q1,q2,q3⟩=>⟨t',b',q1,?_,?_⟩) ⟨t,b,rfl,?_,?_⟩
           ·rw[aj (nt ht8)];exact ht8
           ·unfold aA;rw[aj (nb hb8)];exact hb8
           ·rw[aj (nt q2)];exact q2
           ·unfold aA;rw[aj (nb q3)];exact q3
   ·rintro σ H2 ⟨vs,R,o3,o4,o5,o6,o7,rfl,s2,hv2,hp2,dr⟩;rw[aaa,Int.toNat_natCast] at dr;exact⟨_,rfl,k ar R H2 s2 har ⟨vs,hv2,hp2⟩ dr⟩
end
end Nw
namespace Nw
open PySem L2
open SL (ap srt)
abbrev vD:Stmt:=top 55
theorem gR:aJ ["_law_rows","_law_cell","_law_first","_law_second","_law_names","_law_made","_law_left","_law_right","_law_inner"] ["_law_rows","_law_cell"] (aw vD):=⟨rfl,rfl,rfl,by decide +kernel,rfl,by decide +kernel,by decide +kernel⟩
abbrev Ren:=List (Str×Str)
def ft:Ren:=[("S","First"),("A","Then"),("B","And"),("C","Part")]
def fu:Ren:=[("S","Sab"),("A","Tab"),("B","Sob"),("C","Sat")]
def gOf(f:Ren)(x:Str):Str:=(f.lookup x).getD x
def bM(f:Ren)(p:Row):Row:=(gOf f p.1,p.2.map (gOf f))
def kvR(f:Ren):List (Key×V):=f.map fun e=>((Sum.inr e.1:Key),V.str e.2)
theorem qg(x:Str):∀f:Ren,bj (kvR f) (Sum.inr x:Key)=(f.lookup x).map V.str
 |[]=>rfl
 |(n,y)::r=>by
  show bj (((Sum.inr n:Key),V.str y)::kvR r) (Sum.inr x)=_;rw[List.lookup_cons]
  by_cases q:n=x
  ·subst q;rw[bU rfl];simp
  ·have q':(x == n)=false:=beq_eq_false_iff_ne.mpr fun z=>q z.symm
   rw[q',bV (fun z=>q (Sum.inr.inj z)),qg x r]
theorem iQ:∀(more kvs:List (Key×V)),((kvs++more).map (·.1)).Nodup->e8 kvs more=kvs++more
 |[],kvs,_=>(List.append_nil kvs).symm
 |e::r,kvs,nd=>by
  show e8 (putK kvs e.1 e.2) r=_;have hn:bj kvs e.1=none:=by
   cases q:bj kvs e.1 with
   |none=>rfl
   |some v=>
    have hm:=xp q;rw[aam,List.nodup_append] at nd;exact absurd rfl (nd.2.2 _ hm _ (by rw[aaw];exact aac ..))
  rw[gw _ hn,iQ r (kvs++[(e.1,e.2)]) (by rw[List.append_assoc];exact nd),List.append_assoc];rfl
theorem rc{α β:Type}{F G:α->β->Prop}:∀{l₁:List α} {l₂:List β},Paired F l₁ l₂->(∀a b,a∈l₁->F a b->G a b)->Paired G l₁ l₂
 |_,_,.nil,_=>.nil
 |_,_,.cons h t,f=>.cons (f _ _ (aac ..) h) (rc t fun a b m=>f a b (aad _ m))
def ri:Sp:=fun vs H Q _=>∃(a:Addr) (c:Int) (R:List Row),vs=[.ref a,.int c]/\bt H a R/\R.length<=20/\(∀p∈R,p.2.length<=20)/\∀q f H',ab H H'->(f=[]\/f=ft\/f=fu)->bt H' q (R.map (bM f))->Q (.ref q) H'
section
variable {P:Program}{w:World}{K:PySem.W.Frag}{mg:Str->Option Value}{base:Heap}
theorem yW{f:Addr}{fd:FuncData}(F:Fun K "_law_renamed" "_law_renamed" vD f fd):be P w K mg base CX0 1 f fd ["_law_rows","_law_cell"] ri:=by
 refine F.ok gR (fun vs H Q E h=>?_) (fun cdv A outer s H vs Q E hr h=>?_)
 ·obtain⟨a,c,R,rfl,_⟩:=h;rfl
 ·obtain⟨a,c,R,rfl,hR,hl20,hw20,k⟩:=h;have hu:=cI hr;refine exI ⟨_,cV (dM (i:=2) gR.nd rfl (Or.inl rfl) (qd (dW aE aE (dW aE aE (dW aE aE (dW aE aE qc)))) rfl rfl (by intro z;cases z) (by decide)))
   (cv (dM (i:=3) gR.nd rfl (Or.inl rfl) (qd (dW aE aE (dW aE aE (dW aE aE (dW aE aE qc)))) rfl rfl (by intro z;cases z) (by decide)))
   (cv (dM (i:=4) gR.nd rfl (Or.inr rfl) (fJ (r:=eZ K) bn (bA (aG (.of fm) (aG (iv 2) (aG (iv 3) aM)))) (dI eE (iv 1) eG) (fun _ _=>rfl)))
   (cV (dM (i:=5) gR.nd rfl (Or.inl rfl) (bA aM))
   (cV (tS PassesOwn.never rfl (aO (pv 0)) (cT (n:=2) rfl (aN (az (i:=6) gR.nd rfl (Or.inl rfl)) (aN (az (i:=7) gR.nd rfl (Or.inl rfl)) cp)))
    (cV (.of (qM (k:=8) (bq.free (N:=["_law_sign","_law_names"]) (sel:=[none,some 4]) ["_law_names"] (by rfl) (by rfl) (by rfl) ?c1 ?c2 ?c3 ?c4 (by rfl) ?c5) rfl gR.nd rfl (Or.inl rfl) (aO (pv 7)) (fun s₃ H₃ fp=>az (i:=0) (show(["_law_sign","_law_names"]:List Str).Nodup by decide) rfl (Or.inl rfl))
      (fun s₃ H₃ fp=>di) (fun s₃ H₃ fp=>j5 (X:=cD _ _ _ _ _ _ _) hu (pv 1) (pv 0) (pv 0) ⟨rfl,rfl,rfl,rfl⟩)))
    (eV (iq (kT PySem.F.plainAttrs_list PySem.F.slot_list_append PySem.F.type_list_append bf (iv 5) (aG (eI (aG (.of (j5 hu (pv 4) (pv 6) (pv 6) ⟨rfl,rfl,rfl,rfl⟩)) (aG (iv 8) aM))) aM))))))
   (eV (tR (iv 5))))))),?_⟩
  case c1=>decide
  case c2=>decide
  case c3=>
   intro x hx;rcases List.mem_cons.mp hx with rfl|hx
   ·exact⟨rfl,rfl,_,rfl,rfl⟩
   ·cases hx
  case c4=>
   intro y hy;rcases List.mem_cons.mp hy with rfl|hy
   ·exact aac ..
   ·cases hy
  case c5=>
   intro j i h;rcases j with _|_|j
   ·cases h
   ·cases h;exact⟨"_law_names",aac ..,rfl,rfl⟩
   ·cases h
  have m1:e8 [] (kvR ft)=kvR ft:=iQ _ _ (by decide +kernel);have m2:e8 [] (kvR fu)=kvR fu:=iQ _ _ (by decide +kernel);obtain⟨vs,hv,hp⟩:=id hR;have hlen:vs.length=R.length:=Paired.length hp;refine fun d1 hd1=>⟨aa,kvR ft,rfl,by decide,?_⟩
  rw[m1,cZ];have s1:=ab.upd (o:=HO.dK (kvR ft)) hd1;refine⟨fun σ H1=>∃d2,σ=[some (.ref a),some (.int c),some (.ref d1),some (.ref d2),none,none,none,none,none]/\ab H H1/\H1 d1=some (.dK (kvR ft))/\H1 d2=some (.dK (kvR fu)),?_,?_⟩
  ·refine fun d2 hd2=>⟨aa,kvR fu,rfl,by decide,?_⟩
   rw[m2,cZ];have s2:=ab.upd (o:=HO.dK (kvR fu)) hd2;exact⟨d2,rfl,s1.trans s2,s2 _ _ aa,aa⟩
  rintro σ H1 ⟨d2,rfl,s1,h1,h2⟩;refine⟨fun σ H2=>∃dn f,σ=[some (.ref a),some (.int c),some (.ref d1),some (.ref d2),some (.ref dn),none,none,none,none]/\ab H H2/\(f=[]\/f=ft\/f=fu)/\H2 dn=some (.dK (kvR f)),?_,?_⟩
  ·refine fun d0 hd0=>⟨_,rfl,_,rfl,(show 3<=sizeLine by decide),fun p hp0=>?_⟩
   have t1:=ab.upd (o:=HO.dK []) hd0;have t2:=ab.upd (o:=HO.lst [V.ref d0,V.ref d1,V.ref d2]) hp0;obtain⟨j,v,hj,_,hat⟩:=io (xs:=[V.ref d0,V.ref d1,V.ref d2]) (n:=3) (by rfl) (by decide) c;refine⟨_,rfl,_,_,rfl,rfl,(show(0:Int)<3 by decide),p,_,_,v,rfl,rfl,SqL.of aa,hat,?_⟩;have sf:=(s1.trans t1).trans t2;have hm:=aah hj;simp only[List.mem_cons,List.not_mem_nil,or_false] at hm;rcases hm with rfl|rfl|rfl
   ·exact⟨d0,[],rfl,sf,.inl rfl,t2 _ _ aa⟩
   ·exact⟨d1,ft,rfl,sf,.inr (.inl rfl),t2 _ _ (t1 _ _ h1)⟩
   ·exact⟨d2,fu,rfl,sf,.inr (.inr rfl),t2 _ _ (t1 _ _ h2)⟩
  rintro σ H2 ⟨dn,f,rfl,s2,hf,hdn⟩;refine⟨by decide,fun q hq=>?_⟩;have hqH:H q=none:=s2.free hq;have sq:=ab.upd (o:=HO.lst []) hq;have get:∀{H3:Hp} (x:Str),H3 dn=some (.dK (kvR f))->∃o,bR H3 dn (.str x) o/\o.getD (.str x)=.str (gOf f x):=fun{H3} x h=>by
   refine⟨_,bR.k (k:=Sum.inr x) h,?_⟩;rw[qg];unfold gOf;cases f.lookup x <;> rfl
  have hvs:=s2 _ _ hv;refine⟨_,rfl,a,rfl,⟨_,SqL.of (sq _ _ hvs)⟩,bc (K:=K) (a:=a) (xs:=vs)
   (fun i σ H3=>∃us o6 o7 o8,σ=[some (.ref a),some (.int c),some (.ref d1),some (.ref d2),some (.ref dn),some (.ref q),o6,o7,o8]/\ab H2 H3/\H3 q=some (.lst us)/\Paired (df H3) us ((R.take i).map (bM f))/\∀v∈us,∃t b l,v=.ref t/\H3 t=some (.tup [.str l,.ref b])/\b≠q)
   ⟨[],_,_,_,rfl,sq,aa,.nil,fun v hv=>(by cases hv)⟩ ?_ ?_ ?_⟩
  ·rintro i σ H3 _ ⟨_,_,_,_,_,s3,_⟩;exact SqL.of (s3 _ _ hvs)
  ·rintro i x σ H3 hx ⟨us,o6,o7,o8,rfl,s3,hq3,hp3,hn3⟩;obtain⟨p,tt,cc,hpi,rfl,htt,hcc⟩:=cS hp hx;have hpm:p∈R:=aah hpi;have hil:i<R.length:=(aab.mp hpi).1;have hpw:=hw20 p hpm;have s23:=s2.trans s3;have hc3:H3 cc=some (.lst (p.2.map V.str)):=s23 _ _ hcc;have hdn3:=s3 _ _ hdn;refine⟨tt,_,rfl,SqT.of (s23 _ _ htt),rfl,_,_,rfl,_,_,rfl,rfl,?_⟩;refine⟨_,rfl,cc,rfl,⟨_,SqL.of hc3⟩,fun D hD=>cO (K:=K) (xs:=p.2.map V.str) (fun j τ H4=>(∃o,τ=[o,some (.ref dn)])/\H4=upd H3 D (.lst (((p.2.take j).map (gOf f)).map V.str))) ⟨⟨_,rfl⟩,rfl⟩ ?_ ?_ ?_⟩
   ·rintro j τ H4 ⟨_,rfl⟩;exact(ab.upd hD).seq (SqL.of hc3)
   ·rintro j x τ H4 hx ⟨⟨o,rfl⟩,rfl⟩;obtain⟨y,hy,rfl⟩:=bS hx;have hjl:j<p.2.length:=(aab.mp hy).1;have sD:=ab.upd (o:=HO.lst (((p.2.take j).map (gOf f)).map V.str)) hD;obtain⟨o',g1,g2⟩:=get y (sD _ _ hdn3);refine⟨_,rfl,dn,rfl,.inl ⟨_,.inl (sD _ _ hdn3)⟩,_,rfl,_,rfl,o',g1,?_⟩;rw[g2];refine⟨_,aa,?_,⟨_,rfl⟩,?_⟩
    ·rw[aaa,aaa,aal];exact aD (by omega)
    ·rw[cZ,aap,hy,aam,aam];rfl
   ·rintro τ H4 ⟨_,rfl⟩;rw[aaa,aas];have sD:=ab.upd (o:=HO.lst ((p.2.map (gOf f)).map V.str)) hD;have hq4:=sD _ _ hq3;have hDq:D≠q:=Ne.symm (aP hq3 hD);obtain⟨o',g1,g2⟩:=get p.1 (sD _ _ hdn3);refine⟨_,rfl,.inl ⟨rfl,_,SqL.of hq4⟩,_,rfl,dn,rfl,.inl ⟨_,.inl (sD _ _ hdn3)⟩,_,rfl,_,rfl,o',g1,?_⟩;rw[g2];refine⟨_,rfl,(show 2<=sizeLine by decide),fun t ht=>?_⟩;have st:=ab.upd (o:=HO.tup [V.str (gOf f p.1),V.ref D]) ht;have sDt:=sD.trans st;have hq5:=st _ _ hq4;have htq:t≠q:=Ne.symm (aP hq4 ht);have hus:us.length<=20:=by
     have:=Paired.length hp3;rw[aaa,aal] at this;omega
    refine⟨q,_,_,rfl,rfl,hq5,aD (by omega),us++[V.ref t],_,_,_,rfl,(s3.trans sDt).bK hq,aa,?_,?_⟩
    ·rw[aap,hpi,aam];refine cm (rc hp3 fun v r hm ⟨t',b',q1,q2,q3⟩=>⟨t',b',q1,?_,?_⟩) ⟨t,D,rfl,?_,?_⟩
     ·rw[aj htq];exact aa
     ·unfold aA;rw[aj hDq];exact st _ _ aa
     ·have:t'≠q:=fun z=>by rw[z,hq3] at q2;cases q2
      rw[aj this];exact sDt _ _ q2
     ·obtain⟨t2,b2,l2,e1,e2,e3⟩:=hn3 v hm;rw[q1] at e1;cases e1;rw[q2] at e2;cases e2;unfold aA;rw[aj e3];exact sDt _ _ q3
    ·intro v hv';rcases aak.mp hv' with z|z
     ·obtain⟨t',b',l',e1,e2,e3⟩:=hn3 v z;refine⟨t',b',l',e1,?_,e3⟩;have:t'≠q:=fun z=>by rw[z,hq3] at e2;cases e2
      rw[aj this];exact sDt _ _ e2
     ·rw[aaj.mp z];refine⟨t,D,gOf f p.1,rfl,?_,hDq⟩;rw[aj htq];exact aa
  ·rintro σ H3 ⟨us,o6,o7,o8,rfl,s3,hq3,hp3,_⟩;rw[hlen,aas] at hp3;exact⟨_,rfl,k q f H3 (s2.trans s3) hf ⟨us,hq3,hp3⟩⟩
end
end Nw
namespace Nw
open PySem L2
open SL (ap srt)
structure GF(g:Str->Str):Prop where
 s:g "s"="s"
 t:g "t"="t"
 u:g "u"="u"
 nd:[g "S",g "A",g "B"].Nodup
 ns:¬("s":Str)∈[g "S",g "A",g "B"]
 nt:¬("t":Str)∈[g "S",g "A",g "B"]
 nu:¬("u":Str)∈[g "S",g "A",g "B"]
theorem zU{f:Ren}(hf:f=[]\/f=ft\/f=fu):GF (gOf f):=by
 rcases hf with rfl|rfl|rfl
 all_goals exact⟨by decide +kernel,by decide +kernel,by decide +kernel,by decide +kernel,by decide +kernel,by decide +kernel,by decide +kernel⟩
theorem xM{R:List Row}(h:Drawn 4 R){f:Ren}(hf:f=[]\/f=ft\/f=fu):Good (R.map (bM f)):=by
 have G:=zU hf;obtain⟨more,rfl,hm⟩:=h.sh;obtain⟨U,hU,hUm⟩:=h.sg;generalize hg:gOf f=g at G;have er:∀p:Row,bM f p=(g p.1,p.2.map g):=fun p=>by unfold bM;rw[hg]
 have mem:∀{p:Row},p∈bX->(g p.1,p.2.map g)∈(bX++more).map (bM f):=fun{p} hp=>aao.mpr ⟨p,List.mem_append_left _ hp,er p⟩
 have mS:(g "S",[g "s",g "A"])∈(bX++more).map (bM f):=mem (p:=("S",["s","A"])) (by decide +kernel);have mA:(g "A",[g "t",g "B"])∈(bX++more).map (bM f):=mem (p:=("A",["t","B"])) (by decide +kernel);have mB:(g "B",[g "u"])∈(bX++more).map (bM f):=mem (p:=("B",["u"])) (by decide +kernel);have lf:∀x∈((bX++more).map (bM f)).map (·.1),x∈[g "S",g "A",g "B"]:=fun x hx=>by
  obtain⟨p',hp',rfl⟩:=aao.mp hx;obtain⟨p,hp,rfl⟩:=aao.mp hp';rw[er];have:=h.lf p hp;show g p.1∈[g "S",g "A",g "B"];unfold ip at this;simp only[List.mem_cons,List.not_mem_nil,or_false] at this ⊢;rcases this with e|e|e
  ·exact .inl (by rw[e])
  ·exact .inr (.inl (by rw[e]))
  ·exact .inr (.inr (by rw[e]))
 have inL:∀x∈[g "S",g "A",g "B"],x∈((bX++more).map (bM f)).map (·.1):=fun x hx=>by
  simp only[List.mem_cons,List.not_mem_nil,or_false] at hx;rcases hx with e|e|e
  ·rw[e];exact aao.mpr ⟨_,mS,rfl⟩
  ·rw[e];exact aao.mpr ⟨_,mA,rfl⟩
  ·rw[e];exact aao.mpr ⟨_,mB,rfl⟩
 have sg:∀p∈(bX++more).map (bM f),∀x∈p.2,x∈(U++du).map g:=fun p' hp' x hx=>by
  obtain⟨p,hp,rfl⟩:=aao.mp hp';rw[er] at hx;obtain⟨y,hy,rfl⟩:=aao.mp hx;exact aao.mpr ⟨y,hUm p hp y hy,rfl⟩
 have lU:((U++du).map g).length<=11:=by
  rw[aaa,aag];show U.length+7<=11;omega
 have sm:Small ((bX++more).map (bM f)):=by
  refine⟨?_,fun p' hp'=>?_,⟨_,Nat.le_trans lU (by decide),sg⟩,?_,?_⟩
  ·rw[aaa,aag];show 3+more.length<=14;omega
  ·obtain⟨p,hp,rfl⟩:=aao.mp hp';rw[er];have:=h.wd p hp;show(p.2.map g).length<=20;rw[aaa];omega
  ·have h1:(ap (((bX++more).map (bM f)).flatMap (·.2))).length<=11:=Nat.le_trans (Gram.cw (SL.ck _) fun x hx=>by
    rw[SL.bO] at hx;obtain⟨p,hp,hx'⟩:=List.mem_flatMap.mp hx;exact sg p hp x hx') lU
   have h2:3<=(ap (((bX++more).map (bM f)).map (·.1))).length:=Gram.cw G.nd fun x hx=>by
    rw[SL.bO];exact inL x hx
   omega
  ·intro z;cases z
 have wd:∀{x:Str} {p:Row},p∈(bX++more).map (bM f)->x∈p.2->¬x∈[g "S",g "A",g "B"]->lQ ((bX++more).map (bM f)) x:=fun{x p} hp hx hn=>⟨⟨p,hp,hx⟩,fun z=>hn (lf x z)⟩
 have wu:=wd mB (x:="u") (by rw[G.u];exact aac ..) G.nu;have wt:=wd mA (x:="t") (by rw[G.t];exact aac ..) G.nt;have ws:=wd mS (x:="s") (by rw[G.s];exact aac ..) G.ns;have MB:Gram.Made ((bX++more).map (bM f)) (lQ ((bX++more).map (bM f))) (g "B"):=.mk mB fun s hs nw=>by
  rw[aaj.mp hs,G.u] at nw;exact absurd wu nw
 have MA:Gram.Made ((bX++more).map (bM f)) (lQ ((bX++more).map (bM f))) (g "A"):=.mk mA fun s hs nw=>by
  rcases List.mem_cons.mp hs with e|e
  ·rw[e,G.t] at nw;exact absurd wt nw
  ·rw[aaj.mp e];exact MB
 have MS:Gram.Made ((bX++more).map (bM f)) (lQ ((bX++more).map (bM f))) (g "S"):=.mk mS fun s hs nw=>by
  rcases List.mem_cons.mp hs with e|e
  ·rw[e,G.s] at nw;exact absurd ws nw
  ·rw[aaj.mp e];exact MA
 have fst:bW ((bX++more).map (bM f))=g "S":=by
  show(bM f ("S",["s","A"])).1=_;rw[er]
 have RA:Gram.Reach (rl ((bX++more).map (bM f))) (g "S") (g "A"):=.step .refl (kL.mpr ⟨_,mS,aad _ (aac ..),inL _ (aad _ (aac ..))⟩);have RB:Gram.Reach (rl ((bX++more).map (bM f))) (g "S") (g "B"):=.step RA (kL.mpr ⟨_,mA,aad _ (aac ..),inL _ (aad _ (aad _ (aac ..)))⟩);refine⟨sm,fun x hx=>?_,fun x hx=>?_⟩
 ·have:=lf x hx;simp only[List.mem_cons,List.not_mem_nil,or_false] at this;rcases this with e|e|e
  ·rw[e];exact MS
  ·rw[e];exact MA
  ·rw[e];exact MB
 ·have:=lf x hx;rw[fst];simp only[List.mem_cons,List.not_mem_nil,or_false] at this;rcases this with e|e|e
  ·rw[e];exact .refl
  ·rw[e];exact RA
  ·rw[e];exact RB
end Nw
namespace Nw
open PySem L2
open SL (ap srt)
abbrev vE:Stmt:=top 17
theorem zV:aJ ["signs","empties"] ["signs","empties"] (aw vE):=⟨rfl,rfl,rfl,by decide +kernel,rfl,by decide +kernel,by decide +kernel⟩
def ng:Sp:=fun vs H Q _=>∃(a b:Addr) (r es:List Str),vs=[.ref a,.ref b]/\aA H a r/\aA H b es/\r.length<=20/\∀H',ab H H'->Q (.bl (r.all fun s=>decide (s∈es))) H'
abbrev vF:Stmt:=top 18
theorem rj:aJ ["signs","empties","begins","words","sign"] ["signs","empties","begins"] (aw vF):=⟨rfl,rfl,rfl,by decide +kernel,rfl,by decide +kernel,by decide +kernel⟩
def ni:Sp:=fun vs H Q _=>∃(a b c:Addr) (r es:List Str) (f:Tab),vs=[.ref a,.ref b,.ref c]/\aA H a r/\aA H b es/\d9 H c f/\r.length<=20/\(∀e∈f,e.2.length<=40)/\(∃U:List Str,U.length<=40/\∀z∈cb es f r,z∈U)/\
 ∀q H',ab H H'->H q=none->aA H' q (srt (ap (cb es f r)))->Q (.ref q) H'
section
variable {P:Program}{w:World}{K:PySem.W.Frag}{mg:Str->Option Value}{base:Heap}
theorem yX{f:Addr}{fd:FuncData}(F:Fun K "can_be_empty" "can_be_empty" vE f fd)(T:Txt mg):be P w K mg base CX0 1 f fd ["signs","empties"] ng:=by
 refine F.ok zV (fun vs H Q E h=>?_) (fun cdv A outer s H vs Q E hr h=>?_)
 ·obtain⟨a,b,r,es,rfl,_⟩:=h;rfl
 ·obtain⟨a,b,r,es,rfl,hA,hB,hl,k⟩:=h;refine⟨_,ag (aQ (au (ox rfl) (by rfl) T.all PyProof.Rows.boot_all (ai
   (dj (bq.free (N:=["sign","empties"]) (sel:=[none,some 1]) ["empties"] (by rfl) (by rfl) (by rfl) ?c1 ?c2 ?c3 ?c4 (by rfl) ?c5) rfl (aO (pv 0)) (fun s₃ H₃ fp=>az (i:=0) (show(["sign","empties"]:List Str).Nodup by decide) rfl (Or.inl rfl)) (fun s₃ H₃ fp=>di)
    (fun s₃ H₃ fp=>hV (r:=rIn K false) fQ (pv 0) (pv 1) (by with_unfolding_all rfl))) ac))),?_⟩
  case c1=>decide
  case c2=>decide
  case c3=>
   intro x hx;rcases List.mem_cons.mp hx with rfl|hx
   ·exact⟨rfl,rfl,_,rfl,rfl⟩
   ·cases hx
  case c4=>
   intro y hy;rcases List.mem_cons.mp hy with rfl|hy
   ·exact aac ..
   ·cases hy
  case c5=>
   intro j i h;rcases j with _|_|j
   ·cases h
   ·cases h;exact⟨"empties",aac ..,rfl,rfl⟩
   ·cases h
  have hA:H a=some (.lst (r.map V.str)):=hA;have hB:H b=some (.lst (es.map V.str)):=hB;refine⟨_,rfl,a,rfl,⟨_,SqL.of hA⟩,fun D hD=>cO (K:=K) (xs:=r.map V.str) (fun j τ H4=>(∃o,τ=[o,some (.ref b)])/\H4=upd H D (.lst (((r.take j).map fun s=>decide (s∈es)).map V.bl))) ⟨⟨_,rfl⟩,rfl⟩ ?_ ?_ ?_⟩
  ·rintro j τ H4 ⟨_,rfl⟩;exact(ab.upd hD).seq (SqL.of hA)
  ·rintro j x τ H4 hx ⟨⟨o,rfl⟩,rfl⟩;obtain⟨y,hy,rfl⟩:=bS hx;have hjl:j<r.length:=(aab.mp hy).1;have sD:=ab.upd (o:=HO.lst (((r.take j).map fun s=>decide (s∈es)).map V.bl)) hD;refine⟨_,rfl,_,rfl,b,_,rfl,.inl (SqL.of (sD _ _ hB)),rfl,dz es,_,aa,?_,⟨_,rfl⟩,?_⟩
   ·rw[aaa,aaa,aal];exact aD (by omega)
   ·rw[cZ,aap,hy,aam,aam];show upd H D (.lst (_++[V.bl (inV (.str y) (es.map V.str))]))=_;rw[dF];rfl
  ·rintro τ H4 ⟨_,rfl⟩;rw[aaa,aas];refine⟨D,r.map fun s=>decide (s∈es),rfl,SqL.of aa,?_⟩;have e:((r.map fun s=>decide (s∈es)).all id)=r.all fun s=>decide (s∈es):=by rw[List.all_map];rfl
   rw[e];exact k _ (ab.upd hD)
theorem yY{f:Addr}{fd:FuncData}(F:Fun K "words_to_begin_signs" "words_to_begin_signs" vF f fd)(T:Txt mg)(D1:Def P w K mg base "leading_signs" 1 ["signs","empties"] kM):be P w K mg base CX0 2 f fd ["signs","empties","begins"] ni:=by
 refine F.ok rj (fun vs H Q E h=>?_) (fun cdv A outer s H vs Q E hr h=>?_)
 ·obtain⟨a,b,c,r,es,f,rfl,_⟩:=h;rfl
 ·obtain⟨a,b,c,r,es,f,rfl,hA,hB,hC,hl,hf40,⟨U,hU,hUm⟩,k⟩:=h;have hu:=cI hr;refine⟨_,af (aq (i:=3) rj.nd rfl (Or.inl rfl) (bx ac))
   (af (bb PassesOwn.never rfl (aO (aB D1 hr (by rfl) (ai (pv 0) (ai (pv 1) ac)))) (az (i:=4) rj.nd rfl (Or.inl rfl))
    (ag (bv (bZ PySem.F.plainAttrs_list PySem.F.slot_list_extend PySem.F.type_list_extend dU (pv 3) (ai (j5 hu (pv 2) (pv 4) (bx (ai (pv 4) ac)) ⟨rfl,rfl,rfl,rfl⟩) ac)))))
   (ag (aQ (au (cR rfl) (by rfl) T.srt PyProof.Rows.boot_sorted (ai (dy (eO rfl) (by rfl) T.set (by decide +kernel) (ai (pv 3) ac)) ac))))),?_⟩
  refine⟨by decide,fun wl hwl=>?_⟩;have s0:=ab.upd (o:=HO.lst []) hwl;refine⟨_,rfl,_,rfl,a,b,r,es,rfl,s0 _ _ hA,s0 _ _ hB,by omega,fun ql H1 s1 n1 hS1=>?_⟩;have s01:=s0.trans s1;have hS1:H1 ql=some (.lst ((Gram.lead es r).map V.str)):=hS1;have hql:ql≠wl:=fun z=>by rw[z,aa] at n1;cases n1
  have hll:=Gram.gA es r;refine⟨ql,rfl,⟨_,SqL.of hS1⟩,bc (K:=K) (a:=ql) (xs:=(Gram.lead es r).map V.str)
   (fun i σ H2=>(∃o,σ=[some (.ref a),some (.ref b),some (.ref c),some (.ref wl),o])/\ab H H2/\H2 ql=some (.lst ((Gram.lead es r).map V.str))/\aA H2 wl (((Gram.lead es r).take i).flatMap fun s=>(f.lookup s).getD [s]))
   ⟨⟨_,rfl⟩,s01,hS1,s1 _ _ aa⟩ ?_ ?_ ?_⟩
  ·rintro i σ H2 _ ⟨_,_,h,_⟩;exact SqL.of h
  ·rintro i x σ H2 hx ⟨⟨o,rfl⟩,s2,hq2,hw2⟩;obtain⟨y,hy,rfl⟩:=bS hx;have hil:i<(Gram.lead es r).length:=(aab.mp hy).1;have hw2':H2 wl=some (.lst ((((Gram.lead es r).take i).flatMap fun s=>(f.lookup s).getD [s]).map V.str)):=hw2;refine⟨_,rfl,.inl ⟨rfl,_,SqL.of hw2'⟩,_,rfl,c,rfl,?_,_,rfl,_,rfl,(show 1<=sizeLine by decide),fun q1 hq1=>?_⟩
   ·obtain⟨kvs,h1,_⟩:=hC.mono s2;exact .inl ⟨kvs,h1⟩
   have sq1:=ab.upd (o:=HO.lst [.str y]) hq1;have s3:=s2.trans sq1;obtain⟨kvs,h1,h2⟩:=hC.mono s3;obtain⟨o',l,hg,hv,hl'⟩:∃o' l,bR (upd H2 q1 (.lst [.str y])) c (.str y) o'/\o'.getD (.ref q1)=.ref l/\aA (upd H2 q1 (.lst [.str y])) l ((f.lookup y).getD [y]):=by
    rcases jC h2 y with ⟨e1,e2⟩|⟨ys,l,e1,e2,e3⟩
    ·refine⟨none,q1,.inl ⟨kvs,Sum.inr y,h1,rfl,e2.symm⟩,rfl,?_⟩;rw[e1];exact aa
    ·refine⟨some (.ref l),l,.inl ⟨kvs,Sum.inr y,h1,rfl,e2.symm⟩,rfl,?_⟩;rw[e1];exact e3
   refine⟨o',hg,?_⟩;rw[hv];have hb1:=kP (es:=es) hf40 ((Gram.lead es r).take i);have hb2:=kP (es:=es) hf40 [y];rw[List.flatMap_cons,List.flatMap_nil,List.append_nil] at hb2;rw[aal] at hb1;simp only[aav] at hb2;refine⟨wl,l,_,_,rfl,rfl,sq1 _ _ hw2',hl',by rw[aaa,aaa];exact cy (by omega),⟨_,rfl⟩,s3.bK hwl,by rw[aj hql];exact sq1 _ _ hq2,?_⟩;unfold aA;rw[aa,aap,hy,List.flatMap_append,aam];simp
  ·rintro σ H2 ⟨⟨o,rfl⟩,s2,hq2,hw2⟩;rw[aaa,aas] at hw2;have hw2:aA H2 wl (cb es f r):=hw2;have hb1:(cb es f r).length<=40*(Gram.lead es r).length:=kP (es:=es) hf40 (Gram.lead es r);refine⟨_,rfl,wl,cb es f r,rfl,SqL.of hw2,by unfold scanBound;omega,fun q hq=>?_⟩;refine⟨q,ap (cb es f r),rfl,.inr (.inl aa),?_,fun q2 hq2=>?_⟩
   ·have:=Gram.cw (SL.ck (cb es f r)) fun z hz=>hUm z (SL.bO.mp hz)
    omega
   ·have s3:=s2.trans (ab.upd (o:=dt w q (ap (cb es f r))) hq);exact k q2 _ (s3.trans (ab.upd hq2)) (s3.free hq2) aa
end
end Nw
namespace L2
open PySem PySem.Spec PyProof.Rows
section
variable {X:Cx}
theorem Inv.qh{pins:List (Addr×Obj)}{σ:St}{H:Hp}{s:Shared}{h':Heap}{fp:List Addr}{a:Addr}{o:HO}{t':Nat}(I:Inv X pins σ H s)(k:∀b u,b ∉ fp->s.heap.get? b=some u->h'.get? b=some u)(hf:∀b∈fp,cJ X pins H b)(ha:s.heap.objs.size<=a)
  (new:bi X.prog X.w (upd H a o) h' a o):Inv X pins σ (upd H a o) {s with heap:=h',toks:=t'}:=by
 have hn:H a=none:=I.hok.fresh ha;have nit:∀b u,H b=some u->b ∉ fp:=fun b u e z=>by rw[(hf b z).1] at e;cases e
 have up:∀b u,H b=some u->upd H a o b=some u:=fun b u e=>by rw[aj (aP e hn)];exact e
 refine I.step (g':=s.gens) (d':=s.drawn) (ch:=fp) (fun b hb=>?_) (fun b o _ _ hc e _=>k b o hc e) (fun b o _ _ hc e _=>⟨o.slots,k b o hc e⟩) (fun b o' hc e n=>?_)
  (fun b o hc e=>⟨o,k b o hc e⟩) (fun b xs e=>up b _ e) (fun b o' u e=>up b _ e) (fun b ps e=>⟨#[],by rw[up b _ e];simp⟩) (fun m hm=>?_) (fun b u e=>?_) I.bare
 ·obtain⟨f0,f1,f2,f3,f4,f5⟩:=hf b hb;exact⟨f3,f1,f4,f5⟩
 ·rw[aj (Nat.ne_of_lt (Nat.lt_of_lt_of_le (Heap.lt_size e) ha))];exact n
 ·obtain⟨o,es,ep,ho,r⟩:=hm;exact⟨o,es,ep,k _ o (fun z=>(hf _ z).2.1 rfl) ho,r⟩
 ·by_cases q:b=a
  ·subst q;rw[aa] at e;cases e
   exact new
  ·rw[aj q] at e;refine(I.hok b u e).eK (fun c v hc q=>k c v ?_ q) (fun c q=>up c _ q) fun c xs q=>up c _ q
   rcases hc with z|z
   ·rw[z];exact nit b u e
   ·exact nit c _ z
end
def Ite(K:PySem.W.Frag)(a:Addr):It:=
 ⟨fun i H=>∃xs x,SqL K H a xs/\xs[i]? =some x,fun i H v H'=>∃t x,H t=none/\v=.ref t/\H'=upd H t (.tup [.int i,x])/\∀xs,SqL K H a xs->xs[i]? =some x,fun i H=>∃xs,SqL K H a xs/\xs.length<=i⟩
theorem tT{P:Program}{w:World}{K:PySem.W.Frag}{elts:List Expr}{x1}{pos:Pos}(a e it:Addr)(hne:e≠it):Turn P w K (.Tuple elts x1 pos) (Ite K a) [e,it] e (fun i h=>∃old,IsEnum h e it (i:Nat) old/\h.IsListIter it a i) where
 mem:=by simp
 obj:=fun i h st b hb=>by
  obtain⟨old,he,hi⟩:=st;rcases List.mem_cons.mp hb with z|z
  ·subst z;exact⟨_,he,fun v q=>by
    have q:Data.fields _=Data.cell v:=q;cases q⟩
  ·have z:b=it:=by simpa using z
   subst z;obtain⟨o,e,c,d⟩:=hi;exact⟨o,e,fun v q=>by rw[d] at q;cases q⟩
 keep:=fun i h h' st k=>by
  obtain⟨old,he,hi⟩:=st;exact⟨old,k e (by simp) _ he,hi.at fun o q=>k it (by simp) o q⟩
 item:=by
  intro X hP hw hK hc i pins s σ H E I hf st hg;subst hP hw hK;obtain⟨old,he,hi⟩:=st;obtain⟨xs,x,hq,hx⟩:=hg;obtain⟨its,rv,p,hz⟩:=I.list hq;obtain⟨u,hu,ru⟩:=rv.get hx;refine wpAny_pyNext_enum_item he hi p.isList (x:=u) (by simpa using hu) hne fun h1 heo hit1 ht1 hz1 hk1=>?_
  refine⟨_,rfl,wpAny_letOwnedTupleGo_enum heo fun h2 he2 hs2=>?_⟩;replace hs2:Heap.SameBut e h1 h2:=hs2;have helt:e<s.heap.objs.size:=Heap.lt_size he;have ht2:h2.get? s.heap.objs.size=some {cls:=.type "tuple",data:=.seq #[.int i s.toks,u]}:=(hs2.2 _ (Nat.ne_of_gt helt)).trans ht1;have I1:Inv X pins σ (upd H s.heap.objs.size (.tup [.int i,x])) {s with heap:=h2,toks:=s.toks+1}:=by
   refine I.qh (fp:=[e,it]) (fun b o hb q=>?_) hf (Nat.le_refl _) ?_
   ·have hbe:b≠e:=fun z=>hb (by simp[z])
    have hbi:b≠it:=fun z=>hb (by simp[z])
    exact(hs2.2 b hbe).trans (hk1 b o hbe hbi q)
   ·exact⟨(show 2<=sizeLine by decide),[.int i s.toks,u],.cons ⟨_,rfl⟩ (.cons ru .nil),⟨_,ht2,rfl,_,rfl⟩⟩
  refine⟨.ref s.heap.objs.size,_,I1,rfl,⟨_,x,I.fresh,rfl,rfl,fun ys hy=>by rw[I.nH hy hq];exact hx⟩,⟨u,?_,(hit1.extBut hs2.extBut (Ne.symm hne))⟩,fun b hb=>?_⟩
  ·have:((i+1:Nat):Int)=(i:Int)+1:=by push_cast;rfl
   rw[this];exact he2
  ·have f0:=(hf b hb).1;have hlt:b<s.heap.objs.size:=by
    rcases List.mem_cons.mp hb with z|z
    ·rw[z];exact helt
    ·have z:b=it:=by simpa using z
     rw[z];obtain⟨o,q,_⟩:=hi;exact Heap.lt_size q
   rw[aj (Nat.ne_of_lt hlt)];exact f0
 done:=by
  intro X hP hw hK hc i pins s σ H E I hf st hg;subst hP hw hK;obtain⟨old,he,hi⟩:=st;obtain⟨xs,hq,hx⟩:=hg;obtain⟨its,rv,p,hz⟩:=I.list hq;obtain⟨f0,f1,f2,f3,f4,f5⟩:=hf it (by simp);have hl:=rv.length;exact wpAny_pyNext_enum_end (I.ok.hd hc) he hi p.isList (by simp;omega) fun h' eb=>⟨rfl,I.turned (t':=s.toks) (fun b o hb e=>eb b o hb e) f0 f1 f3 f4 f5⟩
 self:=fun _ _ _ _ _ st h=>by
  obtain⟨old,he,_⟩:=st;exact wpAny_pyIter_enum he h
def zW(K:PySem.W.Frag)(ta:TA):TI:=fun σ H R=>ta σ H fun vs H1=>∃a,vs=[.ref a]/\(∃xs,SqL K H1 a xs)/\R (Ite K a) H1
theorem tU:bootBuiltins "enumerate"=some (.type "enumerate"):=by decide +kernel
theorem ir{X:Cx}{elts:List Expr}{x1}{tpos:Pos}{a:Expr}{ta:TA}{p pos:Pos}(hg:Gl X "enumerate")(hm:X.mg "enumerate"=none)(ha:PA X [a] ta)(hs:starEach [a] X.env=[(false,eval a X.env)]:=by rfl):PI X (.Tuple elts x1 tpos) (.Call (.Name "enumerate" p) [a] [] pos) (zW X.K ta):=by
 intro pins s σ H R I h;refine Call_ (fO I hg hm tU (PyProof.Rows.callWith_type1 (thn (ha pos pins s σ H _ I h) fun us s1 ⟨vs,H1,I1,r1,q1⟩=>?_) hs rfl));obtain⟨l,e,⟨xs,hq⟩,q⟩:=q1;subst e;cases r1 with
 |cons r rr=>
  cases rr
  cases r
  obtain⟨its,rv,pl,hz⟩:=I1.list hq;refine call_enumerate_list pl.isList fun h' he hi hz' hk=>?_
  refine wpAny_pyIter_enum he ?_;have I2:Inv X pins σ H1 {s1 with heap:=h'}:=I1.kept (t':=s1.toks) hk;refine⟨s1.heap.objs.size+1,[s1.heap.objs.size+1,s1.heap.objs.size],_,_,H1,rfl,I2,tT l _ _ (Nat.succ_ne_self _),⟨.none,he,hi⟩,fun b hb=>?_,q⟩;have hb':s1.heap.objs.size<=b:=by
   rcases List.mem_cons.mp hb with z|z
   ·rw[z];exact Nat.le_succ _
   ·have z:b=s1.heap.objs.size:=by simpa using z
    rw[z];exact Nat.le_refl _
  exact I1.g8 hb' (I1.hok.fresh hb')
theorem gD{K:PySem.W.Frag}{a:Addr}{xs:List V}{g:TG}{tb:TS}{D:Ends}{σ:St}{H:Hp}(Pv:Nat->St->Hp->Prop)(h0:Pv 0 σ H)(hl:∀i σ H,i<=xs.length->Pv i σ H->SqL K H a xs)
  (hs:∀i x t σ H,xs[i]? =some x->Pv i σ H->H t=none->g (.ref t) σ (upd H t (.tup [.int i,x])) fun σ2 H2=>tb {D with nx:=Pv (i+1),ct:=Pv (i+1),bk:=D.nx} σ2 H2)(hd:∀σ H,Pv xs.length σ H->D.nx σ H) :
  ∃W:Nat->Nat->St->Hp->Prop,(∃m,W 0 m σ H)/\∀i m σ H,W i m σ H->
   ((Ite K a).stop i H/\D.nx σ H)\/((Ite K a).go i H/\∃N:St->Hp->Prop,(∀σ' H',N σ' H'->∃m',m'<m/\W (i+1) m' σ' H')/\∀x H',(Ite K a).yld i H x H'->g x σ H' fun σ2 H2=>tb {D with nx:=N,ct:=N,bk:=D.nx} σ2 H2):=by
 refine⟨fun i m σ H=>Pv i σ H/\i<=xs.length/\m=xs.length - i,⟨_,h0,Nat.zero_le _,rfl⟩,fun i m σ H ⟨p,hi,hm⟩=>?_⟩;have sq:=hl i σ H hi p;rcases Nat.lt_or_ge i xs.length with hlt|hge
 ·refine .inr ⟨⟨xs,xs[i],sq,aae hlt⟩,Pv (i+1),fun σ' H' n=>⟨xs.length - (i+1),by omega,n,hlt,rfl⟩,fun x H' y=>?_⟩;obtain⟨t,z,ht,rfl,rfl,hx⟩:=y;exact hs i z t σ H (hx xs sq) p ht
 ·have e:i=xs.length:=by omega
  subst e;exact .inl ⟨⟨xs,sq,Nat.le_refl _⟩,hd σ H p⟩
end L2
namespace Nw
open PySem L2
open SL (ap srt)
def Oc(R:List Row)(x:Str)(rest:List Str)(l:Str):Prop:=∃r j,(l,r)∈R/\r[j]? =some x/\rest=r.drop (j+1)
def gS(R:List Row)(i j:Nat)(x:Str)(rest:List Str)(l:Str):Prop:=∃i' j' p,(i'<i\/(i'=i/\j'<j))/\R[i']? =some p/\p.2[j']? =some x/\rest=p.2.drop (j'+1)/\l=p.1
theorem kU{R:List Row}{x:Str}{rest:List Str}{l:Str}:¬gS R 0 0 x rest l:=by
 rintro⟨i',j',p,h,_⟩;omega
theorem bH{R:List Row}{i j:Nat}{p:Row}{x y:Str}{rest:List Str}{l:Str}(hp:R[i]? =some p)(hy:p.2[j]? =some y):gS R i (j+1) x rest l↔gS R i j x rest l\/(x=y/\rest=p.2.drop (j+1)/\l=p.1):=by
 constructor
 ·rintro⟨i',j',p',h,h1,h2,h3,h4⟩
  by_cases q:i'=i/\j'=j
  ·obtain⟨rfl,rfl⟩:=q;rw[hp] at h1;cases h1;rw[hy] at h2;cases h2;exact .inr ⟨rfl,h3,h4⟩
  ·exact .inl ⟨i',j',p',by omega,h1,h2,h3,h4⟩
 ·rintro(⟨i',j',p',h,h1,h2,h3,h4⟩|⟨rfl,h3,h4⟩)
  ·exact⟨i',j',p',by omega,h1,h2,h3,h4⟩
  ·exact⟨i,j,p,.inr ⟨rfl,by omega⟩,hp,hy,h3,h4⟩
theorem mC{R:List Row}{i:Nat}{p:Row}{x:Str}{rest:List Str}{l:Str}(hp:R[i]? =some p):gS R (i+1) 0 x rest l↔gS R i p.2.length x rest l:=by
 constructor
 ·rintro⟨i',j',p',h,h1,h2,h3,h4⟩;refine⟨i',j',p',?_,h1,h2,h3,h4⟩;rcases Nat.lt_or_ge i' i with z|z
  ·exact .inl z
  ·have e:i'=i:=by omega
   subst e;rw[hp] at h1;cases h1;exact .inr ⟨rfl,(aab.mp h2).1⟩
 ·rintro⟨i',j',p',h,h1,h2,h3,h4⟩;exact⟨i',j',p',.inl (by omega),h1,h2,h3,h4⟩
theorem mD{R:List Row}{x:Str}{rest:List Str}{l:Str}:gS R R.length 0 x rest l↔Oc R x rest l:=by
 constructor
 ·rintro⟨i',j',p',h,h1,h2,h3,rfl⟩;exact⟨p'.2,j',aah h1,h2,h3⟩
 ·rintro⟨r,j,hm,h2,h3⟩;obtain⟨i,hi⟩:=List.mem_iff_getElem?.mp hm;exact⟨i,j,(l,r),.inl (aab.mp hi).1,hi,h2,h3,rfl⟩
theorem Oc.row{R:List Row}{x:Str}{rest:List Str}{l:Str}(h:Oc R x rest l):∃r,(l,r)∈R/\∀s∈rest,s∈r:=by
 obtain⟨r,j,hm,_,rfl⟩:=h;exact⟨r,hm,fun s hs=>List.mem_of_mem_drop hs⟩
def Wd(R:List Row)(es rest:List Str)(z:Str):Prop:=∃s∈Gram.lead es rest,(s∈R.map (·.1)/\gQ R s z)\/(¬s∈R.map (·.1)/\z=s)
theorem oR{R:List Row}{es rest:List Str}{f:Tab}(hk:f.map (·.1)=ao R)(hc:∀e∈f,∀z,z∈e.2↔gQ R e.1 z){z:Str}:z∈cb es f rest↔Wd R es rest z:=by
 rw[yN];unfold Wd;have key:∀s,z∈(f.lookup s).getD [s]↔(s∈R.map (·.1)/\gQ R s z)\/(¬s∈R.map (·.1)/\z=s):=fun s=>by
  by_cases q:s∈R.map (·.1)
  ·obtain⟨ys,e1,e2⟩:=cA (f:=f) (x:=s) (by rw[hk];exact aU.mpr q);rw[e1];show z∈ys↔_;rw[hc _ e2 z];exact⟨fun h=>.inl ⟨q,h⟩,fun h=>h.elim (·.2) fun w=>absurd q w.1⟩
  ·have e:f.lookup s=none:=by
    cases e:f.lookup s with
    |none=>rfl
    |some ys=>
     have:=lookup_mem e;exact absurd (aU.mp (by rw[←hk];exact aao.mpr ⟨_,this,rfl⟩)) q
   rw[e];show z∈[s]↔_;rw[aaj];exact⟨fun h=>.inr ⟨q,h⟩,fun h=>h.elim (fun w=>absurd w.1 q) (·.2)⟩
 exact⟨fun⟨s,h1,h2⟩=>⟨s,h1,(key s).mp h2⟩,fun⟨s,h1,h2⟩=>⟨s,h1,(key s).mpr h2⟩⟩
theorem Wd.sign{R:List Row}{es rest:List Str}{z:Str}(h:Wd R es rest z){r:List Str}{l:Str}(hm:(l,r)∈R)(hs:∀s∈rest,s∈r):∃p∈R,z∈p.2:=by
 obtain⟨s,h1,⟨_,es',_,hb⟩|⟨_,rfl⟩⟩:=h
 ·exact hb.sign.2
 ·exact⟨_,hm,hs _ (Gram.iM _ _ _ h1)⟩
theorem Wd.congr{R:List Row}{es es' rest:List Str}(h:∀x,x∈es↔x∈es'){z:Str}(w:Wd R es rest z):Wd R es' rest z:=by
 unfold Wd at *;rw[←Gram.ge h];exact w
inductive Beh(R:List Row)(es:List Str):Str->Str->Prop
 |fin:Beh R es (bW R) ""
 |word {l x z:Str} {rest:List Str}:Oc R x rest l->x∈R.map (·.1)->Wd R es rest z->Beh R es x z
 |up {l x z:Str} {rest:List Str}:Oc R x rest l->x∈R.map (·.1)->(∀s∈rest,s∈es)->Beh R es l z->Beh R es x z
def Behind(R:List Row)(x z:Str):Prop:=∃es,(∀y,y∈es↔Gram.Made R (fun _=>False) y)/\Beh R es x z
theorem mE{R:List Row}{es es':List Str}(h:∀x,x∈es↔x∈es'){x z:Str}(b:Beh R es x z):Beh R es' x z:=by
 induction b with
 |fin=>exact .fin
 |word h1 h2 h3=>exact .word h1 h2 (h3.congr h)
 |up h1 h2 h3 _ ih=>exact .up h1 h2 (fun s hs=>(h s).mp (h3 s hs)) ih
theorem kX{R:List Row}{es:List Str}(h:∀y,y∈es↔Gram.Made R (fun _=>False) y){x z:Str}:Behind R x z↔Beh R es x z:=
 ⟨fun⟨es',h',b⟩=>mE (fun y=>(h' y).trans (h y).symm) b,fun b=>⟨es,h,b⟩⟩
theorem xN{R:List Row}{es:List Str}{o k:Str->List Str}(hf:bW R∈R.map (·.1))(ho:∀x z,z∈o x↔x∈R.map (·.1)/\((x=bW R/\z="")\/∃rest l,Oc R x rest l/\Wd R es rest z))
  (hk:∀x y,y∈k x↔x∈R.map (·.1)/\∃rest,Oc R x rest y/\∀s∈rest,s∈es){x z:Str}:(∃y,Gram.Reach k x y/\z∈o y)↔Beh R es x z:=by
 constructor
 ·rintro⟨y,hr,hz⟩;have hb:Beh R es y z:=by
   obtain⟨hy,⟨rfl,rfl⟩|⟨rest,l,h1,h2⟩⟩:=(ho y z).mp hz
   ·exact .fin
   ·exact .word h1 hy h2
  clear hz
  induction hr with
  |refl=>exact hb
  |step _ hc ih=>
   obtain⟨hy,rest,h1,h2⟩:=(hk _ _).mp hc;exact ih (.up h1 hy h2 hb)
 ·intro h
  induction h with
  |fin=>exact⟨_,.refl,(ho _ _).mpr ⟨hf,.inl ⟨rfl,rfl⟩⟩⟩
  |word h1 h2 h3=>exact⟨_,.refl,(ho _ _).mpr ⟨h2,.inr ⟨_,_,h1,h3⟩⟩⟩
  |up h1 h2 h3 _ ih=>
   obtain⟨y,hr,hz⟩:=ih;exact⟨y,Gram.Reach.head ((hk _ _).mpr ⟨h2,_,h1,h3⟩) hr,hz⟩
theorem Beh.sign{R:List Row}{es:List Str}{x z:Str}(h:Beh R es x z):z=""\/∃p∈R,z∈p.2:=by
 induction h with
 |fin=>exact .inl rfl
 |word h1 _ h3=>
  obtain⟨r,hm,hs⟩:=h1.row;exact .inr (h3.sign hm hs)
 |up _ _ _ _ ih=>exact ih
theorem Canon.congr{P P':Str->Prop}{L:List Str}(h:Canon P L)(e:∀z,P z↔P' z):Canon P' L:=by
 obtain⟨D,h1,h2,h3⟩:=h;exact⟨D,h1,h2,fun z=>(h3 z).trans (e z)⟩
theorem Canon.mem{P:Str->Prop}{L:List Str}(h:Canon P L)(z:Str):z∈L↔P z:=by
 obtain⟨D,rfl,h2,h3⟩:=h;rw[SL.cu];exact h3 z
structure Tight(R:List Row):Prop where
 len:R.length<=7
 wid:∀p∈R,p.2.length<=14
 few:∃U:List Str,U.length<=11/\∀p∈R,∀x∈p.2,x∈U
theorem Tight.lK{R:List Row}(S:Tight R){D:List Str}(nd:D.Nodup)(h:∀z∈D,∃p∈R,z∈p.2):D.length<=11:=by
 obtain⟨U,hU,hm⟩:=S.few;exact Nat.le_trans (Gram.cw nd fun z hz=>by obtain⟨p,hp,hz'⟩:=h z hz;exact hm p hp z hz') hU
theorem mF(ka:KA)(v:Str->List Str):((tabOf ka v).map fun e=>e.2.length).sum=tot (ka.map (·.1)) v:=by
 unfold tabOf tot;rw[List.map_map,List.map_map];rfl
theorem ke(r:List Str)(k:Nat):de (r.map V.str) (some ((k:Nat):Int)) none=(r.drop k).map V.str:=by
 unfold de;rw[HT.iH,HT.gn,aaa];rcases Nat.lt_or_ge r.length k with z|z
 ·rw[Nat.min_eq_right (by omega),Nat.sub_self,List.take_zero,List.drop_eq_nil_of_le (by omega)];rfl
 ·rw[Nat.min_eq_left z,List.take_of_length_le (by rw[List.length_drop,aaa];omega),List.map_drop]
end Nw
namespace Nw
open PySem L2
open SL (ap srt)
structure WI(R:List Row)(es:List Str)(i j:Nat)(o k:Str->List Str):Prop where
 ow:∀x z,z∈o x↔x∈R.map (·.1)/\((x=bW R/\z="")\/∃rest l,gS R i j x rest l/\Wd R es rest z)
 lk:∀x y,y∈k x↔x∈R.map (·.1)/\∃rest,gS R i j x rest y/\∀s∈rest,s∈es
 so:tot (ao R) o<=1+11*(14*i+j)
 sk:tot (ao R) k<=14*i+j
theorem qi(ks:List Str):tot ks (fun _=>[])=0:=by
 unfold tot
 induction ks with
 |nil=>rfl
 |cons x r ih=>rw[aaw,List.sum_cons,ih];rfl
theorem WI.zero{R:List Row}{es:List Str}(hf:bW R∈R.map (·.1)):WI R es 0 0 (gC (fun _=>[]) (bW R) (([]:List Str)++[("":Str)])) (fun _=>[]):=by
 refine⟨fun x z=>?_,fun x y=>?_,?_,?_⟩
 ·constructor
  ·intro h
   by_cases q:x=bW R
   ·subst q;rw[fT] at h;exact⟨hf,.inl ⟨rfl,by simpa using h⟩⟩
   ·rw[im q] at h;cases h
  ·rintro⟨hx,⟨rfl,rfl⟩|⟨rest,l,h,_⟩⟩
   ·rw[fT];simp
   ·exact absurd h kU
 ·constructor
  ·intro h;cases h
  ·rintro⟨_,rest,h,_⟩;exact absurd h kU
 ·have:=jG (v:=fun _=>[]) (ys:=([]:List Str)++[("":Str)]) (e9 R) (aU.mpr hf);rw[qi] at this;simp only[List.length_nil,aag,aav] at this;omega
 ·rw[qi];omega
theorem WI.skip{R:List Row}{es:List Str}{i j:Nat}{o k:Str->List Str}{p:Row}{y:Str}(h:WI R es i j o k)(hp:R[i]? =some p)(hy:p.2[j]? =some y)(n:¬y∈R.map (·.1)):WI R es i (j+1) o k:=by
 refine⟨fun x z=>?_,fun x z=>?_,by have:=h.so;omega,by have:=h.sk;omega⟩
 ·rw[h.ow];constructor
  ·rintro⟨hx,h1|⟨rest,l,h1,h2⟩⟩
   ·exact⟨hx,.inl h1⟩
   ·exact⟨hx,.inr ⟨rest,l,(bH hp hy).mpr (.inl h1),h2⟩⟩
  ·rintro⟨hx,h1|⟨rest,l,h1,h2⟩⟩
   ·exact⟨hx,.inl h1⟩
   ·rcases(bH hp hy).mp h1 with h1|⟨e,_⟩
    ·exact⟨hx,.inr ⟨rest,l,h1,h2⟩⟩
    ·exact absurd (e▸hx) n
 ·rw[h.lk];constructor
  ·rintro⟨hx,rest,h1,h2⟩;exact⟨hx,rest,(bH hp hy).mpr (.inl h1),h2⟩
  ·rintro⟨hx,rest,h1,h2⟩;rcases(bH hp hy).mp h1 with h1|⟨e,_⟩
   ·exact⟨hx,rest,h1,h2⟩
   ·exact absurd (e▸hx) n
theorem WI.row{R:List Row}{es:List Str}{i:Nat}{o k:Str->List Str}{p:Row}(h:WI R es i p.2.length o k)(hp:R[i]? =some p)(hw:p.2.length<=14):WI R es (i+1) 0 o k:=by
 refine⟨fun x z=>?_,fun x z=>?_,by have:=h.so;omega,by have:=h.sk;omega⟩
 ·rw[h.ow];simp only[mC hp]
 ·rw[h.lk];simp only[mC hp]
theorem WI.step{R:List Row}{es:List Str}{i j:Nat}{o k k':Str->List Str}{p:Row}{y:Str}(h:WI R es i j o k)(hp:R[i]? =some p)(hy:p.2[j]? =some y)(hys:y∈R.map (·.1))
  {ws:List Str}(hw:∀z,z∈ws↔Wd R es (p.2.drop (j+1)) z)(hl:ws.length<=11)
  (hk:((∀s∈p.2.drop (j+1),s∈es)/\k'=gC k y (k y++[p.1]))\/((¬∀s∈p.2.drop (j+1),s∈es)/\k'=k)):WI R es i (j+1) (gC o y (o y++ws)) k':=by
 refine⟨fun x z=>?_,fun x z=>?_,?_,?_⟩
 ·by_cases q:x=y
  ·subst q;rw[fT,aak,h.ow,hw];constructor
   ·rintro(⟨hx,h1|⟨rest,l,h1,h2⟩⟩|h1)
    ·exact⟨hx,.inl h1⟩
    ·exact⟨hx,.inr ⟨rest,l,(bH hp hy).mpr (.inl h1),h2⟩⟩
    ·exact⟨hys,.inr ⟨_,_,(bH hp hy).mpr (.inr ⟨rfl,rfl,rfl⟩),h1⟩⟩
   ·rintro⟨hx,h1|⟨rest,l,h1,h2⟩⟩
    ·exact .inl ⟨hx,.inl h1⟩
    ·rcases(bH hp hy).mp h1 with h1|⟨_,e,_⟩
     ·exact .inl ⟨hx,.inr ⟨rest,l,h1,h2⟩⟩
     ·rw[e] at h2;exact .inr h2
  ·rw[im q,h.ow];constructor
   ·rintro⟨hx,h1|⟨rest,l,h1,h2⟩⟩
    ·exact⟨hx,.inl h1⟩
    ·exact⟨hx,.inr ⟨rest,l,(bH hp hy).mpr (.inl h1),h2⟩⟩
   ·rintro⟨hx,h1|⟨rest,l,h1,h2⟩⟩
    ·exact⟨hx,.inl h1⟩
    ·rcases(bH hp hy).mp h1 with h1|⟨e,_⟩
     ·exact⟨hx,.inr ⟨rest,l,h1,h2⟩⟩
     ·exact absurd e q
 ·rcases hk with ⟨ha,rfl⟩|⟨ha,rfl⟩
  ·by_cases q:x=y
   ·subst q;rw[fT,aak,h.lk,aaj];constructor
    ·rintro(⟨hx,rest,h1,h2⟩|rfl)
     ·exact⟨hx,rest,(bH hp hy).mpr (.inl h1),h2⟩
     ·exact⟨hys,_,(bH hp hy).mpr (.inr ⟨rfl,rfl,rfl⟩),ha⟩
    ·rintro⟨hx,rest,h1,h2⟩;rcases(bH hp hy).mp h1 with h1|⟨_,_,e⟩
     ·exact .inl ⟨hx,rest,h1,h2⟩
     ·exact .inr e
   ·rw[im q,h.lk];constructor
    ·rintro⟨hx,rest,h1,h2⟩;exact⟨hx,rest,(bH hp hy).mpr (.inl h1),h2⟩
    ·rintro⟨hx,rest,h1,h2⟩;rcases(bH hp hy).mp h1 with h1|⟨e,_⟩
     ·exact⟨hx,rest,h1,h2⟩
     ·exact absurd e q
  ·rw[h.lk];constructor
   ·rintro⟨hx,rest,h1,h2⟩;exact⟨hx,rest,(bH hp hy).mpr (.inl h1),h2⟩
   ·rintro⟨hx,rest,h1,h2⟩;rcases(bH hp hy).mp h1 with h1|⟨_,e,_⟩
    ·exact⟨hx,rest,h1,h2⟩
    ·rw[e] at h2;exact absurd h2 ha
 ·have:=jG (v:=o) (ys:=o y++ws) (e9 R) (aU.mpr hys);rw[aag] at this;have:=h.so;omega
 ·rcases hk with ⟨ha,rfl⟩|⟨ha,rfl⟩
  ·have:=jG (v:=k) (ys:=k y++[p.1]) (e9 R) (aU.mpr hys);rw[aag,aav] at this;have:=h.sk;omega
  ·have:=h.sk;omega
theorem qj{ks:List Str}{v:Str->List Str}{x:Str}(h:x∈ks):(v x).length<=tot ks v:=by
 unfold tot
 induction ks with
 |nil=>cases h
 |cons y r ih=>
  rw[aaw,List.sum_cons];rcases List.mem_cons.mp h with e|e
  ·rw[e];omega
  ·have:=ih e;omega
abbrev vG:Stmt:=top 22
theorem fK:aJ ["rows","empties","begins","own","links","left","right","place","sign","rest"] ["rows"] (aw vG):=⟨rfl,rfl,rfl,by decide +kernel,rfl,by decide +kernel,by decide +kernel⟩
def rm:Sp:=fun vs H Q _=>∃(a:Addr) (R:List Row),vs=[.ref a]/\bt H a R/\Good R/\Tight R/\∀d res H',ab H H'->H d=none->ev H' d res->res.map (·.1)=ao R->(∀e∈res,Canon (Behind R e.1) e.2)->Q (.ref d) H'
section
variable {P:Program}{w:World}{K:PySem.W.Frag}{mg:Str->Option Value}{base:Heap}
theorem yZ{f:Addr}{fd:FuncData}(F:Fun K "words_behind" "words_behind" vG f fd)(T:Txt mg)(hEn:mg "enumerate"=none){uE:Value}(hE:mg "END"=some uE)(rE:RelV (.str "") uE)
  (D1:Def P w K mg base "empty_sorts" 4 ["rows"] ii)(D2:Def P w K mg base "words_to_begin" 5 ["rows"] nc)(D3:Def P w K mg base "lists_by_sort" 2 ["rows"] jF)
  (D4:Def P w K mg base "first_sort" 1 ["rows"] ia)(D5:Def P w K mg base "words_to_begin_signs" 2 ["signs","empties","begins"] ni)(D6:Def P w K mg base "can_be_empty" 1 ["signs","empties"] ng)
  (D7:Def P w K mg base "gathered" 2 ["own","links"] kN):be P w K mg base CX0 6 f fd ["rows"] rm:=by
 refine F.ok fK (fun vs H Q E h=>?_) (fun cdv A outer s H vs Q E hr h=>?_)
 ·obtain⟨a,R,rfl,_⟩:=h;rfl
 ·obtain⟨a,R,rfl,hR,hg,ht,k⟩:=h;have hu:=cI hr;have hr4:bC 4 _:=hr.mono (by decide);have hr2:bC 2 _:=hr.mono (by decide);have hr1:bC 1 _:=hr.mono (by decide);refine⟨_,af (aq (i:=1) fK.nd rfl (Or.inl rfl) (aB D1 hr4 (by rfl) (ai (pv 0) ac)))
   (af (aq (i:=2) fK.nd rfl (Or.inl rfl) (aB D2 hr (by rfl) (ai (pv 0) ac)))
   (af (aq (i:=3) fK.nd rfl (Or.inl rfl) (aB D3 hr2 (by rfl) (ai (pv 0) ac)))
   (af (aq (i:=4) fK.nd rfl (Or.inl rfl) (aB D3 hr2 (by rfl) (ai (pv 0) ac)))
   (af (bv (bZ PySem.F.plainAttrs_list PySem.F.slot_list_append PySem.F.type_list_append bf (cq hu (pv 3) (aB D4 hr1 (by rfl) (ai (pv 0) ac)) (fun _ _=>rfl)) (ai (bQ (by rfl) hE rE) ac)))
   (af (bb PassesOwn.never rfl (aO (pv 0)) (cT (n:=2) rfl (aN (az (i:=5) fK.nd rfl (Or.inl rfl)) (aN (az (i:=6) fK.nd rfl (Or.inl rfl)) cp)))
    (ag (bb PassesOwn.never rfl (ir (by rfl) hEn (ai (pv 6) ac)) (cT (n:=2) rfl (aN (az (i:=7) fK.nd rfl (Or.inl rfl)) (aN (az (i:=8) fK.nd rfl (Or.inl rfl)) cp)))
     (ag (a7 (gt (ja hu (pv 8) (pv 3)))
      (af (aq (i:=9) fK.nd rfl (Or.inl rfl) (dD eR (pv 6) (dN (bN eY (pv 7) am)) eQ))
      (af (bv (bZ PySem.F.plainAttrs_list PySem.F.slot_list_extend PySem.F.type_list_extend dU (cq hu (pv 3) (pv 8) (fun _ _=>rfl)) (ai (aB D5 hr2 (by rfl) (ai (pv 9) (ai (pv 1) (ai (pv 2) ac)))) ac)))
      (ag (a7 (ba (aB D6 hr1 (by rfl) (ai (pv 9) (ai (pv 1) ac))))
       (ag (bv (bZ PySem.F.plainAttrs_list PySem.F.slot_list_append PySem.F.type_list_append bf (cq hu (pv 4) (pv 8) (fun _ _=>rfl)) (ai (pv 5) ac))))
       aT))))
      aT)))))
   (ag (aQ (aB D7 hr2 (by rfl) (ai (pv 3) (ai (pv 4) ac)))))))))),?_⟩
  have hR7:=ht.len;have hne:∃p R',R=p::R':=by
   cases R with
   |nil=>exact absurd rfl hg.small.ne
   |cons p R'=>exact⟨p,R',rfl⟩
  have hf:bW R∈R.map (·.1):=by
   obtain⟨p,R',rfl⟩:=hne;exact aac ..
  refine⟨_,rfl,a,R,rfl,hR,hg,fun qe ms H1 s1 n1 nd1 hm1 hS1=>?_⟩;generalize hes:srt ms=es at hS1;have hem:∀y,y∈es↔Gram.Made R (fun _=>False) y:=fun y=>by rw[←hes,SL.cu];exact hm1 y
  refine⟨_,rfl,a,R,rfl,hR.mono s1,hg,fun db fb Hb s2 nb hB hkB hcB=>?_⟩;have s12:=s1.trans s2;have hcB':∀e∈fb,∀z,z∈e.2↔gQ R e.1 z:=fun e he z=>(hcB e he).mem z
  have wd:∀{rest:List Str} {z:Str},z∈cb es fb rest↔Wd R es rest z:=fun{rest z}=>oR hkB hcB'
  have fb40:∀e∈fb,e.2.length<=40:=fun e he=>by
   obtain⟨D,h1,h2,h3⟩:=hcB e he;rw[h1,SL.d7];exact Nat.le_trans (ht.lK h2 fun z hz=>by
    obtain⟨_,_,hb⟩:=(h3 z).mp hz;exact hb.sign.2) (by decide)
  have hEb:aA Hb qe es:=s2 _ _ hS1;have hRb:=hR.mono s12;obtain⟨vs,hv,hp⟩:=id hRb;have hlen:vs.length=R.length:=Paired.length hp;refine⟨_,rfl,a,R,rfl,hRb,hg.small,fun d1 ka1 H2 s3 g1 hk1 tv1=>?_⟩;refine⟨_,rfl,a,R,rfl,hRb.mono s3,hg.small,fun d2 ka2 H3 s4 g2 hk2 tv2=>?_⟩;have s34:=s3.trans s4;have tv1':=tv1.keep s4;have hkm1:∀x,x∈ka1.map (·.1)↔x∈R.map (·.1):=fun x=>by rw[hk1,aU]
  have hkm2:∀x,x∈ka2.map (·.1)↔x∈R.map (·.1):=fun x=>by rw[hk2,aU]
  have ap2:∀e∈ka2,e.2≠d1/\¬e.2∈ka1.map (·.2):=fun e he=>by
   have:=g2.fr e he;exact⟨fun z=>(by rw[z,tv1.dk] at this;cases this),ic tv1 this⟩
  have ap1:∀e∈ka1,e.2≠d2/\¬e.2∈ka2.map (·.2):=fun e he=>by
   refine⟨fun z=>?_,fun z=>?_⟩
   ·have:=g2.frd;rw[←z,tv1.at_ e he] at this;cases this
   ·obtain⟨e',he',q⟩:=aao.mp z;have:=g2.fr e' he';rw[q,tv1.at_ e he] at this;cases this
  have hd12:d1≠d2:=fun z=>by
   have:=g2.frd;rw[←z,tv1.dk] at this;cases this
  have gH1:∀e∈ka1,Hb e.2=none:=g1.fr;have gH2:∀e∈ka2,Hb e.2=none:=fun e he=>s3.free (g2.fr e he)
  have ae:∀(L:List Str) (y:Str),L.map V.str++[V.str y]=(L++[y]).map V.str:=fun L y=>by rw[aam];rfl
  obtain⟨al,hal,hgl,hll⟩:=tv1'.get g1 ((hkm1 (bW R)).mpr hf);have hfst:∃p R',R=p::R'/\bW R=p.1:=by
   obtain⟨p,R',rfl⟩:=hne;exact⟨p,R',rfl,rfl⟩
  obtain⟨p0,R',e0,ef⟩:=hfst;refine⟨_,rfl,_,rfl,a,p0,R',rfl,by rw[←e0];exact hRb.mono s34,?_⟩;rw[←ef];refine⟨d1,_,rfl,hgl,.inl ⟨rfl,_,SqL.of hll⟩,al,_,_,rfl,rfl,hll,by exact aD (by decide),?_⟩;have tv1a:bG (upd H3 al (.lst ((([]:List Str)++[("":Str)]).map V.str))) d1 ka1 (gC (fun _=>[]) (bW R) (([]:List Str)++[("":Str)])):=tv1'.app g1 hal [""];have tv2a:bG (upd H3 al (.lst ((([]:List Str)++[("":Str)]).map V.str))) d2 ka2 (fun _=>[]):=tv2.kO (ap1 _ hal).1 (ap1 _ hal).2;have s5:ab Hb (upd H3 al (.lst ((([]:List Str)++[("":Str)]).map V.str))):=s34.bK (gH1 _ hal);have hwb0:=WI.zero (es:=es) hf;refine⟨_,rfl,a,rfl,⟨_,s5.seq (SqL.of hv)⟩,bc (K:=K) (a:=a) (xs:=vs)
   (fun i σ H4=>∃o k,(∃o1 o2 o3 o4 o5,σ=[some (.ref a),some (.ref qe),some (.ref db),some (.ref d1),some (.ref d2),o1,o2,o3,o4,o5])/\ab Hb H4/\bG H4 d1 ka1 o/\bG H4 d2 ka2 k/\WI R es i 0 o k)
   ⟨_,_,⟨_,_,_,_,_,rfl⟩,s5,tv1a,tv2a,hwb0⟩ ?_ ?_ ?_⟩
  ·rintro i σ H4 _ ⟨_,_,_,s6,_⟩;exact s6.seq (SqL.of hv)
  ·rintro i x σ H4 hx ⟨o,kk,⟨o1,o2,o3,o4,o5,rfl⟩,s6,t1,t2,wi⟩;obtain⟨p,t,c,hpi,rfl,htp,hc⟩:=cS hp hx;have hpm:(p.1,p.2)∈R:=aah hpi;have hpw:=ht.wid p hpm;have hil:i<R.length:=(aab.mp hpi).1;have hpl:p.1∈R.map (·.1):=aao.mpr ⟨_,hpm,rfl⟩;have hc:Hb c=some (.lst (p.2.map V.str)):=hc;refine⟨t,_,rfl,SqT.of (s6 _ _ htp),rfl,_,_,rfl,_,_,rfl,rfl,?_⟩;refine⟨_,rfl,c,rfl,⟨_,SqL.of (s6 _ _ hc)⟩,gD (K:=K) (a:=c) (xs:=p.2.map V.str)
    (fun j σ H5=>∃o k,(∃o3 o4 o5,σ=[some (.ref a),some (.ref qe),some (.ref db),some (.ref d1),some (.ref d2),some (.str p.1),some (.ref c),o3,o4,o5])/\ab Hb H5/\bG H5 d1 ka1 o/\bG H5 d2 ka2 k/\WI R es i j o k)
    ⟨_,_,⟨_,_,_,rfl⟩,s6,t1,t2,wi⟩ ?_ ?_ ?_⟩
   ·rintro j σ H5 _ ⟨_,_,_,s7,_⟩;exact SqL.of (s7 _ _ hc)
   ·rintro j x tt σ H5 hx ⟨o,kk,⟨o3,o4,o5,rfl⟩,s7,u1,u2,wi⟩ htt;obtain⟨y,hy,rfl⟩:=bS hx;have hjl:j<p.2.length:=(aab.mp hy).1;have stt:=ab.upd (o:=HO.tup [V.int j,V.str y]) htt;generalize hH6:upd H5 tt (.tup [V.int j,V.str y])=H6 at stt;have htt6:H6 tt=some (.tup [V.int j,V.str y]):=by rw[←hH6,aa]
    replace u1:=u1.keep stt;replace u2:=u2.keep stt;replace s7:=s7.trans stt;refine⟨tt,_,rfl,SqT.of htt6,rfl,_,_,rfl,_,_,rfl,rfl,?_⟩;obtain⟨o',g',ho'⟩:=u1.has g1 y;refine⟨_,rfl,_,rfl,d1,o',rfl,g',_,rfl,?_⟩;rw[ho']
    by_cases hys:y∈R.map (·.1)
    ·rw[aan ((hkm1 y).mpr hys)];refine bF ?_;refine⟨_,rfl,_,rfl,_,_,rfl,rfl,_,rfl,c,_,rfl,SqL.of (s7 _ _ hc),fun q hq=>?_⟩;have ecut:de (p.2.map V.str) (some ((j:Int)+1)) none=(p.2.drop (j+1)).map V.str:=ke p.2 (j+1);rw[ecut];have hqa:∀e∈ka1,q≠e.2:=fun e he z=>by
      have:=u1.at_ e he;rw[←z,hq] at this;cases this
     have sq:=ab.upd (o:=HO.lst ((p.2.drop (j+1)).map V.str)) hq;generalize hH7:upd H6 q (.lst ((p.2.drop (j+1)).map V.str))=H7 at sq;have hq7:aA H7 q (p.2.drop (j+1)):=by unfold aA;rw[←hH7,aa]
     replace u1:=u1.keep sq;replace u2:=u2.keep sq;have s8:=s7.trans sq;obtain⟨al,hal,hgl,hll⟩:=u1.get g1 ((hkm1 y).mpr hys);have hrl:(p.2.drop (j+1)).length<=14:=by rw[List.length_drop];omega
     obtain⟨U,hU,hUm⟩:=ht.few;have hrs:∀s∈p.2.drop (j+1),s∈p.2:=fun s hs=>List.mem_of_mem_drop hs
     refine⟨_,rfl,_,rfl,d1,_,rfl,hgl,.inl ⟨rfl,_,SqL.of hll⟩,_,rfl,_,rfl,_,rfl,q,qe,db,p.2.drop (j+1),es,fb,rfl,hq7,s8 _ _ hEb,(hB.mono s8).l,by omega,fb40,⟨U,by omega,fun z hz=>?_⟩,fun qw H8 s9 n9 hw9=>?_⟩
     ·obtain⟨p',hp',hz'⟩:=(wd.mp hz).sign hpm hrs;exact hUm p' hp' z hz'
     generalize hws:srt (ap (cb es fb (p.2.drop (j+1))))=ws at hw9;have hwm:∀z,z∈ws↔Wd R es (p.2.drop (j+1)) z:=fun z=>by rw[←hws,SL.cu,SL.bO];exact wd
     have hwl:ws.length<=11:=by
      rw[←hws,SL.d7];exact ht.lK (SL.ck _) fun z hz=>(wd.mp (SL.bO.mp hz)).sign hpm hrs
     have hw9:H8 qw=some (.lst (ws.map V.str)):=hw9;have s10:=s8.trans s9;replace u1:=u1.keep s9;replace u2:=u2.keep s9;have hll8:=s9 _ _ hll;have so:=wi.so;have oy:=qj (v:=o) (aU.mpr hys);have kyl:=qj (v:=kk) (aU.mpr hys);have sk:=wi.sk;refine⟨al,qw,_,_,rfl,rfl,hll8,hw9,by rw[aaa,aaa];exact cy (by omega),?_⟩;rw[←aam];have u1b:bG (upd H8 al (.lst ((o y++ws).map V.str))) d1 ka1 (gC o y (o y++ws)):=u1.app g1 hal ws;have u2b:bG (upd H8 al (.lst ((o y++ws).map V.str))) d2 ka2 kk:=u2.kO (ap1 _ hal).1 (ap1 _ hal).2;have s11:ab Hb (upd H8 al (.lst ((o y++ws).map V.str))):=s10.bK (gH1 _ hal);have hq9:aA (upd H8 al (.lst ((o y++ws).map V.str))) q (p.2.drop (j+1)):=by
      unfold aA;rw[aj (hqa _ hal)];exact s9 _ _ hq7
     generalize hH9:upd H8 al (.lst ((o y++ws).map V.str))=H9 at u1b u2b s11 hq9;refine⟨_,rfl,_,rfl,q,qe,p.2.drop (j+1),es,rfl,hq9,s11 _ _ hEb,by omega,fun H10 s12'=>⟨_,rfl,?_⟩⟩;replace u1b:=u1b.keep s12';replace u2b:=u2b.keep s12';have s13:=s11.trans s12'
     by_cases hall:∀s∈p.2.drop (j+1),s∈es
     ·have e:((p.2.drop (j+1)).all fun s=>decide (s∈es))=true:=List.all_eq_true.mpr fun s hs=>aan (hall s hs)
      rw[e];refine bF ?_;obtain⟨bl,hbl,hgb,hlb⟩:=u2b.get g2 ((hkm2 y).mpr hys);refine⟨_,rfl,_,rfl,d2,_,rfl,hgb,.inl ⟨rfl,_,SqL.of hlb⟩,_,rfl,bl,_,_,rfl,rfl,hlb,by rw[aaa];exact aD (by omega),?_⟩;rw[ae];exact⟨_,_,⟨_,_,_,rfl⟩,s13.bK (gH2 _ hbl),u1b.kO (ap2 _ hbl).1 (ap2 _ hbl).2,u2b.app g2 hbl [p.1],wi.step hpi hy hys hwm hwl (.inl ⟨hall,rfl⟩)⟩
     ·have e:((p.2.drop (j+1)).all fun s=>decide (s∈es))=false:=by
       cases q:((p.2.drop (j+1)).all fun s=>decide (s∈es)) with
       |false=>rfl
       |true=>exact absurd (fun s hs=>of_decide_eq_true (List.all_eq_true.mp q s hs)) hall
      rw[e];exact aK ⟨_,_,⟨_,_,_,rfl⟩,s13,u1b,u2b,wi.step hpi hy hys hwm hwl (.inr ⟨hall,rfl⟩)⟩
    ·rw[aai fun z=>hys ((hkm1 y).mp z)];exact aK ⟨_,_,⟨_,_,_,rfl⟩,s7,u1,u2,wi.skip hpi hy hys⟩
   ·rintro σ H5 ⟨o,kk,⟨o3,o4,o5,rfl⟩,s7,u1,u2,wi⟩;rw[aaa] at wi;exact⟨_,_,⟨_,_,_,_,_,rfl⟩,s7,u1,u2,wi.row hpi hpw⟩
  ·rintro σ H4 ⟨o,kk,⟨o1,o2,o3,o4,o5,rfl⟩,s6,t1,t2,wi⟩;rw[hlen] at wi;have ho:∀x z,z∈o x↔x∈R.map (·.1)/\((x=bW R/\z="")\/∃rest l,Oc R x rest l/\Wd R es rest z):=fun x z=>by
    rw[wi.ow];simp only[mD]
   have hkk:∀x y,y∈kk x↔x∈R.map (·.1)/\∃rest,Oc R x rest y/\∀s∈rest,s∈es:=fun x y=>by
    rw[wi.lk];simp only[mD]
   have gO:∀x,getL (tabOf ka1 o) x=o x:=fun x=>by
    rw[eh]
    by_cases q:x∈ka1.map (·.1)
    ·rw[if_pos q]
    ·rw[if_neg q]
     symm
     apply List.eq_nil_iff_forall_not_mem.mpr;intro y hy;exact q ((hkm1 x).mpr ((ho x y).mp hy).1)
   have gL:∀x,getL (tabOf ka2 kk) x=kk x:=fun x=>by
    rw[eh]
    by_cases q:x∈ka2.map (·.1)
    ·rw[if_pos q]
    ·rw[if_neg q]
     symm
     apply List.eq_nil_iff_forall_not_mem.mpr;intro y hy;exact q ((hkm2 x).mpr ((hkk x y).mp hy).1)
   have hkl:∀{ka:KA},ka.map (·.1)=ao R->ka.length<=14:=fun{ka} h=>by
    have:=congrArg List.length h;rw[aaa] at this;have:=fH R;omega
   have dR:∀{d:Addr} {ka:KA} {v:Str->List Str},bG H4 d ka v->ev H4 d (tabOf ka v):=fun{d ka v} tv=>by
    obtain⟨kv,h1,h2⟩:=tv.m9;refine⟨kvsOf ka,tv.dk,?_⟩;rcases h1 with h1|⟨_,h1⟩
    ·rw[tv.dk] at h1;cases h1
     exact h2
    ·rw[tv.dk] at h1;cases h1
   obtain⟨U,hU,hUm⟩:=ht.few;refine⟨_,rfl,_,rfl,d1,d2,tabOf ka1 o,tabOf ka2 kk,rfl,hd12,dR t1,dR t2,⟨?_,?_,?_,?_⟩,?_,?_,⟨"" :: U,by rw[aau];omega,?_⟩,?_⟩
   ·rw[bz];exact g2.ndk
   ·intro e he y hy;rw[bz,hkm2];unfold tabOf at he;obtain⟨z,hz,rfl⟩:=aao.mp he;obtain⟨_,rest,h1,_⟩:=(hkk _ _).mp hy;obtain⟨r,hm,_⟩:=h1.row;exact aao.mpr ⟨_,hm,rfl⟩
   ·have:=congrArg List.length (bz ka2 kk);rw[aaa,aaa] at this;have:=hkl hk2;omega
   ·rw[mF,hk2];have:=wi.sk;omega
   ·rw[bz,bz,hk1,hk2]
   ·rw[mF,hk1];have:=wi.so;omega
   ·intro e he z hz;unfold tabOf at he;obtain⟨y,hy,rfl⟩:=aao.mp he;obtain⟨_,⟨_,rfl⟩|⟨rest,l,h1,h2⟩⟩:=(ho _ _).mp hz
    ·exact aac ..
    ·obtain⟨r,hm,hs⟩:=h1.row;obtain⟨p',hp',hz'⟩:=h2.sign hm hs;exact aad _ (hUm p' hp' z hz')
   ·intro d res H5 x5 n5 hD hkr hcan;refine k d res H5 (fun b o e=>x5 b o (s6 _ _ (s12 _ _ e)) (aP e (s12.free g1.frd))) (s12.free (s6.free n5)) hD (by rw[hkr,bz,hk1]) fun e he=>(hcan e he).congr fun z=>?_
    rw[kX hem,←xN hf ho hkk];constructor
    ·rintro⟨y,q1,q2⟩;refine⟨y,q1.congr fun x y hy=>?_,?_⟩
     ·rw[gL] at hy;exact hy
     ·rw[gO] at q2;exact q2
    ·rintro⟨y,q1,q2⟩;refine⟨y,q1.congr fun x y hy=>?_,?_⟩
     ·rw[gL];exact hy
     ·rw[gO];exact q2
end
end Nw
namespace Nw
open PySem L2
open SL (ap srt)
section
variable {P:Program}{w:World}{K:PySem.W.Frag}{mg:Str->Option Value}{base:Heap}
end
end Nw
namespace SL
open PySem PySem.W PyProof.Rows
def okT(n:Nat)(lt:Nat->Nat->Bool){α:Type}:KasT α->(α->Prop)->Prop
 |.ret a,P=>P a
 |.ask i j k,P=>i<n/\j<n/\okT n lt (k (lt i j)) P
section
variable {n:Nat}{lt:Nat->Nat->Bool}{α β:Type}
theorem cK{P P':α->Prop}(h:∀a,P a->P' a):∀(t:KasT α),okT n lt t P->okT n lt t P'
 |.ret a,x=>h a x
 |.ask _ _ k,⟨a,b,x⟩=>⟨a,b,cK h (k _) x⟩
theorem fw{f:α->KasT β}{P:β->Prop}:∀(t:KasT α),okT n lt t (fun a=>okT n lt (f a) P)->okT n lt (t.bind f) P
 |.ret _,x=>x
 |.ask _ _ k,⟨a,b,x⟩=>⟨a,b,fw (k _) x⟩
theorem kY{cmp:Nat->Nat->(Bool->Shared->Prop)->Shared->Prop}{s:Shared}(hc:∀i j (C:Bool->Shared->Prop),i<n->j<n->C (lt i j) s->cmp i j C s){Q:α->Shared->Prop} :
  ∀(t:KasT α),okT n lt t (fun a=>Q a s)->t.kasWp cmp Q s
 |.ret _,x=>x
 |.ask i j k,⟨a,b,x⟩=>hc i j _ a b (kY hc (k _) x)
theorem kZ{T U:KasT α}{P:α->Prop}(h:okT n lt T P):okT n lt (if true=true then T else U) P:=by rw[if_pos rfl];exact h
theorem k5{T U:KasT α}{P:α->Prop}(h:okT n lt U P):okT n lt (if false=true then T else U) P:=by rw[if_neg (by decide)];exact h
end
structure Ord(lt:Nat->Nat->Bool):Prop where
 tr:∀a b c,lt b a=false->lt c b=false->lt c a=false
 as:∀a b,lt a b=true->lt b a=false
theorem Ord.rf{lt:Nat->Nat->Bool}(O:Ord lt)(a:Nat):lt a a=false:=by
 cases e:lt a a with
 |false=>rfl
 |true=>rw[O.as a a e] at e;cases e
abbrev at0(p:Array Nat)(i:Nat):Nat:=p.getD i 0
theorem fV(p:Array Nat)(i:Nat):at0 p i=(p[i]?).getD 0:=Array.getD_eq_getD_getElem? ..
def Bas(n:Nat)(p:Array Nat):Prop:=p.Perm (List.range n).toArray
theorem Bas.size{n:Nat}{p:Array Nat}(h:Bas n p):p.size=n:=by
 have:=h.size_eq;simpa using this
theorem Bas.lt{n:Nat}{p:Array Nat}(h:Bas n p)(hn:0<n)(i:Nat):at0 p i<n:=by
 rw[fV];cases e:p[i]? with
 |none=>exact hn
 |some v=>
  have hm:v∈p.toList:=by
   rw[←Array.getElem?_toList] at e;exact aah e
  have:=(Array.perm_iff_toList_perm.mp h).mem_iff.mp hm;exact List.mem_range.mp (by simpa using this)
theorem Bas.rev{n:Nat}{p:Array Nat}(h:Bas n p)(i j:Nat):Bas n (kas_rev p i j):=(mirror_perm ..).trans h
theorem Bas.bub{n:Nat}{p:Array Nat}(h:Bas n p)(i j:Nat):Bas n (bubble p i j):=(bubble_perm ..).trans h
theorem gq{p:Array Nat}{i j:Nat}(hj:j<=p.size)(k:Nat):at0 (kas_rev p i j) k=if i<=k/\k<j then at0 p (i+j - 1 - k) else at0 p k:=by
 rw[fV];unfold kas_rev;rw[getElem?_mirror_all hj];split <;> rw[fV]
theorem xO{p:Array Nat}{k l:Nat}(hk:k<p.size)(hl:l<=k)(i:Nat):at0 (bubble p k (k - l)) i=if i=l then at0 p k else if l<i/\i<=k then at0 p (i - 1) else at0 p i:=by
 rw[fV,getElem?_bubble hk _ (by omega),show k - (k - l)=l by omega]
 by_cases h1:i=l
 ·rw[if_pos h1,if_pos h1];exact(fV p k).symm
 ·rw[if_neg h1,if_neg h1]
  by_cases h2:l<i/\i<=k
  ·rw[if_pos h2,if_pos h2];exact(fV p _).symm
  ·rw[if_neg h2,if_neg h2];exact(fV p _).symm
section
variable {n:Nat}{lt:Nat->Nat->Bool}
def Asc(lt:Nat->Nat->Bool)(p:Array Nat)(m:Nat):Prop:=∀i j,i<=j->j<m->lt (at0 p j) (at0 p i)=false
def Dsc(lt:Nat->Nat->Bool)(p:Array Nat)(m:Nat):Prop:=∀i j,i<=j->j<m->lt (at0 p i) (at0 p j)=false
theorem Asc.one(O:Ord lt)(p:Array Nat):Asc lt p 1:=fun i j h1 h2=>by
 have e1:j=0:=by omega
 have e2:i=0:=by omega
 rw[e1,e2];exact O.rf _
theorem Asc.succ(O:Ord lt){p:Array Nat}{m:Nat}(h:Asc lt p m)(hm:1<=m)(e:lt (at0 p m) (at0 p (m - 1))=false):Asc lt p (m+1):=fun i j h1 h2=>by
 by_cases hj:j=m
 ·subst hj
  by_cases hi:i=j
  ·rw[hi];exact O.rf _
  ·exact O.tr _ _ _ (h i (j - 1) (by omega) (by omega)) e
 ·exact h i j h1 (by omega)
theorem Dsc.succ(O:Ord lt){p:Array Nat}{m:Nat}(h:Dsc lt p m)(hm:1<=m)(e:lt (at0 p (m - 1)) (at0 p m)=false):Dsc lt p (m+1):=fun i j h1 h2=>by
 by_cases hj:j=m
 ·subst hj
  by_cases hi:i=j
  ·rw[hi];exact O.rf _
  ·exact O.tr _ _ _ e (h i (j - 1) (by omega) (by omega))
 ·exact h i j h1 (by omega)
theorem oS(O:Ord lt)(hn:0<n){p:Array Nat}(hB:Bas n p):∀(f m:Nat),1<=m->Asc lt p m->
  okT n lt (kas_asc p f m) (fun r=>m<=r/\r<=m+f/\Asc lt p r/\(r=m+f\/lt (at0 p r) (at0 p (r - 1))=true))
 |0,m,_,h=>⟨Nat.le_refl _,Nat.le_refl _,h,.inl rfl⟩
 |f+1,m,hm,h=>by
  refine⟨hB.lt hn m,hB.lt hn (m - 1),?_⟩;cases e:lt (p.getD m 0) (p.getD (m - 1) 0) with
  |true=>exact kZ (show _/\_ from ⟨Nat.le_refl _,by omega,h,.inr e⟩)
  |false=>
   refine k5 (cK (fun r hr=>?_) _ (oS O hn hB f (m+1) (by omega) (h.succ O hm e)));obtain⟨a,b,c,d⟩:=hr;refine⟨by omega,by omega,c,?_⟩;rcases d with d|d
   ·exact .inl (by omega)
   ·exact .inr d
def Alike(lt:Nat->Nat->Bool)(p:Array Nat)(m q:Nat):Prop:=q+1<=m/\∀i j,m - (q+1)<=i->i<m->m - (q+1)<=j->j<m->lt (at0 p i) (at0 p j)=false
theorem Dsc.flip(O:Ord lt){p:Array Nat}{m q:Nat}(h:Dsc lt p m)(hz:m<=p.size)(ha:Alike lt p m q):Dsc lt (kas_rev p (m - (q+1)) m) m:=fun i j h1 h2=>by
 obtain⟨hq,al⟩:=ha;have one:∀k,k<m->∃k',at0 (kas_rev p (m - (q+1)) m) k=at0 p k'/\k'<m/\(k=k'\/(m - (q+1)<=k/\m - (q+1)<=k')):=fun k hk=>by
  rw[gq hz];split
  ·exact⟨_,rfl,by omega,.inr ⟨by omega,by omega⟩⟩
  ·exact⟨_,rfl,hk,.inl rfl⟩
 obtain⟨i',e1,l1,c1⟩:=one i (by omega);obtain⟨j',e2,l2,c2⟩:=one j h2;rw[e1,e2]
 by_cases hle:i'<=j'
 ·exact h i' j' hle l2
 ·exact al i' j' (by omega) l1 (by omega) l2
theorem tV{p:Array Nat}{i j:Nat}(hj:j<=p.size){k:Nat}(hk:j<=k):at0 (kas_rev p i j) k=at0 p k:=by
 rw[gq hj,if_neg (by omega)]
theorem jH(O:Ord lt)(hn:0<n):∀(f:Nat) (p:Array Nat) (m q:Nat),Bas n p->1<=m->m+f=n->Dsc lt p m->Alike lt p m q->
  okT n lt (kas_desc f p m q) (fun r=>Bas n r.1/\1<=r.2.1/\r.2.1<=n/\Dsc lt r.1 r.2.1/\Alike lt r.1 r.2.1 r.2.2)
 |0,p,m,q,hB,hm,hf,h,ha=>⟨hB,hm,(by show m<=n;omega),h,ha⟩
 |f+1,p,m,q,hB,hm,hf,h,ha=>by
  have hz:m<=p.size:=by rw[hB.size];omega
  refine⟨hB.lt hn m,hB.lt hn (m - 1),?_⟩;cases e:lt (p.getD m 0) (p.getD (m - 1) 0) with
  |true=>
   refine kZ ?_;have al0:∀p':Array Nat,Alike lt p' (m+1) 0:=fun p'=>⟨by omega,fun i j a1 a2 a3 a4=>by
    have e1:i=m:=by omega
    have e2:j=m:=by omega
    rw[e1,e2];exact O.rf _⟩
   have e':lt (at0 p (m - 1)) (at0 p m)=false:=O.as _ _ e
   by_cases hq:q > 0
   ·rw[if_pos hq];refine jH O hn f _ (m+1) 0 (hB.rev _ _) (by omega) (by omega) ((h.flip O hz ha).succ O hm ?_) (al0 _);rw[tV hz (Nat.le_refl m),gq hz];split
    ·refine O.tr _ _ _ e' (ha.2 _ _ (by omega) (by omega) (by have:=ha.1;omega) (by omega))
    ·exact e'
   ·rw[if_neg hq];exact jH O hn f _ (m+1) 0 hB (by omega) (by omega) (h.succ O hm e') (al0 _)
  |false=>
   refine k5 ?_;refine⟨hB.lt hn (m - 1),hB.lt hn m,?_⟩;cases e2:lt (p.getD (m - 1) 0) (p.getD m 0) with
   |true=>exact kZ (show _/\_ from ⟨hB,hm,(by show m<=n;omega),h,ha⟩)
   |false=>
    refine k5 ?_;refine jH O hn f p (m+1) (q+1) hB (by omega) (by omega) (h.succ O hm e2) ⟨by have:=ha.1;omega,fun i j a1 a2 a3 a4=>?_⟩;have al:=ha.2;have low:∀k,m+1 - (q+1+1)<=k->k<m+1->(lt (at0 p k) (at0 p (m - 1))=false/\lt (at0 p (m - 1)) (at0 p k)=false):=fun k k1 k2=>by
     by_cases hk:k=m
     ·rw[hk];exact⟨e,e2⟩
     ·exact⟨al k (m - 1) (by omega) (by omega) (by omega) (by omega),al (m - 1) k (by omega) (by omega) (by omega) (by omega)⟩
    exact O.tr _ _ _ (low j a3 a4).2 (low i a1 a2).1
theorem Dsc.rev{p:Array Nat}{m:Nat}(h:Dsc lt p m)(hz:m<=p.size):Asc lt (kas_rev p 0 m) m:=fun i j h1 h2=>by
 rw[gq hz,gq hz,if_pos (by omega),if_pos (by omega)];exact h _ _ (by omega) (by omega)
def ro(n:Nat)(lt:Nat->Nat->Bool)(r:Nat×Array Nat):Prop:=1<=r.1/\r.1<=n/\Bas n r.2/\Asc lt r.2 r.1
theorem oT(O:Ord lt)(hn:0<n){p:Array Nat}{m:Nat}(hB:Bas n p)(hm:1<=m)(hmn:m<=n)(h:Dsc lt p m):okT n lt (kas_tail3 m n p) (ro n lt):=by
 refine fw _ (cK (fun r hr=>?_) _ (oS O hn (hB.rev 0 m) (n - m) m hm (h.rev (by rw[hB.size];exact hmn))));obtain⟨a,b,c,_⟩:=hr;exact⟨by omega,by omega,hB.rev 0 m,c⟩
theorem jU(O:Ord lt)(hn:0<n){p:Array Nat}{m:Nat}(hB:Bas n p)(hm:1<=m)(hmn:m+1<=n)(h:Dsc lt p (m+1)):okT n lt (kas_descPart m n p) (ro n lt):=by
 refine fw _ (cK (fun r hr=>?_) _ (jH O hn (n - (m+1)) p (m+1) 0 hB (by omega) (by omega) h ⟨by omega,fun i j a1 a2 a3 a4=>?_⟩))
 ·obtain⟨a,b,c,d,e⟩:=hr;split
  ·exact oT O hn (a.rev _ _) b c (d.flip O (by rw[a.size];exact c) e)
  ·exact oT O hn a b c d
 ·have e1:i=m:=by omega
  have e2:j=m:=by omega
  rw[e1,e2];exact O.rf _
theorem vH(O:Ord lt)(hn:0<n){p:Array Nat}(hB:Bas n p):okT n lt (kas_count n p) (ro n lt):=by
 refine fw _ (cK (fun r hr=>?_) _ (oS O hn hB (n - 1) 1 (Nat.le_refl _) (Asc.one O p)));obtain⟨a,b,c,d⟩:=hr
 by_cases e1:(r == n)=true
 ·rw[if_pos e1];exact⟨a,by omega,hB,c⟩
 ·rw[if_neg e1];have hne:r≠n:=fun q=>e1 (by rw[q];exact beq_self_eq_true _)
  have dn:lt (at0 p r) (at0 p (r - 1))=true:=by
   rcases d with d|d
   ·exact absurd (by omega) hne
   ·exact d
  have hz:r<=p.size:=by rw[hB.size];omega
  by_cases e2:r > 1
  ·rw[if_pos e2];refine⟨hB.lt hn 0,hB.lt hn (r - 1),?_⟩;cases e:lt (p.getD 0 0) (p.getD (r - 1) 0) with
   |true=>exact kZ (show _/\_ from ⟨a,by omega,hB,c⟩)
   |false=>
    refine k5 ?_;have al:∀i j,i<r->j<r->lt (at0 p i) (at0 p j)=false:=fun i j h1 h2=>by
     have x1:=c i (r - 1) (by omega) (by omega);have x2:=c 0 j (by omega) h2;have x3:=c 0 i (by omega) h1;have x4:=c j (r - 1) (by omega) (by omega)
     by_cases hle:j<=i
     ·exact c j i hle h1
     ·
      have y1:lt (at0 p i) (at0 p (r - 1))=false:=O.tr _ _ _ e (c 0 i (by omega) h1) |> fun z=>z
      exact O.tr _ _ _ x4 y1
    refine jU O hn (hB.rev 0 r) a (by omega) fun i j h1 h2=>?_
    have one:∀k,k<r+1->∃k',at0 (kas_rev p 0 r) k=at0 p k'/\((k=r/\k'=r)\/(k<r/\k'<r)):=fun k hk=>by
     rw[gq hz];split
     ·exact⟨_,rfl,.inr ⟨by omega,by omega⟩⟩
     ·exact⟨_,rfl,.inl ⟨by omega,by omega⟩⟩
    obtain⟨i',z1,c1⟩:=one i (by omega);obtain⟨j',z2,c2⟩:=one j h2;rw[z1,z2];rcases c1 with ⟨c1,c1'⟩|⟨c1,c1'⟩
    ·rcases c2 with ⟨c2,c2'⟩|⟨c2,c2'⟩
     ·rw[c1',c2'];exact O.rf _
     ·omega
    ·rcases c2 with ⟨c2,c2'⟩|⟨c2,c2'⟩
     ·rw[c2'];exact O.tr _ _ _ (O.as _ _ dn) (al i' (r - 1) c1' (by omega))
     ·exact al i' j' c1' c2'
  ·rw[if_neg e2];have e3:r=1:=by omega
   subst e3;refine jU O hn hB a (by omega) fun i j h1 h2=>?_
   by_cases hij:i=j
   ·rw[hij];exact O.rf _
   ·have x1:i=0:=by omega
    have x2:j=1:=by omega
    rw[x1,x2];exact O.as _ _ dn
theorem kg(O:Ord lt)(hn:0<n){p:Array Nat}{k:Nat}(hB:Bas n p)(hs:Asc lt p k):∀(f l r:Nat),l<=r->r<=k->r - l<=f->(∀i,i<l->lt (at0 p k) (at0 p i)=false)->(∀i,r<=i->i<k->lt (at0 p i) (at0 p k)=false)->
  okT n lt (kas_place p k f l r) (fun l=>l<=k/\(∀i,i<l->lt (at0 p k) (at0 p i)=false)/\∀i,l<=i->i<k->lt (at0 p i) (at0 p k)=false)
 |0,l,r,h1,h2,h3,h4,h5=>⟨by omega,h4,fun i a b=>h5 i (by omega) b⟩
 |f+1,l,r,h1,h2,h3,h4,h5=>by
  unfold kas_place
  by_cases hge:l ≥ r
  ·rw[if_pos hge];exact⟨by omega,h4,fun i a b=>h5 i (by omega) b⟩
  ·rw[if_neg hge];refine⟨hB.lt hn k,hB.lt hn _,?_⟩;cases e:lt (p.getD k 0) (p.getD ((l+r) / 2) 0) with
   |true=>
    refine kZ ?_;refine kg O hn hB hs f l ((l+r) / 2) (by omega) (by omega) (by omega) h4 fun i a b=>?_
    exact O.tr _ _ _ (O.as _ _ e) (hs _ i a b)
   |false=>
    refine k5 ?_;refine kg O hn hB hs f ((l+r) / 2+1) r (by omega) h2 (by omega) (fun i a=>?_) h5;exact O.tr _ _ _ (hs i ((l+r) / 2) (by omega) (by omega)) e
theorem tW(O:Ord lt)(hn:0<n):∀(f:Nat) (p:Array Nat) (k:Nat),Bas n p->k+f<=n->Asc lt p k->okT n lt (kas_bin f p k) (fun p'=>Bas n p'/\Asc lt p' (k+f))
 |0,p,k,hB,_,h=>⟨hB,h⟩
 |f+1,p,k,hB,hf,h=>by
  refine fw _ (cK (fun l hl=>?_) _ (kg O hn hB h k 0 k (Nat.zero_le _) (Nat.le_refl _) (by omega) (fun i z=>absurd z (Nat.not_lt_zero _)) fun i a b=>by omega));obtain⟨h1,h2,h3⟩:=hl;have hks:k<p.size:=by rw[hB.size];omega
  refine cK (fun r hr=>⟨hr.1,by rw[show k+(f+1)=k+1+f by omega];exact hr.2⟩) _ (tW O hn f _ (k+1) (hB.bub _ _) (by omega) fun i j hij hj=>?_);have one:∀x,x<k+1->(at0 (bubble p k (k - l)) x=at0 p k/\x=l)\/(at0 (bubble p k (k - l)) x=at0 p (x - 1)/\l<x)\/(at0 (bubble p k (k - l)) x=at0 p x/\x<l):=fun x hx=>by
   rw[xO hks h1]
   by_cases q1:x=l
   ·rw[if_pos q1];exact .inl ⟨rfl,q1⟩
   ·rw[if_neg q1]
    by_cases q2:l<x/\x<=k
    ·rw[if_pos q2];exact .inr (.inl ⟨rfl,q2.1⟩)
    ·rw[if_neg q2];exact .inr (.inr ⟨rfl,by omega⟩)
  rcases one i (by omega) with ⟨e1,c1⟩|⟨e1,c1⟩|⟨e1,c1⟩
  ·rcases one j hj with ⟨e2,c2⟩|⟨e2,c2⟩|⟨e2,c2⟩
   ·rw[e1,e2];exact O.rf _
   ·rw[e1,e2];exact h3 _ (by omega) (by omega)
   ·omega
  ·rcases one j hj with ⟨e2,c2⟩|⟨e2,c2⟩|⟨e2,c2⟩
   ·omega
   ·rw[e1,e2];exact h _ _ (by omega) (by omega)
   ·omega
  ·rcases one j hj with ⟨e2,c2⟩|⟨e2,c2⟩|⟨e2,c2⟩
   ·rw[e1,e2];exact h2 _ c1
   ·rw[e1,e2];exact h _ _ (by omega) (by omega)
   ·rw[e1,e2];exact h _ _ (by omega) (by omega)
theorem lZ(O:Ord lt)(hn:0<n):okT n lt (kas_sort n) (fun p=>Bas n p/\Asc lt p n):=by
 refine fw _ (cK (fun r hr=>?_) _ (vH O hn (p:=(List.range n).toArray) (Array.Perm.refl _)));obtain⟨a,b,c,d⟩:=hr
 by_cases hlt:r.1<n
 ·rw[if_pos hlt];have hm:max r.1 1=r.1:=by omega
  rw[hm];refine cK (fun p hp=>⟨hp.1,?_⟩) _ (tW O hn (n - r.1) r.2 r.1 c (by omega) d);have:=hp.2
  rwa [show r.1+(n - r.1)=n by omega] at this
 ·rw[if_neg hlt];have e:r.1=n:=by omega
  exact⟨c,by rw[←e];exact d⟩
end
end SL
namespace SL
open PySem PySem.W PyProof.Rows
def eD(h:Heap)(d:Addr)(es:Array DictEntry)(ep:Nat):Prop:=∃ob,h.get? d=some ob/\ob.ExactDict/\ob.data=.dict es ep
theorem eD.on{h h':Heap}{d:Addr}{es:Array DictEntry}{ep:Nat}(x:eD h d es ep)(k:∀ob,h.get? d=some ob->h'.get? d=some ob):eD h' d es ep:=let ⟨ob,a,r⟩:=x;⟨ob,k ob a,r⟩
theorem eD.lt{h:Heap}{d:Addr}{es:Array DictEntry}{ep:Nat}(x:eD h d es ep):d<h.objs.size:=let ⟨_,a,_⟩:=x;Heap.lt_size a
section
variable {prog:Program}{w:World}{A:Around}{E:Value->Shared->Prop}{s:Shared}{d it:Addr}{es:Array DictEntry}{ep i:Nat}
theorem eD.ty(x:eD s.heap d es ep):s.TypeIs (.ref d) "dict":=let ⟨ob,a,c,_⟩:=x;⟨ob,a,c.1⟩
theorem vI{Q:Value->Shared->Prop}(lo:(d == sysModules)=false)(x:eD s.heap d es ep)
  (q:Q (.ref s.heap.objs.size) {s with heap:=s.heap.push {cls:=.type "dict_keyiterator",data:=.fields #[.ref d,.int 0 0,.int es.size 0,.int ep 0]}}):wpAny (model prog w) A (pyIter (.ref d)) Q E s:=by
 have T:=x.ty;obtain⟨ob,e1,c,e2⟩:=id x;refine wpAny_pyIter_slot T F.slot_dict_iter (wpAny_call_entry F.slot_dict_iter T F.entry_dict_iter ?_ (F.args_dict_iter_1 _));unfold Builtin.«dict.__iter__» Builtin.Dict.dictSlotNone;refine wpAny_bind (wpAny_bind (wpAny_notOrdered_dict T ?_));change wpAny (model prog w) _ (pure (Value.ref d)) _ _ s;refine wpAny_pure ?_;change wpAny (model prog w) _ (Builtin.Dict.showsAll d >>= _) _ _ s;unfold Builtin.Dict.showsAll;rw[if_neg (by rw[lo];decide)];refine wpAny_bind (wpAny_pure (wpAny_bind (wpAny_dictEntries e1 e2 (wpAny_bind (wpAny_dictEpoch e1 e2 ?_)))));refine wpAny_bind (wpAny_newObj_type (wpAny_pure ⟨_,rfl,"dict_keyiterator",_,⟨_,aay _ rfl,rfl⟩,F.slot_dict_keyiterator_next.lookup,?_⟩));simpa [rawInt] using q
theorem vJ{Q:Option Value->Shared->Prop}(hit:s.heap.IsKeyIter it d i es.size ep)(x:eD s.heap d es ep)(hi:i<es.size)
  (q:∀h',h'.IsKeyIter it d (i+1) es.size ep->Heap.SameBut it s.heap h'->Q (some es[i].key) {s with heap:=h'}):wpAny (model prog w) A (pyNext (.ref it)) Q E s:=by
 obtain⟨oi,f1,f2,f3⟩:=id hit;obtain⟨ob,e1,c,e2⟩:=id x;have T:=hit.typeIs;unfold pyNext;refine wpAny_bind (wpAny_attempt (wpAny_callSpecial?_slot (name:=Str.ofString "__next__") T F.slot_dict_keyiterator_next (wpAny_call_entry F.slot_dict_keyiterator_next T F.entry_dict_keyiterator_next ?_ (F.args_dict_keyiterator_next_1 _))));refine wpAny_bind (wpAny_pure (wpAny_bind (wpAny_bind ?_)))
 first | refine wpAny_bind (wpAny_typeNameOfWhole_keyiter T (wpAny_pure ?_)) | refine wpAny_bind (wpAny_typeNameOf_keyiter T (wpAny_pure ?_))
 refine wpAny_bind (wpAny_fieldsOf f1 f3 ?_);simp only[show Builtin.Dict_items.ownsTuple "dict_keyiterator"=false by decide,Bool.false_eq_true,if_false];change wpAny (model prog w) _ (if (Value.ref d == Value.none)=true then _ else _) _ _ s;rw[if_neg (show ¬(Value.ref d == Value.none)=true from Bool.false_ne_true)];refine wpAny_bind (wpAny_pure (wpAny_bind (wpAny_dictEntries e1 e2 ?_)));rw[if_neg (by simp)];refine wpAny_bind (wpAny_pure (wpAny_bind (wpAny_dictEpoch e1 e2 ?_)));rw[if_neg (by simp)];refine wpAny_pure ?_;simp only[show ¬(i:Int)<0 by omega,if_false,Int.toNat_natCast,Array.getElem?_eq_getElem hi];refine wpAny_bind ?_
 first | refine wpAny_bind (wpAny_typeNameOfWhole_keyiter T (wpAny_pure ?_)) | refine wpAny_bind (wpAny_typeNameOf_keyiter T (wpAny_pure ?_))
 refine wpAny_bind (wpAny_isOneOf_keyiter T ?_);change wpAny (model prog w) _ (setField (.ref it) 1 (rawInt ((i:Int)+1)) >>= _) _ _ s;refine wpAny_bind (wpAny_setField f1 f3 (by simp) ?_);generalize hh:s.heap.update it (Obj.mapFields (·.setIfInBounds 1 (rawInt ((i:Int)+1))))=h';have J:h'.IsKeyIter it d (i+1) es.size ep:=by
  rw[←hh];exact⟨_,Heap.get?_update_self _ f1 (Obj.isFreed_of_fields (Obj.data_mapFields f3 _)),(Obj.cls_mapFields ..).trans f2,by rw[Obj.data_mapFields f3];simp[rawInt]⟩
 have sb:Heap.SameBut it s.heap h':=by rw[←hh];exact Heap.SameBut.update ..
 refine wpAny_bind (wpAny_holding (wpAny_bind (wpAny_isOneOf_keyiter (s:={s with heap:=h'}) J.typeIs ?_)));change wpAny (model prog w) _ (pure es[i].key) _ _ _;exact wpAny_pure (wpAny_pure ⟨_,rfl,wpAny_pure (q h' J sb)⟩)
theorem vK{Q:Option Value->Shared->Prop}(hn:A.handled=none)(hit:s.heap.IsKeyIter it d i es.size ep)(x:eD s.heap d es ep)(hi:es.size<=i)
  (q:∀h',Heap.ExtBut it s.heap h'->Q none {s with heap:=h'}):wpAny (model prog w) A (pyNext (.ref it)) Q E s:=by
 obtain⟨oi,f1,f2,f3⟩:=id hit;obtain⟨ob,e1,c,e2⟩:=id x;have T:=hit.typeIs;unfold pyNext;refine wpAny_bind (wpAny_attempt (wpAny_callSpecial?_slot (name:=Str.ofString "__next__") T F.slot_dict_keyiterator_next (wpAny_call_entry F.slot_dict_keyiterator_next T F.entry_dict_keyiterator_next ?_ (F.args_dict_keyiterator_next_1 _))));refine wpAny_bind (wpAny_pure (wpAny_bind (wpAny_bind ?_)))
 first | refine wpAny_bind (wpAny_typeNameOfWhole_keyiter T (wpAny_pure ?_)) | refine wpAny_bind (wpAny_typeNameOf_keyiter T (wpAny_pure ?_))
 refine wpAny_bind (wpAny_fieldsOf f1 f3 ?_);simp only[show Builtin.Dict_items.ownsTuple "dict_keyiterator"=false by decide,Bool.false_eq_true,if_false];change wpAny (model prog w) _ (if (Value.ref d == Value.none)=true then _ else _) _ _ s;rw[if_neg (show ¬(Value.ref d == Value.none)=true from Bool.false_ne_true)];refine wpAny_bind (wpAny_pure (wpAny_bind (wpAny_dictEntries e1 e2 ?_)));rw[if_neg (by simp)];refine wpAny_bind (wpAny_pure (wpAny_bind (wpAny_dictEpoch e1 e2 ?_)));rw[if_neg (by simp)];refine wpAny_pure ?_;simp only[show ¬(i:Int)<0 by omega,if_false,Int.toNat_natCast,Array.getElem?_eq_none hi];refine wpAny_bind ?_
 first | refine wpAny_bind (wpAny_typeNameOfWhole_keyiter T (wpAny_pure ?_)) | refine wpAny_bind (wpAny_typeNameOf_keyiter T (wpAny_pure ?_))
 change wpAny (model prog w) _ (setField (.ref it) 0 .none >>= _) _ _ s;refine wpAny_bind (wpAny_setField f1 f3 (by simp) ?_);change wpAny (model prog w) _ (newExc (.type "StopIteration") [] >>= _) _ _ _;refine wpAny_bind ?_;simp only[newExc,newTuple];refine wpAny_bind (wpAny_newObj_type (wpAny_bind (m:=firstArgMember _ _) (wpAny_of_eq (a:=Value.none) (by first | rfl | (simp only[firstArgMember];rfl)) (wpAny_newObj_type ?_ (by size_fits)))) (by size_fits));simp only[raiseNew];refine wpAny_bind (wpAny_handled ?_);rw[show A.in1.handled=none from hn];refine wpAny_bind (wpAny_pure (wpAny_throw ?thr));exact wpAny_bind (wpAny_isInstance (T:="StopIteration") (b:=true) ⟨_,aay _ rfl,rfl⟩ isSubtype_stop (wpAny_pure (q _ (((Heap.SameBut.update ..).extBut.push _).push _))))
end
section
variable {prog:Program}{w:World}{d:Addr}{es:Array DictEntry}{ep:Nat}
theorem vL{A:Around}(hn:A.handled=none)(it:Addr)(hne:d≠it):Walks prog w A it [it,d] [it] es.size (fun i v=>∃e,es[i]? =some e/\v=e.key) (fun i h=>h.IsKeyIter it d i es.size ep/\eD h d es ep) where
 sub:=fun b hb=>by rw[aaj.mp hb];exact aac ..
 frame:=fun _ _ _ st k=>⟨let ⟨o,a,r⟩:=st.1;⟨o,k it (aac ..) o a,r⟩,st.2.on fun o a=>k d (aad _ (aac ..)) o a⟩
 item:=fun i s Q E hi st q=>vJ st.1 st.2 hi fun h' J sb=>q _ h' s.toks ⟨es[i],Array.getElem?_eq_getElem hi,rfl⟩ ⟨J,st.2.on fun o a=>(sb.2 d hne).trans a⟩ fun b o hb e=>(sb.2 b (fun z=>hb (aaj.mpr z))).trans e
 done:=fun s Q E st q=>vK hn st.1 st.2 (Nat.le_refl _) fun h' x=>q h' s.toks fun b o hb e=>x b o (fun z=>hb (aaj.mpr z)) e
 self:=fun _ _ _ _ st q=>wpAny_pyIter_keyiter st.1 q
theorem xP(lo:(d == sysModules)=false):KdlSrc prog w "dict" d d es.size (fun i v=>∃e,es[i]? =some e/\v=e.key) (fun h=>eD h d es ep) where
 type:=fun _ x=>x.ty
 there:=fun _ x=>⟨x.lt,x.lt⟩
 keep:=fun _ _ x k=>x.on fun o e=>k d (.inl rfl) o e
 notList:=by decide
 notTuple:=by decide
 hint:=fun _ _ _ _ x q=>kdl_hint_dict x.ty q
 iter:=fun _ _ hn x=>⟨_,_,(fun _ _ q=>vI lo x q),vL hn _ (Nat.ne_of_lt x.lt),⟨⟨_,aay _ rfl,rfl,rfl⟩,x.on fun o e=>aaf _ e⟩⟩
theorem jV{A:Around}{E:Value->Shared->Prop}{s:Shared}{R:List Value->Shared->Prop}(lo:(d == sysModules)=false)(hn:A.handled=none)(x:eD s.heap d es ep)(hz:es.size<=sizeLine)
  (q:∀(h':Heap) (tk:Nat),(∀b o,s.heap.get? b=some o->h'.get? b=some o)->R (es.toList.map (·.key)) {s with heap:=h',toks:=tk}):wpAny (model prog w) A (collect (.ref d)) R E s:=by
 refine kdu_collect (xP lo) hn x hz fun h' tk acc k hI=>?_
 have e:acc.toList=es.toList.map (·.key):=by
  apply List.ext_getElem?;intro j;rw[aax,Array.getElem?_toList,Array.getElem?_toList];cases q1:acc[j]? with
  |none=>
   rw[Array.getElem?_eq_none_iff,hI.1] at q1;rw[Array.getElem?_eq_none q1];rfl
  |some v=>
   obtain⟨en,h1,h2⟩:=hI.2 j v q1;rw[h1,h2];rfl
 rw[e];exact q h' tk k
end
end SL
namespace SL
open PySem PySem.W PyProof.Rows
def kh(prog:Program)(w:World)(A:Around)(s:Shared)(ks:List Value)(lt:Nat->Nat->Bool):Prop:=
 ∃κ,(∀(Q:SortKind->Shared->Prop) (E:Value->Shared->Prop),Q κ s->wpAny (model prog w) A (keyKind' ks.toArray) Q E s)/\
  ∀i j (C:Bool->Shared->Prop),i<ks.length->j<ks.length->C (lt i j) s->kas_ask prog w A κ ks i j C s
abbrev cn(vs:List Value)(p:Array Nat):List Value:=p.toList.map fun i=>vs.getD i Value.none
theorem jo(vs:List Value):cn vs (List.range vs.length).toArray=vs:=by
 apply List.ext_getElem?;intro j;unfold cn;rw[aax]
 by_cases h:j<vs.length
 ·simp[h]
 ·have h:vs.length<=j:=Nat.le_of_not_lt h;simp[h]
theorem Asc.few(O:Ord lt){p:Array Nat}{n:Nat}(hn:n<2):Asc lt p n:=fun i j h1 h2=>by
 have e1:j=0:=by omega
 have e2:i=0:=by omega
 rw[e1,e2];exact O.rf _
theorem l3{vs:List Value}{p:Array Nat}(h:Bas vs.length p):(cn vs p).length=vs.length:=by
 unfold cn;rw[aaa,Array.length_toList,h.size]
section
variable {prog:Program}{w:World}{A:Around}{E:Value->Shared->Prop}{s:Shared}{lt:Nat->Nat->Bool}
theorem rp{a:Addr}{vs:List Value}{n:Nat}{P:PySem.Fin->Shared->Prop}(O:Ord lt)(hx:s.heap.get? a=some (seqObj "list" vs.toArray n))(h64:vs.length<64)
  (hA:∀h',(∀b o,b≠a->s.heap.get? b=some o->h'.get? b=some o)->2<=vs.length->kh prog w A {s with heap:=h'} vs lt)
  (fin:∀(p:Array Nat) (h':Heap) (e:Nat),Bas vs.length p->Asc lt p vs.length->(∀b o,b≠a->s.heap.get? b=some o->h'.get? b=some o)->h'.get? a=some (seqObj "list" (cn vs p).toArray e)->P (.done (.ret .none)) {s with heap:=h'}) :
  wpAny (model prog w) A (Builtin.«list.sort» ⟨[.ref a],[]⟩) P E s:=by
 obtain⟨e1,hx1⟩:∃e1,(s.heap.update a (Obj.mapSeq fun _=>(#[]:Array Value))).get? a=some (seqObj "list" #[] e1):=⟨_,get?_update_seq hx fun _=>#[]⟩;have hz:∀m,m<=vs.length->m<=sizeLine:=fun m hm=>by rw[sizeLine_eq];omega
 rw[list_sort_plain];refine wpAny_bind (listItems_at hx rfl (wpAny_bind (listUpdate_at hx rfl ?_ (by rw[aaq];exact hz _ (Nat.le_refl _)) (Nat.zero_le _))));refine wpAny_bind (seqEpoch_at hx1 rfl (wpAny_bind (wpAny_newTuple (wpAny_bind (wpAny_newList (wpAny_holding ?_) (Nat.zero_le _))) (hz _ (Nat.le_refl _)))));generalize hh:((s.heap.update a (Obj.mapSeq fun _=>(#[]:Array Value))).push (seqObj "tuple" vs.toArray 0)).push (seqObj "list" #[] 0)=h2;have k2:∀b o,b≠a->s.heap.get? b=some o->h2.get? b=some o:=fun b o hb e=>by
  rw[←hh];exact aaf _ (aaf _ (((Heap.SameBut.update ..).2 b hb).trans e))
 have a2:h2.get? a=some (seqObj "list" #[] e1):=by rw[←hh];exact aaf _ (aaf _ hx1)
 have tail:∀(st:SortSt) (p:Array Nat),Bas vs.length p->Asc lt p vs.length->(arrOf st).map (·.2)=(cn vs p).toArray->failedOf st=none->
   wpAny (model prog w) A (do
    let tch:=(←seqEpoch a) != e1
    Builtin.List.listUpdate (.ref a) fun _=>(arrOf st).map (·.2)
    if let some e:=failedOf st then rule "list.sort.comparison-raised";throw e
    if tch then rule "list.sort.modified";raiseError "ValueError" "list modified during sort"
    ret .none) P E {s with heap:=h2}:=by
  intro st p hB hS ho hf;rw[ho,hf];have hsz:(cn vs p).toArray.size<=sizeLine:=by rw[aaq,l3 hB];exact hz _ (Nat.le_refl _)
  refine wpAny_bind (seqEpoch_at a2 rfl (wpAny_bind (listUpdate_at a2 rfl ?_ (Nat.zero_le _) (Nat.le_succ_of_le hsz))));simp only[bne_self_eq_false,Bool.false_eq_true,if_false];obtain⟨e2,a3⟩:∃e2,(h2.update a (Obj.mapSeq fun _=>(cn vs p).toArray)).get? a=some (seqObj "list" (cn vs p).toArray e2):=⟨_,get?_update_seq a2 fun _=>(cn vs p).toArray⟩;exact wpAny_pure (fin p _ e2 hB hS (fun b o hb e=>((Heap.SameBut.update ..).2 b hb).trans (k2 b o hb e)) a3)
 change wpAny (model prog w) A _ P E {s with heap:=h2};dsimp only
 by_cases h2':vs.toArray.size<2
 ·rw[if_pos h2',if_pos h2'];rw[aaq] at h2';refine wpAny_bind (wpAny_pure (wpAny_bind (wpAny_pure ?_)));refine tail _ (List.range vs.length).toArray (Array.Perm.refl _) (Asc.few O h2') ?_ rfl;rw[jo];apply Array.toList_inj.mp;simp;exact List.map_snd_zip (Nat.le_refl _)
 ·rw[if_neg h2',if_neg h2'];rw[aaq] at h2';obtain⟨κ,hk,hask⟩:=hA h2 k2 (by omega);refine wpAny_bind (hk _ _ ?_);refine wpAny_bind (wpAny_mono (kat_run (Q:=fun st' s'=>∃p:Array Nat,arrOf st'=p.map (kas_item (vs.toArray.zip vs.toArray))/\failedOf st'=none/\(Bas vs.length p/\Asc lt p vs.length)/\s'={s with heap:=h2}) (ks:=vs) rfl (by omega) h64
   (G:=fun p s'=>(Bas vs.length p/\Asc lt p vs.length)/\s'={s with heap:=h2}) (fun p st' s' _ q1 q2 q3=>⟨p,q1,q2,q3⟩) (kY (fun i j C hi hj=>hask i j C hi hj) _ (cK (fun p hp=>⟨hp,rfl⟩) _ (lZ O (by omega))))) ?_ fun _ _ z=>z)
  rintro⟨⟨⟩,st'⟩ s' ⟨p,q1,q2,⟨q3,q4⟩,rfl⟩;exact tail st' p q3 q4 (kat_snds rfl q1) q2
theorem oU{x:Value}{Q:Value->Shared->Prop}(hcol:wpAny (model prog w) A.in1 (collect x) (fun vs s₁=>vs.length<64/\∃lt,Ord lt/\
   (∀h',(∀b o,s₁.heap.get? b=some o->h'.get? b=some o)->2<=vs.length->kh prog w A.in1.in1 {s₁ with heap:=h'} vs lt)/\
   ∀(p:Array Nat) (h':Heap) (e:Nat),Bas vs.length p->Asc lt p vs.length->(∀b o,s₁.heap.get? b=some o->h'.get? b=some o)->h'.get? s₁.heap.objs.size=some (seqObj "list" (cn vs p).toArray e)->Q (.ref s₁.heap.objs.size) {s₁ with heap:=h'}) E s) :
  wpAny (model prog w) A (call (.builtin "sorted") [x]) Q E s:=by
 refine Calls.call_function_entry kind_sorted plain_sorted entry_sorted (args_sorted1 _) ?_;unfold Builtin.«sorted»;refine wpAny_bind (m:=checkCount "sorted" 1 1 _) (wpAny_pure (wpAny_bind (wpAny_mono hcol (fun vs s₁ h₁=>?_) fun _ _ z=>z)));obtain⟨h64,lt,O,hA,fin⟩:=h₁;refine wpAny_bind (wpAny_newList ?_ (by rw[sizeLine_eq];omega));have hx:(s₁.heap.push (seqObj "list" vs.toArray 0)).get? s₁.heap.objs.size=some (seqObj "list" vs.toArray 0):=aay _ rfl;have up:∀b o,s₁.heap.get? b=some o->b≠s₁.heap.objs.size/\(s₁.heap.push (seqObj "list" vs.toArray 0)).get? b=some o:=fun b o e=>⟨Nat.ne_of_lt (Heap.lt_size e),aaf _ e⟩
 change wpAny (model prog w) _ _ _ _ {s₁ with heap:=s₁.heap.push (seqObj "list" vs.toArray 0)};refine wpAny_bind (wpAny_holding (wpAny_call_entry slot_list_sort ⟨_,hx,rfl⟩ entry_list_sort (rp O hx h64 (fun h' k=>hA h' fun b o e=>k b o (up b o e).1 (up b o e).2) fun p h' e hB hS k he=>?_) (args_list_sort _)));exact⟨_,rfl,wpAny_pure ⟨_,rfl,fin p h' e hB hS (fun b o z=>k b o (up b o z).1 (up b o z).2) he⟩⟩
end
def ltS(a b:Str):Bool:=decide (a.cps.toList<b.cps.toList)
def ltP(p q:Str×Str):Bool:=if p.1=q.1 then ltS p.2 q.2 else ltS p.1 q.1
theorem k6(a b:Str):ltS a b=!leS b a:=by unfold ltS leS;rw[Bool.not_not]
theorem qk{p q:Str×Str}:ltP q p=false↔(p.1=q.1/\leS p.2 q.2=true)\/(p.1≠q.1/\leS p.1 q.1=true):=by
 unfold ltP
 by_cases h:p.1=q.1
 ·rw[if_pos h.symm,k6];simp[h]
 ·rw[if_neg (fun z=>h z.symm),k6];simp[h]
theorem y8(a b c:Str×Str)(h1:ltP b a=false)(h2:ltP c b=false):ltP c a=false:=by
 rw[qk] at h1 h2 ⊢;rcases h1 with ⟨x1,y1⟩|⟨x1,y1⟩
 ·rcases h2 with ⟨x2,y2⟩|⟨x2,y2⟩
  ·exact .inl ⟨x1.trans x2,jf _ _ _ y1 y2⟩
  ·exact .inr ⟨by rw[x1];exact x2,by rw[x1];exact y2⟩
 ·rcases h2 with ⟨x2,y2⟩|⟨x2,y2⟩
  ·exact .inr ⟨by rw[←x2];exact x1,by rw[←x2];exact y1⟩
  ·refine .inr ⟨fun z=>?_,jf _ _ _ y1 y2⟩;rw[←z] at y2;exact x1 (om _ _ y1 y2)
theorem y9(a b:Str×Str)(h:ltP a b=true):ltP b a=false:=by
 rw[qk];unfold ltP at h
 by_cases e:a.1=b.1
 ·rw[if_pos e,k6] at h;refine .inl ⟨e,?_⟩;have:=je a.2 b.2;rw[Bool.not_eq_true'] at h
  rwa [h,Bool.or_false] at this
 ·rw[if_neg e,k6] at h;refine .inr ⟨e,?_⟩;have:=je a.1 b.1;rw[Bool.not_eq_true'] at h
  rwa [h,Bool.or_false] at this
theorem za(f:Nat->Str×Str):Ord (fun i j=>ltP (f i) (f j)):=⟨fun a b c=>y8 _ _ _,fun a b=>y9 _ _⟩
abbrev InP(l:List (Str×Str)):Prop:=l.Pairwise fun a b=>ltP b a=false
end SL
namespace L2
open PySem PySem.W PySem.Spec PyProof.Rows
open SL (eD kh Ord Bas Asc cn ltP ltS InP za)
def b7:List Key->Str×Str
 |[.inr x,.inr y]=>(x,y)
 |_=>(Str.empty,Str.empty)
def IsPair(k:List Key):Prop:=∃x y,k=[.inr x,.inr y]
theorem IsPair.eq{k:List Key}(h:IsPair k):k=[.inr (b7 k).1,.inr (b7 k).2]:=by
 obtain⟨x,y,rfl⟩:=h;rfl
theorem getD_map{α β:Type}(f:α->β)(l:List α){i:Nat}(hi:i<l.length)(d:α)(d':β):(l.map f).getD i d'=f (l.getD i d):=by
 rw[aat,aax,aat,aae hi];rfl
theorem getD_mem{α:Type}(l:List α){i:Nat}(hi:i<l.length)(d:α):l.getD i d∈l:=by
 rw[aat,aae hi];exact List.getElem_mem hi
section
variable {X:Cx}{pins:List (Addr×Obj)}{σ:St}{H:Hp}{s:Shared}
theorem Inv.zb{p:Addr}{kvs:List (List Key×V)}(I:Inv X pins σ H s)(h:H p=some (.dT kvs)):(p == sysModules)=false/\kvs.length<=sizeLine/\∃(xs:List (List Key×Addr×Value)) (es:Array DictEntry) (ep:Nat),KT H kvs xs/\eD s.heap p es ep/\
  es.toList.map (·.key)=xs.map (fun x=>Value.ref x.2.1)/\(kvs.map (·.1)).Nodup:=by
 obtain⟨z,y,xs,r,o,es,ep,h1,h2,h3,h4,h5⟩:=(show bi X.prog X.w H s.heap p (.dT kvs) from I.hok p _ h);refine⟨y,z,xs,es,ep,r,⟨o,h1,h2,h3⟩,?_,?_⟩
 ·rw[h4,List.map_map];rfl
 ·have e:∀{l:List (List Key×V)} {m:List (List Key×Addr×Value)},KT H l m->l.map (·.1)=m.map (·.1):=by
   intro l m q
   induction q with
   |nil=>rfl
   |cons a b ih=>rw[aaw,aaw,ih,a.1]
  rw[e r];exact h5
theorem KT.len{kvs:List (List Key×V)}{xs:List (List Key×Addr×Value)}(r:KT H kvs xs):kvs.length=xs.length:=Paired.length r
theorem KT.get:∀{kvs:List (List Key×V)} {xs:List (List Key×Addr×Value)},KT H kvs xs->∀(i:Nat) (x:List Key×Addr×Value),xs[i]? =some x->∃v,kvs[i]? =some (x.1,v)/\H x.2.1=some (.tup (x.1.map kV))
 |_,_,.nil,i,x,h=>by simp at h
 |_,_,.cons a r,0,x,h=>by
  simp at h;subst h;exact⟨_,by rw[List.getElem?_cons_zero,←a.1],by rw[←a.1];exact a.2.1⟩
 |_,_,.cons a r,i+1,x,h=>by
  simp only[List.getElem?_cons_succ] at h ⊢;exact KT.get r i x h
theorem xQ{h:Heap}{a:Addr}{x y:Str}{P:Program}{w:World}(ok:HOk P w H h)(e:H a=some (.tup [.str x,.str y])):∃o n t u,h.get? a=some o/\o.cls=.type "tuple"/\o.data=.seq #[.str x t,.str y u] n:=by
 obtain⟨_,its,r,o,h1,h2,n,h3⟩:=(show bi P w H h a (.tup [.str x,.str y]) from ok a _ e);obtain⟨v,w',rfl,⟨t,rfl⟩,⟨u,rfl⟩⟩:=vals2 r;exact⟨o,n,t,u,h1,h2,h3⟩
theorem xR{A:Around}{E:Value->Shared->Prop}{a b:Addr}{p q:Str×Str}{Q:Bool->Shared->Prop}{prog:Program}{w:World}(ha:∃o n t u,s.heap.get? a=some o/\o.cls=.type "tuple"/\o.data=.seq #[.str p.1 t,.str p.2 u] n)
  (hb:∃o n t u,s.heap.get? b=some o/\o.cls=.type "tuple"/\o.data=.seq #[.str q.1 t,.str q.2 u] n)(h:Q (ltP p q) s):wpAny (model prog w) A (keyLt' (tuples' true) (.ref a) (.ref b)) Q E s:=by
 obtain⟨oa,na,ta,ua,a1,a2,a3⟩:=ha;obtain⟨ob,nb,tb,ub,b1,b2,b3⟩:=hb;refine kat_lt a1 a3 b1 b3 (kat_cons (wpAny_eqBool_str ?_));unfold ltP at h
 by_cases e:p.1=q.1
 ·rw[if_pos e] at h;rw[aan e];refine kat_yes (kat_cons (wpAny_eqBool_str ?_))
  by_cases e2:p.2=q.2
  ·rw[aan e2];refine kat_yes (kat_nil ?_);have z:ltS p.2 q.2=false:=by rw[e2];exact aai (List.lt_irrefl _)
   rw[z] at h;exact h
  ·rw[aai e2];exact kat_no (kat_one _ _ (lt_str h))
 ·rw[if_neg e] at h;rw[aai e];exact kat_no (oneLt_str h)
theorem qm{h:Heap}:∀{xs:List (List Key×Addr×Value)},(∀x∈xs,∃o n t u,h.get? x.2.1=some o/\o.cls=.type "tuple"/\o.data=.seq #[.str (b7 x.1).1 t,.str (b7 x.1).2 u] n)->
  ∃fs:List Value,KatTups h (xs.map fun x=>Value.ref x.2.1) fs/\fs.length=xs.length/\∀v∈fs,∃z t,v=Value.str z t
 |[],_=>⟨[],KatTups.nil,rfl,fun v hv=>by cases hv⟩
 |x::r,hx=>by
  obtain⟨o,n,t,u,h1,h2,h3⟩:=hx x (aac ..);obtain⟨fs,k,l,a⟩:=qm fun y hy=>hx y (aad _ hy)
  refine⟨.str (b7 x.1).1 t::fs,KatTups.cons h1 h2 h3 rfl k,by rw[aau,aau,l],fun v hv=>?_⟩;rcases List.mem_cons.mp hv with rfl|hv
  ·exact⟨_,_,rfl⟩
  ·exact a v hv
theorem rq{prog:Program}{w:World}{A:Around}{xs:List (List Key×Addr×Value)}(h2:2<=xs.length)(hx:∀x∈xs,∃o n t u,s.heap.get? x.2.1=some o/\o.cls=.type "tuple"/\o.data=.seq #[.str (b7 x.1).1 t,.str (b7 x.1).2 u] n) :
  kh prog w A s (xs.map fun x=>Value.ref x.2.1) (fun i j=>ltP (b7 ((xs.map (·.1)).getD i [])) (b7 ((xs.map (·.1)).getD j []))):=by
 obtain⟨fs,kt,kl,ks⟩:=qm hx;refine⟨tuples' (Value.type "str" != Value.type "tuple"),fun Q E q=>?_,fun i j C hi hj h=>?_⟩
 ·refine kat_kind kt (by omega) (T:=Value.type "str") (fun v hv=>?_) (by decide) q;obtain⟨z,t,rfl⟩:=ks v hv;exact Looks.of_pure rfl
 ·rw[aaa] at hi hj;unfold kas_ask;have h:C (ltP (b7 ((xs.map (·.1)).getD i [])) (b7 ((xs.map (·.1)).getD j []))) s:=h;rw[getD_map (·.1) xs hi ([],0,Value.none),getD_map (·.1) xs hj ([],0,Value.none)] at h;rw[getD_map (fun x=>Value.ref x.2.1) xs hi ([],0,Value.none),getD_map (fun x=>Value.ref x.2.1) xs hj ([],0,Value.none)];exact xR (hx _ (getD_mem xs hi _)) (hx _ (getD_mem xs hj _)) h
theorem oV{α:Type}(l:List α)(d:α){p:Array Nat}(hB:Bas l.length p):(p.toList.map fun i=>l.getD i d).Perm l:=by
 have h1:p.toList.Perm (List.range l.length):=by
  have:=Array.perm_iff_toList_perm.mp hB;simpa using this
 have h2:=h1.map (fun i=>l.getD i d);have e:(List.range l.length).map (fun i=>l.getD i d)=l:=by
  apply List.ext_getElem?;intro j;rw[aax]
  by_cases h:j<l.length
  ·simp[h]
  ·have h:l.length<=j:=Nat.le_of_not_lt h;simp[h]
 rwa [e] at h2
theorem tX{p:Array Nat}{n:Nat}{lt:Nat->Nat->Bool}(hB:Bas n p)(hS:Asc lt p n):p.toList.Pairwise fun a b=>lt b a=false:=by
 rw[List.pairwise_iff_getElem];intro i j hi hj hij;have:=hS i j (Nat.le_of_lt hij) (by rw[Array.length_toList,hB.size] at hj;exact hj);have e:∀k (hk:k<p.toList.length),SL.at0 p k=p.toList[k]:=fun k hk=>by
  rw[SL.fV,←Array.getElem?_toList,aae hk];rfl
 rw[e i hi,e j hj] at this;exact this
end
theorem oW{X:Cx}(hc:X.calm=true):dQ X (.builtin "sorted") (fun xs H Q=>∃p kvs,xs=[.ref p]/\H p=some (.dT kvs)/\kvs.length<64/\(∀kv∈kvs,IsPair kv.1)/\
  ∀q (zs:List ((Str×Str)×Addr)),H q=none->(zs.map (·.1)).Perm (kvs.map fun kv=>b7 kv.1)->InP (zs.map (·.1))->(∀z∈zs,H z.2=some (.tup [.str z.1.1,.str z.1.2]))->Q (.ref q) (upd H q (.lst (zs.map fun z=>V.ref z.2)))):=by
 intro pins s σ H ys us Q I r h;obtain⟨p,kvs,rfl,hp,h64,hpr,q⟩:=h;obtain⟨u,rfl,rx⟩:=vals1 r;cases rx
 have hh:X.A.in1.handled=none:=I.ok.hd hc;obtain⟨lo,hz,xs,es,ep,kt,raw,hk,nd⟩:=I.zb hp;have hlen:=kt.len;have hes:es.size=xs.length:=by
  have:=congrArg List.length hk;rw[aaa,aaa,Array.length_toList] at this;exact this
 have hxs:∀x∈xs,IsPair x.1/\H x.2.1=some (.tup (x.1.map kV))/\∃v,(x.1,v)∈kvs:=fun x hx=>by
  obtain⟨i,hi⟩:=List.mem_iff_getElem?.mp hx;obtain⟨v,h1,h2⟩:=kt.get i x hi;exact⟨hpr _ (aah h1),h2,v,aah h1⟩
 have hxT:∀x∈xs,H x.2.1=some (.tup [.str (b7 x.1).1,.str (b7 x.1).2]):=fun x hx=>by
  obtain⟨h1,h2,_⟩:=hxs x hx;have e:=h1.eq;rw[e] at h2;exact h2
 refine SL.oU (SL.jV lo hh raw (by rw[hes,←hlen];exact hz) fun h1 tk k1=>?_);rw[hk];have I1:Inv X pins σ H {s with heap:=h1,toks:=tk}:=I.kept (t':=tk) k1;refine⟨by rw[aaa,←hlen];exact h64,fun i j=>ltP (b7 ((xs.map (·.1)).getD i [])) (b7 ((xs.map (·.1)).getD j [])),za (fun i=>b7 ((xs.map (·.1)).getD i [])),fun h' k' h2=>?_,fun pp h' e hB hS k' he=>?_⟩
 ·have I2:Inv X pins σ H {s with heap:=h',toks:=tk}:=I1.kept (t':=tk) k';rw[aaa] at h2;exact rq (s:={s with heap:=h',toks:=tk}) h2 fun x hx=>xQ I2.hok (hxT x hx)
 ·rw[aaa] at hB hS
  let zs:List ((Str×Str)×Addr):=pp.toList.map fun i=>(b7 (xs.getD i ([],0,Value.none)).1,(xs.getD i ([],0,Value.none)).2.1)
  have hpx:=oV xs ([],0,Value.none) hB;have e0:∀i∈pp.toList,i<xs.length:=fun i hi=>by
   have h1:pp.toList.Perm (List.range xs.length):=by
    have:=Array.perm_iff_toList_perm.mp hB;simpa using this
   exact List.mem_range.mp (h1.mem_iff.mp hi)
  have ho:cn (xs.map fun x=>Value.ref x.2.1) pp=zs.map fun z=>Value.ref z.2:=by
   show pp.toList.map _=(pp.toList.map _).map _;rw[List.map_map];exact List.map_congr_left fun i hi=>getD_map (fun x=>Value.ref x.2.1) xs (e0 i hi) ([],0,Value.none) Value.none
  have hz1:zs.map (·.1)=(pp.toList.map fun i=>xs.getD i ([],0,Value.none)).map fun x=>b7 x.1:=by
   show(pp.toList.map _).map _=_;rw[List.map_map,List.map_map];rfl
  rw[ho] at he;have J:Inv X pins σ (upd H h1.objs.size (.lst (zs.map fun z=>V.ref z.2))) {s with heap:=h',toks:=tk}:=by
   refine I1.newList (tk:=tk) (its:=zs.map fun z=>Value.ref z.2) k' (Nat.le_refl _) he ?_ ?_
   ·have all:∀l:List ((Str×Str)×Addr),Vals (l.map fun z=>V.ref z.2) (l.map fun z=>Value.ref z.2):=by
     intro l
     induction l with
     |nil=>exact .nil
     |cons a l ih=>exact .cons rfl ih
    exact all zs
   ·rw[aaa];show(pp.toList.map _).length<=_;rw[aaa,Array.length_toList,hB.size,sizeLine_eq];omega
  refine⟨.ref _,_,J,rfl,q _ zs I1.fresh ?_ ?_ ?_⟩
  ·rw[hz1];have h2:=hpx.map fun x=>b7 x.1
   have e:xs.map (fun x=>b7 x.1)=kvs.map fun kv=>b7 kv.1:=by
    have all:∀{l:List (List Key×V)} {m:List (List Key×Addr×Value)},KT H l m->m.map (fun x=>b7 x.1)=l.map fun kv=>b7 kv.1:=by
     intro l m z
     induction z with
     |nil=>rfl
     |cons a b ih=>rw[aaw,aaw,ih,a.1]
    exact all kt
   rw[←e];exact h2
  ·have h3:=tX hB hS;rw[hz1,List.map_map,InP,List.pairwise_map];refine h3.imp_of_mem fun{a b} ha hb z=>?_
   rw[getD_map (·.1) xs (e0 a ha) ([],0,Value.none),getD_map (·.1) xs (e0 b hb) ([],0,Value.none)] at z;exact z
  ·intro z hz';obtain⟨i,hi,rfl⟩:=aao.mp hz';exact hxT _ (getD_mem xs (e0 i hi) _)
end L2
namespace SL
open PySem PySem.W PyProof.Rows
section
variable {prog:Program}{w:World}{A:Around}{E:Value->Shared->Prop}{s:Shared}{K:Type}[DecidableEq K]{knd:KeyKind prog w K}
theorem vM{d:Addr}{ob:Obj}{es:Array DictEntry}{ep:Nat}{xs:List (List K×Addr×Value)}{x:Str}{t:Tok}{hh:Int}{Q:Option Nat->Shared->Prop}(hu:A.units<cLine)
  (e1:s.heap.get? d=some ob)(e2:ob.data=.dict es ep)(he:es.toList=xs.map (entryOfKey (tupleKind knd)))(hx:∀y∈xs,(tupleKind knd).is s.heap y.1 y.2.1)(q:Q none s) :
  wpAny (model prog w) A (dictFind d (.str x t) hh) Q E s:=by
 have mem:∀e∈es.toList,∃y∈xs,e.key=.ref y.2.1:=fun e h=>by
  rw[he] at h;obtain⟨y,hy,rfl⟩:=aao.mp h;exact⟨y,hy,rfl⟩
 have memA:∀(i:Nat) (e:DictEntry),es[i]? =some e->∃y∈xs,e.key=.ref y.2.1:=fun i e h=>mem e (by
  rw[←Array.getElem?_toList] at h;exact aah h)
 unfold dictFind
 try with_reducible refine wpAny_holding ?_
 refine wpAny_bind (wpAny_dictEntries e1 e2 ?_);dsimp only
 by_cases h0:(es.all fun e=>isExactStrKey e.key)=true
 ·rw[if_pos h0];have nil:es=#[]:=by
   apply Array.toList_inj.mp;cases hl:es.toList with
   |nil=>rfl
   |cons e r=>
    exfalso;have hm:e∈es.toList:=by rw[hl];exact aac ..
    obtain⟨y,_,z⟩:=mem e hm;rw[←Array.all_toList,List.all_eq_true] at h0;have:=h0 e hm;rw[z] at this;cases this
  subst nil
  first | exact wpAny_bind (wpAny_pure (wpAny_pure q)) | exact wpAny_pure q | (unfold foundByValue;simp;exact wpAny_pure q)
 ·rw[if_neg h0];generalize hpl:placesWithHash es.size (fun i=>es[i]?.map (·.hash)) hh=places;generalize hst:places.filterMap (fun i=>es[i]?.map (·.key))=stored;have stR:∀v∈stored,∃y∈xs,v=.ref y.2.1:=fun v hv=>by
   rw[←hst] at hv;obtain⟨i,_,hi⟩:=List.mem_filterMap.mp hv;cases ei:es[i]? with
   |none=>rw[ei] at hi;cases hi
   |some e=>
    rw[ei] at hi;have hi:some e.key=some v:=hi;injection hi with hi;obtain⟨y,hy,z⟩:=memA i e ei;exact⟨y,hy,by rw[←hi,z]⟩
  cases hs:stored with
  |nil=>
   rw[if_pos (show((Value.str x t::([]:List Value)).all carriedByValue)=true by rfl)];have pn:places=[]:=by
    cases hp:places with
    |nil=>rfl
    |cons i r=>
     exfalso;have hi:i∈placesWithHash es.size (fun i=>es[i]?.map (·.hash)) hh:=by rw[hpl,hp];exact aac ..
     unfold placesWithHash at hi;obtain⟨h1,h2⟩:=List.mem_filter.mp hi;have hlt:i<es.size:=List.mem_range.mp h1;have:es[i].key∈stored:=by
      rw[←hst];exact List.mem_filterMap.mpr ⟨i,by rw[hp];exact aac ..,by rw[Array.getElem?_eq_getElem hlt];rfl⟩
     rw[hs] at this;cases this
   rw[pn];unfold dictWalkPlain;rw[List.forIn_nil]
   first | exact wpAny_bind (wpAny_pure (wpAny_pure q)) | exact wpAny_pure q
  |cons v r=>
   obtain⟨y0,_,z0⟩:=stR v (by rw[hs];exact aac ..);rw[if_neg (by rw[z0];simp[carriedByValue])];rw[if_neg (by rw[z0];intro z;have:=eq_of_beq z;injection this with a b;cases a)];have tell:wpAny (model prog w) A (tableMayTell (.str x t) (v::r)) (fun b s'=>b=false/\s'=s) E s:=by
    unfold tableMayTell;rw[if_neg (by simp)];refine wpAny_bind (wpAny_of_eq (eqIsQuiet_byValue 8 rfl) ?_);simp only[Bool.not_true,Bool.false_eq_true,if_false];refine wpAny_bind (wpAny_forIn_list _ (fun rest rr s'=>s'=s/\rr=(none,())/\∀u∈rest,∃y∈xs,u=.ref y.2.1) _ ?_ ?_ _ _ ⟨rfl,rfl,fun u hu=>stR u (by rw[hs];exact hu)⟩)
    ·rintro u rest rr s' ⟨rfl,rfl,hr⟩;obtain⟨y,hy,rfl⟩:=hr u (aac ..);refine wpAny_bind (wpAny_eqIsQuiet_tuple (hx y hy) ?_);simp only[Bool.not_true,Bool.false_eq_true,if_false];exact wpAny_pure ⟨rfl,rfl,fun z hz=>hr z (aad _ hz)⟩
    ·rintro rr s' ⟨rfl,rfl,_⟩;exact wpAny_pure ⟨rfl,rfl⟩
   refine wpAny_bind (wpAny_mono tell (fun b s' hb=>?_) fun _ _ z=>z);obtain⟨rfl,rfl⟩:=hb;rw[if_neg (by simp)];refine wpAny_bind (wpAny_forIn_list _ (fun rest rr s''=>s''=s'/\rr=(none,none)) _ ?_ ?_ _ _ ⟨rfl,rfl⟩)
   ·rintro i rest rr s'' ⟨rfl,rfl⟩;cases ei:es[i]? with
    |none=>exact wpAny_pure ⟨rfl,rfl⟩
    |some e=>
     dsimp only;obtain⟨y,hy,z⟩:=memA i e ei
     by_cases hc:(e.hash == hh)=true
     ·rw[if_pos hc];obtain⟨o,its,n,i1,i2,i3,_⟩:=hx y hy;refine wpAny_bind (wpAny_dictEpoch e1 e2 ?_);rw[z];refine wpAny_bind (PySem.SeqAt.EqAt.tuple_str x t ⟨o,i1,i2,n,i3⟩ hu prog w _ _ ?_);refine wpAny_bind (wpAny_dictEpoch e1 e2 ?_);rw[if_neg (by simp)];simp only[Bool.false_eq_true,if_false,Bool.false_and];exact wpAny_bind (wpAny_rule (wpAny_pure ⟨rfl,rfl⟩))
     ·rw[if_neg hc];exact wpAny_pure ⟨rfl,rfl⟩
   ·rintro rr s'' ⟨rfl,rfl⟩;exact wpAny_pure q
theorem xS{d:Addr}{xs:List (List K×Addr×Value)}{x:Str}{t:Tok}{Q:Option Value->Shared->Prop}(hu:A.units<cLine)(D:s.heap.DictOfH (tupleKind knd) d xs)
  (q:Q none {s with toks:=s.toks+1}):wpAny (model prog w) A (dictGet d (.str x t)) Q E s:=by
 obtain⟨ob,es,ep,h1,_,h2,h3,h4,_⟩:=D;unfold dictGet
 try with_reducible refine wpAny_holding ?_
 exact wpAny_bind (wpAny_pyHash_str (wpAny_bind (vM (s:={s with toks:=s.toks+1}) hu h1 h2 h3 h4 (wpAny_pure q))))
end
section
variable {prog:Program}{w:World}{A:Around}{E:Value->Shared->Prop}{s:Shared}{K:Type}[DecidableEq K]{knd:HeapKind prog w K}
theorem tY{d a:Addr}{xs:List (K×Addr×Value)}{k:K}{dv:Value}{Q:Value->Shared->Prop}(hu:knd.room A)(hk:knd.is s.heap k a)(D:s.heap.DictOfH knd d xs)(hz:xs.length<=sizeLine)
  (q1:∀p,atKey xs k=some p->Q p.2 {s with toks:=s.toks+knd.draws k})
  (q2:atKey xs k=none->∀h',h'.DictOfH knd d (storedH xs k a dv)->Heap.SameBut d s.heap h'->Q dv {s with heap:=h',toks:=s.toks+knd.draws k}):wpAny (model prog w) A (dictSetDefault d (.ref a) dv) Q E s:=by
 obtain⟨ob,es,ep,e1,ex,e2,e3,his,nd⟩:=D;unfold dictSetDefault
 try with_reducible refine wpAny_holding ?_
 refine wpAny_bind (knd.pyHash hu hk (wpAny_bind (wpAny_dictFind_heap (s:={s with toks:=s.toks+knd.draws k}) hu hk e1 e2 e3 his nd (fun no=>?_) fun j p hj=>?_)))
 ·have none':=atKey_none_of_get no;have e4:=storedH_new (a:=a) (v:=dv) none';have hsz:=size_of_entries e3;refine wpAny_bind (wpAny_rule (wpAny_bind (wpAny_updateDictKeys (hz:=by omega) (s:={s with toks:=s.toks+knd.draws k}) e1 e2 (wpAny_pure (q2 none' _ ⟨_,_,ep+1,Heap.get?_update_self _ e1 (Obj.isFreed_of_dict (Obj.data_mapDictKeys e2 _)),ex.mapDictKeys _,Obj.data_mapDictKeys e2 _,?_,?_,?_⟩ (Heap.SameBut.update ..))))))
  ·rw[e4];simp[e3,entryOfKey]
  ·rw[e4];intro y hy;rcases aak.mp hy with hy|hy
   ·exact knd.keeps (his y hy) e1 e2 (Heap.SameBut.update ..)
   ·rw[aaj.mp hy];exact knd.keeps hk e1 e2 (Heap.SameBut.update ..)
  ·rw[e4,aam,List.nodup_append];refine⟨nd,by simp,fun y hy z hz' e=>not_mem_keys_of_get no ?_⟩;rw[aaw,List.map_nil,aaj] at hz';have hz':z=k:=hz';rw[←hz',←e];exact hy
 ·refine wpAny_bind (wpAny_dictEntries (s:={s with toks:=s.toks+knd.draws k}) e1 e2 ?_);rw[entry_at e3 j,hj];exact wpAny_bind (wpAny_rule (wpAny_pure (q1 p (atKey_of_get nd hj))))
end
end SL
namespace L2
open PySem PySem.W PySem.Spec PyProof.Rows
section
variable {X:Cx}{pins:List (Addr×Obj)}{σ:St}{H:Hp}{s:Shared}{a b:Addr}{v:V}{r:Value}{kvs:List (List Key×V)}{k:List Key}{A:Around}{E:Value->Shared->Prop}
theorem zc{Q:Value->Shared->Prop}(hu:A.units+1<cLine)(I:Inv X pins σ H s)(e:H a=some (.dT kvs))(eb:H b=some (.tup (k.map kV)))(hz:kvs.length<sizeLine)(rv:RelV v r)
  (h1:∀x w' s',bj kvs k=some x->Inv X pins σ H s'->RelV x w'->Q w' s')(h2:bj kvs k=none->∀s',Inv X pins σ (upd H a (.dT (putK kvs k v))) s'->Q r s') :
  wpAny (model X.prog X.w) A (call (.builtin "dict.setdefault") [.ref a,.ref b,r]) Q E s:=by
 obtain⟨z,lo,xs,rel,dd⟩:=wR I.hok e;have T:=dd.typeIs;refine wpAny_call_entry PySem.F.slot_dict_setdefault T PySem.F.entry_dict_setdefault ?_ (PySem.F.args_dict_setdefault_3 _ _ _);unfold Builtin.«dict.setdefault» Builtin.Dict.keyAndDefault;refine wpAny_bind (wpAny_bind (wpAny_notOrdered_dict T ?_));change wpAny (model X.prog X.w) _ (pure (a,Value.ref b,some r)) _ _ s;refine wpAny_pure ?_;change wpAny (model X.prog X.w) _ (if (a == sysModules)=true then _ else (dictSetDefault a (.ref b) r >>= _)) _ _ s;rw[if_neg (by rw[lo];decide)];have rv':=rel.val k;refine wpAny_bind (SL.tY (tupleKind_room_in1 hu) (gx I.hok eb) dd (by rw[←Paired.length rel];exact z) (fun p hp=>?_) fun hn h' dd' sb=>?_)
 ·rw[hp] at rv';cases q:bj kvs k with
  |none=>rw[q] at rv';exact rv'.elim
  |some x=>
   rw[q] at rv';exact wpAny_pure ⟨_,rfl,h1 x _ _ q (I.tok _) rv'⟩
 ·rw[hn] at rv';have q:bj kvs k=none:=by
   cases q:bj kvs k with
   |none=>rfl
   |some x=>rw[q] at rv';exact rv'.elim
  have hl:(putK kvs k v).length<=sizeLine:=by have:=fG kvs k v;omega
  obtain⟨o',es,ep,hq,c2,c3,c4,_,c5⟩:=dd';refine wpAny_pure ⟨_,rfl,h2 q _ (jA I (by rw[e];exact True.intro) sb ⟨o',hq⟩ ⟨hl,lo,_,(rel.put k eb rv).keeps fun c ys ec=>?_,o',es,ep,hq,c2,c3,c4,c5⟩)⟩;rw[aj (mY ec e (fun z=>nomatch z))];exact ec
theorem zd{x:Str}{u:Value}{Q:Value->Shared->Prop}(hu:A.units+1<cLine)(I:Inv X pins σ H s)(e:Rd H a (.dT kvs))(ru:RelV (.str x) u)(h:∀s',Inv X pins σ H s'->Q r s') :
  wpAny (model X.prog X.w) A (call (.builtin "dict.get") [.ref a,u,r]) Q E s:=by
 obtain⟨t,rfl⟩:=ru;obtain⟨z,lo,xs,rel,dd⟩:=gI I.hok e;refine wpAny_call_entry PySem.F.slot_dict_get dd.typeIs PySem.F.entry_dict_get ?_ (PySem.F.args_dict_get_3 _ _ _);change wpAny (model X.prog X.w) _ (dictGet a (.str x t) >>= _) _ _ s;refine wpAny_bind (SL.xS (tupleKind_room_in1 (prog:=X.prog) (w:=X.w) (knd:=bI X.prog X.w) hu) dd ?_);change wpAny (model X.prog X.w) _ (Builtin.Dict.missed a (.str x t) >>= _) _ _ _;exact wpAny_bind (wpAny_missed_other lo (wpAny_pure ⟨r,rfl,h _ (I.tok _)⟩))
end
def zX(td ty tx:TE):TE:=fun σ H Q=>td σ H fun x H1=>∃a,x=.ref a/\IsD H1 a/\ty σ H1 fun y H2=>tx σ H2 fun z H3=>∃kvs k b,H3 a=some (.dT kvs)/\y=.ref b/\H3 b=some (.tup (k.map kV))/\kvs.length<sizeLine/\
 (∀v,bj kvs k=some v->Q v H3)/\(bj kvs k=none->Q z (upd H3 a (.dT (putK kvs k z))))
def zY(td ty tx:TE):TE:=fun σ H Q=>td σ H fun x H1=>∃a,x=.ref a/\IsD H1 a/\ty σ H1 fun y H2=>tx σ H2 fun z H3=>(∃o,bR H3 a y o/\Q (o.getD z) H3)\/∃kvs t,Rd H3 a (.dT kvs)/\y=.str t/\Q z H3
section
variable {X:Cx}{o e f:Expr}{apos cpos:Pos}{td ty tx:TE}
theorem xT(hu:X.A.units+1<cLine)(ho:PE X o td)(he:PE X e ty)(hf:PE X f tx)(m:M2 X o "setdefault" apos e f cpos):PE X (.Call (.Attribute o "setdefault" apos) [e,f] [] cpos) (zX td ty tx):=by
 intro pins s σ H Q I h;refine wpAny_Call_method m.base m.few m.line PySem.F.plainAttrs_dict PySem.F.slot_dict_setdefault PySem.F.type_dict_setdefault (thn (ho pins s σ H _ I h) fun u s1 ⟨x,H1,I1,rx,a,ex,d,q1⟩=>?_);subst ex;obtain rfl:u=Value.ref a:=rx;obtain⟨t1,t2,_⟩:=nU I1 d;refine⟨t1,t2,?_⟩;rw[m.trees];refine Calls.callWith_builtin rfl (Calls.evalArgs_plain (Calls.spliced_cons (thn (he pins s1 σ H1 _ I1 q1) fun iv s2 ⟨y,H2,I2,ry,q2⟩=>
  Calls.spliced_cons (thn (hf pins s2 σ H2 _ I2 q2) fun fv s3 ⟨z,H3,I3,rz,kvs,k,b,ea,ey,eb,hz,q3,q4⟩=>Calls.spliced_nil ?_))))
 subst ey;cases (show iv=Value.ref b from ry)
 exact zc hu I3 ea eb hz rz (fun x w' s' hx I4 rx=>⟨x,H3,I4,rx,q3 x hx⟩) fun hn s' I4=>⟨z,_,I4,rz,q4 hn⟩
theorem xU(hu:X.A.units+1<cLine)(ho:PE X o td)(he:PE X e ty)(hf:PE X f tx)(m:M2 X o "get" apos e f cpos):PE X (.Call (.Attribute o "get" apos) [e,f] [] cpos) (zY td ty tx):=by
 intro pins s σ H Q I h;refine wpAny_Call_method m.base m.few m.line PySem.F.plainAttrs_dict PySem.F.slot_dict_get PySem.F.type_dict_get (thn (ho pins s σ H _ I h) fun u s1 ⟨x,H1,I1,rx,a,ex,d,q1⟩=>?_);subst ex;obtain rfl:u=Value.ref a:=rx;obtain⟨t1,t2,_⟩:=nU I1 d;refine⟨t1,t2,?_⟩;rw[m.trees];refine Calls.callWith_builtin rfl (Calls.evalArgs_plain (Calls.spliced_cons (thn (he pins s1 σ H1 _ I1 q1) fun iv s2 ⟨y,H2,I2,ry,q2⟩=>
  Calls.spliced_cons (thn (hf pins s2 σ H2 _ I2 q2) fun fv s3 ⟨z,H3,I3,rz,q3⟩=>Calls.spliced_nil ?_))))
 rcases q3 with ⟨ov,g,q3⟩|⟨kvs,t,hr,rfl,q3⟩
 ·exact sV hu I3 g ry rz fun w' s4 I4 rw'=>⟨_,H3,I4,rw',q3⟩
 ·exact zd hu I3 hr ry fun s4 I4=>⟨z,H3,I4,rz,q3⟩
end
end L2
namespace L2
open PySem PySem.W PySem.Spec PyProof.Rows
def cP(P:Addr)(H H':Hp):Prop:=∀b o,b≠P->H b=some o->H' b=some o
theorem cP.refl{P:Addr}{H:Hp}:cP P H H:=fun _ _ _ e=>e
def iR(c:Addr)(q:Str):HO:=.ext fun h=>∃o vs t,h.get? c=some o/\o.data=.fields vs/\vs[1]? =some (.str q t)
theorem vN{P:Program}{w:World}{H:Hp}{h:Heap}{c:Addr}{q:Str}(x:h.CodeRec (.ref c) q):bi P w H h c (iR c q):=by
 obtain⟨c',o,vs,t,e,h1,h2,h3⟩:=x;cases e
 exact⟨⟨o,vs,t,h1,h2,h3⟩,⟨o,h1⟩,fun h1 h2 ⟨o,vs,t,a,b⟩ k=>⟨o,vs,t,k o a,b⟩⟩
theorem tZ{P:Program}{w:World}{H:Hp}{h:Heap}{c:Addr}{q:Str}(ok:HOk P w H h)(e:H c=some (iR c q)):h.CodeRec (.ref c) q:=by
 obtain⟨⟨o,vs,t,a,b,d⟩,_⟩:=(show bi P w H h c (iR c q) from ok c _ e);exact⟨c,o,vs,t,rfl,a,b,d⟩
def cB(P:Addr)(pos:Pos)(q:Str)(H:Hp):Prop:=∃ps,H P=some (.tbl ps)/\TriplesOk ps.toList/\(codeAmong pos ps.toList=none\/∃c,codeAmong pos ps.toList=some (.ref c)/\H c=some (iR c q))
theorem cB.ne{P:Addr}{pos:Pos}{q:Str}{H:Hp}(T:cB P pos q H){b:Addr}{o:HO}(e:H b=some o)(h:∀ps,o≠.tbl ps):b≠P:=fun z=>by
 obtain⟨ps,h1,_⟩:=T;rw[z,h1] at e;exact h ps (Option.some.inj e).symm
theorem cB.mono{P:Addr}{pos:Pos}{q:Str}{H H':Hp}(T:cB P pos q H)(h:∀b o,H b=some o->H' b=some o):cB P pos q H':=by
 obtain⟨ps,h1,h2,h3⟩:=T;refine⟨ps,h _ _ h1,h2,?_⟩;rcases h3 with z|⟨c,z,y⟩
 ·exact .inl z
 ·exact .inr ⟨c,z,h _ _ y⟩
def Bm(mg:Str->Option Value)(base:Heap):Prop:=∃bm ob,mg "__builtins__"=some (.ref bm)/\bm≠builtinsNs/\base.get? bm=some ob/\ob.cls=.type "module"/\ob.dict=some builtinsNs/\ob.data=.plain
section
variable {X:Cx}{pins:List (Addr×Obj)}{σ:St}{H:Hp}{s:Shared}{A:Around}{E:Value->Shared->Prop}{c0 P:Addr}{params:Arguments}{body:Expr}{scope:Scope}{clos:List (Str×Addr)}{pos:Pos}
theorem vO{Q:Value->Shared->Prop}(I:Inv X pins σ H s)(hcode:X.env.code=.ref c0)(C:CodeHd X.base c0 P)(T:cB P pos (X.env.qual++"<lambda>") H)(hbm:Bm X.mg X.base)(hcl:closureFor scope X.env=pure clos)(hdef:defaultsOf params X.env=([],[]))
  (h:∀f c' pm ctv H2 s',cP P H H2->cB P pos (X.env.qual++"<lambda>") H2->H2 c'=some (iR c' (X.env.qual++"<lambda>"))->H2 f=none->s.heap.objs.size<=f->Inv X pins σ H2 s'->cJ X pins H2 f->
   s'.heap.get? f=some (kla_obj "<lambda>" (X.env.qual++"<lambda>") params body scope clos pm c' ctv)->s.heap.objs.size<=s'.heap.objs.size->Q (.ref f) s') :
  wpAny (model X.prog X.w) A (eval (.Lambda params body scope pos) X.env) Q E s:=by
 obtain⟨ps,hP,ht,hc⟩:=T;have oP:s.heap.get? P=some (tabObj ps):=(show bi X.prog X.w H s.heap P (.tbl ps) from I.hok P _ hP);obtain⟨bm,ob,b1,b2,b3,b4,b5,b6⟩:=hbm;have hg:s.heap.Ns mainGlobals X.mg:=I.mod.glob.keeps I.bk;have nP:∀b o,X.base.get? b=some o->b≠P:=fun b o e z=>by
  have:=(I.bs b o e).2;rw[z,hP] at this;cases this
 have hgP:mainGlobals≠P:=by
  obtain⟨o,es,ep,e,_⟩:=I.mod.glob;exact nP _ o e
 have hbG:bm≠mainGlobals:=fun z=>by
  obtain⟨o,es,ep,e,hd,_⟩:=I.mod.glob;rw[←z,b3] at e;cases e;rw[b6] at hd;cases hd
 have hB:s.heap.BuiltinsAt X.mg P:=⟨bm,ob,b1,b2,hbG,nP bm ob b3,I.bk _ _ b3,b4,b5,b6⟩;refine kla_eval hdef ?_;rcases hc with hn|⟨c',hc',hcO⟩
 ·refine kla_makeFunction (mg:=X.mg) hcl I.ok.glob hg hcode (C.keeps I.bk) oP ht hn hgP hB fun c' ctv h' tk hx hge hlt hrec htb=>?_
  have kf:∀b o,h'.get? b=some o->(h'.push (kla_obj "<lambda>" (X.env.qual++"<lambda>") params body scope clos ((X.mg "__name__").getD .none) c' ctv)).get? b=some o:=fun b o e=>aaf _ e
  have hsz:s.heap.objs.size<=h'.objs.size:=Nat.le_of_lt (Nat.lt_of_le_of_lt hge hlt);have c'n:H c'=none:=I.hok.fresh hge;have c'P:c'≠P:=fun z=>by rw[z,hP] at c'n;cases c'n
  generalize hH2:upd (upd H P (.tbl (ps++#[rawInt pos.line,rawInt pos.col,.ref c']))) c' (iR c' (X.env.qual++"<lambda>"))=H2;have at1:H2 c'=some (iR c' (X.env.qual++"<lambda>")):=by rw[←hH2,aa]
  have at2:H2 P=some (.tbl (ps++#[rawInt pos.line,rawInt pos.col,.ref c'])):=by rw[←hH2,aj (Ne.symm c'P),aa]
  have at3:∀b,b≠P->b≠c'->H2 b=H b:=fun b n1 n2=>by rw[←hH2,aj n2,aj n1]
  have sT:cP P H H2:=fun b o n e=>by rw[at3 b n (fun z=>by rw[z,c'n] at e;cases e)];exact e
  have nn:∀b,H b=none->b<s.heap.objs.size->H2 b=none:=fun b n l=>by
   rw[at3 b (fun z=>by rw[z,hP] at n;cases n) (Nat.ne_of_lt (Nat.lt_of_lt_of_le l hge))];exact n
  have fn:H2 h'.objs.size=none:=by
   have lP:=Heap.lt_size oP;rw[at3 _ (Nat.ne_of_gt (Nat.lt_of_lt_of_le lP hsz)) (Nat.ne_of_gt hlt)];exact I.hok.fresh hsz
  have hok:HOk X.prog X.w H2 (h'.push (kla_obj "<lambda>" (X.env.qual++"<lambda>") params body scope clos ((X.mg "__name__").getD .none) c' ctv)):=fun b u e=>by
   by_cases e1:b=c'
   ·rw[e1,at1] at e;cases e;rw[e1];exact vN (hrec.push _)
   ·by_cases e2:b=P
    ·rw[e2,at2] at e;cases e;rw[e2];exact kf _ _ htb
    ·rw[at3 b e2 e1] at e;refine(I.hok b u e).eK (fun d v hd q=>kf _ _ (hx d v (fun z=>?_) q)) (fun d q=>sT d _ (fun z=>?_) q) fun d xs q=>sT d _ (fun z=>?_) q
     ·rcases hd with hd|hd
      ·exact e2 (hd.symm.trans z)
      ·rw[z,hP] at hd;cases hd
     ·rw[z,hP] at q;cases q
     ·rw[z,hP] at q;cases q
  have J:Inv X pins σ H2 {s with heap:=h'.push (kla_obj "<lambda>" (X.env.qual++"<lambda>") params body scope clos ((X.mg "__name__").getD .none) c' ctv),toks:=tk}:=by
   have kp:∀b o,s.heap.get? b=some o->H b=none->(h'.push (kla_obj "<lambda>" (X.env.qual++"<lambda>") params body scope clos ((X.mg "__name__").getD .none) c' ctv)).get? b=some o:=fun b o e n=>kf _ _ (hx b o (fun z=>by rw[z,hP] at n;cases n) e)
   refine I.step (g':=s.gens) (d':=s.drawn) (t':=tk) (ch:=[]) (fun _ z=>nomatch z) (fun b o _ _ _ e n=>kp b o e n) (fun b o _ _ _ e n=>⟨o.slots,kp b o e n⟩) (fun b o _ e n=>nn b n (Heap.lt_size e)) (fun b o _ e=>?_) (fun b xs e=>sT b _ (fun z=>?_) e) (fun b o u e=>sT b _ (fun z=>?_) e) (fun b qs e=>?_) (fun m hm=>?_) hok I.bare
   ·by_cases z:b=P
    ·exact⟨_,by rw[z];exact kf _ _ htb⟩
    ·exact⟨o,kf _ _ (hx b o z e)⟩
   ·rw[z,hP] at e;cases e
   ·rw[z,hP] at e;cases e
   ·by_cases z:b=P
    ·rw[z,hP] at e;cases e;exact⟨_,by rw[z];exact at2⟩
    ·exact⟨#[],by rw[sT b _ z e];simp⟩
   ·obtain⟨o,es,ep,ho,r⟩:=hm;exact⟨o,es,ep,kp _ o ho I.free,r⟩
  have T2:cB P pos (X.env.qual++"<lambda>") H2:=by
   have el:(ps++#[rawInt pos.line,rawInt pos.col,Value.ref c']).toList=ps.toList++[rawInt pos.line,rawInt pos.col,.ref c']:=by simp
   refine⟨_,at2,by rw[el];exact TriplesOk_snoc _ _ _ _ ht,.inr ⟨c',by rw[el];exact codeAmong_snoc _ ht hn,at1⟩⟩
  exact h _ c' _ ctv H2 _ sT T2 at1 fn hsz J (I.g8 hsz fn) (aay _ rfl) (by show _<=(h'.push _).objs.size;rw[Heap.size_push];omega)
 ·refine kla_makeFunctionHit (mg:=X.mg) hcl I.ok.glob hg hcode (C.keeps I.bk) oP ht hc' hB fun ctv h' tk hk hsz=>?_
  have fn:H h'.objs.size=none:=I.hok.fresh hsz;exact h _ c' _ ctv H _ cP.refl ⟨ps,hP,ht,.inr ⟨c',hc',hcO⟩⟩ hcO fn hsz (I.kept (t':=tk) fun b o e=>aaf _ (hk b o e)) (I.g8 hsz fn) (aay _ rfl) (by show _<=(h'.push _).objs.size;rw[Heap.size_push];omega)
end
def k7(X:Cx)(qual:Str)(scope:Scope)(cl:List (Str×Addr))(x y:Str)(f c':Addr)(A:Around)(s₃:Shared)(H₃:Hp):Cx where
 prog:=X.prog
 w:=X.w
 K:=X.K
 mg:=X.mg
 base:=X.base
 A:=A.deeper (envX qual scope s₃.heap.objs.size f (.ref c') cl)
 N:=[x,y]
 s₀:=s₃
 H₀:=H₃
 env:=envX qual scope s₃.heap.objs.size f (.ref c') cl
 outer:=X.stack
 stack:=envX qual scope s₃.heap.objs.size f (.ref c') cl::X.stack
 ex:=[]
 fn:=fun _=>false
 calm:=true
 pn:=[]
 xe:=fun _ _=>False
structure gh(X:Cx)(params:Arguments)(scope:Scope)(c:Addr)(x y:Str)(i:Nat):Prop where
 names:scope.names=[(x,.local),(y,.free)]
 ne:(y == x)=false
 kind:scope.kind=.function
 co:scope.isCoroutine=false
 gen:scope.isGenerator=false
 clos:closureFor scope X.env=pure [(y,c)]
 cell:X.env.cells.lookup y=some c
 out:X.N[i]? =some y
 loc:X.env.scope.names.lookup y=some .cell
 dflt:defaultsOf params X.env=([],[])
 bind:∀(q:Str) (body:Expr) (pm cd ct u:Value),bindArgs (kla_fn "<lambda>" q params body scope [(y,c)] pm cd ct) ⟨[u],[]⟩=pure [(x,u)]
section
variable {X:Cx}{pins:List (Addr×Obj)}{σ:St}{H:Hp}{s:Shared}{A:Around}{E:Value->Shared->Prop}{params:Arguments}{body:Expr}{scope:Scope}{c f c':Addr}{x y qual:Str}{i:Nat}
theorem gh.lx(L:gh X params scope c x y i):scope.names.lookup x=some .local:=by rw[L.names,List.lookup_cons,beq_self_eq_true]
theorem gh.ly(L:gh X params scope c x y i):scope.names.lookup y=some .free:=by
 rw[L.names,List.lookup_cons,L.ne];show List.lookup y [(y,NameKind.free)]=_;rw[List.lookup_cons,beq_self_eq_true]
theorem gh.only(L:gh X params scope c x y i){z:Str}{k:NameKind}(h:scope.names.lookup z=some k):(z=x/\k=.local)\/(z=y/\k=.free):=by
 have:=lookup_mem h;rw[L.names] at this;rcases List.mem_cons.mp this with e|e
 ·cases e;exact .inl ⟨rfl,rfl⟩
 ·rcases List.mem_cons.mp e with e|e
  ·cases e;exact .inr ⟨rfl,rfl⟩
  ·cases e
theorem t6(L:gh X params scope c x y i)(I:Inv X pins σ H s)(hA:A.frames=some X.stack)(hd:A.handled=none){v w':V}{u:Value}(rv:RelV v u)(hi:σ[i]? =some (some w')){h1:Heap}{tk:Nat}
  (hn:h1.Ns s.heap.objs.size (fun z=>[(x,u)].reverse.lookup z))(k:∀b o,s.heap.get? b=some o->h1.get? b=some o) :
  Inv (k7 X qual scope [(y,c)] x y f c' A s H) [] [some v,some w'] H {s with heap:=h1,toks:=tk}:=by
 have clK:∀z d,([(y,c)]:List (Str×Addr)).lookup z=some d->z=y/\d=c:=fun z d h=>by
  have:=lookup_mem h;rw[aaj] at this;cases this
  exact⟨rfl,rfl⟩
 have cly:([(y,c)]:List (Str×Addr)).lookup y=some c:=by rw[List.lookup_cons,beq_self_eq_true]
 have noA:∀b:Addr,b ∉ (k7 X qual scope [(y,c)] x y f c' A s H).ex:=fun b z=>absurd (show b∈([]:List Addr) from z) (by simp)
 obtain⟨u',r',l'⟩:∃u,RelV w' u/\s.heap.IsCell c (some u):=by
  obtain⟨m,hm,hl⟩:=I.loc;obtain⟨u,r,l⟩:=hl i y w' L.out hi (.inr (.inl L.loc));rcases l with ⟨k1,_⟩|⟨_,d,hc,hcell⟩
  ·have k1:X.env.scope.names.lookup y=some .local:=k1;rw[L.loc] at k1;cases k1
  ·rw[L.cell] at hc;cases hc;exact⟨u,r,hcell⟩
 refine⟨⟨I.ok.mod,L.kind,rfl,rfl,Nat.le_refl _,fun a b d h1 h2=>?_,fun a ha=>?_,fun a d h=>absurd (show false=true from h) (by decide),fun _=>hd,Around.frames_deeper hA,.inr ⟨rfl,rfl⟩,fun b z=>absurd z (noA b),I.bs,Nat.le_trans I.ok.bsz I.sz,fun b _ _=>noA b,fun b z=>absurd z (noA b),I.stack,I.lB⟩,
  rfl,I.bare,Un.kept k,⟨_,hn,fun j z v' e1 e2 e3=>?_⟩,fun z d h=>?_,I.hok.fresh (Nat.le_refl _),fun z d h=>?_,fun p hp=>absurd (show p∈([]:List (Addr×Obj)) from hp) (by simp),I.hok.kept k,rfl⟩
 ·exact(clK a d h1).1.trans (clK b d h2).1.symm
 ·have ha:scope.names.lookup a=some .cell\/scope.names.lookup a=some .free:=ha;rcases ha with ha|ha
  ·rcases L.only ha with ⟨_,z⟩|⟨_,z⟩ <;> cases z
  ·rcases L.only ha with ⟨_,z⟩|⟨z,_⟩
   ·cases z
   ·rw[z];exact⟨c,cly⟩
 ·have e1:([x,y]:List Str)[j]? =some z:=e1;rcases j with _|_|j
  ·have e1:some x=some z:=e1;have e2:some (some v)=some (some v'):=e2;cases e1;cases e2
   exact⟨u,rv,.inl ⟨L.lx,by show([(x,u)]:List (Str×Value)).lookup x=_;rw[List.lookup_cons,beq_self_eq_true]⟩⟩
  ·have e1:some y=some z:=e1;have e2:some (some w')=some (some v'):=e2;cases e1;cases e2
   obtain⟨o,h2,h3⟩:=l';exact⟨u',r',.inr ⟨.inr L.ly,c,cly,o,k _ _ h2,h3⟩⟩
  ·simp at e1
 ·obtain⟨e1,e2⟩:=clK z d h;rw[e2];obtain⟨o,h2,h3⟩:=l';exact⟨_,o,k _ _ h2,h3⟩
 ·obtain⟨e1,e2⟩:=clK z d h;rw[e2];exact I.freeC y c L.cell
theorem vP{pm ctv:Value}{tb:TE}{R:VK}{v w':V}{u:Value}(L:gh X params scope c x y i)(I:Inv X pins σ H s)(hA:A.frames=some X.stack)(hd:A.handled=none)(hroom:A.depth<recursionLimit)
  (ho:s.heap.get? f=some (kla_obj "<lambda>" qual params body scope [(y,c)] pm c' ctv))(hcd:s.heap.CodeRec (.ref c') qual)(rv:RelV v u)(hi:σ[i]? =some (some w'))
  (hb:PE (k7 X qual scope [(y,c)] x y f c' A s H) body tb)(h:tb [some v,some w'] H R):wpAny (model X.prog X.w) A (call (.ref f) [u]) (EP X pins σ R) E s:=by
 refine wpAny_call ?_;refine kla_callFunE (o:=kla_obj "<lambda>" qual params body scope [(y,c)] pm c' ctv) (fd:=kla_fn "<lambda>" qual params body scope [(y,c)] pm (.ref c') ctv) (body:=body) hroom ho rfl L.co L.gen rfl hcd ?_;rw[L.bind qual body pm (.ref c') ctv u];refine wpAny_pure (wpAny_newFunctionEnv (fun z hz e=>?_) (fun z hz=>?_) (fun h1 hns hsb=>?_) L.kind)
 ·rw[show(kla_fn "<lambda>" qual params body scope [(y,c)] pm (.ref c') ctv).scope.names=scope.names from rfl,L.names] at hz;rcases List.mem_cons.mp hz with q|q
  ·rw[q] at e;cases e
  ·rw[aaj.mp q] at e;cases e
 ·rw[aaj.mp hz];exact L.lx
 ·have k:∀b o,s.heap.get? b=some o->h1.get? b=some o:=fun b o e=>hsb.extBut b o (Nat.ne_of_lt (Heap.lt_size e)) (aaf _ e)
  refine⟨I.nolimit.keeps k,?_⟩;change codeAny (model X.prog X.w) A (.expr body (envX qual scope s.heap.objs.size f (.ref c') [(y,c)])) _ _;have J:=t6 (qual:=qual) (f:=f) (c':=c') (tk:=s.toks+[(x,u)].length) L I hA hd rv hi hns k;refine kla_codeExpr (wpAny_mono (hb [] _ _ H R J h) (fun z s' hz=>?_) fun _ _ q=>q.elim);obtain⟨r,H',J',rr,q⟩:=hz;exact I.after ⟨r,H',J'.os,J'.bare,J'.base,J'.hok,rr,q⟩
end
end L2
namespace L2
open PySem PySem.W PySem.Spec PyProof.Rows
open SL (kh Ord Bas Asc cn kY cK lZ l3 jo)
section
variable {X:Cx}{pins:List (Addr×Obj)}{σ:St}{H:Hp}{s:Shared}{A:Around}{E:Value->Shared->Prop}
theorem Inv.rA{more:List (Addr×Obj)}(I:Inv X (pins++more) σ H s):Inv X pins σ H s:=I.gm fun p hp=>I.pin p (aar _ (List.mem_append_left _ hp))
theorem cJ.rB{b:Addr}{o:Obj}(f:cJ X pins H b)(e:s.heap.get? b=some o)(hc:∀v,o.data≠.cell v):s.heap.get? (b,o).1=some (b,o).2/\H (b,o).1=none/\(b,o).1≠X.env.locals/\(b,o).1 ∉ X.fs/\∀v,(b,o).2.data≠.cell v:=⟨e,f.1,f.2.1,f.2.2.1,hc⟩
theorem Inv.nj{b:Addr}{h':Heap}{tk:Nat}(I:Inv X pins σ H s)(f:cJ X pins H b)(k:∀d o,d≠b->s.heap.get? d=some o->h'.get? d=some o):Inv X pins σ H {s with heap:=h',toks:=tk}:=
 I.turned k f.1 f.2.1 f.2.2.2.1 f.2.2.2.2.1 f.2.2.2.2.2
theorem Inv.with2{a b:Addr}{oa ob:Obj}(I:Inv X pins σ H s)(fa:cJ X pins H a)(fb:cJ X pins H b)(ea:s.heap.get? a=some oa)(eb:s.heap.get? b=some ob)(ca:∀v,oa.data≠.cell v)(cb:∀v,ob.data≠.cell v) :
  Inv X (pins++[(a,oa),(b,ob)]) σ H s:=I.gm fun p hp=>by
 rcases aak.mp hp with hp|hp
 ·exact I.pin p (aar _ hp)
 ·rcases List.mem_cons.mp hp with rfl|hp
  ·exact fa.rB ea ca
  ·rw[aaj.mp hp];exact fb.rB eb cb
def KeysAre(cost:Nat->Int)(ks:List Value):Prop:=∀(i:Nat) (v:Value),ks[i]? =some v->∃t,v=.int (cost i) t
theorem KeysAre.snoc{cost:Nat->Int}{ks:List Value}{t:Tok}(h:KeysAre cost ks):KeysAre cost (ks++[.int (cost ks.length) t]):=fun i v e=>by
 by_cases hi:i<ks.length
 ·rw[List.getElem?_append_left hi] at e;exact h i v e
 ·rw[List.getElem?_append_right (by omega)] at e;have:i - ks.length=0:=by
   cases q:i - ks.length with
   |zero=>rfl
   |succ j=>rw[q] at e;simp at e
  have hi':i=ks.length:=by omega
  rw[this] at e;simp at e;rw[hi'];exact⟨t,e.symm⟩
theorem ze(cost:Nat->Int):Ord (fun i j=>decide (cost i<cost j)) where
 tr:=fun a b c h1 h2=>by simp only[decide_eq_false_iff_not] at *;omega
 as:=fun a b h=>by simp only[decide_eq_false_iff_not,decide_eq_true_eq] at *;omega
theorem t7{prog:Program}{w:World}{cost:Nat->Int}{ks:List Value}(h2:2<=ks.length)(h:KeysAre cost ks):kh prog w A s ks (fun i j=>decide (cost i<cost j)):=by
 refine⟨oneType',fun Q E q=>?_,fun i j C hi hj hC=>?_⟩
 ·refine kas_kind h2 (T:=Value.type "int") (fun v hv=>?_) (by decide) (by decide) q;obtain⟨i,hi⟩:=List.mem_iff_getElem?.mp hv;obtain⟨t,rfl⟩:=h i v hi;exact Looks.of_pure rfl
 ·unfold kas_ask;obtain⟨t,e⟩:=h i _ (aae hi);obtain⟨t',e'⟩:=h j _ (aae hj);rw[aat,aat,aae hi,aae hj,Option.getD_some,Option.getD_some,e,e'];exact kat_lt_int hC
theorem k8{T:String}{xs:Array Value}{n:Nat}:∀v,(seqObj T xs n).data≠.cell v:=fun v z=>by cases z
theorem rC{a:Addr}{vs:List Value}{n:Nat}{f:Value}{cost:Nat->Int}{P:PySem.Fin->Shared->Prop}(I:Inv X pins σ H s)(hx:s.heap.get? a=some (seqObj "list" vs.toArray n))(fa:cJ X pins H a)(h64:vs.length<64)
  (hcall:∀more s1 i v,Inv X (pins++more) σ H s1->vs[i]? =some v->wpAny (model X.prog X.w) A (call f [v]) (EP X (pins++more) σ fun r H'=>r=.int (cost i)/\H'=H) (fun _ _=>False) s1)
  (fin:∀p s' e,Bas vs.length p->Asc (fun i j=>decide (cost i<cost j)) p vs.length->Inv X pins σ H s'->s'.heap.get? a=some (seqObj "list" (cn vs p).toArray e)->P (.done (.ret .none)) s') :
  wpAny (model X.prog X.w) A (ksk_tree a f false) P E s:=by
 obtain⟨e1,hx1⟩:∃e1,(s.heap.update a (Obj.mapSeq fun _=>(#[]:Array Value))).get? a=some (seqObj "list" #[] e1):=⟨_,get?_update_seq hx fun _=>#[]⟩;have hz:∀m,m<=vs.length->m<=sizeLine:=fun m hm=>by rw[sizeLine_eq];omega
 have la:a<s.heap.objs.size:=Heap.lt_size hx;unfold ksk_tree;refine wpAny_bind (listItems_at hx rfl (wpAny_bind (listUpdate_at hx rfl ?_ (by rw[aaq];exact hz _ (Nat.le_refl _)) (Nat.zero_le _))));refine wpAny_bind (seqEpoch_at hx1 rfl (wpAny_bind (wpAny_newTuple (wpAny_bind (wpAny_newList (wpAny_holding ?_) (Nat.zero_le _))) (hz _ (Nat.le_refl _)))));have szT:((s.heap.update a (Obj.mapSeq fun _=>(#[]:Array Value))).push (seqObj "tuple" vs.toArray 0)).objs.size=s.heap.objs.size+1:=by rw[size_push',Heap.size_update]
 generalize hh:((s.heap.update a (Obj.mapSeq fun _=>(#[]:Array Value))).push (seqObj "tuple" vs.toArray 0)).push (seqObj "list" #[] 0)=h2;have k2:∀b o,b≠a->s.heap.get? b=some o->h2.get? b=some o:=fun b o hb e=>by
  rw[←hh];exact aaf _ (aaf _ (((Heap.SameBut.update ..).2 b hb).trans e))
 have a2:h2.get? a=some (seqObj "list" #[] e1):=by rw[←hh];exact aaf _ (aaf _ hx1)
 have b2:h2.get? (s.heap.objs.size+1)=some (seqObj "list" #[] 0):=by rw[←hh,←szT];exact aay _ rfl
 have fb:cJ X pins H (s.heap.objs.size+1):=I.g8 (Nat.le_succ _) (I.hok.fresh (Nat.le_succ _));have hab:a≠s.heap.objs.size+1:=Nat.ne_of_lt (Nat.lt_succ_of_lt la);have I2:Inv X (pins++[(a,seqObj "list" #[] e1),(s.heap.objs.size+1,seqObj "list" #[] 0)]) σ H {s with heap:=h2}:=(I.nj (tk:=s.toks) fa k2).with2 fa fb a2 b2 k8 k8;clear hh;have go:wpAny (model X.prog X.w) A (ksk_rest a f false vs.toArray e1 (.ref (s.heap.objs.size+1))) P E {s with heap:=h2}:=by
  generalize s.heap.objs.size+1=kS at I2 b2 fb hab;unfold ksk_rest;refine wpAny_bind (wpAny_rule ?_)
  first
   |rw[List.forIn_toArray]
   |(rw[←Array.forIn_toList];simp only[List.toList_toArray])
   |rw[←Array.forIn_toList]
  refine wpAny_bind (wpAny_forIn_list _ (fun rest (r:PUnit) s'=>∃ks e,rest=vs.drop ks.length/\ks.length<=vs.length/\KeysAre cost ks/\Inv X (pins++[(a,seqObj "list" #[] e1),(kS,seqObj "list" (List.toArray ks) e)]) σ H s') _ ?_ ?_ vs _ ⟨[],0,rfl,Nat.zero_le _,fun i v h=>by simp at h,I2⟩)
  ·rintro v rest r s1 ⟨ks,e,hr,hl,hk,J⟩;have hlt:ks.length<vs.length:=by
    rcases Nat.lt_or_ge ks.length vs.length with z|z
    ·exact z
    ·rw[List.drop_eq_nil_of_le z] at hr;cases hr
   have hv:vs[ks.length]? =some v/\rest=vs.drop (ks.length+1):=by
    rw[List.drop_eq_getElem_cons hlt] at hr;injection hr with h1 h2;exact⟨by rw[aae hlt,h1],h2⟩
   refine wpAny_bind (wpAny_attempt (wpAny_mono (hcall _ s1 ks.length v J hv.1) (fun kv s2 hq=>?_) fun _ _ z=>z.elim));obtain⟨r',H',J2,rr,rfl,eH⟩:=hq;rw[eH] at J2;obtain⟨t,rfl⟩:=rr;have g1:=(J2.pin (kS,seqObj "list" (List.toArray ks) e) (aar _ (aar _ (aad _ (aac ..))))).1;have g2:=(J2.pin (a,seqObj "list" #[] e1) (aar _ (aar _ (aac ..)))).1;have ep:(List.toArray ks).push (.int (cost ks.length) t)=List.toArray (ks++[.int (cost ks.length) t]):=by simp
   obtain⟨e3,g3⟩:∃e3,(s2.heap.update kS (Obj.mapSeq (·.push (.int (cost ks.length) t)))).get? kS=some (seqObj "list" (List.toArray (ks++[.int (cost ks.length) t])) e3):=⟨_,by rw[←ep];exact get?_update_seq g1 (·.push (.int (cost ks.length) t))⟩
   try dsimp only
   refine wpAny_bind (listUpdate_at g1 rfl ?_ (by rw[aaq];exact hz _ (by omega)) (by rw[Array.size_push,aaq];exact Nat.le_succ_of_le (hz _ (by omega))));have J3:Inv X pins σ H {s2 with heap:=s2.heap.update kS (Obj.mapSeq (·.push (.int (cost ks.length) t)))}:=J2.rA.nj (tk:=s2.toks) fb fun d o hd z=>((Heap.SameBut.update ..).2 d hd).trans z
   refine wpAny_pure ⟨ks++[.int (cost ks.length) t],e3,by rw[aag,aav];exact hv.2,by rw[aag,aav];omega,hk.snoc,?_⟩;exact J3.with2 fa fb (((Heap.SameBut.update ..).2 a hab).trans g2) g3 k8 k8
  ·rintro r s1 ⟨ks,e,hr,hl,hk,J⟩;have hlen:ks.length=vs.length:=by
    have:=congrArg List.length hr;rw[List.length_nil,List.length_drop] at this;omega
   have g1:=(J.pin (kS,seqObj "list" (List.toArray ks) e) (aar _ (aar _ (aad _ (aac ..))))).1;have g2:=(J.pin (a,seqObj "list" #[] e1) (aar _ (aar _ (aac ..)))).1;have J0:=J.rA
   try dsimp only
   refine wpAny_bind (listItems_at g1 rfl ?_);have tail:∀(st:SortSt) (p:Array Nat),Bas vs.length p->Asc (fun i j=>decide (cost i<cost j)) p vs.length->(arrOf st).map (·.2)=(cn vs p).toArray->failedOf st=none->wpAny (model X.prog X.w) A (ksk_tail a false e1 (.ref kS) st) P E s1:=by
    intro st p hB hS ho hf;unfold ksk_tail
    try dsimp only
    rw[ho,hf];have hsz:(cn vs p).toArray.size<=sizeLine:=by rw[aaq,l3 hB];exact hz _ (Nat.le_refl _)
    have g2':(s1.heap.update kS (Obj.mapSeq fun _=>(#[]:Array Value))).get? a=some (seqObj "list" #[] e1):=((Heap.SameBut.update ..).2 a hab).trans g2;refine wpAny_bind (listUpdate_at g1 rfl (wpAny_bind (wpAny_letGo (wpAny_bind (seqEpoch_at g2' rfl (wpAny_bind (listUpdate_at g2' rfl ?_ (Nat.zero_le _) (Nat.le_succ_of_le hsz))))))) (by rw[aaq];exact hz _ (by omega)) (Nat.zero_le _));simp only[bne_self_eq_false,Bool.false_eq_true,if_false];have J4:Inv X pins σ H {s1 with heap:=s1.heap.update kS (Obj.mapSeq fun _=>(#[]:Array Value))}:=J0.nj (tk:=s1.toks) fb fun d o hd z=>((Heap.SameBut.update ..).2 d hd).trans z
    have J5:Inv X pins σ H {s1 with heap:=(s1.heap.update kS (Obj.mapSeq fun _=>(#[]:Array Value))).update a (Obj.mapSeq fun _=>(cn vs p).toArray)}:=J4.nj (tk:=s1.toks) fa fun d o hd z=>((Heap.SameBut.update ..).2 d hd).trans z
    obtain⟨e4,g4⟩:∃e4,((s1.heap.update kS (Obj.mapSeq fun _=>(#[]:Array Value))).update a (Obj.mapSeq fun _=>(cn vs p).toArray)).get? a=some (seqObj "list" (cn vs p).toArray e4):=⟨_,get?_update_seq g2' fun _=>(cn vs p).toArray⟩;exact wpAny_pure (fin p _ e4 hB hS J5 g4)
   unfold ksk_end
   try dsimp only
   simp only[Bool.false_eq_true,if_false]
   by_cases h2':vs.toArray.size<2
   ·rw[if_pos h2',if_pos h2'];rw[aaq] at h2';refine wpAny_bind (wpAny_pure (wpAny_bind (wpAny_pure ?_)));refine tail _ (List.range vs.length).toArray (Array.Perm.refl _) (SL.Asc.few (ze cost) h2') ?_ rfl;rw[jo];apply Array.toList_inj.mp;simp;exact List.map_snd_zip (by omega)
   ·rw[if_neg h2',if_neg h2'];rw[aaq] at h2';obtain⟨κ,hκ,hask⟩:=t7 (s:=s1) (A:=A) (prog:=X.prog) (w:=X.w) (by omega) hk;refine wpAny_bind (hκ _ _ ?_);refine wpAny_bind (wpAny_mono (kat_run (Q:=fun st' s'=>∃p:Array Nat,arrOf st'=p.map (kas_item ((List.toArray ks).zip vs.toArray))/\failedOf st'=none/\(Bas vs.length p/\Asc (fun i j=>decide (cost i<cost j)) p vs.length)/\s'=s1) (ks:=ks) hlen (by omega) h64
     (G:=fun p s'=>(Bas vs.length p/\Asc (fun i j=>decide (cost i<cost j)) p vs.length)/\s'=s1) (fun p st' s' _ q1 q2 q3=>⟨p,q1,q2,q3⟩) (kY (fun i j C hi hj=>hask i j C (by omega) (by omega)) _ (cK (fun p hp=>⟨hp,rfl⟩) _ (lZ (ze cost) (by omega))))) ?_ fun _ _ z=>z)
    rintro⟨⟨⟩,st'⟩ s' ⟨p,q1,q2,⟨q3,q4⟩,rfl⟩;exact tail st' p q3 q4 (kat_snds hlen q1) q2
 rw[szT];exact go
end
end L2
namespace L2
open PySem PySem.W PySem.Spec PyProof.Rows
open SL (eD kh Ord Bas Asc cn)
section
variable {X:Cx}{pins:List (Addr×Obj)}{σ:St}{H:Hp}{s:Shared}{A:Around}{E:Value->Shared->Prop}
theorem Inv.zZ{D:Addr}{o:HO}(I:Inv X pins σ H s)(f:cJ X pins H D)(ok:bi X.prog X.w (upd H D o) s.heap D o):Inv X pins σ (upd H D o) s:=by
 obtain⟨f1,f2,f3,f4,f5,f6⟩:=f;have nD:∀b u,H b=some u->b≠D:=fun b u e z=>by rw[z,f1] at e;cases e
 have n0:∀b u,X.s₀.heap.get? b=some u->b ∉ X.ex->b≠D:=fun b u e hx z=>by
  rcases f4 with q|q
  ·exact hx (z▸q)
  ·exact absurd (Nat.lt_of_lt_of_le (Heap.lt_size e) (z▸q)) (Nat.lt_irrefl _)
 refine⟨I.ok,I.os,I.bare,⟨I.base.keep,I.base.slot,fun b u e n hx=>?_,I.base.there,fun b xs e=>?_,fun b u v e=>?_,fun b ps e=>?_⟩,I.loc,I.cell,?_,fun x c e=>?_,fun p hp=>?_,fun b u e=>?_,I.len⟩
 ·rw[aj (n0 b u e hx)];exact I.base.free b u e n hx
 ·have:=I.base.tups b xs e;rw[aj (nD _ _ this)];exact this
 ·have:=I.base.frzs b u v e;rw[aj (nD _ _ this)];exact this
 ·obtain⟨m,q⟩:=I.base.tbls b ps e;exact⟨m,by rw[aj (nD _ _ q)];exact q⟩
 ·rw[aj (Ne.symm f2)];exact I.free
 ·rw[aj (f5 x c e)];exact I.freeC x c e
 ·obtain⟨a1,a2,a3⟩:=I.pin p hp;exact⟨a1,by rw[aj (f6 p hp)];exact a2,a3⟩
 ·by_cases hb:b=D
  ·rw[hb,aa] at e;cases e;rw[hb];exact ok
  ·rw[aj hb] at e;exact(I.hok b u e).eK (fun _ _ _ q=>q) (fun c q=>by rw[aj (nD _ _ q)];exact q) fun c xs q=>by rw[aj (nD _ _ q)];exact q
theorem mG{α:Type}(g:α->Addr):∀l:List α,Vals (l.map fun z=>V.ref (g z)) (l.map fun z=>Value.ref (g z))
 |[]=>.nil
 |a::l=>.cons rfl (mG g l)
end
def zf(P:Addr)(pos:Pos)(q:Str)(i:Nat)(ta:TA)(tb:TE):TE:=fun σ H Q=>ta σ H fun x H1=>∃(p:Addr) (kvs:List (List Key×V)) (w':V) (cost:List Key->Int),x=[.ref p]/\H1 p=some (.dT kvs)/\kvs.length<64/\cB P pos q H1/\σ[i]? =some (some w')/\
 ∀H2,cP P H1 H2->cB P pos q H2->(∀kv∈kvs,∀a,H2 a=some (.tup (kv.1.map kV))->tb [some (.ref a),some w'] H2 fun r H'=>r=.int (cost kv.1)/\H'=H2)/\
  ∀d (zs:List (List Key×Addr)),H1 d=none->H2 d=none->(zs.map (·.1)).Perm (kvs.map (·.1))->(zs.Pairwise fun a b=>cost a.1<=cost b.1)->(∀z∈zs,H2 z.2=some (.tup (z.1.map kV)))->Q (.ref d) (upd H2 d (.lst (zs.map fun z=>V.ref z.2)))
theorem rD{X:Cx}{c0 P c:Addr}{params:Arguments}{body e:Expr}{scope:Scope}{pos p0 kpos cpos:Pos}{x y:Str}{i:Nat}{ta:TA}{tb:TE}(hc:X.calm=true)(hr:bC 1 X.A)(hcode:X.env.code=.ref c0)(C:CodeHd X.base c0 P)(hbm:Bm X.mg X.base)
  (L:gh X params scope c x y i)(hg:Gl X "sorted")(hm:X.mg "sorted"=none)(ha:PA X [e] ta)(hb:∀f c' s₃ H₃,PE (k7 X (X.env.qual++"<lambda>") scope [(y,c)] x y f c' X.A.in1.in1 s₃ H₃) body tb)
  (h1:starEach [e] X.env=(false,eval e X.env)::starEach [] X.env:=by rfl):PE X (.Call (.Name "sorted" p0) [e] [⟨some "key",.Lambda params body scope pos,kpos⟩] cpos) (zf P pos (X.env.qual++"<lambda>") i ta tb):=by
 intro pins s σ H Q I h;refine wpAny_Call_Name_kw (fO I hg hm boot_sorted ?_);refine callWith_kw ?_ (by rw[h1];rfl) (by rw[h1];rfl);refine thn (ha cpos pins s σ H _ I h) fun us s1 hq=>?_
 obtain⟨x',H1,I1,rx,p,kvs,w',cost,rfl,hp,h64,T,hi,q⟩:=hq;obtain⟨u,rfl,ru⟩:=vals1 rx;cases ru
 refine(kws_cons (vO I1 hcode C T hbm L.clos L.dflt fun f c' pm ctv H2 s2 sT T2 hcO hf hge I2 ff hfo hsz=>kws_nil ?_));obtain⟨qb,q⟩:=q H2 sT T2;change wpAny (model X.prog X.w) X.A (call (.builtin "sorted") [.ref p] [("key",.ref f)]) _ _ s2;have hp2:H2 p=some (.dT kvs):=sT p _ (T.ne hp fun _ z=>by cases z) hp;obtain⟨lo,hz,xs,es,ep,kt,raw,hk,nd⟩:=I2.zb hp2;have hlen:=kt.len;have hes:es.size=xs.length:=by
  have:=congrArg List.length hk;rw[aaa,aaa,Array.length_toList] at this;exact this
 have hh:X.A.in1.handled=none:=I.ok.hd hc;refine call_function_entry_kw kind_sorted plain_sorted entry_sorted (ksk_s1 _ _) ?_;unfold Builtin.«sorted»;refine wpAny_bind (m:=checkCount "sorted" 1 1 _) (wpAny_pure (wpAny_bind (SL.jV lo hh raw (by rw[hes,←hlen];exact hz) fun h3 tk k3=>?_)));rw[hk];have hl64:(xs.map fun x=>Value.ref x.2.1).length<64:=by rw[aaa,←hlen];exact h64
 refine wpAny_bind (wpAny_newList ?_ (by rw[sizeLine_eq];omega));have I3:Inv X pins σ H2 {s2 with heap:=h3,toks:=tk}:=I2.kept (t':=tk) k3;have hx:(h3.push (seqObj "list" (xs.map fun x=>Value.ref x.2.1).toArray 0)).get? h3.objs.size=some (seqObj "list" (xs.map fun x=>Value.ref x.2.1).toArray 0):=aay _ rfl;have Dn:H2 h3.objs.size=none:=I3.hok.fresh (Nat.le_refl _);have Df:cJ X pins H2 h3.objs.size:=I3.g8 (Nat.le_refl _) Dn;have D1:H1 h3.objs.size=none:=by
  cases z:H1 h3.objs.size with
  |none=>rfl
  |some o=>
   exfalso
   by_cases zP:h3.objs.size=P
   ·obtain⟨ps,hP,_⟩:=T2;rw[←zP,Dn] at hP;cases hP
   ·rw[sT _ _ zP z] at Dn;cases Dn
 have fl:f<h3.objs.size:=Heap.lt_size (k3 f _ hfo);have kD:∀b o,h3.get? b=some o->(h3.push (seqObj "list" (xs.map fun x=>Value.ref x.2.1).toArray 0)).get? b=some o:=fun b o e=>aaf _ e
 have I4:Inv X pins σ H2 {s2 with heap:=h3.push (seqObj "list" (xs.map fun x=>Value.ref x.2.1).toArray 0),toks:=tk}:=I3.kept (t':=tk) kD;generalize hob:kla_obj "<lambda>" (X.env.qual++"<lambda>") params body scope [(y,c)] pm c' ctv=ob at hfo;have obc:∀v,ob.data≠.cell v:=fun v z=>by rw[←hob] at z;cases z
 have I5:Inv X (pins++[(f,ob)]) σ H2 {s2 with heap:=h3.push (seqObj "list" (xs.map fun x=>Value.ref x.2.1).toArray 0),toks:=tk}:=I4.gm fun z hz'=>by
  rcases aak.mp hz' with hz'|hz'
  ·exact I4.pin z (aar _ hz')
  ·rw[aaj.mp hz'];exact ff.rB (kD _ _ (k3 _ _ hfo)) obc
 have Df':cJ X (pins++[(f,ob)]) H2 h3.objs.size:=by
  obtain⟨a1,a2,a3,a4,a5,a6⟩:=Df;refine⟨a1,a2,a3,a4,a5,fun z hz'=>?_⟩;rw[←List.append_assoc] at hz';rcases aak.mp hz' with hz'|hz'
  ·exact a6 z hz'
  ·rw[aaj.mp hz'];exact Nat.ne_of_lt fl
 change wpAny (model X.prog X.w) _ _ _ _ {s2 with heap:=h3.push (seqObj "list" (xs.map fun x=>Value.ref x.2.1).toArray 0),toks:=tk};refine wpAny_bind (wpAny_holding (wpAny_call_entry_kw slot_list_sort ⟨_,hx,rfl⟩ entry_list_sort ?bd (ksk_l1 _ _)));change wpAny (model X.prog X.w) X.A.in1.in1 (Builtin.«list.sort» ⟨[.ref h3.objs.size],[(Str.ofString "key",.ref f)]⟩) _ _ _;rw[ksk_t1];refine rC (cost:=fun j=>cost (xs.getD j ([],0,Value.none)).1) I5 hx Df' hl64 (fun more s4 j v J hv=>?_) fun pp s4 e4 hB hS J he4=>?_
 ·rw[aax] at hv;cases hj:xs[j]? with
  |none=>rw[hj] at hv;cases hv
  |some xx=>
   rw[hj] at hv;have hv:some (Value.ref xx.2.1)=some v:=hv;injection hv with hv;subst hv;obtain⟨vv,hkv,hH⟩:=kt.get j xx hj;have eg:xs.getD j ([],0,Value.none)=xx:=by rw[aat,hj];rfl
   have hfo4:=(J.pin (f,ob) (aar _ (List.mem_append_left _ (aar _ (aaj.mpr rfl))))).1;have hfo4:s4.heap.get? f=some (kla_obj "<lambda>" (X.env.qual++"<lambda>") params body scope [(y,c)] pm c' ctv):=by rw[hob];exact hfo4
   refine vP (v:=.ref xx.2.1) (w':=w') L J I.ok.frames hh hr.depth hfo4 (tZ J.hok hcO) rfl hi (hb f c' s4 H2) ?_;have:=qb (xx.1,vv) (aah hkv) xx.2.1 hH;show tb _ H2 fun r H'=>r=.int (cost (xs.getD j ([],0,Value.none)).1)/\H'=H2
   rw[eg];exact this
 ·rw[aaa] at hB hS;have e0:∀j∈pp.toList,j<xs.length:=fun j hj=>by
   have h1:pp.toList.Perm (List.range xs.length):=by
    have:=Array.perm_iff_toList_perm.mp hB;simpa using this
   exact List.mem_range.mp (h1.mem_iff.mp hj)
  generalize hzs:(pp.toList.map fun j=>((xs.getD j ([],0,Value.none)).1,(xs.getD j ([],0,Value.none)).2.1))=zs;have ho:cn (xs.map fun x=>Value.ref x.2.1) pp=zs.map fun z=>Value.ref z.2:=by
   rw[←hzs,List.map_map];exact List.map_congr_left fun j hj=>getD_map (fun x=>Value.ref x.2.1) xs (e0 j hj) ([],0,Value.none) Value.none
  have hzl:zs.length=xs.length:=by rw[←hzs,aaa,Array.length_toList,hB.size]
  rw[ho] at he4;have J2:Inv X pins σ (upd H2 h3.objs.size (.lst (zs.map fun z=>V.ref z.2))) s4:=by
   refine J.rA.zZ Df ⟨?_,_,e4,mG (fun z:List Key×Addr=>z.2) zs,he4⟩;rw[aaa,hzl,←hlen];exact hz
  refine⟨_,rfl,wpAny_pure ⟨_,rfl,.ref h3.objs.size,_,J2,rfl,q _ zs D1 Dn ?_ ?_ fun z hz'=>?_⟩⟩
  ·have h2:=(oV xs ([],0,Value.none) hB).map (·.1);have e:zs.map (·.1)=(pp.toList.map fun j=>xs.getD j ([],0,Value.none)).map (·.1):=by rw[←hzs,List.map_map,List.map_map];rfl
   have e':xs.map (·.1)=kvs.map (·.1):=by
    have all:∀{l:List (List Key×V)} {m:List (List Key×Addr×Value)},KT H2 l m->m.map (·.1)=l.map (·.1):=by
     intro l m z
     induction z with
     |nil=>rfl
     |cons a b ih=>rw[aaw,aaw,ih,a.1]
    exact all kt
   rw[e,←e'];exact h2
  ·have h3:=tX hB hS;rw[←hzs,List.pairwise_map];refine h3.imp fun{a b} z=>?_
   have z:decide (cost (xs.getD b ([],0,Value.none)).1<cost (xs.getD a ([],0,Value.none)).1)=false:=z;rw[decide_eq_false_iff_not] at z;exact Int.not_lt.mp z
  ·rw[←hzs] at hz';obtain⟨j,hj,rfl⟩:=aao.mp hz';obtain⟨m,hm⟩:=List.mem_iff_getElem?.mp (getD_mem xs (e0 j hj) ([],0,Value.none));obtain⟨vv,_,hH⟩:=kt.get m _ hm;exact hH
end L2
namespace Nw
open PySem L2
open SL (ap srt)
theorem bq.wT{X:Cx}{scope:Scope}{cl:List (Str×Addr)}{N:List Str}{sel:List (Option Nat)}(fr:List Str)(clos:closureFor scope X.env=pure cl)(hk:scope.kind=.function)(hek:X.env.scope.kind=.function)
  (hn:∀y∈scope.names,y.2=.local\/y.2=.globalImplicit\/(y.2=.free/\y.1∈fr))(hl:∀y∈scope.names,y.2=.local->scope.names.lookup y.1=some .local)
  (hfr:∀x∈fr,X.env.kindOf x=some .cell/\scope.names.lookup x=some .free/\∃c,cl.lookup x=some c/\X.env.cells.lookup x=some c)(hcl:∀y∈cl,y.1∈fr)
  (hlen:sel.length=N.length)(hsel:∀(j i:Nat),sel[j]? =some (some i)->∃x∈fr,X.N[i]? =some x/\N[j]? =some x):bq X scope cl N sel where
 clos:=clos
 nocell:=fun y hy z=>by
  rcases hn y hy with e|e|⟨e,_⟩
  ·rw[e] at z;cases z
  ·rw[e] at z;cases z
  ·rw[e] at z;cases z
 kind:=hk
 locs:=hl
 cells:=fun x c h=>by
  obtain⟨_,_,c',h1,h2⟩:=hfr x (hcl _ (lookup_mem h));rw[h] at h1;cases h1
  exact h2
 has:=fun x ⟨v,n⟩=>by
  have key:∀kd:NameKind,(relabel scope X.env).names.lookup x=some kd->kd≠.local->kd≠.globalImplicit->∃c,cl.lookup x=some c:=fun kd h hne hng=>by
   rw[d8] at h;cases q:scope.names.lookup x with
   |none=>rw[q] at h;cases h
   |some k0=>
    rw[q] at h;rcases hn _ (lookup_mem q) with e|e|⟨_,e⟩
    ·have e:k0=.local:=e;subst e;have h:some NameKind.local=some kd:=h;injection h with h;exact absurd h.symm hne
    ·have e:k0=.globalImplicit:=e;subst e;have h:some NameKind.globalImplicit=some kd:=h;injection h with h;exact absurd h.symm hng
    ·obtain⟨_,_,c,h1,_⟩:=hfr x e;exact⟨c,h1⟩
  rcases v with z|z|z
  ·exact absurd z n
  ·exact key _ z (by decide) (by decide)
  ·exact key _ z (by decide) (by decide)
 len:=hlen
 names:=fun j i h=>by
  obtain⟨x,hx,h1,h2⟩:=hsel j i h;obtain⟨k1,k2,_⟩:=hfr x hx;have k1:X.env.scope.names.lookup x=some .cell:=k1;refine⟨x,h1,h2,⟨.inr (.inl k1),by rw[k1];decide⟩,?_⟩;rw[d8,k2];show some (if _ then _ else _)≠_;split <;> decide
theorem bq.one{X:Cx}{scope:Scope}{cl:List (Str×Addr)}{N:List Str}{sel:List (Option Nat)}(x:Str)(clos:closureFor scope X.env=pure cl)(hk:scope.kind=.function)(hek:X.env.scope.kind=.function)
  (hn:∀y∈scope.names,y.2=.local\/y.2=.globalImplicit\/(y.2=.free/\y.1∈[x]))(hl:∀y∈scope.names,y.2=.local->scope.names.lookup y.1=some .local)
  (h1:X.env.kindOf x=some .cell)(h2:scope.names.lookup x=some .free)(h3:∃c,cl=[(x,c)]/\X.env.cells.lookup x=some c)
  (hlen:sel.length=N.length)(hsel:∀(j i:Nat),sel[j]? =some (some i)->X.N[i]? =some x/\N[j]? =some x):bq X scope cl N sel:=by
 obtain⟨c,rfl,hc⟩:=h3;refine bq.wT [x] clos hk hek hn hl (fun y hy=>?_) (fun y hy=>?_) hlen fun j i h=>⟨x,aaj.mpr rfl,(hsel j i h).1,(hsel j i h).2⟩
 ·rw[aaj.mp hy];exact⟨h1,h2,c,by rw[List.lookup_cons,beq_self_eq_true],hc⟩
 ·rw[aaj.mp hy];exact aaj.mpr rfl
theorem qo{n:Nat}{M N:List Str}{x:Str}(h1:M[n]? =some x)(h2:N[1]? =some x):∀(j i:Nat),([none,some n]:List (Option Nat))[j]? =some (some i)->M[i]? =some x/\N[j]? =some x:=by
 intro j i h;rcases j with _|_|j
 ·cases h
 ·cases h;exact⟨h1,h2⟩
 ·cases h
theorem bq.none{X:Cx}{scope:Scope}{N:List Str}{sel:List (Option Nat)}(clos:closureFor scope X.env=pure [])(hk:scope.kind=.function)(hek:X.env.scope.kind=.function)
  (hn:∀y∈scope.names,y.2=.local\/y.2=.globalImplicit)(hl:∀y∈scope.names,y.2=.local->scope.names.lookup y.1=some .local)
  (hlen:sel.length=N.length)(hsel:∀o∈sel,o=Option.none):bq X scope [] N sel:=
 bq.wT [] clos hk hek (fun y hy=>(hn y hy).imp_right .inl) hl (fun y hy=>by cases hy) (fun y hy=>by cases hy) hlen fun j i h=>by
  have:=hsel _ (aah h);cases this
end Nw
namespace Nw
open PySem L2
open SL (ap srt)
abbrev Kx:=Str ⊕ (Str×Str)
structure Rec where
 key:Str×Str
 num:Nat
 keys:List Kx
def dg(H:Hp)(v:V):Kx->Prop
 |.inl w=>v=.str w
 |.inr p=>∃t,v=.ref t/\H t=some (.tup [.str p.1,.str p.2])
def aS(H:Hp)(a:Addr)(ks:List Kx):Prop:=∃vs,H a=some (.lst vs)/\Paired (dg H) vs ks
def RecAt(H:Hp)(v:V)(r:Rec):Prop:=∃t kt l,v=.ref t/\H t=some (.tup [.ref kt,.int r.num,.ref l])/\H kt=some (.tup [.str r.key.1,.str r.key.2])/\aS H l r.keys
def k9(H:Hp)(a:Addr)(rs:List Rec):Prop:=∃vs,H a=some (.lst vs)/\Paired (RecAt H) vs rs
theorem dg.mono{H H':Hp}(e:ab H H'){v:V}:∀{k:Kx},dg H v k->dg H' v k
 |.inl _,h=>h
 |.inr _,⟨t,h1,h2⟩=>⟨t,h1,e _ _ h2⟩
theorem aS.mono{H H':Hp}(e:ab H H'){a:Addr}{ks:List Kx}(h:aS H a ks):aS H' a ks:=by
 obtain⟨vs,h1,h2⟩:=h;exact⟨vs,e _ _ h1,Paired.bT h2 fun _ _ z=>z.mono e⟩
theorem RecAt.mono{H H':Hp}(e:ab H H'){v:V}{r:Rec}(h:RecAt H v r):RecAt H' v r:=by
 obtain⟨t,kt,l,h1,h2,h3,h4⟩:=h;exact⟨t,kt,l,h1,e _ _ h2,e _ _ h3,h4.mono e⟩
theorem dg.keep{H H':Hp}(e:∀b xs,H b=some (.tup xs)->H' b=some (.tup xs)){v:V}:∀{k:Kx},dg H v k->dg H' v k
 |.inl _,h=>h
 |.inr _,⟨t,h1,h2⟩=>⟨t,h1,e _ _ h2⟩
def aI(sorts signs:List Str):List Kx:=signs.map fun s=>if s∈sorts then .inr ("whole",s) else .inl s
def aX(signs:List Str):List Kx:=signs.map fun s=>.inr ("empty",s)
structure Cons(mg:Str->Option Value):Prop where
 whole:∃u,mg "WHOLE"=some u/\RelV (.str "whole") u
 empty:∃u,mg "EMPTY"=some u/\RelV (.str "empty") u
 begin_:∃u,mg "BEGIN"=some u/\RelV (.str "begin") u
 hold:∃u,mg "HOLD"=some u/\RelV (.str "hold") u
 last:∃u,mg "LAST"=some u/\RelV (.str "last") u
 end_:∃u,mg "END"=some u/\RelV (.str "") u
abbrev sWk:Stmt:=top 27
abbrev sEk:Stmt:=top 28
theorem AD:aJ ["signs","sorts"] ["signs","sorts"] (aw sWk):=⟨rfl,rfl,rfl,by decide +kernel,rfl,by decide +kernel,by decide +kernel⟩
theorem AE:aJ ["signs"] ["signs"] (aw sEk):=⟨rfl,rfl,rfl,by decide +kernel,rfl,by decide +kernel,by decide +kernel⟩
def rF:Sp:=fun vs H Q _=>∃(a b:Addr) (r ss:List Str),vs=[.ref a,.ref b]/\aA H a r/\aA H b ss/\r.length<=900/\∀q H',ab H H'->H q=none->aS H' q (aI ss r)->Q (.ref q) H'
def oX:Sp:=fun vs H Q _=>∃(a:Addr) (r:List Str),vs=[.ref a]/\aA H a r/\r.length<=900/\∀q H',ab H H'->H q=none->aS H' q (aX r)->Q (.ref q) H'
section
variable {P:Program}{w:World}{K:PySem.W.Frag}{mg:Str->Option Value}{base:Heap}
def eA(H:Hp)(D:Addr)(H1:Hp)(ks:List Kx):Prop:=∃vs,H1 D=some (.lst vs)/\Paired (dg H1) vs ks/\ab H H1
theorem eA.zero{H:Hp}{D:Addr}(hD:H D=none):eA H D (upd H D (.lst [])) []:=⟨[],aa,.nil,ab.upd hD⟩
theorem eA.len{H H1:Hp}{D:Addr}{ks:List Kx}(h:eA H D H1 ks){vs:List V}(e:H1 D=some (.lst vs)):vs.length=ks.length:=by
 obtain⟨vs',h1,h2,_⟩:=h;rw[e] at h1;cases h1;exact Paired.length h2
theorem eA.add{H H1 H2:Hp}{D:Addr}{ks:List Kx}{k:Kx}{v:V}{vs:List V}(h:eA H D H1 ks)(hD:H D=none)(s:ab H1 H2)(e:H2 D=some (.lst vs))(hk:dg H2 v k):eA H D (upd H2 D (.lst (vs++[v]))) (ks++[k]):=by
 obtain⟨vs',h1,h2,h3⟩:=h;have e':=s _ _ h1;rw[e] at e';cases e';have kp:∀b xs,H2 b=some (.tup xs)->upd H2 D (.lst (vs++[v])) b=some (.tup xs):=fun b xs z=>by
  rw[aj (fun q=>by rw[q,e] at z;cases z)];exact z
 exact⟨vs++[v],aa,cm (Paired.bT h2 fun _ _ z=>(z.mono s).keep kp) (hk.keep kp),(h3.trans s).bK hD⟩
theorem eA.fin{H H1:Hp}{D:Addr}{ks:List Kx}(h:eA H D H1 ks):ab H H1/\aS H1 D ks:=by
 obtain⟨vs,h1,h2,h3⟩:=h;exact⟨h3,vs,h1,h2⟩
theorem z4{f:Addr}{fd:FuncData}(F:Fun K "whole_keys" "whole_keys" sWk f fd)(C:Cons mg):be P w K mg base CX0 1 f fd ["signs","sorts"] rF:=by
 refine F.ok AD (fun vs H Q E h=>?_) (fun cdv A outer s H vs Q E hr h=>?_)
 ·obtain⟨a,b,r,ss,rfl,_⟩:=h;rfl
 ·obtain⟨a,b,r,ss,rfl,hA,hB,hl,k⟩:=h;obtain⟨uw,hw,rw'⟩:=C.whole;refine⟨_,ag (aQ (dj (bq.one (N:=["sign","sorts"]) (sel:=[none,some 1]) "sorts" (by rfl) (by rfl) (by rfl) (by decide) (by decide) (by rfl) (by rfl) ⟨_,rfl,rfl⟩ (by rfl) (qo rfl rfl)) rfl (aO (pv 0)) (fun s₃ H₃ fp=>az (i:=0) (show(["sign","sorts"]:List Str).Nodup by decide) rfl (Or.inl rfl)) (fun s₃ H₃ fp=>di)
    (fun s₃ H₃ fp=>jZ (aL (r:=rIn K false) fQ (pv 0) (pv 1) (by with_unfolding_all rfl)) (aZ (ad (bQ (X:=cD _ _ _ _ _ _ _) (by rfl) hw rw') (ad (pv 0) ac))) (pv 0)))),?_⟩
  have hA:H a=some (.lst (r.map V.str)):=hA;have hB:H b=some (.lst (ss.map V.str)):=hB;refine⟨_,rfl,a,rfl,⟨_,SqL.of hA⟩,fun D hD=>cO (K:=K) (xs:=r.map V.str) (fun j τ H4=>(∃o,τ=[o,some (.ref b)])/\eA H D H4 (aI ss (r.take j))) ⟨⟨_,rfl⟩,eA.zero hD⟩ ?_ ?_ ?_⟩
  ·rintro j τ H4 ⟨_,hs⟩;exact SqL.of (hs.fin.1 _ _ hA)
  ·rintro j x τ H4 hx ⟨⟨o,rfl⟩,hs⟩;obtain⟨y,hy,rfl⟩:=bS hx;have hjl:j<r.length:=(aab.mp hy).1;obtain⟨vs,hv,_⟩:=id hs;have hvl:=hs.len hv;unfold aI at hvl;rw[aaa,aal] at hvl;have et:aI ss (r.take (j+1))=aI ss (r.take j)++[if y∈ss then .inr ("whole",y) else .inl y]:=by
    unfold aI;rw[aap,hy,aam];rfl
   refine⟨_,rfl,_,rfl,b,_,rfl,.inl (SqL.of (hs.fin.1 _ _ hB)),rfl,dz ss,_,rfl,?_⟩;show if inV (.str y) (ss.map V.str)=true then _ else _
   rw[dF]
   by_cases hm:y∈ss
   ·rw[aan hm];refine bF ⟨_,rfl,(show 2<=sizeLine by decide),fun t ht=>?_⟩;have sT:=ab.upd (o:=HO.tup [.str "whole",.str y]) ht;refine⟨vs,sT _ _ hv,aD (by omega),⟨_,rfl⟩,?_⟩;rw[et,if_pos hm];exact hs.add hD sT (sT _ _ hv) ⟨t,rfl,aa⟩
   ·rw[aai hm];refine aK ⟨_,rfl,vs,hv,aD (by omega),⟨_,rfl⟩,?_⟩;rw[et,if_neg hm];exact hs.add hD (ab.refl _) hv rfl
  ·rintro τ H4 ⟨_,hs⟩;rw[aaa,aas] at hs;exact k D _ hs.fin.1 hD hs.fin.2
theorem z5{f:Addr}{fd:FuncData}(F:Fun K "empty_keys" "empty_keys" sEk f fd)(C:Cons mg):be P w K mg base CX0 1 f fd ["signs"] oX:=by
 refine F.ok AE (fun vs H Q E h=>?_) (fun cdv A outer s H vs Q E hr h=>?_)
 ·obtain⟨a,r,rfl,_⟩:=h;rfl
 ·obtain⟨a,r,rfl,hA,hl,k⟩:=h;obtain⟨uw,hw,rw'⟩:=C.empty;refine⟨_,ag (aQ (dj (bq.none (N:=["sign"]) (sel:=[none]) (by rfl) (by rfl) (by rfl) (by decide) (by decide) (by rfl) (by decide)) rfl (aO (pv 0)) (fun s₃ H₃ fp=>az (i:=0) (show(["sign"]:List Str).Nodup by decide) rfl (Or.inl rfl)) (fun s₃ H₃ fp=>di)
    (fun s₃ H₃ fp=>aZ (ad (bQ (X:=cD _ _ _ _ _ _ _) (by rfl) hw rw') (ad (pv 0) ac))))),?_⟩
  have hA:H a=some (.lst (r.map V.str)):=hA;refine⟨_,rfl,a,rfl,⟨_,SqL.of hA⟩,fun D hD=>cO (K:=K) (xs:=r.map V.str) (fun j τ H4=>(∃o,τ=[o])/\eA H D H4 (aX (r.take j))) ⟨⟨_,rfl⟩,eA.zero hD⟩ ?_ ?_ ?_⟩
  ·rintro j τ H4 ⟨_,hs⟩;exact SqL.of (hs.fin.1 _ _ hA)
  ·rintro j x τ H4 hx ⟨⟨o,rfl⟩,hs⟩;obtain⟨y,hy,rfl⟩:=bS hx;have hjl:j<r.length:=(aab.mp hy).1;obtain⟨vs,hv,_⟩:=id hs;have hvl:=hs.len hv;unfold aX at hvl;rw[aaa,aal] at hvl;have et:aX (r.take (j+1))=aX (r.take j)++[.inr ("empty",y)]:=by
    unfold aX;rw[aap,hy,aam];rfl
   refine⟨_,rfl,(show 2<=sizeLine by decide),fun t ht=>?_⟩;have sT:=ab.upd (o:=HO.tup [.str "empty",.str y]) ht;refine⟨vs,sT _ _ hv,aD (by omega),⟨_,rfl⟩,?_⟩;rw[et];exact hs.add hD sT (sT _ _ hv) ⟨t,rfl,aa⟩
  ·rintro τ H4 ⟨_,hs⟩;rw[aaa,aas] at hs;exact k D _ hs.fin.1 hD hs.fin.2
end
end Nw
namespace Nw
open PySem L2
open SL (ap srt)
def hide(w:Addr)(H:Hp):Hp:=fun b=>if b=w then none else H b
theorem hide_ne{w b:Addr}{H:Hp}(h:b≠w):hide w H b=H b:=if_neg h
theorem _root_.L2.ab.hide{H1 H2:Hp}{w:Addr}(s:ab H1 H2):ab (hide w H1) (hide w H2):=fun b o e=>by
 by_cases q:b=w
 ·unfold Nw.hide at e;rw[if_pos q] at e;cases e
 ·rw[hide_ne q] at e ⊢;exact s b o e
theorem _root_.L2.ab.fW{H:Hp}{w:Addr}:ab (Nw.hide w H) H:=fun b o e=>by
 by_cases q:b=w
 ·unfold Nw.hide at e;rw[if_pos q] at e;cases e
 ·rwa [hide_ne q] at e
theorem iS{H:Hp}{w:Addr}{o:HO}:hide w (upd H w o)=hide w H:=by
 funext b
 by_cases q:b=w
 ·unfold hide;rw[if_pos q,if_pos q]
 ·rw[hide_ne q,hide_ne q,aj q]
def bD{α:Type}(F:Hp->V->α->Prop)(H:Hp)(wl:Addr)(H1:Hp)(ys:List α):Prop:=∃vs,H1 wl=some (.lst vs)/\Paired (F (hide wl H1)) vs ys/\ab H H1
def ki{α:Type}(F:Hp->V->α->Prop):Prop:=∀H H' v y,ab H H'->F H v y->F H' v y
section
variable {α:Type}{F:Hp->V->α->Prop}{H H1 H2:Hp}{wl:Addr}{ys:List α}
theorem bD.zero(h:H wl=none):bD F H wl (upd H wl (.lst [])) []:=⟨[],aa,.nil,ab.upd h⟩
theorem bD.on(M:ki F)(h:bD F H wl H1 ys)(s:ab H1 H2):bD F H wl H2 ys:=by
 obtain⟨vs,h1,h2,h3⟩:=h;exact⟨vs,s _ _ h1,Paired.bT h2 fun _ _ z=>M _ _ _ _ s.hide z,h3.trans s⟩
theorem bD.len(h:bD F H wl H1 ys){vs:List V}(e:H1 wl=some (.lst vs)):vs.length=ys.length:=by
 obtain⟨vs',h1,h2,_⟩:=h;rw[e] at h1;cases h1;exact Paired.length h2
theorem bD.add(h:bD F H wl H1 ys)(hn:H wl=none){vs:List V}(e:H1 wl=some (.lst vs)){v:V}{y:α}(hk:F (hide wl H1) v y):bD F H wl (upd H1 wl (.lst (vs++[v]))) (ys++[y]):=by
 obtain⟨vs',h1,h2,h3⟩:=h;rw[e] at h1;cases h1;refine⟨vs++[v],aa,?_,h3.bK hn⟩;rw[iS];exact cm h2 hk
theorem bD.fin(M:ki F)(h:bD F H wl H1 ys):ab H H1/\∃vs,H1 wl=some (.lst vs)/\Paired (F H1) vs ys:=by
 obtain⟨vs,h1,h2,h3⟩:=h;exact⟨h3,vs,h1,Paired.bT h2 fun _ _ z=>M _ _ _ _ ab.fW z⟩
end
theorem aS.hide{H:Hp}{q wl:Addr}{ks:List Kx}{vs:List V}(h:aS H q ks)(hq:q≠wl)(e:H wl=some (.lst vs)):aS (Nw.hide wl H) q ks:=by
 obtain⟨us,h1,h2⟩:=h;refine⟨us,by rw[hide_ne hq];exact h1,Paired.bT h2 fun _ _ z=>z.keep fun b xs y=>?_⟩;rw[hide_ne (fun q=>by rw[q,e] at y;cases y)];exact y
def rG(H0 H:Hp)(v:V)(ks:List Kx):Prop:=∃l,v=.ref l/\aS H l ks/\H0 l=none
theorem cW{H0:Hp}:ki (rG H0):=fun _ _ _ _ s ⟨l,h1,h2,h3⟩=>⟨l,h1,h2.mono s,h3⟩
def zg(H0 H:Hp)(q:Addr)(L:List (List Kx)):Prop:=∃vs,H q=some (.lst vs)/\Paired (rG H0 H) vs L
def cL(z:Str)(ss r:List Str)(j:Nat):List Kx:=aX (r.take j)++(if r.getD j ""=z then .inl z else .inr ("begin",r.getD j ""))::aI ss (r.drop (j+1))
def cC(z:Str)(ss r:List Str):List (List Kx):=(List.range r.length).map (cL z ss r)
theorem oY(r:List Str)(k:Nat):de (r.map V.str) none (some ((k:Nat):Int))=(r.take k).map V.str:=by
 unfold de;rw[HT.iH,HT.gn,List.drop_zero,Nat.sub_zero,aaa,←List.map_take];rcases Nat.lt_or_ge r.length k with z|z
 ·rw[Nat.min_eq_right (by omega),List.take_of_length_le (Nat.le_refl _),List.take_of_length_le (by omega)]
 ·rw[Nat.min_eq_left z]
theorem dX(r:List Str):(aX r).length=r.length:=aaa ..
theorem bY(ss r:List Str):(aI ss r).length=r.length:=aaa ..
theorem oZ{z:Str}{ss r:List Str}{j:Nat}(hj:j<r.length):(cL z ss r j).length=r.length:=by
 unfold cL;rw[aag,aau,dX,bY,aal,List.length_drop];omega
abbrev vQ:Stmt:=top 39
theorem lb:aJ ["signs","word","sorts","ways","place","sign","start"] ["signs","word","sorts"] (aw vQ):=⟨rfl,rfl,rfl,by decide +kernel,rfl,by decide +kernel,by decide +kernel⟩
def np:Sp:=fun vs H Q _=>∃(a b:Addr) (z:Str) (r ss:List Str),vs=[.ref a,.str z,.ref b]/\aA H a r/\aA H b ss/\r.length<=20/\∀q H',ab H H'->H q=none->zg H H' q (cC z ss r)->Q (.ref q) H'
theorem aS.cat{H:Hp}{a b p:Addr}{xs ys:List Kx}{us vs:List V}(h1:aS H a xs)(h2:aS H b ys)(e1:H a=some (.lst us))(e2:H b=some (.lst vs))(hp:H p=none):aS (upd H p (.lst (us++vs))) p (xs++ys):=by
 obtain⟨us',h1,p1⟩:=h1;rw[e1] at h1;cases h1;obtain⟨vs',h2,p2⟩:=h2;rw[e2] at h2;cases h2;have m:=ab.upd (o:=HO.lst (us++vs)) hp;have app:∀{l1 l2:List V} {k1 k2:List Kx},Paired (dg (upd H p (.lst (us++vs)))) l1 k1->Paired (dg (upd H p (.lst (us++vs)))) l2 k2->Paired (dg (upd H p (.lst (us++vs)))) (l1++l2) (k1++k2):=by
  intro l1 l2 k1 k2 q1 q2
  induction q1 with
  |nil=>exact q2
  |cons a _ ih=>exact .cons a ih
 exact⟨_,aa,app (Paired.bT p1 fun _ _ z=>z.mono m) (Paired.bT p2 fun _ _ z=>z.mono m)⟩
section
variable {P:Program}{w:World}{K:PySem.W.Frag}{mg:Str->Option Value}{base:Heap}
theorem zh{f:Addr}{fd:FuncData}(F:Fun K "keys_to_begin" "keys_to_begin" vQ f fd)(C:Cons mg)(hEn:mg "enumerate"=none)(D1:Def P w K mg base "whole_keys" 1 ["signs","sorts"] rF)(D2:Def P w K mg base "empty_keys" 1 ["signs"] oX) :
  be P w K mg base CX0 2 f fd ["signs","word","sorts"] np:=by
 refine F.ok lb (fun vs H Q E h=>?_) (fun cdv A outer s H vs Q E hr h=>?_)
 ·obtain⟨a,b,z,r,ss,rfl,_⟩:=h;rfl
 ·obtain⟨a,b,z,r,ss,rfl,hA,hB,hl,k⟩:=h;obtain⟨ub,hb,rb⟩:=C.begin_;refine⟨_,af (aq (i:=3) lb.nd rfl (Or.inl rfl) (bx ac))
   (af (bb PassesOwn.never rfl (ir (by rfl) hEn (ad (pv 0) ac)) (cT (n:=2) rfl (aN (az (i:=4) lb.nd rfl (Or.inl rfl)) (aN (az (i:=5) lb.nd rfl (Or.inl rfl)) cp)))
    (b9 (aq (i:=6) lb.nd rfl (Or.inl rfl) (jZ (aL jx (pv 5) (pv 1) (aY _)) (pv 1) (aZ (ad (bQ (by rfl) hb rb) (ad (pv 5) ac)))))
    (ag (bv (bZ PySem.F.plainAttrs_list PySem.F.slot_list_append PySem.F.type_list_append bf (pv 3) (ad
     (bN c8 (bN c8 (aB D2 hr (by rfl) (ad (dD eR (pv 0) eQ (dN (pv 4))) ac)) (bx (ad (pv 6) ac)))
      (aB D1 hr (by rfl) (ad (dD eR (pv 0) (dN (bN eY (pv 4) am)) eQ) (ad (pv 2) ac)))) ac))))))
   (ag (aQ (pv 3)))),?_⟩
  have hA:H a=some (.lst (r.map V.str)):=hA;have hB:H b=some (.lst (ss.map V.str)):=hB;refine⟨by decide,fun wl hwl=>?_⟩;refine⟨_,rfl,a,rfl,⟨_,SqL.of (ab.upd hwl _ _ hA)⟩,gD (K:=K) (a:=a) (xs:=r.map V.str)
   (fun i σ H4=>(∃o1 o2 o3,σ=[some (.ref a),some (.str z),some (.ref b),some (.ref wl),o1,o2,o3])/\bD (rG H) H wl H4 ((List.range i).map (cL z ss r)))
   ⟨⟨_,_,_,rfl⟩,bD.zero hwl⟩ ?_ ?_ ?_⟩
  ·rintro i σ H4 _ ⟨_,hg⟩;exact SqL.of ((hg.fin cW).1 _ _ hA)
  ·rintro i x t σ H4 hx ⟨⟨o1,o2,o3,rfl⟩,hg⟩ ht;obtain⟨y,hy,rfl⟩:=bS hx;have hil:i<r.length:=(aab.mp hy).1;have ey:r.getD i ""=y:=by rw[aat,hy];rfl
   have s1:=ab.upd (o:=HO.tup [.int i,.str y]) ht;have hg1:=hg.on cW s1;refine⟨t,_,rfl,SqT.of aa,rfl,_,_,rfl,_,_,rfl,rfl,?_⟩;generalize upd H4 t (.tup [.int i,.str y])=H5 at hg1;clear hg s1 ht;refine⟨fun σ H6=>∃v,σ=[some (.ref a),some (.str z),some (.ref b),some (.ref wl),some (.int i),some (.str y),some v]/\ab H5 H6/\dg H6 v (if y=z then .inl z else .inr ("begin",y)),?_,?_⟩
   ·refine⟨_,rfl,_,rfl,rfl,_,rfl,?_⟩
    by_cases q:y=z
    ·rw[q,aan rfl];refine bF ⟨_,rfl,_,rfl,ab.refl _,?_⟩;rw[if_pos rfl];rfl
    ·have:decide (V.str y=V.str z)=false:=aai fun e=>q (by injection e)
     rw[this];refine aK ⟨_,rfl,(show 2<=sizeLine by decide),fun t ht=>⟨_,rfl,ab.upd ht,?_⟩⟩;rw[if_neg q];exact⟨t,rfl,aa⟩
   rintro σ H6 ⟨v,rfl,s6,hv⟩;have hg6:=hg1.on cW s6;obtain⟨vs,hw6,_⟩:=id hg6;have hvl:=hg6.len hw6;rw[aaa,List.length_range] at hvl;refine⟨_,rfl,.inl ⟨rfl,_,SqL.of hw6⟩,_,rfl,_,rfl,_,rfl,a,_,rfl,SqL.of ((hg6.fin cW).1 _ _ hA),fun q1 hq1=>?_⟩;rw[oY];have s7:=ab.upd (o:=HO.lst ((r.take i).map V.str)) hq1;refine⟨q1,r.take i,rfl,aa,by rw[aal];omega,fun e1 H8 s8 n8 hE=>⟨_,rfl,(show 1<=sizeLine by decide),fun q2 hq2=>?_⟩⟩;have s78:=s7.trans s8;have s9:=ab.upd (o:=HO.lst [v]) hq2;have s69:=s78.trans s9;obtain⟨us1,hu1,_⟩:=id (hE.mono s9);have hul1:us1.length=i:=by
    obtain⟨us',h1,h2⟩:=hE.mono s9;rw[hu1] at h1;cases h1;have:=Paired.length h2;rw[dX,aal] at this;omega
   have hS:aS (upd H8 q2 (.lst [v])) q2 [if y=z then .inl z else .inr ("begin",y)]:=⟨[v],aa,.cons (hv.mono s69) .nil⟩;refine⟨e1,q2,_,_,rfl,rfl,hu1,aa,by rw[hul1];exact aD (by omega),fun q3 hq3=>?_⟩;have hC:=aS.cat (hE.mono s9) hS hu1 aa hq3;have s10:=ab.upd (o:=HO.lst (us1++[v])) hq3;have s610:=s69.trans s10;generalize hH10:upd (upd H8 q2 (.lst [v])) q3 (.lst (us1++[v]))=H10 at hC s10 s610;have hg10:=hg6.on cW s610;refine⟨_,rfl,_,rfl,_,_,rfl,rfl,_,rfl,a,_,rfl,SqL.of ((hg10.fin cW).1 _ _ hA),fun q4 hq4=>?_⟩;have ec:de (r.map V.str) (some ((i:Int)+1)) none=(r.drop (i+1)).map V.str:=ke r (i+1);rw[ec];have s11:=ab.upd (o:=HO.lst ((r.drop (i+1)).map V.str)) hq4;refine⟨_,rfl,q4,b,r.drop (i+1),ss,rfl,aa,(s11 _ _ ((hg10.fin cW).1 _ _ hB)),by rw[List.length_drop];omega,fun e2 H12 s12 n12 hW=>?_⟩;have s1012:=s11.trans s12;obtain⟨us2,hu2,_⟩:=id (hC.mono s1012);obtain⟨us3,hu3,_⟩:=id hW;have hul2:us2.length=i+1:=by
    obtain⟨us',h1,h2⟩:=hC.mono s1012;rw[hu2] at h1;cases h1;have:=Paired.length h2;rw[aag,dX,aal,aav] at this;omega
   have hul3:us3.length=r.length - (i+1):=by
    obtain⟨us',h1,h2⟩:=hW;rw[hu3] at h1;cases h1;have:=Paired.length h2;rw[bY,List.length_drop] at this;exact this
   refine⟨q3,e2,_,_,rfl,rfl,hu2,hu3,by rw[hul2,hul3];exact cy (by omega),fun q5 hq5=>?_⟩;have hZ:=aS.cat (hC.mono s1012) hW hu2 hu3 hq5;have s13:=ab.upd (o:=HO.lst (us2++us3)) hq5;have hg13:=hg10.on cW (s1012.trans s13);have hw13:upd H12 q5 (.lst (us2++us3)) wl=some (.lst vs):=s13 _ _ (s1012 _ _ (s610 _ _ hw6));have hq5w:q5≠wl:=fun e=>by rw[e] at hq5;rw[s1012 _ _ (s610 _ _ hw6)] at hq5;cases hq5
   refine⟨wl,vs,_,rfl,rfl,hw13,by rw[hvl];exact aD (by omega),⟨_,_,_,rfl⟩,?_⟩;have ek:cL z ss r i=aX (r.take i)++[if y=z then .inl z else .inr ("begin",y)]++aI ss (r.drop (i+1)):=by
    unfold cL;rw[ey];simp
   rw[List.range_succ,aam,List.map_singleton,ek];exact hg13.add hwl hw13 ⟨q5,rfl,hZ.hide hq5w hw13,(hg10.on cW s1012).fin cW |>.1.free hq5⟩
  ·rintro σ H4 ⟨⟨_,_,_,rfl⟩,hg⟩;rw[aaa] at hg;obtain⟨h1,h2⟩:=hg.fin cW;exact⟨_,rfl,k wl _ h1 hwl h2⟩
end
end Nw
namespace Nw
open PySem L2
open SL (ap srt)
theorem bE:ki RecAt:=fun _ _ _ _ s h=>h.mono s
theorem o0{H H5:Hp}{wl l kt t:Addr}{ys:List Rec}{vs:List V}{ks:List Kx}{kd lf:Str}{n:Nat}(hwl:H wl=none)(hg:bD RecAt H wl H5 ys)(e:H5 wl=some (.lst vs))(hk:aS H5 l ks)(hl:l≠wl)(hkt:H5 kt=none)(ht:upd H5 kt (.tup [.str kd,.str lf]) t=none) :
  bD RecAt H wl (upd (upd (upd H5 kt (.tup [.str kd,.str lf])) t (.tup [.ref kt,.int n,.ref l])) wl (.lst (vs++[.ref t]))) (ys++[⟨(kd,lf),n,ks⟩]):=by
 have s1:=ab.upd (o:=HO.tup [.str kd,.str lf]) hkt;have s2:=ab.upd (o:=HO.tup [.ref kt,.int (n:Int),.ref l]) ht;have s12:=s1.trans s2;have e2:=s12 _ _ e;have nk:kt≠wl:=fun q=>by rw[q,e] at hkt;cases hkt
 have nt:t≠wl:=fun q=>by rw[q,s1 _ _ e] at ht;cases ht
 refine(hg.on bE s12).add hwl e2 ⟨t,kt,l,rfl,?_,?_,(hk.mono s12).hide hl e2⟩
 ·rw[hide_ne nt];exact aa
 ·rw[hide_ne nk];exact s2 _ _ aa
def dY(z:Str)(ss:List Str)(n:Nat)(p:Row):List Rec:=⟨("last",p.1),n,aX p.2⟩::(cC z ss p.2).map fun ks=>⟨("hold",p.1),n,ks⟩
def bw(z:Str)(ss:List Str)(n:Nat)(p:Row)(j:Nat):List Rec:=
 ⟨("hold",p.1),n,aI ss (p.2.take j)++.inr ("hold",p.2.getD j "")::aI ss (p.2.drop (j+1))⟩::⟨("last",p.1),n,aI ss (p.2.take j)++.inr ("last",p.2.getD j "")::aX (p.2.drop (j+1))⟩ ::
  (cC z ss (p.2.drop (j+1))).map fun ks=>⟨("hold",p.1),n,aI ss (p.2.take j)++.inr ("last",p.2.getD j "")::ks⟩
def cz(z:Str)(ss:List Str)(n:Nat)(p:Row):List Rec:=⟨("whole",p.1),n,aI ss p.2⟩::⟨("empty",p.1),n,aX p.2⟩::((cC z ss p.2).map fun ks=>⟨("begin",p.1),n,ks⟩)++(List.range p.2.length).flatMap (bw z ss n p)
theorem cG(z:Str)(ss r:List Str):(cC z ss r).length=r.length:=by unfold cC;rw[aaa,List.length_range]
abbrev vR:Stmt:=top 37
abbrev vS:Stmt:=top 38
theorem lc:aJ ["rows","number","word","left","right","recipes","keys"] ["rows","number","word"] (aw vR):=⟨rfl,rfl,rfl,by decide +kernel,rfl,by decide +kernel,by decide +kernel⟩
theorem fc:aJ ["rows","number","word","sorts","left","right","recipes","keys","place","sign","ahead","rest"] ["rows","number","word"] (aw vS):=⟨rfl,rfl,rfl,by decide +kernel,rfl,by decide +kernel,by decide +kernel⟩
def rH:Sp:=fun vs H Q _=>∃(a:Addr) (n:Nat) (z:Str) (R:List Row) (p:Row),vs=[.ref a,.int n,.str z]/\bt H a R/\Small R/\R[n]? =some p/\∀q H',ab H H'->H q=none->k9 H' q (dY z (ao R) n p)->Q (.ref q) H'
def rJ:Sp:=fun vs H Q _=>∃(a:Addr) (n:Nat) (z:Str) (R:List Row) (p:Row),vs=[.ref a,.int n,.str z]/\bt H a R/\Small R/\R[n]? =some p/\∀q H',ab H H'->H q=none->k9 H' q (cz z (ao R) n p)->Q (.ref q) H'
section
variable {P:Program}{w:World}{K:PySem.W.Frag}{mg:Str->Option Value}{base:Heap}
theorem zi{f:Addr}{fd:FuncData}(F:Fun K "recipes_of_part" "recipes_of_part" vR f fd)(C:Cons mg)(D1:Def P w K mg base "empty_keys" 1 ["signs"] oX)(D2:Def P w K mg base "keys_to_begin" 2 ["signs","word","sorts"] np)(D3:Def P w K mg base "sorts_of" 1 ["rows"] cF) :
  be P w K mg base CX0 3 f fd ["rows","number","word"] rH:=by
 refine F.ok lc (fun vs H Q E h=>?_) (fun cdv A outer s H vs Q E hr h=>?_)
 ·obtain⟨a,n,z,R,p,rfl,_⟩:=h;rfl
 ·obtain⟨a,n,z,R,p,rfl,hR,hsm,hn,k⟩:=h;obtain⟨ul,hl,rl⟩:=C.last;obtain⟨uh,hh,rh⟩:=C.hold;have hr1:bC 1 _:=hr.mono (by decide);refine⟨_,af (aq (i:=3) lc.nd rfl (Or.inl rfl) (aC aF (aC bn (pv 0) (pv 1) (fun _ _=>rfl)) am (fun _ _=>rfl)))
   (af (aq (i:=4) lc.nd rfl (Or.inl rfl) (aC aF (aC bn (pv 0) (pv 1) (fun _ _=>rfl)) am (fun _ _=>rfl)))
   (b9 (aq (i:=5) lc.nd rfl (Or.inl rfl) (bx (ad (aZ (ad (aZ (ad (bQ (by rfl) hl rl) (ad (pv 3) ac))) (ad (pv 1) (ad (aB D1 hr1 (by rfl) (ad (pv 4) ac)) ac)))) ac)))
   (af (bb PassesOwn.never rfl (aO (aB D2 hr (by rfl) (ad (pv 4) (ad (pv 2) (ad (aB D3 hr1 (by rfl) (ad (pv 0) ac)) ac))))) (az (i:=6) lc.nd rfl (Or.inl rfl))
    (ag (bv (bZ PySem.F.plainAttrs_list PySem.F.slot_list_append PySem.F.type_list_append bf (pv 5) (ad (aZ (ad (aZ (ad (bQ (by rfl) hh rh) (ad (pv 3) ac))) (ad (pv 1) (ad (pv 6) ac)))) ac)))))
   (ag (aQ (pv 5)))))),?_⟩
  obtain⟨rs,hrs,hp⟩:=id hR;obtain⟨v0,hv0⟩:∃v0,rs[n]? =some v0:=⟨_,aae (by rw[Paired.length hp];exact(aab.mp hn).1)⟩;obtain⟨p',tt,c,hp',rfl,htt,hc⟩:=cS hp hv0;rw[hn] at hp';cases hp';have hpm:p∈R:=aah hn;have hw20:=hsm.wid p hpm;have hc:H c=some (.lst (p.2.map V.str)):=hc;refine⟨_,rfl,_,rfl,a,_,(n:Int),_,rfl,rfl,SqL.of hrs,ak hv0,tt,_,0,_,rfl,rfl,SqT.of htt,ak (j:=0) rfl,?_⟩;refine⟨_,rfl,_,rfl,a,_,(n:Int),_,rfl,rfl,SqL.of hrs,ak hv0,tt,_,1,_,rfl,rfl,SqT.of htt,ak (j:=1) rfl,?_⟩;refine⟨fun σ H1=>∃wl,σ=[some (.ref a),some (.int n),some (.str z),some (.str p.1),some (.ref c),some (.ref wl),none]/\H wl=none/\bD RecAt H wl H1 [⟨("last",p.1),n,aX p.2⟩],?_,?_⟩
  ·refine⟨_,rfl,(show 2<=sizeLine by decide),fun kt hkt=>?_⟩;have s1:=ab.upd (o:=HO.tup [.str "last",.str p.1]) hkt;refine⟨_,rfl,_,rfl,c,p.2,rfl,s1 _ _ hc,by omega,fun e1 H2 s2 n2 hE=>⟨(show 3<=sizeLine by decide),fun t ht=>⟨(show 1<=sizeLine by decide),fun wl hwl=>?_⟩⟩⟩;have s3:=ab.upd (o:=HO.tup [.ref kt,.int (n:Int),.ref e1]) ht;have s123:=(s1.trans s2).trans s3;have hwlH:H wl=none:=s123.free hwl;refine⟨wl,rfl,hwlH,[.ref t],aa,.cons ?_ .nil,s123.trans (ab.upd hwl)⟩;rw[iS];have nw:∀b o,upd H2 t (.tup [.ref kt,.int (n:Int),.ref e1]) b=some o->b≠wl:=fun b o e q=>by rw[q,hwl] at e;cases e
   have hr':RecAt (upd H2 t (.tup [.ref kt,.int (n:Int),.ref e1])) (.ref t) ⟨("last",p.1),n,aX p.2⟩:=⟨t,kt,e1,rfl,aa,s3 _ _ (s2 _ _ aa),hE.mono s3⟩;have sh:ab (upd H2 t (.tup [.ref kt,.int (n:Int),.ref e1])) (hide wl (upd H2 t (.tup [.ref kt,.int (n:Int),.ref e1]))):=fun b o e=>by rw[hide_ne (nw b o e)];exact e
   exact hr'.mono sh
  rintro σ H1 ⟨wl,rfl,hwl,hg⟩;have sH1:=(hg.fin bE).1;refine⟨_,rfl,_,rfl,_,rfl,a,R,rfl,hR.mono sH1,hsm,fun qs H2 s2 n2 hS=>?_⟩;have hS:aA H2 qs (ao R):=hS;refine⟨c,qs,z,p.2,ao R,rfl,(sH1.trans s2) _ _ hc,hS,hw20,fun q H3 s3 n3 hW=>?_⟩;obtain⟨ws,hws,hpw⟩:=id hW;have hg3:=hg.on bE (s2.trans s3);obtain⟨vs0,hv0',_⟩:=id hg;have hqw:q≠wl:=fun e=>by rw[e,s2 _ _ hv0'] at n3;cases n3
  refine⟨q,rfl,⟨_,SqL.of hws⟩,bc (K:=K) (a:=q) (xs:=ws)
   (fun i σ H4=>(∃o,σ=[some (.ref a),some (.int n),some (.str z),some (.str p.1),some (.ref c),some (.ref wl),o])/\ab (hide wl H3) H4/\bD RecAt H wl H4 (⟨("last",p.1),n,aX p.2⟩::((cC z (ao R) p.2).take i).map fun ks=>⟨("hold",p.1),n,ks⟩))
   ⟨⟨_,rfl⟩,ab.fW,hg3⟩ ?_ ?_ ?_⟩
  ·rintro i σ H4 _ ⟨_,s4,_⟩;exact SqL.of (s4 _ _ (by rw[hide_ne hqw];exact hws))
  ·rintro i x σ H4 hx ⟨⟨o,rfl⟩,s4,hg4⟩;obtain⟨ks,hki,l,rfl,hkl,hln⟩:=aW hpw i x hx;have hil:i<(cC z (ao R) p.2).length:=(aab.mp hki).1;rw[cG] at hil;obtain⟨vs4,hv4,_⟩:=id hg4;have hlen4:=hg4.len hv4;rw[aau,aaa,aal] at hlen4;have hlw:l≠wl:=fun e=>by rw[e,s2 _ _ hv0'] at hln;cases hln
   have hkl4:aS H4 l ks:=(hkl.hide hlw (s3 _ _ (s2 _ _ hv0'))).mono s4;refine⟨_,rfl,.inl ⟨rfl,_,SqL.of hv4⟩,_,rfl,(show 2<=sizeLine by decide),fun kt hkt=>⟨_,rfl,_,rfl,(show 3<=sizeLine by decide),fun t ht=>?_⟩⟩;refine⟨wl,vs4,_,rfl,rfl,ab.upd ht _ _ (ab.upd hkt _ _ hv4),aD (by omega),⟨_,rfl⟩,?_,?_⟩
   ·exact((s4.trans (ab.upd hkt)).trans (ab.upd ht)).bK (if_pos rfl)
   ·rw[aap,hki,aam,←List.cons_append];exact o0 hwl hg4 hv4 hkl4 hlw hkt ht
  ·rintro σ H4 ⟨⟨o,rfl⟩,_,hg4⟩;rw[Paired.length hpw,aas] at hg4;obtain⟨h1,h2⟩:=hg4.fin bE;exact⟨_,rfl,k wl _ h1 hwl h2⟩
end
end Nw
namespace Nw
open PySem L2
open SL (ap srt)
theorem jp{H H2:Hp}{wl l kt t:Addr}{ys:List Rec}{vs:List V}{ks:List Kx}{kd lf:Str}{n:Nat}(hwl:H wl=none)(hg:bD RecAt H wl H2 ys)(e:H2 wl=some (.lst vs))(hkt:H2 kt=some (.tup [.str kd,.str lf]))(hk:aS H2 l ks)(hl:l≠wl)(ht:H2 t=none) :
  bD RecAt H wl (upd (upd H2 t (.tup [.ref kt,.int n,.ref l])) wl (.lst (vs++[.ref t]))) (ys++[⟨(kd,lf),n,ks⟩]):=by
 have s2:=ab.upd (o:=HO.tup [.ref kt,.int (n:Int),.ref l]) ht;have e2:=s2 _ _ e;have nk:kt≠wl:=fun q=>by rw[q,e] at hkt;cases hkt
 have nt:t≠wl:=fun q=>by rw[q,e] at ht;cases ht
 refine(hg.on bE s2).add hwl e2 ⟨t,kt,l,rfl,?_,?_,(hk.mono s2).hide hl e2⟩
 ·rw[hide_ne nt];exact aa
 ·rw[hide_ne nk];exact s2 _ _ hkt
theorem aS.len{H:Hp}{a:Addr}{ks:List Kx}{us:List V}(h:aS H a ks)(e:H a=some (.lst us)):us.length=ks.length:=by
 obtain⟨us',h1,h2⟩:=h;rw[e] at h1;cases h1;exact Paired.length h2
theorem l4{kd:Str}{i j:Nat}{t3:TE}{σ:St}{H:Hp}{Q:VK}{a:Addr}{g:Str}{xs:List Kx}(h0:σ[i]? =some (some (.ref a)))(h1:σ[j]? =some (some (.str g)))(hk:aS H a xs)(hl:xs.length<=100)
  (h3:∀m H3,ab H H3->H m=none->aS H3 m (xs++[.inr (kd,g)])->t3 σ H3 fun v3 H4=>nQ (.ref m) v3 H4 Q) :
  tOp nQ (tOp nQ (nF i) (uO (jz (uN (jz (tC (.str kd)) (jz (nF j) qE))) qE))) t3 σ H Q:=by
 refine⟨_,h0,_,h1,(show 2<=sizeLine by decide),fun tt htt=>⟨(show 1<=sizeLine by decide),fun q2 hq2=>?_⟩⟩;have s1:=ab.upd (o:=HO.tup [.str kd,.str g]) htt;have s2:=ab.upd (o:=HO.lst [.ref tt]) hq2;have s12:=s1.trans s2;obtain⟨us,hu,_⟩:=id (hk.mono s12);have hul:=(hk.mono s12).len hu;have hS:aS (upd (upd H tt (.tup [.str kd,.str g])) q2 (.lst [.ref tt])) q2 [.inr (kd,g)]:=⟨[.ref tt],aa,.cons ⟨tt,rfl,s2 _ _ aa⟩ .nil⟩;refine⟨a,q2,_,_,rfl,rfl,hu,aa,by rw[hul];exact aD (by omega),fun q3 hq3=>?_⟩;exact h3 q3 _ (s12.trans (ab.upd hq3)) (s12.free hq3) (aS.cat (hk.mono s12) hS hu aa hq3)
theorem pb{H:Hp}{Q:VK}{m b:Addr}{A B:List Kx}(h1:aS H m A)(h2:aS H b B)(hl:A.length+B.length<=900)(h:∀q H',ab H H'->H q=none->aS H' q (A++B)->Q (.ref q) H'):nQ (.ref m) (.ref b) H Q:=by
 obtain⟨us,hu,_⟩:=id h1;obtain⟨vs,hv,_⟩:=id h2;refine⟨m,b,us,vs,rfl,rfl,hu,hv,by rw[h1.len hu,h2.len hv];exact cy (by omega),fun q hq=>?_⟩;exact h q _ (ab.upd hq) hq (aS.cat h1 h2 hu hv hq)
theorem gT{α:Type}(A:List α)(x:α)(B:List α):A++x::B=A++[x]++B:=by simp
section
variable {P:Program}{w:World}{K:PySem.W.Frag}{mg:Str->Option Value}{base:Heap}
theorem zj{f:Addr}{fd:FuncData}(F:Fun K "recipes_of_row" "recipes_of_row" vS f fd)(C:Cons mg)(hEn:mg "enumerate"=none)(D0:Def P w K mg base "whole_keys" 1 ["signs","sorts"] rF)(D1:Def P w K mg base "empty_keys" 1 ["signs"] oX)
  (D2:Def P w K mg base "keys_to_begin" 2 ["signs","word","sorts"] np)(D3:Def P w K mg base "sorts_of" 1 ["rows"] cF):be P w K mg base CX0 3 f fd ["rows","number","word"] rJ:=by
 refine F.ok fc (fun vs H Q E h=>?_) (fun cdv A outer s H vs Q E hr h=>?_)
 ·obtain⟨a,n,z,R,p,rfl,_⟩:=h;rfl
 ·obtain⟨a,n,z,R,p,rfl,hR,hsm,hn,k⟩:=h;obtain⟨ul,hl,rl⟩:=C.last;obtain⟨uh,hh,rh⟩:=C.hold;obtain⟨ub,hb,rb⟩:=C.begin_;obtain⟨uw,hw,rw'⟩:=C.whole;obtain⟨ue,he,re⟩:=C.empty;have hr1:bC 1 _:=hr.mono (by decide);refine⟨_,af (aq (i:=3) fc.nd rfl (Or.inl rfl) (aB D3 hr1 (by rfl) (ad (pv 0) ac)))
   (af (aq (i:=4) fc.nd rfl (Or.inl rfl) (aC aF (aC bn (pv 0) (pv 1) (fun _ _=>rfl)) am (fun _ _=>rfl)))
   (af (aq (i:=5) fc.nd rfl (Or.inl rfl) (aC aF (aC bn (pv 0) (pv 1) (fun _ _=>rfl)) am (fun _ _=>rfl)))
   (b9 (aq (i:=6) fc.nd rfl (Or.inl rfl) (bx (ad (aZ (ad (aZ (ad (bQ (by rfl) hw rw') (ad (pv 4) ac))) (ad (pv 1) (ad (aB D0 hr1 (by rfl) (ad (pv 5) (ad (pv 3) ac))) ac))))
     (ad (aZ (ad (aZ (ad (bQ (by rfl) he re) (ad (pv 4) ac))) (ad (pv 1) (ad (aB D1 hr1 (by rfl) (ad (pv 5) ac)) ac)))) ac))))
   (b9 (bb PassesOwn.never rfl (aO (aB D2 hr (by rfl) (ad (pv 5) (ad (pv 2) (ad (pv 3) ac))))) (az (i:=7) fc.nd rfl (Or.inl rfl))
    (ag (bv (bZ PySem.F.plainAttrs_list PySem.F.slot_list_append PySem.F.type_list_append bf (pv 6) (ad (aZ (ad (aZ (ad (bQ (by rfl) hb rb) (ad (pv 4) ac))) (ad (pv 1) (ad (pv 7) ac)))) ac)))))
   (af (bb PassesOwn.never rfl (ir (by rfl) hEn (ad (pv 5) ac)) (cT (n:=2) rfl (aN (az (i:=8) fc.nd rfl (Or.inl rfl)) (aN (az (i:=9) fc.nd rfl (Or.inl rfl)) cp)))
    (b9 (aq (i:=10) fc.nd rfl (Or.inl rfl) (aB D0 hr1 (by rfl) (ad (dD eR (pv 5) eQ (dN (pv 8))) (ad (pv 3) ac))))
    (b9 (aq (i:=11) fc.nd rfl (Or.inl rfl) (dD eR (pv 5) (dN (bN eY (pv 8) am)) eQ))
    (b9 (bv (bZ PySem.F.plainAttrs_list PySem.F.slot_list_append PySem.F.type_list_append bf (pv 6) (ad (aZ (ad (aZ (ad (bQ (by rfl) hh rh) (ad (pv 4) ac))) (ad (pv 1) (ad
      (bN c8 (bN c8 (pv 10) (bx (ad (aZ (ad (bQ (by rfl) hh rh) (ad (pv 9) ac))) ac))) (aB D0 hr1 (by rfl) (ad (pv 11) (ad (pv 3) ac)))) ac)))) ac)))
    (b9 (bv (bZ PySem.F.plainAttrs_list PySem.F.slot_list_append PySem.F.type_list_append bf (pv 6) (ad (aZ (ad (aZ (ad (bQ (by rfl) hl rl) (ad (pv 4) ac))) (ad (pv 1) (ad
      (bN c8 (bN c8 (pv 10) (bx (ad (aZ (ad (bQ (by rfl) hl rl) (ad (pv 9) ac))) ac))) (aB D1 hr1 (by rfl) (ad (pv 11) ac))) ac)))) ac)))
    (ag (bb PassesOwn.never rfl (aO (aB D2 hr (by rfl) (ad (pv 11) (ad (pv 2) (ad (pv 3) ac))))) (az (i:=7) fc.nd rfl (Or.inl rfl))
     (ag (bv (bZ PySem.F.plainAttrs_list PySem.F.slot_list_append PySem.F.type_list_append bf (pv 6) (ad (aZ (ad (aZ (ad (bQ (by rfl) hh rh) (ad (pv 4) ac))) (ad (pv 1) (ad
      (bN c8 (bN c8 (pv 10) (bx (ad (aZ (ad (bQ (by rfl) hl rl) (ad (pv 9) ac))) ac))) (pv 7)) ac)))) ac)))))))))))
   (ag (aQ (pv 6)))))))),?_⟩
  obtain⟨rs,hrs,hp⟩:=id hR;obtain⟨v0,hv0⟩:∃v0,rs[n]? =some v0:=⟨_,aae (by rw[Paired.length hp];exact(aab.mp hn).1)⟩;obtain⟨p',tt,c,hp',rfl,htt,hc⟩:=cS hp hv0;rw[hn] at hp';cases hp';have hpm:p∈R:=aah hn;have hw20:=hsm.wid p hpm;have hc:H c=some (.lst (p.2.map V.str)):=hc;refine⟨_,rfl,a,R,rfl,hR,hsm,fun qs H0 s0 n0 hS=>?_⟩;have hS:H0 qs=some (.lst ((ao R).map V.str)):=hS;generalize hss:ao R=ss at hS;refine⟨_,rfl,_,rfl,a,_,(n:Int),_,rfl,rfl,SqL.of (s0 _ _ hrs),ak hv0,tt,_,0,_,rfl,rfl,SqT.of (s0 _ _ htt),ak (j:=0) rfl,?_⟩;refine⟨_,rfl,_,rfl,a,_,(n:Int),_,rfl,rfl,SqL.of (s0 _ _ hrs),ak hv0,tt,_,1,_,rfl,rfl,SqT.of (s0 _ _ htt),ak (j:=1) rfl,?_⟩;have hc0:H0 c=some (.lst (p.2.map V.str)):=s0 _ _ hc;refine⟨fun σ H1=>∃wl,σ=[some (.ref a),some (.int n),some (.str z),some (.ref qs),some (.str p.1),some (.ref c),some (.ref wl),none,none,none,none,none]/\H0 wl=none/\bD RecAt H0 wl H1 [⟨("whole",p.1),n,aI ss p.2⟩,⟨("empty",p.1),n,aX p.2⟩],?_,?_⟩
  ·refine⟨_,rfl,(show 2<=sizeLine by decide),fun kt hkt=>?_⟩;have s1:=ab.upd (o:=HO.tup [.str "whole",.str p.1]) hkt;refine⟨_,rfl,_,rfl,_,rfl,c,qs,p.2,ss,rfl,s1 _ _ hc0,s1 _ _ hS,by omega,fun e1 H2 s2 n2 hE=>⟨(show 3<=sizeLine by decide),fun t ht=>?_⟩⟩;have s3:=ab.upd (o:=HO.tup [.ref kt,.int (n:Int),.ref e1]) ht;have s123:=(s1.trans s2).trans s3;have r1:RecAt (upd H2 t (.tup [.ref kt,.int (n:Int),.ref e1])) (.ref t) ⟨("whole",p.1),n,aI ss p.2⟩:=⟨t,kt,e1,rfl,aa,s3 _ _ (s2 _ _ aa),hE.mono s3⟩;refine⟨_,rfl,(show 2<=sizeLine by decide),fun kt2 hkt2=>?_⟩;have s4:=ab.upd (o:=HO.tup [.str "empty",.str p.1]) hkt2;refine⟨_,rfl,_,rfl,c,p.2,rfl,s4 _ _ (s123 _ _ hc0),by omega,fun e2 H3 s5 n5 hE2=>⟨(show 3<=sizeLine by decide),fun t2 ht2=>⟨(show 2<=sizeLine by decide),fun wl hwl=>?_⟩⟩⟩;have s6:=ab.upd (o:=HO.tup [.ref kt2,.int (n:Int),.ref e2]) ht2;have iP:=(s123.trans (s4.trans s5)).trans s6;have r2:RecAt (upd H3 t2 (.tup [.ref kt2,.int (n:Int),.ref e2])) (.ref t2) ⟨("empty",p.1),n,aX p.2⟩:=⟨t2,kt2,e2,rfl,aa,s6 _ _ (s5 _ _ aa),hE2.mono s6⟩;refine⟨wl,rfl,iP.free hwl,[.ref t,.ref t2],aa,?_,iP.trans (ab.upd hwl)⟩;rw[iS];have sh:ab (upd H3 t2 (.tup [.ref kt2,.int (n:Int),.ref e2])) (hide wl (upd H3 t2 (.tup [.ref kt2,.int (n:Int),.ref e2]))):=fun b o e=>by rw[hide_ne (fun q=>by rw[q,hwl] at e;cases e)];exact e
   exact .cons (r1.mono ((s4.trans s5).trans (s6.trans sh))) (.cons (r2.mono sh) .nil)
  rintro σ H1 ⟨wl,rfl,hwl,hg⟩;have fin0:∀{H4:Hp} {ys:List Rec},bD RecAt H0 wl H4 ys->H4 c=some (.lst (p.2.map V.str))/\H4 qs=some (.lst (ss.map V.str)):=fun hg=>⟨(hg.fin bE).1 _ _ hc0,(hg.fin bE).1 _ _ hS⟩
  refine⟨fun σ H4=>(∃o,σ=[some (.ref a),some (.int n),some (.str z),some (.ref qs),some (.str p.1),some (.ref c),some (.ref wl),o,none,none,none,none])/\bD RecAt H0 wl H4 (⟨("whole",p.1),n,aI ss p.2⟩::⟨("empty",p.1),n,aX p.2⟩::(cC z ss p.2).map fun ks=>⟨("begin",p.1),n,ks⟩),?_,?_⟩
  ·refine⟨_,rfl,_,rfl,_,rfl,c,qs,z,p.2,ss,rfl,(fin0 hg).1,(fin0 hg).2,hw20,fun q H3 s3 n3 hW=>?_⟩;obtain⟨ws,hws,hpw⟩:=id hW;have hg3:=hg.on bE s3;obtain⟨vs0,hv0',_⟩:=id hg;have hqw:q≠wl:=fun e=>by rw[e,hv0'] at n3;cases n3
   refine⟨q,rfl,⟨_,SqL.of hws⟩,bc (K:=K) (a:=q) (xs:=ws)
    (fun i σ H4=>(∃o,σ=[some (.ref a),some (.int n),some (.str z),some (.ref qs),some (.str p.1),some (.ref c),some (.ref wl),o,none,none,none,none])/\ab (hide wl H3) H4/\bD RecAt H0 wl H4 (⟨("whole",p.1),n,aI ss p.2⟩::⟨("empty",p.1),n,aX p.2⟩::((cC z ss p.2).take i).map fun ks=>⟨("begin",p.1),n,ks⟩))
    ⟨⟨_,rfl⟩,ab.fW,hg3⟩ ?_ ?_ ?_⟩
   ·rintro i σ H4 _ ⟨_,s4,_⟩;exact SqL.of (s4 _ _ (by rw[hide_ne hqw];exact hws))
   ·rintro i x σ H4 hx ⟨⟨o,rfl⟩,s4,hg4⟩;obtain⟨ks,hki,l,rfl,hkl,hln⟩:=aW hpw i x hx;have hil:i<(cC z ss p.2).length:=(aab.mp hki).1;rw[cG] at hil;obtain⟨vs4,hv4,_⟩:=id hg4;have hlen4:=hg4.len hv4;rw[aau,aau,aaa,aal] at hlen4;have hlw:l≠wl:=fun e=>by rw[e,hv0'] at hln;cases hln
    have hkl4:aS H4 l ks:=(hkl.hide hlw (s3 _ _ hv0')).mono s4;refine⟨_,rfl,.inl ⟨rfl,_,SqL.of hv4⟩,_,rfl,(show 2<=sizeLine by decide),fun kt hkt=>⟨_,rfl,_,rfl,(show 3<=sizeLine by decide),fun t ht=>?_⟩⟩;refine⟨wl,vs4,_,rfl,rfl,ab.upd ht _ _ (ab.upd hkt _ _ hv4),aD (by omega),⟨_,rfl⟩,((s4.trans (ab.upd hkt)).trans (ab.upd ht)).bK (if_pos rfl),?_⟩;rw[aap,hki,aam,←List.cons_append,←List.cons_append];exact o0 hwl hg4 hv4 hkl4 hlw hkt ht
   ·rintro σ H4 ⟨⟨o,rfl⟩,_,hg4⟩;rw[Paired.length hpw,aas] at hg4;exact⟨⟨_,rfl⟩,hg4⟩
  clear hg;rintro σ H2 ⟨⟨o7,rfl⟩,hg⟩;generalize hY0:(⟨("whole",p.1),n,aI ss p.2⟩::⟨("empty",p.1),n,aX p.2⟩::(cC z ss p.2).map fun ks=>(⟨("begin",p.1),n,ks⟩:Rec))=Y0 at hg;have hY0l:Y0.length<=22:=by
   rw[←hY0,aau,aau,aaa,cG];omega
  have plen:∀i,((List.range i).flatMap (bw z ss n p)).length<=22*i:=fun i=>by
   induction i with
   |zero=>simp
   |succ i ih=>
    rw[List.range_succ,List.flatMap_append,aag];have:([i].flatMap (bw z ss n p)).length<=22:=by
     rw[List.flatMap_cons,List.flatMap_nil,List.append_nil];unfold bw;rw[aau,aau,aaa,cG,List.length_drop];omega
    omega
  refine⟨_,rfl,c,rfl,⟨_,SqL.of (fin0 hg).1⟩,gD (K:=K) (a:=c) (xs:=p.2.map V.str)
   (fun i σ H4=>(∃o1 o2 o3 o4 o5,σ=[some (.ref a),some (.int n),some (.str z),some (.ref qs),some (.str p.1),some (.ref c),some (.ref wl),o1,o2,o3,o4,o5])/\bD RecAt H0 wl H4 (Y0++(List.range i).flatMap (bw z ss n p)))
   ⟨⟨_,_,_,_,_,rfl⟩,by simpa using hg⟩ ?_ ?_ ?_⟩
  ·rintro i σ H4 _ ⟨_,hg⟩;exact SqL.of (fin0 hg).1
  ·clear hg;rintro i x t0 σ H4 hx ⟨⟨o1,o2,o3,o4,o5,rfl⟩,hg⟩ ht0;obtain⟨y,hy,rfl⟩:=bS hx;have hil:i<p.2.length:=(aab.mp hy).1;have ey:p.2.getD i ""=y:=by rw[aat,hy];rfl
   have s1:=ab.upd (o:=HO.tup [.int i,.str y]) ht0;have hg1:=hg.on bE s1;refine⟨t0,_,rfl,SqT.of aa,rfl,_,_,rfl,_,_,rfl,rfl,?_⟩;generalize upd H4 t0 (.tup [.int i,.str y])=H5 at hg1;clear hg s1 ht0;have hY1l:(Y0++(List.range i).flatMap (bw z ss n p)).length<=22+22*i:=by
    rw[aag];have:=plen i;omega
   generalize hY1:Y0++(List.range i).flatMap (bw z ss n p)=Y1 at hg1 hY1l;refine⟨fun σ H6=>∃ah,σ=[some (.ref a),some (.int n),some (.str z),some (.ref qs),some (.str p.1),some (.ref c),some (.ref wl),o1,some (.int i),some (.str y),some (.ref ah),o5]/\bD RecAt H0 wl H6 Y1/\ah≠wl/\aS (hide wl H6) ah (aI ss (p.2.take i)),?_,?_⟩
   ·refine⟨_,rfl,_,rfl,_,rfl,c,_,rfl,SqL.of (fin0 hg1).1,fun q1 hq1=>?_⟩;rw[oY];have s7:=ab.upd (o:=HO.lst ((p.2.take i).map V.str)) hq1;refine⟨_,rfl,q1,qs,p.2.take i,ss,rfl,aa,s7 _ _ (fin0 hg1).2,by rw[aal];omega,fun ah H8 s8 n8 hE=>?_⟩;have hg8:=hg1.on bE (s7.trans s8);obtain⟨vs1,hv1,_⟩:=id (hg1.on bE s7);have haw:ah≠wl:=fun e=>by rw[e,hv1] at n8;cases n8
    exact⟨ah,rfl,hg8,haw,hE.hide haw (s8 _ _ hv1)⟩
   clear hg1;rintro σ H6 ⟨ah,rfl,hg6,haw,hE6⟩;refine⟨fun σ H7=>∃re,σ=[some (.ref a),some (.int n),some (.str z),some (.ref qs),some (.str p.1),some (.ref c),some (.ref wl),o1,some (.int i),some (.str y),some (.ref ah),some (.ref re)]/\bD RecAt H0 wl H7 Y1/\aS (hide wl H7) ah (aI ss (p.2.take i))/\hide wl H7 re=some (.lst ((p.2.drop (i+1)).map V.str)),?_,?_⟩
   ·refine⟨_,rfl,_,rfl,_,_,rfl,rfl,_,rfl,c,_,rfl,SqL.of (fin0 hg6).1,fun q1 hq1=>?_⟩;have ec:de (p.2.map V.str) (some ((i:Int)+1)) none=(p.2.drop (i+1)).map V.str:=ke p.2 (i+1);rw[ec];have s7:=ab.upd (o:=HO.lst ((p.2.drop (i+1)).map V.str)) hq1;obtain⟨vs1,hv1,_⟩:=id hg6;have hqw:q1≠wl:=fun e=>by rw[e,hv1] at hq1;cases hq1
    exact⟨q1,rfl,hg6.on bE s7,hE6.mono s7.hide,by rw[hide_ne hqw];exact aa⟩
   clear hg6 hE6;rintro σ H7 ⟨re,rfl,hg7,hE7,hre7⟩;have tl:(p.2.take i).length=i:=by rw[aal];omega
   have dl:(p.2.drop (i+1)).length=p.2.length - (i+1):=List.length_drop ..;refine⟨fun σ H8=>σ=[some (.ref a),some (.int n),some (.str z),some (.ref qs),some (.str p.1),some (.ref c),some (.ref wl),o1,some (.int i),some (.str y),some (.ref ah),some (.ref re)]/\bD RecAt H0 wl H8 (Y1++[⟨("hold",p.1),n,aI ss (p.2.take i)++.inr ("hold",y)::aI ss (p.2.drop (i+1))⟩])/\ab (hide wl H7) H8,?_,?_⟩
   ·obtain⟨vs7,hv7,_⟩:=id hg7;have hvl:=hg7.len hv7;refine⟨_,rfl,.inl ⟨rfl,_,SqL.of hv7⟩,_,rfl,(show 2<=sizeLine by decide),fun kt hkt=>⟨_,rfl,?_⟩⟩;have s8:=ab.upd (o:=HO.tup [.str "hold",.str p.1]) hkt;refine l4 (xs:=aI ss (p.2.take i)) rfl rfl ((hE7.mono ab.fW).mono s8) (by rw[bY,tl];omega) fun m H9 s9 n9 hM=>?_
    have s89:=s8.trans s9;refine⟨_,rfl,_,rfl,re,qs,p.2.drop (i+1),ss,rfl,s89 _ _ (ab.fW _ _ hre7),s89 _ _ (fin0 hg7).2,by rw[dl];omega,fun e2 H10 s10 n10 hW=>?_⟩;refine pb (hM.mono s10) hW (by rw[aag,bY,bY,tl,dl,aav];omega) fun q H11 s11 n11 hZ=>⟨(show 3<=sizeLine by decide),fun t ht=>?_⟩
    have sA:=(s89.trans s10).trans s11;have hgA:=hg7.on bE sA;have hvA:=sA _ _ hv7;have hqw:q≠wl:=fun e=>by rw[e,(s89.trans s10) _ _ hv7] at n11;cases n11
    refine⟨wl,vs7,_,rfl,rfl,ab.upd ht _ _ hvA,by rw[hvl];exact aD (by omega),rfl,?_,?_⟩
    ·rw[gT (aI ss (p.2.take i))];exact jp hwl hgA hvA (((s9.trans s10).trans s11) _ _ aa) hZ hqw ht
    ·exact((ab.fW.trans sA).trans (ab.upd ht)).bK (if_pos rfl)
   rintro σ H8 ⟨rfl,hg8,s8⟩;have hE8:aS H8 ah (aI ss (p.2.take i)):=hE7.mono s8;have hre8:H8 re=some (.lst ((p.2.drop (i+1)).map V.str)):=s8 _ _ hre7;refine⟨fun σ H9=>σ=[some (.ref a),some (.int n),some (.str z),some (.ref qs),some (.str p.1),some (.ref c),some (.ref wl),o1,some (.int i),some (.str y),some (.ref ah),some (.ref re)]/\bD RecAt H0 wl H9 (Y1++[⟨("hold",p.1),n,aI ss (p.2.take i)++.inr ("hold",y)::aI ss (p.2.drop (i+1))⟩,⟨("last",p.1),n,aI ss (p.2.take i)++.inr ("last",y)::aX (p.2.drop (i+1))⟩])/\ab (hide wl H7) H9,?_,?_⟩
   ·obtain⟨vs7,hv7,_⟩:=id hg8;have hvl:=hg8.len hv7;rw[aag,aav] at hvl;refine⟨_,rfl,.inl ⟨rfl,_,SqL.of hv7⟩,_,rfl,(show 2<=sizeLine by decide),fun kt hkt=>⟨_,rfl,?_⟩⟩;have s8':=ab.upd (o:=HO.tup [.str "last",.str p.1]) hkt;refine l4 (xs:=aI ss (p.2.take i)) rfl rfl (hE8.mono s8') (by rw[bY,tl];omega) fun m H9 s9 n9 hM=>?_
    have s89:=s8'.trans s9;refine⟨_,rfl,re,p.2.drop (i+1),rfl,s89 _ _ hre8,by rw[dl];omega,fun e2 H10 s10 n10 hW=>?_⟩;refine pb (hM.mono s10) hW (by rw[aag,bY,dX,tl,dl,aav];omega) fun q H11 s11 n11 hZ=>⟨(show 3<=sizeLine by decide),fun t ht=>?_⟩
    have sA:=(s89.trans s10).trans s11;have hgA:=hg8.on bE sA;have hvA:=sA _ _ hv7;have hqw:q≠wl:=fun e=>by rw[e,(s89.trans s10) _ _ hv7] at n11;cases n11
    refine⟨wl,vs7,_,rfl,rfl,ab.upd ht _ _ hvA,by rw[hvl];exact aD (by omega),rfl,?_,?_⟩
    ·rw[gT (aI ss (p.2.take i)) (Sum.inr ("last",y)),gT Y1 _ [_]];exact jp hwl hgA hvA (((s9.trans s10).trans s11) _ _ aa) hZ hqw ht
    ·exact((s8.trans sA).trans (ab.upd ht)).bK (if_pos rfl)
   clear hg8 s8 hE8 hre8;rintro σ H9 ⟨rfl,hg9,s9⟩;have hre9:H9 re=some (.lst ((p.2.drop (i+1)).map V.str)):=s9 _ _ hre7;generalize hY2:Y1++[(⟨("hold",p.1),n,aI ss (p.2.take i)++.inr ("hold",y)::aI ss (p.2.drop (i+1))⟩:Rec),⟨("last",p.1),n,aI ss (p.2.take i)++.inr ("last",y)::aX (p.2.drop (i+1))⟩]=Y2 at hg9;have hY2l:Y2.length<=24+22*i:=by
    rw[←hY2,aag];simp only[aau,List.length_nil];omega
   refine⟨_,rfl,_,rfl,_,rfl,re,qs,z,p.2.drop (i+1),ss,rfl,hre9,(fin0 hg9).2,by rw[dl];omega,fun q HB sB nB hW=>?_⟩;obtain⟨ws,hws,hpw⟩:=id hW;have hgB:=hg9.on bE sB;obtain⟨vs9,hv9,_⟩:=id hg9;have hqw:q≠wl:=fun e=>by rw[e,hv9] at nB;cases nB
   have ekeys:∀(m:Nat),((cC z ss (p.2.drop (i+1))).take m).length<=20:=fun m=>by
    rw[aal,cG,dl];omega
   refine⟨q,rfl,⟨_,SqL.of hws⟩,bc (K:=K) (a:=q) (xs:=ws)
    (fun m σ H4=>(∃o,σ=[some (.ref a),some (.int n),some (.str z),some (.ref qs),some (.str p.1),some (.ref c),some (.ref wl),o,some (.int i),some (.str y),some (.ref ah),some (.ref re)])/\ab (hide wl HB) H4/\
     bD RecAt H0 wl H4 (Y2++((cC z ss (p.2.drop (i+1))).take m).map fun ks=>⟨("hold",p.1),n,aI ss (p.2.take i)++.inr ("last",y)::ks⟩))
    ⟨⟨_,rfl⟩,ab.fW,by simpa using hgB⟩ ?_ ?_ ?_⟩
   ·rintro m σ H4 _ ⟨_,s4,_⟩;exact SqL.of (s4 _ _ (by rw[hide_ne hqw];exact hws))
   ·rintro m x σ H4 hx ⟨⟨o,rfl⟩,s4,hg4⟩;obtain⟨ks,hki,l,rfl,hkl,hln⟩:=aW hpw m x hx;have hksl:ks.length<=20:=by
     unfold cC at hki;rw[aax] at hki;cases hq:(List.range (p.2.drop (i+1)).length)[m]? with
     |none=>rw[hq] at hki;cases hki
     |some j=>
      rw[hq] at hki;have hki:some (cL z ss (p.2.drop (i+1)) j)=some ks:=hki;injection hki with hki;have hj:j<(p.2.drop (i+1)).length:=List.mem_range.mp (aah hq);rw[←hki,oZ hj,dl];omega
    obtain⟨vs4,hv4,_⟩:=id hg4;have hlen4:=hg4.len hv4;rw[aag,aaa] at hlen4;have:=ekeys m;have hlw:l≠wl:=fun e=>by rw[e,hv9] at hln;cases hln
    have hkl4:aS H4 l ks:=(hkl.hide hlw (sB _ _ hv9)).mono s4;have hE4:aS H4 ah (aI ss (p.2.take i)):=by
     have h1:aS H9 ah (aI ss (p.2.take i)):=hE7.mono s9;exact((h1.mono sB).hide haw (sB _ _ hv9)).mono s4
    refine⟨_,rfl,.inl ⟨rfl,_,SqL.of hv4⟩,_,rfl,(show 2<=sizeLine by decide),fun kt hkt=>⟨_,rfl,?_⟩⟩;have s8':=ab.upd (o:=HO.tup [.str "hold",.str p.1]) hkt;refine l4 (xs:=aI ss (p.2.take i)) rfl rfl (hE4.mono s8') (by rw[bY,tl];omega) fun mm H10 s10 n10 hM=>⟨_,rfl,?_⟩
    refine pb hM ((hkl4.mono s8').mono s10) (by rw[aag,bY,tl,aav];omega) fun q5 H11 s11 n11 hZ=>⟨(show 3<=sizeLine by decide),fun t ht=>?_⟩
    have sA:=(s8'.trans s10).trans s11;have hgA:=hg4.on bE sA;have hvA:=sA _ _ hv4;have hq5w:q5≠wl:=fun e=>by rw[e,(s8'.trans s10) _ _ hv4] at n11;cases n11
    refine⟨wl,vs4,_,rfl,rfl,ab.upd ht _ _ hvA,by rw[hlen4];exact aD (by omega),⟨_,rfl⟩,((s4.trans sA).trans (ab.upd ht)).bK (if_pos rfl),?_⟩;rw[aap,hki,aam,←List.append_assoc];show bD RecAt H0 wl _ (_++[⟨("hold",p.1),n,aI ss (p.2.take i)++.inr ("last",y)::ks⟩]);rw[gT (aI ss (p.2.take i)) (Sum.inr ("last",y))];exact jp hwl hgA hvA ((s10.trans s11) _ _ aa) hZ hq5w ht
   ·rintro σ H4 ⟨⟨o,rfl⟩,_,hg4⟩;rw[Paired.length hpw,aas] at hg4;refine⟨⟨_,_,_,_,_,rfl⟩,?_⟩;have e:Y0++(List.range (i+1)).flatMap (bw z ss n p)=Y2++(cC z ss (p.2.drop (i+1))).map fun ks=>(⟨("hold",p.1),n,aI ss (p.2.take i)++.inr ("last",y)::ks⟩:Rec):=by
     rw[List.range_succ,List.flatMap_append,←List.append_assoc,hY1,←hY2,List.flatMap_cons,List.flatMap_nil,List.append_nil];unfold bw;rw[ey];simp
    rw[e];exact hg4
  ·rintro σ H4 ⟨⟨_,_,_,_,_,rfl⟩,hg4⟩;rw[aaa] at hg4;obtain⟨h1,h2⟩:=hg4.fin bE;refine⟨_,rfl,k wl _ (s0.trans h1) (s0.free hwl) ?_⟩;rw[hss];unfold cz;rw[hY0];exact h2
end
end Nw
namespace Nw
open PySem L2
open SL (ap srt)
abbrev Bst:=Str×Str->Option (Nat×Rec)
def bB(k:Str×Str):List Key:=[.inr k.1,.inr k.2]
theorem gE{a b:Str×Str}(h:bB a=bB b):a=b:=by
 unfold bB at h;injection h with h1 h2;injection h1 with h1;injection h2 with h2 _;injection h2 with h2;exact Prod.ext h1 h2
structure bP(H:Hp)(d:Addr)(ks:List (Str×Str))(g:Bst):Prop where
 ex:∃kvs,H d=some (.dT kvs)/\kvs.map (·.1)=ks.map bB/\∀k,match g k with
  |some (c,r)=>∃t v,bj kvs (bB k)=some (.ref t)/\H t=some (.tup [.int (c:Nat),v])/\RecAt H v r
  |none=>bj kvs (bB k)=none
 mem:∀k,k∈ks↔∃c r,g k=some (c,r)
theorem bP.mono{H H':Hp}{d:Addr}{ks:List (Str×Str)}{g:Bst}(h:bP H d ks g)(s:ab H H'):bP H' d ks g:=by
 obtain⟨⟨kvs,h1,h2,h3⟩,h4⟩:=h;refine⟨⟨kvs,s _ _ h1,h2,fun k=>?_⟩,h4⟩;have:=h3 k;cases e:g k with
 |none=>rw[e] at this;exact this
 |some cr=>
  rw[e] at this;obtain⟨t,v,a,b,c⟩:=this;exact⟨t,v,a,s _ _ b,c.mono s⟩
theorem bP.get{H:Hp}{d b:Addr}{ks:List (Str×Str)}{g:Bst}(h:bP H d ks g){k:Str×Str}(hb:H b=some (.tup [.str k.1,.str k.2])) :
  (∃c r t v,g k=some (c,r)/\bR H d (.ref b) (some (.ref t))/\H t=some (.tup [.int (c:Nat),v])/\RecAt H v r)\/(g k=none/\bR H d (.ref b) none):=by
 obtain⟨⟨kvs,h1,h2,h3⟩,_⟩:=h;have h:=h3 k;cases e:g k with
 |none=>
  rw[e] at h;refine .inr ⟨rfl,?_⟩;have h:bj kvs (bB k)=none:=h;rw[←h];exact bR.t h1 hb
 |some cr=>
  obtain⟨c,r⟩:=cr;rw[e] at h;obtain⟨t,v,a,b',c'⟩:=h;refine .inl ⟨c,r,t,v,rfl,?_,b',c'⟩;rw[←a];exact bR.t h1 hb
def aH(g:Bst):List Kx->Option Nat
 |[]=>some 0
 |.inl _::r=>(aH g r).map (1 + ·)
 |.inr p::r=>(g p).bind fun cr=>(aH g r).map (cr.1 + ·)
theorem dA(g:Bst):∀a b,aH g (a++b)=(aH g a).bind fun x=>(aH g b).map (x + ·)
 |[],b=>by
  show aH g b=(aH g b).map (0 + ·);cases aH g b <;> simp
 |.inl w::a,b=>by
  show(aH g (a++b)).map (1 + ·)=((aH g a).map (1 + ·)).bind _;rw[dA g a b];cases aH g a with
  |none=>rfl
  |some x=>cases aH g b <;> simp[Nat.add_assoc]
 |.inr p::a,b=>by
  show((g p).bind fun cr=>(aH g (a++b)).map (cr.1 + ·))=((g p).bind fun cr=>(aH g a).map (cr.1 + ·)).bind _;rw[dA g a b];cases g p with
  |none=>rfl
  |some cr=>
   cases aH g a with
   |none=>rfl
   |some x=>cases aH g b <;> simp[Nat.add_assoc]
theorem rK{g:Bst}{l:List Kx}{i:Nat}{k:Kx}(hk:l[i]? =some k)(h:aH g (l.take i++[k])=none):aH g l=none:=by
 have e:l=(l.take i++[k])++l.drop (i+1):=by
  have hi:=(aab.mp hk);have:l.take (i+1)=l.take i++[k]:=by rw[aap,hk];rfl
  rw[←this,List.take_append_drop]
 rw[e,dA,h];rfl
abbrev vT:Stmt:=top 30
theorem lg:aJ ["keys","best","cost","key"] ["keys","best"] (aw vT):=⟨rfl,rfl,rfl,by decide +kernel,rfl,by decide +kernel,by decide +kernel⟩
def z6:Option Nat->V
 |some c=>.int (c:Nat)
 |none=>.non
def rL:Sp:=fun vs H Q _=>∃(l d:Addr) (ks:List Kx) (kk:List (Str×Str)) (g:Bst),vs=[.ref l,.ref d]/\aS H l ks/\bP H d kk g/\Q (z6 (aH g ks)) H
section
variable {P:Program}{w:World}{K:PySem.W.Frag}{mg:Str->Option Value}{base:Heap}
theorem zk:PySem.W.kitOne K (.type "str") (.type "tuple")=some false:=by rfl
theorem zl{f:Addr}{fd:FuncData}(F:Fun K "cost_of_keys" "cost_of_keys" vT f fd)(T:Txt mg):be P w K mg base CX0 1 f fd ["keys","best"] rL:=by
 refine F.ok lg (fun vs H Q E h=>?_) (fun cdv A outer s H vs Q E hr h=>?_)
 ·obtain⟨l,d,ks,kk,g,rfl,_⟩:=h;rfl
 ·obtain⟨l,d,ks,kk,g,rfl,hK,hB,k⟩:=h;have hu:=cI hr;refine⟨_,af (aq (i:=2) lg.nd rfl (Or.inl rfl) am)
   (af (bb PassesOwn.never rfl (aO (pv 0)) (az (i:=3) lg.nd rfl (Or.inl rfl))
    (ag (a7 (b8 (ba (au a0 (by rfl) T.isi boot_isinstance (ad (pv 3) (ad (a9 (v:=.ty "tuple") (by rfl) T.tup dG rfl) ac)))))
     (ag (aq (i:=2) lg.nd rfl (Or.inl rfl) (bN eY (pv 2) am)))
     (ag (a7 (gt (ja hu (pv 3) (pv 1)))
      (ag (aq (i:=2) lg.nd rfl (Or.inl rfl) (bN eY (pv 2) (aC aF (cq hu (pv 1) (pv 3) (fun _ _=>rfl)) am (fun _ _=>rfl)))))
      (ag (aQ gs)))))))
   (ag (aQ (pv 2)))),?_⟩
  obtain⟨us,hus,hp⟩:=id hK;refine⟨_,rfl,l,rfl,⟨_,SqL.of hus⟩,bc (K:=K) (a:=l) (xs:=us)
   (fun i σ H4=>H4=H/\∃c o,aH g (ks.take i)=some c/\σ=[some (.ref l),some (.ref d),some (.int (c:Nat)),o]) ⟨rfl,0,_,rfl,rfl⟩ ?_ ?_ ?_⟩
  ·rintro i σ H4 _ ⟨rfl,_⟩;exact SqL.of hus
  ·rintro i x σ H4 hx ⟨rfl,c,o,hc,rfl⟩;obtain⟨kx,hki,hkx⟩:=aW hp i x hx;have et:ks.take (i+1)=ks.take i++[kx]:=by rw[aap,hki];rfl
   cases kx with
   |inl w=>
    have hkx:x=.str w:=hkx;subst hkx;refine⟨_,rfl,_,_,_,_,rfl,.str _,zk,_,rfl,?_⟩;refine bF ⟨_,rfl,_,_,rfl,rfl,rfl,c+1,_,?_,rfl⟩;rw[et,dA,hc];rfl
   |inr p=>
    obtain⟨t,rfl,ht⟩:=hkx;refine⟨_,rfl,_,_,_,_,rfl,.tup ht,kc,_,rfl,?_⟩;refine aK ?_;rcases hB.get ht with ⟨cc,r,tt,v,hg,hd,htt,_⟩|⟨hg,hd⟩
    ·refine⟨_,rfl,_,rfl,d,_,rfl,hd,_,rfl,bF ⟨_,rfl,_,rfl,_,rfl,d,_,rfl,hd,tt,_,0,_,rfl,rfl,SqT.of htt,ak (j:=0) rfl,_,_,rfl,rfl,rfl,c+cc,some (.ref t),?_,?_⟩⟩
     ·rw[et,dA,hc];simp[aH,hg]
     ·show [_,_,some (V.int ((c:Int)+(cc:Int))),_]=_;push_cast;rfl
    ·refine⟨_,rfl,_,rfl,d,_,rfl,hd,_,rfl,aK ?_⟩;have hn:aH g ks=none:=rK hki (by
      rw[dA,hc];simp[aH,hg])
     rw[hn] at k;exact k
  ·rintro σ H4 ⟨rfl,c,o,hc,rfl⟩;have hl:us.length=ks.length:=Paired.length hp;rw[hl,aas] at hc;rw[hc] at k;exact⟨_,rfl,k⟩
end
end Nw
namespace Nw
open PySem L2
open SL (ap srt)
def setB(g:Bst)(k:Str×Str)(v:Nat×Rec):Bst:=fun j=>if j=k then some v else g j
theorem dB(g:Bst)(k:Str×Str)(v:Nat×Rec):setB g k v k=some v:=if_pos rfl
theorem dO{g:Bst}{k j:Str×Str}{v:Nat×Rec}(h:j≠k):setB g k v j=g j:=if_neg h
def LeB(g g':Bst):Prop:=∀k c r,g k=some (c,r)->∃c' r',g' k=some (c',r')/\c'<=c
theorem iT{g g':Bst}(h:LeB g g'):∀{l:List Kx} {c:Nat},aH g l=some c->∃c',aH g' l=some c'/\c'<=c
 |[],c,e=>⟨0,rfl,Nat.zero_le _⟩
 |.inl w::l,c,e=>by
  have e:(aH g l).map (1 + ·)=some c:=e;cases q:aH g l with
  |none=>rw[q] at e;cases e
  |some x=>
   rw[q] at e;have e:some (1+x)=some c:=e;injection e with e;obtain⟨x',e',l'⟩:=iT h q;exact⟨1+x',by show(aH g' l).map (1 + ·)=_;rw[e'];rfl,by omega⟩
 |.inr p::l,c,e=>by
  have e:((g p).bind fun cr=>(aH g l).map (cr.1 + ·))=some c:=e;cases qp:g p with
  |none=>rw[qp] at e;cases e
  |some cr=>
   obtain⟨y,r⟩:=cr;rw[qp] at e;cases q:aH g l with
   |none=>rw[q] at e;cases e
   |some x=>
    rw[q] at e;have e:some (y+x)=some c:=e;injection e with e;obtain⟨x',e',l'⟩:=iT h q;obtain⟨y',r',ey,ly⟩:=h p y r qp;exact⟨y'+x',by show((g' p).bind fun cr=>(aH g' l).map (cr.1 + ·))=_;rw[ey,e'];rfl,by omega⟩
theorem hG{g:Bst}{B:Nat}(hB:1<=B)(h:∀k c r,g k=some (c,r)->c<=B):∀{l:List Kx} {c:Nat},aH g l=some c->c<=l.length*B
 |[],c,e=>by
  have e:some 0=some c:=e;injection e with e;omega
 |.inl w::l,c,e=>by
  have e:(aH g l).map (1 + ·)=some c:=e;cases q:aH g l with
  |none=>rw[q] at e;cases e
  |some x=>
   rw[q] at e;have e:some (1+x)=some c:=e;injection e with e;have:=hG hB h q;rw[aau,Nat.succ_mul];omega
 |.inr p::l,c,e=>by
  have e:((g p).bind fun cr=>(aH g l).map (cr.1 + ·))=some c:=e;cases qp:g p with
  |none=>rw[qp] at e;cases e
  |some cr=>
   obtain⟨y,r⟩:=cr;rw[qp] at e;cases q:aH g l with
   |none=>rw[q] at e;cases e
   |some x=>
    rw[q] at e;have e:some (y+x)=some c:=e;injection e with e;have:=hG hB h q;have:=h p y r qp;rw[aau,Nat.succ_mul];omega
def fA(M π:Nat):Nat->Nat
 |0=>1
 |n+1=>fA M π n+(M*fA M π n + π)
theorem pd(M π:Nat):∀n,1<=fA M π n
 |0=>Nat.le_refl _
 |n+1=>Nat.le_trans (pd M π n) (Nat.le_add_right _ _)
theorem mH(M π:Nat):∀{m n:Nat},m<=n->fA M π m<=fA M π n:=by
 intro m n h
 induction h with
 |refl=>exact Nat.le_refl _
 |step _ ih=>exact Nat.le_trans ih (Nat.le_add_right _ _)
def fe(g:Bst)(ks:List (Str×Str)):Nat:=(ks.map fun k=>((g k).map (·.1)).getD 0).sum
theorem t8(g:Bst)(ks:List (Str×Str))(k:Str×Str):fe g (ks++[k])=fe g ks+((g k).map (·.1)).getD 0:=by
 unfold fe;rw[aam,List.sum_append];simp
theorem lh{g g':Bst}{ks:List (Str×Str)}(h:∀k∈ks,g k=g' k):fe g ks=fe g' ks:=by
 unfold fe;rw[List.map_congr_left fun k hk=>by rw[h k hk]]
theorem pf{g:Bst}{k:Str×Str}{c c':Nat}{r r':Rec}(hg:g k=some (c,r)):∀{ks:List (Str×Str)},ks.Nodup->k∈ks->fe (setB g k (c',r')) ks+c=fe g ks+c'
 |[],_,hk=>by cases hk
 |j::ks,nd,hk=>by
  have nd':=List.nodup_cons.mp nd;show((setB g k (c',r') j).map (·.1)).getD 0+fe (setB g k (c',r')) ks+c=((g j).map (·.1)).getD 0+fe g ks+c'
  by_cases q:j=k
  ·subst q;have e:fe (setB g j (c',r')) ks=fe g ks:=lh fun x hx=>dO (fun z=>nd'.1 (z▸hx))
   rw[dB,hg,e];show c'+_+c=c+_+c';omega
  ·have hk':k∈ks:=by
    rcases List.mem_cons.mp hk with z|z
    ·exact absurd z.symm q
    ·exact z
   have:=pf (c':=c') (r':=r') hg nd'.2 hk';rw[dO q];omega
structure cM(π:Nat)(RS:List Rec)(g:Bst):Prop where
 own:∀k c r,g k=some (c,r)->r∈RS/\r.key=k/\∃cc,aH g r.keys=some cc/\cc + π<=c
theorem cM.set{π:Nat}{RS:List Rec}{g:Bst}(h:cM π RS g){r:Rec}(hr:r∈RS){cc:Nat}(hc:aH g r.keys=some cc)(hl:LeB g (setB g r.key (cc + π,r))):cM π RS (setB g r.key (cc + π,r)):=by
 refine⟨fun k c r' e=>?_⟩
 by_cases q:k=r.key
 ·rw[q,dB] at e;injection e with e;injection e with e1 e2;subst e2;obtain⟨c',h1,h2⟩:=iT hl hc;exact⟨hr,q.symm,c',h1,by omega⟩
 ·rw[dO q] at e;obtain⟨a,b,c1,h1,h2⟩:=h.own k c r' e;obtain⟨c',h3,h4⟩:=iT hl h1;exact⟨a,b,c',h3,by omega⟩
def ce(π:Nat)(RS:List Rec)(g:Bst):Prop:=∀r∈RS,∀cc,aH g r.keys=some cc->∃c r',g r.key=some (c,r')/\c<=cc + π
structure gF(π M N:Nat)(RS:List Rec)(ks:List (Str×Str))(g:Bst):Prop where
 nd:ks.Nodup
 len:ks.length<=N
 ok:cM π RS g
 cap:∀k c r,g k=some (c,r)->c<=fA M π ks.length
def phi(π M N:Nat)(ks:List (Str×Str))(g:Bst):Nat:=fe g ks+(N - ks.length)*(fA M π N+1)
section
variable {π M N:Nat}{RS:List Rec}{ks:List (Str×Str)}{g:Bst}{r:Rec}{cc:Nat}{H:Hp}{d:Addr}
theorem gF.new{KS:List (Str×Str)}(I:gF π M N RS ks g)(hN:KS.length=N)(hKS:∀r∈RS,r.key∈KS)(hm:∀k,k∈ks↔∃c r,g k=some (c,r))(hr:r∈RS)(hM:r.keys.length<=M)(hc:aH g r.keys=some cc)(hn:g r.key=none) :
  gF π M N RS (ks++[r.key]) (setB g r.key (cc + π,r))/\phi π M N (ks++[r.key]) (setB g r.key (cc + π,r))<phi π M N ks g/\LeB g (setB g r.key (cc + π,r)):=by
 have hnk:¬r.key∈ks:=fun z=>by
  obtain⟨c,r',e⟩:=(hm _).mp z;rw[hn] at e;cases e
 have nd':(ks++[r.key]).Nodup:=fq I.nd hnk;have hl:LeB g (setB g r.key (cc + π,r)):=fun k c r' e=>⟨c,r',by rw[dO (fun z=>by rw[z,hn] at e;cases e)];exact e,Nat.le_refl _⟩
 have hsub:∀k∈ks++[r.key],k∈KS:=fun k hk=>by
  rcases aak.mp hk with hk|hk
  ·obtain⟨c,r',e⟩:=(hm k).mp hk;obtain⟨a,b,_⟩:=I.ok.own k c r' e;rw[←b];exact hKS r' a
  ·rw[aaj.mp hk];exact hKS r hr
 have hlen:ks.length+1<=N:=by
  have:=Gram.cw nd' hsub;rw[aag,aav] at this;omega
 have hcc:=hG (pd M π ks.length) I.cap hc;have hcc':cc<=M*fA M π ks.length:=Nat.le_trans hcc (Nat.mul_le_mul_right _ hM);have e1:fA M π (ks.length+1)=fA M π ks.length+(M*fA M π ks.length + π):=rfl;have hcap:cc + π<=fA M π (ks.length+1):=by rw[e1];omega
 refine⟨⟨nd',by rw[aag,aav];exact hlen,I.ok.set hr hc hl,fun k c r' e=>?_⟩,?_,hl⟩
 ·rw[aag,aav]
  by_cases q:k=r.key
  ·rw[q,dB] at e;injection e with e;injection e with e _;omega
  ·rw[dO q] at e;exact Nat.le_trans (I.cap k c r' e) (mH M π (Nat.le_succ _))
 ·unfold phi;rw[t8,aag,aav,dB,lh (g:=setB g r.key (cc + π,r)) (g':=g) fun k hk=>dO (fun z=>hnk (z▸hk))];have hb:cc + π<=fA M π N:=Nat.le_trans hcap (mH M π hlen);have e2:N - ks.length=(N - (ks.length+1))+1:=by omega
  rw[e2,Nat.succ_mul];show fe g ks+(cc + π)+_<_;omega
theorem gF.xV{c:Nat}{r0:Rec}(I:gF π M N RS ks g)(hm:∀k,k∈ks↔∃c r,g k=some (c,r))(hr:r∈RS)(hc:aH g r.keys=some cc)(hg:g r.key=some (c,r0))(hlt:cc + π < c) :
  gF π M N RS ks (setB g r.key (cc + π,r))/\phi π M N ks (setB g r.key (cc + π,r))<phi π M N ks g/\LeB g (setB g r.key (cc + π,r)):=by
 have hl:LeB g (setB g r.key (cc + π,r)):=fun k c' r' e=>by
  by_cases q:k=r.key
  ·rw[q,hg] at e;injection e with e;injection e with e _;exact⟨cc + π,r,by rw[q];exact dB _ _ _,by omega⟩
  ·exact⟨c',r',by rw[dO q];exact e,Nat.le_refl _⟩
 refine⟨⟨I.nd,I.len,I.ok.set hr hc hl,fun k c' r' e=>?_⟩,?_,hl⟩
 ·by_cases q:k=r.key
  ·rw[q,dB] at e;injection e with e;injection e with e _;have:=I.cap r.key c r0 hg;omega
  ·rw[dO q] at e;exact I.cap k c' r' e
 ·unfold phi;have:=pf (c':=cc + π) (r':=r) hg I.nd ((hm _).mpr ⟨c,r0,hg⟩);omega
theorem bP.put{kvs:List (List Key×V)}{b t:Addr}{v:V}{k:Str×Str}{c:Nat}(hB:bP H d ks g)(hd:H d=some (.dT kvs))(ht:H t=some (.tup [.int (c:Nat),v]))(hr:RecAt H v r)(ks':List (Str×Str))
  (hks:(g k=none/\ks'=ks++[k])\/(g k≠none/\ks'=ks)):bP (upd H d (.dT (putK kvs (bB k) (.ref t)))) d ks' (setB g k (c,r)):=by
 obtain⟨⟨kvs',h1,h2,h3⟩,h4⟩:=hB;rw[hd] at h1;cases h1;have kp:∀b xs,H b=some (.tup xs)->upd H d (.dT (putK kvs (bB k) (.ref t))) b=some (.tup xs):=fun b xs z=>by
  rw[aj (fun q=>by rw[q,hd] at z;cases z)];exact z
 have kl:∀b xs,H b=some (.lst xs)->upd H d (.dT (putK kvs (bB k) (.ref t))) b=some (.lst xs):=fun b xs z=>by
  rw[aj (fun q=>by rw[q,hd] at z;cases z)];exact z
 have kr:∀{v:V} {r:Rec},RecAt H v r->RecAt (upd H d (.dT (putK kvs (bB k) (.ref t)))) v r:=fun⟨a,b,l,e1,e2,e3,vs,e4,e5⟩=>⟨a,b,l,e1,kp _ _ e2,kp _ _ e3,vs,kl _ _ e4,Paired.bT e5 fun _ _ z=>z.keep kp⟩
 have vk:(bj kvs (bB k)).isSome=(g k).isSome:=by
  have:=h3 k;cases e:g k with
  |none=>rw[e] at this;rw[show bj kvs (bB k)=none from this];rfl
  |some cr=>
   rw[e] at this;obtain⟨a,b,e1,_⟩:=this;rw[e1];rfl
 refine⟨⟨_,aa,?_,fun j=>?_⟩,fun j=>?_⟩
 ·unfold putK;rw[eM,vk];rcases hks with ⟨e,rfl⟩|⟨e,rfl⟩
  ·rw[e,if_neg (by decide),aam,aam,h2];rfl
  ·have:(g k).isSome=true:=by
    cases q:g k with
    |none=>exact absurd q e
    |some _=>rfl
   rw[this,if_pos rfl,List.map_map,←h2];refine List.map_congr_left fun kv _=>?_
   show(if kv.1=bB k then (kv.1,V.ref t) else kv).1=kv.1;split <;> rfl
 ·rw[j3]
  by_cases q:j=k
  ·rw[q,dB,if_pos rfl];exact⟨t,v,rfl,kp _ _ ht,kr hr⟩
  ·rw[dO q,if_neg (fun z=>q (gE z))];have:=h3 j;cases e:g j with
   |none=>rw[e] at this;exact this
   |some cr=>
    rw[e] at this;obtain⟨a,b,e1,e2,e3⟩:=this;exact⟨a,b,e1,kp _ _ e2,kr e3⟩
 ·by_cases q:j=k
  ·rw[q,dB];refine⟨fun _=>⟨_,_,rfl⟩,fun _=>?_⟩;rcases hks with ⟨e,rfl⟩|⟨e,rfl⟩
   ·exact aar _ (aaj.mpr rfl)
   ·refine(h4 k).mpr ?_;cases z:g k with
    |none=>exact absurd z e
    |some cr=>exact⟨cr.1,cr.2,rfl⟩
  ·rw[dO q];rcases hks with ⟨e,rfl⟩|⟨e,rfl⟩
   ·rw[aak,aaj,←h4 j];exact⟨fun z=>z.elim id fun z=>absurd z q,.inl⟩
   ·exact h4 j
end
theorem fX{g:Bst}:∀{l:List Kx} {c:Nat},aH g l=some c->∀p,.inr p∈l->∃c' r',g p=some (c',r')/\c'<=c
 |[],c,_,p,hp=>by cases hp
 |.inl w::r,c,e,p,hp=>by
  have e:(aH g r).map (1 + ·)=some c:=e;cases q:aH g r with
  |none=>rw[q] at e;cases e
  |some x=>
   rw[q] at e;have e:some (1+x)=some c:=e;injection e with e;rcases List.mem_cons.mp hp with z|z
   ·cases z
   ·obtain⟨c',r',h1,h2⟩:=fX q p z;exact⟨c',r',h1,by omega⟩
 |.inr p'::r,c,e,p,hp=>by
  have e:((g p').bind fun cr=>(aH g r).map (cr.1 + ·))=some c:=e;cases qp:g p' with
  |none=>rw[qp] at e;cases e
  |some cr=>
   obtain⟨y,r0⟩:=cr;rw[qp] at e;cases q:aH g r with
   |none=>rw[q] at e;cases e
   |some x=>
    rw[q] at e;have e:some (y+x)=some c:=e;injection e with e;rcases List.mem_cons.mp hp with z|z
    ·cases z
     exact⟨y,r0,qp,by omega⟩
    ·obtain⟨c',r',h1,h2⟩:=fX q p z;exact⟨c',r',h1,by omega⟩
end Nw
namespace Nw
open PySem L2
open SL (ap srt)
abbrev vU:Stmt:=top 29
theorem iU:aJ ["recipes","price","best","grown","recipe","cost"] ["recipes","price"] (aw vU):=⟨rfl,rfl,rfl,by decide +kernel,rfl,by decide +kernel,by decide +kernel⟩
def rM:Sp:=fun vs H Q _=>∃(a:Addr) (π M:Nat) (RS:List Rec) (KS:List (Str×Str)),vs=[.ref a,.int (π:Nat)]/\k9 H a RS/\(∀r∈RS,r.keys.length<=M)/\(∀r∈RS,r.key∈KS)/\KS.length<64/\
 ∀d ks g H',ab H H'->H d=none->bP H' d ks g->ks.Nodup->ks.length<64->cM π RS g->ce π RS g->Q (.ref d) H'
theorem t9{H:Hp}{d:Addr}:bP (upd H d (.dT [])) d [] (fun _=>none):=⟨⟨[],aa,rfl,fun _=>rfl⟩,fun k=>⟨fun h=>(by cases h),fun⟨_,_,h⟩=>(by cases h)⟩⟩
def qq(π:Nat)(g:Bst)(r:Rec):Prop:=∀cc,aH g r.keys=some cc->∃c r',g r.key=some (c,r')/\c<=cc + π
section
variable {P:Program}{w:World}{K:PySem.W.Frag}{mg:Str->Option Value}{base:Heap}
theorem zm{f:Addr}{fd:FuncData}(F:Fun K "cheapest_recipes" "cheapest_recipes" vU f fd)(D1:Def P w K mg base "cost_of_keys" 1 ["keys","best"] rL):be P w K mg base CX0 2 f fd ["recipes","price"] rM:=by
 refine F.ok iU (fun vs H Q E h=>?_) (fun cdv A outer s H vs Q E hr h=>?_)
 ·obtain⟨a,π,M,RS,KS,rfl,_⟩:=h;rfl
 ·obtain⟨a,π,M,RS,KS,rfl,hRS,hM,hKS,hKl,k⟩:=h;have hu:=cI hr;refine⟨_,af (aq (i:=2) iU.nd rfl (Or.inl rfl) j4)
   (af (aq (i:=3) iU.nd rfl (Or.inl rfl) fF)
   (af (dS PassesOwn.never (ba (pv 3))
    (af (aq (i:=3) iU.nd rfl (Or.inl rfl) fF)
    (ag (bb PassesOwn.never rfl (aO (pv 0)) (az (i:=4) iU.nd rfl (Or.inl rfl))
     (af (aq (i:=5) iU.nd rfl (Or.inl rfl) (aB D1 hr (by rfl) (ad (aC aF (pv 4) am (fun _ _=>rfl)) (ad (pv 2) ac))))
     (ag (a7 (PW.pt (nG (aL pY (pv 5) gs (aY _)) (lC (PW.pt (ci (gt (jb hu (aC aF (pv 4) am (fun _ _=>rfl)) (pv 2)))
       (c7 (aL jy (bN eY (pv 5) (pv 1)) (aC aF (cq hu (pv 2) (aC aF (pv 4) am (fun _ _=>rfl)) (fun _ _=>rfl)) am (fun _ _=>rfl)) (aY _))))))))
      (af (fk hu (pv 2) (aC aF (pv 4) am (fun _ _=>rfl)) (aZ (ad (bN eY (pv 5) (pv 1)) (ad (pv 4) ac))) rfl)
      (ag (aq (i:=3) iU.nd rfl (Or.inl rfl) fF)))
      aT)))))))
   (ag (aQ (pv 2))))),?_⟩
  intro d hd;obtain⟨vs,hvs,hp⟩:=id hRS;have hlen:vs.length=RS.length:=Paired.length hp;refine⟨fun m σ H2=>∃ks g gr o1 o2,σ=[some (.ref a),some (.int (π:Nat)),some (.ref d),some (.bl gr),o1,o2]/\ab H H2/\bP H2 d ks g/\gF π M KS.length RS ks g/\(gr=false->ce π RS g)/\m=(if gr=true then 1+phi π M KS.length ks g else 0),
   ⟨_,[],fun _=>none,true,_,_,rfl,ab.upd hd,t9,⟨List.nodup_nil,Nat.zero_le _,⟨fun k c r h=>by cases h⟩,fun k c r h=>by cases h⟩,fun z=>(by cases z),rfl⟩,?_⟩
  rintro m σ H2 ⟨ks,g,gr,o1,o2,rfl,s2,hB,I,clo,rfl⟩;refine⟨_,rfl,_,rfl,?_⟩;cases gr with
  |false=>exact aK ⟨_,rfl,k d ks g H2 s2 hd hB I.nd (Nat.lt_of_le_of_lt I.len hKl) I.ok (clo rfl)⟩
  |true=>
   refine bF ⟨fun σ H3=>∃ks' g' gr o1 o2,σ=[some (.ref a),some (.int (π:Nat)),some (.ref d),some (.bl gr),o1,o2]/\ab H H3/\bP H3 d ks' g'/\gF π M KS.length RS ks' g'/\(gr=false->ce π RS g')/\(gr=true->phi π M KS.length ks' g'<phi π M KS.length ks g),?_,?_⟩
   ·rintro σ' H3 ⟨ks',g',gr,p1,p2,rfl,q1,q2,q3,q4,q5⟩;refine⟨_,?_,ks',g',gr,p1,p2,rfl,q1,q2,q3,q4,rfl⟩;cases gr with
    |false=>simp only[if_true];rw[if_neg (by decide)];omega
    |true=>
     have:=q5 rfl;simp only[if_true];omega
   ·refine⟨_,rfl,a,rfl,⟨_,SqL.of (s2 _ _ hvs)⟩,bc (K:=K) (a:=a) (xs:=vs)
     (fun i σ H3=>∃ks' g' gr o1 o2,σ=[some (.ref a),some (.int (π:Nat)),some (.ref d),some (.bl gr),o1,o2]/\ab H H3/\bP H3 d ks' g'/\gF π M KS.length RS ks' g'/\(gr=false->(g'=g/\ks'=ks)/\∀r∈RS.take i,qq π g r)/\(gr=true->phi π M KS.length ks' g'<phi π M KS.length ks g))
     ⟨ks,g,false,_,_,rfl,s2,hB,I,fun _=>⟨⟨rfl,rfl⟩,fun r hr=>by cases hr⟩,fun z=>(by cases z)⟩ ?_ ?_ ?_⟩
    ·rintro i σ H3 _ ⟨_,_,_,_,_,_,s3,_⟩;exact SqL.of (s3 _ _ hvs)
    ·rintro i x σ H3 hx ⟨ks1,g1,gr1,p1,p2,rfl,s3,hB3,I3,alt,inc⟩;obtain⟨r,hri,hr0⟩:=aW hp i x hx;have hrm:r∈RS:=aah hri;have hr3:RecAt H3 x r:=hr0.mono s3;obtain⟨t,kt,l,rfl,ht,hkt,hkl⟩:=id hr3;have tk:RS.take (i+1)=RS.take i++[r]:=by rw[aap,hri];rfl
     refine⟨_,rfl,t,_,2,_,rfl,rfl,SqT.of ht,ak (j:=2) rfl,_,rfl,l,d,r.keys,ks1,g1,rfl,hkl,hB3,?_⟩;refine⟨_,rfl,rfl,_,rfl,?_⟩;cases hc:aH g1 r.keys with
     |none=>
      refine aK (aK ⟨ks1,g1,gr1,_,_,rfl,s3,hB3,I3,fun z=>?_,inc⟩);refine⟨(alt z).1,fun r' hr'=>?_⟩;rw[tk] at hr';rcases aak.mp hr' with hr'|hr'
      ·exact(alt z).2 r' hr'
      ·rw[aaj.mp hr'];intro cc e;rw[←(alt z).1.1,hc] at e;cases e
     |some cc=>
      refine bF ?_;have put:∀(ks':List (Str×Str)),((g1 r.key=none/\ks'=ks1++[r.key])\/(g1 r.key≠none/\ks'=ks1))->gF π M KS.length RS ks' (setB g1 r.key (cc + π,r))/\phi π M KS.length ks' (setB g1 r.key (cc + π,r))<phi π M KS.length ks1 g1/\LeB g1 (setB g1 r.key (cc + π,r))->
        ∀t',H3 t'=none->∃kvs,H3 d=some (.dT kvs)/\kvs.length<sizeLine/\∃ks' g' gr o1 o2,[some (V.ref a),some (.int (π:Nat)),some (.ref d),some (.bl true),some (.ref t),some (.int (cc:Nat))]=[some (.ref a),some (.int (π:Nat)),some (.ref d),some (.bl gr),o1,o2]/\
         ab H (upd (upd H3 t' (.tup [.int ((cc:Int)+(π:Int)),.ref t])) d (.dT (putK kvs (bB r.key) (.ref t'))))/\bP (upd (upd H3 t' (.tup [.int ((cc:Int)+(π:Int)),.ref t])) d (.dT (putK kvs (bB r.key) (.ref t')))) d ks' g'/\gF π M KS.length RS ks' g'/\
         (gr=false->(g'=g/\ks'=ks)/\∀r∈RS.take (i+1),qq π g r)/\(gr=true->phi π M KS.length ks' g'<phi π M KS.length ks g):=by
       intro ks' hks ⟨hI',hphi,_⟩ t' ht';obtain⟨⟨kvs,hkv,hkk,_⟩,_⟩:=id hB3;have s4:=ab.upd (o:=HO.tup [.int ((cc:Int)+(π:Int)),.ref t]) ht';have hB4:=hB3.mono s4;have hlk:kvs.length=ks1.length:=by
        have:=congrArg List.length hkk;rw[aaa,aaa] at this;exact this
       refine⟨kvs,hkv,by rw[hlk];have:=I3.len;exact aD (by omega),ks',_,true,_,_,rfl,(s3.trans s4).bK hd,bP.put (b:=kt) (k:=r.key) (c:=cc + π) hB4 (s4 _ _ hkv) (by rw[aa];push_cast;rfl) (hr3.mono s4) ks' hks,hI',fun z=>(by cases z),fun _=>?_⟩;cases gr1 with
       |true=>exact Nat.lt_trans hphi (inc rfl)
       |false=>
        obtain⟨e1,e2⟩:=(alt rfl).1;rw[←e1,←e2];exact hphi
      refine⟨_,rfl,t,_,0,_,rfl,rfl,SqT.of ht,ak (j:=0) rfl,_,rfl,?_⟩;rcases hB3.get hkt with ⟨c0,r0,tt,v,hg,hdg,htt,_⟩|⟨hg,hdg⟩
      ·refine⟨d,_,rfl,hdg,_,rfl,aK ?_⟩;refine⟨_,rfl,_,rfl,_,_,rfl,rfl,_,rfl,_,rfl,t,_,0,_,rfl,rfl,SqT.of ht,ak (j:=0) rfl,d,_,rfl,hdg,tt,_,0,_,rfl,rfl,SqT.of htt,ak (j:=0) rfl,_,_,rfl,rfl,_,rfl,?_⟩
       by_cases hlt:cc + π < c0
       ·have hd':decide (((cc:Int)+(π:Int))<(c0:Int))=true:=aan (by omega);refine(show if decide (((cc:Int)+(π:Int))<(c0:Int))=true then _ else _ from ?_);rw[hd'];refine bF ⟨_,rfl,_,rfl,_,_,rfl,rfl,_,rfl,(show 2<=sizeLine by decide),fun t' ht'=>?_⟩;have s4:=ab.upd (o:=HO.tup [.int ((cc:Int)+(π:Int)),.ref t]) ht';obtain⟨kvs,hkv,hkl',rest⟩:=put ks1 (.inr ⟨by rw[hg];exact fun z=>(by cases z),rfl⟩) (I3.xV hB3.mem hrm hc hg hlt) t' ht';exact⟨_,rfl,_,rfl,t,_,0,_,rfl,rfl,SqT.of (s4 _ _ ht),ak (j:=0) rfl,d,_,rfl,e7.t (k:=bB r.key) (s4 _ _ hkv) (s4 _ _ hkt) hkl',rest⟩
       ·have hd':decide (((cc:Int)+(π:Int))<(c0:Int))=false:=aai (by omega);refine(show if decide (((cc:Int)+(π:Int))<(c0:Int))=true then _ else _ from ?_);rw[hd'];refine aK ⟨ks1,g1,gr1,_,_,rfl,s3,hB3,I3,fun z=>?_,inc⟩;refine⟨(alt z).1,fun r' hr'=>?_⟩;rw[tk] at hr';rcases aak.mp hr' with hr'|hr'
        ·exact(alt z).2 r' hr'
        ·rw[aaj.mp hr'];intro cc' e;rw[←(alt z).1.1,hc] at e;injection e with e;exact⟨c0,r0,by rw[←(alt z).1.1];exact hg,by omega⟩
      ·refine⟨d,_,rfl,hdg,_,rfl,bF (bF ?_)⟩;refine⟨_,rfl,_,rfl,_,_,rfl,rfl,_,rfl,(show 2<=sizeLine by decide),fun t' ht'=>?_⟩;have s4:=ab.upd (o:=HO.tup [.int ((cc:Int)+(π:Int)),.ref t]) ht';obtain⟨kvs,hkv,hkl',rest⟩:=put (ks1++[r.key]) (.inl ⟨hg,rfl⟩) (I3.new rfl hKS hB3.mem hrm (hM r hrm) hc hg) t' ht';exact⟨_,rfl,_,rfl,t,_,0,_,rfl,rfl,SqT.of (s4 _ _ ht),ak (j:=0) rfl,d,_,rfl,e7.t (k:=bB r.key) (s4 _ _ hkv) (s4 _ _ hkt) hkl',rest⟩
    ·rintro σ H3 ⟨ks1,g1,gr1,p1,p2,rfl,s3,hB3,I3,alt,inc⟩;refine⟨ks1,g1,gr1,_,_,rfl,s3,hB3,I3,fun z=>?_,inc⟩;rw[hlen,aas] at alt;rw[(alt z).1.1];exact fun r hr=>(alt z).2 r hr
end
end Nw
namespace Nw
open PySem L2
inductive Tr where
 |w(s:Str)
 |n(s:Str)(i:Nat)(ps:List Tr)
mutual
def Tr.words:Tr->List Str
 |.w s=>[s]
 |.n _ _ ps=>Tr.aR ps
def Tr.aR:List Tr->List Str
 |[]=>[]
 |t::r=>Tr.words t++Tr.aR r
end
mutual
def Tr.sz:Tr->Nat
 |.w _=>1
 |.n _ _ ps=>1+Tr.szL ps
def Tr.szL:List Tr->Nat
 |[]=>0
 |t::r=>Tr.sz t+Tr.szL r
end
mutual
def Tr.d:Tr->D
 |.w s=>.str s
 |.n s i ps=>.tup [.str s,.int (i:Nat),.lst (Tr.dL ps)]
def Tr.dL:List Tr->List D
 |[]=>[]
 |t::r=>Tr.d t::Tr.dL r
end
mutual
def Tr.ok(R:List Row):Tr->Str->Prop
 |.w x,s=>x=s/\¬s∈R.map (·.1)
 |.n x i ps,s=>x=s/\∃r,R[i]? =some (s,r)/\Tr.okL R ps r
def Tr.okL(R:List Row):List Tr->List Str->Prop
 |[],r=>r=[]
 |t::ps,r=>∃s r',r=s::r'/\Tr.ok R t s/\Tr.okL R ps r'
end
theorem Tr.eB:∀a b,Tr.aR (a++b)=Tr.aR a++Tr.aR b
 |[],b=>by simp[Tr.aR]
 |t::r,b=>by
  show t.words++Tr.aR (r++b)=(t.words++Tr.aR r)++Tr.aR b;rw[Tr.eB r b,List.append_assoc]
theorem Tr.fB:∀a b,Tr.szL (a++b)=Tr.szL a+Tr.szL b
 |[],b=>by simp[Tr.szL]
 |t::r,b=>by
  show t.sz+Tr.szL (r++b)=(t.sz+Tr.szL r)+Tr.szL b;rw[Tr.fB r b,Nat.add_assoc]
theorem Tr.jq:∀ps,Tr.dL ps=ps.map Tr.d
 |[]=>by simp[Tr.dL]
 |t::r=>by
  show t.d::Tr.dL r=t.d::r.map Tr.d;rw[Tr.jq r]
theorem Tr.ij(t:Tr):1<=t.sz:=by cases t <;> simp[Tr.sz] <;> omega
mutual
theorem Tr.ph:∀t:Tr,t.words.length<=t.sz
 |.w s=>by simp[Tr.words,Tr.sz]
 |.n s i ps=>by
  have:=Tr.mI ps;show(Tr.aR ps).length<=1+Tr.szL ps;omega
theorem Tr.mI:∀ps:List Tr,(Tr.aR ps).length<=Tr.szL ps
 |[]=>by simp[Tr.aR,Tr.szL]
 |t::r=>by
  have h1:=Tr.ph t;have h2:=Tr.mI r;show(t.words++Tr.aR r).length<=t.sz+Tr.szL r;rw[aag];omega
end
theorem Tr.iw:∀ps:List Tr,ps.length<=Tr.szL ps
 |[]=>Nat.le_refl _
 |t::r=>by
  have h1:=Tr.ij t;have h2:=Tr.iw r;show r.length+1<=t.sz+Tr.szL r;omega
theorem Tr.l5{t:Tr}:∀{ps:List Tr} {j:Nat},ps[j]? =some t->t.sz<=Tr.szL ps
 |[],j,h=>by cases h
 |u::r,0,h=>by
  have h:some u=some t:=h;injection h with h;subst h;exact Nat.le_add_right _ _
 |u::r,j+1,h=>by
  have:=Tr.l5 (ps:=r) (j:=j) (by simpa using h);show t.sz<=u.sz+Tr.szL r;omega
theorem Tr.qr{R:List Row}:∀{ps:List Tr} {r:List Str},Tr.okL R ps r->ps.length=r.length
 |[],r,h=>by
  have h:r=[]:=h;rw[h];rfl
 |t::ps,r,h=>by
  obtain⟨s,r',rfl,_,h⟩:∃s r',r=s::r'/\Tr.ok R t s/\Tr.okL R ps r':=h;rw[aau,aau,Tr.qr h]
theorem Tr.l6{R:List Row}{t:Tr}:∀{ps:List Tr} {r:List Str} {j:Nat},Tr.okL R ps r->ps[j]? =some t->∃s,r[j]? =some s/\Tr.ok R t s
 |[],r,j,_,h=>by cases h
 |u::ps,r,0,h,e=>by
  obtain⟨s,r',rfl,h1,_⟩:∃s r',r=s::r'/\Tr.ok R u s/\Tr.okL R ps r':=h;have e:some u=some t:=e;injection e with e;subst e;exact⟨s,rfl,h1⟩
 |u::ps,r,j+1,h,e=>by
  obtain⟨s,r',rfl,_,h2⟩:∃s r',r=s::r'/\Tr.ok R u s/\Tr.okL R ps r':=h;exact Tr.l6 (j:=j) h2 (by simpa using e)
theorem Tr.uc{R:List Row}:∀{ps:List Tr} {r:List Str},ps.length=r.length->(∀(j:Nat) (t:Tr) (s:Str),ps[j]? =some t->r[j]? =some s->Tr.ok R t s)->Tr.okL R ps r
 |[],r,e,_=>by
  show r=[];exact List.length_eq_zero_iff.mp e.symm
 |t::ps,[],e,_=>by cases e
 |t::ps,s::r,e,h=>⟨s,r,rfl,h 0 t s rfl rfl,Tr.uc (by simpa using e) fun j t' s' e1 e2=>h (j+1) t' s' (by simpa using e1) (by simpa using e2)⟩
inductive cY(g:Bst):Kx->Tr->Prop
 |w (s:Str):cY g (.inl s) (.w s)
 |n {k:Str×Str} {c:Nat} {r:Rec} {ps:List Tr}:g k=some (c,r)->r.keys.length=ps.length->(∀(i:Nat) (kx:Kx) (t:Tr),r.keys[i]? =some kx->ps[i]? =some t->cY g kx t)->cY g (.inr k) (.n k.2 r.num ps)
def bp(g:Bst)(ks:List Kx)(ps:List Tr):Prop:=ks.length=ps.length/\∀(i:Nat) (kx:Kx) (t:Tr),ks[i]? =some kx->ps[i]? =some t->cY g kx t
theorem bp.tail{g:Bst}{k:Kx}{ks:List Kx}{t:Tr}{ps:List Tr}(h:bp g (k::ks) (t::ps)):cY g k t/\bp g ks ps:=
 ⟨h.2 0 k t rfl rfl,by simpa using h.1,fun i kx u e1 e2=>h.2 (i+1) kx u (by simpa using e1) (by simpa using e2)⟩
theorem bp.split{g:Bst}:∀{a b:List Kx} {ps:List Tr},bp g (a++b) ps->∃p1 p2,ps=p1++p2/\bp g a p1/\bp g b p2
 |[],b,ps,h=>⟨[],ps,rfl,⟨rfl,fun i kx t e=>by cases e⟩,h⟩
 |k::a,b,[],h=>by
  have:=h.1;simp at this
 |k::a,b,t::ps,h=>by
  obtain⟨h1,h2⟩:=bp.tail (k:=k) (ks:=a++b) h;obtain⟨p1,p2,rfl,h3,h4⟩:=bp.split h2;refine⟨t::p1,p2,rfl,⟨by rw[aau,aau,h3.1],fun i kx u e1 e2=>?_⟩,h4⟩;cases i with
  |zero=>cases e1;cases e2;exact h1
  |succ i=>exact h3.2 i kx u (by simpa using e1) (by simpa using e2)
theorem bp.cons{g:Bst}{k:Kx}{b:List Kx}{ps:List Tr}(h:bp g (k::b) ps):∃t p2,ps=t::p2/\cY g k t/\bp g b p2:=by
 cases ps with
 |nil=>have:=h.1;simp at this
 |cons t p2=>exact⟨t,p2,rfl,h.tail⟩
theorem bp.snoc{g:Bst}{ks:List Kx}{ps:List Tr}{k:Kx}{t:Tr}(h:bp g ks ps)(hk:cY g k t):bp g (ks++[k]) (ps++[t]):=by
 refine⟨by rw[aag,aag,h.1];rfl,fun m y u e1 e2=>?_⟩;rcases Nat.lt_trichotomy m ks.length with q|q|q
 ·rw[List.getElem?_append_left q] at e1;rw[List.getElem?_append_left (by rw[←h.1];exact q)] at e2;exact h.2 m y u e1 e2
 ·subst q;rw[List.getElem?_append_right (Nat.le_refl _),Nat.sub_self] at e1;rw[h.1,List.getElem?_append_right (Nat.le_refl _),Nat.sub_self] at e2;cases e1;cases e2
  exact hk
 ·rw[List.getElem?_eq_none (by rw[aag,aav];omega)] at e1;cases e1
theorem bp.cost{g:Bst}:∀{ks:List Kx} {ps:List Tr} {cc:Nat},bp g ks ps->(∀(i:Nat) (k:Str×Str) (t:Tr) (c:Nat) (r:Rec),ks[i]? =some (.inr k)->ps[i]? =some t->g k=some (c,r)->t.sz<=c)->aH g ks=some cc->Tr.szL ps<=cc
 |[],ps,cc,h,_,_=>by
  have:ps=[]:=List.length_eq_zero_iff.mp h.1.symm;subst this;exact Nat.zero_le _
 |.inl s::ks,ps,cc,h,hh,e=>by
  obtain⟨t,p2,rfl,h1,h2⟩:=h.cons;cases h1
  have e:(aH g ks).map (1 + ·)=some cc:=e;cases q:aH g ks with
  |none=>rw[q] at e;cases e
  |some x=>
   rw[q] at e;have e:some (1+x)=some cc:=e;injection e with e;have:=bp.cost h2 (fun i k t c r e1 e2=>hh (i+1) k t c r (by simpa using e1) (by simpa using e2)) q;show Tr.sz (.w s)+Tr.szL p2<=cc;have:Tr.sz (.w s)=1:=by simp[Tr.sz]
   omega
 |.inr k::ks,ps,cc,h,hh,e=>by
  obtain⟨t,p2,rfl,h1,h2⟩:=h.cons;have e:((g k).bind fun cr=>(aH g ks).map (cr.1 + ·))=some cc:=e;cases qp:g k with
  |none=>rw[qp] at e;cases e
  |some cr=>
   obtain⟨y,r⟩:=cr;rw[qp] at e;cases q:aH g ks with
   |none=>rw[q] at e;cases e
   |some x=>
    rw[q] at e;have e:some (y+x)=some cc:=e;injection e with e;have h3:=bp.cost h2 (fun i k t c r e1 e2=>hh (i+1) k t c r (by simpa using e1) (by simpa using e2)) q;have h4:=hh 0 k t y r rfl rfl qp;show t.sz+Tr.szL p2<=cc;omega
theorem cY.cost{RS:List Rec}{g:Bst}(ok:cM 1 RS g){kx:Kx}{t:Tr}(h:cY g kx t):∀k c r,kx=.inr k->g k=some (c,r)->t.sz<=c:=by
 induction h with
 |w s=>intro k c r e;cases e
 |@n k c r ps hg hl hp ih=>
  intro k' c' r' e hg';cases e
  rw[hg] at hg';cases hg'
  obtain⟨_,_,cc,h1,h2⟩:=ok.own k c r hg;have:=bp.cost ⟨hl,hp⟩ (fun i k t c r e1 e2 e3=>ih i _ t e1 e2 k c r rfl e3) h1;show 1+Tr.szL ps<=c;omega
section
open L2
theorem Rep.keep{H H':Hp}(e:∀b xs,H b=some (.tup xs)->H' b=some (.tup xs))(e':∀b xs,H b=some (.lst xs)->H' b=some (.lst xs)){v:V}{d:D}(h:Rep H v d):Rep H' v d:=by
 induction h with
 |str s=>exact .str s
 |int i=>exact .int i
 |tup h1 h2 _ ih=>exact .tup (e _ _ h1) h2 ih
 |lst h1 h2 _ ih=>exact .lst (e' _ _ h1) h2 ih
def eP(H:Hp)(ws:List V)(ps:List Tr):Prop:=ws.length=ps.length/\∀(m:Nat) (x:V) (t:Tr),ws[m]? =some x->ps[m]? =some t->Rep H x t.d
theorem eP.nil{H:Hp}:eP H [] []:=⟨rfl,fun m x t e=>by cases e⟩
theorem eP.mono{H H':Hp}(s:ab H H'){ws:List V}{ps:List Tr}(h:eP H ws ps):eP H' ws ps:=⟨h.1,fun m x t e1 e2=>(h.2 m x t e1 e2).mono s⟩
theorem eP.snoc{H:Hp}{ws:List V}{ps:List Tr}{x:V}{t:Tr}(h:eP H ws ps)(hx:Rep H x t.d):eP H (ws++[x]) (ps++[t]):=by
 refine⟨by rw[aag,aag,h.1];rfl,fun m y u e1 e2=>?_⟩;rcases Nat.lt_trichotomy m ws.length with q|q|q
 ·rw[List.getElem?_append_left q] at e1;rw[List.getElem?_append_left (by rw[←h.1];exact q)] at e2;exact h.2 m y u e1 e2
 ·subst q;rw[List.getElem?_append_right (Nat.le_refl _),Nat.sub_self] at e1;rw[h.1,List.getElem?_append_right (Nat.le_refl _),Nat.sub_self] at e2;cases e1;cases e2
  exact hx
 ·rw[List.getElem?_eq_none (by rw[aag,aav];omega)] at e1;cases e1
theorem vV{H:Hp}{a l:Addr}{s:Str}{i:Nat}{ws:List V}{ps:List Tr}(h1:H a=some (.tup [.str s,.int (i:Nat),.ref l]))(h2:H l=some (.lst ws))(h3:eP H ws ps):Rep H (.ref a) (Tr.n s i ps).d:=by
 refine .tup h1 rfl fun m x d e1 e2=>?_
 rcases m with _|_|_|m
 ·cases e1;cases e2;exact .str _
 ·cases e1;cases e2;exact .int _
 ·cases e1;cases e2
  refine .lst h2 (by rw[Tr.jq,aaa];exact h3.1) fun m x d e1 e2=>?_
  rw[Tr.jq,aax] at e2;cases q:ps[m]? with
  |none=>rw[q] at e2;cases e2
  |some t=>
   rw[q] at e2;cases e2;exact h3.2 m x t e1 q
 ·cases e1
theorem iz{H:Hp}{v:V}{s:Str}{i:Nat}{ps:List Tr}(h:Rep H v (Tr.n s i ps).d):∃a l ws,v=.ref a/\H a=some (.tup [.str s,.int (i:Nat),.ref l])/\H l=some (.lst ws)/\eP H ws ps:=by
 generalize hd:(Tr.n s i ps).d=d at h;have hd:D.tup [.str s,.int (i:Nat),.lst (Tr.dL ps)]=d:=hd;cases h with
 |str _=>cases hd
 |int _=>cases hd
 |lst _ _ _=>cases hd
 |@tup a xs ds h1 h2 h3=>
  injection hd with hd;subst hd
  match xs,h2 with
  |[x0,x1,x2],_=>
   have q0:=h3 0 x0 _ rfl rfl;have q1:=h3 1 x1 _ rfl rfl;have q2:=h3 2 x2 _ rfl rfl;cases q0
   cases q1
   cases q2 with
   |@lst l ws _ e1 e2 e3=>
    refine⟨a,l,ws,rfl,h1,e1,by rw[e2,Tr.jq,aaa],fun m x t f1 f2=>e3 m x t.d f1 ?_⟩;rw[Tr.jq,aax,f2];rfl
theorem z7{H:Hp}{v:V}{s:Str}(h:Rep H v (Tr.w s).d):v=.str s:=by
 have h:Rep H v (.str s):=h;cases h;rfl
end
end Nw
namespace Nw
open PySem L2
open SL (ap srt)
theorem _root_.L2.cP.same{T:Addr}{H H':Hp}(s:cP T H H'):ab (Nw.hide T H) H':=fun b o e=>by
 by_cases q:b=T
 ·unfold Nw.hide at e;rw[if_pos q] at e;cases e
 ·rw[hide_ne q] at e;exact s b o q e
theorem _root_.L2.ab.z8{T:Addr}{H H':Hp}(s:ab H H'):cP T H H':=fun b o _ e=>s b o e
theorem c9{H:Hp}{T:Addr}{ps:Array Value}(h:H T=some (.tbl ps)){b:Addr}{o:HO}(e:H b=some o)(ho:∀qs,o≠.tbl qs):hide T H b=some o:=by
 rw[hide_ne (fun z=>by rw[z,h] at e;exact ho ps (Option.some.inj e).symm)];exact e
theorem dg.gU{H:Hp}{T:Addr}{ps:Array Value}(h:H T=some (.tbl ps)){v:V}:∀{k:Kx},dg H v k->dg (hide T H) v k
 |.inl _,z=>z
 |.inr _,⟨t,a,b⟩=>⟨t,a,c9 h b fun _ q=>by cases q⟩
theorem aS.gU{H:Hp}{T:Addr}{ps:Array Value}(h:H T=some (.tbl ps)){a:Addr}{ks:List Kx}(z:aS H a ks):aS (Nw.hide T H) a ks:=by
 obtain⟨vs,h1,h2⟩:=z;exact⟨vs,c9 h h1 (fun _ q=>by cases q),Paired.bT h2 fun _ _ y=>y.gU h⟩
theorem RecAt.gU{H:Hp}{T:Addr}{ps:Array Value}(h:H T=some (.tbl ps)){v:V}{r:Rec}(z:RecAt H v r):RecAt (Nw.hide T H) v r:=by
 obtain⟨t,kt,l,h1,h2,h3,h4⟩:=z;exact⟨t,kt,l,h1,c9 h h2 (fun _ q=>by cases q),c9 h h3 (fun _ q=>by cases q),h4.gU h⟩
theorem bP.gU{H:Hp}{T:Addr}{ps:Array Value}(h:H T=some (.tbl ps)){d:Addr}{ks:List (Str×Str)}{g:Bst}(z:bP H d ks g):bP (Nw.hide T H) d ks g:=by
 obtain⟨⟨kvs,h1,h2,h3⟩,h4⟩:=z;refine⟨⟨kvs,c9 h h1 fun _ q=>(by cases q),h2,fun k=>?_⟩,h4⟩;have:=h3 k;cases e:g k with
 |none=>rw[e] at this;exact this
 |some cr=>
  rw[e] at this;obtain⟨t,v,a,b,c⟩:=this;exact⟨t,v,a,c9 h b fun _ q=>(by cases q),c.gU h⟩
theorem bP.onT{H H':Hp}{T:Addr}{pos:Pos}{q:Str}(h:cB T pos q H)(s:cP T H H'){d:Addr}{ks:List (Str×Str)}{g:Bst}(z:bP H d ks g):bP H' d ks g:=by
 obtain⟨ps,h1,_⟩:=h;exact(z.gU h1).mono s.same
theorem pi{H H':Hp}{T:Addr}{pos:Pos}{q:Str}(h:cB T pos q H)(s:cP T H H'){a:Addr}{R:List Row}(z:bt H a R):bt H' a R:=by
 obtain⟨ps,h1,_⟩:=h;obtain⟨vs,e1,e2⟩:=z;refine⟨vs,s.same _ _ (c9 h1 e1 fun _ q=>by cases q),Paired.bT e2 fun _ _ y=>?_⟩;obtain⟨t,b,y1,y2,y3⟩:=y;exact⟨t,b,y1,s.same _ _ (c9 h1 y2 fun _ q=>by cases q),s.same _ _ (c9 h1 y3 fun _ q=>by cases q)⟩
section
variable {P:Program}{w:World}{K:PySem.W.Frag}{mg:Str->Option Value}{base:Heap}
theorem _root_.L2.Fun.okC{x qual:Str}{st:Stmt}{f c0:Addr}{fd:FuncData}{N ps:List Str}{k:Nat}{sp:Sp}(F:Fun K x qual st f fd)(hc:fd.code=.ref c0)(S:aJ N ps (aw st))(len:∀vs H Q E,sp vs H Q E->vs.length=ps.length)
  (hbody:∀(A:Around) (outer:List Env) (s:Shared) (H:Hp) (vs:List V) (Q:VK) (E:XK),bC k (A.deeper (PyProof.Rows.envOfC qual (aw st) s.heap.objs.size f (.ref c0)))->sp vs H Q E->
   ∃t,PSs (iG CX0 P w K mg base N qual (aw st) f (.ref c0) A outer s H E).nox (eT st) t/\t {nx:=fun _ H'=>Q .non H',rt:=Q} (start N vs) H):be P w K mg base CX0 (k+1) f fd ps sp:=by
 obtain⟨oc,od,kV,doc,pm,an,cdv,ct,osl,rfl,lk,hcd⟩:=F.ex;have hc:cdv=.ref c0:=hc;subst hc;refine wP lk hcd S len fun A outer s H vs Q E hr hsp=>?_
 obtain⟨t,h,q⟩:=hbody A outer s H vs Q E hr hsp;exact⟨t,h.nox,q⟩
end
abbrev sTm:Stmt:=top 31
theorem rN:aJ ["best","trees","key","recipe"] ["best"] (aw sTm):=⟨rfl,rfl,rfl,by decide +kernel,rfl,by decide +kernel,by decide +kernel⟩
abbrev iV:Pos:=⟨152,32,152,58⟩
abbrev tmQ:Str:=("trees_made":Str)++Str.ofString ".<locals>."++"<lambda>"
def z9:Scope:={kind:=ScopeKind.function,names:=[("made",NameKind.local),("best",NameKind.free)],isGenerator:=false,isCoroutine:=false}
def Aa:List Key->Str×Str
 |[.inr a,.inr b]=>(a,b)
 |_=>("","")
def rO(g:Bst)(l:List Key):Int:=match g (Aa l) with
 |some (c,_)=>(c:Int)
 |none=>0
def qt(H:Hp)(g:Bst)(kvs:List (List Key×V))(k:Str×Str):Prop:=∃v u,bj kvs (bB k)=some v/\cY g (.inr k) u/\Rep H v u.d
def vW(TP:Addr):Sp:=fun vs H Q _=>∃(d:Addr) (ks:List (Str×Str)) (g:Bst) (RS:List Rec),vs=[.ref d]/\bP H d ks g/\ks.Nodup/\ks.length<64/\(∀k c r,g k=some (c,r)->r.keys.length<=900)/\cM 1 RS g/\cB TP iV tmQ H/\
 ∀t H' kvs,cP TP H H'->cB TP iV tmQ H'->H' t=some (.dT kvs)->(kvs.map (·.1)).Perm (ks.map bB)->(∀k∈ks,qt H' g kvs k)->Q (.ref t) H'
theorem ud{kvs:List (List Key×V)}{k:List Key}{v:V}(h:¬k∈kvs.map (·.1)):putK kvs k v=kvs++[(k,v)]:=by
 unfold putK;rw[if_neg];intro z;obtain⟨kv,h1,h2⟩:=List.any_eq_true.mp z;exact h (aao.mpr ⟨kv,h1,of_decide_eq_true h2⟩)
theorem pj{g:Bst}{k:Str×Str}{c:Nat}{r:Rec}(h:g k=some (c,r)):rO g (bB k)=(c:Int):=by
 show(match g k with | some (c,_)=>(c:Int) | none=>0)=_;rw[h]
theorem vX{zs:List (List Key×Addr)}{cost:List Key->Int}(h:zs.Pairwise fun a b=>cost a.1<=cost b.1){i:Nat}{z z':List Key×Addr}(hz:zs[i]? =some z)(hm:z'∈zs)(hlt:cost z'.1<cost z.1):z'∈zs.take i:=by
 obtain⟨m,hz'⟩:=List.mem_iff_getElem?.mp hm;rcases Nat.lt_trichotomy m i with q|q|q
 ·refine List.mem_iff_getElem?.mpr ⟨m,?_⟩;rw[List.getElem?_take_of_lt q];exact hz'
 ·subst q;rw[hz] at hz';cases hz';exact absurd hlt (Int.lt_irrefl _)
 ·obtain⟨hi,ei⟩:=aab.mp hz;obtain⟨hm',em⟩:=aab.mp hz';have:=List.pairwise_iff_getElem.mp h i m hi hm' q;rw[ei,em] at this;omega
section
variable {P:Program}{w:World}{K:PySem.W.Frag}{mg:Str->Option Value}{base:Heap}
theorem Ab{f0 c0 TP:Addr}{fd:FuncData}(F:Fun K "trees_made" "trees_made" sTm f0 fd)(hcode:fd.code=.ref c0)(C:PySem.W.CodeHd base c0 TP)(hbm:Bm mg base)(T:Txt mg):be P w K mg base CX0 2 f0 fd ["best"] (vW TP):=by
 refine F.okC hcode rN (fun vs H Q E h=>?_) (fun A outer s H vs Q E hr h=>?_)
 ·obtain⟨d,ks,g,RS,rfl,_⟩:=h;rfl
 ·obtain⟨d,ks,g,RS,rfl,hB,hnd,h64,hkl,hok,hT,k⟩:=h;have hu:=cI hr;have lu:∀f c' s₃ H₃,(k7 (iG CX0 P w K mg base ["best","trees","key","recipe"] "trees_made" (aw sTm) f0 (Value.ref c0) A outer s H E).nox tmQ z9 [("best",s.heap.objs.size+1)] "made" "best" f c' (iG CX0 P w K mg base ["best","trees","key","recipe"] "trees_made" (aw sTm) f0 (Value.ref c0) A outer s H E).nox.A.in1.in1 s₃ H₃).A.units+1<cLine:=fun f c' s₃ H₃=>by
   have:=hr.un;show(A.deeper (PyProof.Rows.envOfC "trees_made" (aw sTm) s.heap.objs.size f0 (.ref c0))).units+1+1+3+1<cLine;omega
  refine⟨_,af (aq (i:=1) rN.nd rfl (Or.inr rfl) j4)
   (af (bb PassesOwn.never rfl (aO (rD (x:="made") (y:="best") (i:=0) rfl hr rfl C hbm ⟨rfl,by decide,rfl,rfl,rfl,rfl,rfl,rfl,rfl,rfl,fun _ _ _ _ _ _=>rfl⟩ (by rfl) T.srt (ad (pv 0) ac)
     (fun f c' s₃ H₃=>aC (r:=j1 K) aF (cq (lu f c' s₃ H₃) (pv 1) (pv 0) (fun _ _=>rfl)) am (fun _ _=>rfl))))
    (az (i:=2) rN.nd rfl (Or.inl rfl))
    (af (aq (i:=3) rN.nd rfl (Or.inl rfl) (aC aF (cq hu (pv 0) (pv 2) (fun _ _=>rfl)) am (fun _ _=>rfl)))
    (ag (fk hu (pv 1) (pv 2) (aZ (ad (aC aF (pv 2) am (fun _ _=>rfl)) (ad (aC aF (pv 3) am (fun _ _=>rfl)) (ad
     (dj (bq.one (N:=["inner","trees"]) (sel:=[none,some 1]) "trees" (by rfl) (by rfl) (by rfl) (by decide) (by decide) (by rfl) (by rfl) ⟨_,rfl,rfl⟩ (by rfl) (qo rfl rfl)) rfl (aO (aC aF (pv 3) am (fun _ _=>rfl)))
      (fun s₃ H₃ fp=>az (i:=0) (show(["inner","trees"]:List Str).Nodup by decide) rfl (Or.inl rfl)) (fun s₃ H₃ fp=>di)
      (fun s₃ H₃ fp=>xU (X:=cD _ _ _ _ _ _ _) hu (pv 1) (pv 0) (pv 0) ⟨rfl,rfl,rfl,rfl⟩)) ac)))) rfl))))
   (ag (aQ (pv 1)))),?_⟩
  intro tr htr;have s1:=ab.upd (o:=HO.dT []) htr;obtain⟨ps,hps,_⟩:=id hT;have nTr:tr≠TP:=fun z=>by rw[z,hps] at htr;cases htr
  obtain⟨⟨kvs,hkv,hkk,_⟩,hmem⟩:=id hB;have hlk:kvs.length=ks.length:=by
   have:=congrArg List.length hkk;rw[aaa,aaa] at this;exact this
  have isK:∀l,l∈kvs.map (·.1)->∃k∈ks,bB k=l:=fun l hl=>by
   rw[hkk] at hl;exact aao.mp hl
  refine⟨_,rfl,d,kvs,.ref d,rO g,rfl,s1 _ _ hkv,by omega,hT.mono s1,rfl,fun H2 sT T2=>⟨fun kv hkv' a ha=>?_,fun l zs hl1 hl2 hpm hpw hat=>?_⟩⟩
  ·have hB2:=(hB.mono s1).onT (hT.mono s1) sT;obtain⟨k',hk',ek⟩:=isK kv.1 (aao.mpr ⟨kv,hkv',rfl⟩);rw[←ek] at ha ⊢;have ha:H2 a=some (.tup [.str k'.1,.str k'.2]):=ha;rcases hB2.get ha with ⟨c,r,t,v,hg,hdg,htt,_⟩|⟨hg,_⟩
   ·refine⟨_,rfl,_,rfl,d,_,rfl,hdg,t,_,0,_,rfl,rfl,SqT.of htt,ak (j:=0) rfl,?_,rfl⟩;have:rO g (bB k')=(c:Int):=by
     show(match g k' with | some (c,_)=>(c:Int) | none=>0)=_;rw[hg]
    rw[this]
   ·obtain⟨c,r,e⟩:=(hmem k').mp hk';rw[hg] at e;cases e
  ·generalize hH3:upd H2 l (.lst (zs.map fun z=>V.ref z.2))=H3;have s23:ab H2 H3:=by rw[←hH3];exact ab.upd hl2
   have tr2:H2 tr=some (.dT []):=sT _ _ nTr aa;have tr3:H3 tr=some (.dT []):=s23 _ _ tr2;have nl:l≠tr:=fun z=>by rw[z,tr2] at hl2;cases hl2
   have hl3:H3 l=some (.lst (zs.map fun z=>V.ref z.2)):=by rw[←hH3];exact aa
   have sX:∀{H4:Hp},cP tr H3 H4->ab (hide TP H) H4:=fun{H4} s4 b o e=>by
    by_cases q:b=TP
    ·unfold hide at e;rw[if_pos q] at e;cases e
    ·rw[hide_ne q] at e;exact s4 b o (fun z=>by rw[z,htr] at e;cases e) (s23 _ _ (sT b o q (s1 _ _ e)))
   have hBX:=hB.gU hps;have zsnd:(zs.map (·.1)).Nodup:=by
    refine hpm.nodup_iff.mpr ?_;rw[hkk];exact List.Pairwise.map _ (fun a b h e=>h (gE e)) hnd
   refine⟨l,rfl,⟨_,SqL.of hl3⟩,bc (K:=K) (a:=l) (xs:=zs.map fun z=>V.ref z.2)
    (fun i σ H4=>∃kt o1 o2,σ=[some (.ref d),some (.ref tr),o1,o2]/\cP tr H3 H4/\H4 tr=some (.dT kt)/\kt.map (·.1)=(zs.take i).map (·.1)/\∀k,bB k∈(zs.take i).map (·.1)->qt H4 g kt k)
    ⟨[],_,_,rfl,cP.refl,tr3,rfl,fun k hk=>by cases hk⟩ ?_ ?_ ?_⟩
   ·rintro i σ H4 _ ⟨_,_,_,_,s4,_⟩;exact SqL.of (s4 _ _ nl hl3)
   ·rintro i x σ H4 hx ⟨kt,o1,o2,rfl,s4,htr4,hkl4,hall⟩;rw[aax] at hx;cases hz:zs[i]? with
    |none=>rw[hz] at hx;cases hx
    |some z=>
     rw[hz] at hx;have hx:some (V.ref z.2)=some x:=hx;injection hx with hx;subst hx;have hzm:z∈zs:=aah hz;have hil:i<zs.length:=(aab.mp hz).1;have hzl:zs.length<64:=by
      have:=hpm.length_eq;rw[aaa,aaa] at this;omega
     obtain⟨k',hk',ek⟩:=isK z.1 (hpm.mem_iff.mp (aao.mpr ⟨z,hzm,rfl⟩));have hz2:H2 z.2=some (.tup (z.1.map kV)):=hat z hzm;have hz4:H4 z.2=some (.tup ((bB k').map kV)):=by
      rw[ek];exact s4 _ _ (fun q=>by rw[q,tr2] at hz2;cases hz2) (s23 _ _ hz2)
     have hB4:=hBX.mono (sX s4);have nz:¬z.1∈(zs.take i).map (·.1):=fun hm=>by
      have e2:zs.map (·.1)=(zs.take i).map (·.1)++(zs.drop i).map (·.1):=by rw[←aam,List.take_append_drop]
      rw[e2] at zsnd;refine(List.nodup_append.mp zsnd).2.2 _ hm _ ?_ rfl;have hd:zs.drop i=z::zs.drop (i+1):=by
       rw[←List.getElem_cons_drop hil,(aab.mp hz).2]
      rw[hd];exact aac ..
     rcases hB4.get (k:=k') hz4 with ⟨c,r,tt,v,hg,hdg,htt,hrec⟩|⟨hg,_⟩
     ·obtain⟨t,kr,lk,rfl,ht,hkr,us,hus,hup⟩:=hrec;have hul:us.length<=900:=by rw[Paired.length hup];exact hkl k' c r hg
      obtain⟨_,_,cc,hcc,hle⟩:=hok.own k' c r hg;have hklen:kt.length<=i:=by
       have:=congrArg List.length hkl4;rw[aaa,aaa,aal] at this;omega
      refine⟨_,rfl,_,rfl,d,_,rfl,hdg,tt,_,1,_,rfl,rfl,SqT.of htt,ak (j:=1) rfl,?_⟩;refine⟨_,rfl,z.2,_,1,_,rfl,rfl,SqT.of (xs:=[.str k'.1,.str k'.2]) hz4,ak (j:=1) rfl,_,rfl,t,_,1,_,rfl,rfl,SqT.of ht,ak (j:=1) rfl,_,rfl,t,_,2,_,rfl,rfl,SqT.of ht,ak (j:=2) rfl,lk,rfl,⟨_,SqL.of hus⟩,fun D hD=>
       cO (K:=K) (xs:=us) (fun j τ H5=>(∃o,τ=[o,some (.ref tr)])/\∃ws ps,H5=upd H4 D (.lst ws)/\ws.length=j/\eP H4 ws ps/\bp g (r.keys.take j) ps) ⟨⟨_,rfl⟩,[],[],rfl,rfl,.nil,rfl,fun _ _ _ e=>(by cases e)⟩ ?_ ?_ ?_⟩
      ·rintro j τ H5 ⟨_,ws,ps,rfl,_⟩;exact SqL.of (ab.upd hD _ _ hus)
      ·rintro j x τ H5 hx ⟨⟨o,rfl⟩,ws,ps,rfl,hw,hRL,hIT⟩;have s5:=ab.upd (o:=HO.lst ws) hD;have htr5:=s5 _ _ htr4;have hj:j<us.length:=(aab.mp hx).1;obtain⟨kx,hkj,hkx⟩:=aW hup j x hx;have fin:∀(v:V) (u:Tr),Rep H4 v u.d->cY g kx u->∃ys,upd H4 D (.lst ws) D=some (.lst ys)/\ys.length<sizeLine/\(∃o,[some x,some (V.ref tr)]=[o,some (.ref tr)])/\∃ws' ps',upd (upd H4 D (.lst ws)) D (.lst (ys++[v]))=upd H4 D (.lst ws')/\ws'.length=j+1/\eP H4 ws' ps'/\bp g (r.keys.take (j+1)) ps':=fun v u hv hu=>
        ⟨ws,aa,aD (by omega),⟨_,rfl⟩,ws++[v],ps++[u],cZ,by rw[aag,aav,hw],hRL.snoc hv,by rw[aap,hkj];exact hIT.snoc hu⟩
       cases kx with
       |inl wd=>
        have hkx:x=.str wd:=hkx;subst hkx;exact⟨_,rfl,tr,rfl,.inr ⟨_,.inl htr5⟩,_,rfl,_,rfl,.inr ⟨_,_,.inl htr5,rfl,fin _ (.w wd) (.str _) (.w _)⟩⟩
       |inr p=>
        obtain⟨b,rfl,hb⟩:=hkx;obtain⟨c2,r2,hg2,hc2⟩:=fX hcc p (aah hkj);obtain⟨z',hz',ez'⟩:=aao.mp (hpm.mem_iff.mpr (by rw[hkk];exact aao.mpr ⟨p,(hmem p).mpr ⟨c2,r2,hg2⟩,rfl⟩):bB p∈zs.map (·.1));have hah:=vX hpw hz hz' (by rw[ez',←ek,pj hg2,pj hg];omega);obtain⟨v2,u2,hv2,hu2,hr2⟩:=hall p (aao.mpr ⟨z',hah,ez'⟩);exact⟨_,rfl,tr,rfl,.inr ⟨_,.inl htr5⟩,_,rfl,_,rfl,.inl ⟨some v2,by rw[←hv2];exact bR.t (k:=bB p) htr5 (s5 _ _ hb),fin _ u2 hr2 hu2⟩⟩
      ·rintro τ H5 ⟨_,ws,ps,rfl,hwl,hRL,hIT⟩;have hlk':us.length=r.keys.length:=Paired.length hup;rw[hlk',aas] at hIT;have s5:=ab.upd (o:=HO.lst ws) hD;refine⟨(show 3<=sizeLine by decide),fun t' ht'=>?_⟩;have hD5:upd H4 D (.lst ws) D=some (.lst ws):=aa;generalize hH6:upd (upd H4 D (.lst ws)) t' _=H6;have s56:ab (upd H4 D (.lst ws)) H6:=by rw[←hH6];exact ab.upd ht'
       have s46:ab H4 H6:=s5.trans s56;have ht6:H6 t'=some (.tup [.str k'.2,.int (r.num:Nat),.ref D]):=by rw[←hH6];exact aa
       have hnode:Rep H6 (.ref t') (Tr.n k'.2 r.num ps).d:=vV ht6 (s56 _ _ hD5) (hRL.mono s46);have hisT:cY g (.inr k') (.n k'.2 r.num ps):=.n hg hIT.1 hIT.2;have htr6:=s46 _ _ htr4;have kp:∀b xs,H6 b=some (.tup xs)->upd H6 tr (.dT (putK kt (bB k') (.ref t'))) b=some (.tup xs):=fun b xs e=>by
        rw[aj (fun q=>by rw[q,htr6] at e;cases e)];exact e
       have kl:∀b xs,H6 b=some (.lst xs)->upd H6 tr (.dT (putK kt (bB k') (.ref t'))) b=some (.lst xs):=fun b xs e=>by
        rw[aj (fun q=>by rw[q,htr6] at e;cases e)];exact e
       have et:(zs.take (i+1)).map (·.1)=(zs.take i).map (·.1)++[bB k']:=by rw[aap,hz,aam,ek];rfl
       refine⟨_,rfl,_,rfl,tr,_,rfl,e7.t (k:=bB k') htr6 (s46 _ _ hz4) (aD (by omega)),putK kt (bB k') (.ref t'),_,_,rfl,fun b o n e=>?_,aa,?_,fun kq hkq=>?_⟩
       ·rw[aj n];exact s46 _ _ (s4 b o n e)
       ·rw[ud (by rw[hkl4,ek];exact nz),aam,hkl4,et];rfl
       ·by_cases q:kq=k'
        ·subst q;exact⟨_,_,by rw[j3,if_pos rfl],hisT,hnode.keep kp kl⟩
        ·rw[et] at hkq;rcases aak.mp hkq with hkq|hkq
         ·obtain⟨v2,u2,hv2,hu2,hr2⟩:=hall kq hkq;exact⟨v2,u2,by rw[j3,if_neg fun e=>q (gE e)];exact hv2,hu2,(hr2.mono s46).keep kp kl⟩
         ·exact absurd (gE (aaj.mp hkq)) q
     ·obtain⟨c,r,e⟩:=(hmem k').mp hk';rw[hg] at e;cases e
   ·rintro σ H4 ⟨kt,o1,o2,rfl,s4,htr4,hkl4,hall⟩;rw[aaa,aas] at hall hkl4;refine⟨_,rfl,k tr H4 kt (fun b o n e=>sX s4 b o (by rw[hide_ne n];exact e)) ?_ htr4 (by rw[hkl4,←hkk];exact hpm) fun k' hk'=>?_⟩
    ·obtain⟨qs,g1,g2,g3⟩:=T2;have q4:∀b o,H2 b=some o->b≠tr->H4 b=some o:=fun b o e n=>s4 b o n (s23 _ _ e)
     refine⟨qs,q4 _ _ g1 (Ne.symm nTr),g2,?_⟩;rcases g3 with g3|⟨c,g3,g4⟩
     ·exact .inl g3
     ·exact .inr ⟨c,g3,q4 _ _ g4 fun z=>by rw[z,tr2] at g4;cases g4⟩
    ·exact hall k' (hpm.mem_iff.mpr (by rw[hkk];exact aao.mpr ⟨k',hk',rfl⟩))
end
end Nw
namespace Nw
open PySem L2
open SL (ap srt)
def Kn(g:Bst)(k:Str×Str):Prop:=∃c r,g k=some (c,r)
def KnK(g:Bst):Kx->Prop
 |.inl _=>True
 |.inr p=>Kn g p
theorem iW{g:Bst}:∀{l:List Kx},(∀k∈l,KnK g k)->∃c,aH g l=some c
 |[],_=>⟨0,rfl⟩
 |.inl w::r,h=>by
  obtain⟨c,e⟩:=iW (l:=r) fun k hk=>h k (aad _ hk)
  exact⟨1+c,by show(aH g r).map (1 + ·)=_;rw[e];rfl⟩
 |.inr p::r,h=>by
  obtain⟨c,e⟩:=iW (l:=r) fun k hk=>h k (aad _ hk)
  obtain⟨c',r',e'⟩:Kn g p:=h _ (aac ..);exact⟨c'+c,by show((g p).bind fun cr=>(aH g r).map (cr.1 + ·))=_;rw[e',e];rfl⟩
theorem da{π:Nat}{RS:List Rec}{g:Bst}(h:ce π RS g){r:Rec}(hr:r∈RS)(hk:∀k∈r.keys,KnK g k):Kn g r.key:=by
 obtain⟨cc,e⟩:=iW hk;obtain⟨c,r',e',_⟩:=h r hr cc e;exact⟨c,r',e'⟩
def bL(R:List Row)(j:Nat):Row:=R.getD j ("",[])
def dZ(z:Str)(R:List Row)(m:Nat):List Rec:=(List.range m).flatMap fun j=>cz z (ao R) j (bL R j)
def bJ(z:Str)(R:List Row)(i:Nat)(p:Row):List Rec:=dY z (ao R) i p++dZ z R R.length
theorem mW(z:Str)(R:List Row)(m:Nat):dZ z R (m+1)=dZ z R m++cz z (ao R) m (bL R m):=by
 unfold dZ;rw[List.range_succ,List.flatMap_append];simp
theorem fD{z:Str}{R:List Row}{i:Nat}{p q:Row}(h:q∈R):∃j,∀x∈cz z (ao R) j q,x∈bJ z R i p:=by
 obtain⟨j,hj⟩:=List.mem_iff_getElem?.mp h;refine⟨j,fun x hx=>aar _ (List.mem_flatMap.mpr ⟨j,List.mem_range.mpr (aab.mp hj).1,?_⟩)⟩;have:bL R j=q:=by unfold bL;rw[aat,hj];rfl
 rw[this];exact hx
theorem qu{es:List Str}:∀{r:List Str} {s:Str},s∈Gram.lead es r->∃j,r[j]? =some s/\∀x∈r.take j,x∈es
 |[],s,h=>by cases h
 |x::r,s,h=>by
  unfold Gram.lead at h;rcases List.mem_cons.mp h with e|h
  ·exact⟨0,by rw[e];rfl,fun y hy=>by cases hy⟩
  ·split at h
   ·rename_i hx;obtain⟨j,h1,h2⟩:=qu h;refine⟨j+1,h1,fun y hy=>?_⟩;rw[List.take_succ_cons] at hy;rcases List.mem_cons.mp hy with e|hy
    ·rw[e];exact hx
    ·exact h2 y hy
   ·cases h
theorem mJ{z:Str}{ss:List Str}{n:Nat}{p:Row}{ks:List Kx}(h:ks∈cC z ss p.2):⟨("begin",p.1),n,ks⟩∈cz z ss n p:=by
 unfold cz;exact List.mem_append_left _ (aad _ (aad _ (aao.mpr ⟨ks,h,rfl⟩)))
theorem jr{z:Str}{ss:List Str}{n j:Nat}{p:Row}{x:Rec}(hj:j<p.2.length)(h:x∈bw z ss n p j):x∈cz z ss n p:=by
 unfold cz;exact aar _ (List.mem_flatMap.mpr ⟨j,List.mem_range.mpr hj,h⟩)
section
variable {z:Str}{R:List Row}{i:Nat}{p:Row}{g:Bst}{es:List Str}
theorem vY(hC:ce 1 (bJ z R i p) g){x:Str}(h:Gram.Made R (lQ R) x):Kn g ("whole",x):=by
 induction h with
 |@mk l r hm _ ih=>
  obtain⟨j,hj⟩:=fD (z:=z) (i:=i) (p:=p) hm;refine da (r:=⟨("whole",l),j,aI (ao R) r⟩) hC (hj _ (aac ..)) fun k hk=>?_
  obtain⟨s,hs,rfl⟩:=aao.mp hk
  by_cases q:s∈ao R
  ·rw[if_pos q];exact ih s hs fun w=>w.2 (aU.mp q)
  ·rw[if_neg q];exact True.intro
theorem li(hC:ce 1 (bJ z R i p) g)(G:Good R)(r:List Str):∀k∈aI (ao R) r,KnK g k:=fun k hk=>by
 obtain⟨s,hs,rfl⟩:=aao.mp hk
 by_cases q:s∈ao R
 ·rw[if_pos q];exact vY hC (G.made s (aU.mp q))
 ·rw[if_neg q];exact True.intro
theorem vZ(hC:ce 1 (bJ z R i p) g){x:Str}(h:Gram.Made R (fun _=>False) x):Kn g ("empty",x):=by
 induction h with
 |@mk l r hm _ ih=>
  obtain⟨j,hj⟩:=fD (z:=z) (i:=i) (p:=p) hm;refine da (r:=⟨("empty",l),j,aX r⟩) hC (hj _ (aad _ (aac ..))) fun k hk=>?_
  obtain⟨s,hs,rfl⟩:=aao.mp hk;exact ih s hs id
theorem rP(hC:ce 1 (bJ z R i p) g)(hes:∀y,y∈es↔Gram.Made R (fun _=>False) y){r:List Str}(h:∀s∈r,s∈es):∀k∈aX r,KnK g k:=fun k hk=>by
 obtain⟨s,hs,rfl⟩:=aao.mp hk;exact vZ hC ((hes s).mp (h s hs))
theorem nq(hC:ce 1 (bJ z R i p) g)(G:Good R)(hes:∀y,y∈es↔Gram.Made R (fun _=>False) y){r:List Str}{s:Str}(h:s∈Gram.lead es r)(hs:s=z\/Kn g ("begin",s)):∃ks∈cC z (ao R) r,∀k∈ks,KnK g k:=by
 obtain⟨j,h1,h2⟩:=qu h;refine⟨cL z (ao R) r j,aao.mpr ⟨j,List.mem_range.mpr (aab.mp h1).1,rfl⟩,fun k hk=>?_⟩;have e:r.getD j ""=s:=by rw[aat,h1];rfl
 unfold cL at hk;rw[e] at hk;rcases aak.mp hk with hk|hk
 ·exact rP hC hes h2 k hk
 ·rcases List.mem_cons.mp hk with hk|hk
  ·by_cases q:s=z
   ·rw[if_pos q] at hk;rw[hk];exact True.intro
   ·rw[if_neg q] at hk;rw[hk];exact hs.resolve_left q
  ·exact li hC G _ k hk
theorem v4(hC:ce 1 (bJ z R i p) g)(G:Good R)(hes:∀y,y∈es↔Gram.Made R (fun _=>False) y):∀{x w:Str},Gram.Beg R es x w->w=z->Kn g ("begin",x):=by
 intro x w h
 induction h with
 |@word l w r hm hl hn=>
  intro e;obtain⟨ks,h1,h2⟩:=nq hC G hes hl (.inl e);obtain⟨j,hj⟩:=fD (z:=z) (i:=i) (p:=p) hm;exact da (r:=⟨("begin",l),j,ks⟩) hC (hj _ (mJ (p:=(l,r)) h1)) h2
 |@sort l b w r hm hl hn _ ih=>
  intro e;obtain⟨ks,h1,h2⟩:=nq hC G hes hl (.inr (ih e));obtain⟨j,hj⟩:=fD (z:=z) (i:=i) (p:=p) hm;exact da (r:=⟨("begin",l),j,ks⟩) hC (hj _ (mJ (p:=(l,r)) h1)) h2
theorem wU(hC:ce 1 (bJ z R i p) g)(G:Good R)(hes:∀y,y∈es↔Gram.Made R (fun _=>False) y){r:List Str}(h:Wd R es r z):∃ks∈cC z (ao R) r,∀k∈ks,KnK g k:=by
 obtain⟨s,h1,⟨_,es',hes',hb⟩|⟨_,e⟩⟩:=h
 ·exact nq hC G hes h1 (.inr (v4 hC G hes' hb rfl))
 ·exact nq hC G hes h1 (.inl e.symm)
theorem wV(hC:ce 1 (bJ z R i p) g)(G:Good R){a x:Str}(h:Gram.Reach (rl R) a x):Kn g ("hold",x)->Kn g ("hold",a):=by
 induction h with
 |refl=>exact id
 |@step b c _ hc ih=>
  intro hk;refine ih ?_;unfold rl at hc;obtain⟨⟨l,r⟩,hm,hc2⟩:=List.mem_flatMap.mp hc;split at hc2
  ·rename_i e;have e:l=b:=e;subst e;obtain⟨hcr,_⟩:=List.mem_filter.mp hc2;obtain⟨j,hj⟩:=List.mem_iff_getElem?.mp hcr;obtain⟨n,hn⟩:=fD (z:=z) (i:=i) (p:=p) hm;have eg:r.getD j ""=c:=by rw[aat,hj];rfl
   refine da (r:=⟨("hold",l),n,aI (ao R) (r.take j)++.inr ("hold",c)::aI (ao R) (r.drop (j+1))⟩) hC (hn _ (jr (j:=j) (aab.mp hj).1 ?_)) fun k hk'=>?_
   ·show _∈bw z (ao R) n (l,r) j;unfold bw;show _∈(⟨("hold",l),n,aI (ao R) (r.take j)++.inr ("hold",r.getD j "")::aI (ao R) (r.drop (j+1))⟩::_:List Rec);rw[eg];exact aac ..
   ·rcases aak.mp hk' with q|q
    ·exact li hC G _ k q
    ·rcases List.mem_cons.mp q with q|q
     ·rw[q];exact hk
     ·exact li hC G _ k q
  ·cases hc2
theorem xW(hC:ce 1 (bJ z R i p) g)(G:Good R)(hes:∀y,y∈es↔Gram.Made R (fun _=>False) y)(hne:∀p∈R,¬("":Str)∈p.2):∀{x w:Str},Beh R es x w->w=z->Kn g ("last",x)->Kn g (if z="" then "last" else "hold",bW R):=by
 intro x w h
 induction h with
 |fin=>
  intro e hk;rw[if_pos e.symm];exact hk
 |@word l x w rest ho hx hw=>
  intro e hk;subst e;obtain⟨r',hm',hs'⟩:=ho.row;have nz:¬w="":=fun q=>by
   obtain⟨p',hp',hz'⟩:=hw.sign hm' hs';exact hne p' hp' (q▸hz')
  rw[if_neg nz];obtain⟨r,j,hm,hj,rfl⟩:=ho;obtain⟨ks,h1,h2⟩:=wU hC G hes hw;obtain⟨n,hn⟩:=fD (z:=w) (i:=i) (p:=p) hm;have eg:r.getD j ""=x:=by rw[aat,hj];rfl
  refine wV hC G (G.reach l (aao.mpr ⟨_,hm,rfl⟩)) (da (r:=⟨("hold",l),n,aI (ao R) (r.take j)++.inr ("last",x)::ks⟩) hC (hn _ (jr (j:=j) (aab.mp hj).1 ?_)) fun k hk'=>?_)
  ·unfold bw;refine aad _ (aad _ (aao.mpr ⟨ks,h1,?_⟩));show(⟨("hold",l),n,aI (ao R) (r.take j)++.inr ("last",r.getD j "")::ks⟩:Rec)=_;rw[eg]
  ·rcases aak.mp hk' with q|q
   ·exact li hC G _ k q
   ·rcases List.mem_cons.mp q with q|q
    ·rw[q];exact hk
    ·exact h2 k q
 |@up l x w rest ho hx he _ ih=>
  intro e hk;subst e;obtain⟨r,j,hm,hj,rfl⟩:=ho;obtain⟨n,hn⟩:=fD (z:=w) (i:=i) (p:=p) hm;have eg:r.getD j ""=x:=by rw[aat,hj];rfl
  refine ih rfl (da (r:=⟨("last",l),n,aI (ao R) (r.take j)++.inr ("last",x)::aX (r.drop (j+1))⟩) hC (hn _ (jr (j:=j) (aab.mp hj).1 ?_)) fun k hk'=>?_)
  ·unfold bw;refine aad _ (List.mem_cons.mpr (.inl ?_));show(⟨("last",l),n,aI (ao R) (r.take j)++.inr ("last",x)::aX (r.drop (j+1))⟩:Rec)=⟨("last",l),n,aI (ao R) (r.take j)++.inr ("last",r.getD j "")::aX (r.drop (j+1))⟩;rw[eg]
  ·rcases aak.mp hk' with q|q
   ·exact li hC G _ k q
   ·rcases List.mem_cons.mp q with q|q
    ·rw[q];exact hk
    ·exact rP hC hes he k q
def Use(R:List Row)(p:Row)(z:Str):Prop:=∃es,(∀y,y∈es↔Gram.Made R (fun _=>False) y)/\(Wd R es p.2 z\/((∀s∈p.2,s∈es)/\Beh R es p.1 z))
theorem xX(hes:∀y,y∈es↔Gram.Made R (fun _=>False) y):Use R p z↔Wd R es p.2 z\/((∀s∈p.2,s∈es)/\Beh R es p.1 z):=by
 constructor
 ·rintro⟨es',h',h|⟨h1,h2⟩⟩
  ·exact .inl (h.congr fun y=>(h' y).trans (hes y).symm)
  ·exact .inr ⟨fun s hs=>(hes s).mpr ((h' s).mp (h1 s hs)),mE (fun y=>(h' y).trans (hes y).symm) h2⟩
 ·exact fun h=>⟨es,hes,h⟩
theorem zn(hC:ce 1 (bJ z R i p) g)(G:Good R)(hp:p∈R)(hne:∀p∈R,¬("":Str)∈p.2)(h:Use R p z):Kn g (if z="" then "last" else "hold",bW R):=by
 obtain⟨es,hes,hw|⟨he,hb⟩⟩:=h
 ·have nz:¬z="":=fun q=>by
   obtain⟨p',hp',hz'⟩:=hw.sign (l:=p.1) (r:=p.2) hp fun _ h=>h
   exact hne p' hp' (q▸hz')
  rw[if_neg nz];obtain⟨ks,h1,h2⟩:=wU hC G hes hw;refine wV hC G (G.reach p.1 (aao.mpr ⟨_,hp,rfl⟩)) (da (r:=⟨("hold",p.1),i,ks⟩) hC (List.mem_append_left _ ?_) h2);exact aad _ (aao.mpr ⟨ks,h1,rfl⟩)
 ·refine xW hC G hes hne hb rfl (da (r:=⟨("last",p.1),i,aX p.2⟩) hC (List.mem_append_left _ (aac ..)) (rP hC hes he))
end
end Nw
namespace Nw
open PySem L2
def sgn:Kx->Str
 |.inl s=>s
 |.inr k=>k.2
theorem eW(ss r:List Str):(aI ss r).map sgn=r:=by
 unfold aI;rw[List.map_map]
 conv=>rhs;rw[←List.map_id r]
 refine List.map_congr_left fun s _=>?_
 show sgn (if s∈ss then .inr ("whole",s) else .inl s)=s;split <;> rfl
theorem gW(r:List Str):(aX r).map sgn=r:=by
 unfold aX;rw[List.map_map]
 conv=>rhs;rw[←List.map_id r]
 exact List.map_congr_left fun s _=>rfl
theorem iA{r:List Str}{j:Nat}(h:j<r.length):r.take j++r.getD j "" :: r.drop (j+1)=r:=by
 rw[aat,aae h];show r.take j++r[j]::r.drop (j+1)=r;rw[List.getElem_cons_drop,List.take_append_drop]
theorem kj{z:Str}{ss r:List Str}{j:Nat}(h:j<r.length):(cL z ss r j).map sgn=r:=by
 unfold cL;rw[aam,aaw,gW,eW];have:sgn (if r.getD j ""=z then .inl z else .inr ("begin",r.getD j ""))=r.getD j "":=by
  split
  ·rename_i e;exact e.symm
  ·rfl
 rw[this];exact iA h
theorem iX{z:Str}{ss r:List Str}{ks:List Kx}(h:ks∈cC z ss r):∃j,j<r.length/\ks=cL z ss r j:=by
 obtain⟨j,hj,rfl⟩:=aao.mp h;exact⟨j,List.mem_range.mp hj,rfl⟩
def Plain(P:Str->Prop)(ks:List Kx):Prop:=∀s,.inl s∈ks->P s
theorem Plain.app{P:Str->Prop}{a b:List Kx}(h:Plain P a)(h':Plain P b):Plain P (a++b):=fun s hs=>(aak.mp hs).elim (h s) (h' s)
theorem Plain.cons{P:Str->Prop}{k:Kx}{b:List Kx}(h:∀s,k=.inl s->P s)(h':Plain P b):Plain P (k::b):=fun s hs=>(List.mem_cons.mp hs).elim (fun e=>h s e.symm) (h' s)
theorem dP(ss r:List Str):Plain (fun s=>¬s∈ss) (aI ss r):=fun s hs=>by
 obtain⟨x,_,e⟩:=aao.mp hs;split at e
 ·cases e
 ·rename_i h;injection e with e;rw[←e];exact h
theorem fL(P:Str->Prop)(r:List Str):Plain P (aX r):=fun s hs=>by
 obtain⟨x,_,e⟩:=aao.mp hs;cases e
theorem iY{z:Str}{ss r:List Str}{j:Nat}(hz:¬z∈ss):Plain (fun s=>¬s∈ss) (cL z ss r j):=by
 refine(fL _ _).app (.cons (fun s e=>?_) (dP _ _));split at e
 ·injection e with e;rw[←e];exact hz
 ·cases e
structure wW(R:List Row)(r:Rec):Prop where
 row:R[r.num]? =some (r.key.2,r.keys.map sgn)
 pl:Plain (fun s=>¬s∈ao R) r.keys
section
variable {z:Str}{R:List Row}{i:Nat}{p:Row}
theorem km{n j:Nat}{q:Row}(hz:¬z∈ao R)(hn:R[n]? =some q)(hj:j<q.2.length){r:Rec}(h:r∈bw z (ao R) n q j):wW R r:=by
 unfold bw at h;have hd:=iA hj;have hh:∀k:Str,∀s,(.inr (k,q.2.getD j ""):Kx)=.inl s->¬s∈ao R:=fun k s e=>by cases e
 rcases List.mem_cons.mp h with rfl|h
 ·refine⟨?_,(dP _ _).app (.cons (hh _) (dP _ _))⟩;show R[n]? =some (q.1,(aI _ _++_::aI _ _).map sgn);rw[aam,aaw,eW,eW];show R[n]? =some (q.1,q.2.take j++q.2.getD j "" :: q.2.drop (j+1));rw[hd];exact hn
 ·rcases List.mem_cons.mp h with rfl|h
  ·refine⟨?_,(dP _ _).app (.cons (hh _) (fL _ _))⟩;show R[n]? =some (q.1,(aI _ _++_::aX _).map sgn);rw[aam,aaw,eW,gW];show R[n]? =some (q.1,q.2.take j++q.2.getD j "" :: q.2.drop (j+1));rw[hd];exact hn
  ·obtain⟨ks,hk,rfl⟩:=aao.mp h;obtain⟨m,hm,rfl⟩:=iX hk;refine⟨?_,(dP _ _).app (.cons (hh _) (iY hz))⟩;show R[n]? =some (q.1,(aI _ _++_::cL _ _ _ _).map sgn);rw[aam,aaw,eW,kj hm];show R[n]? =some (q.1,q.2.take j++q.2.getD j "" :: q.2.drop (j+1));rw[hd];exact hn
inductive Kind(z:Str)(R:List Row)(i:Nat)(p:Row):Rec->Prop
 |partL:Kind z R i p ⟨("last",p.1),i,aX p.2⟩
 |partH {j:Nat}:j<p.2.length->Kind z R i p ⟨("hold",p.1),i,cL z (ao R) p.2 j⟩
 |whole {n:Nat} {q:Row}:R[n]? =some q->Kind z R i p ⟨("whole",q.1),n,aI (ao R) q.2⟩
 |empty {n:Nat} {q:Row}:R[n]? =some q->Kind z R i p ⟨("empty",q.1),n,aX q.2⟩
 |begin_ {n j:Nat} {q:Row}:R[n]? =some q->j<q.2.length->Kind z R i p ⟨("begin",q.1),n,cL z (ao R) q.2 j⟩
 |hh {n j:Nat} {q:Row}:R[n]? =some q->j<q.2.length->Kind z R i p ⟨("hold",q.1),n,aI (ao R) (q.2.take j)++.inr ("hold",q.2.getD j "")::aI (ao R) (q.2.drop (j+1))⟩
 |ll {n j:Nat} {q:Row}:R[n]? =some q->j<q.2.length->Kind z R i p ⟨("last",q.1),n,aI (ao R) (q.2.take j)++.inr ("last",q.2.getD j "")::aX (q.2.drop (j+1))⟩
 |hl {n j m:Nat} {q:Row}:R[n]? =some q->j<q.2.length->m<(q.2.drop (j+1)).length->Kind z R i p ⟨("hold",q.1),n,aI (ao R) (q.2.take j)++.inr ("last",q.2.getD j "")::cL z (ao R) (q.2.drop (j+1)) m⟩
theorem c6{r:Rec}(h:r∈bJ z R i p):Kind z R i p r:=by
 rcases aak.mp h with h|h
 ·unfold dY at h;rcases List.mem_cons.mp h with rfl|h
  ·exact .partL
  ·obtain⟨ks,hk,rfl⟩:=aao.mp h;obtain⟨j,hj,rfl⟩:=iX hk;exact .partH hj
 ·obtain⟨n,hn,h⟩:=List.mem_flatMap.mp h;have hn:=List.mem_range.mp hn;have hq:R[n]? =some (bL R n):=by
   unfold bL;rw[aat,aae hn];rfl
  unfold cz at h;rcases aak.mp h with h|h
  ·rcases List.mem_cons.mp h with rfl|h
   ·exact .whole hq
   ·rcases List.mem_cons.mp h with rfl|h
    ·exact .empty hq
    ·obtain⟨ks,hk,rfl⟩:=aao.mp h;obtain⟨j,hj,rfl⟩:=iX hk;exact .begin_ hq hj
  ·obtain⟨j,hj,h⟩:=List.mem_flatMap.mp h;have hj:=List.mem_range.mp hj;unfold bw at h;rcases List.mem_cons.mp h with rfl|h
   ·exact .hh hq hj
   ·rcases List.mem_cons.mp h with rfl|h
    ·exact .ll hq hj
    ·obtain⟨ks,hk,rfl⟩:=aao.mp h;obtain⟨m,hm,rfl⟩:=iX hk;exact .hl hq hj hm
theorem Kind.wX(hz:¬z∈ao R)(hp:R[i]? =some p){r:Rec}(h:Kind z R i p r):wW R r:=by
 have e1:∀{n:Nat} {q:Row} {l:List Str},R[n]? =some q->l=q.2->R[n]? =some (q.1,l):=fun h e=>by rw[e];exact h
 cases h with
 |partL=>exact⟨e1 hp (gW _),fL _ _⟩
 |partH hj=>exact⟨e1 hp (kj hj),iY hz⟩
 |whole hn=>exact⟨e1 hn (eW _ _),dP _ _⟩
 |empty hn=>exact⟨e1 hn (gW _),fL _ _⟩
 |begin_ hn hj=>exact⟨e1 hn (kj hj),iY hz⟩
 |hh hn hj=>exact km hz hn hj (aac ..)
 |ll hn hj=>exact km hz hn hj (aad _ (aac ..))
 |hl hn hj hm=>exact km hz hn hj (aad _ (aad _ (aao.mpr ⟨_,aao.mpr ⟨_,List.mem_range.mpr hm,rfl⟩,rfl⟩)))
variable {g:Bst}
theorem cY.ok(hz:¬z∈ao R)(hp:R[i]? =some p)(ok:cM 1 (bJ z R i p) g){kx:Kx}{t:Tr}(h:cY g kx t):(∀s,kx=.inl s->¬s∈ao R)->t.ok R (sgn kx):=by
 induction h with
 |w s=>exact fun h=>⟨rfl,fun z=>h s rfl (aU.mpr z)⟩
 |@n k c r ps hg hl hps ih=>
  intro _;obtain⟨h1,h2,_⟩:=ok.own k c r hg;have h3:=(c6 h1).wX hz hp;refine⟨rfl,r.keys.map sgn,by rw[h3.row,h2];rfl,Tr.uc (by rw[aaa];exact hl.symm) fun j t s e1 e2=>?_⟩;rw[aax] at e2;cases e:r.keys[j]? with
  |none=>rw[e] at e2;cases e2
  |some kx=>
   rw[e] at e2;have e2:some (sgn kx)=some s:=e2;injection e2 with e2;rw[←e2];exact ih j kx t e e1 fun s hs=>h3.pl s (by rw[←hs];exact aah e)
theorem bp.empty(hh:∀s t,cY g (.inr ("empty",s)) t->t.words=[]):∀{r:List Str} {ps:List Tr},bp g (aX r) ps->Tr.aR ps=[]
 |[],ps,h=>by
  have:ps=[]:=List.length_eq_zero_iff.mp h.1.symm;subst this;rfl
 |s::r,ps,h=>by
  obtain⟨t,p2,rfl,h1,h2⟩:=bp.cons (k:=.inr ("empty",s)) (b:=aX r) h;show t.words++Tr.aR p2=[];rw[hh s t h1,bp.empty hh h2];rfl
theorem cY.empty(ok:cM 1 (bJ z R i p) g){kx:Kx}{t:Tr}(h:cY g kx t):∀s,kx=.inr ("empty",s)->t.words=[]:=by
 induction h with
 |w s=>intro s e;cases e
 |@n k c r ps hg hl hps ih=>
  intro s e;cases e
  obtain⟨h1,h2,_⟩:=ok.own _ c r hg;have hk:=c6 h1;have key:∀rr:List Str,r.keys=aX rr->Tr.aR ps=[]:=fun rr e=>by
   have hw:∀t∈ps,t.words=[]:=fun t ht=>by
    obtain⟨j,hj⟩:=List.mem_iff_getElem?.mp ht;have hlt:j<r.keys.length:=by rw[hl];exact(aab.mp hj).1
    have hkx:r.keys[j]? =some r.keys[j]:=aae hlt;have hm:r.keys[j]∈aX rr:=by rw[←e];exact List.getElem_mem hlt
    obtain⟨x,_,ex⟩:=aao.mp hm;exact ih j _ t hkx hj x ex.symm
   clear hps ih hl
   induction ps with
   |nil=>rfl
   |cons t q ihq=>
    show t.words++Tr.aR q=[];rw[hw t (aac ..),ihq fun u hu=>hw u (aad _ hu)];rfl
  show Tr.aR ps=[];generalize hr:r=r' at hk;cases hk with
  |partL=>rw[hr] at h2;injection h2 with h2 _;exact absurd h2 (by decide +kernel)
  |partH hj=>rw[hr] at h2;injection h2 with h2 _;exact absurd h2 (by decide +kernel)
  |whole hn=>rw[hr] at h2;injection h2 with h2 _;exact absurd h2 (by decide +kernel)
  |empty hn=>exact key _ (by rw[hr])
  |begin_ hn hj=>rw[hr] at h2;injection h2 with h2 _;exact absurd h2 (by decide +kernel)
  |hh hn hj=>rw[hr] at h2;injection h2 with h2 _;exact absurd h2 (by decide +kernel)
  |ll hn hj=>rw[hr] at h2;injection h2 with h2 _;exact absurd h2 (by decide +kernel)
  |hl hn hj hm=>rw[hr] at h2;injection h2 with h2 _;exact absurd h2 (by decide +kernel)
theorem bp.pk(ok:cM 1 (bJ z R i p) g)(hb:∀s t,cY g (.inr ("begin",s)) t->t.words.head? =some z){r:List Str}{j:Nat}{ps:List Tr}(h:bp g (cL z (ao R) r j) ps):(Tr.aR ps).head? =some z:=by
 obtain⟨p1,p2,rfl,h1,h2⟩:=bp.split h;obtain⟨t,p3,rfl,h3,_⟩:=h2.cons;rw[Tr.eB,bp.empty (fun s t ht=>ht.empty ok s rfl) h1];show(t.words++Tr.aR p3).head? =some z;rw[List.head?_append];have:t.words.head? =some z:=by
  split at h3
  ·cases h3;rfl
  ·exact hb _ t h3
 rw[this];rfl
theorem cY.pk(ok:cM 1 (bJ z R i p) g){kx:Kx}{t:Tr}(h:cY g kx t):∀s,kx=.inr ("begin",s)->t.words.head? =some z:=by
 induction h with
 |w s=>intro s e;cases e
 |@n k c r ps hg hl hps ih=>
  intro s e;cases e
  obtain⟨h1,h2,_⟩:=ok.own _ c r hg;have hk:=c6 h1;have key:∀(rr:List Str) (j:Nat),r.keys=cL z (ao R) rr j->(Tr.aR ps).head? =some z:=fun rr j e=>by
   have h:bp g (cL z (ao R) rr j) ps:=⟨by rw[←e];exact hl,fun i kx t e1 e2=>hps i kx t (by rw[e];exact e1) e2⟩;have hn:∀(m:Nat) (s:Str) (t:Tr),(cL z (ao R) rr j)[m]? =some (.inr ("begin",s))->ps[m]? =some t->t.words.head? =some z:=fun m s t e1 e2=>ih m _ t (by rw[e];exact e1) e2 s rfl
   clear hps ih;obtain⟨p1,p2,rfl,h1,h2⟩:=bp.split h;obtain⟨t,p3,rfl,h3,_⟩:=h2.cons;rw[Tr.eB,bp.empty (fun s t ht=>ht.empty ok s rfl) h1];show(t.words++Tr.aR p3).head? =some z;rw[List.head?_append];have:t.words.head? =some z:=by
    split at h3
    ·cases h3;rfl
    ·rename_i q;refine hn (aX (rr.take j)).length (rr.getD j "") t ?_ ?_
     ·unfold cL;rw[List.getElem?_append_right (Nat.le_refl _),Nat.sub_self,if_neg q];rfl
     ·rw[h1.1,List.getElem?_append_right (Nat.le_refl _),Nat.sub_self];rfl
   rw[this];rfl
  show(Tr.aR ps).head? =some z;generalize hr:r=r' at hk;cases hk with
  |partL=>rw[hr] at h2;injection h2 with h2 _;exact absurd h2 (by decide +kernel)
  |partH hj=>rw[hr] at h2;injection h2 with h2 _;exact absurd h2 (by decide +kernel)
  |whole hn=>rw[hr] at h2;injection h2 with h2 _;exact absurd h2 (by decide +kernel)
  |empty hn=>rw[hr] at h2;injection h2 with h2 _;exact absurd h2 (by decide +kernel)
  |begin_ hn hj=>exact key _ _ (by rw[hr])
  |hh hn hj=>rw[hr] at h2;injection h2 with h2 _;exact absurd h2 (by decide +kernel)
  |ll hn hj=>rw[hr] at h2;injection h2 with h2 _;exact absurd h2 (by decide +kernel)
  |hl hn hj hm=>rw[hr] at h2;injection h2 with h2 _;exact absurd h2 (by decide +kernel)
def Spc:Kx->Bool
 |.inl _=>false
 |.inr k=>decide (k.1="hold") || decide (k.1="last")
inductive d4(g:Bst):Str×Str->List Nat->Prop
 |stop {k:Str×Str} {c:Nat} {r:Rec}:g k=some (c,r)->(∀kx∈r.keys,Spc kx=false)->d4 g k []
 |step {k k':Str×Str} {c:Nat} {r:Rec} {j:Nat} {q:List Nat}:g k=some (c,r)->r.keys[j]? =some (.inr k')->Spc (.inr k')=true->d4 g k' q->d4 g k (j::q)
def fg:Tr->List Nat->Option (Tr×Nat)
 |t,[]=>some (t,0)
 |.w _,_::_=>none
 |.n _ _ ps,j::q=>(ps[j]?).bind fun u=>(fg u q).map fun xa=>(xa.1,(Tr.aR (ps.take j)).length+xa.2)
theorem cH(ss r:List Str):∀kx∈aI ss r,Spc kx=false:=fun kx h=>by
 obtain⟨s,_,rfl⟩:=aao.mp h;split
 ·show(decide (("whole":Str)="hold") || decide (("whole":Str)="last"))=false;decide +kernel
 ·rfl
theorem d5(r:List Str):∀kx∈aX r,Spc kx=false:=fun kx h=>by
 obtain⟨s,_,rfl⟩:=aao.mp h;show(decide (("empty":Str)="hold") || decide (("empty":Str)="last"))=false;decide +kernel
theorem fE(z:Str)(ss r:List Str)(j:Nat):∀kx∈cL z ss r j,Spc kx=false:=fun kx h=>by
 rcases aak.mp h with h|h
 ·exact d5 _ kx h
 ·rcases List.mem_cons.mp h with rfl|h
  ·split
   ·rfl
   ·show(decide (("begin":Str)="hold") || decide (("begin":Str)="last"))=false;decide +kernel
  ·exact cH _ _ kx h
theorem l8{a b:List Kx}{k:Kx}(ha:∀kx∈a,Spc kx=false)(hb:∀kx∈b,Spc kx=false){j:Nat}{k':Kx}(h:(a++k::b)[j]? =some k')(hs:Spc k'=true):j=a.length/\k'=k:=by
 rcases Nat.lt_trichotomy j a.length with q|q|q
 ·rw[List.getElem?_append_left q] at h;rw[ha _ (aah h)] at hs;cases hs
 ·subst q;rw[List.getElem?_append_right (Nat.le_refl _),Nat.sub_self] at h;cases h
  exact⟨rfl,rfl⟩
 ·rw[List.getElem?_append_right (Nat.le_of_lt q)] at h;obtain⟨m,hm⟩:∃m,j - a.length=m+1:=⟨j - a.length - 1,by omega⟩;rw[hm] at h;have h:b[m]? =some k':=by simpa using h
  rw[hb _ (aah h)] at hs;cases hs
def wY(z:Str)(l:Str)(i:Nat)(kind:Str)(t:Tr)(q:List Nat):Prop:=∃ps a,fg t q=some (.n l i ps,a)/\(kind="hold"->t.words[a]? =some z)/\(kind="last"->a=t.words.length)
theorem pw{z:Str}{l:List Str}(h:l.head? =some z):l[0]? =some z:=by
 cases l with
 |nil=>cases h
 |cons a b=>exact h
theorem cY.shown(ok:cM 1 (bJ z R i p) g){k:Str×Str}{q:List Nat}(hq:d4 g k q):∀{t:Tr},cY g (.inr k) t->k.1="hold"\/k.1="last"->wY z p.1 i k.1 t q:=by
 have nHL:¬("hold":Str)="last":=by decide +kernel
 have nLH:¬("last":Str)="hold":=by decide +kernel
 have bg:∀{r:List Str} {j:Nat} {ps:List Tr},bp g (cL z (ao R) r j) ps->(Tr.aR ps).head? =some z:=fun h=>bp.pk ok (fun s t ht=>ht.pk ok s rfl) h
 have em:∀{r:List Str} {ps:List Tr},bp g (aX r) ps->Tr.aR ps=[]:=fun h=>bp.empty (fun s t ht=>ht.empty ok s rfl) h
 induction hq with
 |@stop k c r hg hs=>
  intro t ht hk;cases ht with
  |@n _ c' r' ps hg' hl hps=>
  rw[hg] at hg';cases hg';obtain⟨h1,h2,_⟩:=ok.own _ c r hg;have hkd:=c6 h1;have T:bp g r.keys ps:=⟨hl,hps⟩;have absd:∀{a b:List Kx} {k':Str×Str},r.keys=a++.inr k'::b->Spc (.inr k')=true->False:=fun{a b k'} e e'=>by
   have:=hs (.inr k') (by rw[e];exact aar _ (aac ..));rw[e'] at this;cases this
  have sH:∀x:Str,Spc (.inr ("hold",x))=true:=fun x=>by
   show(decide (("hold":Str)="hold") || decide (("hold":Str)="last"))=true;decide +kernel
  have sL:∀x:Str,Spc (.inr ("last",x))=true:=fun x=>by
   show(decide (("last":Str)="hold") || decide (("last":Str)="last"))=true;decide +kernel
  cases hkd with
  |partL=>
   subst h2;refine⟨ps,0,rfl,fun e=>absurd e nLH,fun _=>?_⟩;show 0=(Tr.aR ps).length;rw[em T];rfl
  |partH hj=>
   subst h2;refine⟨ps,0,rfl,fun _=>?_,fun e=>absurd e nHL⟩;exact pw (bg T)
  |whole hn=>subst h2;exact absurd hk (by show ¬(("whole":Str)="hold"\/("whole":Str)="last");decide +kernel)
  |empty hn=>subst h2;exact absurd hk (by show ¬(("empty":Str)="hold"\/("empty":Str)="last");decide +kernel)
  |begin_ hn hj=>subst h2;exact absurd hk (by show ¬(("begin":Str)="hold"\/("begin":Str)="last");decide +kernel)
  |hh hn hj=>exact(absd rfl (sH _)).elim
  |ll hn hj=>exact(absd rfl (sL _)).elim
  |hl hn hj hm=>exact(absd rfl (sL _)).elim
 |@step k k' c r j q hg hj hsp _ ih=>
  intro t ht hk;cases ht with
  |@n _ c' r' ps hg' hl hps=>
  rw[hg] at hg';cases hg';obtain⟨h1,h2,_⟩:=ok.own _ c r hg;have hkd:=c6 h1;have T:bp g r.keys ps:=⟨hl,hps⟩;have hk':k'.1="hold"\/k'.1="last":=by
   have hsp:(decide (k'.1="hold") || decide (k'.1="last"))=true:=hsp;rcases Bool.or_eq_true_iff.mp hsp with e|e
   ·exact .inl (of_decide_eq_true e)
   ·exact .inr (of_decide_eq_true e)
  have no:∀{l:List Kx},r.keys=l->(∀kx∈l,Spc kx=false)->False:=fun{l} e hh=>by
   rw[e] at hj;rw[hh _ (aah hj)] at hsp;cases hsp
  have main:∀(a b:List Kx) (kk:Str×Str),r.keys=a++.inr kk::b->(∀kx∈a,Spc kx=false)->(∀kx∈b,Spc kx=false)->∃p1 u p2,ps=p1++u::p2/\bp g b p2/\wY z p.1 i kk.1 u q/\p1.length=j/\(kk.1="hold"\/kk.1="last"):=fun a b kk e ha hb=>by
   rw[e] at hj T;obtain⟨e1,e2⟩:=l8 ha hb hj hsp;injection e2 with e2;subst e2;obtain⟨p1,p2,rfl,t1,t2⟩:=T.split;obtain⟨u,p3,rfl,t3,t4⟩:=t2.cons;exact⟨p1,u,p3,rfl,t4,ih t3 hk',by rw[e1,t1.1],hk'⟩
  have fin:∀{p1 p2:List Tr} {u:Tr},ps=p1++u::p2->p1.length=j->∀{us:List Tr} {a:Nat},fg u q=some (.n p.1 i us,a)->fg (.n k.2 r.num ps) (j::q)=some (.n p.1 i us,(Tr.aR p1).length+a):=fun{p1 p2 u} e e' {us a} hu=>by
   show((ps[j]?).bind fun u=>(fg u q).map fun xa=>(xa.1,(Tr.aR (ps.take j)).length+xa.2))=_;rw[e,←e',List.getElem?_append_right (Nat.le_refl _),Nat.sub_self,List.take_left']
   ·show(fg u q).map _=_;rw[hu];rfl
   ·rfl
  have wds:∀{p1 p2:List Tr} {u:Tr},ps=p1++u::p2->Tr.words (.n k.2 r.num ps)=Tr.aR p1++(u.words++Tr.aR p2):=fun{p1 p2 u} e=>by
   show Tr.aR ps=_;rw[e,Tr.eB];rfl
  cases hkd with
  |partL=>exact(no rfl (d5 _)).elim
  |partH _=>exact(no rfl (fE _ _ _ _)).elim
  |whole _=>exact(no rfl (cH _ _)).elim
  |empty _=>exact(no rfl (d5 _)).elim
  |begin_ _ _=>exact(no rfl (fE _ _ _ _)).elim
  |hh hn hj'=>
   obtain⟨p1,u,p2,e,t4,⟨us,a,g1,g2,g3⟩,e',_⟩:=main _ _ _ rfl (cH _ _) (cH _ _);refine⟨us,_,fin e e' g1,fun _=>?_,fun e=>?_⟩
   ·have:=g2 rfl;have hlt:=(aab.mp this).1;rw[wds e,List.getElem?_append_right (Nat.le_add_right _ _),Nat.add_sub_cancel_left,List.getElem?_append_left hlt];exact this
   ·subst h2;exact absurd e nHL
  |ll hn hj'=>
   obtain⟨p1,u,p2,e,t4,⟨us,a,g1,g2,g3⟩,e',_⟩:=main _ _ _ rfl (cH _ _) (d5 _);refine⟨us,_,fin e e' g1,fun e=>?_,fun _=>?_⟩
   ·subst h2;exact absurd e nLH
   ·rw[wds e,em t4,aag,List.append_nil,g3 rfl]
  |hl hn hj' hm=>
   obtain⟨p1,u,p2,e,t4,⟨us,a,g1,g2,g3⟩,e',_⟩:=main _ _ _ rfl (cH _ _) (fE _ _ _ _);refine⟨us,_,fin e e' g1,fun _=>?_,fun e=>?_⟩
   ·rw[wds e,g3 rfl,List.getElem?_append_right (Nat.le_add_right _ _),Nat.add_sub_cancel_left,List.getElem?_append_right (Nat.le_refl _),Nat.sub_self];exact pw (bg t4)
   ·subst h2;exact absurd e nHL
end
end Nw
namespace Nw
open PySem L2
open SL (ap srt)
def cQ(g:Bst)(k:Str×Str):Nat:=((g k).map (·.1)).getD 0
def rk(g:Bst)(ks:List (Str×Str))(c:Nat):Nat:=(ks.map fun j=>if cQ g j<c then 1 else 0).sum
theorem wZ(g:Bst){c c':Nat}(h:c'<=c):∀ks,rk g ks c'<=rk g ks c
 |[]=>Nat.le_refl _
 |j::ks=>by
  have ih:=wZ g h ks;show(if cQ g j<c' then 1 else 0)+rk g ks c'<=(if cQ g j<c then 1 else 0)+rk g ks c
  by_cases q:cQ g j<c'
  ·rw[if_pos q,if_pos (by omega)];omega
  ·rw[if_neg q];omega
theorem nr(g:Bst){k:Str×Str}{c:Nat}(h:cQ g k<c):∀{ks},k∈ks->rk g ks (cQ g k)<rk g ks c
 |[],hk=>by cases hk
 |j::ks,hk=>by
  show(if cQ g j<cQ g k then 1 else 0)+rk g ks (cQ g k)<(if cQ g j<c then 1 else 0)+rk g ks c;rcases List.mem_cons.mp hk with q|q
  ·subst q;have:=wZ g (Nat.le_of_lt h) ks;rw[if_neg (Nat.lt_irrefl _),if_pos h];omega
  ·have ih:=nr g h q
   by_cases q:cQ g j<cQ g k
   ·rw[if_pos q,if_pos (by omega)];omega
   ·rw[if_neg q];omega
theorem px(g:Bst)(c:Nat):∀ks,rk g ks c<=ks.length
 |[]=>Nat.le_refl _
 |j::ks=>by
  have ih:=px g c ks;show(if cQ g j<c then 1 else 0)+rk g ks c<=ks.length+1;split <;> omega
theorem _root_.L2.bR.on{H H':Hp}{d:Addr}{y:V}{o:Option V}(h:bR H d y o)(s:ab H H'):bR H' d y o:=by
 have rd:∀{a:Addr} {u:HO},Rd H a u->Rd H' a u:=fun{a u} h=>h.imp (s _ _) fun⟨o,e⟩=>⟨o,s _ _ e⟩
 rcases h with ⟨kvs,k,h1,h2,h3⟩|⟨kvs,k,b,h1,h2,h3,h4⟩
 ·exact .inl ⟨kvs,k,rd h1,h2,h3⟩
 ·exact .inr ⟨kvs,k,b,rd h1,h2,s _ _ h3,h4⟩
abbrev v5:Stmt:=top 40
theorem gX:aJ ["best","goal","path","key","keys","place","inner"] ["best","goal"] (aw v5):=⟨rfl,rfl,rfl,by decide +kernel,rfl,by decide +kernel,by decide +kernel⟩
def rQ(l:List Kx):Prop:=∀(i j:Nat) (a b:Kx),l[i]? =some a->l[j]? =some b->Spc a=true->Spc b=true->i=j
def nats(q:List Nat):List V:=q.map fun n=>V.int (n:Nat)
def rR:Sp:=fun vs H Q _=>∃(d t:Addr) (ks:List (Str×Str)) (g:Bst) (RS:List Rec) (k0:Str×Str),vs=[.ref d,.ref t]/\bP H d ks g/\ks.length<64/\(∀k c r,g k=some (c,r)->r.keys.length<=900)/\cM 1 RS g/\(∀r∈RS,rQ r.keys)/\H t=some (.tup [.str k0.1,.str k0.2])/\Kn g k0/\
 ∀q H' path,ab H H'->H q=none->H' q=some (.lst (nats path))->d4 g k0 path->Q (.ref q) H'
theorem zo(p:Str×Str):inV (V.str p.1) [V.str "hold",V.str "last"]=Spc (.inr p):=by
 have:=dF p.1 ["hold","last"];have e:(["hold","last"]:List Str).map V.str=[V.str "hold",V.str "last"]:=rfl;rw[←e,this];show decide (p.1∈[("hold":Str),"last"])=(decide (p.1="hold") || decide (p.1="last"))
 by_cases h1:p.1="hold"
 ·rw[h1];decide +kernel
 ·by_cases h2:p.1="last"
  ·rw[h2];decide +kernel
  ·rw[aai h1,aai h2,aai];rfl;intro z;rcases List.mem_cons.mp z with z|z
   ·exact h1 z
   ·exact h2 (aaj.mp z)
section
variable {P:Program}{w:World}{K:PySem.W.Frag}{mg:Str->Option Value}{base:Heap}
theorem zp{f:Addr}{fd:FuncData}(F:Fun K "path_to_part" "path_to_part" v5 f fd)(T:Txt mg)(C:Cons mg)(hEn:mg "enumerate"=none):be P w K mg base CX0 1 f fd ["best","goal"] rR:=by
 refine F.ok gX (fun vs H Q E h=>?_) (fun cdv A outer s H vs Q E hr h=>?_)
 ·obtain⟨d,t,ks,g,RS,k0,rfl,_⟩:=h;rfl
 ·obtain⟨d,t0,ks,g,RS,k0,rfl,hB,h64,hkl,hok,hone,ht0,hkn,k⟩:=h;have hu:=cI hr;obtain⟨ul,hl,rl⟩:=C.last;obtain⟨uh,hh,rh⟩:=C.hold;refine⟨_,af (aq (i:=2) gX.nd rfl (Or.inl rfl) (bx ac))
   (af (aq (i:=3) gX.nd rfl (Or.inl rfl) (pv 1))
   (af (dS PassesOwn.never (aL pY (pv 3) gs (aY _))
    (af (aq (i:=4) gX.nd rfl (Or.inl rfl) (aC aF (aC aF (cq hu (pv 0) (pv 3) (fun _ _=>rfl)) am (fun _ _=>rfl)) am (fun _ _=>rfl)))
    (af (aq (i:=3) gX.nd rfl (Or.inl rfl) gs)
    (ag (bb PassesOwn.never rfl (ir (by rfl) hEn (ad (pv 4) ac)) (cT (n:=2) rfl (aN (az (i:=5) gX.nd rfl (Or.inl rfl)) (aN (az (i:=6) gX.nd rfl (Or.inl rfl)) cp)))
     (ag (a7 (PW.pt (nG (ba (au a0 (by rfl) T.isi boot_isinstance (ad (pv 6) (ad (a9 (v:=.ty "tuple") (by rfl) T.tup dG rfl) ac))))
       (lC (aL (r:=rIn K false) fQ (aC aF (pv 6) am (fun _ _=>rfl)) (aZ (ad (bQ (by rfl) hh rh) (ad (bQ (by rfl) hl rl) ac))) (by with_unfolding_all rfl)))))
      (af (bv (bZ PySem.F.plainAttrs_list PySem.F.slot_list_append PySem.F.type_list_append bf (pv 2) (ad (pv 5) ac)))
      (ag (aq (i:=3) gX.nd rfl (Or.inl rfl) (pv 6))))
      aT)))))))
   (ag (aQ (pv 2))))),?_⟩
  refine⟨by decide,fun q hq=>⟨_,rfl,?_⟩⟩;obtain⟨c0,r0,hg0⟩:=hkn;have costOf:∀{k:Str×Str} {c:Nat} {r:Rec},g k=some (c,r)->cQ g k=c:=fun{k c r} e=>by unfold cQ;rw[e];rfl
  refine(⟨fun m σ H1=>∃pre kv o1 o2 o3,σ=[some (.ref d),some (.ref t0),some (.ref q),some kv,o1,o2,o3]/\ab H H1/\H1 q=some (.lst (nats pre))/\pre.length+m<=66/\
    ((kv=.non/\m=0/\d4 g k0 pre)\/∃t k c r,kv=.ref t/\H t=some (.tup [.str k.1,.str k.2])/\g k=some (c,r)/\m=rk g ks c+1/\∀q,d4 g k q->d4 g k0 (pre++q)),
   ⟨_,[],_,_,_,_,rfl,ab.upd hq,aa,?_,.inr ⟨t0,k0,c0,r0,rfl,ht0,hg0,rfl,fun q h=>h⟩⟩,?_⟩)
  ·have:=px g c0 ks;show 0+_<=_;omega
  rintro m σ H1 ⟨pre,kv,o1,o2,o3,rfl,s1,hq1,hlen,hkv⟩;refine⟨_,rfl,rfl,_,rfl,?_⟩;rcases hkv with ⟨rfl,rfl,hpath⟩|⟨t,kk,c,r,rfl,ht,hg,rfl,hpath⟩
  ·exact aK ⟨_,rfl,k q H1 pre s1 hq hq1 hpath⟩
  ·refine bF ⟨fun σ H3=>∃pre' kv o1 o2 o3,σ=[some (.ref d),some (.ref t0),some (.ref q),some kv,o1,o2,o3]/\ab H H3/\H3 q=some (.lst (nats pre'))/\
     ((kv=.non/\pre'=pre/\d4 g k0 pre)\/∃t k c' r j,kv=.ref t/\pre'=pre++[j]/\H t=some (.tup [.str k.1,.str k.2])/\g k=some (c',r)/\c'<c/\∀q,d4 g k q->d4 g k0 (pre'++q)),?_,?_⟩
   ·rintro σ' H3 ⟨pre',kv,o1,o2,o3,rfl,s3,hq3,hkv⟩;rcases hkv with ⟨rfl,rfl,hp'⟩|⟨t',k',c',r',j,rfl,rfl,ht',hg',hc',hp'⟩
    ·exact⟨0,by omega,_,_,_,_,_,rfl,s3,hq3,by omega,.inl ⟨rfl,rfl,hp'⟩⟩
    ·have hlt:rk g ks c'<rk g ks c:=by
      have:=nr g (k:=k') (c:=c) (by rw[costOf hg'];exact hc') (ks:=ks) ((hB.mem k').mpr ⟨c',r',hg'⟩);rw[costOf hg'] at this;exact this
     exact⟨rk g ks c'+1,by omega,_,_,_,_,_,rfl,s3,hq3,by rw[aag,aav];omega,.inr ⟨t',k',c',r',rfl,ht',hg',rfl,hp'⟩⟩
   ·obtain⟨c2,r2,tt,v,hg2,hdg,htt,hrec⟩:∃c2 r2 tt v,g kk=some (c2,r2)/\bR H d (.ref t) (some (.ref tt))/\H tt=some (.tup [.int (c2:Nat),v])/\RecAt H v r2:=by
     rcases hB.get (k:=kk) ht with h|⟨h,_⟩
     ·exact h
     ·rw[h] at hg;cases hg
    rw[hg2] at hg;cases hg;obtain⟨tr,kr,lk,rfl,htr,hkr,us,hus,hup⟩:=hrec;have hul:us.length<=900:=by rw[Paired.length hup];exact hkl kk c r hg2
    obtain⟨hrm,_,cc,hcc,hle⟩:=hok.own kk c r hg2;have h1:=hone r hrm;refine⟨_,rfl,_,rfl,d,_,rfl,hdg.on s1,tt,_,1,_,rfl,rfl,SqT.of (s1 _ _ htt),ak (j:=1) rfl,tr,_,2,_,rfl,rfl,SqT.of (s1 _ _ htr),ak (j:=2) rfl,?_⟩;refine⟨_,rfl,lk,rfl,⟨_,SqL.of (s1 _ _ hus)⟩,gD (K:=K) (a:=lk) (xs:=us)
     (fun i σ H4=>∃pre' kv o2 o3,σ=[some (.ref d),some (.ref t0),some (.ref q),some kv,some (.ref lk),o2,o3]/\ab H H4/\H4 q=some (.lst (nats pre'))/\((kv=.non/\pre'=pre/\∀(m:Nat) (kx:Kx),m<i->r.keys[m]? =some kx->Spc kx=false)\/∃t k j,kv=.ref t/\pre'=pre++[j]/\j<i/\r.keys[j]? =some (.inr k)/\Spc (.inr k)=true/\H t=some (.tup [.str k.1,.str k.2])))
     ⟨pre,_,_,_,rfl,s1,hq1,.inl ⟨rfl,rfl,fun m kx h=>absurd h (Nat.not_lt_zero _)⟩⟩ ?_ ?_ ?_⟩
    ·rintro i σ H4 _ ⟨_,_,_,_,_,s4,_⟩;exact SqL.of (s4 _ _ hus)
    ·rintro i x t2 σ H4 hx ⟨pre',kv,p2,p3,rfl,s4,hq4,hkv⟩ ht2;have hi:i<us.length:=(aab.mp hx).1;obtain⟨kx,hki,hkx⟩:=aW hup i x hx;have s5:=ab.upd (o:=HO.tup [.int i,x]) ht2;have hq5:=s5 _ _ hq4;have s45:=s4.trans s5;have next:Spc kx=false->((kv=.non/\pre'=pre/\∀(m:Nat) (kx:Kx),m<i+1->r.keys[m]? =some kx->Spc kx=false)\/∃t k j,kv=.ref t/\pre'=pre++[j]/\j<i+1/\r.keys[j]? =some (.inr k)/\Spc (.inr k)=true/\H t=some (.tup [.str k.1,.str k.2])):=fun hs=>by
      rcases hkv with ⟨e1,e2,e3⟩|⟨t,k,j,e1,e2,e3,e4⟩
      ·refine .inl ⟨e1,e2,fun m kx' hm hk'=>?_⟩
       by_cases q:m=i
       ·subst q;rw[hki] at hk';cases hk';exact hs
       ·exact e3 m kx' (by omega) hk'
      ·exact .inr ⟨t,k,j,e1,e2,by omega,e4⟩
     refine⟨t2,_,rfl,SqT.of aa,rfl,_,_,rfl,_,_,rfl,rfl,?_⟩;generalize upd H4 t2 (.tup [.int i,x])=H5 at hq5 s45;cases kx with
     |inl wd=>
      have hkx:x=.str wd:=hkx;subst hkx;exact⟨_,rfl,_,_,_,_,rfl,.str _,zk,_,rfl,aK (aK ⟨pre',_,_,_,rfl,s45,hq5,next rfl⟩)⟩
     |inr p=>
      obtain⟨b,rfl,hb⟩:=hkx;refine⟨_,rfl,_,_,_,_,rfl,.tup (s45 _ _ hb),kc,_,rfl,bF ?_⟩;refine⟨_,rfl,b,_,0,_,rfl,rfl,SqT.of (s45 _ _ hb),ak (j:=0) rfl,(show 2<=sizeLine by decide),fun tp htp=>?_⟩;have s6:=ab.upd (o:=HO.tup [.str "hold",.str "last"]) htp;refine⟨tp,_,rfl,.inr (SqT.of aa),rfl,rfl,_,rfl,?_⟩;show if (inV (V.str p.1) [V.str "hold",V.str "last"])=true then _ else _
      rw[zo];cases hsp:Spc (.inr p) with
      |false=>exact aK ⟨pre',_,_,_,rfl,s45.trans s6,s6 _ _ hq5,next hsp⟩
      |true=>
       rcases hkv with ⟨e1,e2,e3⟩|⟨t',k',j,e1,e2,e3,e4,e5,e6⟩
       ·subst e2;refine bF ⟨_,rfl,.inl ⟨rfl,_,SqL.of (s6 _ _ hq5)⟩,_,rfl,q,nats pre',_,rfl,rfl,s6 _ _ hq5,Nat.lt_of_le_of_lt (m:=66) (by unfold nats;rw[aaa];omega) (by rw[PySem.sizeLine_eq];decide),_,rfl,pre'++[i],_,_,_,rfl,(s45.trans s6).bK hq,?_,.inr ⟨b,p,i,rfl,rfl,Nat.lt_succ_self _,hki,hsp,hb⟩⟩;rw[aa];unfold nats;rw[aam];rfl
       ·exact absurd (h1 j i _ _ e4 hki e5 hsp) (Nat.ne_of_lt e3)
    ·rintro σ H4 ⟨pre',kv,p2,p3,rfl,s4,hq4,hkv⟩;refine⟨pre',kv,_,_,_,rfl,s4,hq4,?_⟩;have hlu:us.length=r.keys.length:=Paired.length hup;rcases hkv with ⟨e1,e2,e3⟩|⟨t',k',j,e1,e2,e3,e4,e5,e6⟩
     ·refine .inl ⟨e1,e2,?_⟩;have:=hpath [] (.stop hg2 fun kx hm=>by
       obtain⟨m,hm⟩:=List.mem_iff_getElem?.mp hm;exact e3 m kx (by rw[hlu];exact(aab.mp hm).1) hm)
      rwa [List.append_nil] at this
     ·obtain⟨c',r',hg',hc'⟩:=fX hcc k' (aah e4);refine .inr ⟨t',k',c',r',j,e1,e2,e6,hg',by omega,fun q hq'=>?_⟩;rw[e2,List.append_assoc];exact hpath _ (.step hg2 e4 e5 hq')
end
end Nw
namespace Nw
open PySem L2
theorem l9(g:Bst){k:Str×Str}{c:Nat}(h:¬cQ g k<c):∀{ks},k∈ks->rk g ks c+1<=ks.length
 |[],hk=>by cases hk
 |j::ks,hk=>by
  show(if cQ g j<c then 1 else 0)+rk g ks c+1<=ks.length+1;rcases List.mem_cons.mp hk with q|q
  ·subst q;have:=px g c ks;rw[if_neg h];omega
  ·have:=l9 g h q;split <;> omega
theorem iZ{g:Bst}{k:Str×Str}{c:Nat}{r:Rec}(h:g k=some (c,r)):cQ g k=c:=by unfold cQ;rw[h];rfl
theorem eX{g:Bst}{B:Nat}(hB:1<=B):∀{l:List Kx} {c:Nat},aH g l=some c->(∀k c r,.inr k∈l->g k=some (c,r)->c<=B)->c<=l.length*B
 |[],c,e,_=>by
  have e:some 0=some c:=e;injection e with e;omega
 |.inl w::l,c,e,h=>by
  have e:(aH g l).map (1 + ·)=some c:=e;cases q:aH g l with
  |none=>rw[q] at e;cases e
  |some x=>
   rw[q] at e;have e:some (1+x)=some c:=e;injection e with e;have:=eX hB q fun k c r hk=>h k c r (aad _ hk)
   rw[aau,Nat.succ_mul];omega
 |.inr p::l,c,e,h=>by
  have e:((g p).bind fun cr=>(aH g l).map (cr.1 + ·))=some c:=e;cases qp:g p with
  |none=>rw[qp] at e;cases e
  |some cr=>
   obtain⟨y,r⟩:=cr;rw[qp] at e;cases q:aH g l with
   |none=>rw[q] at e;cases e
   |some x=>
    rw[q] at e;have e:some (y+x)=some c:=e;injection e with e;have h1:=eX hB q fun k c r hk=>h k c r (aad _ hk)
    have h2:=h p y r (aac ..) qp;rw[aau,Nat.succ_mul];omega
theorem gY{g:Bst}{a b:List Kx}{k:Kx}{c:Nat}(h:aH g (a++k::b)=some c):∃x y z,aH g a=some x/\aH g [k]=some y/\aH g b=some z/\c=x+y+z:=by
 rw[show a++k::b=a++([k]++b) from rfl,dA,dA] at h;cases q1:aH g a with
 |none=>rw[q1] at h;cases h
 |some x=>
  cases q2:aH g [k] with
  |none=>rw[q1,q2] at h;cases h
  |some y=>
   cases q3:aH g b with
   |none=>rw[q1,q2,q3] at h;cases h
   |some z=>
    rw[q1,q2,q3] at h;have h:some (x+(y+z))=some c:=h;injection h with h;exact⟨x,y,z,rfl,rfl,rfl,by omega⟩
theorem gZ{g:Bst}{k:Str×Str}{y:Nat}(h:aH g [.inr k]=some y):∃r,g k=some (y,r):=by
 have h:((g k).bind fun cr=>(aH g []).map (cr.1 + ·))=some y:=h;cases q:g k with
 |none=>rw[q] at h;cases h
 |some cr=>
  rw[q] at h;have h:some (cr.1+0)=some y:=h;injection h with h;exact⟨cr.2,by rw[←h];rfl⟩
def f8:Nat->Nat
 |0=>21
 |n+1=>20*f8 n+1
theorem v6:∀n,1<=f8 n
 |0=>by decide
 |n+1=>by show 1<=20*f8 n+1;omega
theorem mK:∀{m n:Nat},m<=n->f8 m<=f8 n:=by
 intro m n h
 induction h with
 |refl=>exact Nat.le_refl _
 |step _ ih=>exact Nat.le_trans ih (by show f8 _<=20*f8 _+1;omega)
section
variable {RS:List Rec}{g:Bst}{S:List Str}
theorem uf{κ:Str}(ok:cM 1 RS g)(hC:ce 1 RS g)(hS:S.length<=3)(hw:∀r∈RS,r.keys.length<=20)(hin:∀r∈RS,r.key.1=κ->r.key.2∈S/\∀k,.inr k∈r.keys->k.1=κ) :
  ∀(n:Nat) (k:Str×Str) (c:Nat) (r:Rec),c<=n->k.1=κ->g k=some (c,r)->c<=f8 (rk g (S.map fun x=>(κ,x)) c):=by
 intro n
 induction n with
 |zero=>intro k c r hc _ _;omega
 |succ n ih=>
  intro k c r hc hk hg;obtain⟨h1,h2,cc,h3,h4⟩:=ok.own k c r hg;obtain⟨c',r',h5,h6⟩:=hC r h1 cc h3;rw[h2,hg] at h5;cases h5;obtain⟨hx,hks⟩:=hin r h1 (by rw[h2];exact hk);have hl:=hw r h1;have part:∀k' c' r',.inr k'∈r.keys->g k'=some (c',r')->c'<=cc/\c'<=f8 (rk g (S.map fun x=>(κ,x)) c')/\rk g (S.map fun x=>(κ,x)) c'<rk g (S.map fun x=>(κ,x)) c:=fun k' c' r' hm hg'=>by
   obtain⟨c2,r2,e1,e2⟩:∃c2 r2,g k'=some (c2,r2)/\c2<=cc:=fX h3 k' hm;rw[hg'] at e1;cases e1;have hk':=hks k' hm;refine⟨e2,ih k' c' r' (by omega) hk' hg',?_⟩;have e3:=iZ hg';have:=nr g (k:=k') (c:=c) (by omega) (ks:=S.map fun x=>(κ,x)) (by
    obtain⟨q1,q2,_⟩:=ok.own k' c' r' hg';have:=(hin r' q1 (by rw[q2];exact hk')).1;rw[q2] at this;exact aao.mpr ⟨k'.2,this,by rw[←hk']⟩)
   rw[e3] at this;exact this
  cases hrk:rk g (S.map fun x=>(κ,x)) c with
  |zero=>
   have:=eX (B:=1) (Nat.le_refl _) h3 fun k' c' r' hm hg'=>by
    have:=(part k' c' r' hm hg').2.2;omega
   show c<=21;omega
  |succ m=>
   have:=eX (B:=f8 m) (v6 m) h3 fun k' c' r' hm hg'=>by
    obtain⟨_,q1,q2⟩:=part k' c' r' hm hg';exact Nat.le_trans q1 (mK (by omega))
   show c<=20*f8 m+1;have:=Nat.mul_le_mul_right (f8 m) hl;omega
theorem lj{κ:Str}(ok:cM 1 RS g)(hC:ce 1 RS g)(hS:S.length<=3)(hw:∀r∈RS,r.keys.length<=20)(hin:∀r∈RS,r.key.1=κ->r.key.2∈S/\∀k,.inr k∈r.keys->k.1=κ){x:Str}{c:Nat}{r:Rec}(hg:g (κ,x)=some (c,r)):c<=8421:=by
 have h:=uf ok hC hS hw hin c (κ,x) c r (Nat.le_refl _) rfl hg;obtain⟨h1,h2,_⟩:=ok.own _ c r hg;have hx:=(hin r h1 (by rw[h2])).1;rw[h2] at hx;have:=l9 g (k:=(κ,x)) (c:=c) (by rw[iZ hg];exact Nat.lt_irrefl _) (ks:=S.map fun x=>(κ,x)) (aao.mpr ⟨x,hx,rfl⟩);rw[aaa] at this;exact Nat.le_trans h (Nat.le_trans (mK (by omega:_<=2)) (by decide))
theorem i4{κ:Str}{A:Nat}(hS:S.length<=3)(hin:∀x c r,g (κ,x)=some (c,r)->x∈S)(hst:∀x c r,g (κ,x)=some (c,r)->c<=A\/∃x' c' r',g (κ,x')=some (c',r')/\c'<c/\c<=A+c') :
  ∀{x:Str} {c:Nat} {r:Rec},g (κ,x)=some (c,r)->c<=3*A:=by
 have key:∀(n:Nat) (x:Str) (c:Nat) (r:Rec),c<=n->g (κ,x)=some (c,r)->c<=(rk g (S.map fun x=>(κ,x)) c+1)*A:=by
  intro n
  induction n with
  |zero=>intro x c r hc _;omega
  |succ n ih=>
   intro x c r hc hg;rcases hst x c r hg with h|⟨x',c',r',h1,h2,h3⟩
   ·rw[Nat.succ_mul];omega
   ·have q1:=ih x' c' r' (by omega) h1;have e:=iZ h1;have q2:=nr g (k:=(κ,x')) (c:=c) (by omega) (ks:=S.map fun x=>(κ,x)) (aao.mpr ⟨x',hin x' c' r' h1,rfl⟩);rw[e] at q2;have q3:=Nat.mul_le_mul_right A (by omega:rk g (S.map fun x=>(κ,x)) c'+1<=rk g (S.map fun x=>(κ,x)) c);rw[Nat.succ_mul];omega
 intro x c r hg;have h:=key c x c r (Nat.le_refl _) hg;have:=l9 g (k:=(κ,x)) (c:=c) (by rw[iZ hg];exact Nat.lt_irrefl _) (ks:=S.map fun x=>(κ,x)) (aao.mpr ⟨x,hin x c r hg,rfl⟩);rw[aaa] at this;exact Nat.le_trans h (Nat.mul_le_mul_right A (by omega))
end
section
variable {z:Str}{R:List Row}{i:Nat}{p:Row}{g:Bst}{S:List Str}
theorem mL{ss r:List Str}{k:Str×Str}(h:.inr k∈aI ss r):k.1="whole":=by
 obtain⟨s,_,e⟩:=aao.mp h;split at e
 ·injection e with e;rw[←e]
 ·cases e
theorem mM{r:List Str}{k:Str×Str}(h:.inr k∈aX r):k.1="empty":=by
 obtain⟨s,_,e⟩:=aao.mp h;injection e with e;rw[←e]
theorem Kind.sort(hS:∀q∈R,q.1∈S)(hp:R[i]? =some p){r:Rec}(h:Kind z R i p r):r.key.2∈S:=by
 cases h with
 |partL=>exact hS _ (aah hp)
 |partH _=>exact hS _ (aah hp)
 |whole hn=>exact hS _ (aah hn)
 |empty hn=>exact hS _ (aah hn)
 |begin_ hn _=>exact hS _ (aah hn)
 |hh hn _=>exact hS _ (aah hn)
 |ll hn _=>exact hS _ (aah hn)
 |hl hn _ _=>exact hS _ (aah hn)
theorem Kind.wid(hS:∀q∈R,q.2.length<=20)(hp:R[i]? =some p){r:Rec}(hz:¬z∈ao R)(h:Kind z R i p r):r.keys.length<=20:=by
 have:=(h.wX hz hp).row;have:=hS _ (aah this)
 rwa [aaa] at this
theorem v7(hz:¬z∈ao R)(hp:R[i]? =some p)(hS:S.length<=3)(hin:∀q∈R,q.1∈S)(hw:∀q∈R,q.2.length<=20)(ok:cM 1 (bJ z R i p) g)(hC:ce 1 (bJ z R i p) g){k:Str×Str}{c:Nat}{r:Rec}
  (hg:g k=some (c,r))(hk:k.1="hold"\/k.1="last"):c<=4000000:=by
 have W:∀r∈bJ z R i p,r.keys.length<=20:=fun r hr=>(c6 hr).wid hw hp hz
 have n1:∀{a b:Str},a=b->decide (a=b)=false->False:=fun{a b} e h=>by rw[aan e] at h;cases h
 have wh:∀{x:Str} {c:Nat} {r:Rec},g ("whole",x)=some (c,r)->c<=8421:=fun{x c r} h=>by
  refine lj ok hC hS W (fun r hr hk=>⟨(c6 hr).sort hin hp,fun k hm=>?_⟩) h;have:=c6 hr;cases this with
  |whole hn=>exact mL hm
  |partL=>exact(n1 (a:="last") hk (by decide +kernel)).elim
  |partH _=>exact(n1 (a:="hold") hk (by decide +kernel)).elim
  |empty _=>exact(n1 (a:="empty") hk (by decide +kernel)).elim
  |begin_ _ _=>exact(n1 (a:="begin") hk (by decide +kernel)).elim
  |hh _ _=>exact(n1 (a:="hold") hk (by decide +kernel)).elim
  |ll _ _=>exact(n1 (a:="last") hk (by decide +kernel)).elim
  |hl _ _ _=>exact(n1 (a:="hold") hk (by decide +kernel)).elim
 have em:∀{x:Str} {c:Nat} {r:Rec},g ("empty",x)=some (c,r)->c<=8421:=fun{x c r} h=>by
  refine lj ok hC hS W (fun r hr hk=>⟨(c6 hr).sort hin hp,fun k hm=>?_⟩) h;have:=c6 hr;cases this with
  |empty hn=>exact mM hm
  |partL=>exact(n1 (a:="last") hk (by decide +kernel)).elim
  |partH _=>exact(n1 (a:="hold") hk (by decide +kernel)).elim
  |whole _=>exact(n1 (a:="whole") hk (by decide +kernel)).elim
  |begin_ _ _=>exact(n1 (a:="begin") hk (by decide +kernel)).elim
  |hh _ _=>exact(n1 (a:="hold") hk (by decide +kernel)).elim
  |ll _ _=>exact(n1 (a:="last") hk (by decide +kernel)).elim
  |hl _ _ _=>exact(n1 (a:="hold") hk (by decide +kernel)).elim
 have kW:∀{ss r:List Str} {c:Nat},aH g (aI ss r)=some c->c<=r.length*8421:=fun{ss r c} h=>by
  have:=eX (B:=8421) (by decide) h fun k c r hm hg=>wh (x:=k.2) (r:=r) (by rw[←mL hm];exact hg)
  unfold aI at this
  rwa [aaa] at this
 have kE:∀{r:List Str} {c:Nat},aH g (aX r)=some c->c<=r.length*8421:=fun{r c} h=>by
  have:=eX (B:=8421) (by decide) h fun k c r hm hg=>em (x:=k.2) (r:=r) (by rw[←mM hm];exact hg)
  unfold aX at this
  rwa [aaa] at this
 have eqc:∀{k:Str×Str} {c:Nat} {r:Rec},g k=some (c,r)->r.key=k/\Kind z R i p r/\r.keys.length<=20/\∃cc,aH g r.keys=some cc/\c=cc+1:=fun{k c r} hg=>by
  obtain⟨h1,h2,cc,h3,h4⟩:=ok.own k c r hg;obtain⟨c',r',h5,h6⟩:=hC r h1 cc h3;rw[h2,hg] at h5;cases h5;exact⟨h2,c6 h1,W r h1,cc,h3,by omega⟩
 have srt:∀{κ x:Str} {c:Nat} {r:Rec},g (κ,x)=some (c,r)->x∈S:=fun{κ x c r} h=>by
  obtain⟨h1,h2,_⟩:=eqc h;have:=h2.sort hin hp;rw[h1] at this;exact this
 have kB:∀{r:List Str} {j c:Nat},j<r.length->aH g (cL z (ao R) r j)=some c->c<=r.length*8421\/∃x c' r',g ("begin",x)=some (c',r')/\c'<=c/\c<=r.length*8421+c':=fun{r j c} hj h=>by
  obtain⟨x,y,t,h1,h2,h3,rfl⟩:=gY h;have q1:=kE h1;have q3:=kW h3;rw[aal,Nat.min_eq_left (Nat.le_of_lt hj)] at q1;rw[List.length_drop] at q3;have e:r.length*8421=j*8421+(r.length - (j+1))*8421+8421:=by
   have:r.length=j+(r.length - (j+1))+1:=by omega
   conv=>lhs;rw[this]
   omega
  split at h2
  ·have h2:some (1+0)=some y:=h2;injection h2 with h2;exact .inl (by omega)
  ·obtain⟨r',h2⟩:=gZ h2;exact .inr ⟨_,y,r',h2,by omega,by omega⟩
 have bg:∀{x:Str} {c:Nat} {r:Rec},g ("begin",x)=some (c,r)->c<=3*168421:=by
  refine i4 hS (fun x c r h=>srt h) fun x c r h=>?_
  obtain⟨h1,h2,h3,cc,h4,rfl⟩:=eqc h;cases h2 with
  |begin_ hn hj=>
   rename_i n j q;have hl:q.2.length<=20:=hw q (aah hn);have:=Nat.mul_le_mul_right 8421 hl;rcases kB hj h4 with e|⟨x',c',r',e1,e2,e3⟩
   ·exact .inl (by omega)
   ·exact .inr ⟨x',c',r',e1,by omega,by omega⟩
  |partL=>injection h1 with h1 _;exact(n1 h1 (by decide +kernel)).elim
  |partH _=>injection h1 with h1 _;exact(n1 h1 (by decide +kernel)).elim
  |whole _=>injection h1 with h1 _;exact(n1 h1 (by decide +kernel)).elim
  |empty _=>injection h1 with h1 _;exact(n1 h1 (by decide +kernel)).elim
  |hh _ _=>injection h1 with h1 _;exact(n1 h1 (by decide +kernel)).elim
  |ll _ _=>injection h1 with h1 _;exact(n1 h1 (by decide +kernel)).elim
  |hl _ _ _=>injection h1 with h1 _;exact(n1 h1 (by decide +kernel)).elim
 have la:∀{x:Str} {c:Nat} {r:Rec},g ("last",x)=some (c,r)->c<=3*168421:=by
  refine i4 hS (fun x c r h=>srt h) fun x c r h=>?_
  obtain⟨h1,h2,h3,cc,h4,rfl⟩:=eqc h;cases h2 with
  |partL=>
   have hl:p.2.length<=20:=hw p (aah hp);have:=Nat.mul_le_mul_right 8421 hl;have:=kE h4;exact .inl (by omega)
  |ll hn hj=>
   rename_i n j q;have hl:q.2.length<=20:=hw q (aah hn);obtain⟨x',y,t,g1,g2,g3,rfl⟩:=gY h4;have q1:=kW g1;have q3:=kE g3;rw[aal,Nat.min_eq_left (Nat.le_of_lt hj)] at q1;rw[List.length_drop] at q3;obtain⟨r',g2⟩:=gZ g2;exact .inr ⟨_,y,r',g2,by omega,by omega⟩
  |begin_ _ _=>injection h1 with h1 _;exact(n1 h1 (by decide +kernel)).elim
  |partH _=>injection h1 with h1 _;exact(n1 h1 (by decide +kernel)).elim
  |whole _=>injection h1 with h1 _;exact(n1 h1 (by decide +kernel)).elim
  |empty _=>injection h1 with h1 _;exact(n1 h1 (by decide +kernel)).elim
  |hh _ _=>injection h1 with h1 _;exact(n1 h1 (by decide +kernel)).elim
  |hl _ _ _=>injection h1 with h1 _;exact(n1 h1 (by decide +kernel)).elim
 have ho:∀{x:Str} {c:Nat} {r:Rec},g ("hold",x)=some (c,r)->c<=3*(7*168421):=by
  refine i4 hS (fun x c r h=>srt h) fun x c r h=>?_
  obtain⟨h1,h2,h3,cc,h4,rfl⟩:=eqc h;cases h2 with
  |partH hj=>
   have hl:p.2.length<=20:=hw p (aah hp);have:=Nat.mul_le_mul_right 8421 hl;rcases kB hj h4 with e|⟨x',c',r',e1,e2,e3⟩
   ·exact .inl (by omega)
   ·have:=bg e1;exact .inl (by omega)
  |hh hn hj=>
   rename_i n j q;have hl:q.2.length<=20:=hw q (aah hn);obtain⟨x',y,t,g1,g2,g3,rfl⟩:=gY h4;have q1:=kW g1;have q3:=kW g3;rw[aal,Nat.min_eq_left (Nat.le_of_lt hj)] at q1;rw[List.length_drop] at q3;obtain⟨r',g2⟩:=gZ g2;exact .inr ⟨_,y,r',g2,by omega,by omega⟩
  |hl hn hj hm=>
   rename_i n j m q;have hl:q.2.length<=20:=hw q (aah hn);obtain⟨x',y,t,g1,g2,g3,rfl⟩:=gY h4;have q1:=kW g1;rw[aal,Nat.min_eq_left (Nat.le_of_lt hj)] at q1;obtain⟨r',g2⟩:=gZ g2;have:=la g2;rcases kB hm g3 with e|⟨x2,c2,r2,e1,e2,e3⟩
   ·rw[List.length_drop] at e;exact .inl (by omega)
   ·have:=bg e1;rw[List.length_drop] at e3;exact .inl (by omega)
  |partL=>injection h1 with h1 _;exact(n1 h1 (by decide +kernel)).elim
  |begin_ _ _=>injection h1 with h1 _;exact(n1 h1 (by decide +kernel)).elim
  |whole _=>injection h1 with h1 _;exact(n1 h1 (by decide +kernel)).elim
  |empty _=>injection h1 with h1 _;exact(n1 h1 (by decide +kernel)).elim
  |ll _ _=>injection h1 with h1 _;exact(n1 h1 (by decide +kernel)).elim
 obtain⟨κ,x⟩:=k;rcases hk with e|e
 ·have e:κ="hold":=e;subst e;have:=ho hg;omega
 ·have e:κ="last":=e;subst e;have:=la hg;omega
end
end Nw
namespace Nw
open PySem L2
open SL (ap srt)
theorem js{z:Str}{ss r:List Str}{ks:List Kx}(h:ks∈cC z ss r):ks.length=r.length:=by
 obtain⟨j,hj,rfl⟩:=aao.mp h;exact oZ (List.mem_range.mp hj)
theorem xY{z:Str}{ss:List Str}{n:Nat}{p:Row}(hp:p.2.length<=20){r:Rec}(h:r∈dY z ss n p):r.keys.length<=20/\r.key.2=p.1/\r.key.1∈(["whole","empty","begin","hold","last"]:List Str):=by
 unfold dY at h;rcases List.mem_cons.mp h with rfl|h
 ·exact⟨by show(aX p.2).length<=20;rw[dX];exact hp,rfl,(by decide:("last":Str)∈(["whole","empty","begin","hold","last"]:List Str))⟩
 ·obtain⟨ks,hk,rfl⟩:=aao.mp h;exact⟨by show ks.length<=20;rw[js hk];exact hp,rfl,(by decide:("hold":Str)∈(["whole","empty","begin","hold","last"]:List Str))⟩
theorem zq{z:Str}{ss:List Str}{n:Nat}{p:Row}(hp:p.2.length<=20){r:Rec}(h:r∈cz z ss n p):r.keys.length<=20/\r.key.2=p.1/\r.key.1∈(["whole","empty","begin","hold","last"]:List Str):=by
 unfold cz at h;rcases aak.mp h with h|h
 ·rcases List.mem_cons.mp h with rfl|h
  ·exact⟨by show(aI ss p.2).length<=20;rw[bY];exact hp,rfl,(by decide:("whole":Str)∈(["whole","empty","begin","hold","last"]:List Str))⟩
  ·rcases List.mem_cons.mp h with rfl|h
   ·exact⟨by show(aX p.2).length<=20;rw[dX];exact hp,rfl,(by decide:("empty":Str)∈(["whole","empty","begin","hold","last"]:List Str))⟩
   ·obtain⟨ks,hk,rfl⟩:=aao.mp h;exact⟨by show ks.length<=20;rw[js hk];exact hp,rfl,(by decide:("begin":Str)∈(["whole","empty","begin","hold","last"]:List Str))⟩
 ·obtain⟨j,hj,h⟩:=List.mem_flatMap.mp h;have hj:=List.mem_range.mp hj;unfold bw at h;rcases List.mem_cons.mp h with rfl|h
  ·refine⟨?_,rfl,(by decide:("hold":Str)∈(["whole","empty","begin","hold","last"]:List Str))⟩;show(aI ss (p.2.take j)++_::aI ss (p.2.drop (j+1))).length<=20;rw[aag,aau,bY,bY,aal,List.length_drop];omega
  ·rcases List.mem_cons.mp h with rfl|h
   ·refine⟨?_,rfl,(by decide:("last":Str)∈(["whole","empty","begin","hold","last"]:List Str))⟩;show(aI ss (p.2.take j)++_::aX (p.2.drop (j+1))).length<=20;rw[aag,aau,bY,dX,aal,List.length_drop];omega
   ·obtain⟨ks,hk,rfl⟩:=aao.mp h;refine⟨?_,rfl,(by decide:("hold":Str)∈(["whole","empty","begin","hold","last"]:List Str))⟩;show(aI ss (p.2.take j)++_::ks).length<=20;rw[aag,aau,bY,js hk,aal,List.length_drop];omega
theorem jI{α β:Type}(f:α->List β)(n:Nat):∀l:List α,(∀a∈l,(f a).length<=n)->(l.flatMap f).length<=n*l.length
 |[],_=>by simp
 |a::l,h=>by
  rw[List.flatMap_cons,aag,aau,Nat.mul_succ];have h1:=h a (aac ..);have h2:=jI f n l fun b hb=>h b (aad _ hb)
  omega
theorem jW{z:Str}{ss:List Str}{n:Nat}{p:Row}(hp:p.2.length<=20):(cz z ss n p).length<=500:=by
 unfold cz;rw[aag,aau,aau,aaa,cG];have:=jI (bw z ss n p) 22 (List.range p.2.length) fun j _=>by
  unfold bw;rw[aau,aau,aaa,cG,List.length_drop];omega
 rw[List.length_range] at this;omega
theorem pA{z:Str}{R:List Row}(hw:∀p∈R,p.2.length<=20)(m:Nat):(dZ z R m).length<=500*m:=by
 unfold dZ;have:=jI (fun j=>cz z (ao R) j (bL R j)) 500 (List.range m) fun j _=>jW (by
  unfold bL;rw[aat];cases e:R[j]? with
  |none=>exact Nat.zero_le _
  |some q=>exact hw q (aah e))
 rw[List.length_range] at this;exact this
def keysOf(R:List Row):List (Str×Str):=(["whole","empty","begin","hold","last"]:List Str).flatMap fun k=>R.map fun p=>(k,p.1)
theorem pB{z:Str}{R:List Row}{i:Nat}{p:Row}(hp:p∈R)(hw:∀p∈R,p.2.length<=20){r:Rec}(h:r∈bJ z R i p):r.keys.length<=20/\r.key∈keysOf R:=by
 have key:∀q∈R,r.keys.length<=20/\r.key.2=q.1/\r.key.1∈(["whole","empty","begin","hold","last"]:List Str)->r.keys.length<=20/\r.key∈keysOf R:=fun q hq ⟨h1,h2,h3⟩=>
  ⟨h1,List.mem_flatMap.mpr ⟨_,h3,aao.mpr ⟨q,hq,by rw[←h2]⟩⟩⟩
 rcases aak.mp h with h|h
 ·exact key p hp (xY (hw p hp) h)
 ·obtain⟨j,hj,h⟩:=List.mem_flatMap.mp h;have hj:=List.mem_range.mp hj;have e:bL R j=R[j]:=by unfold bL;rw[aat,aae hj];rfl
  rw[e] at h;have hm:=List.getElem_mem hj;exact key _ hm (zq (hw _ hm) h)
theorem rS(R:List Row):(keysOf R).length=5*R.length:=by
 unfold keysOf;simp;omega
theorem zr{H:Hp}{l q:Addr}{ks:List Kx}{vs:List V}{rs:List Rec}(hl:aS H l ks)(hq:H q=some (.lst vs))(hp:Paired (RecAt H) vs rs)(hne:vs≠[]):l≠q:=fun z=>by
 subst z;obtain⟨us,h1,h2⟩:=hl;rw[hq] at h1;cases h1;cases hp with
 |nil=>exact hne rfl
 |@cons v r _ _ a b=>
  cases h2 with
  |@cons _ k _ _ c d=>
   obtain⟨t,kt,l',e1,e2,_⟩:=a;cases k with
   |inl w=>rw[show v=.str w from c] at e1;cases e1
   |inr p=>
    obtain⟨t',e3,e4⟩:=c;rw[e1] at e3;cases e3;rw[e2] at e4;cases e4
theorem RecAt.w4{H:Hp}{q:Addr}{vs:List V}{rs:List Rec}(hq:H q=some (.lst vs))(hp:Paired (RecAt H) vs rs)(hne:vs≠[]){v:V}{r:Rec}(h:RecAt H v r):RecAt (hide q H) v r:=by
 obtain⟨t,kt,l,h1,h2,h3,h4⟩:=h;refine⟨t,kt,l,h1,?_,?_,h4.hide (zr h4 hq hp hne) hq⟩
 ·rw[hide_ne (fun z=>by rw[z,hq] at h2;cases h2)];exact h2
 ·rw[hide_ne (fun z=>by rw[z,hq] at h3;cases h3)];exact h3
theorem xZ{H H':Hp}{q:Addr}{rs:List Rec}(h:k9 H' q rs)(s:ab H H'):bD RecAt H q H' rs:=by
 obtain⟨vs,h1,h2⟩:=h;refine⟨vs,h1,?_,s⟩
 by_cases e:vs=[]
 ·subst e;cases h2
  exact .nil
 ·exact Paired.bT h2 fun _ _ z=>z.w4 h1 h2 e
theorem gi{α β:Type}{F:α->β->Prop}:∀{l1:List α} {k1:List β} {l2:List α} {k2:List β},Paired F l1 k1->Paired F l2 k2->Paired F (l1++l2) (k1++k2)
 |_,_,_,_,.nil,q=>q
 |_,_,_,_,.cons a r,q=>.cons a (gi r q)
theorem bD.app{H H1:Hp}{wl m:Addr}{ys rs:List Rec}{vs us:List V}(h:bD RecAt H wl H1 ys)(hn:H wl=none)(e:H1 wl=some (.lst vs))(hne:vs≠[])(em:H1 m=some (.lst us))(hm:Paired (RecAt H1) us rs):bD RecAt H wl (upd H1 wl (.lst (vs++us))) (ys++rs):=by
 obtain⟨_,⟨vs2,e2,hp2⟩⟩:=h.fin bE;rw[e] at e2;cases e2;obtain⟨vs',h1,h2,h3⟩:=h;rw[e] at h1;cases h1;refine⟨vs++us,aa,?_,h3.bK hn⟩;rw[iS];exact gi h2 (Paired.bT hm fun _ _ z=>z.w4 e hp2 hne)
abbrev sUs:Stmt:=top 36
theorem pC:aJ ["rows","number","word","recipes","other","best","goal"] ["rows","number","word"] (aw sUs):=⟨rfl,rfl,rfl,by decide +kernel,rfl,by decide +kernel,by decide +kernel⟩
def iB(R:List Row):Prop:=∃S:List Str,S.length<=3/\∀p∈R,p.1∈S
theorem fY{l:List Kx}(h:∀kx∈l,Spc kx=false):rQ l:=fun i j a b e1 _ s1 _=>by
 rw[h a (aah e1)] at s1;cases s1
theorem kn{a b:List Kx}{k:Kx}(ha:∀kx∈a,Spc kx=false)(hb:∀kx∈b,Spc kx=false):rQ (a++k::b):=fun i j x y e1 e2 s1 s2=>by
 rw[(l8 ha hb e1 s1).1,(l8 ha hb e2 s2).1]
theorem Kind.AF{z:Str}{R:List Row}{i:Nat}{p:Row}{r:Rec}(h:Kind z R i p r):rQ r.keys:=by
 cases h with
 |partL=>exact fY (d5 _)
 |partH _=>exact fY (fE _ _ _ _)
 |whole _=>exact fY (cH _ _)
 |empty _=>exact fY (d5 _)
 |begin_ _ _=>exact fY (fE _ _ _ _)
 |hh _ _=>exact kn (cH _ _) (cH _ _)
 |ll _ _=>exact kn (cH _ _) (d5 _)
 |hl _ _ _=>exact kn (cH _ _) (fE _ _ _ _)
theorem Wd.word{R:List Row}{es rest:List Str}{z:Str}(h:Wd R es rest z):¬z∈R.map (·.1):=by
 obtain⟨s,h1,⟨_,es',_,hb⟩|⟨h2,rfl⟩⟩:=h
 ·exact hb.sign.1
 ·exact h2
theorem Beh.isWord{R:List Row}{es:List Str}{x z:Str}(h:Beh R es x z):z=""\/¬z∈R.map (·.1):=by
 induction h with
 |fin=>exact .inl rfl
 |word _ _ hw=>exact .inr hw.word
 |up _ _ _ _ ih=>exact ih
theorem Use.word{R:List Row}{p:Row}{z:Str}(h:Use R p z)(hl:∀p∈R,p.1≠""):¬z∈ao R:=fun hz=>by
 have hz:=aU.mp hz;obtain⟨es,_,h|⟨_,h⟩⟩:=h
 ·exact h.word hz
 ·rcases h.isWord with e|e
  ·obtain⟨q,hq,e'⟩:=aao.mp hz;exact hl q hq (e'.trans e)
  ·exact e hz
structure dw(H:Hp)(R:List Row)(l:Str)(n:Nat)(z:Str)(x y:V):Prop where
 ex:∃(t:Tr) (q:Addr) (path:List Nat) (ps:List Tr) (a:Nat),Rep H x t.d/\y=.ref q/\H q=some (.lst (nats path))/\t.ok R (bW R)/\t.sz<=4000000/\fg t path=some (.n l n ps,a)/\(t.words++[("":Str)])[a]? =some z
def v8(TP:Addr):Sp:=fun vs H Q _=>∃(a:Addr) (n:Nat) (z:Str) (R:List Row) (p:Row),vs=[.ref a,.int n,.str z]/\bt H a R/\Good R/\Tight R/\iB R/\R[n]? =some p/\(∀p∈R,¬("":Str)∈p.2)/\(∀p∈R,p.1≠"")/\Use R p z/\cB TP iV tmQ H/\
 ∀t x y H',cP TP H H'->cB TP iV tmQ H'->H' t=some (.tup [.int n,x,y])->dw H' R p.1 n z x y->Q (.ref t) H'
section
variable {P:Program}{w:World}{K:PySem.W.Frag}{mg:Str->Option Value}{base:Heap}
theorem Ac{TP f:Addr}{fd:FuncData}(F:Fun K "use_shown" "use_shown" sUs f fd)(T:Txt mg)(C:Cons mg)(D1:Def P w K mg base "recipes_of_part" 3 ["rows","number","word"] rH)(D2:Def P w K mg base "recipes_of_row" 3 ["rows","number","word"] rJ)
  (D3:Def P w K mg base "cheapest_recipes" 2 ["recipes","price"] rM)(D4:Def P w K mg base "first_sort" 1 ["rows"] ia)(D5:Def P w K mg base "trees_made" 2 ["best"] (vW TP))(D6:Def P w K mg base "path_to_part" 1 ["best","goal"] rR) :
  be P w K mg base CX0 4 f fd ["rows","number","word"] (v8 TP):=by
 refine F.ok pC (fun vs H Q E h=>?_) (fun cdv A outer s H vs Q E hr h=>?_)
 ·obtain⟨a,n,z,R,p,rfl,_⟩:=h;rfl
 ·obtain⟨a,n,z,R,p,rfl,hR,hgood,htight,h3,hn,hne,hle,huse,hT,k⟩:=h;have hu:=cI hr;have hr1:bC 1 _:=hr.mono (by decide);have hr2:bC 2 _:=hr.mono (by decide);obtain⟨ul,hl,rl⟩:=C.last;obtain⟨uh,hh,rh⟩:=C.hold;obtain⟨ue,he,re⟩:=C.end_;refine⟨_,af (aq (i:=3) pC.nd rfl (Or.inl rfl) (aB D1 hr (by rfl) (ad (pv 0) (ad (pv 1) (ad (pv 2) ac)))))
   (b9 (bb PassesOwn.never rfl (gG (by rfl) T.rng (ad (au aV (by rfl) T.len PySem.boot_len (ad (pv 0) ac)) ac)) (az (i:=4) pC.nd rfl (Or.inl rfl))
    (ag (bv (bZ PySem.F.plainAttrs_list PySem.F.slot_list_extend PySem.F.type_list_extend dU (pv 3) (ad (aB D2 hr (by rfl) (ad (pv 0) (ad (pv 4) (ad (pv 2) ac)))) ac)))))
   (af (aq (i:=5) pC.nd rfl (Or.inl rfl) (aB D3 hr2 (by rfl) (ad (pv 3) (ad am ac))))
   (b9 (aq (i:=6) pC.nd rfl (Or.inl rfl) (aZ (ad (jZ (aL jx (pv 2) (bQ (by rfl) he re) (aY _)) (bQ (by rfl) hl rl) (bQ (by rfl) hh rh)) (ad (aB D4 hr1 (by rfl) (ad (pv 0) ac)) ac))))
   (ag (aQ (aZ (ad (pv 1) (ad (cq hu (aB D5 hr2 (by rfl) (ad (pv 5) ac)) (pv 6) (fun _ _=>rfl)) (ad (aB D6 hr1 (by rfl) (ad (pv 5) (ad (pv 6) ac))) ac))))))))),?_⟩
  have hsm:=hgood.small;have hpm:p∈R:=aah hn;obtain⟨rs,hrs,hp⟩:=id hR;have hlen:rs.length=R.length:=Paired.length hp;have hl7:=htight.len;refine⟨_,rfl,_,rfl,_,rfl,a,n,z,R,p,rfl,hR,hsm,hn,fun wl H1 s1 n1 hq1=>?_⟩;have hg1:=xZ hq1 s1;refine⟨fun σ H4=>∃o,σ=[some (.ref a),some (.int n),some (.str z),some (.ref wl),o,none,none]/\bD RecAt H wl H4 (bJ z R n p),?_,?_⟩
  ·refine⟨_,rfl,a,_,rfl,.inl (SqL.of (s1 _ _ hrs)),_,rfl,by omega,by omega,gH (n:=(rs.length:Int).toNat) (fun i σ H4=>∃o,σ=[some (.ref a),some (.int n),some (.str z),some (.ref wl),o,none,none]/\bD RecAt H wl H4 (dY z (ao R) n p++dZ z R i))
    ⟨_,rfl,by rw[show dZ z R 0=[] from rfl,List.append_nil];exact hg1⟩ ?_ ?_⟩
   ·rintro i σ H4 hi ⟨o,rfl,hg⟩;have hi':i<R.length:=by rw[Int.toNat_natCast] at hi;omega
    have hRi:R[i]? =some R[i]:=aae hi';have eN:bL R i=R[i]:=by unfold bL;rw[aat,hRi];rfl
    have s4:=(hg.fin bE).1;obtain⟨vs,hv,_⟩:=id hg;have hvl:=hg.len hv;have hpl:(dY z (ao R) n p).length=p.2.length+1:=by unfold dY;rw[aau,aaa,cG]
    refine⟨_,rfl,.inl ⟨rfl,_,SqL.of hv⟩,_,rfl,_,rfl,_,rfl,a,i,z,R,R[i],by rw[Int.zero_add];rfl,hR.mono s4,hsm,hRi,fun m H5 s5 n5 hm=>?_⟩;obtain⟨us,hus,hup⟩:=hm;have hv5:=s5 _ _ hv;have hul:us.length<=500:=by rw[Paired.length hup];exact jW (hsm.wid _ (List.getElem_mem hi'))
    have hml:=pA (z:=z) hsm.wid i;have hw20:=hsm.wid p hpm;rw[aag,hpl] at hvl;refine⟨wl,m,vs,us,rfl,rfl,hv5,hus,Nat.le_trans (m:=10000) (by omega) (by rw[PySem.sizeLine_eq];decide),_,rfl,?_⟩;rw[mW,eN,←List.append_assoc];exact(hg.on bE s5).app n1 hv5 (fun e=>by rw[e,List.length_nil] at hvl;omega) hus hup
   ·rintro σ H4 ⟨o,rfl,hg⟩;rw[Int.toNat_natCast,hlen] at hg;exact⟨o,rfl,hg⟩
  rintro σ H4 ⟨o,rfl,hg⟩;obtain⟨s4,hrecs⟩:=hg.fin bE;refine⟨_,rfl,wl,1,20,bJ z R n p,keysOf R,rfl,hrecs,fun r hr=>(pB hpm hsm.wid hr).1,fun r hr=>(pB hpm hsm.wid hr).2,by rw[rS];omega,fun d ks g H5 s5 n5 hB hnd h64 hok hcl=>?_⟩;have hzs:=huse.word hle;obtain⟨S,hS3,hSin⟩:=h3;have hcost:=fun{k c r} hg hk=>v7 (k:=k) (c:=c) (r:=r) hzs hn hS3 hSin hsm.wid hok hcl hg hk
  have hkind:(if z="" then ("last":Str) else "hold")="hold"\/(if z="" then ("last":Str) else "hold")="last":=by
   by_cases q:z=""
   ·rw[if_pos q];exact .inr rfl
   ·rw[if_neg q];exact .inl rfl
  have hkl:∀k c r,g k=some (c,r)->r.keys.length<=900:=fun k c r e=>Nat.le_trans (pB hpm hsm.wid (hok.own k c r e).1).1 (by decide)
  have hkn:=zn hcl hgood hpm hne huse;have s45:=s4.trans s5;obtain⟨p0,R0,rfl⟩:∃p0 R0,R=p0::R0:=by
   cases R with
   |nil=>cases hpm
   |cons p0 R0=>exact⟨p0,R0,rfl⟩
  refine⟨fun σ H6=>∃tg,σ=[some (.ref a),some (.int n),some (.str z),some (.ref wl),o,some (.ref d),some (.ref tg)]/\ab H5 H6/\H6 tg=some (.tup [.str (if z="" then "last" else "hold"),.str (bW (p0::R0))]),?_,?_⟩
  ·refine⟨_,rfl,rfl,_,rfl,?_⟩
   by_cases q:z=""
   ·rw[if_pos q,q,aan rfl];refine bF ⟨_,rfl,a,p0,R0,rfl,hR.mono s45,(show 2<=sizeLine by decide),fun tg htg=>⟨tg,rfl,ab.upd htg,aa⟩⟩
   ·have:decide (V.str z=V.str "")=false:=aai fun e=>q (by injection e)
    rw[if_neg q,this];refine aK ⟨_,rfl,a,p0,R0,rfl,hR.mono s45,(show 2<=sizeLine by decide),fun tg htg=>⟨tg,rfl,ab.upd htg,aa⟩⟩
  rintro σ H6 ⟨tg,rfl,s6,htg⟩;have s46:=s45.trans s6;have hB6:=hB.mono s6;have hT6:=hT.mono s46;refine⟨_,rfl,_,rfl,d,ks,g,_,rfl,hB6,hnd,h64,hkl,hok,hT6,fun t H7 kvs s7 hT7 ht7 _ hall=>?_⟩;have ntg:tg≠TP:=hT6.ne htg fun _ z=>by cases z
  have htg7:=s7 _ _ ntg htg;have hB7:=hB6.onT hT6 s7;obtain⟨v,u,hv,hut,hur⟩:=hall _ ((hB.mem _).mpr hkn);refine⟨_,rfl,t,v,rfl,by rw[←hv];exact bR.t (k:=bB _) ht7 htg7,_,rfl,_,rfl,d,tg,ks,g,_,_,rfl,hB7,h64,hkl,hok,(fun r hr=>(c6 hr).AF),htg7,hkn,fun q H8 path s8 n8 hq8 hpath=>?_⟩;refine⟨(show 3<=sizeLine by decide),fun tr htr=>?_⟩;have s9:=ab.upd (o:=HO.tup [.int n,v,.ref q]) htr;refine k tr v (.ref q) _ (fun b o n e=>s9 _ _ (s8 _ _ (s7 b o n (s46 _ _ e)))) (hT7.mono fun b o e=>s9 _ _ (s8 _ _ e)) aa ?_;obtain⟨ps,av,g1,g2,g3⟩:=hut.shown hok hpath hkind;obtain⟨cg,rg,hcg⟩:=hkn;refine⟨u,q,path,ps,av,(hur.mono s8).mono s9,rfl,s9 _ _ hq8,hut.ok hzs hn hok (fun s e=>by cases e),Nat.le_trans (hut.cost hok _ cg rg rfl hcg) (hcost hcg hkind),g1,?_⟩
  by_cases q:z=""
  ·have:=g3 (by show(if z="" then ("last":Str) else "hold")="last";rw[if_pos q]);rw[this,q,List.getElem?_append_right (Nat.le_refl _),Nat.sub_self];rfl
  ·have:=g2 (by show(if z="" then ("last":Str) else "hold")="hold";rw[if_neg q]);rw[List.getElem?_append_left (aab.mp this).1];exact this
end
end Nw
namespace Nw
open PySem L2
open SL (ap srt)
def v9(H:Hp)(v:V)(ss:List Str):Prop:=∃b,v=.ref b/\aA H b ss
theorem iC:ki v9:=fun _ _ _ _ s ⟨b,h1,h2⟩=>⟨b,h1,s _ _ h2⟩
def AG(H:Hp)(q:Addr)(L:List (List Str)):Prop:=∃vs,H q=some (.lst vs)/\Paired (v9 H) vs L
def uL(es:List Str)(fb fh:Tab)(p:Row):List Str:=srt (ap (srt (ap (cb es fb p.2))++if p.2.all (fun s=>decide (s∈es))=true then getL fh p.1 else []))
theorem Tight.AH{R:List Row}(S:Tight R){D:List Str}(nd:D.Nodup)(h:∀z∈D,z=""\/∃p∈R,z∈p.2):D.length<=12:=by
 obtain⟨U,hU,hm⟩:=S.few;have:=Gram.cw (m:=("":Str)::U) nd fun z hz=>by
  rcases h z hz with e|⟨p,hp,hz'⟩
  ·rw[e];exact aac ..
  ·exact aad _ (hm p hp z hz')
 rw[aau] at this;omega
theorem ko{f:Tab}{x:Str}{ys:List Str}(h:f.lookup x=some ys):getL f x=ys:=by unfold getL;rw[h];rfl
section
variable {R:List Row}{es:List Str}{fb fh:Tab}{p:Row}
theorem wa(hes:∀y,y∈es↔Gram.Made R (fun _=>False) y)(hkB:fb.map (·.1)=ao R)(hcB:∀e∈fb,Canon (gQ R e.1) e.2)(hkH:fh.map (·.1)=ao R)(hcH:∀e∈fh,Canon (Behind R e.1) e.2)(hp:p∈R):Canon (Use R p) (uL es fb fh p):=by
 refine⟨_,rfl,SL.ck _,fun z=>?_⟩;rw[SL.bO,aak,SL.cu,SL.bO,oR hkB (fun e he z=>(hcB e he).mem z),xX hes];obtain⟨ys,h1,h2⟩:=cA (f:=fh) (x:=p.1) (by rw[hkH];exact aU.mpr (aao.mpr ⟨p,hp,rfl⟩));have hb:z∈getL fh p.1↔Beh R es p.1 z:=by
  rw[ko h1,(hcH _ h2).mem z];exact kX hes
 by_cases q:p.2.all (fun s=>decide (s∈es))=true
 ·rw[if_pos q,hb];have:∀s∈p.2,s∈es:=fun s hs=>of_decide_eq_true (List.all_eq_true.mp q s hs)
  exact⟨fun h=>h.imp id fun h=>⟨this,h⟩,fun h=>h.imp id fun h=>h.2⟩
 ·rw[if_neg q];have:¬∀s∈p.2,s∈es:=fun h=>q (List.all_eq_true.mpr fun s hs=>aan (h s hs))
  exact⟨fun h=>h.elim .inl fun h=>(by cases h),fun h=>h.elim .inl fun h=>absurd h.1 this⟩
end
abbrev wc:Stmt:=top 23
theorem gj:aJ ["rows","empties","begins","behind","found","left","right","words"] ["rows"] (aw wc):=⟨rfl,rfl,rfl,by decide +kernel,rfl,by decide +kernel,by decide +kernel⟩
def rT:Sp:=fun vs H Q _=>∃(a:Addr) (R:List Row),vs=[.ref a]/\bt H a R/\Good R/\Tight R/\∀q (u:Row->List Str) H',ab H H'->H q=none->AG H' q (R.map u)->(∀p∈R,Canon (Use R p) (u p))->Q (.ref q) H'
section
variable {P:Program}{w:World}{K:PySem.W.Frag}{mg:Str->Option Value}{base:Heap}
theorem zt{f:Addr}{fd:FuncData}(F:Fun K "words_to_use_rows" "words_to_use_rows" wc f fd)(T:Txt mg)
  (D1:Def P w K mg base "empty_sorts" 4 ["rows"] ii)(D2:Def P w K mg base "words_to_begin" 5 ["rows"] nc)(D3:Def P w K mg base "words_behind" 6 ["rows"] rm)
  (D5:Def P w K mg base "words_to_begin_signs" 2 ["signs","empties","begins"] ni)(D6:Def P w K mg base "can_be_empty" 1 ["signs","empties"] ng):be P w K mg base CX0 7 f fd ["rows"] rT:=by
 refine F.ok gj (fun vs H Q E h=>?_) (fun cdv A outer s H vs Q E hr h=>?_)
 ·obtain⟨a,R,rfl,_⟩:=h;rfl
 ·obtain⟨a,R,rfl,hR,hg,ht,k⟩:=h;have hu:=cI hr;have hr5:bC 5 _:=hr.mono (by decide);have hr4:bC 4 _:=hr.mono (by decide);have hr2:bC 2 _:=hr.mono (by decide);have hr1:bC 1 _:=hr.mono (by decide);refine⟨_,af (aq (i:=1) gj.nd rfl (Or.inl rfl) (aB D1 hr4 (by rfl) (ad (pv 0) ac)))
   (af (aq (i:=2) gj.nd rfl (Or.inl rfl) (aB D2 hr5 (by rfl) (ad (pv 0) ac)))
   (af (aq (i:=3) gj.nd rfl (Or.inl rfl) (aB D3 hr (by rfl) (ad (pv 0) ac)))
   (af (aq (i:=4) gj.nd rfl (Or.inl rfl) (bx ac))
   (af (bb PassesOwn.never rfl (aO (pv 0)) (cT (n:=2) rfl (aN (az (i:=5) gj.nd rfl (Or.inl rfl)) (aN (az (i:=6) gj.nd rfl (Or.inl rfl)) cp)))
    (b9 (aq (i:=7) gj.nd rfl (Or.inl rfl) (aB D5 hr2 (by rfl) (ad (pv 6) (ad (pv 1) (ad (pv 2) ac)))))
    (b9 (a7 (ba (aB D6 hr1 (by rfl) (ad (pv 6) (ad (pv 1) ac))))
     (ag (aq (i:=7) gj.nd rfl (Or.inl rfl) (bN c8 (pv 7) (cq hu (pv 3) (pv 5) (fun _ _=>rfl)))))
     aT)
    (ag (bv (bZ PySem.F.plainAttrs_list PySem.F.slot_list_append PySem.F.type_list_append bf (pv 4) (ad
     (au (cR rfl) (by rfl) T.srt PyProof.Rows.boot_sorted (ad (dy (eO rfl) (by rfl) T.set (by decide +kernel) (ad (pv 7) ac)) ac)) ac)))))))
   (ag (aQ (pv 4))))))),?_⟩
  refine⟨_,rfl,a,R,rfl,hR,hg,fun qe ms H1 s1 n1 nd1 hm1 hS1=>?_⟩;generalize hes:srt ms=es at hS1;have hem:∀y,y∈es↔Gram.Made R (fun _=>False) y:=fun y=>by rw[←hes,SL.cu];exact hm1 y
  refine⟨_,rfl,a,R,rfl,hR.mono s1,hg,fun db fb Hb s2 nb hB hkB hcB=>?_⟩;have s12:=s1.trans s2;refine⟨_,rfl,a,R,rfl,hR.mono s12,hg,ht,fun dh fh Hh s3 nh hH hkH hcH=>?_⟩;have s13:=s12.trans s3;have hcB':∀e∈fb,∀z,z∈e.2↔gQ R e.1 z:=fun e he z=>(hcB e he).mem z
  have fb11:∀e∈fb,e.2.length<=11:=fun e he=>by
   obtain⟨D,h1,h2,h3⟩:=hcB e he;rw[h1,SL.d7];exact ht.lK h2 fun z hz=>by
    obtain⟨_,_,hb⟩:=(h3 z).mp hz;exact hb.sign.2
  have fh12:∀e∈fh,e.2.length<=12:=fun e he=>by
   obtain⟨D,h1,h2,h3⟩:=hcH e he;rw[h1,SL.d7];exact ht.AH h2 fun z hz=>by
    obtain⟨_,_,hb⟩:=(h3 z).mp hz;exact hb.sign
  refine⟨by decide,fun wl hwl=>?_⟩;have hwlH:H wl=none:=s13.free hwl;have hRh:=hR.mono s13;obtain⟨vs,hv,hp⟩:=id hRh;have hlen:vs.length=R.length:=Paired.length hp;have hEh:aA Hh qe es:=s3 _ _ (s2 _ _ hS1);have hBh:ev Hh db fb:=hB.mono s3;have l7:=ht.len;refine⟨_,rfl,a,rfl,⟨_,SqL.of (ab.upd hwl _ _ hv)⟩,bc (K:=K) (a:=a) (xs:=vs)
   (fun i σ H4=>∃o1 o2 o3,σ=[some (.ref a),some (.ref qe),some (.ref db),some (.ref dh),some (.ref wl),o1,o2,o3]/\bD v9 Hh wl H4 ((R.take i).map (uL es fb fh)))
   ⟨_,_,_,rfl,bD.zero hwl⟩ ?_ ?_ ?_⟩
  ·rintro i σ H4 _ ⟨_,_,_,_,hg4⟩;exact SqL.of ((hg4.fin iC).1 _ _ hv)
  ·rintro i x σ H4 hx ⟨o1,o2,o3,rfl,hg4⟩;obtain⟨p,t,c,hpi,rfl,htp,hc⟩:=cS hp hx;have hpm:p∈R:=aah hpi;have hil:i<R.length:=(aab.mp hpi).1;have s4:=(hg4.fin iC).1;have hc:Hh c=some (.lst (p.2.map V.str)):=hc;refine⟨t,_,rfl,SqT.of (s4 _ _ htp),rfl,_,_,rfl,_,_,rfl,rfl,?_⟩;have wd:∀{z:Str},z∈cb es fb p.2↔Wd R es p.2 z:=fun{z}=>oR hkB hcB'
   have cl11:(ap (cb es fb p.2)).length<=11:=ht.lK (SL.ck _) fun z hz=>by
    have:=wd.mp (SL.bO.mp hz);exact this.sign (l:=p.1) (r:=p.2) hpm fun _ h=>h
   refine⟨fun σ H5=>∃wq,σ=[some (.ref a),some (.ref qe),some (.ref db),some (.ref dh),some (.ref wl),some (.str p.1),some (.ref c),some (.ref wq)]/\ab H4 H5/\aA H5 wq (srt (ap (cb es fb p.2))),?_,?_⟩
   ·refine⟨_,rfl,_,rfl,_,rfl,c,qe,db,p.2,es,fb,rfl,s4 _ _ hc,s4 _ _ hEh,?_,by have:=ht.wid p hpm;omega,fun e he=>Nat.le_trans (fb11 e he) (by decide),?_,fun q H5 s5 n5 hq5=>⟨q,rfl,s5,hq5⟩⟩
    ·obtain⟨kvs,h1,h2⟩:=hBh.mono s4;exact⟨kvs,.inl h1,h2⟩
    ·exact⟨ap (cb es fb p.2),by omega,fun z hz=>SL.bO.mpr hz⟩
   rintro σ H5 ⟨wq,rfl,s5,hwq⟩;have s45:=s4.trans s5;refine⟨fun σ H6=>∃wq,σ=[some (.ref a),some (.ref qe),some (.ref db),some (.ref dh),some (.ref wl),some (.str p.1),some (.ref c),some (.ref wq)]/\ab H4 H6/\aA H6 wq (srt (ap (cb es fb p.2))++if p.2.all (fun s=>decide (s∈es))=true then getL fh p.1 else []),?_,?_⟩
   ·refine⟨_,rfl,_,rfl,c,qe,p.2,es,rfl,s45 _ _ hc,s45 _ _ hEh,by have:=ht.wid p hpm;omega,fun H6 s6=>?_⟩;refine⟨_,rfl,?_⟩;have hwq6:H6 wq=some (.lst ((srt (ap (cb es fb p.2))).map V.str)):=s6 _ _ hwq;cases p.2.all (fun s=>decide (s∈es)) with
    |false=>
     refine aK ⟨wq,rfl,s5.trans s6,?_⟩;rw[if_neg (by decide),List.append_nil];exact hwq6
    |true=>
     obtain⟨kvs,h1,h2⟩:=hH.mono (s45.trans s6);obtain⟨ys,e1,e2⟩:=cA (f:=fh) (x:=p.1) (by rw[hkH];exact aU.mpr (aao.mpr ⟨p,hpm,rfl⟩));rcases jC h2 p.1 with ⟨z1,_⟩|⟨ys',l,z1,z2,z3⟩
     ·rw[z1] at e1;cases e1
     ·rw[z1] at e1;cases e1;have z3:H6 l=some (.lst (ys.map V.str)):=z3;have hy12:=fh12 _ e2;refine bF ⟨_,rfl,_,rfl,_,rfl,dh,_,rfl,.inl ⟨kvs,Sum.inr p.1,.inl h1,rfl,z2.symm⟩,wq,l,_,_,rfl,rfl,hwq6,z3,?_,fun q hq=>⟨q,rfl,(s5.trans s6).trans (ab.upd hq),?_⟩⟩
      ·rw[aaa,aaa,SL.d7];have hy12:ys.length<=12:=hy12;exact cy (by omega)
      ·unfold aA;rw[aa,if_pos rfl,ko z1,aam]
   rintro σ H6 ⟨wq,rfl,s6,hwq⟩;generalize hL:(srt (ap (cb es fb p.2))++if p.2.all (fun s=>decide (s∈es))=true then getL fh p.1 else [])=L at hwq;have hLl:L.length<=23:=by
    rw[←hL,aag,SL.d7];have:(if p.2.all (fun s=>decide (s∈es))=true then getL fh p.1 else []).length<=12:=by
     split
     ·obtain⟨ys,e1,e2⟩:=cA (f:=fh) (x:=p.1) (by rw[hkH];exact aU.mpr (aao.mpr ⟨p,hpm,rfl⟩));rw[ko e1];exact fh12 _ e2
     ·exact Nat.zero_le _
    omega
   have hg6:=hg4.on iC s6;obtain⟨ws,hw6,_⟩:=id hg6;have hwsl:=hg6.len hw6;rw[aaa,aal] at hwsl;have hwq:H6 wq=some (.lst (L.map V.str)):=hwq;have hol:=SL.fS L;refine⟨_,rfl,.inl ⟨rfl,_,SqL.of hw6⟩,_,rfl,wq,L,rfl,SqL.of hwq,by unfold scanBound;omega,fun q1 hq1=>⟨q1,ap L,rfl,.inr (.inl aa),by omega,fun q2 hq2=>?_⟩⟩;have s7:=(ab.upd (o:=dt w q1 (ap L)) hq1).trans (ab.upd (o:=HO.lst ((srt (ap L)).map V.str)) hq2);have hg7:=hg6.on iC s7;have hw7:=s7 _ _ hw6;refine⟨wl,ws,_,rfl,rfl,hw7,aD (by omega),_,_,_,rfl,?_⟩;rw[aap,hpi,aam];refine hg7.add hwl hw7 ⟨q2,rfl,?_⟩;have n2:q2≠wl:=fun z=>by
    have:=ab.upd (o:=dt w q1 (ap L)) hq1 _ _ hw6;have hq2:upd H6 q1 (dt w q1 (ap L)) q2=none:=hq2;rw[←z,hq2] at this;cases this
   unfold aA uL;rw[hide_ne n2,aa,hL]
  ·rintro σ H4 ⟨o1,o2,o3,rfl,hg4⟩;rw[hlen,aas] at hg4;obtain⟨s4,hls⟩:=hg4.fin iC;exact⟨_,rfl,k wl _ H4 (s13.trans s4) hwlH hls fun p hp=>wa hem hkB hcB hkH hcH hp⟩
end
end Nw
namespace Nw
open PySem L2
open SL (ap srt InP)
def cX(R:List Row)(u:Row->List Str)(i:Nat)(k:Str×Str):List Nat:=(List.range i).filter fun n=>decide ((bL R n).1=k.1/\k.2∈u (bL R n))
def d6(R:List Row)(u:Row->List Str)(i j:Nat)(k:Str×Str):List Nat:=cX R u i k++if (bL R i).1=k.1/\k.2∈(u (bL R i)).take j then [i] else []
theorem ug(R:List Row)(u:Row->List Str)(k:Str×Str):cX R u 0 k=[]:=rfl
theorem ui(R:List Row)(u:Row->List Str)(i:Nat):d6 R u i 0=cX R u i:=by
 funext k
 unfold d6;rw[List.take_zero,if_neg (fun h=>by cases h.2),List.append_nil]
theorem we(R:List Row)(u:Row->List Str)(i:Nat):d6 R u i (u (bL R i)).length=cX R u (i+1):=by
 funext k
 unfold d6 cX;rw[aas,List.range_succ,List.filter_append]
 congr 1
 by_cases q:(bL R i).1=k.1/\k.2∈u (bL R i)
 ·rw[if_pos q,List.filter_cons_of_pos (by exact aan q),List.filter_nil]
 ·rw[if_neg q,List.filter_cons_of_neg (by rw[aai q];exact Bool.false_ne_true),List.filter_nil]
theorem x6{l:List Str}(nd:l.Nodup){j:Nat}{z:Str}(h:l[j]? =some z):¬z∈l.take j:=fun hz=>by
 obtain⟨i,hi⟩:=List.mem_iff_getElem?.mp hz;have hlt:i<j:=by
  have:=(aab.mp hi).1;rw[aal] at this;omega
 rw[List.getElem?_take_of_lt hlt] at hi;obtain⟨h1,e1⟩:=aab.mp hi;obtain⟨h2,e2⟩:=aab.mp h;have:=(List.getElem_inj nd).mp (e1.trans e2.symm);omega
theorem uk{R:List Row}{u:Row->List Str}{i j:Nat}{z:Str}(nd:(u (bL R i)).Nodup)(h:(u (bL R i))[j]? =some z):d6 R u i (j+1) ((bL R i).1,z)=d6 R u i j ((bL R i).1,z)++[i]:=by
 unfold d6;rw[if_pos ⟨rfl,by rw[aap,h];exact aar _ (aaj.mpr rfl)⟩,if_neg (fun q=>x6 nd h q.2),List.append_nil]
theorem x8{R:List Row}{u:Row->List Str}{i j:Nat}{z:Str}(h:(u (bL R i))[j]? =some z){k:Str×Str}(hk:k≠((bL R i).1,z)):d6 R u i (j+1) k=d6 R u i j k:=by
 unfold d6;have:((bL R i).1=k.1/\k.2∈(u (bL R i)).take (j+1))↔((bL R i).1=k.1/\k.2∈(u (bL R i)).take j):=by
  rw[aap,h];refine⟨fun⟨h1,h2⟩=>⟨h1,?_⟩,fun⟨h1,h2⟩=>⟨h1,List.mem_append_left _ h2⟩⟩;rcases aak.mp h2 with h2|h2
  ·exact h2
  ·have:k.2=z:=by simpa using h2
   exact absurd (Prod.ext h1.symm this) hk
 by_cases q:(bL R i).1=k.1/\k.2∈(u (bL R i)).take j
 ·rw[if_pos q,if_pos (this.mpr q)]
 ·rw[if_neg q,if_neg fun z=>q (this.mp z)]
def nV(ns:List Nat):List V:=ns.map fun n=>V.int (n:Nat)
def kvN(ks:List (Str×Str))(la:Str×Str->Addr):List (List Key×V):=ks.map fun k=>(bB k,V.ref (la k))
theorem iD(la:Str×Str->Addr)(k:Str×Str):∀ks,bj (kvN ks la) (bB k)=if k∈ks then some (.ref (la k)) else none
 |[]=>rfl
 |j::ks=>by
  show bj ((bB j,V.ref (la j))::kvN ks la) (bB k)=_
  by_cases q:j=k
  ·subst q;rw[bU rfl,if_pos (aac ..)]
  ·rw[bV (fun z=>q (gE z)),iD la k ks]
   by_cases m:k∈ks
   ·rw[if_pos m,if_pos (aad _ m)]
   ·rw[if_neg m,if_neg (fun z=>(List.mem_cons.mp z).elim (fun e=>q e.symm) m)]
structure dc(H0 H:Hp)(d:Addr)(ks:List (Str×Str))(acc:Str×Str->List Nat)(la:Str×Str->Addr):Prop where
 at_:H d=some (.dT (kvN ks la))
 ls:∀k∈ks,H (la k)=some (.lst (nV (acc k)))
 inj:∀k∈ks,∀k'∈ks,la k=la k'->k=k'
 nd:ks.Nodup
 fd:H0 d=none
 fl:∀k∈ks,H0 (la k)=none
 sm:ab H0 H
 mem:∀k,k∈ks↔acc k≠[]
section
variable {H0 H H1:Hp}{d:Addr}{ks:List (Str×Str)}{acc acc':Str×Str->List Nat}{la:Str×Str->Addr}{k:Str×Str}{n:Nat}
theorem dc.on(N:dc H0 H d ks acc la)(s:ab H H1):dc H0 H1 d ks acc la:=⟨s _ _ N.at_,fun k hk=>s _ _ (N.ls k hk),N.inj,N.nd,N.fd,N.fl,N.sm.trans s,N.mem⟩
theorem dc.zero(h:H0 d=none)(e:H d=some (.dT []))(s:ab H0 H)(ha:∀k,acc k=[]):dc H0 H d [] acc la:=⟨e,fun k hk=>(by cases hk),fun k hk=>(by cases hk),List.nodup_nil,h,fun k hk=>(by cases hk),s,fun k=>⟨fun z=>(by cases z),fun z=>absurd (ha k) z⟩⟩
theorem dc.w6(N:dc H0 H d ks acc la)(hk:k∈ks):la k≠d:=fun z=>by
 have:=N.ls k hk;rw[z,N.at_] at this;cases this
theorem dc.old(N:dc H0 H d ks acc la)(hk:k∈ks)(h1:acc' k=acc k++[n])(h2:∀j,j≠k->acc' j=acc j):dc H0 (upd H (la k) (.lst (nV (acc k)++[.int (n:Nat)]))) d ks acc' la:=by
 refine⟨by rw[aj (Ne.symm (N.w6 hk))];exact N.at_,fun j hj=>?_,N.inj,N.nd,N.fd,N.fl,N.sm.bK (N.fl k hk),fun j=>?_⟩
 ·by_cases q:j=k
  ·subst q;rw[aa,h1];unfold nV;rw[aam];rfl
  ·rw[aj (fun z=>q (N.inj j hj k hk z)),h2 j q];exact N.ls j hj
 ·by_cases q:j=k
  ·subst q;rw[h1];exact⟨fun _ z=>by simp at z,fun _=>hk⟩
  ·rw[h2 j q];exact N.mem j
theorem dc.new{q:Addr}(N:dc H0 H d ks acc la)(hk:¬k∈ks)(hq:H q=none){H1:Hp}(s:ab H H1)(hq1:H1 q=some (.lst []))(h1:acc' k=acc k++[n])(h2:∀j,j≠k->acc' j=acc j) :
  dc H0 (upd (upd H1 d (.dT (putK (kvN ks la) (bB k) (.ref q)))) q (.lst ([]++[.int (n:Nat)]))) d (ks++[k]) acc' (fun j=>if j=k then q else la j):=by
 have hqd:q≠d:=fun z=>by rw[z,N.at_] at hq;cases hq
 have hq0:H0 q=none:=N.sm.free hq;have hak:acc k=[]:=by
  cases e:acc k with
  |nil=>rfl
  |cons a b=>exact absurd ((N.mem k).mpr (by rw[e];exact fun z=>by cases z)) hk
 have ne:∀j∈ks,la j≠q:=fun j hj z=>by
  have:=N.ls j hj;rw[z,hq] at this;cases this
 have nk:∀j∈ks,j≠k:=fun j hj z=>hk (z▸hj)
 refine⟨?_,fun j hj=>?_,fun i hi j hj (e:(if i=k then q else la i)=(if j=k then q else la j))=>?_,fq N.nd hk,N.fd,fun j hj=>?_,?_,fun j=>?_⟩
 ·rw[aj (Ne.symm hqd),aa,gw _ (by rw[iD,if_neg hk])];unfold kvN;rw[aam,List.map_singleton];show some (HO.dT (_++[(bB k,V.ref q)]))=some (HO.dT (_++[(bB k,V.ref (if k=k then q else la k))]));rw[if_pos rfl];have:ks.map (fun j=>(bB j,V.ref (la j)))=ks.map fun j=>(bB j,V.ref (if j=k then q else la j)):=List.map_congr_left fun j hj=>by rw[if_neg (nk j hj)]
  rw[this]
 ·rcases aak.mp hj with hj|hj
  ·show upd _ _ _ (if j=k then q else la j)=_;rw[if_neg (nk j hj),aj (ne j hj),aj (N.w6 hj),h2 j (nk j hj)];exact s _ _ (N.ls j hj)
  ·show upd _ _ _ (if j=k then q else la j)=_;rw[aaj.mp hj,if_pos rfl,aa,h1,hak];rfl
 ·rcases aak.mp hi with hi|hi <;> rcases aak.mp hj with hj|hj
  ·rw[if_neg (nk i hi),if_neg (nk j hj)] at e;exact N.inj i hi j hj e
  ·rw[if_neg (nk i hi),aaj.mp hj,if_pos rfl] at e;exact absurd e (ne i hi)
  ·rw[if_neg (nk j hj),aaj.mp hi,if_pos rfl] at e;exact absurd e.symm (ne j hj)
  ·rw[aaj.mp hi,aaj.mp hj]
 ·rcases aak.mp hj with hj|hj
  ·show H0 (if j=k then q else la j)=_;rw[if_neg (nk j hj)];exact N.fl j hj
  ·show H0 (if j=k then q else la j)=_;rw[aaj.mp hj,if_pos rfl];exact hq0
 ·exact((N.sm.trans s).bK N.fd).bK hq0
 ·by_cases q':j=k
  ·subst q';rw[h1];exact⟨fun _ z=>by simp at z,fun _=>aar _ (aaj.mpr rfl)⟩
  ·rw[h2 j q',aak,aaj];exact⟨fun z=>(N.mem j).mp (z.elim id fun z=>absurd z q'),fun z=>.inl ((N.mem j).mpr z)⟩
end
abbrev Us:=(Str×Str)×List Nat
def nv(H:Hp)(v:V)(e:Us):Prop:=∃t l,v=.ref t/\H t=some (.tup [.str e.1.1,.str e.1.2,.ref l])/\H l=some (.lst (nV e.2))
theorem gl:ki nv:=fun _ _ _ _ s ⟨t,l,h1,h2,h3⟩=>⟨t,l,h1,s _ _ h2,s _ _ h3⟩
def uo(H:Hp)(q:Addr)(U:List Us):Prop:=∃vs,H q=some (.lst vs)/\Paired (nv H) vs U
structure lm(R:List Row)(U:List Us):Prop where
 inp:InP (U.map (·.1))
 nd:(U.map (·.1)).Nodup
 mem:∀s z,(s,z)∈U.map (·.1)↔∃p∈R,p.1=s/\Use R p z
 asc:∀e∈U,e.2.Pairwise (· < ·)
 num:∀e∈U,∀n,n∈e.2↔∃p,R[n]? =some p/\p.1=e.1.1/\Use R p e.1.2
theorem uq{R:List Row}{u:Row->List Str}(hu:∀p∈R,Canon (Use R p) (u p)){ks zs:List (Str×Str)}(hmem:∀k,k∈ks↔cX R u R.length k≠[])(hnd:ks.Nodup)(hp:zs.Perm ks)(hin:InP zs):lm R (zs.map fun k=>(k,cX R u R.length k)):=by
 have em:(zs.map fun k=>((k,cX R u R.length k):Us)).map (·.1)=zs:=by rw[List.map_map];exact List.map_id _
 have rn:∀n p,R[n]? =some p->bL R n=p:=fun n p h=>by unfold bL;rw[aat,h];rfl
 have key:∀k n,n∈cX R u R.length k↔∃p,R[n]? =some p/\p.1=k.1/\Use R p k.2:=fun k n=>by
  unfold cX;rw[List.mem_filter,List.mem_range];constructor
  ·rintro⟨hn,hd⟩;have hd:=of_decide_eq_true hd;have e:=rn n _ (aae hn);rw[e] at hd;exact⟨_,aae hn,hd.1,((hu _ (List.getElem_mem hn)).mem _).mp hd.2⟩
  ·rintro⟨p,hp,h1,h2⟩;refine⟨(aab.mp hp).1,aan ?_⟩;rw[rn n p hp];exact⟨h1,((hu _ (aah hp)).mem _).mpr h2⟩
 refine⟨by rw[em];exact hin,by rw[em];exact hp.nodup_iff.mpr hnd,fun s z=>?_,fun e he=>?_,fun e he n=>?_⟩
 ·rw[em,hp.mem_iff,hmem];constructor
  ·intro h;cases q:cX R u R.length (s,z) with
   |nil=>exact absurd q h
   |cons n l=>
    obtain⟨p,h1,h2,h3⟩:=(key (s,z) n).mp (by rw[q];exact aac ..);exact⟨p,aah h1,h2,h3⟩
  ·rintro⟨p,hp,h1,h2⟩ q;obtain⟨n,hn⟩:=List.mem_iff_getElem?.mp hp;have:=(key (s,z) n).mpr ⟨p,hn,h1,h2⟩;rw[q] at this;cases this
 ·obtain⟨k,_,rfl⟩:=aao.mp he;exact List.Pairwise.filter _ List.pairwise_lt_range
 ·obtain⟨k,_,rfl⟩:=aao.mp he;exact key k n
end Nw
namespace Nw
open PySem L2
open SL (ap srt InP)
theorem Use.sign{R:List Row}{p:Row}{z:Str}(h:Use R p z)(hp:p∈R):z=""\/∃p∈R,z∈p.2:=by
 obtain⟨es,_,h|⟨_,h⟩⟩:=h
 ·exact .inr (h.sign (l:=p.1) (r:=p.2) hp fun _ h=>h)
 ·exact h.sign
theorem pD{R:List Row}(h3:iB R)(ht:Tight R){ks:List (Str×Str)}(nd:ks.Nodup)(h:∀k∈ks,∃p∈R,p.1=k.1/\Use R p k.2):ks.length<=36:=by
 obtain⟨S,hS,hm⟩:=h3;obtain⟨U,hU,hu⟩:=ht.few;have h1:=Gram.cw (m:=S.flatMap fun s=>(("":Str)::U).map fun z=>(s,z)) nd fun k hk=>by
  obtain⟨p,hp,e,hz⟩:=h k hk;refine List.mem_flatMap.mpr ⟨k.1,e▸hm p hp,aao.mpr ⟨k.2,?_,rfl⟩⟩;rcases hz.sign hp with e|⟨q,hq,hz⟩
  ·rw[e];exact aac ..
  ·exact aad _ (hu q hq _ hz)
 have h2:=jI (fun s:Str=>(("":Str)::U).map fun z=>(s,z)) 12 S fun s _=>by rw[aaa,aau];omega
 omega
theorem ma{R:List Row}{n:Nat}{p:Row}(h:R[n]? =some p):bL R n=p:=by unfold bL;rw[aat,h];rfl
theorem pE{R:List Row}{u:Row->List Str}(hu:∀p∈R,Canon (Use R p) (u p)){i:Nat}(hi:i<=R.length){k:Str×Str}(h:cX R u i k≠[]):∃p∈R,p.1=k.1/\Use R p k.2:=by
 cases q:cX R u i k with
 |nil=>exact absurd q h
 |cons n l=>
  have hn:n∈cX R u i k:=by rw[q];exact aac ..
  unfold cX at hn;obtain⟨h1,h2⟩:=List.mem_filter.mp hn;have h1:=List.mem_range.mp h1;have h2:=of_decide_eq_true h2;have hl:n<R.length:=by omega
  have e:=ma (aae hl);rw[e] at h2;exact⟨R[n],List.getElem_mem hl,h2.1,((hu _ (List.getElem_mem hl)).mem _).mp h2.2⟩
theorem wf{R:List Row}{u:Row->List Str}(hu:∀p∈R,Canon (Use R p) (u p)){i j:Nat}(hi:i<R.length){k:Str×Str}(h:d6 R u i j k≠[]):∃p∈R,p.1=k.1/\Use R p k.2:=by
 by_cases q:(bL R i).1=k.1/\k.2∈(u (bL R i)).take j
 ·have e:=ma (aae hi);rw[e] at q;exact⟨R[i],List.getElem_mem hi,q.1,((hu _ (List.getElem_mem hi)).mem _).mp (List.mem_of_mem_take q.2)⟩
 ·unfold d6 at h;rw[if_neg q,List.append_nil] at h;exact pE hu (Nat.le_of_lt hi) h
theorem pF(R:List Row)(u:Row->List Str)(i:Nat)(k:Str×Str):(cX R u i k).length<=i:=by
 unfold cX;have:=List.length_filter_le (fun n=>decide ((bL R n).1=k.1/\k.2∈u (bL R n))) (List.range i);rw[List.length_range] at this;exact this
theorem wg(R:List Row)(u:Row->List Str)(i j:Nat)(k:Str×Str):(d6 R u i j k).length<=i+1:=by
 unfold d6;have:=pF R u i k;rw[aag];split
 ·rw[aav];omega
 ·rw[List.length_nil];omega
theorem pG(ns:List Nat):(nV ns).length=ns.length:=aaa ..
theorem wj(ks:List (Str×Str))(la:Str×Str->Addr):(kvN ks la).map (fun kv=>b7 kv.1)=ks:=by
 unfold kvN;rw[List.map_map];exact List.map_id _
theorem x9{n:Nat}{M N:List Str}{x:Str}(h1:M[n]? =some x)(h2:N[2]? =some x):∀(j i:Nat),([none,none,some n]:List (Option Nat))[j]? =some (some i)->M[i]? =some x/\N[j]? =some x:=by
 intro j i h;rcases j with _|_|_|j
 ·cases h
 ·cases h
 ·cases h;exact⟨h1,h2⟩
 ·cases h
theorem mN{H H1:Hp}{wl:Addr}(h:H wl=none)(s:ab H H1):ab H (hide wl H1):=fun b o e=>by
 rw[hide_ne (fun z=>by rw[z,h] at e;cases e)];exact s b o e
theorem _root_.L2.qv{X:Cx}{K:PySem.W.Frag}{pos:Pos}{es:List Expr}{k:Nat}{t:TGs}{n:Nat}(hK:X.K=K)(hc:X.calm=true)(h:PGs X es t)
  (hn:(assignEach es X.env).length=n:=by rfl)(hst:(assignEach es X.env).findIdx? (·.1)=none:=by rfl):PG X (.Tuple es k pos) (yn K n t):=hK▸cT hc h hn hst
abbrev wk:Stmt:=top 43
theorem lp:aJ ["rows","numbers","number","words","word"] ["rows"] (aw wk):=⟨rfl,rfl,rfl,by decide +kernel,rfl,by decide +kernel,by decide +kernel⟩
def rU:Sp:=fun vs H Q _=>∃(a:Addr) (R:List Row),vs=[.ref a]/\bt H a R/\Good R/\Tight R/\iB R/\∀q U H',ab H H'->uo H' q U->lm R U->U.length<=36->(∀e∈U,e.2.length<=7)->Q (.ref q) H'
section
variable {P:Program}{w:World}{K:PySem.W.Frag}{mg:Str->Option Value}{base:Heap}
theorem zu{f:Addr}{fd:FuncData}(F:Fun K "uses_in_order" "uses_in_order" wk f fd)(T:Txt mg)(hEn:mg "enumerate"=none)(D1:Def P w K mg base "words_to_use_rows" 7 ["rows"] rT):be P w K mg base CX0 8 f fd ["rows"] rU:=by
 refine F.ok lp (fun vs H Q E h=>?_) (fun cdv A outer s H vs Q E hr h=>?_)
 ·obtain⟨a,R,rfl,_⟩:=h;rfl
 ·obtain⟨a,R,rfl,hR,hg,ht,h3,k⟩:=h;have hu:=cI hr;refine⟨_,af (aq (i:=1) lp.nd rfl (Or.inr rfl) j4)
   (b9 (bb PassesOwn.never rfl (ir (by rfl) hEn (ad (aB D1 hr (by rfl) (ad (pv 0) ac)) ac)) (cT (n:=2) rfl (aN (az (i:=2) lp.nd rfl (Or.inl rfl)) (aN (az (i:=3) lp.nd rfl (Or.inl rfl)) cp)))
    (ag (bb PassesOwn.never rfl (aO (pv 3)) (az (i:=4) lp.nd rfl (Or.inl rfl))
     (ag (bv (bZ PySem.F.plainAttrs_list PySem.F.slot_list_append PySem.F.type_list_append bf
      (xT hu (pv 1) (aZ (ad (aC aF (aC bn (pv 0) (pv 2) (fun _ _=>rfl)) am (fun _ _=>rfl)) (ad (pv 4) ac))) (bx ac) ⟨rfl,rfl,rfl,rfl⟩) (ad (pv 2) ac)))))))
   (ag (aQ (dj (bq.one (N:=["sort","word","numbers"]) (sel:=[none,none,some 1]) "numbers" (by rfl) (by rfl) (by rfl) (by decide) (by decide) (by rfl) (by rfl) ⟨_,rfl,rfl⟩ (by rfl) (x9 rfl rfl)) rfl
    (aO (au (oW rfl) (by rfl) T.srt PyProof.Rows.boot_sorted (ad (pv 1) ac)))
    (fun s₃ H₃ fp=>qv (K:=K) (n:=2) rfl rfl (aN (az (i:=0) (show(["sort","word","numbers"]:List Str).Nodup by decide) rfl (Or.inl rfl)) (aN (az (i:=1) (show(["sort","word","numbers"]:List Str).Nodup by decide) rfl (Or.inl rfl)) cp)))
    (fun s₃ H₃ fp=>di)
    (fun s₃ H₃ fp=>aZ (ad (pv 0) (ad (pv 1) (ad (cq (X:=cD _ _ _ _ _ _ _) hu (pv 2) (aZ (ad (pv 0) (ad (pv 1) ac))) (fun _ _=>rfl)) ac)))))))),?_⟩
  intro d hd;have s0:=ab.upd (o:=HO.dT []) hd;have hR1:=hR.mono s0;refine⟨fun σ H4=>∃ks la u o1 o2 o3 H0,σ=[some (.ref a),some (.ref d),o1,o2,o3]/\(∀p∈R,Canon (Use R p) (u p))/\dc H0 H4 d ks (cX R u R.length) la/\ab H H0,?_,?_⟩
  ·refine⟨_,rfl,a,R,rfl,hR1,hg,ht,fun q u H1 s1 n1 hls hcan=>?_⟩;obtain⟨vs,hv,hp⟩:=hls;have hd1:H1 d=some (.dT []):=s1 _ _ aa;have hqd:q≠d:=fun z=>by rw[z,aa] at n1;cases n1
   have hlen:vs.length=R.length:=by rw[Paired.length hp,aaa]
   have sB:ab (hide d H1) H1:=ab.fW;have sHB:ab H (hide d H1):=mN hd (s0.trans s1);have hvB:hide d H1 q=some (.lst vs):=by rw[hide_ne hqd];exact hv
   have l7:=ht.len;refine⟨q,rfl,⟨_,SqL.of hv⟩,gD (K:=K) (a:=q) (xs:=vs)
    (fun i σ H4=>∃ks la o1 o2 o3,σ=[some (.ref a),some (.ref d),o1,o2,o3]/\dc (hide d H1) H4 d ks (cX R u i) la)
    ⟨[],fun _=>0,_,_,_,rfl,dc.zero (by unfold hide;rw[if_pos rfl]) hd1 sB fun k=>ug R u k⟩ ?_ ?_ ?_⟩
   ·rintro i σ H4 _ ⟨_,_,_,_,_,_,N⟩;exact SqL.of (N.sm _ _ hvB)
   ·rintro i x t σ H4 hx ⟨ks,la,o1,o2,o3,rfl,N⟩ htt;obtain⟨ss,hss,b,rfl,hb⟩:=aW hp i x hx;rw[aax] at hss;obtain⟨p,hpi,rfl⟩:∃p,R[i]? =some p/\u p=ss:=by
     cases e:R[i]? with
     |none=>rw[e] at hss;cases hss
     |some p=>
      rw[e] at hss;exact⟨p,rfl,Option.some.inj hss⟩
    have hpm:p∈R:=aah hpi;have hil:i<R.length:=(aab.mp hpi).1;have eN:=ma hpi;have hb:H1 b=some (.lst ((u p).map V.str)):=hb;have hbB:hide d H1 b=some (.lst ((u p).map V.str)):=by rw[hide_ne (fun z=>by rw[z,hd1] at hb;cases hb)];exact hb
    have und:(u p).Nodup:=by
     obtain⟨D,e1,e2,_⟩:=hcan p hpm;rw[e1];exact SL.gJ e2
    have N1:=N.on (ab.upd (o:=HO.tup [.int i,.ref b]) htt);refine⟨t,_,rfl,SqT.of aa,rfl,_,_,rfl,_,_,rfl,rfl,?_⟩;generalize upd H4 t (.tup [.int i,.ref b])=H5 at N1;refine⟨_,rfl,b,rfl,⟨_,SqL.of (N1.sm _ _ hbB)⟩,bc (K:=K) (a:=b) (xs:=(u p).map V.str)
     (fun j σ H6=>∃ks la o3,σ=[some (.ref a),some (.ref d),some (.int i),some (.ref b),o3]/\dc (hide d H1) H6 d ks (d6 R u i j) la)
     ⟨ks,la,_,rfl,by rw[ui];exact N1⟩ ?_ ?_ ?_⟩
    ·rintro j σ H6 _ ⟨_,_,_,_,N6⟩;exact SqL.of (N6.sm _ _ hbB)
    ·rintro j x σ H6 hx ⟨ks,la,o3,rfl,N6⟩;obtain⟨z,hz,rfl⟩:=bS hx;have hz':(u (bL R i))[j]? =some z:=by rw[eN];exact hz
     have hkl:ks.length<=36:=pD h3 ht N6.nd fun k hk=>wf hcan hil ((N6.mem k).mp hk)
     have e1:=uk (R:=R) (u:=u) (i:=i) (j:=j) (z:=z) (by rw[eN];exact und) hz';rw[eN] at e1;have e2:∀k,k≠(p.1,z)->d6 R u i (j+1) k=d6 R u i j k:=fun k hk=>x8 hz' (by rw[eN];exact hk)
     obtain⟨rs,hrs,hrp⟩:=id (hR.mono sHB);obtain⟨v0,hv0⟩:∃v0,rs[i]? =some v0:=⟨_,aae (by rw[Paired.length hrp];exact hil)⟩;obtain⟨p',tt,c,hp',rfl,htt,hc⟩:=cS hrp hv0;rw[hpi] at hp';cases hp';refine⟨_,rfl,d,rfl,.inr ⟨_,.inl N6.at_⟩,_,rfl,_,rfl,a,_,(i:Int),_,rfl,rfl,SqL.of (N6.sm _ _ hrs),ak hv0,tt,_,0,_,rfl,rfl,SqT.of (N6.sm _ _ htt),ak (j:=0) rfl,_,rfl,(show 2<=sizeLine by decide),fun t2 ht2=>⟨by decide,fun q2 hq2=>?_⟩⟩;have s7:=ab.upd (o:=HO.tup [.str p.1,.str z]) ht2;have s8:=ab.upd (o:=HO.lst []) hq2;have N7:=N6.on s7;have N8:=N7.on s8;have hl8:=wg R u i j (p.1,z);refine⟨_,bB (p.1,z),t2,N8.at_,rfl,s8 _ _ aa,by unfold kvN;rw[aaa];exact aD (by omega),fun v hv=>?_,fun hn=>?_⟩
     ·rw[iD] at hv
      by_cases m:(p.1,z)∈ks
      ·rw[if_pos m] at hv;cases hv
       exact⟨.inl ⟨rfl,_,SqL.of (N8.ls _ m)⟩,_,rfl,la (p.1,z),_,_,rfl,rfl,N8.ls _ m,by rw[pG];exact aD (by omega),ks,la,_,rfl,N8.old m e1 e2⟩
      ·rw[if_neg m] at hv;cases hv
     ·rw[iD] at hn
      by_cases m:(p.1,z)∈ks
      ·rw[if_pos m] at hn;cases hn
      ·have hq2':q2≠d:=fun q=>by rw[q,N7.at_] at hq2;cases hq2
       have at9:∀o,upd (upd (upd H6 t2 (.tup [.str p.1,.str z])) q2 (.lst [])) d o q2=some (.lst []):=fun o=>by rw[aj hq2',aa]
       exact⟨.inl ⟨rfl,_,SqL.of (at9 _)⟩,_,rfl,q2,_,_,rfl,rfl,at9 _,by decide,ks++[(p.1,z)],_,_,rfl,N7.new m hq2 s8 aa e1 e2⟩
    ·rintro σ H6 ⟨ks,la,o3,rfl,N6⟩;have e:=we R u i;rw[eN] at e;rw[aaa,e] at N6;exact⟨ks,la,_,_,_,rfl,N6⟩
   ·rintro σ H4 ⟨ks,la,o1,o2,o3,rfl,N⟩;rw[hlen] at N;exact⟨ks,la,u,_,_,_,_,rfl,hcan,N,sHB⟩
  rintro σ H4 ⟨ks,la,u,o1,o2,o3,H0,rfl,hcan,N,sH⟩;have hkl:ks.length<=36:=pD h3 ht N.nd fun k hk=>pE hcan (Nat.le_refl _) ((N.mem k).mp hk)
  have hkvl:(kvN ks la).length=ks.length:=aaa ..;refine⟨_,rfl,d,kvN ks la,rfl,N.at_,by omega,fun kv hkv=>?_,fun q zs hq hperm hin hat=>?_⟩
  ·obtain⟨k',_,rfl⟩:=aao.mp hkv;exact⟨k'.1,k'.2,rfl⟩
  rw[wj] at hperm;have sq:=ab.upd (o:=HO.lst (zs.map fun z=>V.ref z.2)) hq;have N5:=N.on sq;have hzl:zs.length=ks.length:=by
   have:=hperm.length_eq;rw[aaa] at this;exact this
  generalize hH5:upd H4 q (.lst (zs.map fun z=>V.ref z.2))=H5 at sq N5;have hq5:H5 q=some (.lst (zs.map fun z=>V.ref z.2)):=by rw[←hH5];exact aa
  refine⟨q,rfl,⟨_,SqL.of hq5⟩,fun D hD=>gK (K:=K) (xs:=zs.map fun z=>V.ref z.2) (fun j τ H6=>(∃o1 o2,τ=[o1,o2,some (.ref d)])/\bD nv H5 D H6 ((zs.take j).map fun z=>(z.1,cX R u R.length z.1))) ⟨⟨_,_,rfl⟩,bD.zero hD⟩ ?_ ?_ ?_⟩
  ·rintro j τ H6 ⟨_,hg6⟩;exact SqL.of ((hg6.fin gl).1 _ _ hq5)
  ·rintro j x τ H6 hx ⟨⟨o1,o2,rfl⟩,hg6⟩;rw[aax] at hx;cases hz:zs[j]? with
   |none=>rw[hz] at hx;cases hx
   |some z=>
    rw[hz] at hx;have hx:some (V.ref z.2)=some x:=hx;injection hx with hx;subst hx;have hzm:z∈zs:=aah hz;have hjl:j<zs.length:=(aab.mp hz).1;have s6:=(hg6.fin gl).1;have hzk:z.1∈ks:=hperm.mem_iff.mp (aao.mpr ⟨z,hzm,rfl⟩);have hz6:H6 z.2=some (.tup [.str z.1.1,.str z.1.2]):=s6 _ _ (sq _ _ (hat z hzm));refine⟨z.2,_,rfl,SqT.of hz6,rfl,_,_,rfl,_,_,rfl,rfl,?_⟩;dsimp only[m7];rw[if_pos rfl];refine⟨_,rfl,_,rfl,_,rfl,_,rfl,_,rfl,(show 2<=sizeLine by decide),fun t1 ht1=>?_⟩;have s7:=ab.upd (o:=HO.tup [.str z.1.1,.str z.1.2]) ht1;have N7:=(N5.on s6).on s7;refine⟨d,.ref (la z.1),rfl,?_,(show 3<=sizeLine by decide),fun t2 ht2=>?_⟩
    ·have:=bR.t (k:=bB z.1) N7.at_ aa;rw[iD,if_pos hzk] at this;exact this
    ·have s8:=ab.upd (o:=HO.tup [.str z.1.1,.str z.1.2,.ref (la z.1)]) ht2;have hg8:=hg6.on gl (s7.trans s8);obtain⟨ys,hy,_⟩:=id hg8;have hyl:=hg8.len hy;rw[aaa,aal] at hyl;refine⟨ys,hy,aD (by omega),⟨_,_,rfl⟩,?_⟩;rw[aap,hz,aam];refine hg8.add hD hy ⟨t2,la z.1,rfl,?_,?_⟩
     ·have:t2≠D:=fun e=>by
       obtain⟨y6,hy6,_⟩:=id hg6;rw[e,s7 _ _ hy6] at ht2;cases ht2
      rw[hide_ne this];exact aa
     ·exact mN hD ((s6.trans s7).trans s8) _ _ (N5.ls _ hzk)
  ·rintro τ H6 ⟨_,hg6⟩;rw[aaa,aas] at hg6;obtain⟨s6,hus⟩:=hg6.fin gl;have eU:(zs.map fun z=>((z.1,cX R u R.length z.1):Us))=(zs.map (·.1)).map fun k=>(k,cX R u R.length k):=by rw[List.map_map];rfl
   refine k D _ H6 (((sH.trans N.sm).trans sq).trans s6) hus ?_ (by rw[aaa];omega) fun e he=>?_
   ·rw[eU];exact uq hcan N.mem N.nd hperm hin
   ·obtain⟨z,_,rfl⟩:=aao.mp he;have:=pF R u R.length z.1;have:=ht.len;show(cX R u R.length z.1).length<=7;omega
end
end Nw
namespace Nw
open PySem L2
open SL (ap srt InP)
def jJ(U:List Us):Option Us:=U.find? fun e=>decide (1<e.2.length)
abbrev sFc:Stmt:=top 44
theorem zv:aJ ["uses","use"] ["uses"] (aw sFc):=⟨rfl,rfl,rfl,by decide +kernel,rfl,by decide +kernel,by decide +kernel⟩
def wm:Sp:=fun vs H Q _=>∃(a:Addr) (U:List Us),vs=[.ref a]/\uo H a U/\(jJ U=none->Q .non H)/\∀e v,jJ U=some e->nv H v e->Q v H
theorem mO{α:Type}{q:α->Bool}:∀{l:List α} {i:Nat} {x:α},(∀y∈l.take i,q y=false)->l[i]? =some x->q x=true->l.find? q=some x
 |[],i,x,_,h,_=>by simp at h
 |y::l,0,x,_,h,hx=>by
  simp at h;subst h;rw[List.find?_cons_of_pos hx]
 |y::l,i+1,x,hn,h,hx=>by
  have hy:q y=false:=hn y (by simp);rw[List.find?_cons_of_neg (by rw[hy];exact Bool.false_ne_true)];exact mO (i:=i) (fun z hz=>hn z (by rw[List.take_succ_cons];exact aad _ hz)) (by simpa using h) hx
section
variable {P:Program}{w:World}{K:PySem.W.Frag}{mg:Str->Option Value}{base:Heap}
theorem Ad{f:Addr}{fd:FuncData}(F:Fun K "first_clash" "first_clash" sFc f fd)(T:Txt mg):be P w K mg base CX0 1 f fd ["uses"] wm:=by
 refine F.ok zv (fun vs H Q E h=>?_) (fun cdv A outer s H vs Q E hr h=>?_)
 ·obtain⟨a,U,rfl,_⟩:=h;rfl
 ·obtain⟨a,U,rfl,hU,k1,k2⟩:=h;refine⟨_,af (bb PassesOwn.never rfl (aO (pv 0)) (az (i:=1) zv.nd rfl (Or.inl rfl))
    (ag (a7 (aL wN (au aV (by rfl) T.len PySem.boot_len (ad (aC aF (pv 1) am (fun _ _=>rfl)) ac)) am (aY _)) (ag (aQ (pv 1))) aT)))
   (ag (aQ gs)),?_⟩
  obtain⟨vs,hv,hp⟩:=hU;have hlen:vs.length=U.length:=Paired.length hp;refine⟨_,rfl,a,rfl,⟨_,SqL.of hv⟩,bc (K:=K) (a:=a) (xs:=vs)
   (fun i σ H1=>H1=H/\(∃o,σ=[some (.ref a),o])/\∀e∈U.take i,decide (1<e.2.length)=false) ⟨rfl,⟨_,rfl⟩,fun e he=>by cases he⟩ ?_ ?_ ?_⟩
  ·rintro i σ H1 _ ⟨rfl,_⟩;exact SqL.of hv
  ·rintro i x σ H1 hx ⟨rfl,⟨o,rfl⟩,hall⟩;obtain⟨e,he,hu⟩:=aW hp i x hx;obtain⟨t,l,rfl,ht,hl⟩:=id hu;refine⟨_,rfl,t,_,2,_,rfl,rfl,SqT.of ht,ak (j:=2) rfl,l,_,rfl,.inl (SqL.of hl),_,_,rfl,rfl,_,rfl,?_⟩
   by_cases q:1<e.2.length
   ·have:decide ((1:Int)<((nV e.2).length:Int))=true:=aan (by rw[pG];omega);show if decide ((1:Int)<((nV e.2).length:Int))=true then _ else _
    rw[this];exact bF ⟨_,rfl,k2 e _ (mO hall he (aan q)) hu⟩
   ·have:decide ((1:Int)<((nV e.2).length:Int))=false:=aai (by rw[pG];omega);show if decide ((1:Int)<((nV e.2).length:Int))=true then _ else _
    rw[this];refine aK ⟨rfl,⟨_,rfl⟩,fun y hy=>?_⟩;rw[aap,he] at hy;rcases aak.mp hy with hy|hy
    ·exact hall y hy
    ·have:y=e:=by simpa using hy
     rw[this];exact aai q
  ·rintro σ H1 ⟨rfl,⟨o,rfl⟩,hall⟩;rw[hlen,aas] at hall;refine k1 (List.find?_eq_none.mpr fun e he=>?_);rw[hall e he];exact Bool.false_ne_true
end
abbrev wn:Stmt:=top 42
theorem lq:aJ ["rows","uses","clash","word","numbers"] ["rows"] (aw wn):=⟨rfl,rfl,rfl,by decide +kernel,rfl,by decide +kernel,by decide +kernel⟩
def zw(e:Us):D:=.tup [.str e.1.1,.str e.1.2,.int ((e.2.headD 0:Nat):Int)]
def lw(U:List Us):D:=.tup [.str "table",.lst (U.map zw)]
def Told(H:Hp)(R:List Row)(U:List Us)(v:V):Prop:=(jJ U=none/\Rep H v (lw U))\/∃(e:Us) (n1 n2:Nat) (rest:List Nat) (t x y:Addr) (x1 x2 y1 y2:V),jJ U=some e/\e.2=n1::n2::rest/\v=.ref t/\
 H t=some (.tup [.str "clash",.str e.1.1,.str e.1.2,.ref x,.ref y])/\H x=some (.tup [.int (n1:Nat),x1,x2])/\H y=some (.tup [.int (n2:Nat),y1,y2])/\dw H R e.1.1 n1 e.1.2 x1 x2/\dw H R e.1.1 n2 e.1.2 y1 y2
def rV(TP:Addr):Sp:=fun vs H Q _=>∃(a:Addr) (R:List Row),vs=[.ref a]/\bt H a R/\Good R/\Tight R/\iB R/\(∀p∈R,¬("":Str)∈p.2)/\(∀p∈R,p.1≠"")/\cB TP iV tmQ H/\
 ∀v U H',lm R U->U.length<=36->(∀e∈U,e.2.length<=7)->cP TP H H'->cB TP iV tmQ H'->Told H' R U v->Q v H'
theorem Rep.onT{H H':Hp}{T:Addr}{pos:Pos}{q:Str}(h:cB T pos q H)(s:cP T H H'){v:V}{d:D}(z:Rep H v d):Rep H' v d:=
 z.keep (fun b xs e=>s b _ (h.ne e fun _ z=>by cases z) e) (fun b xs e=>s b _ (h.ne e fun _ z=>by cases z) e)
theorem dw.onT{H H':Hp}{T:Addr}{pos:Pos}{q:Str}(h:cB T pos q H)(s:cP T H H'){R:List Row}{l z:Str}{n:Nat}{x y:V}(w:dw H R l n z x y):dw H' R l n z x y:=by
 obtain⟨t,b,path,ps,a,h1,h2,h3,h4⟩:=w.ex;exact⟨t,b,path,ps,a,h1.onT h s,h2,s b _ (h.ne h3 fun _ z=>by cases z) h3,h4⟩
theorem dw.mono{H H':Hp}(s:ab H H'){R:List Row}{l z:Str}{n:Nat}{x y:V}(w:dw H R l n z x y):dw H' R l n z x y:=by
 obtain⟨t,b,path,ps,a,h1,h2,h3,h4⟩:=w.ex;exact⟨t,b,path,ps,a,h1.mono s,h2,s _ _ h3,h4⟩
def wo(H:Hp)(v:V)(e:Us):Prop:=∃t,v=.ref t/\H t=some (.tup [.str e.1.1,.str e.1.2,.int ((e.2.headD 0:Nat):Int)])
theorem iE:ki wo:=fun _ _ _ _ s ⟨t,h1,h2⟩=>⟨t,h1,s _ _ h2⟩
theorem zx{H:Hp}{v:V}{e:Us}(h:wo H v e):Rep H v (zw e):=by
 obtain⟨t,rfl,ht⟩:=h;refine .tup ht rfl fun i x d e1 e2=>?_
 rcases i with _|_|_|i
 ·cases e1;cases e2;exact .str _
 ·cases e1;cases e2;exact .str _
 ·cases e1;cases e2;exact .int _
 ·cases e1
section
variable {P:Program}{w:World}{K:PySem.W.Frag}{mg:Str->Option Value}{base:Heap}
theorem zy{TP f:Addr}{fd:FuncData}(F:Fun K "table_of" "table_of" wn f fd)(D1:Def P w K mg base "uses_in_order" 8 ["rows"] rU)(D2:Def P w K mg base "first_clash" 1 ["uses"] wm)(D3:Def P w K mg base "use_shown" 4 ["rows","number","word"] (v8 TP)) :
  be P w K mg base CX0 9 f fd ["rows"] (rV TP):=by
 refine F.ok lq (fun vs H Q E h=>?_) (fun cdv A outer s H vs Q E hr h=>?_)
 ·obtain⟨a,R,rfl,_⟩:=h;rfl
 ·obtain⟨a,R,rfl,hR,hg,ht,h3,hne,hle,hT,k⟩:=h;have hr4:bC 4 _:=hr.mono (by decide);have hr1:bC 1 _:=hr.mono (by decide);refine⟨_,af (aq (i:=1) lq.nd rfl (Or.inl rfl) (aB D1 hr (by rfl) (ad (pv 0) ac)))
   (af (aq (i:=2) lq.nd rfl (Or.inl rfl) (aB D2 hr1 (by rfl) (ad (pv 1) ac)))
   (af (a7 (aL sJ (pv 2) gs (aY _))
    (ag (aQ (aZ (ad fN (ad (dj (bq.none (N:=["sort","word","numbers"]) (sel:=[none,none,none]) (by rfl) (by rfl) (by rfl) (by decide) (by decide) (by rfl) (by decide)) rfl (aO (pv 1))
     (fun s₃ H₃ fp=>qv (K:=K) (n:=3) rfl rfl (aN (az (i:=0) (show(["sort","word","numbers"]:List Str).Nodup by decide) rfl (Or.inl rfl)) (aN (az (i:=1) (show(["sort","word","numbers"]:List Str).Nodup by decide) rfl (Or.inl rfl)) (aN (az (i:=2) (show(["sort","word","numbers"]:List Str).Nodup by decide) rfl (Or.inl rfl)) cp))))
     (fun s₃ H₃ fp=>di)
     (fun s₃ H₃ fp=>aZ (ad (pv 0) (ad (pv 1) (ad (aC (r:=eZ K) bn (pv 2) am (fun _ _=>rfl)) ac))))) ac)))))
    aT)
   (af (aq (i:=3) lq.nd rfl (Or.inl rfl) (aC aF (pv 2) am (fun _ _=>rfl)))
   (af (aq (i:=4) lq.nd rfl (Or.inl rfl) (aC aF (pv 2) am (fun _ _=>rfl)))
   (ag (aQ (aZ (ad fN (ad (aC aF (pv 2) am (fun _ _=>rfl)) (ad (pv 3) (ad (aB D3 hr4 (by rfl) (ad (pv 0) (ad (aC bn (pv 4) am (fun _ _=>rfl)) (ad (pv 3) ac))))
    (ad (aB D3 hr4 (by rfl) (ad (pv 0) (ad (aC bn (pv 4) am (fun _ _=>rfl)) (ad (pv 3) ac)))) ac)))))))))))),?_⟩
  refine⟨_,rfl,a,R,rfl,hR,hg,ht,h3,fun q U H1 s1 hU hUI hU36 hU7=>?_⟩;obtain⟨vs,hv,hp⟩:=id hU;have hlen:vs.length=U.length:=Paired.length hp;refine⟨_,rfl,q,U,rfl,hU,fun hn=>?_,fun e v hs hu=>?_⟩
  ·refine⟨_,rfl,rfl,_,rfl,bF ?_⟩;refine⟨_,rfl,q,rfl,⟨_,SqL.of hv⟩,fun D hD=>gK (K:=K) (xs:=vs) (fun j τ H6=>(∃o1 o2 o3,τ=[o1,o2,o3])/\bD wo H1 D H6 (U.take j)) ⟨⟨_,_,_,rfl⟩,bD.zero hD⟩ ?_ ?_ ?_⟩
   ·rintro j τ H6 ⟨_,hg6⟩;exact SqL.of ((hg6.fin iE).1 _ _ hv)
   ·rintro j x τ H6 hx ⟨⟨o1,o2,o3,rfl⟩,hg6⟩;obtain⟨e,he,t,l,rfl,ht',hl⟩:=aW hp j x hx;have hem:e∈U:=aah he;have s6:=(hg6.fin iE).1;have hjl:j<U.length:=(aab.mp he).1;obtain⟨n0,ns,hns⟩:∃n0 ns,e.2=n0::ns:=by
     cases q:e.2 with
     |nil=>
      exfalso;obtain⟨p,hp',h1,h2⟩:=(hUI.mem e.1.1 e.1.2).mp (aao.mpr ⟨e,hem,rfl⟩);obtain⟨n,hn'⟩:=List.mem_iff_getElem?.mp hp';have:=(hUI.num e hem n).mpr ⟨p,hn',h1,h2⟩;rw[q] at this;cases this
     |cons a b=>exact⟨a,b,rfl⟩
    refine⟨t,_,rfl,SqT.of (s6 _ _ ht'),rfl,_,_,rfl,_,_,rfl,_,_,rfl,rfl,?_⟩;dsimp only[m7];rw[if_pos rfl];have hl0:(nV e.2)[0]? =some (.int (n0:Nat)):=by rw[hns];rfl
    refine⟨_,rfl,_,rfl,_,rfl,l,_,0,_,rfl,rfl,SqL.of (s6 _ _ hl),ak (j:=0) hl0,(show 3<=sizeLine by decide),fun t2 ht2=>?_⟩;have s8:=ab.upd (o:=HO.tup [.str e.1.1,.str e.1.2,.int (n0:Nat)]) ht2;have hg8:=hg6.on iE s8;obtain⟨ys,hy,_⟩:=id hg8;have hyl:=hg8.len hy;rw[aal] at hyl;refine⟨ys,hy,aD (by omega),⟨_,_,_,rfl⟩,?_⟩;rw[aap,he];refine hg8.add hD hy ⟨t2,rfl,?_⟩;have:t2≠D:=fun e=>by
     obtain⟨y6,hy6,_⟩:=id hg6;rw[e,hy6] at ht2;cases ht2
    rw[hide_ne this,aa,hns];rfl
   ·rintro τ H6 ⟨_,hg6⟩;rw[hlen,aas] at hg6;obtain⟨s6,ws,hw,hwp⟩:=hg6.fin iE;refine⟨(show 2<=sizeLine by decide),fun t2 ht2=>?_⟩;have s8:=ab.upd (o:=HO.tup [.str "table",.ref D]) ht2;have iP:=(s1.trans s6).trans s8;refine k _ U _ hUI hU36 hU7 iP.z8 (hT.mono iP) (.inl ⟨hn,.tup aa rfl fun i x d e1 e2=>?_⟩);rcases i with _|_|i
    ·cases e1;cases e2;exact .str _
    ·cases e1;cases e2
     refine .lst (s8 _ _ hw) (by rw[aaa];exact Paired.length hwp) fun i x d e1 e2=>?_
     obtain⟨e,he,hr⟩:=aW hwp i x e1;rw[aax,he] at e2;cases e2
     exact zx (iE _ _ _ _ s8 hr)
    ·cases e1
  ·obtain⟨t,l,rfl,ht',hl⟩:=id hu;have hem:e∈U:=List.mem_of_find?_eq_some hs;have hlt:1<e.2.length:=of_decide_eq_true (List.find?_some (p:=fun e:Us=>decide (1<e.2.length)) hs);obtain⟨n1,n2,rest,hns⟩:∃n1 n2 rest,e.2=n1::n2::rest:=by
    match q:e.2 with
    |[]=>rw[q] at hlt;simp at hlt
    |[a]=>rw[q] at hlt;simp at hlt
    |a::b::r=>exact⟨a,b,r,rfl⟩
   have hl1:(nV e.2)[0]? =some (.int (n1:Nat)):=by rw[hns];rfl
   have hl2:(nV e.2)[1]? =some (.int (n2:Nat)):=by rw[hns];rfl
   obtain⟨p1,hp1,e1,u1⟩:=(hUI.num e hem n1).mp (by rw[hns];exact aac ..);obtain⟨p2,hp2,e2,u2⟩:=(hUI.num e hem n2).mp (by rw[hns];exact aad _ (aac ..));refine⟨_,rfl,rfl,_,rfl,aK ?_⟩;refine⟨_,rfl,t,_,1,_,rfl,rfl,SqT.of ht',ak (j:=1) rfl,?_⟩;refine⟨_,rfl,t,_,2,_,rfl,rfl,SqT.of ht',ak (j:=2) rfl,?_⟩;have hT1:=hT.mono s1;refine⟨_,rfl,t,_,0,_,rfl,rfl,SqT.of ht',ak (j:=0) rfl,_,rfl,_,rfl,_,rfl,l,_,0,_,rfl,rfl,SqL.of hl,ak (j:=0) hl1,_,rfl,a,n1,e.1.2,R,p1,rfl,hR.mono s1,hg,ht,h3,hp1,hne,hle,u1,hT1,fun t1 x1 x2 H7 s7 hT7 ht1 sh1=>?_⟩;have hl7:=s7 _ _ (hT1.ne hl fun _ z=>by cases z) hl;have hR7:=pi hT1 s7 (hR.mono s1);refine⟨_,rfl,_,rfl,l,_,1,_,rfl,rfl,SqL.of hl7,ak (j:=1) hl2,_,rfl,a,n2,e.1.2,R,p2,rfl,hR7,hg,ht,h3,hp2,hne,hle,u2,hT7,fun t2 y1 y2 H8 s8 hT8 ht2 sh2=>?_⟩;refine⟨(show 5<=sizeLine by decide),fun t3 ht3=>?_⟩;have s9:=ab.upd (o:=HO.tup [.str "clash",.str e.1.1,.str e.1.2,.ref t1,.ref t2]) ht3;refine k _ U _ hUI hU36 hU7 (fun b o n z=>s9 _ _ (s8 b o n (s7 b o n (s1 _ _ z)))) (hT8.mono s9) (.inr ⟨e,n1,n2,rest,t3,t1,t2,x1,x2,y1,y2,hs,hns,rfl,aa,s9 _ _ (s8 _ _ (hT7.ne ht1 fun _ z=>by cases z) ht1),s9 _ _ ht2,(e1▸(sh1.onT hT7 s8).mono s9),(e2▸sh2.mono s9)⟩)
end
end Nw
namespace Nw
open PySem L2
open SL (ap srt InP)
abbrev sAt:Stmt:=top 47
theorem AI:aJ ["_law_script","_law_k"] ["_law_script","_law_k"] (aw sAt):=⟨rfl,rfl,rfl,by decide +kernel,rfl,by decide +kernel,by decide +kernel⟩
def wp(K:PySem.W.Frag):Sp:=fun vs H Q _=>∃(a:Addr) (ns:List Int) (k:Nat),vs=[.ref a,.int (k:Nat)]/\SqL K H a (ns.map V.int)/\∀c,Q (.int c) H
section
variable {P:Program}{w:World}{K:PySem.W.Frag}{mg:Str->Option Value}{base:Heap}
theorem Ae{f:Addr}{fd:FuncData}(F:Fun K "_law_at" "_law_at" sAt f fd)(T:Txt mg):be P w K mg base CX0 1 f fd ["_law_script","_law_k"] (wp K):=by
 refine F.ok AI (fun vs H Q E h=>?_) (fun cdv A outer s H vs Q E hr h=>?_)
 ·obtain⟨a,ns,k,rfl,_⟩:=h;rfl
 ·obtain⟨a,ns,n,rfl,hS,k⟩:=h;refine⟨_,af (a7 (aL jy (pv 1) (au aV (by rfl) T.len PySem.boot_len (ad (pv 0) ac)) (aY _)) (ag (aQ (aC bn (pv 0) (pv 1) (fun _ _=>rfl)))) aT)
   (ag (aQ am)),?_⟩
  refine⟨_,rfl,_,rfl,a,_,rfl,.inl hS,_,_,rfl,rfl,_,rfl,?_⟩;show if decide (((n:Nat):Int)<((ns.map V.int).length:Int))=true then _ else _
  by_cases q:n<ns.length
  ·rw[aan (by rw[aaa];omega)];exact bF ⟨_,rfl,_,rfl,a,_,(n:Int),_,rfl,rfl,hS,ak (ints_get q),k _⟩
  ·rw[aai (by rw[aaa];omega)];exact aK (k 0)
end
end Nw
namespace L2
open PySem PySem.W PySem.Spec PyProof.Rows
def qx(K:PySem.W.Frag):List V->Hp->VK->Prop:=fun xs H Q=>∃p ys,xs=[.ref p]/\(SqL K H p ys\/SqT K H p ys)/\∀l,H l=none->Q (.ref l) (upd H l (.lst ys))
theorem pS{X:Cx}:dQ X (.type "list") (qx X.K):=nN
section
variable {sel:List (Option Nat)}{g:TG}{tc:TT}{te:TE}{σ:St}{H:Hp}{Q:VK}
end
end L2
namespace Nw
open PySem L2
open SL (ap srt)
structure eJ(H:Hp)(D:Addr)(us:List V)(R:List Row):Prop where
 at_:H D=some (.lst us)
 pr:Paired (df H) us R
 ne:∀v∈us,∃t b l,v=.ref t/\H t=some (.tup [.str l,.ref b])/\b≠D
theorem eJ.nil{H:Hp}{D:Addr}:eJ (upd H D (.lst [])) D [] []:=⟨aa,.nil,fun v hv=>(by cases hv)⟩
theorem eJ.mono{H H':Hp}{D:Addr}{us:List V}{R:List Row}(h:eJ H D us R)(s:ab H H'):eJ H' D us R:=
 ⟨s _ _ h.at_,Paired.bT h.pr fun _ _ q=>q.mono s,fun v hv=>let ⟨t,b,l,e1,e2,e3⟩:=h.ne v hv;⟨t,b,l,e1,s _ _ e2,e3⟩⟩
theorem eJ.snoc{H:Hp}{D t b:Addr}{us:List V}{R:List Row}{l:Str}{ss:List Str}(h:eJ H D us R)(ht:H t=some (.tup [.str l,.ref b]))(hb:aA H b ss)(hn:b≠D):eJ (upd H D (.lst (us++[.ref t]))) D (us++[.ref t]) (R++[(l,ss)]):=by
 have nt:∀{t':Addr} {xs:List V},H t'=some (.tup xs)->t'≠D:=fun{t' xs} e z=>by rw[z,h.at_] at e;cases e
 refine⟨aa,cm (rc h.pr fun v r hm ⟨t',b',q1,q2,q3⟩=>⟨t',b',q1,?_,?_⟩) ⟨t,b,rfl,?_,?_⟩,fun v hv=>?_⟩
 ·rw[aj (nt ht)];exact ht
 ·unfold aA;rw[aj hn];exact hb
 ·rcases aak.mp hv with z|z
  ·obtain⟨t',b',l',e1,e2,e3⟩:=h.ne v z;exact⟨t',b',l',e1,by rw[aj (nt e2)];exact e2,e3⟩
  ·rw[aaj.mp z];exact⟨t,b,l,rfl,by rw[aj (nt ht)];exact ht,hn⟩
 ·rw[aj (nt q2)];exact q2
 ·obtain⟨t2,b2,l2,e1,e2,e3⟩:=h.ne v hm;rw[q1] at e1;cases e1;rw[q2] at e2;cases e2;unfold aA;rw[aj e3];exact q3
theorem eJ.rows{H:Hp}{D:Addr}{us:List V}{R:List Row}(h:eJ H D us R):bt H D R:=⟨us,h.at_,h.pr⟩
theorem ww(ns:List Int)(j k:Nat):∃ms:List Int,de (ns.map V.int) (some (j:Int)) (some (k:Int))=ms.map V.int/\ms.length<=k - j:=by
 refine⟨(ns.drop (min j ns.length)).take (min k ns.length - min j ns.length),?_,?_⟩
 ·unfold de;rw[HT.gn,HT.gn,aaa,List.map_take,List.map_drop]
 ·rw[aal];omega
theorem wy(ns:List Int)(k:Nat):∃ms:List Int,de (ns.map V.int) none (some (k:Int))=ms.map V.int/\ms.length<=k:=by
 refine⟨ns.take (min k ns.length),?_,?_⟩
 ·unfold de;rw[HT.iH,HT.gn,aaa,List.drop_zero,Nat.sub_zero,List.map_take]
 ·rw[aal];omega
theorem wz{R:List Row}(h:Drawn 4 R)(f:Ren):Tight (R.map (bM f)):=by
 obtain⟨more,rfl,hm⟩:=h.sh;obtain⟨U,hU,hUm⟩:=h.sg;refine⟨?_,fun p' hp'=>?_,(U++du).map (gOf f),?_,fun p' hp' x hx=>?_⟩
 ·rw[aaa,aag];show 3+more.length<=7;omega
 ·obtain⟨p,hp,rfl⟩:=aao.mp hp';have:=h.wd p hp;show(p.2.map (gOf f)).length<=14;rw[aaa];exact this
 ·rw[aaa,aag];show U.length+7<=11;omega
 ·obtain⟨p,hp,rfl⟩:=aao.mp hp';obtain⟨y,hy,rfl⟩:=aao.mp (show x∈p.2.map (gOf f) from hx);exact aao.mpr ⟨y,hUm p hp y hy,rfl⟩
theorem ut{R:List Row}(h:Drawn 4 R)(f:Ren):iB (R.map (bM f)):=by
 refine⟨ip.map (gOf f),by rw[aaa];decide,fun p' hp'=>?_⟩;obtain⟨p,hp,rfl⟩:=aao.mp hp';exact aao.mpr ⟨p.1,h.lf p hp,rfl⟩
theorem uu{f:Ren}(hf:f=[]\/f=ft\/f=fu){x:Str}(h:x≠""):gOf f x≠"":=by
 unfold gOf;cases e:f.lookup x with
 |none=>exact h
 |some y=>
  have hm:(x,y)∈f:=lookup_mem e;have all:∀p∈f,p.2≠"":=by
   rcases hf with rfl|rfl|rfl
   ·intro p hp;cases hp
   ·decide +kernel
   ·decide +kernel
  exact all _ hm
theorem mY{R:List Row}(h:Drawn 4 R){f:Ren}(hf:f=[]\/f=ft\/f=fu):∀p∈R.map (bM f),¬("":Str)∈p.2:=fun p' hp' hz=>by
 obtain⟨p,hp,rfl⟩:=aao.mp hp';obtain⟨x,hx,e⟩:=aao.mp (show("":Str)∈p.2.map (gOf f) from hz);exact uu hf (fun q=>h.ne p hp (q▸hx)) e
end Nw
namespace L2
open PySem PySem.Spec PyProof.Rows
theorem uv:typeLookup (.type "list_reverseiterator") "__len__"=pure none:=by rw[typeLookup_type,builtinLookup_eq_fast];kernel_rfl
theorem wA:typeLookup (.type "list_reverseiterator") "__length_hint__"=pure (some (.builtin "list_reverseiterator.__length_hint__")):=by rw[typeLookup_type,builtinLookup_eq_fast];kernel_rfl
section
variable {prog:Program}{w:World}{A:Around}{s:Shared}{R:Result->Shared->Prop}
variable {I:Addr}{fp wr:List Addr}{G:Array GenState->Array GenState->Prop}{n:Nat}{P:Nat->Value->Prop}{St:Nat->Shared->Prop}
theorem ku(W:WalksS prog w A.in1 I fp wr G n P St)(hT:∀i s,St i s->s.TypeIs (.ref I) "list_reverseiterator")(S:Addr)(res:Value)(c₀:Nat)(hst:St 0 s)(hSf:S ∉ fp)(hI:I∈fp)
  (hS:s.heap.get? S=some {cls:=.type "list",data:=.seq #[] c₀})
  (hR:∀s' acc' c',Moved (S::wr) G s s'->s'.heap.get? S=some {cls:=.type "list",dict:=none,data:=.seq acc' c',slots:=#[]}->ItemsOf P acc' n->R (.ok (.ret res)) s')(hn:n<=sizeLine) :
  wpAny (model prog w) A.in1 (Builtin.List.listExtendWith (.ref S) (.ref I) res)
   (fun fin s'=>match fin with | .done f=>R (.ok f) s' | .again c'=>c'.quiet=true/\codeAny (model prog w) A c' R s') (fun e s'=>R (.error e) s') s:=by
 have hSI:S≠I:=fun e=>hSf (e▸hI)
 have h1:Builtin.List.listSameRef (.ref S) (.ref I)=false:=by simp[Builtin.List.listSameRef,hSI]
 unfold Builtin.List.listExtendWith;refine wpAny_bind (wpAny_typeOf (hT 0 _ hst) ?_);rw[if_neg (by rw[h1];decide)];refine wpAny_bind (W.self 0 _ _ _ hst ?_);refine wpAny_bind (wpAny_holding ?_);unfold Builtin.List.listLengthHint;refine wpAny_bind (wpAny_specialOf (hT 0 _ hst) uv ?_);show wpAny _ A.in1 (specialOf (Value.ref I) (Str.ofString "__length_hint__") >>= _) _ _ _;refine wpAny_bind (wpAny_specialOf (hT 0 _ hst) wA ?_)
 (generalize hid:("list_reverseiterator.__length_hint__":String)=id0;(fail_if_success (clear hid id0));wp_delta;rw[show splitId id0=some ("list_reverseiterator","__length_hint__") from by subst hid;decide +kernel];subst hid)
 refine wpAny_bind (wpAny_isInstance (b:=true) (hT 0 _ hst) (by rw[isSubtype_type];kernel_rfl) ?_);refine wpAny_pure ?_;rw[if_neg (by decide)];exact wpAny_pure ⟨plainId_quiet F.plain_extend_loop _,codeAny_extend_loopS W hn _ hSf _ n 0 _ _ _ rfl (Nat.zero_le _) hst hS (ItemsOf.nil P) hR⟩
theorem i7(W:WalksS prog w A.in1 I fp wr G n P St)(hT:∀i s,St i s->s.TypeIs (.ref I) "list_reverseiterator")(S:Addr)(hst:St 0 s)(hSf:S ∉ fp)(hI:I∈fp)
  (hS:s.heap.get? S=some {cls:=.type "list",data:=.seq #[]})
  (hR:∀s' acc' c',Moved (S::wr) G s s'->s'.heap.get? S=some {cls:=.type "list",dict:=none,data:=.seq acc' c',slots:=#[]}->ItemsOf P acc' n->R (.ok (.ret .none)) s')(hn:n<=sizeLine) :
  wpAny (model prog w) A.in1 (Builtin.«list.__init__» ⟨[.ref S,.ref I],[]⟩)
   (fun fin s'=>match fin with | .done f=>R (.ok f) s' | .again c'=>c'.quiet=true/\codeAny (model prog w) A c' R s') (fun e s'=>R (.error e) s') s:=by
 show wpAny _ A.in1 (do let old ←Builtin.List.listItems (.ref S);Builtin.List.listUpdate (.ref S) (fun _=>#[]);letGo old.toList.reverse;Builtin.List.listExtendWith (.ref S) (.ref I) .none) _ _ s;refine wpAny_bind ?_;unfold Builtin.List.listItems;refine wpAny_bind (wpAny_seqItems hS rfl (wpAny_pure ?_));show wpAny _ A.in1 (updateSeq S (fun _=>#[]) >>= fun _=>letGo (#[]:Array Value).toList.reverse >>= fun _=>Builtin.List.listExtendWith (.ref S) (.ref I) .none) _ _ s;refine wpAny_bind (wpAny_updateSeq hS rfl ?_);have hS₂:=Heap.get?_update_self (Obj.mapSeq (fun _=>(#[]:Array Value))) hS rfl;have oth:∀b o,b≠S->s.heap.get? b=some o->(s.heap.update S (Obj.mapSeq (fun _=>(#[]:Array Value)))).get? b=some o:=
  fun b o hb e=>(Heap.get?_update_other _ _ (Ne.symm hb)).trans e
 refine wpAny_bind (wpAny_letGo ?_);refine ku (hn:=hn) W hT S .none _ (W.frame 0 s _ s.toks hst (Nat.le_refl _) fun b hb o e=>oth b o (fun h=>hSf (h▸hb)) e) hSf hI hS₂ fun s' acc' c' hm hS' hacc=>?_
 exact hR s' acc' c' (Moved.trans W.gtrans ((Moved.refl W.grefl).then_heap (Nat.le_refl _) fun b o hb e=>oth b o (fun h=>hb (h▸aac)) e) hm) hS' hacc
theorem mX{E:Value->Shared->Prop}{Q:Value->Shared->Prop}(W:WalksS prog w A.in1.in1 I fp wr G n P St)(hT:∀i s,St i s->s.TypeIs (.ref I) "list_reverseiterator")(hst:St 0 s)(hfp:∀b∈fp,b<s.heap.objs.size)(hI:I∈fp)
  (hQ:∀s' acc' c',Moved (s.heap.objs.size::wr) G {s with heap:=s.heap.push {cls:=.type "list",data:=.seq #[]}} s'->
   s'.heap.get? s.heap.objs.size=some {cls:=.type "list",dict:=none,data:=.seq acc' c',slots:=#[]}->ItemsOf P acc' n->Q (.ref s.heap.objs.size) s')(hn:n<=sizeLine) :
  wpAny (model prog w) A (call (.type "list") [.ref I]) Q E s:=by
 have hSf:s.heap.objs.size ∉ fp:=fun hm=>Nat.lt_irrefl _ (hfp _ hm)
 refine callType_codes (Q₁:=fun obj s₁=>obj=.ref s.heap.objs.size/\s₁={s with heap:=s.heap.push {cls:=.type "list",data:=.seq #[]}}) F.called_list (F.typeCall_list_1 _) F.entry_list_init
  (code_list_new _ ⟨rfl,rfl⟩) fun obj s₁ h₁=>?_
 obtain⟨rfl,rfl⟩:=h₁;have hS:(s.heap.push {cls:=.type "list",data:=.seq #[]}).get? s.heap.objs.size=some {cls:=.type "list",data:=.seq #[]}:=aay _ rfl;refine⟨⟨_,hS,rfl⟩,F.args_list_init_2 _ _,i7 (hn:=hn) W hT _ (W.frame 0 s _ s.toks hst (Nat.le_refl _) fun b _ o e=>aaf _ e) hSf hI hS fun s' acc' c' hm hS' hacc=>?_⟩;exact⟨rfl,hQ s' acc' c' hm hS' hacc⟩
end
theorem wB:bootBuiltins "reversed"=some (.type "reversed"):=by decide +kernel
section
variable {sel:List (Option Nat)}{g:TG}{tc:TT}{te:TE}{σ:St}{H:Hp}{Q:VK}
end
def wC(K:PySem.W.Frag)(ta:TA):TE:=fun σ H Q=>ta σ H fun vs H1=>∃p ys,vs=[.ref p]/\SqL K H1 p ys/\∀l,H1 l=none->Q (.ref l) (upd H1 l (.lst ys.reverse))
theorem pH:∀{a:List V} {b:List Value} {c:List V} {d:List Value},Vals a b->Vals c d->Vals (a++c) (b++d)
 |_,_,_,_,.nil,q=>q
 |_,_,_,_,.cons x r,q=>.cons x (pH r q)
theorem pI:∀{a:List V} {b:List Value},Vals a b->Vals a.reverse b.reverse
 |_,_,.nil=>.nil
 |_,_,.cons x r=>by
  rw[List.reverse_cons,List.reverse_cons];exact pH (pI r) (.cons x .nil)
theorem ux{xs:List V}{its:List Value}{acc:Array Value}(hv:Vals xs its)(h:ItemsOf (fun i v=>its.toArray[its.toArray.size - 1 - i]? =some v) acc its.toArray.size):Vals xs.reverse acc.toList:=by
 obtain⟨h1,h2⟩:=h;have h1:acc.size=its.length:=by simpa using h1
 have e:acc.toList=its.reverse:=by
  apply List.ext_getElem?;intro j;rcases Nat.lt_or_ge j its.length with q|q
  ·have hj:j<acc.size:=by omega
   have:=h2 j acc[j] (Array.getElem?_eq_getElem hj);rw[List.getElem?_reverse q,Array.getElem?_toList,Array.getElem?_eq_getElem hj,←this];simp
  ·rw[List.getElem?_eq_none (by simp;omega),List.getElem?_eq_none (by simp;omega)]
 rw[e];exact pI hv
theorem rW{X:Cx}{a:Expr}{ta:TA}{p0 p1 pos0 pos1:Pos}(hc:X.calm=true)(hgl:Gl X "list")(hml:X.mg "list"=none)(hg:Gl X "reversed")(hm:X.mg "reversed"=none)(ha:PA X [a] ta)
  (hs:starEach [a] X.env=[(false,eval a X.env)]:=by rfl):PE X (.Call (.Name "list" p0) [.Call (.Name "reversed" p1) [a] [] pos1] [] pos0) (wC X.K ta):=by
 intro pins s σ H Q I h;refine wpAny_Call_Name_kw (fO I hgl hml (show bootBuiltins "list"=some (.type "list") by decide +kernel) ?_);refine PyProof.Rows.callWith_type1 ?_ (by rfl) (by rfl);show wpAny _ _ (spliced ((false,eval (.Call (.Name "reversed" p1) [a] [] pos1) X.env)::[])) _ _ s;refine Calls.spliced_cons (wpAny_Call_Name_kw (fO I hg hm wB (PyProof.Rows.callWith_type1 (thn (ha pos1 pins s σ H _ I h) fun us s1 ⟨vs,H1,I1,r1,q1⟩=>?_) hs rfl)));obtain⟨l,ys,e,hq,q⟩:=q1;subst e;cases r1 with
 |cons r rr=>
 cases rr
 cases r
 obtain⟨its,rv,pl,hz⟩:=I1.list hq;have hlen:=rv.length;refine call_reversed_list pl.isList ?_;refine wpAny_pure ?_;have hll:l<s1.heap.objs.size:=by
  obtain⟨o,ho,_⟩:=pl.isList;exact Heap.lt_size ho
 generalize hs2:({s1 with heap:=s1.heap.push (revObj l ((its.toArray.size:Int) - 1))}:Shared)=s2;have I2:Inv X pins σ H1 s2:=by rw[←hs2];exact I1.kept (t':=s1.toks) fun b o e=>aaf _ e
 have hit:s2.heap.IsRevIter s1.heap.objs.size l ((its.toArray.size:Int) - 1 - ((0:Nat):Int)):=by
  rw[←hs2];refine⟨_,aay _ rfl,rfl,?_⟩;have:((its.toArray.size:Nat):Int) - 1=(its.toArray.size:Int) - 1 - ((0:Nat):Int):=by omega
  rw[←this];rfl
 have hl2:s2.heap.IsList l its.toArray:=by
  rw[←hs2];obtain⟨o,ho,r⟩:=pl.isList;exact⟨o,aaf _ ho,r⟩
 have hsz:s2.heap.objs.size=s1.heap.objs.size+1:=by rw[←hs2];exact Heap.size_push ..
 have hfI:cJ X pins H1 s1.heap.objs.size:=I1.g8 (Nat.le_refl _) (I1.hok.fresh (Nat.le_refl _));have hn:its.toArray.size<=sizeLine:=by simp only[aaq];omega
 have W:=(Walks.listRev (prog:=X.prog) (w:=X.w) (A:=X.A.in1.in1) (I.ok.hd hc) s1.heap.objs.size l (Nat.ne_of_lt hll) its.toArray).toS;refine mX (hn:=hn) W (fun i s st=>st.2.1.typeIs) ⟨Nat.zero_le _,hit,hl2⟩ (fun b hb=>?_) (aac ..) fun s3 acc c hmv hS hit3=>?_
 ·rcases List.mem_cons.mp hb with z|z
  ·rw[z,hsz];exact Nat.lt_succ_self _
  ·rw[aaj.mp z,hsz];exact Nat.lt_succ_of_lt hll
 ·obtain⟨h3,g3,d3,t3,o3⟩:=s3;obtain⟨m1,m2,m3,m4,m5⟩:=hmv;have m2:g3=s2.gens:=m2;have m3:d3=s2.drawn:=m3;have m4:o3=s2.os:=m4;subst m2 m3 m4;have J:Inv X pins σ (upd H1 s2.heap.objs.size (.lst ys.reverse)) {s2 with heap:=h3,toks:=t3}:=by
   refine I2.qh (fp:=[s1.heap.objs.size]) (fun b o hb e=>?_) (fun b hb=>by rw[aaj.mp hb];exact hfI) (Nat.le_refl _) ⟨?_,acc.toList,c,ux rv hit3,?_⟩
   ·refine m1 b o (fun z=>?_) (aaf _ e);rcases List.mem_cons.mp z with z|z
    ·exact Nat.lt_irrefl _ (z▸Heap.lt_size e)
    ·exact hb z
   ·rw[List.length_reverse];omega
   ·rw[Array.toArray_toList];exact hS
  exact⟨.ref s2.heap.objs.size,_,J,rfl,q _ (I2.hok.fresh (Nat.le_refl _))⟩
end L2
namespace Nw
open PySem L2
open SL (ap srt)
def RT(H:Hp)(v:V)(t:Tr):Prop:=Rep H v t.d
theorem RT.mono{H H':Hp}(s:ab H H'){v:V}{t:Tr}(h:RT H v t):RT H' v t:=Rep.mono s h
theorem eP.pair{H:Hp}:∀{ws:List V} {ps:List Tr},eP H ws ps->Paired (RT H) ws ps
 |[],[],_=>.nil
 |[],t::ps,h=>by have:=h.1;simp at this
 |v::ws,[],h=>by have:=h.1;simp at this
 |v::ws,t::ps,h=>.cons (h.2 0 v t rfl rfl) (eP.pair ⟨by simpa using h.1,fun m x u e1 e2=>h.2 (m+1) x u (by simpa using e1) (by simpa using e2)⟩)
theorem lz{α β:Type}{F:α->β->Prop}:∀{l:List α} {k:List β},Paired F l k->Paired F l.reverse k.reverse
 |_,_,.nil=>.nil
 |_,_,.cons a r=>by
  rw[List.reverse_cons,List.reverse_cons];exact cm (lz r) a
theorem hJ{α β:Type}{F:α->β->Prop}:∀{l:List α} {x:α} {k:List β},Paired F (l++[x]) k->∃k' y,k=k'++[y]/\Paired F l k'/\F x y
 |[],x,_,.cons a r=>by cases r;exact⟨[],_,rfl,.nil,a⟩
 |v::l,x,_,.cons a r=>by
  obtain⟨k',y,rfl,h1,h2⟩:=hJ r;exact⟨_::k',y,rfl,.cons a h1,h2⟩
theorem Tr.md:∀ps:List Tr,Tr.szL ps.reverse=Tr.szL ps
 |[]=>rfl
 |t::r=>by
  rw[List.reverse_cons,Tr.fB,Tr.md r];show Tr.szL r+(t.sz+0)=t.sz+Tr.szL r;omega
theorem lA{n:Nat}(h:n<=4000002):n<sizeLine:=Nat.lt_of_le_of_lt h (by rw[PySem.sizeLine_eq];decide)
theorem RT.cases{H:Hp}{v:V}{t:Tr}(h:RT H v t):(∃s,t=.w s/\v=.str s)\/∃s i ps a l ws,t=.n s i ps/\v=.ref a/\H a=some (.tup [.str s,.int (i:Nat),.ref l])/\H l=some (.lst ws)/\Paired (RT H) ws ps:=by
 cases t with
 |w s=>exact .inl ⟨s,rfl,z7 h⟩
 |n s i ps=>
  obtain⟨a,l,ws,h1,h2,h3,h4⟩:=iz h;exact .inr ⟨s,i,ps,a,l,ws,rfl,h1,h2,h3,h4.pair⟩
theorem me{K:PySem.W.Frag}:PySem.W.kitOne K (.type "tuple") (.type "str")=some false:=by rfl
abbrev wD:Stmt:=top 46
theorem Af:aJ ["_law_found"] ["_law_found"] (aw wD):=⟨rfl,rfl,rfl,by decide +kernel,rfl,by decide +kernel,by decide +kernel⟩
def ny:Sp:=fun vs H Q _=>∃(i:Int),vs=[.int i]/\Q (.bl true) H
abbrev nA:Stmt:=top 51
theorem jt:aJ ["_law_tree","_law_line","_law_todo","_law_part"] ["_law_tree"] (aw nA):=⟨rfl,rfl,rfl,by decide +kernel,rfl,by decide +kernel,by decide +kernel⟩
def pJ:Sp:=fun vs H Q _=>∃(x:V) (t:Tr),vs=[x]/\RT H x t/\t.sz<=4000000/\∀q H',ab H H'->H q=none->aA H' q t.words->Q (.ref q) H'
section
variable {P:Program}{w:World}{K:PySem.W.Frag}{mg:Str->Option Value}{base:Heap}
theorem zz{f:Addr}{fd:FuncData}(F:Fun K "_law_whole" "_law_whole" wD f fd)(T:Txt mg):be P w K mg base CX0 1 f fd ["_law_found"] ny:=by
 refine F.ok Af (fun vs H Q E h=>?_) (fun cdv A outer s H vs Q E hr h=>?_)
 ·obtain⟨i,rfl,_⟩:=h;rfl
 ·obtain⟨i,rfl,k⟩:=h;refine⟨_,ag (aQ (yi (au a0 (by rfl) T.isi boot_isinstance (ad (pv 0) (ad (a9 (v:=.ty "int") (by rfl) T.int tO rfl) ac)))
   (sC (sE (au a0 (by rfl) T.isi boot_isinstance (ad (pv 0) (ad (a9 (v:=.ty "bool") (by rfl) T.bl lV rfl) ac))))))),?_⟩
  exact⟨_,rfl,_,_,_,_,rfl,.int _,yL,_,rfl,bF ⟨_,rfl,_,_,_,_,rfl,.int _,vy,_,rfl,k⟩⟩
theorem ya{f:Addr}{fd:FuncData}(F:Fun K "_law_line_of" "_law_line_of" nA f fd)(T:Txt mg)(hRv:mg "reversed"=none):be P w K mg base CX0 1 f fd ["_law_tree"] pJ:=by
 refine F.ok jt (fun vs H Q E h=>?_) (fun cdv A outer s H vs Q E hr h=>?_)
 ·obtain⟨x,t,rfl,_⟩:=h;rfl
 ·obtain⟨x0,t0,rfl,hx0,hsz,k⟩:=h;have hu:=cI hr;have hu0:(A.deeper (PyProof.Rows.envOfC "_law_line_of" (aw nA) s.heap.objs.size f cdv)).units<cLine:=Nat.lt_of_succ_lt hu;refine⟨_,af (aq (i:=1) jt.nd rfl (Or.inl rfl) (bx ac))
   (af (aq (i:=2) jt.nd rfl (Or.inl rfl) (bx (ad (pv 0) ac)))
   (af (dS PassesOwn.never (aL (j7 hu0) (pv 2) (bx ac) (aY _))
    (af (aq (i:=3) jt.nd rfl (Or.inl rfl) (kz PySem.F.plainAttrs_list PySem.F.slot_list_pop PySem.F.type_list_pop kA (pv 2)))
    (ag (a7 (ba (au a0 (by rfl) T.isi boot_isinstance (ad (pv 3) (ad (a9 (v:=.ty "str") (by rfl) T.str dJ rfl) ac))))
     (ag (bv (bZ PySem.F.plainAttrs_list PySem.F.slot_list_append PySem.F.type_list_append bf (pv 1) (ad (pv 3) ac))))
     (ag (aq (i:=2) jt.nd rfl (Or.inl rfl) (bN c8 (pv 2) (rW rfl (by rfl) T.lst (by rfl) hRv (ad (aC aF (pv 3) am (fun _ _=>rfl)) ac)))))))))
   (ag (aQ (pv 1))))),?_⟩
  refine⟨by decide,fun ql hql=>⟨_,rfl,(show 1<=sizeLine by decide),fun tl htl=>?_⟩⟩;have s0:ab H (upd H ql (.lst [])):=ab.upd hql;have htlH:H tl=none:=s0.free htl;have nqt:ql≠tl:=aP aa htl;refine⟨fun m σ H1=>∃ts vs ln tl o,σ=[some x0,some (.ref ql),some (.ref tl),o]/\ab H H1/\H1 ql=some (.lst (ln.map V.str))/\H tl=none/\tl≠ql/\H1 tl=some (.lst vs)/\Paired (RT H) vs ts/\ln++Tr.aR ts.reverse=t0.words/\m=Tr.szL ts/\ln.length+m<=t0.sz,
   ⟨_,[t0],[x0],[],tl,_,rfl,s0.trans (ab.upd htl),?_,htlH,Ne.symm nqt,aa,.cons hx0 .nil,?_,rfl,?_⟩,?_⟩
  ·rw[aj nqt];exact aa
  ·show []++(t0.words++[])=t0.words;rw[List.append_nil];rfl
  ·show 0+(t0.sz+0)<=t0.sz;omega
  rintro m σ H1 ⟨ts,vs,ln,tl,o,rfl,s1,hq1,htlN,ntq,hl1,hp1,hw,rfl,hm⟩;refine⟨_,rfl,by decide,fun qn hqn=>?_⟩;have sn:ab H1 (upd H1 qn (.lst [])):=ab.upd hqn;refine⟨tl,qn,vs,rfl,rfl,SqL.of (sn _ _ hl1),SqL.of aa,_,rfl,?_⟩;have s1n:=s1.trans sn;generalize hH2:upd H1 qn (.lst [])=H2 at sn s1n;have hl2:=sn _ _ hl1;have hq2:=sn _ _ hq1;rcases List.eq_nil_or_concat vs with rfl|⟨vi,vl,rfl⟩
  ·cases hp1
   refine aK ⟨_,rfl,k ql H2 s1n hql ?_⟩;have hw:ln++[]=t0.words:=hw;rw[List.append_nil] at hw;rw[←hw];exact hq2
  ·rw[show(!(vi.concat vl).isEmpty)=true by simp];rw[List.concat_eq_append] at hl2 hp1;obtain⟨ti,u,rfl,hpi,hu1⟩:=hJ hp1;have hsz2:Tr.szL (ti++[u])=Tr.szL ti+u.sz:=by rw[Tr.fB];rfl
   have hw2:ln++(u.words++Tr.aR ti.reverse)=t0.words:=by
    rw[List.reverse_append] at hw;exact hw
   have hup:=Tr.ij u;refine bF ⟨fun σ H4=>∃ts vs ln tl o,σ=[some x0,some (.ref ql),some (.ref tl),o]/\ab H H4/\H4 ql=some (.lst (ln.map V.str))/\H tl=none/\tl≠ql/\H4 tl=some (.lst vs)/\Paired (RT H) vs ts/\ln++Tr.aR ts.reverse=t0.words/\Tr.szL ts<Tr.szL (ti++[u])/\ln.length+Tr.szL ts<=t0.sz,?_,?_⟩
   ·rintro σ' H4 ⟨ts',vs',ln',tl',o',rfl,q1,q2,q3,q4,q5,q6,q7,q8,q9⟩;exact⟨_,q8,ts',vs',ln',tl',o',rfl,q1,q2,q3,q4,q5,q6,q7,rfl,q9⟩
   refine⟨_,rfl,.inl ⟨rfl,_,SqL.of hl2⟩,tl,_,vl,rfl,rfl,hl2,by simp,?_⟩;rw[List.dropLast_concat];have s3:ab H (upd H2 tl (.lst vi)):=s1n.bK htlN;have hq3:upd H2 tl (.lst vi) ql=some (.lst (ln.map V.str)):=by rw[aj (Ne.symm ntq)];exact hq2
   have hl3:upd H2 tl (.lst vi) tl=some (.lst vi):=aa;generalize upd H2 tl (.lst vi)=H3 at s3 hq3 hl3;have hlen3:ln.length+Tr.szL ti+u.sz<=t0.sz:=by omega
   have hvi:vi.length<=Tr.szL ti:=by rw[Paired.length hpi];exact Tr.iw ti
   rcases hu1.cases with ⟨s,rfl,rfl⟩|⟨s,i,ps,a,l,ws,rfl,rfl,ha,hl,hps⟩
   ·refine⟨_,rfl,_,_,_,_,rfl,.str _,iO,_,rfl,bF ?_⟩;refine⟨_,rfl,.inl ⟨rfl,_,SqL.of hq3⟩,_,rfl,ql,_,_,rfl,rfl,hq3,lA (by rw[aaa];omega),ti,vi,ln++[s],tl,_,rfl,s3.bK hql,?_,htlN,ntq,?_,hpi,?_,?_,?_⟩
    ·rw[aa,aam];rfl
    ·rw[aj ntq];exact hl3
    ·rw[List.append_assoc];exact hw2
    ·rw[hsz2];omega
    ·rw[aag,aav];have:Tr.sz (.w s)=1:=by simp[Tr.sz]
     omega
   ·refine⟨_,rfl,_,_,_,_,rfl,.tup (s3 _ _ ha),me,_,rfl,aK ?_⟩;have hszn:Tr.sz (.n s i ps)=1+Tr.szL ps:=rfl;have hws:ws.length<=Tr.szL ps:=by rw[Paired.length hps];exact Tr.iw ps
    refine⟨_,rfl,_,rfl,a,_,2,_,rfl,rfl,SqT.of (s3 _ _ ha),ak (j:=2) rfl,l,ws,rfl,SqL.of (s3 _ _ hl),fun lr hlr=>?_⟩;have sr:=ab.upd (o:=HO.lst ws.reverse) hlr;refine⟨tl,lr,vi,ws.reverse,rfl,rfl,sr _ _ hl3,aa,Nat.le_of_lt (lA (by rw[List.length_reverse];omega)),fun tn htn=>?_⟩;have st:=ab.upd (o:=HO.lst (vi++ws.reverse)) htn;have s3t:=(s3.trans sr).trans st;refine⟨ti++ps.reverse,vi++ws.reverse,ln,tn,_,rfl,s3t,st _ _ (sr _ _ hq3),(s3.trans sr).free htn,fun z=>?_,aa,gi hpi (lz hps),?_,?_,?_⟩
    ·rw[z,sr _ _ hq3] at htn;cases htn
    ·rw[List.reverse_append,List.reverse_reverse,Tr.eB];exact hw2
    ·rw[hsz2,Tr.fB,hszn];have:Tr.szL ps.reverse=Tr.szL ps:=Tr.md ps;omega
    ·rw[Tr.fB];have:Tr.szL ps.reverse=Tr.szL ps:=Tr.md ps;omega
end
end Nw
namespace Nw
open PySem L2
open SL (ap srt)
abbrev rX:Stmt:=top 50
theorem g5:aJ ["_law_found","_law_rows","_law_todo","_law_part","_law_left","_law_right","_law_k","_law_inner"] ["_law_found","_law_rows"] (aw rX):=⟨rfl,rfl,rfl,by decide +kernel,rfl,by decide +kernel,by decide +kernel⟩
def rY:Sp:=fun vs H Q _=>∃(x:V) (a:Addr) (R:List Row) (s:Str) (i:Nat) (ps:List Tr) (s':Str),vs=[x,.ref a]/\RT H x (.n s i ps)/\bt H a R/\Small R/\(Tr.n s i ps).ok R s'/\(Tr.n s i ps).sz<=4000000/\∀H',ab H H'->Q (.bl true) H'
theorem pK{H:Hp}{a:Addr}{s:Str}(h:H a=some (.tup [.str s])):Rep H (.ref a) (.tup [.str s]):=by
 refine .tup h rfl fun i x d e1 e2=>?_
 rcases i with _|i
 ·cases e1;cases e2;exact .str _
 ·cases e1
theorem qy{H:Hp}{a:Addr}{R:List Row}(h:bt H a R){i:Nat}{p:Row}(hp:R[i]? =some p):∃vs t b,H a=some (.lst vs)/\vs[i]? =some (.ref t)/\H t=some (.tup [.str p.1,.ref b])/\H b=some (.lst (p.2.map V.str))/\vs.length=R.length:=by
 obtain⟨vs,h1,h2⟩:=h;have hl:=Paired.length h2;have hi:i<vs.length:=by rw[hl];exact(aab.mp hp).1
 obtain⟨q,hq,t,b,e1,e2,e3⟩:=aW h2 i vs[i] (aae hi);rw[hp] at hq;cases hq;exact⟨vs,t,b,h1,by rw[←e1];exact aae hi,e2,e3,hl⟩
section
variable {P:Program}{w:World}{K:PySem.W.Frag}{mg:Str->Option Value}{base:Heap}
theorem zA{f:Addr}{fd:FuncData}(F:Fun K "_law_is_tree" "_law_is_tree" rX f fd)(T:Txt mg)(dWho:Def P w K mg base "_law_whole" 1 ["_law_found"] ny)(dAll:Def P w K mg base "_law_all_sorts" 1 ["_law_rows"] cF)(dSo:Def P w K mg base "_law_so" 1 ["_law_found","_law_due"] vp) :
  be P w K mg base CX0 2 f fd ["_law_found","_law_rows"] rY:=by
 refine F.ok g5 (fun vs H Q E h=>?_) (fun cdv A outer s H vs Q E hr h=>?_)
 ·obtain⟨x,a,R,s,i,ps,s',rfl,_⟩:=h;rfl
 ·obtain⟨x0,a,R,s0,i0,ps0,s0',rfl,hx0,hR,hsm,hok0,hsz,k⟩:=h;have hu:=cI hr;have hu0:(A.deeper (PyProof.Rows.envOfC "_law_is_tree" (aw rX) s.heap.objs.size f cdv)).units<cLine:=Nat.lt_of_succ_lt hu;refine⟨_,af (aq (i:=2) g5.nd rfl (Or.inl rfl) (bx (ad (pv 0) ac)))
   (af (dS PassesOwn.never (aL (j7 hu0) (pv 2) (bx ac) (aY _))
    (af (aq (i:=3) g5.nd rfl (Or.inl rfl) (kz PySem.F.plainAttrs_list PySem.F.slot_list_pop PySem.F.type_list_pop kA (pv 2)))
    (ag (a7 (b8 (ba (au a0 (by rfl) T.isi boot_isinstance (ad (pv 3) (ad (a9 (v:=.ty "str") (by rfl) T.str dJ rfl) ac)))))
     (af (a7 (PW.pt (ci (b8 (ba (au a0 (by rfl) T.isi boot_isinstance (ad (pv 3) (ad (a9 (v:=.ty "tuple") (by rfl) T.tup dG rfl) ac)))))
       (ci (aL dC (au aV (by rfl) T.len PySem.boot_len (ad (pv 3) ac)) am (aY _))
       (c7 (b8 (ba (au a0 (by rfl) T.isi boot_isinstance (ad (aC aF (pv 3) am (fun _ _=>rfl)) (ad (a9 (v:=.ty "str") (by rfl) T.str dJ rfl) ac))))))))) a8 aT)
     (af (a7 (PW.pt (ci (b8 (ba (aB dWho hr (by rfl) (ad (aC aF (pv 3) am (fun _ _=>rfl)) ac))))
       (ci (aL jy (aC aF (pv 3) am (fun _ _=>rfl)) am (aY _))
       (c7 (aL qC (aC aF (pv 3) am (fun _ _=>rfl)) (au aV (by rfl) T.len PySem.boot_len (ad (pv 1) ac)) (aY _)))))) a8 aT)
     (af (nI (aC bn (pv 1) (aC aF (pv 3) am (fun _ _=>rfl)) (fun _ _=>rfl)) (cT (n:=2) rfl (aN (az (i:=4) g5.nd rfl (Or.inl rfl)) (aN (az (i:=5) g5.nd rfl (Or.inl rfl)) cp))))
     (af (a7 (PW.pt (ci (aL dC (aC aF (pv 3) am (fun _ _=>rfl)) (pv 4) (aY _))
       (c7 (b8 (ba (au a0 (by rfl) T.isi boot_isinstance (ad (aC aF (pv 3) am (fun _ _=>rfl)) (ad (a9 (v:=.ty "list") (by rfl) T.lst ik rfl) ac)))))))) a8 aT)
     (af (a7 (aL dC (au aV (by rfl) T.len PySem.boot_len (ad (aC aF (pv 3) am (fun _ _=>rfl)) ac)) (au aV (by rfl) T.len PySem.boot_len (ad (pv 5) ac)) (aY _)) a8 aT)
     (b9 (bb PassesOwn.never rfl (gG (by rfl) T.rng (ad (au aV (by rfl) T.len PySem.boot_len (ad (pv 5) ac)) ac)) (az (i:=6) g5.nd rfl (Or.inl rfl))
      (af (aq (i:=7) g5.nd rfl (Or.inl rfl) (aC bn (aC aF (pv 3) am (fun _ _=>rfl)) (pv 6) (fun _ _=>rfl)))
      (ag (a7 (ba (au a0 (by rfl) T.isi boot_isinstance (ad (pv 7) (ad (a9 (v:=.ty "str") (by rfl) T.str dJ rfl) ac))))
       (ag (a7 (PW.pt (ci (aL dC (pv 7) (aC bn (pv 5) (pv 6) (fun _ _=>rfl)) (aY _))
        (c7 (aL (r:=rIn K false) fQ (aC bn (pv 5) (pv 6) (fun _ _=>rfl)) (aB dAll hr (by rfl) (ad (pv 1) ac)) (by with_unfolding_all rfl))))) a8 aT))
       (ag (a7 (PW.pt (ci (b8 (ba (au a0 (by rfl) T.isi boot_isinstance (ad (pv 7) (ad (a9 (v:=.ty "tuple") (by rfl) T.tup dG rfl) ac)))))
        (c7 (b8 (ba (aB dSo hr (by rfl) (ad (dD yA (pv 7) eQ (dN am)) (ad (aZ (ad (aC bn (pv 5) (pv 6) (fun _ _=>rfl)) ac)) ac)))))))) a8 aT))))))
     (ag (aq (i:=2) g5.nd rfl (Or.inl rfl) (bN c8 (pv 2) (aC aF (pv 3) am (fun _ _=>rfl)))))))))))
     aT))))
   (ag (aQ (sE (au a0 (by rfl) T.isi boot_isinstance (ad (pv 0) (ad (a9 (v:=.ty "str") (by rfl) T.str dJ rfl) ac))))))),?_⟩
  refine⟨_,rfl,(show 1<=sizeLine by decide),fun tl htl=>?_⟩;refine⟨fun m σ H1=>∃ts vs tl o3 o4 o5 o6 o7,σ=[some x0,some (.ref a),some (.ref tl),o3,o4,o5,o6,o7]/\ab H H1/\H tl=none/\H1 tl=some (.lst vs)/\Paired (RT H) vs ts/\(∀u∈ts,∃s,u.ok R s)/\m=Tr.szL ts/\m<=4000000,
   ⟨_,[.n s0 i0 ps0],[x0],tl,_,_,_,_,_,rfl,ab.upd htl,htl,aa,.cons hx0 .nil,fun u hu=>⟨s0',by rw[aaj.mp hu];exact hok0⟩,rfl,hsz⟩,?_⟩
  rintro m σ H1 ⟨ts,vs,tl,o3,o4,o5,o6,o7,rfl,s1,htlN,hl1,hp1,hoks,rfl,hm⟩;refine⟨_,rfl,by decide,fun qn hqn=>?_⟩;have sn:ab H1 (upd H1 qn (.lst [])):=ab.upd hqn;refine⟨tl,qn,vs,rfl,rfl,SqL.of (sn _ _ hl1),SqL.of aa,_,rfl,?_⟩;have s1n:=s1.trans sn;generalize hH2:upd H1 qn (.lst [])=H2 at sn s1n;have hl2:=sn _ _ hl1;rcases List.eq_nil_or_concat vs with rfl|⟨vi,vl,rfl⟩
  ·obtain⟨ax,lx,wx,rfl,hax,_⟩:=iz hx0;exact aK ⟨_,rfl,_,_,_,_,rfl,.tup (s1n _ _ hax),me,_,rfl,k H2 s1n⟩
  ·rw[show(!(vi.concat vl).isEmpty)=true by simp];rw[List.concat_eq_append] at hl2 hp1;obtain⟨ti,u,rfl,hpi,hu1⟩:=hJ hp1;have hsz2:Tr.szL (ti++[u])=Tr.szL ti+u.sz:=by rw[Tr.fB];rfl
   have hup:=Tr.ij u;have hoki:∀u∈ti,∃s,u.ok R s:=fun v hv=>hoks v (List.mem_append_left _ hv)
   obtain⟨su,hoku⟩:=hoks u (aar _ (aaj.mpr rfl));refine bF ⟨fun σ H4=>∃ts vs tl o3 o4 o5 o6 o7,σ=[some x0,some (.ref a),some (.ref tl),o3,o4,o5,o6,o7]/\ab H H4/\H tl=none/\H4 tl=some (.lst vs)/\Paired (RT H) vs ts/\(∀u∈ts,∃s,u.ok R s)/\Tr.szL ts<Tr.szL (ti++[u]),?_,?_⟩
   ·rintro σ' H4 ⟨ts',vs',tl',o3,o4,o5,o6,o7,rfl,q1,q2,q3,q4,q5,q6⟩;exact⟨_,q6,ts',vs',tl',_,_,_,_,_,rfl,q1,q2,q3,q4,q5,rfl,by omega⟩
   refine⟨_,rfl,.inl ⟨rfl,_,SqL.of hl2⟩,tl,_,vl,rfl,rfl,hl2,by simp,?_⟩;rw[List.dropLast_concat];have s3:ab H (upd H2 tl (.lst vi)):=s1n.bK htlN;have hl3:upd H2 tl (.lst vi) tl=some (.lst vi):=aa;generalize upd H2 tl (.lst vi)=H3 at s3 hl3;have hvi:vi.length<=Tr.szL ti:=by rw[Paired.length hpi];exact Tr.iw ti
   rcases hu1.cases with ⟨s,rfl,rfl⟩|⟨s,i,ps,ax,l,ws,rfl,rfl,ha,hl,hps⟩
   ·exact⟨_,rfl,_,_,_,_,rfl,.str _,iO,_,rfl,aK ⟨ti,vi,tl,_,_,_,_,_,rfl,s3,htlN,hl3,hpi,hoki,by rw[hsz2];omega⟩⟩
   ·obtain⟨rfl,r,hrow,hokL⟩:s=su/\∃r,R[i]? =some (su,r)/\Tr.okL R ps r:=hoku;obtain⟨rs,tr,b,hrs,hri,htr,hb,hrl⟩:=qy hR hrow;have hszn:Tr.sz (.n s i ps)=1+Tr.szL ps:=rfl;have hwl:ws.length=ps.length:=Paired.length hps;have hpl:=Tr.qr hokL;have hws:ws.length<=Tr.szL ps:=by rw[hwl];exact Tr.iw ps
    have ha3:=s3 _ _ ha;have hil:i<R.length:=(aab.mp hrow).1;refine⟨_,rfl,_,_,_,_,rfl,.tup ha3,me,_,rfl,bF ?_⟩;refine⟨_,rfl,_,_,_,_,rfl,.tup ha3,kc,_,rfl,aK ?_⟩;refine⟨_,rfl,ax,_,rfl,.inr (SqT.of ha3),rfl,_,rfl,dE rfl ?_⟩;refine⟨_,rfl,ax,_,0,_,rfl,rfl,SqT.of ha3,ak (j:=0) rfl,_,_,_,_,rfl,.str _,iO,_,rfl,aK ?_⟩;refine⟨_,rfl,ax,_,1,_,rfl,rfl,SqT.of ha3,ak (j:=1) rfl,(i:Nat),rfl,_,rfl,aK ?_⟩;refine⟨_,rfl,ax,_,1,_,rfl,rfl,SqT.of ha3,ak (j:=1) rfl,_,_,rfl,rfl,_,rfl,?_⟩;show if decide (((i:Nat):Int)<0)=true then _ else _
    rw[aai (by omega)];refine aK ?_;refine⟨_,rfl,ax,_,1,_,rfl,rfl,SqT.of ha3,ak (j:=1) rfl,_,rfl,a,_,rfl,.inl (SqL.of (s3 _ _ hrs)),_,_,rfl,rfl,_,rfl,?_⟩;show if decide (((i:Nat):Int) ≥ ((rs.length:Nat):Int))=true then _ else _
    rw[aai (by omega)];refine aK ?_;refine⟨_,rfl,_,rfl,ax,_,1,_,rfl,rfl,SqT.of ha3,ak (j:=1) rfl,a,_,(i:Int),_,rfl,rfl,SqL.of (s3 _ _ hrs),ak hri,tr,_,rfl,SqT.of (s3 _ _ htr),rfl,_,_,rfl,_,_,rfl,rfl,?_⟩;refine⟨_,rfl,ax,_,0,_,rfl,rfl,SqT.of ha3,ak (j:=0) rfl,_,rfl,rfl,_,rfl,dE rfl ?_⟩;refine⟨_,rfl,ax,_,2,_,rfl,rfl,SqT.of ha3,ak (j:=2) rfl,_,_,_,_,rfl,.lst (s3 _ _ hl),vx,_,rfl,aK ?_⟩;refine⟨_,rfl,ax,_,2,_,rfl,rfl,SqT.of ha3,ak (j:=2) rfl,l,_,rfl,.inl (SqL.of (s3 _ _ hl)),_,rfl,b,_,rfl,.inl (SqL.of (s3 _ _ hb)),rfl,_,rfl,dE (by rw[aaa,hwl,hpl]) ?_⟩;refine⟨fun σ H4=>∃o6 o7,σ=[some x0,some (.ref a),some (.ref tl),some (.ref ax),some (.str s),some (.ref b),o6,o7]/\ab H3 H4,?_,?_⟩
    ·have hr20:=hsm.wid _ (aah hrow);have hr20:r.length<=20:=hr20;refine⟨_,rfl,b,_,rfl,.inl (SqL.of (s3 _ _ hb)),_,rfl,by rw[aaa];omega,by rw[aaa];omega,gH (n:=(((r.map V.str).length:Nat):Int).toNat) (fun m σ H4=>∃o6 o7,σ=[some x0,some (.ref a),some (.ref tl),some (.ref ax),some (.str s),some (.ref b),o6,o7]/\ab H3 H4) ⟨_,_,rfl,ab.refl _⟩ ?_ ?_⟩
     ·rintro m σ H4 hm' ⟨o6,o7,rfl,s4⟩;have hm':m<r.length:=by rw[aaa] at hm';simpa using hm'
      have s34:=s3.trans s4;have hwm:ws[m]? =some ws[m]:=aae (by omega);obtain⟨u,hu,hru⟩:=aW hps m _ hwm;obtain⟨sm,hsm',hoku⟩:=Tr.l6 hokL hu;have hrm:(r.map V.str)[m]? =some (.str sm):=by rw[aax,hsm'];rfl
      have hbx:SqL K H4 b (r.map V.str):=SqL.of (s34 _ _ hb);refine⟨_,rfl,ax,_,2,_,rfl,rfl,SqT.of (s34 _ _ ha),ak (j:=2) rfl,_,rfl,l,_,_,_,rfl,rfl,SqL.of (s34 _ _ hl),by rw[Int.zero_add];exact ak hwm,?_⟩;rcases hru.cases with ⟨sw,rfl,e⟩|⟨s2,i2,ps2,a2,l2,ws2,rfl,e,ha2,_,_⟩
      ·rw[e];obtain⟨rfl,hns⟩:=hoku;refine⟨_,rfl,_,_,_,_,rfl,.str _,iO,_,rfl,bF ?_⟩;refine⟨_,rfl,_,rfl,_,rfl,b,_,_,_,rfl,rfl,hbx,by rw[Int.zero_add];exact ak hrm,rfl,_,rfl,dE rfl ?_⟩;refine⟨_,rfl,_,rfl,b,_,_,_,rfl,rfl,hbx,by rw[Int.zero_add];exact ak hrm,_,rfl,a,R,rfl,hR.mono s34,hsm,fun qs H5 s5 _ hqs=>?_⟩;refine⟨qs,_,rfl,.inl (SqL.of hqs),rfl,dz _,_,rfl,?_⟩;show if inV (.str sw) ((srt (ap (R.map (·.1)))).map V.str)=true then _ else _
       have hno:¬sw∈srt (ap (R.map (·.1))):=fun z=>hns (aU.mp z)
       rw[dF,aai hno];exact aK ⟨_,_,rfl,s4.trans s5⟩
      ·rw[e];obtain⟨rfl,_⟩:=hoku;refine⟨_,rfl,_,_,_,_,rfl,.tup (s34 _ _ ha2),me,_,rfl,aK ?_⟩;refine⟨_,rfl,_,_,_,_,rfl,.tup (s34 _ _ ha2),kc,_,rfl,aK ?_⟩;refine⟨_,rfl,1,rfl,a2,_,rfl,SqT.of (s34 _ _ ha2),(show ¬(HT.sIx 3 0 none=0/\HT.sIx 3 3 (some 1)=3) by decide),fun p1 hp1=>?_⟩;have v1:=ab.upd (o:=HO.tup [.str s2]) hp1;refine⟨_,rfl,_,rfl,b,_,_,_,rfl,rfl,v1.seq hbx,by rw[Int.zero_add];exact ak hrm,(show 1<=sizeLine by decide),fun p2 hp2=>?_⟩;have v2:=ab.upd (o:=HO.tup [.str s2]) hp2;exact⟨_,_,.tup [.str s2],rfl,pK (v2 _ _ aa),pK aa,(show 2<=10000 by decide),fun H5 s5=>⟨_,rfl,aK ⟨_,_,rfl,s4.trans ((v1.trans v2).trans s5)⟩⟩⟩
     ·rintro σ H4 h4;exact h4
    rintro σ H4 ⟨o6,o7,rfl,s4⟩;have s34:=s3.trans s4;refine⟨_,rfl,_,rfl,ax,_,2,_,rfl,rfl,SqT.of (s34 _ _ ha),ak (j:=2) rfl,tl,l,vi,ws,rfl,rfl,s4 _ _ hl3,s34 _ _ hl,Nat.le_of_lt (lA (by omega)),fun tn htn=>?_⟩;have st:=ab.upd (o:=HO.lst (vi++ws)) htn;refine⟨ti++ps,vi++ws,tn,_,_,_,_,_,rfl,s34.trans st,s34.free htn,aa,gi hpi hps,fun u hu=>?_,by rw[hsz2,Tr.fB,hszn];omega⟩;rcases aak.mp hu with z|z
    ·exact hoki u z
    ·obtain⟨j,hj⟩:=List.mem_iff_getElem?.mp z;obtain⟨sj,_,hj2⟩:=Tr.l6 hokL hj;exact⟨sj,hj2⟩
end
end Nw
namespace Nw
open PySem L2
open SL (ap srt)
abbrev wE:Stmt:=top 52
theorem fM:aJ ["_law_told","_law_rows","_law_left","_law_word","_law_number","_law_tree","_law_path","_law_part","_law_ahead","_law_k","_law_one"] ["_law_told","_law_rows","_law_left","_law_word"] (aw wE):=⟨rfl,rfl,rfl,by decide +kernel,rfl,by decide +kernel,by decide +kernel⟩
def rZ:Sp:=fun vs H Q _=>∃(b a:Addr) (l z:Str) (R:List Row) (n:Nat) (x y:V),vs=[.ref b,.ref a,.str l,.str z]/\H b=some (.tup [.int (n:Nat),x,y])/\bt H a R/\R≠[]/\Small R/\dw H R l n z x y/\∀H',ab H H'->Q (.bl true) H'
theorem yb{R:List Row}{t:Tr}{s:Str}(h:t.ok R s)(hs:s∈R.map (·.1)):∃i ps,t=.n s i ps:=by
 cases t with
 |w x=>exact absurd hs h.2
 |n x i ps=>exact⟨i,ps,by rw[h.1]⟩
theorem uy{t:Tr}{j:Nat}{q:List Nat}{x:Tr}{a:Nat}(h:fg t (j::q)=some (x,a)):∃s i ps u b,t=.n s i ps/\ps[j]? =some u/\fg u q=some (x,b)/\a=(Tr.aR (ps.take j)).length+b:=by
 cases t with
 |w s=>cases h
 |n s i ps=>
  have h:((ps[j]?).bind fun u=>(fg u q).map fun xa=>(xa.1,(Tr.aR (ps.take j)).length+xa.2))=some (x,a):=h;cases e:ps[j]? with
  |none=>rw[e] at h;cases h
  |some u=>
   rw[e] at h;have h:(fg u q).map (fun xa=>(xa.1,(Tr.aR (ps.take j)).length+xa.2))=some (x,a):=h;cases e2:fg u q with
   |none=>rw[e2] at h;cases h
   |some xb=>
    rw[e2] at h;have h:some (xb.1,(Tr.aR (ps.take j)).length+xb.2)=some (x,a):=h;injection h with h;injection h with h1 h2;exact⟨s,i,ps,u,xb.2,rfl,e,by rw[e2,←h1],h2.symm⟩
theorem wF{t x:Tr}{a:Nat}(h:fg t []=some (x,a)):x=t/\a=0:=by
 cases t with
 |w s=>
  have h:some (Tr.w s,0)=some (x,a):=h;injection h with h;injection h with h1 h2;exact⟨h1.symm,h2.symm⟩
 |n s i ps=>
  have h:some (Tr.n s i ps,0)=some (x,a):=h;injection h with h;injection h with h1 h2;exact⟨h1.symm,h2.symm⟩
theorem Tr.pT(ps:List Tr)(t:Tr):Tr.aR (ps++[t])=Tr.aR ps++t.words:=by
 rw[Tr.eB];show _++(t.words++[])=_;rw[List.append_nil]
theorem uz(xs:List V)(k:Nat):de xs none (some ((k:Nat):Int))=xs.take k:=by
 unfold de;rw[HT.iH,HT.gn,List.drop_zero,Nat.sub_zero];rcases Nat.lt_or_ge xs.length k with q|q
 ·rw[Nat.min_eq_right (by omega),aas,List.take_of_length_le (by omega)]
 ·rw[Nat.min_eq_left q]
section
variable {P:Program}{w:World}{K:PySem.W.Frag}{mg:Str->Option Value}{base:Heap}
theorem zB{f:Addr}{fd:FuncData}(F:Fun K "_law_shows" "_law_shows" wE f fd)(T:Txt mg)(dWho:Def P w K mg base "_law_whole" 1 ["_law_found"] ny)(dIst:Def P w K mg base "_law_is_tree" 2 ["_law_found","_law_rows"] rY)(dLine:Def P w K mg base "_law_line_of" 1 ["_law_tree"] pJ) :
  be P w K mg base CX0 3 f fd ["_law_told","_law_rows","_law_left","_law_word"] rZ:=by
 refine F.ok fM (fun vs H Q E h=>?_) (fun cdv A outer s H vs Q E hr h=>?_)
 ·obtain⟨b,a,l,z,R,n,x,y,rfl,_⟩:=h;rfl
 ·obtain⟨b,a,l,z,R,n,x,y,rfl,hb,hR,hRne,hsm,hsh,k⟩:=h;have hr1:bC 1 _:=hr.mono (by decide);obtain⟨t,q,path,pz,av,hx,rfl,hq,hok,htsz,hgo,hwd⟩:=hsh.ex;refine⟨_,af (a7 (PW.pt (ci (b8 (ba (au a0 (by rfl) T.isi boot_isinstance (ad (pv 0) (ad (a9 (v:=.ty "tuple") (by rfl) T.tup dG rfl) ac)))))
     (ci (aL dC (au aV (by rfl) T.len PySem.boot_len (ad (pv 0) ac)) am (aY _))
     (c7 (b8 (ba (aB dWho hr1 (by rfl) (ad (aC aF (pv 0) am (fun _ _=>rfl)) ac)))))))) a8 aT)
   (af (nI (pv 0) (cT (n:=3) rfl (aN (az (i:=4) fM.nd rfl (Or.inl rfl)) (aN (az (i:=5) fM.nd rfl (Or.inl rfl)) (aN (az (i:=6) fM.nd rfl (Or.inl rfl)) cp)))))
   (af (a7 (PW.pt (ci (b8 (ba (aB dIst hr (by rfl) (ad (pv 5) (ad (pv 1) ac)))))
     (ci (aL dC (aC aF (pv 5) am (fun _ _=>rfl)) (aC aF (aC bn (pv 1) am (fun _ _=>rfl)) am (fun _ _=>rfl)) (aY _))
     (c7 (b8 (ba (au a0 (by rfl) T.isi boot_isinstance (ad (pv 6) (ad (a9 (v:=.ty "list") (by rfl) T.lst ik rfl) ac))))))))) a8 aT)
   (af (aq (i:=7) fM.nd rfl (Or.inl rfl) (pv 5))
   (af (aq (i:=8) fM.nd rfl (Or.inl rfl) am)
   (b9 (bb PassesOwn.never rfl (aO (pv 6)) (az (i:=9) fM.nd rfl (Or.inl rfl))
    (af (a7 (PW.pt (ci (ba (au a0 (by rfl) T.isi boot_isinstance (ad (pv 7) (ad (a9 (v:=.ty "str") (by rfl) T.str dJ rfl) ac))))
      (ci (b8 (ba (aB dWho hr1 (by rfl) (ad (pv 9) ac))))
      (ci (aL jy (pv 9) am (aY _))
      (c7 (aL qC (pv 9) (au aV (by rfl) T.len PySem.boot_len (ad (aC aF (pv 7) am (fun _ _=>rfl)) ac)) (aY _))))))) a8 aT)
    (b9 (bb PassesOwn.never rfl (aO (dD eR (aC aF (pv 7) am (fun _ _=>rfl)) eQ (dN (pv 9)))) (az (i:=10) fM.nd rfl (Or.inl rfl))
     (ag (aq (i:=8) fM.nd rfl (Or.inl rfl) (bN eY (pv 8) (au aV (by rfl) T.len PySem.boot_len (ad (aB dLine hr1 (by rfl) (ad (pv 10) ac)) ac))))))
    (ag (aq (i:=7) fM.nd rfl (Or.inl rfl) (aC bn (aC aF (pv 7) am (fun _ _=>rfl)) (pv 9) (fun _ _=>rfl)))))))
   (af (a7 (PW.pt (ci (ba (au a0 (by rfl) T.isi boot_isinstance (ad (pv 7) (ad (a9 (v:=.ty "str") (by rfl) T.str dJ rfl) ac))))
     (ci (aL dC (aC aF (pv 7) am (fun _ _=>rfl)) (pv 2) (aY _))
     (c7 (aL dC (aC aF (pv 7) am (fun _ _=>rfl)) (pv 4) (aY _)))))) a8 aT)
   (ag (aQ (hV jx (aC bn (bN c8 (aB dLine hr1 (by rfl) (ad (pv 5) ac)) (bx (ad fN ac))) (pv 8) (fun _ _=>rfl)) (pv 3) (aY _)))))))))),?_⟩
  have hfm:bW R∈R.map (·.1):=by
   cases R with
   |nil=>exact absurd rfl hRne
   |cons p0 R0=>exact aac ..
  obtain⟨i0,ps0,rfl⟩:=yb hok hfm;obtain⟨ax,lx,wx,rfl,hax,hlx,hwx⟩:=iz hx;refine⟨_,rfl,_,_,_,_,rfl,.tup hb,kc,_,rfl,aK ?_⟩;refine⟨_,rfl,b,_,rfl,.inr (SqT.of hb),rfl,_,rfl,dE rfl ?_⟩;refine⟨_,rfl,b,_,0,_,rfl,rfl,SqT.of hb,ak (j:=0) rfl,(n:Nat),rfl,_,rfl,aK ?_⟩;refine⟨_,rfl,b,_,rfl,SqT.of hb,rfl,_,_,rfl,_,_,rfl,_,_,rfl,rfl,?_⟩;refine⟨_,rfl,_,rfl,.ref ax,a,R,_,i0,ps0,_,rfl,hx,hR,hsm,hok,htsz,fun H1 s1=>⟨_,rfl,aK ?_⟩⟩;obtain⟨p0,R0,rfl⟩:∃p0 R0,R=p0::R0:=by
   cases R with
   |nil=>exact absurd rfl hRne
   |cons p0 R0=>exact⟨p0,R0,rfl⟩
  obtain⟨rs,tr,br,hrs,hri,htr,hbr,hrl⟩:=qy hR (i:=0) (p:=p0) rfl;refine⟨_,rfl,ax,_,0,_,rfl,rfl,SqT.of (s1 _ _ hax),ak (j:=0) rfl,_,rfl,a,_,0,_,rfl,rfl,SqL.of (s1 _ _ hrs),ak (j:=0) hri,tr,_,0,_,rfl,rfl,SqT.of (s1 _ _ htr),ak (j:=0) rfl,rfl,_,rfl,dE rfl ?_⟩;refine⟨_,rfl,_,_,_,_,rfl,.lst (s1 _ _ hq),vx,_,rfl,aK ?_⟩;refine⟨_,rfl,?_⟩;refine⟨fun σ H2=>∃v u A o9 o10,σ=[some (.ref b),some (.ref a),some (.str l),some (.str z),some (.int (n:Nat)),some (.ref ax),some (.ref q),some v,some (.int (A:Nat)),o9,o10]/\ab H H2/\RT H v u/\u.sz<=4000000/\u=.n l n pz/\A=av,?_,?_⟩
  ·refine⟨_,rfl,q,rfl,⟨_,SqL.of (s1 _ _ hq)⟩,bc (K:=K) (a:=q) (xs:=nats path)
    (fun i σ H2=>∃v u A B o9 o10,σ=[some (.ref b),some (.ref a),some (.str l),some (.str z),some (.int (n:Nat)),some (.ref ax),some (.ref q),some v,some (.int (A:Nat)),o9,o10]/\ab H H2/\RT H v u/\u.sz<=4000000/\fg u (path.drop i)=some (.n l n pz,B)/\A+B=av)
    ⟨.ref ax,.n (bW (p0::R0)) i0 ps0,0,av,_,_,rfl,s1,hx,htsz,hgo,Nat.zero_add _⟩ ?_ ?_ ?_⟩
   ·rintro i σ H2 _ ⟨_,_,_,_,_,_,_,s2,_⟩;exact SqL.of (s2 _ _ hq)
   ·rintro i kv σ H2 hk ⟨v,u,A,B,o9,o10,rfl,s2,hv,husz,hgo,hAB⟩;have hk:(path.map fun n=>V.int (n:Nat))[i]? =some kv:=hk;rw[aax] at hk;cases hpi:path[i]? with
    |none=>rw[hpi] at hk;cases hk
    |some j=>
    rw[hpi] at hk;cases hk
    have hil:i<path.length:=(aab.mp hpi).1;have hdr:path.drop i=j::path.drop (i+1):=by
     rw[←List.getElem_cons_drop hil,(aab.mp hpi).2]
    rw[hdr] at hgo;obtain⟨su,iu,pu,u',B',rfl,hju,hgo',rfl⟩:=uy hgo;obtain⟨av',lv,wv,rfl,hav,hlv,hwv⟩:=iz hv;have hwv:=hwv.pair;have hjl:j<pu.length:=(aab.mp hju).1;have hwl:wv.length=pu.length:=Paired.length hwv;refine⟨_,rfl,_,_,_,_,rfl,.tup (s2 _ _ hav),me,_,rfl,aK ?_⟩;refine⟨_,rfl,(j:Nat),rfl,_,rfl,aK ?_⟩;refine⟨_,rfl,_,_,rfl,rfl,_,rfl,?_⟩;show if decide (((j:Nat):Int)<0)=true then _ else _
    rw[aai (by omega)];refine aK ?_;refine⟨_,rfl,_,rfl,av',_,2,_,rfl,rfl,SqT.of (s2 _ _ hav),ak (j:=2) rfl,lv,_,rfl,.inl (SqL.of (s2 _ _ hlv)),_,_,rfl,rfl,_,rfl,?_⟩;show if decide (((j:Nat):Int) ≥ ((wv.length:Nat):Int))=true then _ else _
    rw[aai (by omega)];refine aK ?_;have hpsz:Tr.szL pu<=4000000:=by
     have:Tr.sz (.n su iu pu)=1+Tr.szL pu:=rfl;omega
    refine⟨fun σ H3=>∃o10,σ=[some (.ref b),some (.ref a),some (.str l),some (.str z),some (.int (n:Nat)),some (.ref ax),some (.ref q),some (.ref av'),some (.int ((A+(Tr.aR (pu.take j)).length:Nat):Nat)),some (.int (j:Nat)),o10]/\ab H H3,?_,?_⟩
    ·refine⟨_,rfl,av',_,2,_,rfl,rfl,SqT.of (s2 _ _ hav),ak (j:=2) rfl,_,rfl,(j:Nat),rfl,lv,_,rfl,SqL.of (s2 _ _ hlv),fun p1 hp1=>?_⟩;rw[uz];have v1:=ab.upd (o:=HO.lst (wv.take j)) hp1;have s3:=s2.trans v1;refine⟨p1,rfl,⟨_,SqL.of aa⟩,bc (K:=K) (a:=p1) (xs:=wv.take j)
      (fun m σ H3=>∃o10,σ=[some (.ref b),some (.ref a),some (.str l),some (.str z),some (.int (n:Nat)),some (.ref ax),some (.ref q),some (.ref av'),some (.int ((A+(Tr.aR (pu.take m)).length:Nat):Nat)),some (.int (j:Nat)),o10]/\ab (upd H2 p1 (.lst (wv.take j))) H3) ⟨_,rfl,ab.refl _⟩ ?_ ?_ ?_⟩
     ·rintro m σ H3 _ ⟨_,_,s4⟩;exact SqL.of (s4 _ _ aa)
     ·rintro m x σ H3 hx ⟨o10,rfl,s4⟩;have hml:m<(wv.take j).length:=(aab.mp hx).1;rw[aal] at hml;rw[List.getElem?_take_of_lt (by omega)] at hx;obtain⟨um,hum,hrm⟩:=aW hwv m x hx;have hrm:RT H x um:=hrm;have hums:=Tr.l5 hum;refine⟨_,rfl,_,rfl,x,um,rfl,(hrm.mono s3).mono s4,by omega,fun ql H5 s5 _ hql=>?_⟩;have hql:H5 ql=some (.lst (um.words.map V.str)):=hql;refine⟨ql,_,rfl,.inl (SqL.of hql),_,_,rfl,rfl,some x,?_,s4.trans s5⟩;show [_,_,_,_,_,_,_,_,some (V.int (((A+(Tr.aR (pu.take m)).length:Nat):Int)+(((um.words.map V.str).length:Nat):Int))),_,_]=_;rw[aaa,aap,hum];rw[show(some um).toList=[um] from rfl,Tr.pT,aag,←Nat.add_assoc];push_cast;rfl
     ·rintro σ H3 ⟨o10,rfl,s4⟩;rw[aal,Nat.min_eq_left (by omega)];exact⟨_,rfl,s3.trans s4⟩
    rintro σ H3 ⟨o10,rfl,s3⟩;have hwj:wv[j]? =some wv[j]:=aae (by omega);obtain⟨uj,huj,hrj⟩:=aW hwv j _ hwj;rw[hju] at huj;cases huj;have hus:=Tr.l5 hju;refine⟨_,rfl,av',_,2,_,rfl,rfl,SqT.of (s3 _ _ hav),ak (j:=2) rfl,_,rfl,lv,_,_,_,rfl,rfl,SqL.of (s3 _ _ hlv),ak hwj,_,u',_,B',_,_,rfl,s3,hrj,by omega,hgo',by omega⟩
   ·rintro σ H2 ⟨v,u,A,B,o9,o10,rfl,s2,hv,husz,hgo,hAB⟩;have hlp:(nats path).length=path.length:=by unfold nats;rw[aaa]
    rw[hlp,List.drop_length] at hgo;obtain⟨e1,e2⟩:=wF hgo;exact⟨v,u,A,_,_,rfl,s2,hv,husz,e1.symm,by omega⟩
  rintro σ H2 ⟨v,u,A,o9,o10,rfl,s2,hv,husz,rfl,rfl⟩;obtain⟨av',lv,wv,rfl,hav,hlv,hwv⟩:=iz hv;refine⟨_,rfl,_,_,_,_,rfl,.tup (s2 _ _ hav),me,_,rfl,aK ?_⟩;refine⟨_,rfl,av',_,0,_,rfl,rfl,SqT.of (s2 _ _ hav),ak (j:=0) rfl,_,rfl,rfl,_,rfl,dE rfl ?_⟩;refine⟨_,rfl,av',_,1,_,rfl,rfl,SqT.of (s2 _ _ hav),ak (j:=1) rfl,_,rfl,rfl,_,rfl,dE rfl ?_⟩;have hww:=Tr.ph (.n (bW (p0::R0)) i0 ps0);refine⟨_,rfl,.ref ax,_,rfl,RT.mono s2 hx,htsz,fun ql H3 s3 _ hql=>?_⟩;have hql:H3 ql=some (.lst ((Tr.words (.n (bW (p0::R0)) i0 ps0)).map V.str)):=hql;refine⟨(show 1<=sizeLine by decide),fun pe hpe=>?_⟩;have v1:=ab.upd (o:=HO.lst [V.str ""]) hpe;refine⟨ql,pe,_,_,rfl,rfl,v1 _ _ hql,aa,Nat.le_of_lt (lA (by rw[aaa];show _+1<=_;omega)),fun pc hpc=>?_⟩;have v2:=ab.upd (o:=HO.lst ((Tr.words (.n (bW (p0::R0)) i0 ps0)).map V.str++[V.str ""])) hpc;have hget:((Tr.words (.n (bW (p0::R0)) i0 ps0)).map V.str++[V.str ""])[A]? =some (.str z):=by
   rw[show(Tr.words (.n (bW (p0::R0)) i0 ps0)).map V.str++[V.str ""]=((Tr.words (.n (bW (p0::R0)) i0 ps0))++[("":Str)]).map V.str by rw[aam];rfl,aax,hwd];rfl
  refine⟨_,rfl,pc,_,_,_,rfl,rfl,SqL.of aa,ak hget,_,rfl,rfl,?_⟩;show Q (.bl (decide (V.str z=V.str z))) _;rw[aan rfl];exact k _ ((s2.trans s3).trans (v1.trans v2))
end
end Nw
namespace Nw
open PySem L2
open SL (ap srt)
abbrev wG:Stmt:=top 57
theorem jK:aJ ["_law_script","_law_rows","_law_more","_law_found","_law_told"] ["_law_script"] (aw wG):=⟨rfl,rfl,rfl,by decide +kernel,rfl,by decide +kernel,by decide +kernel⟩
def nC(K:PySem.W.Frag)(TP:Addr):Sp:=fun vs H Q _=>∃(a:Addr) (ns:List Int),vs=[.ref a]/\SqL K H a (ns.map V.int)/\ns.length<=63/\cB TP iV tmQ H/\∀H',Q (.bl true) H'
theorem boot_sum:bootBuiltins "sum"=some (.builtin "sum"):=by decide +kernel
def w8:List Row:=[("A",["t"]),("A",["B","x"]),("B",["A","u"]),("S",["A"]),("B",["b","B"])]
theorem wH:∀p∈w8,p.1∈ip/\p.2.length<=14/\∀x∈p.2,x="b"\/x∈du:=by decide +kernel
theorem AJ:("b":Str)≠"":=by decide +kernel
theorem uA{H:Hp}{q:Addr}{R:List Row}{vs:List V}{p:Row}{v:V}(hq:H q=some (.lst vs))(hp:Paired (df H) vs R)(hne:R≠[])(hv:df H v p):bt (upd H q (.lst (vs++[v]))) q (R++[p]):=by
 have nt:∀{t':Addr} {xs:List V},H t'=some (.tup xs)->t'≠q:=fun{t' xs} e z=>by rw[z,hq] at e;cases e
 have nb:∀{b':Addr} {rs:List Str},aA H b' rs->b'≠q:=fun{b' rs} e=>p9 hp hne hq e
 exact⟨_,aa,cm (Paired.bT hp fun _ _ ⟨t',b',q1,q2,q3⟩=>⟨t',b',q1,by rw[aj (nt q2)];exact q2,by unfold aA;rw[aj (nb q3)];exact q3⟩)
  (let ⟨t',b',q1,q2,q3⟩:=hv;⟨t',b',q1,by rw[aj (nt q2)];exact q2,by unfold aA;rw[aj (nb q3)];exact q3⟩)⟩
theorem Ag{R:List Row}(h:Drawn 4 R){f:Ren}(hf:f=[]\/f=ft\/f=fu):∀p∈R.map (bM f),p.1≠"":=fun p' hp'=>by
 obtain⟨p,hp,rfl⟩:=aao.mp hp';refine uu hf fun z=>?_
 have:=h.lf p hp;rw[z] at this
 revert this
 decide +kernel
theorem wI{H:Hp}{R:List Row}{U:List Us}{v:V}(h:Told H R U v):∃t c x xs,v=.ref t/\H t=some (.tup (.str c::x::xs)):=by
 rcases h with ⟨_,h⟩|⟨e,n1,n2,rest,t,x,y,x1,x2,y1,y2,_,_,rfl,ht,_⟩
 ·unfold lw at h;cases h with
  |@tup a xs ds h1 h2 h3=>
   match xs,h2,h1,h3 with
   |[x0,x1],_,h1,h3=>
    have:=h3 0 x0 (.str "table") rfl rfl;cases this
    exact⟨_,_,_,_,rfl,h1⟩
 ·exact⟨_,_,_,_,rfl,ht⟩
theorem r6{H:Hp}{U:List Us}{v:V}(h:Rep H v (lw U)):∃t x,v=.ref t/\H t=some (.tup [.str "table",x]):=by
 unfold lw at h;cases h with
 |@tup a xs ds h1 h2 h3=>
  match xs,h2,h1,h3 with
  |[x0,x1],_,h1,h3=>
   have:=h3 0 x0 (.str "table") rfl rfl;cases this
   exact⟨_,_,rfl,h1⟩
section
variable {P:Program}{w:World}{K:PySem.W.Frag}{mg:Str->Option Value}{base:Heap}
theorem zC{TP f:Addr}{fd:FuncData}(F:Fun K "law" "law" wG f fd)(T:Txt mg)(dDrawn:Def P w K mg base "_law_drawn_rows" 2 ["_law_cells","_law_wild"] lW)(dRoom:Def P w K mg base "_law_room" 1 ["_law_script","_law_most","_law_bound"] (oQ K))
  (dAt:Def P w K mg base "_law_at" 1 ["_law_script","_law_k"] (wp K))(dRen:Def P w K mg base "_law_renamed" 1 ["_law_rows","_law_cell"] ri)
  (dTof:Def P w K mg base "table_of" 9 ["rows"] (rV TP))(dSho:Def P w K mg base "_law_shows" 3 ["_law_told","_law_rows","_law_left","_law_word"] rZ):be P w K mg base CX0 10 f fd ["_law_script"] (nC K TP):=by
 refine F.ok jK (fun vs H Q E h=>?_) (fun cdv A outer s H vs Q E hr h=>?_)
 ·obtain⟨a,ns,rfl,_⟩:=h;rfl
 ·obtain⟨a,ns,rfl,hS,hl63,hT,k⟩:=h;have hr3:bC 3 _:=hr.mono (by decide);have hr2:bC 2 _:=hr.mono (by decide);have hr1:bC 1 _:=hr.mono (by decide);refine exI ⟨_,cv (.of (aq (i:=1) jK.nd rfl (Or.inl rfl) (aB dDrawn hr2 (by rfl) (ad (dD eR (pv 0) (dN am) (dN (bN eY am (aB dRoom hr1 (by rfl) (ad (pv 0) (ad am (ad am ac)))))))
     (ad fF ac)))))
   (cv (dM (i:=2) jK.nd rfl (Or.inl rfl) (bA (aG (eI (aG aE (aG (bA (aG aE aM)) aM)))
    (aG (eI (aG aE (aG (bA (aG aE (aG aE aM))) aM))) (aG (eI (aG aE (aG (bA (aG aE (aG aE aM))) aM)))
    (aG (eI (aG aE (aG (bA (aG aE aM)) aM))) (aG (eI (aG aE (aG (bA (aG aE (aG aE aM))) aM))) aM)))))))
   (cv (.of (bv (bZ PySem.F.plainAttrs_list PySem.F.slot_list_append PySem.F.type_list_append bf (pv 1) (ad (aC (r:=eZ K) bn (pv 2) (bN eE (aB dAt hr1 (by rfl) (ad (pv 0) (ad am ac))) am) (fun _ _=>rfl)) ac))))
   (cv (.of (aq (i:=1) jK.nd rfl (Or.inl rfl) (aB dRen hr1 (by rfl) (ad (pv 1) (ad (au (uZ rfl) (by rfl) T.sum boot_sum (ad (dD eR (pv 0) eQ (dN am)) ac)) ac)))))
   (cv (.of (aq (i:=3) jK.nd rfl (Or.inl rfl) (aB dTof hr (by rfl) (ad (dj (bq.none (N:=["_law_row"]) (sel:=[none]) (by rfl) (by rfl) (by rfl) (by decide) (by decide) (by rfl) (by decide)) rfl (aO (pv 1)) (fun s₃ H₃ fp=>az (i:=0) (show(["_law_row"]:List Str).Nodup by decide) rfl (Or.inl rfl)) (fun s₃ H₃ fp=>di)
    (fun s₃ H₃ fp=>aZ (ad (aC (r:=j1 K) aF (pv 0) am (fun _ _=>rfl)) (ad (dy (X:=cD _ _ _ _ _ _ _) (T:="list") (r:=qx K) pS (by rfl) T.lst (by decide +kernel) (ad (aC (r:=j1 K) aF (pv 0) am (fun _ _=>rfl)) ac)) ac)))) ac))))
   (cV (.of (a7 (PW.pt (ci (b8 (ba (au a0 (by rfl) T.isi boot_isinstance (ad (pv 3) (ad (a9 (v:=.ty "tuple") (by rfl) T.tup dG rfl) ac)))))
     (ci (aL jy (au aV (by rfl) T.len PySem.boot_len (ad (pv 3) ac)) am (aY _))
     (c7 (b8 (ba (au a0 (by rfl) T.isi boot_isinstance (ad (aC aF (pv 3) am (fun _ _=>rfl)) (ad (a9 (v:=.ty "str") (by rfl) T.str dJ rfl) ac))))))))) a8 aT))
   (cV (.of (a7 (aL jx (aC aF (pv 3) am (fun _ _=>rfl)) fN (aY _)) (ag (aQ (hV jx (au aV (by rfl) T.len PySem.boot_len (ad (pv 3) ac)) am (aY _)))) aT))
   (cV (.of (a7 (PW.pt (ci (aL dC (aC aF (pv 3) am (fun _ _=>rfl)) fN (aY _))
     (ci (aL dC (au aV (by rfl) T.len PySem.boot_len (ad (pv 3) ac)) am (aY _))
     (c7 (b8 (ba (au a0 (by rfl) T.isi boot_isinstance (ad (aC aF (pv 3) am (fun _ _=>rfl)) (ad (a9 (v:=.ty "str") (by rfl) T.str dJ rfl) ac))))))))) a8 aT))
   (cV (.of (a7 (b8 (ba (au a0 (by rfl) T.isi boot_isinstance (ad (aC aF (pv 3) am (fun _ _=>rfl)) (ad (a9 (v:=.ty "str") (by rfl) T.str dJ rfl) ac))))) a8 aT))
   (cv (.of (bb PassesOwn.never rfl (aO (bx (ad (aC aF (pv 3) am (fun _ _=>rfl)) (ad (aC aF (pv 3) am (fun _ _=>rfl)) ac)))) (az (i:=4) jK.nd rfl (Or.inl rfl))
    (ag (a7 (b8 (ba (aB dSho hr3 (by rfl) (ad (pv 4) (ad (pv 1) (ad (aC aF (pv 3) am (fun _ _=>rfl)) (ad (aC aF (pv 3) am (fun _ _=>rfl)) ac))))))) a8 aT))))
   (eV (.of (aQ (hV jy (aC aF (aC aF (pv 3) am (fun _ _=>rfl)) am (fun _ _=>rfl)) (aC aF (aC aF (pv 3) am (fun _ _=>rfl)) am (fun _ _=>rfl)) (aY _)))))))))))))),?_⟩
  refine⟨fun σ H1=>∃q R,σ=[some (.ref a),some (.ref q),none,none,none]/\ab H H1/\H q=none/\bt H1 q R/\Drawn 3 R,?_,?_⟩
  ·refine⟨_,rfl,1,rfl,_,rfl,a,_,.int 3,.int 7,rfl,hS,by rw[aaa];exact hl63,_,_,rfl,rfl,4,rfl,a,_,rfl,hS,fun p hp=>?_⟩;obtain⟨ms,e,hm⟩:=ww ns 1 4;have e:de (ns.map V.int) (some 1) (some 4)=ms.map V.int:=e;rw[e];have sp:=ab.upd (o:=HO.lst (ms.map V.int)) hp;exact⟨p,ms,_,rfl,aa,by omega,fun q R H' s' hq hR dr=>⟨q,R,rfl,sp.trans s',sp.free hq,hR,dr.toK (by omega)⟩⟩
  rintro σ H1 ⟨q0,R0,rfl,s1,hq0,hR0,dr⟩;refine⟨fun σ H2=>∃m vs,σ=[some (.ref a),some (.ref q0),some (.ref m),none,none]/\ab H1 H2/\H2 m=some (.lst vs)/\Paired (df H2) vs w8,?_,?_⟩
  ·refine⟨(show 1<=sizeLine by decide),fun b1 hb1=>⟨(show 2<=sizeLine by decide),fun t1 ht1=>⟨(show 2<=sizeLine by decide),fun b2 hb2=>⟨(show 2<=sizeLine by decide),fun t2 ht2=>
    ⟨(show 2<=sizeLine by decide),fun b3 hb3=>⟨(show 2<=sizeLine by decide),fun t3 ht3=>⟨(show 1<=sizeLine by decide),fun b4 hb4=>⟨(show 2<=sizeLine by decide),fun t4 ht4=>⟨(show 2<=sizeLine by decide),fun b5 hb5=>⟨(show 2<=sizeLine by decide),fun t5 ht5=>⟨(show 5<=sizeLine by decide),fun ar har=>?_⟩⟩⟩⟩⟩⟩⟩⟩⟩⟩⟩
   have s1:=ab.upd (o:=HO.lst [V.str "t"]) hb1;have s2:=ab.upd (o:=HO.tup [V.str "A",V.ref b1]) ht1;have s3:=ab.upd (o:=HO.lst [V.str "B",V.str "x"]) hb2;have s4:=ab.upd (o:=HO.tup [V.str "A",V.ref b2]) ht2;have s5:=ab.upd (o:=HO.lst [V.str "A",V.str "u"]) hb3;have s6:=ab.upd (o:=HO.tup [V.str "B",V.ref b3]) ht3;have s7:=ab.upd (o:=HO.lst [V.str "A"]) hb4;have s8:=ab.upd (o:=HO.tup [V.str "S",V.ref b4]) ht4;have s9:=ab.upd (o:=HO.lst [V.str "b",V.str "B"]) hb5;have s10:=ab.upd (o:=HO.tup [V.str "B",V.ref b5]) ht5;have s11:=ab.upd (o:=HO.lst [V.ref t1,V.ref t2,V.ref t3,V.ref t4,V.ref t5]) har;have u10:=s10.trans s11;have u9:=s9.trans u10;have u8:=s8.trans u9;have u7:=s7.trans u8;have u6:=s6.trans u7;have u5:=s5.trans u6;have u4:=s4.trans u5;have u3:=s3.trans u4;have u2:=s2.trans u3;refine⟨ar,[V.ref t1,V.ref t2,V.ref t3,V.ref t4,V.ref t5],rfl,s1.trans u2,aa,?_⟩;exact .cons ⟨t1,b1,rfl,u3 _ _ aa,u2 _ _ aa⟩ (.cons ⟨t2,b2,rfl,u5 _ _ aa,u4 _ _ aa⟩ (.cons ⟨t3,b3,rfl,u7 _ _ aa,u6 _ _ aa⟩
    (.cons ⟨t4,b4,rfl,u9 _ _ aa,u8 _ _ aa⟩ (.cons ⟨t5,b5,rfl,s11 _ _ aa,u10 _ _ aa⟩ .nil))))
  rintro σ H2 ⟨m,vm,rfl,s2,hm,hpm⟩;refine⟨fun σ H3=>∃R,σ=[some (.ref a),some (.ref q0),some (.ref m),none,none]/\ab H H3/\bt H3 q0 R/\Drawn 4 R,?_,?_⟩
  ·obtain⟨vs0,hv0,hp0⟩:=hR0.mono s2;have s12:=s1.trans s2;refine⟨_,rfl,.inl ⟨rfl,_,SqL.of hv0⟩,_,rfl,_,rfl,a,ns,0,rfl,s12.seq hS,fun c=>⟨_,_,rfl,rfl,(show(0:Int)<5 by decide),?_⟩⟩;have hlm:vm.length=5:=Paired.length hpm;obtain⟨j,hj,ej⟩:∃j:Nat,j<5/\c % 5=(j:Int):=⟨(c % 5).toNat,by omega,by omega⟩;have hvj:vm[j]? =some vm[j]:=aae (by omega);obtain⟨p,hpj,hrp⟩:=aW hpm j _ hvj;obtain⟨g1,g2,g3⟩:=wH p (aah hpj);have hR0ne:R0≠[]:=by
    obtain⟨mm,e,_⟩:=dr.sh;rw[e];intro z;cases z
   have hl0:vs0.length<=6:=by
    obtain⟨mm,e,hmm⟩:=dr.sh;rw[Paired.length hp0,e,aag];show 3+mm.length<=6;omega
   refine⟨m,vm,_,_,rfl,rfl,SqL.of hm,by rw[ej];exact ak hvj,q0,vs0,_,rfl,rfl,hv0,aD (by omega),R0++[p],rfl,s12.bK hq0,uA hv0 hp0 hR0ne hrp,dr.add g1 g2 g3 AJ⟩
  rintro σ H3 ⟨R1,rfl,s3,hR1,dr1⟩;refine⟨fun σ H4=>∃q R,σ=[some (.ref a),some (.ref q),some (.ref m),none,none]/\ab H H4/\bt H4 q R/\Good R/\Tight R/\iB R/\(∀p∈R,¬("":Str)∈p.2)/\(∀p∈R,p.1≠"")/\R≠[],?_,?_⟩
  ·obtain⟨ms,e,hm⟩:=wy ns 2;have e:de (ns.map V.int) none (some 2)=ms.map V.int:=e;refine⟨_,rfl,_,rfl,2,rfl,a,_,rfl,s3.seq hS,fun p hp=>?_⟩;rw[e];have sp:=ab.upd (o:=HO.lst (ms.map V.int)) hp;have hlR:R1.length<=20:=by
    obtain⟨m,e,hm⟩:=dr1.sh;rw[e,aag];show 3+m.length<=20;omega
   refine⟨p,ms,rfl,SqL.of aa,q0,_,R1,rfl,hR1.mono sp,hlR,fun p hp=>Nat.le_trans (dr1.wd p hp) (by decide),fun q f H' s' hf hR=>?_⟩;refine⟨q,_,rfl,(s3.trans sp).trans s',hR,xM dr1 hf,wz dr1 f,ut dr1 f,mY dr1 hf,Ag dr1 hf,fun z=>?_⟩;obtain⟨mm,e,_⟩:=dr1.sh;rw[e] at z;cases z
  clear dr1 hR1 s3 R1 hR0 dr hq0 s1 s2 hm hpm;rintro σ H4 ⟨q,R,rfl,s4,hR,gd,tg,s3R,hne,hle,hRne⟩;have sm:=gd.small;have hR14:=sm.len;obtain⟨vs,hv,hp⟩:=id hR;have hlen:vs.length=R.length:=Paired.length hp;refine⟨fun σ H6=>∃v U,σ=[some (.ref a),some (.ref q),some (.ref m),some v,none]/\bt H6 q R/\lm R U/\Told H6 R U v,?_,?_⟩
  ·refine⟨_,rfl,q,rfl,⟨_,SqL.of hv⟩,fun D hD=>cO (K:=K) (xs:=vs) (fun i τ H3=>(∃o,τ=[o])/\ab H4 H3/\∃us,eJ H3 D us (R.take i)) ⟨⟨_,rfl⟩,ab.upd hD,[],eJ.nil⟩ ?_ ?_ ?_⟩
   ·rintro i τ H3 ⟨_,s3,_⟩;exact SqL.of (s3 _ _ hv)
   ·rintro i x τ H3 hx ⟨⟨o,rfl⟩,s3,us,rb⟩;obtain⟨p,t,b,hpi,rfl,ht,hb⟩:=cS hp hx;have ht3:=s3 _ _ ht;have hb3:H3 b=some (.lst (p.2.map V.str)):=s3 _ _ hb;have hil:i<R.length:=(aab.mp hpi).1;refine⟨_,rfl,t,_,0,_,rfl,rfl,SqT.of ht3,ak (j:=0) rfl,_,rfl,t,_,1,_,rfl,rfl,SqT.of ht3,ak (j:=1) rfl,b,_,rfl,.inl (SqL.of hb3),fun l hl=>⟨(show 2<=sizeLine by decide),fun t' ht'=>?_⟩⟩;have sl:=ab.upd (o:=HO.lst (p.2.map V.str)) hl;have st:=ab.upd (o:=HO.tup [V.str p.1,V.ref l]) ht';have rb':=rb.mono (sl.trans st);have hlD:l≠D:=Ne.symm (L2.aP rb.at_ hl);have hus:us.length<=20:=by
     have:=Paired.length rb.pr;rw[aal] at this;omega
    refine⟨us,rb'.at_,aD (by omega),⟨_,rfl⟩,(s3.trans (sl.trans st)).bK hD,us++[.ref t'],?_⟩;rw[aap,hpi];exact rb'.snoc aa (st _ _ aa) hlD
   ·rintro τ H5 ⟨_,s5,us,rb⟩;rw[hlen,aas] at rb;have hT5:=hT.mono (s4.trans s5);exact⟨D,R,rfl,rb.rows,gd,tg,s3R,hne,hle,hT5,fun v U H6 hUI _ _ sT hT6 told=>⟨v,U,rfl,pi hT5 sT (hR.mono s5),hUI,told⟩⟩
  rintro σ H6 ⟨v,U,rfl,hR6,hUI,told⟩;obtain⟨t,c,x0,xs0,rfl,ht⟩:=wI told;refine⟨_,rfl,_,_,_,_,rfl,.tup ht,kc,_,rfl,aK ?_⟩;refine⟨_,rfl,t,_,rfl,.inr (SqT.of ht),_,_,rfl,rfl,_,rfl,?_⟩;have e2:decide ((((V.str c::x0::xs0).length:Nat):Int)<2)=false:=aai (by rw[aau,aau];omega);show if decide ((((V.str c::x0::xs0).length:Nat):Int)<2)=true then _ else _
  rw[e2];refine aK ?_;refine⟨_,rfl,t,_,0,_,rfl,rfl,SqT.of ht,ak (j:=0) rfl,_,_,_,_,rfl,.str _,iO,_,rfl,aK ?_⟩;rcases told with ⟨hn,hrep⟩|⟨e,n1,n2,rest,t',x,y,x1,x2,y1,y2,hs,hns,et,ht',hx,hy,sh1,sh2⟩
  ·obtain⟨t2,x2,e,ht2⟩:=r6 hrep;injection e with e;subst e;rw[ht2] at ht;cases ht
   refine⟨_,rfl,t,_,0,_,rfl,rfl,SqT.of ht2,ak (j:=0) rfl,rfl,_,rfl,?_⟩;rw[aan rfl];refine bF ⟨_,rfl,t,_,rfl,.inr (SqT.of ht2),rfl,?_⟩;exact k _
  ·injection et with et;subst et;rw[ht'] at ht;cases ht
   refine⟨_,rfl,t,_,0,_,rfl,rfl,SqT.of ht',ak (j:=0) rfl,rfl,_,rfl,?_⟩;have nct:¬V.str "clash"=V.str "table":=fun e=>by
    injection e with e
    revert e
    decide +kernel
   rw[aai nct];refine aK ?_;refine⟨_,rfl,t,_,0,_,rfl,rfl,SqT.of ht',ak (j:=0) rfl,rfl,_,rfl,dE rfl ?_⟩;refine⟨_,rfl,t,_,rfl,.inr (SqT.of ht'),rfl,_,rfl,dE rfl ?_⟩;refine⟨_,rfl,t,_,1,_,rfl,rfl,SqT.of ht',ak (j:=1) rfl,_,_,_,_,rfl,.str _,iO,_,rfl,aK ?_⟩;refine⟨_,rfl,t,_,2,_,rfl,rfl,SqT.of ht',ak (j:=2) rfl,_,_,_,_,rfl,.str _,iO,_,rfl,aK ?_⟩;refine⟨fun σ H7=>∃o,σ=[some (.ref a),some (.ref q),some (.ref m),some (.ref t),o]/\ab H6 H7,?_,?_⟩
   ·refine⟨_,rfl,t,_,3,_,rfl,rfl,SqT.of ht',ak (j:=3) rfl,_,rfl,t,_,4,_,rfl,rfl,SqT.of ht',ak (j:=4) rfl,(show 2<=sizeLine by decide),fun pl hpl=>?_⟩;have v1:=ab.upd (o:=HO.lst [V.ref x,V.ref y]) hpl;refine⟨pl,rfl,⟨_,SqL.of aa⟩,bc (K:=K) (a:=pl) (xs:=[V.ref x,V.ref y]) (fun i σ H7=>∃o,σ=[some (.ref a),some (.ref q),some (.ref m),some (.ref t),o]/\ab (upd H6 pl (.lst [V.ref x,V.ref y])) H7) ⟨_,rfl,ab.refl _⟩ ?_ ?_ ?_⟩
    ·rintro i σ H7 _ ⟨_,_,s7⟩;exact SqL.of (s7 _ _ aa)
    ·rintro i v σ H7 hv' ⟨o,rfl,s7⟩;have s67:=v1.trans s7;obtain⟨b,n,w1,w2,rfl,hb,shb⟩:∃(b:Addr) (n:Nat) (w1 w2:V),v=.ref b/\H7 b=some (.tup [.int (n:Nat),w1,w2])/\dw H7 R e.1.1 n e.1.2 w1 w2:=by
      rcases i with _|_|i
      ·cases hv';exact⟨x,n1,x1,x2,rfl,s67 _ _ hx,sh1.mono s67⟩
      ·cases hv';exact⟨y,n2,y1,y2,rfl,s67 _ _ hy,sh2.mono s67⟩
      ·simp at hv'
     refine⟨_,rfl,_,rfl,_,rfl,t,_,1,_,rfl,rfl,SqT.of (s67 _ _ ht'),ak (j:=1) rfl,_,rfl,t,_,2,_,rfl,rfl,SqT.of (s67 _ _ ht'),ak (j:=2) rfl,b,q,e.1.1,e.1.2,R,n,w1,w2,rfl,hb,hR6.mono s67,hRne,sm,shb,fun H8 s8=>⟨_,rfl,aK ⟨_,rfl,s7.trans s8⟩⟩⟩
    ·rintro σ H7 ⟨o,rfl,s7⟩;exact⟨o,rfl,v1.trans s7⟩
   rintro σ H7 ⟨o,rfl,s7⟩;refine⟨_,rfl,t,_,3,_,rfl,rfl,SqT.of (s7 _ _ ht'),ak (j:=3) rfl,x,_,0,_,rfl,rfl,SqT.of (s7 _ _ hx),ak (j:=0) rfl,_,rfl,t,_,4,_,rfl,rfl,SqT.of (s7 _ _ ht'),ak (j:=4) rfl,y,_,0,_,rfl,rfl,SqT.of (s7 _ _ hy),ak (j:=0) rfl,_,_,rfl,rfl,?_⟩;have hem:e∈U:=List.mem_of_find?_eq_some hs;have hlt:n1<n2:=by
    have:=hUI.asc e hem;rw[hns] at this;exact(List.pairwise_cons.mp this).1 n2 (aac ..)
   show Q (.bl (decide (((n1:Nat):Int)<((n2:Nat):Int)))) _;rw[aan (by omega)];exact k _
end
end Nw
namespace L2
open PySem PySem.W PySem.Spec PyProof.Rows
theorem uB{P:Program}{w:World}{K:Frag}{mg mb:Str->Option Value}{k:Nat}{fa a c0 TP:Addr}{fd:FuncData}{x:Str}{sp:Sp}{s₁:Shared}{vs:List Value}{ns:List Int}
  (KX:K.In s₁.heap)(hns:s₁.heap.Ns mainGlobals mg)(hb:s₁.heap.Ns builtinsNs mb)(hbb:∀x:Str,x≠"__name__"->mb x=bootBuiltins x)(hlim:s₁.heap.NoLimit)(hg:s₁.gens=#[])
  (ha:s₁.heap.get? a=some {cls:=.type "list",data:=.seq vs.toArray})(hi:IntsAre vs ns)(hl:ns.length<=sizeLine)(hr:bC k callerA)
  (hP:s₁.heap.get? TP=some (tabObj #[]))(hPK:K.lookup TP=none)(hcd:codeHdIn K c0 TP=true)(hbm:Bm mg s₁.heap)
  (F:∀base:Heap,K.In base->base.Ns mainGlobals mg->CodeHd base c0 TP->Bm mg base->be P w K mg base CX0 k fa fd [x] sp)(hbind:∀(s:Shared) (u:Value),BindsTo s fd ⟨[u],[]⟩ [(x,u)])
  (hsp:∀H:Hp,H TP=some (.tbl #[])->SqL K H a (ns.map V.int)->sp [.ref a] H (fun v _=>v=.bl true) fun _ _ _=>False) :
  codeAny (model P w) callerA (.call (.ref fa) ⟨[.ref a],[]⟩) (fun r s'=>r=.ok (.ret (.bool true))/\OldK s₁.heap s'.heap/\s'.os=s₁.os/\AllBare s'.gens) s₁:=by
 have rv:=mo hi;have lenV:=hi.length;have naP:a≠TP:=fun z=>by
  rw[z,hP] at ha;cases ha
 have isT:isCodeTable s₁.heap TP:=by
  obtain⟨o,us,_,_,_,_,_,_,_,h1,h2,h3,h4,_⟩:=codeHd_of_K KX hcd;exact⟨c0,o,us,h1,h2,h3,h4⟩
 have core:∀H:Hp,(∀b,H b=none\/(∃o xs,H b=some (.frz o (.lst xs)))\/b=TP)->SqL K H a (ns.map V.int)->HOk P w H s₁.heap->(∀b,H b≠none->b=a\/b=TP)->(H a≠none->K.lookup a=none)->H TP=some (.tbl #[])->
   codeAny (model P w) callerA (.call (.ref fa) ⟨[.ref a],[]⟩) (fun r s'=>r=.ok (.ret (.bool true))/\OldK s₁.heap s'.heap/\s'.os=s₁.os/\AllBare s'.gens) s₁:=by
  intro H hO hS hok hA hK hTP;have base_of:∀{b:Addr} {o:Obj},s₁.heap.get? b=some o->H b=none->(g6 s₁.heap H).get? b=some o:=fun e n=>uC e n
  have noB:∀{b:Addr} {o:Obj},s₁.heap.get? b=some o->(∀us n,o.data≠.seq us n)->(∀us,o.data≠.fields us)->H b=none:=fun{b o} e d1 d2=>by
   cases q:H b with
   |none=>rfl
   |some u=>
    rcases hA b (by rw[q];simp) with e'|e'
    ·subst e';rw[ha] at e;cases e;exact absurd rfl (d1 _ _)
    ·subst e';rw[hP] at e;cases e;exact absurd rfl (d2 _)
  have nsK:∀{b:Addr} {m:Str->Option Value},s₁.heap.Ns b m->(g6 s₁.heap H).Ns b m:=fun{b m} ⟨o,es,ep,e,d,r⟩=>⟨o,es,ep,base_of e (noB e (fun _ _ z=>by rw[d] at z;cases z) fun _ z=>by rw[d] at z;cases z),d,r⟩
  have hKb:K.In (g6 s₁.heap H):=fun b o e=>base_of (KX b o e) (by
   cases q:H b with
   |none=>rfl
   |some u=>
    rcases hA b (by rw[q];simp) with e'|e'
    ·subst e';rw[hK (by rw[q];simp)] at e;cases e
    ·subst e';rw[hPK] at e;cases e)
  have hBm:Bm mg (g6 s₁.heap H):=by
   obtain⟨bm,ob,b1,b2,b3,b4,b5,b6⟩:=hbm;exact⟨bm,ob,b1,b2,base_of b3 (noB b3 (fun _ _ z=>by rw[b6] at z;cases z) fun _ z=>by rw[b6] at z;cases z),b4,b5,b6⟩
  have hM:Mod K mg (g6 s₁.heap H):=⟨hKb,nsK hns,⟨mb,nsK hb,hbb⟩,let ⟨mc,h1,h2⟩:=hlim;⟨mc,nsK h1,h2⟩⟩;have e0:qF P w K mg (g6 s₁.heap H) callerA [] s₁ H:=⟨rfl,hM,fun b o e=>xc e,Nat.le_of_eq (si _ _),trivial,fun b hb=>absurd (show b∈([]:List Addr) from hb) (by simp),hok,.of_eq hg⟩;refine codeAny_mono ((F _ hKb (nsK hns) (codeHd_of_K hKb hcd) hBm).run callerA [] s₁ H ⟨[.ref a],[]⟩ [.ref a] [.ref a] _ _ hr e0 (hbind s₁ (.ref a)) (.cons rfl .nil) (hsp H hTP hS)) fun r s' h=>?_
  cases r with
  |error e=>exact False.elim h
  |ok fl=>
   cases fl with
   |next=>exact False.elim h
   |brk=>exact False.elim h
   |cont=>exact False.elim h
   |ret u=>
    obtain⟨v,H',os,bare,un,hok',r',q⟩:=h;have q':v=.bl true:=q;subst q';obtain rfl:u=Value.bool true:=r';have all:∀b o,s₁.heap.get? b=some o->b≠TP->s'.heap.get? b=some o:=fun b o e nb=>by
     cases q:H b with
     |none=>exact un.keep b o e q (by intro z;exact absurd (show b∈([]:List Addr) from z) (by simp)) (by simp)
     |some u=>
      rcases hO b with z|⟨ob,xs,z⟩|z
      ·rw[q] at z;cases z
      ·have z2:=un.frzs b ob _ z;obtain⟨e1,_⟩:=hok b _ z;obtain⟨e2,_⟩:=hok' b _ z2;rw[e] at e1;cases e1;exact e2
      ·exact absurd z nb
    obtain⟨more,hT'⟩:=un.tbls TP _ hTP;have hT2:s'.heap.get? TP=some {cls:=.none,data:=.fields (#[]++more)}:=hok' TP _ hT';refine⟨rfl,⟨fun b o e=>?_,fun b o e=>?_⟩,os,bare⟩
    ·by_cases nb:b=TP
     ·subst nb;rw[hP] at e;cases e;exact .inr (.inl ⟨isT,rfl,#[],more,rfl,hT2⟩)
     ·exact .inl (all b o e nb)
    ·by_cases nb:b=TP
     ·subst nb;exact⟨_,hT2⟩
     ·exact⟨o,all b o e nb⟩
 have tOk:∀{H:Hp},bi P w H s₁.heap TP (.tbl #[]):=fun{H}=>hP
 cases hk:K.lookup a with
 |some o=>
  have e:=KX a o hk;rw[ha] at e;cases e
  refine core (fun b=>if b=TP then some (.tbl #[]) else none) (fun b=>?_) (.inr ⟨_,vs.toArray,_,hk,rfl,rfl,rfl,by rw[aaq,lenV];exact hl,by simpa using rv⟩) (fun b u z=>?_) (fun b z=>?_) (fun z=>absurd (if_neg naP) z) (if_pos rfl)
  ·by_cases hb:b=TP
   ·exact .inr (.inr hb)
   ·exact .inl (if_neg hb)
  ·by_cases hb:b=TP
   ·have z':=(if_pos hb).symm.trans z;cases z'
    subst hb;exact tOk
   ·have z':=(if_neg hb).symm.trans z;cases z'
  ·by_cases hb:b=TP
   ·exact .inr hb
   ·exact absurd (if_neg hb) z
 |none=>
  refine core (fun b=>if b=TP then some (.tbl #[]) else if b=a then some (.frz {cls:=.type "list",data:=.seq vs.toArray} (.lst (ns.map V.int))) else none) (fun b=>?_) (.inl (.inr ⟨{cls:=.type "list",data:=.seq vs.toArray},by show(if a=TP then _ else if a=a then _ else _)=_;rw[if_neg naP,if_pos rfl]⟩)) (fun b u z=>?_) (fun b z=>?_) (fun _=>hk) (if_pos rfl)
  ·by_cases hb:b=TP
   ·exact .inr (.inr hb)
   ·by_cases hb':b=a
    ·exact .inr (.inl ⟨_,_,by show(if b=TP then _ else if b=a then _ else _)=_;rw[if_neg hb,if_pos hb']⟩)
    ·exact .inl (by show(if b=TP then _ else if b=a then _ else _)=_;rw[if_neg hb,if_neg hb'])
  ·have z:(if b=TP then some (HO.tbl #[]) else if b=a then some (.frz {cls:=.type "list",data:=.seq vs.toArray} (.lst (ns.map V.int))) else none)=some u:=z
   by_cases hb:b=TP
   ·rw[if_pos hb] at z;cases z
    subst hb;exact tOk
   ·rw[if_neg hb] at z
    by_cases hb':b=a
    ·rw[if_pos hb'] at z;cases z
     subst hb';exact⟨ha,by rw[aaa];exact hl,vs,_,rv,ha⟩
    ·rw[if_neg hb'] at z;cases z
  ·by_cases hb:b=TP
   ·exact .inr hb
   ·by_cases hb':b=a
    ·exact .inl hb'
    ·exact absurd (show(if b=TP then some (HO.tbl #[]) else if b=a then _ else none)=none by rw[if_neg hb,if_neg hb']) z
theorem wJ{l:OpenLaw}{n k:Nat}{q:Program}{loose:List Str}{XP:(Str->Option Value)->Heap->Prop}{YP:World->Heap->Prop}{d:DefRec}{K:Params->Frag}{sp:World->Sp}{x:Str}{TP:Addr}
  (hn:l.most=some n)(hn2:n<=sizeLine)(hdf:d.params.defaults=[])(hr:bC k callerA)
  (hY:∀(w:World) (h:Heap),YP w h->(K w.params).In h)(hYT:∀(w:World) (h:Heap),YP w h->h.get? TP=some (tabObj #[]))
  (F:∀(w:World) (mg:Str->Option Value) (fa:Addr) (h:Heap),(K w.params).In h->h.Ns mainGlobals mg->mg d.name=some (.ref fa)->
   ∃(fd:FuncData) (c0:Addr),(∀(s:Shared) (u:Value),BindsTo s fd ⟨[u],[]⟩ [(x,u)])/\(K w.params).lookup TP=none/\codeHdIn (K w.params) c0 TP=true/\
    ∀base:Heap,(K w.params).In base->base.Ns mainGlobals mg->CodeHd base c0 TP->Bm mg base->be l.prog w (K w.params) mg base CX0 k fa fd [x] (sp w))
  (hsp:∀(w:World) (H:Hp) (a:Addr) (ns:List Int),ns.length<=n->H TP=some (.tbl #[])->SqL (K w.params) H a (ns.map V.int)->sp w [.ref a] H (fun v _=>v=.bl true) fun _ _ _=>False) :
  WalkO q loose XP YP l.row.toRowW d [] (fun f vs=>PySem.call f vs):=by
 refine Att.pO hn hdf fun w s₀ s₁ mg mb fa o pm cd doc a vs ns G Y ho hd hcd hmg hobj hints hlen hg=>?_
 have KX:=hY w _ Y;obtain⟨fd,c0,hb,hPK,hcd',hF⟩:=F w mg fa _ KX G.T.g hmg;have hbm:Bm mg s₁.heap:=by
  have:=G.T.bmain;exact this
 exact uB KX G.T.g G.T.b G.T.builtins G.T.nolimit hg hobj hints (Nat.le_trans hlen hn2) hr (hYT w _ Y) hPK hcd' hbm hF hb fun H hO hS=>hsp w H a ns hlen hO hS
end L2
namespace Nw
open PySem L2
structure Got(K:PySem.W.Frag)(x:Str)(st:Stmt):Prop where
 ex:∃f fd,PySem.W.nsIn K mainGlobals x=some (some (.ref f))/\Fun K x x st f fd
theorem zD{K:PySem.W.Frag}{x:Str}{st:Stmt}{f:Addr}{oc:Value}{od an:Option Addr}{osl:Array (Option Value)}{kV doc pm cdv ct:Value}(a:PySem.W.nsIn K mainGlobals x=some (some (.ref f)))
  (l:K.lookup f=some ⟨oc,od,.func (PySem.W.fnOf x x (gp st) (eT st) (aw st) .none kV doc pm an cdv ct),osl⟩)(c:PySem.W.codeIn K cdv x=true)(k:PySem.W.keepIn K (.ref f)=true):Got K x st:=⟨_,_,a,sZ l c k⟩
theorem Got.def{P:Program}{w:World}{K:PySem.W.Frag}{mg:Str->Option Value}{base h:Heap}{x:Str}{st:Stmt}{k:Nat}{ps:List Str}{sp:Sp}(g:Got K x st)(X:K.In h)(G:h.Ns mainGlobals mg)
  (b:∀{f fd},Fun K x x st f fd->Binds K fd ps [])(ok:∀{f fd},Fun K x x st f fd->be P w K mg base CX0 k f fd ps sp):Def P w K mg base x k ps sp:=by
 obtain⟨f,fd,a,F⟩:=g.ex;exact⟨f,fd,PySem.W.mg_of X G a,F.kp,ok F,b F⟩
structure r8(K:PySem.W.Frag)(x:Str)(st:Stmt)(c0 TP:Addr):Prop where
 ex:∃f fd,PySem.W.nsIn K mainGlobals x=some (some (.ref f))/\Fun K x x st f fd/\fd.code=.ref c0
 hd:PySem.W.codeHdIn K c0 TP=true
 no:K.lookup TP=none
theorem yc{K:PySem.W.Frag}{x:Str}{st:Stmt}{f c0 TP:Addr}{oc:Value}{od an:Option Addr}{osl:Array (Option Value)}{kV doc pm ct:Value}(a:PySem.W.nsIn K mainGlobals x=some (some (.ref f)))
  (l:K.lookup f=some ⟨oc,od,.func (PySem.W.fnOf x x (gp st) (eT st) (aw st) .none kV doc pm an (.ref c0) ct),osl⟩)(c:PySem.W.codeIn K (.ref c0) x=true)(k:PySem.W.keepIn K (.ref f)=true)
  (hd:PySem.W.codeHdIn K c0 TP=true)(no:K.lookup TP=none):r8 K x st c0 TP:=⟨⟨_,_,a,sZ l c k,rfl⟩,hd,no⟩
theorem r8.def{P:Program}{w:World}{K:PySem.W.Frag}{mg:Str->Option Value}{base h:Heap}{x:Str}{st:Stmt}{c0 TP:Addr}{k:Nat}{ps:List Str}{sp:Sp}(g:r8 K x st c0 TP)(X:K.In h)(G:h.Ns mainGlobals mg)
  (b:∀{f fd},Fun K x x st f fd->Binds K fd ps [])(ok:∀{f fd},Fun K x x st f fd->fd.code=.ref c0->be P w K mg base CX0 k f fd ps sp):Def P w K mg base x k ps sp:=by
 obtain⟨f,fd,a,F,e⟩:=g.ex;exact⟨f,fd,PySem.W.mg_of X G a,F.kp,ok F e,b F⟩
structure wK(K:PySem.W.Frag):Prop where
 srt:PySem.W.nsIn K mainGlobals "sorted"=some none
 set:PySem.W.nsIn K mainGlobals "set"=some none
 all:PySem.W.nsIn K mainGlobals "all"=some none
 lst:PySem.W.nsIn K mainGlobals "list"=some none
 tup:PySem.W.nsIn K mainGlobals "tuple"=some none
 str:PySem.W.nsIn K mainGlobals "str"=some none
 bl:PySem.W.nsIn K mainGlobals "bool"=some none
 int:PySem.W.nsIn K mainGlobals "int"=some none
 len:PySem.W.nsIn K mainGlobals "len"=some none
 rng:PySem.W.nsIn K mainGlobals "range"=some none
 isi:PySem.W.nsIn K mainGlobals "isinstance"=some none
 abs:PySem.W.nsIn K mainGlobals "abs"=some none
 sum:PySem.W.nsIn K mainGlobals "sum"=some none
theorem wK.txt{K:PySem.W.Frag}{h:Heap}{mg:Str->Option Value}(b:wK K)(X:K.In h)(G:h.Ns mainGlobals mg):Txt mg where
 srt:=PySem.W.mg_none_of X G b.srt
 set:=PySem.W.mg_none_of X G b.set
 all:=PySem.W.mg_none_of X G b.all
 lst:=PySem.W.mg_none_of X G b.lst
 tup:=PySem.W.mg_none_of X G b.tup
 str:=PySem.W.mg_none_of X G b.str
 bl:=PySem.W.mg_none_of X G b.bl
 int:=PySem.W.mg_none_of X G b.int
 len:=PySem.W.mg_none_of X G b.len
 rng:=PySem.W.mg_none_of X G b.rng
 isi:=PySem.W.mg_none_of X G b.isi
 abs:=PySem.W.mg_none_of X G b.abs
 sum:=PySem.W.mg_none_of X G b.sum
structure r9(K:PySem.W.Frag)(t0 t1 t2 t3 t4 t5:Nat):Prop where
 whole:PySem.W.nsIn K mainGlobals "WHOLE"=some (some (.str "whole" t0))
 empty:PySem.W.nsIn K mainGlobals "EMPTY"=some (some (.str "empty" t1))
 begin_:PySem.W.nsIn K mainGlobals "BEGIN"=some (some (.str "begin" t2))
 hold:PySem.W.nsIn K mainGlobals "HOLD"=some (some (.str "hold" t3))
 last:PySem.W.nsIn K mainGlobals "LAST"=some (some (.str "last" t4))
 end_:PySem.W.nsIn K mainGlobals "END"=some (some (.str "" t5))
theorem r9.cons{K:PySem.W.Frag}{h:Heap}{mg:Str->Option Value}{t0 t1 t2 t3 t4 t5:Nat}(b:r9 K t0 t1 t2 t3 t4 t5)(X:K.In h)(G:h.Ns mainGlobals mg):Cons mg where
 whole:=⟨_,PySem.W.mg_of X G b.whole,⟨_,rfl⟩⟩
 empty:=⟨_,PySem.W.mg_of X G b.empty,⟨_,rfl⟩⟩
 begin_:=⟨_,PySem.W.mg_of X G b.begin_,⟨_,rfl⟩⟩
 hold:=⟨_,PySem.W.mg_of X G b.hold,⟨_,rfl⟩⟩
 last:=⟨_,PySem.W.mg_of X G b.last,⟨_,rfl⟩⟩
 end_:=⟨_,PySem.W.mg_of X G b.end_,⟨_,rfl⟩⟩
theorem all_mk{l:PySem.W.OpenLaw}{w:World}{K:PySem.W.Frag}{h:Heap}{mg:Str->Option Value}{fa c0 TP:Addr}(X:K.In h)(G:h.Ns mainGlobals mg)(hfa:mg "law"=some (.ref fa))(B:wK K)(B5:PySem.W.nsIn K mainGlobals "enumerate"=some none)(B6:PySem.W.nsIn K mainGlobals "reversed"=some none){t0 t1 t2 t3 t4 t5:Nat}(B3:r9 K t0 t1 t2 t3 t4 t5)
  (g_sorts_of:Got K "sorts_of" j8)
  (g_words_of:Got K "words_of" kb)
  (g_first_sort:Got K "first_sort" oA)
  (g_sorts_made_of:Got K "sorts_made_of" qV)
  (g_sorts_reached:Got K "sorts_reached" oD)
  (g_sorts_in_trees_of_lines:Got K "sorts_in_trees_of_lines" oH)
  (g_check_rows:Got K "check_rows" oI)
  (g_empty_sorts:Got K "empty_sorts" oJ)
  (g_lists_by_sort:Got K "lists_by_sort" oG)
  (g_leading_signs:Got K "leading_signs" qW)
  (g_gathered:Got K "gathered" qX)
  (g_words_to_begin:Got K "words_to_begin" vo)
  (g_can_be_empty:Got K "can_be_empty" vE)
  (g_words_to_begin_signs:Got K "words_to_begin_signs" vF)
  (g_words_behind:Got K "words_behind" vG)
  (g_words_to_use_rows:Got K "words_to_use_rows" wc)
  (g_whole_keys:Got K "whole_keys" sWk)
  (g_empty_keys:Got K "empty_keys" sEk)
  (g_cost_of_keys:Got K "cost_of_keys" vT)
  (g_cheapest_recipes:Got K "cheapest_recipes" vU)
  (g_trees_made:r8 K "trees_made" sTm c0 TP)
  (g_uses_in_order:Got K "uses_in_order" wk)
  (g_first_clash:Got K "first_clash" sFc)
  (g_keys_to_begin:Got K "keys_to_begin" vQ)
  (g_recipes_of_part:Got K "recipes_of_part" vR)
  (g_recipes_of_row:Got K "recipes_of_row" vS)
  (g_path_to_part:Got K "path_to_part" v5)
  (g_use_shown:Got K "use_shown" sUs)
  (g_table_of:Got K "table_of" wn)
  (g__law_any_word:Got K "_law_any_word" vz)
  (g__law_drawn_rows:Got K "_law_drawn_rows" jn)
  (g__law_renamed:Got K "_law_renamed" vD)
  (g__law_all_sorts:Got K "_law_all_sorts" iP)
  (g__law_at:Got K "_law_at" sAt)
  (g__law_room:Got K "_law_room" qZ)
  (g__law_so:Got K "_law_so" sSo)
  (g__law_whole:Got K "_law_whole" wD)
  (g__law_line_of:Got K "_law_line_of" nA)
  (g__law_is_tree:Got K "_law_is_tree" rX)
  (g__law_shows:Got K "_law_shows" wE)
  (g_law:Got K "law" wG):∃(fd:FuncData) (c0:Addr),(∀(s:Shared) (v:Value),BindsTo s fd ⟨[v],[]⟩ [("_law_script",v)])/\K.lookup TP=none/\PySem.W.codeHdIn K c0 TP=true/\∀base:Heap,K.In base->base.Ns mainGlobals mg->PySem.W.CodeHd base c0 TP->Bm mg base->be l.prog w K mg base CX0 10 fa fd ["_law_script"] (nC K TP):=by
 obtain⟨f,fd,a4,F⟩:=g_law.ex;have e:=hfa.symm.trans (PySem.W.mg_of X G a4);cases e
 have T:=B.txt X G;have CC:=B3.cons X G;have hEn:=PySem.W.mg_none_of X G B5;have hRv:=PySem.W.mg_none_of X G B6;obtain⟨uE,hE,rE⟩:=CC.end_;refine⟨fd,c0,?_,g_trees_made.no,g_trees_made.hd,fun base _ _ hCd hBm=>?_⟩
 ·obtain⟨oc,od,kV,doc,pm,an,cdv,ct,osl,rfl,lk,hcd⟩:=F.ex;exact fun s v=>.of_eq rfl
 have d_sorts_of:Def l.prog w K mg base "sorts_of" 1 ["rows"] cF:=g_sorts_of.def X G (fun F=>F.binds fun _ _ _ _ _ _ us hl=>match us,hl with | [_],_=>rfl) (fun F=>qT F T);have d_words_of:Def l.prog w K mg base "words_of" 2 ["rows"] jj:=g_words_of.def X G (fun F=>F.binds fun _ _ _ _ _ _ us hl=>match us,hl with | [_],_=>rfl) (fun F=>qU F T d_sorts_of);have d_first_sort:Def l.prog w K mg base "first_sort" 1 ["rows"] ia:=g_first_sort.def X G (fun F=>F.binds fun _ _ _ _ _ _ us hl=>match us,hl with | [_],_=>rfl) (fun F=>vd F);have d_sorts_made_of:Def l.prog w K mg base "sorts_made_of" 1 ["rows","words"] kK:=g_sorts_made_of.def X G (fun F=>F.binds fun _ _ _ _ _ _ us hl=>match us,hl with | [_,_],_=>rfl) (fun F=>xG F T);have d_sorts_reached:Def l.prog w K mg base "sorts_reached" 1 ["links","sort"] jE:=g_sorts_reached.def X G (fun F=>F.binds fun _ _ _ _ _ _ us hl=>match us,hl with | [_,_],_=>rfl) (fun F=>ve F T);have d_sorts_in_trees_of_lines:Def l.prog w K mg base "sorts_in_trees_of_lines" 2 ["rows"] lO:=g_sorts_in_trees_of_lines.def X G (fun F=>F.binds fun _ _ _ _ _ _ us hl=>match us,hl with | [_],_=>rfl) (fun F=>vg F T d_sorts_of d_sorts_reached d_first_sort);have d_check_rows:Def l.prog w K mg base "check_rows" 3 ["rows"] lR:=g_check_rows.def X G (fun F=>F.binds fun _ _ _ _ _ _ us hl=>match us,hl with | [_],_=>rfl) (fun F=>vh F d_sorts_of d_words_of d_sorts_made_of d_sorts_in_trees_of_lines);have d_empty_sorts:Def l.prog w K mg base "empty_sorts" 4 ["rows"] ii:=g_empty_sorts.def X G (fun F=>F.binds fun _ _ _ _ _ _ us hl=>match us,hl with | [_],_=>rfl) (fun F=>vn F d_check_rows d_sorts_made_of);have d_lists_by_sort:Def l.prog w K mg base "lists_by_sort" 2 ["rows"] jF:=g_lists_by_sort.def X G (fun F=>F.binds fun _ _ _ _ _ _ us hl=>match us,hl with | [_],_=>rfl) (fun F=>vf F T d_sorts_of);have d_leading_signs:Def l.prog w K mg base "leading_signs" 1 ["signs","empties"] kM:=g_leading_signs.def X G (fun F=>F.binds fun _ _ _ _ _ _ us hl=>match us,hl with | [_,_],_=>rfl) (fun F=>xJ F);have d_gathered:Def l.prog w K mg base "gathered" 2 ["own","links"] kN:=g_gathered.def X G (fun F=>F.binds fun _ _ _ _ _ _ us hl=>match us,hl with | [_,_],_=>rfl) (fun F=>xK F T d_sorts_reached);have d_words_to_begin:Def l.prog w K mg base "words_to_begin" 5 ["rows"] nc:=g_words_to_begin.def X G (fun F=>F.binds fun _ _ _ _ _ _ us hl=>match us,hl with | [_],_=>rfl) (fun F=>yK F d_empty_sorts d_lists_by_sort d_leading_signs d_gathered);have d_can_be_empty:Def l.prog w K mg base "can_be_empty" 1 ["signs","empties"] ng:=g_can_be_empty.def X G (fun F=>F.binds fun _ _ _ _ _ _ us hl=>match us,hl with | [_,_],_=>rfl) (fun F=>yX F T);have d_words_to_begin_signs:Def l.prog w K mg base "words_to_begin_signs" 2 ["signs","empties","begins"] ni:=g_words_to_begin_signs.def X G (fun F=>F.binds fun _ _ _ _ _ _ us hl=>match us,hl with | [_,_,_],_=>rfl) (fun F=>yY F T d_leading_signs);have d_words_behind:Def l.prog w K mg base "words_behind" 6 ["rows"] rm:=g_words_behind.def X G (fun F=>F.binds fun _ _ _ _ _ _ us hl=>match us,hl with | [_],_=>rfl) (fun F=>yZ F T hEn hE rE d_empty_sorts d_words_to_begin d_lists_by_sort d_first_sort d_words_to_begin_signs d_can_be_empty d_gathered);have d_words_to_use_rows:Def l.prog w K mg base "words_to_use_rows" 7 ["rows"] rT:=g_words_to_use_rows.def X G (fun F=>F.binds fun _ _ _ _ _ _ us hl=>match us,hl with | [_],_=>rfl) (fun F=>zt F T d_empty_sorts d_words_to_begin d_words_behind d_words_to_begin_signs d_can_be_empty);have d_whole_keys:Def l.prog w K mg base "whole_keys" 1 ["signs","sorts"] rF:=g_whole_keys.def X G (fun F=>F.binds fun _ _ _ _ _ _ us hl=>match us,hl with | [_,_],_=>rfl) (fun F=>z4 F CC);have d_empty_keys:Def l.prog w K mg base "empty_keys" 1 ["signs"] oX:=g_empty_keys.def X G (fun F=>F.binds fun _ _ _ _ _ _ us hl=>match us,hl with | [_],_=>rfl) (fun F=>z5 F CC);have d_cost_of_keys:Def l.prog w K mg base "cost_of_keys" 1 ["keys","best"] rL:=g_cost_of_keys.def X G (fun F=>F.binds fun _ _ _ _ _ _ us hl=>match us,hl with | [_,_],_=>rfl) (fun F=>zl F T);have d_cheapest_recipes:Def l.prog w K mg base "cheapest_recipes" 2 ["recipes","price"] rM:=g_cheapest_recipes.def X G (fun F=>F.binds fun _ _ _ _ _ _ us hl=>match us,hl with | [_,_],_=>rfl) (fun F=>zm F d_cost_of_keys)
 have d_trees_made:Def l.prog w K mg base "trees_made" 2 ["best"] (vW TP):=g_trees_made.def X G (fun F=>F.binds fun _ _ _ _ _ _ us hl=>match us,hl with | [_],_=>rfl) (fun F e=>Ab F e hCd hBm T);have d_uses_in_order:Def l.prog w K mg base "uses_in_order" 8 ["rows"] rU:=g_uses_in_order.def X G (fun F=>F.binds fun _ _ _ _ _ _ us hl=>match us,hl with | [_],_=>rfl) (fun F=>zu F T hEn d_words_to_use_rows);have d_first_clash:Def l.prog w K mg base "first_clash" 1 ["uses"] wm:=g_first_clash.def X G (fun F=>F.binds fun _ _ _ _ _ _ us hl=>match us,hl with | [_],_=>rfl) (fun F=>Ad F T);have d_keys_to_begin:Def l.prog w K mg base "keys_to_begin" 2 ["signs","word","sorts"] np:=g_keys_to_begin.def X G (fun F=>F.binds fun _ _ _ _ _ _ us hl=>match us,hl with | [_,_,_],_=>rfl) (fun F=>zh F CC hEn d_whole_keys d_empty_keys);have d_recipes_of_part:Def l.prog w K mg base "recipes_of_part" 3 ["rows","number","word"] rH:=g_recipes_of_part.def X G (fun F=>F.binds fun _ _ _ _ _ _ us hl=>match us,hl with | [_,_,_],_=>rfl) (fun F=>zi F CC d_empty_keys d_keys_to_begin d_sorts_of);have d_recipes_of_row:Def l.prog w K mg base "recipes_of_row" 3 ["rows","number","word"] rJ:=g_recipes_of_row.def X G (fun F=>F.binds fun _ _ _ _ _ _ us hl=>match us,hl with | [_,_,_],_=>rfl) (fun F=>zj F CC hEn d_whole_keys d_empty_keys d_keys_to_begin d_sorts_of);have d_path_to_part:Def l.prog w K mg base "path_to_part" 1 ["best","goal"] rR:=g_path_to_part.def X G (fun F=>F.binds fun _ _ _ _ _ _ us hl=>match us,hl with | [_,_],_=>rfl) (fun F=>zp F T CC hEn);have d_use_shown:Def l.prog w K mg base "use_shown" 4 ["rows","number","word"] (v8 TP):=g_use_shown.def X G (fun F=>F.binds fun _ _ _ _ _ _ us hl=>match us,hl with | [_,_,_],_=>rfl) (fun F=>Ac F T CC d_recipes_of_part d_recipes_of_row d_cheapest_recipes d_first_sort d_trees_made d_path_to_part);have d_table_of:Def l.prog w K mg base "table_of" 9 ["rows"] (rV TP):=g_table_of.def X G (fun F=>F.binds fun _ _ _ _ _ _ us hl=>match us,hl with | [_],_=>rfl) (fun F=>zy F d_uses_in_order d_first_clash d_use_shown);have d__law_any_word:Def l.prog w K mg base "_law_any_word" 1 ["_law_cell"] qY:=g__law_any_word.def X G (fun F=>F.binds fun _ _ _ _ _ _ us hl=>match us,hl with | [_],_=>rfl) (fun F=>yR F T);have d__law_drawn_rows:Def l.prog w K mg base "_law_drawn_rows" 2 ["_law_cells","_law_wild"] lW:=g__law_drawn_rows.def X G (fun F=>F.binds fun _ _ _ _ _ _ us hl=>match us,hl with | [_,_],_=>rfl) (fun F=>vC F T d__law_any_word);have d__law_renamed:Def l.prog w K mg base "_law_renamed" 1 ["_law_rows","_law_cell"] ri:=g__law_renamed.def X G (fun F=>F.binds fun _ _ _ _ _ _ us hl=>match us,hl with | [_,_],_=>rfl) (fun F=>yW F);have d__law_all_sorts:Def l.prog w K mg base "_law_all_sorts" 1 ["_law_rows"] cF:=g__law_all_sorts.def X G (fun F=>F.binds fun _ _ _ _ _ _ us hl=>match us,hl with | [_],_=>rfl) (fun F=>yM F T);have d__law_at:Def l.prog w K mg base "_law_at" 1 ["_law_script","_law_k"] (wp K):=g__law_at.def X G (fun F=>F.binds fun _ _ _ _ _ _ us hl=>match us,hl with | [_,_],_=>rfl) (fun F=>Ae F T);have d__law_room:Def l.prog w K mg base "_law_room" 1 ["_law_script","_law_most","_law_bound"] (oQ K):=g__law_room.def X G (fun F=>F.binds fun _ _ _ _ _ _ us hl=>match us,hl with | [_,_,_],_=>rfl) (fun F=>xL F T);have d__law_so:Def l.prog w K mg base "_law_so" 1 ["_law_found","_law_due"] vp:=g__law_so.def X G (fun F=>F.binds fun _ _ _ _ _ _ us hl=>match us,hl with | [_,_],_=>rfl) (fun F=>zS F T);have d__law_whole:Def l.prog w K mg base "_law_whole" 1 ["_law_found"] ny:=g__law_whole.def X G (fun F=>F.binds fun _ _ _ _ _ _ us hl=>match us,hl with | [_],_=>rfl) (fun F=>zz F T);have d__law_line_of:Def l.prog w K mg base "_law_line_of" 1 ["_law_tree"] pJ:=g__law_line_of.def X G (fun F=>F.binds fun _ _ _ _ _ _ us hl=>match us,hl with | [_],_=>rfl) (fun F=>ya F T hRv);have d__law_is_tree:Def l.prog w K mg base "_law_is_tree" 2 ["_law_found","_law_rows"] rY:=g__law_is_tree.def X G (fun F=>F.binds fun _ _ _ _ _ _ us hl=>match us,hl with | [_,_],_=>rfl) (fun F=>zA F T d__law_whole d__law_all_sorts d__law_so);have d__law_shows:Def l.prog w K mg base "_law_shows" 3 ["_law_told","_law_rows","_law_left","_law_word"] rZ:=g__law_shows.def X G (fun F=>F.binds fun _ _ _ _ _ _ us hl=>match us,hl with | [_,_,_,_],_=>rfl) (fun F=>zB F T d__law_whole d__law_is_tree d__law_line_of)
 exact zC F T d__law_drawn_rows d__law_room d__law_at d__law_renamed d_table_of d__law_shows
theorem walk{l:PySem.W.OpenLaw}{q:Program}{loose:List Str}{XP:(Str->Option Value)->Heap->Prop}{YP:World->Heap->Prop}{d:DefRec}{K:Params->PySem.W.Frag}{TP:Addr}(hn:l.most=some 63)(hdf:d.params.defaults=[])
  (hY:∀(w:World) (h:Heap),YP w h->(K w.params).In h)(hYT:∀(w:World) (h:Heap),YP w h->h.get? TP=some (PySem.W.tabObj #[]))
  (F:∀(w:World) (mg:Str->Option Value) (fa:Addr) (h:Heap),(K w.params).In h->h.Ns mainGlobals mg->mg d.name=some (.ref fa)->
   ∃(fd:FuncData) (c0:Addr),(∀(s:Shared) (u:Value),BindsTo s fd ⟨[u],[]⟩ [("_law_script",u)])/\(K w.params).lookup TP=none/\PySem.W.codeHdIn (K w.params) c0 TP=true/\∀base:Heap,(K w.params).In base->base.Ns mainGlobals mg->PySem.W.CodeHd base c0 TP->Bm mg base->be l.prog w (K w.params) mg base CX0 10 fa fd ["_law_script"] (nC (K w.params) TP)) :
  PySem.W.WalkO q loose XP YP l.row.toRowW d [] (fun f vs=>PySem.call f vs):=
 L2.wJ (n:=63) (k:=10) (x:="_law_script") (sp:=fun w=>nC (K w.params) TP) hn (by decide) hdf ⟨rfl,by decide,by decide⟩ hY hYT F (fun _ _ a ns hl hT hS=>⟨a,ns,rfl,hS,hl,⟨#[],hT,True.intro,.inl rfl⟩,fun _=>rfl⟩)
end Nw
open PySem PySem.W PyProof.Rows
namespace PySem.W.Fast
def tw1636892593979134055:=0
def tw9764642274727994002:=0
def tw4572680435025668034:=0
def tw7630555208869682752:=0
def tw14336813898652022400:=0
def tw436908878319933183:=0
def tw8803525430819092950:=0
def tw12155657513286960059:=0
def tw8789587039228817009:=0
def tw13922759020222251966:=0
def tw16302987460977671847:=0
def tw8420613119668962695:=0
def tw5032630597521313036:=0
def tw10268338268718221345:=0
def tw4509269204815936643:=0
def tw9231430381776979164:=0
def tw11337463658908787334:=0
def tw17096533333785390356:=0
def tw9554046765071714541:=0
def tw4857687598508452127:=0
def tw17276693919134330785:=0
def tw4132362423910331364:=0
def tw6676119690069512806:=0
def tw6246002792742633511:=0
def tw6240022836051568078:=0
def tw3973292895535912242:=0
def tw10956453668659631974:=0
def tw14168898900790912337:=0
def tw3508415422799158713:=0
def tw6435307419580619688:=0
def tw9962379130065450123:=0
def tw4694875251220009872:=0
def tw17175862206683539065:=0
def tw12948731481809032787:=0
def tw9700464624696715423:=0
def tw10128563213392443149:=0
def tw11347318554055852150:=0
def tw4774617866772230232:=0
def tw464830276895592453:=0
def tw16636673200441720157:=0
def tw15965118768455303823:=0
def tw3687323485287430482:=0
def tw16568107664222612443:=0
def tw2066252905084908146:=0
def tw1902795698201903579:=0
def tw12132309618317456400:=0
def tw11061494884549084723:=0
def tw9592355033062793679:=0
def tw6554952535518608457:=0
def tw1629657572126037202:=0
def tw17921707815423092658:=0
def tw14479167368788678834:=0
def tw2956306966363445975:=0
def tw15734461785731856300:=0
def tw3425213149540318033:=0
def tw6002595947156882534:=0
def tw13207137142656763498:=0
def tw4375171040981935756:=0
def tw12154014321347129047:=0
def tw8484247812044194819:=0
def tw3123702404270969804:=0
def tw10417350028470285456:=0
def tw3105090363152448278:=0
def tw13230611967990557058:=0
def tw8955369440611489420:=0
def tw9663236554979927492:=0
def tw13500640488875699965:=0
def tw5658366833976355458:=0
def tw6341575211833132214:=0
def tw12119331255823216762:=0
def tw8560355358191328474:=0
def tw12074410428049087180:=0
def tw13349290071423995648:=0
def tw12729260945729361662:=0
def tw3815176440367146589:=0
def tw10041904124380704455:=0
def tw5592646438825208996:=0
def tw409344124941637132:=0
def tw2849859068723315560:=0
def tw1953305915178905741:=0
def tw7091387495023307147:=0
def tw9337298716941201532:=0
def tw18176487671349885865:=0
def tw16981996740295020199:=0
def tw6241325786223014811:=0
def tw16452229653160462546:=0
def tw11671519870278931525:=0
def tw525540342841132896:=0
def tw6146246688630879440:=0
def tw5359502658011121770:=0
def tw426120120271234437:=0
def tw1416666972597817918:=0
def tw13703262527319385863:=0
def tw5872805438831028951:=0
def tw15950783611496754574:=0
def tw6821488450669330099:=0
def tw10218660999968574227:=0
def tw530791502461820122:=0
def tw5928254005628649611:=0
def tw2173935492070887640:=0
def tw2193397416293326628:=0
def tw11838883233220918049:=0
def tw3988018915358719635:=0
def tw16059087862173422462:=0
def tw172979217266218109:=0
def tw10808982045417096120:=0
def tw1893333288153549788:=0
def tw16927001418746911819:=0
def tw11119584543258096920:=0
def tw12539431435802447556:=0
def tw10506129965433629558:=0
def tw14220960637888604646:=0
def tw12689445930178545496:=0
def tw15544487291366930787:=0
def tw15317873588521783173:=0
def tw2887921340248005618:=0
def tw14963643693082655839:=0
def tw4463260272451620898:=0
def tw13818821901897651732:=0
def tw15172002557813671891:=0
def tw1650036206501299321:=0
def tw4217817779465541247:=0
def tw16987777374618605290:=0
def tw6524056578876093368:=0
def tw8556018795806822185:=0
def tw10436825025749769787:=0
def tw10587145057938062634:=0
def tw15510118454304605263:=0
def tw9102967698994983996:=0
def tw7439690725304336398:=0
def tw5384569188178528140:=0
def tw15994195507470454227:=0
def tw9088828053478556512:=0
def tw6913687757431317542:=0
def tw15887495598600141876:=0
def tw13592628633292638576:=0
def tw12813169766479898843:=0
def tw16924285547873841553:=0
def tw2863269951205219973:=0
def tw16860905601475451292:=0
def tw4124154271705276330:=0
def tw15753806232415266989:=0
def tw17667982560627295705:=0
def tw7337020076886464076:=0
def tw16288638625219719415:=0
def tw5723212246106483337:=0
def tw6964108249874894631:=0
def tw10627874703039851939:=0
def tw8130873386832767386:=0
def tw603155767783316848:=0
end PySem.W.Fast
set_option maxRecDepth 100000 in
set_option maxHeartbeats 0 in
theorem PySem.Challenge.cw_nextword_k05_whole_clash_shown_holds : PySem.Challenge.rw_nextword_k05_whole_clash_shown.Holds := by
 w_on;o_law;k_head;(case hw=>w_witness2)
 k_fill
 refine Nw.walk (l:=PySem.Challenge.rw_nextword_k05_whole_clash_shown) (TP:=181) rfl rfl (fun w h Y=>PySem.W.km_in_of Y) (fun w h Y=>PySem.W.km_tabs_of Y _ (List.Mem.head _)) ?F
 case F=>
  intro w mg fa h KX G hmg;refine' Nw.all_mk KX G hmg ?hbare ?hx0 ?hx1 ?hbare3 ?_ ?_ ?_ ?_ ?_ ?_ ?_ ?_ ?_ ?_ ?_ ?_ ?_ ?_ ?_ ?_ ?_ ?_ ?_ ?_ ?hgotC ?_ ?_ ?_ ?_ ?_ ?_ ?_ ?_ ?_ ?_ ?_ ?_ ?_ ?_ ?_ ?_ ?_ ?_ ?_ ?_
  (case hbare=>exact⟨by k_is,by k_is,by k_is,by k_is,by k_is,by k_is,by k_is,by k_is,by k_is,by k_is,by k_is,by k_is,by k_is⟩)
  (case hx0=>k_is)
  (case hx1=>k_is)
  (case hbare3=>refine' ⟨?y0,?y1,?y2,?y3,?y4,?y5⟩;(case y0=>k_is);(case y1=>k_is);(case y2=>k_is);(case y3=>k_is);(case y4=>k_is);(case y5=>k_is))
  (case hgotC=>refine' Nw.yc ?a ?l ?c ?k ?hd ?no;(case a=>k_is);(case l=>k_is);(case c=>k_is);(case k=>k_is);(case hd=>rfl);(case no=>rfl))
  all_goals (refine' Nw.zD ?a ?l ?c ?k;(case a=>k_is);(case l=>k_is);(case c=>k_is);(case k=>k_is))
