import PyProof.Rows.All
import Wide.All
import OpenK.AllK
import Wide.FinOn
import PyProof.EqAt
import PyProof.EqKinds
import PyProof.TupleCall
import PyProof.SetKind
import PyProof.DictKinds
import PyProof.Rows.SetFrom
import PyProof.FactsAll.set
import PyProof.WalksS
import PyProof.CollectWalk
import PyProof.Seq
import PyProof.WalkLemmas
import PyProof.Rows.SortStr
import PyProof.Rows.SortWalk
import PyProof.Tail
import PyProof.NeKinds
import PyProof.EnumFor
import PyProof.EnumMake
import KE.KSortTup
import KE.KDictSum
import KE.KNestM
import Lean
import PySem.Challenge.RW_nextword_k04_table
set_option Elab.async false
set_option linter.all false
set_option maxRecDepth 100000
set_option maxHeartbeats 4000000
def aaa:=@List.length_map
def aab:=@List.getElem?_eq_some_iff
def aac:=@List.mem_cons_self
def aad:=@List.mem_cons_of_mem
def aae:=@List.getElem?_eq_getElem
def aaf:=@PySem.Heap.get?_push_of_some
def aag:=@List.length_append
def aah:=@List.mem_of_getElem?
def aai:=@decide_eq_false
def aaj:=@List.mem_singleton
def aak:=@List.mem_append
def aal:=@List.length_take
def aam:=@List.map_append
def aan:=@decide_eq_true
def aao:=@List.mem_map
def aap:=@List.take_succ
def aaq:=@List.size_toArray
def aar:=@List.mem_append_right
def aas:=@List.take_length
def aat:=@List.getD_eq_getElem?_getD
def aau:=@List.length_cons
def aav:=@List.length_singleton
def aaw:=@List.map_cons
def aax:=@List.getElem?_map
def aay:=@PySem.Heap.get?_push_size
namespace L2
open PySem PySem.Spec PyProof.Rows
abbrev Key:=Sum Int Str
def jx:Key->Value->Bool
 |.inl k,v=>Value.isInt k v
 |.inr x,v=>Value.isStrOf x v
def zt(w:World):Key->Int
 |.inl k=>hashInt k
 |.inr x=>hashStr w x
theorem cp:∀{k:Key} {v:Value},jx k v=true->(∃i t,k=Sum.inl i/\v=Value.int i t)\/(∃x t,k=Sum.inr x/\v=Value.str x t)
 |.inl i,v,h=>by
  obtain⟨t,e⟩:=Value.isInt_shape (k:=i) (v:=v) h;exact .inl ⟨i,t,rfl,e⟩
 |.inr x,v,h=>by
  obtain⟨t,e⟩:=Value.isStrOf_shape (x:=x) (v:=v) h;exact .inr ⟨x,t,rfl,e⟩
theorem rc(i:Int)(t:Tok):jx (.inl i) (.int i t)=true:=by simp[jx,Value.isInt]
theorem rg(x:Str)(t:Tok):jx (.inr x) (.str x t)=true:=by simp[jx,Value.isStrOf]
theorem xh(a b:Int):decide ((Sum.inl a:Key)=Sum.inl b)=(a == b):=by
 by_cases e:a=b
 ·subst e;simp
 ·have h:¬(Sum.inl a:Key)=Sum.inl b:=fun q=>e (Sum.inl.inj q)
  rw[aai h];exact(beq_eq_false_iff_ne.mpr e).symm
theorem xi(a b:Str):decide ((Sum.inr a:Key)=Sum.inr b)=decide (a=b):=by
 by_cases e:a=b
 ·subst e;simp
 ·have h:¬(Sum.inr a:Key)=Sum.inr b:=fun q=>e (Sum.inr.inj q)
  rw[aai h,aai e]
theorem xj(a:Int)(b:Str):decide ((Sum.inl a:Key)=Sum.inr b)=false:=aai (fun q=>nomatch q)
theorem xk(a:Str)(b:Int):decide ((Sum.inr a:Key)=Sum.inl b)=false:=aai (fun q=>nomatch q)
def bD(prog:Program)(w:World):PySem.KeyKind prog w Key where
 is:=jx
 hash:=zt w
 inj:=fun v a b ha hb=>by
  rcases cp ha with ⟨i,t,rfl,rfl⟩|⟨x,t,rfl,rfl⟩
  ·rcases cp hb with ⟨j,u,rfl,e⟩|⟨y,u,rfl,e⟩
   ·injection e with e1 _;rw[e1]
   ·exact nomatch e
  ·rcases cp hb with ⟨j,u,rfl,e⟩|⟨y,u,rfl,e⟩
   ·exact nomatch e
   ·injection e with e1 _;rw[e1]
 byValue:=fun k v h=>by
  rcases cp h with ⟨i,t,rfl,rfl⟩|⟨x,t,rfl,rfl⟩ <;> rfl
 pyHash:=fun hv h=>by
  rcases cp hv with ⟨i,t,rfl,rfl⟩|⟨x,t,rfl,rfl⟩
  ·exact wpAny_pyHash_int h
  ·exact wpAny_pyHash_str h
 eqBool:=fun hu hv h=>by
  rcases cp hu with ⟨i,t,rfl,rfl⟩|⟨x,t,rfl,rfl⟩
  ·rcases cp hv with ⟨j,u,rfl,rfl⟩|⟨y,u,rfl,rfl⟩
   ·rw[xh] at h;exact wpAny_eqBool_int h
   ·rw[xj] at h;exact SeqAt.EqAt.int_str i t y u _ _ _ _ h
  ·rcases cp hv with ⟨j,u,rfl,rfl⟩|⟨y,u,rfl,rfl⟩
   ·rw[xk] at h;exact SeqAt.EqAt.str_int x t j u _ _ _ _ h
   ·rw[xi] at h;exact wpAny_eqBool_str h
 «strs»:=fun k x t v h=>by
  rcases cp h with ⟨i,u,rfl,e⟩|⟨y,u,rfl,e⟩
  ·exact nomatch e
  ·injection e with e1 _;subst e1;cases v <;> rfl
theorem o9(prog:Program)(w:World)(i:Int)(t:Tok):(bD prog w).is (.inl i) (.int i t)=true:=rc i t
theorem pb(prog:Program)(w:World)(x:Str)(t:Tok):(bD prog w).is (.inr x) (.str x t)=true:=rg x t
end L2
namespace L2
open PySem PySem.Spec PyProof.Rows
inductive V where
 |non | bl(b:Bool) | int(i:Int) | str(x:Str) | byt(b:Array UInt8) | flt(b:UInt64) | ref(a:Addr) | ty(n:String)
 deriving DecidableEq
def RelV:V->Value->Prop
 |.non,u=>u=Value.none
 |.bl b,u=>u=Value.bool b
 |.int i,u=>∃t,u=Value.int i t
 |.str x,u=>∃t,u=Value.str x t
 |.byt b,u=>∃t,u=Value.bytes b t
 |.flt b,u=>∃t,u=Value.float b t
 |.ref a,u=>u=Value.ref a
 |.ty n,u=>u=Value.type n
abbrev Vals:List V->List Value->Prop:=Paired RelV
theorem Vals.length{xs:List V}{us:List Value}(r:Vals xs us):xs.length=us.length:=Paired.length r
theorem Vals.get:∀{xs:List V} {us:List Value} {i:Nat} {x:V},Vals xs us->xs[i]? =some x->∃u,us[i]? =some u/\RelV x u
 |_,_,_,_,.nil,e=>by simp at e
 |_,_,0,_,.cons r _,e=>by simp at e;subst e;exact⟨_,rfl,r⟩
 |_,_,i+1,x,.cons _ t,e=>by
  obtain⟨u,h1,h2⟩:=Vals.get (i:=i) (x:=x) t (by simpa using e);exact⟨u,by simpa using h1,h2⟩
theorem Vals.append:∀{xs ys:List V} {us ws:List Value},Vals xs us->Vals ys ws->Vals (xs++ys) (us++ws)
 |_,_,_,_,.nil,s=>s
 |_,_,_,_,.cons r t,s=>.cons r (Vals.append t s)
theorem Vals.take:∀{xs:List V} {us:List Value} (n:Nat),Vals xs us->Vals (xs.take n) (us.take n)
 |_,_,0,_=>.nil
 |_,_,_+1,.nil=>.nil
 |_,_,n+1,.cons r t=>.cons r (Vals.take n t)
theorem Vals.drop:∀{xs:List V} {us:List Value} (n:Nat),Vals xs us->Vals (xs.drop n) (us.drop n)
 |_,_,0,r=>r
 |_,_,_+1,.nil=>.nil
 |_,_,n+1,.cons _ t=>Vals.drop n t
theorem Vals.none_of:∀{xs:List V} {us:List Value} {i:Nat},Vals xs us->xs[i]? =none->us[i]? =none:=fun{xs us i} r e=>by
 have h1:=r.length;have h2:xs.length<=i:=List.getElem?_eq_none_iff.mp e;exact List.getElem?_eq_none_iff.mpr (by omega)
def ft:Option V->Option Value->Prop
 |some v,some u=>RelV v u
 |none,none=>True
 |_,_=>False
def KV{κ:Type}:List (κ×V)->List (κ×Value)->Prop:=Paired fun(p:κ×V) (q:κ×Value)=>p.1=q.1/\RelV p.2 q.2
def kV:Key->V
 |.inl i=>.int i
 |.inr x=>.str x
inductive HO where
 |lst(xs:List V)
 |tup(xs:List V)
 |dK(kvs:List (Key×V)) | dT(kvs:List (List Key×V))
 |set(S:Int->Bool)(n:Nat)
 |ins(C dx:Addr)(fs:List (Str×V))
 |own(x:Addr)
 |xd(fs:List (Str×V))
 |met(f x:Addr)
 |rng(lo hi:Int)
 |frz(o:Obj)(u:HO)
 |tbl(ps:Array Value)
 |ext(φ:Heap->Prop)
abbrev Hp:=Addr->Option HO
def upd(H:Hp)(a:Addr)(o:HO):Hp:=fun b=>if b=a then some o else H b
theorem aa{H:Hp}{a:Addr}{o:HO}:upd H a o a=some o:=by unfold upd;rw[if_pos rfl]
theorem am{H:Hp}{a b:Addr}{o:HO}(h:b≠a):upd H a o b=H b:=by unfold upd;rw[if_neg h]
theorem cA{H:Hp}{a:Addr}{o u:HO}:upd (upd H a o) a u=upd H a u:=by
 funext b;unfold upd;split <;> rfl
theorem mD{H:Hp}{a b:Addr}{o u:HO}(h:H a=some o)(h':H b=some u)(d:o≠u):a≠b:=by
 intro e;subst e;rw[h] at h';exact d (Option.some.inj h')
theorem aR{H:Hp}{a b:Addr}{o:HO}(h:H a=some o)(h':H b=none):a≠b:=by
 intro e;subst e;rw[h] at h';cases h'
section
variable (P:Program)(w:World)
def ba(H:Hp)(h:Heap)(a:Addr):HO->Prop
 |.lst xs=>xs.length<=sizeLine/\∃(its:List Value) (n:Nat),Vals xs its/\h.get? a=some {cls:=.type "list",data:=.seq its.toArray n}
 |.tup xs=>xs.length<=sizeLine/\∃its:List Value,Vals xs its/\IsTup h a its.toArray
 |.dK kvs=>kvs.length<=sizeLine/\(a == sysModules)=false/\∃vs,KV kvs vs/\h.DictOf (bD P w) a vs
 |.dT kvs=>kvs.length<=sizeLine/\(a == sysModules)=false/\∃xs:List (List Key×Addr×Value),
   Paired (fun(p:List Key×V) (q:List Key×Addr×Value)=>p.1=q.1/\H q.2.1=some (.tup (p.1.map kV))/\RelV p.2 q.2.2) kvs xs/\
   ∃o es ep,h.get? a=some o/\o.ExactDict/\o.data=.dict es ep/\es.toList=xs.map (entryOfKey (tupleKind (bD P w)))/\(xs.map (·.1)).Nodup
 |.set S n=>h.SetOf (intKind P w) a S n
 |.ins C dx fs=>H dx=some (.own a)/\fs.length<=1000/\dx≠a/\h.get? a=some (PySem.W.instObj C dx)/\
   ∃mA,h.Ns1 dx mA/\(∀f,ft (fs.lookup f) (mA f))/\PySem.Within mA (fs.map (·.1))
 |.own _=>∃o,h.get? a=some o
 |.xd fs=>∃mA,h.Ns1 a mA/\∀f,ft (fs.lookup f) (mA f)
 |.rng lo hi=>∃t u v,h.get? a=some {cls:=.type "range",data:=.fields #[.int lo t,.int hi u,.int 1 v]}
 |.frz o u=>h.get? a=some o/\ba H h a u
 |.tbl ps=>h.get? a=some {cls:=.none,data:=.fields ps}
 |.met f x=>h.get? a=some (PySem.W.methodObj (.ref f) (.ref x))
 |.ext φ=>φ h/\(∃o,h.get? a=some o)/\∀h1 h2:Heap,φ h1->(∀o,h1.get? a=some o->h2.get? a=some o)->φ h2
def HOk(H:Hp)(h:Heap):Prop:=∀a o,H a=some o->ba P w H h a o
end
section
variable {P:Program}{w:World}{H H':Hp}{h h':Heap}{a:Addr}{o:HO}
theorem ba.lt(x:ba P w H h a o):a<h.objs.size:=by
 cases o with
 |lst xs=>obtain⟨_,_,_,_,e⟩:=x;exact Heap.lt_size e
 |tup xs=>obtain⟨_,_,_,p⟩:=x;exact p.lt
 |dK kvs=>obtain⟨_,_,_,_,o,_,_,e,_⟩:=x;exact Heap.lt_size e
 |dT kvs=>obtain⟨_,_,_,_,o,_,_,e,_⟩:=x;exact Heap.lt_size e
 |set S n=>obtain⟨o,_,_,_,e,_⟩:=x;exact Heap.lt_size e
 |ins C dx fs=>obtain⟨_,_,_,e,_⟩:=x;exact Heap.lt_size e
 |own y=>obtain⟨_,e⟩:=x;exact Heap.lt_size e
 |xd fs=>obtain⟨_,⟨_,_,_,e,_⟩,_⟩:=x;exact Heap.lt_size e
 |rng lo hi=>obtain⟨_,_,_,e⟩:=x;exact Heap.lt_size e
 |frz ob u=>obtain⟨e,_⟩:=x;exact Heap.lt_size e
 |tbl ps=>exact Heap.lt_size (show h.get? a=some _ from x)
 |met f y=>exact Heap.lt_size (show h.get? a=some _ from x)
 |ext φ=>obtain⟨_,⟨_,e⟩,_⟩:=x;exact Heap.lt_size e
theorem Paired.bJ{α β:Type}{F G:α->β->Prop}:∀{l₁:List α} {l₂:List β},Paired F l₁ l₂->(∀a b,F a b->G a b)->Paired G l₁ l₂
 |_,_,.nil,_=>.nil
 |_,_,.cons r t,f=>.cons (f _ _ r) (Paired.bJ t f)
theorem ba.eO(x:ba P w H h a o)(k:∀b u,(b=a\/H b=some (.own a))->h.get? b=some u->h'.get? b=some u)
  (ho:∀b,H b=some (.own a)->H' b=some (.own a))(ht:∀b xs,H b=some (.tup xs)->H' b=some (.tup xs)):ba P w H' h' a o:=by
 induction o with
 |lst xs=>obtain⟨z,its,n,r,e⟩:=x;exact⟨z,its,n,r,k _ _ (.inl rfl) e⟩
 |tup xs=>obtain⟨z,its,r,ob,e,c⟩:=x;exact⟨z,its,r,ob,k _ _ (.inl rfl) e,c⟩
 |dK kvs=>obtain⟨z,y,vs,r,ob,es,ep,e,c⟩:=x;exact⟨z,y,vs,r,ob,es,ep,k _ _ (.inl rfl) e,c⟩
 |dT kvs=>
  obtain⟨z,y,xs,r,ob,es,ep,e,c⟩:=x;exact⟨z,y,xs,Paired.bJ r fun p q z=>⟨z.1,ht _ _ z.2.1,z.2.2⟩,ob,es,ep,k _ _ (.inl rfl) e,c⟩
 |set S n=>obtain⟨ob,es,ep,t,e,c⟩:=x;exact⟨ob,es,ep,t,k _ _ (.inl rfl) e,c⟩
 |ins C dx fs=>
  obtain⟨d,z,ne,e,mA,⟨od,es,ep,e2,c⟩,r⟩:=x;exact⟨ho _ d,z,ne,k _ _ (.inl rfl) e,mA,⟨od,es,ep,k _ _ (.inr d) e2,c⟩,r⟩
 |own y=>obtain⟨ob,e⟩:=x;exact⟨ob,k _ _ (.inl rfl) e⟩
 |xd fs=>obtain⟨mA,⟨od,es,ep,e,c⟩,r⟩:=x;exact⟨mA,⟨od,es,ep,k _ _ (.inl rfl) e,c⟩,r⟩
 |rng lo hi=>obtain⟨t,u,v,e⟩:=x;exact⟨t,u,v,k _ _ (.inl rfl) e⟩
 |frz ob u ih=>obtain⟨e,q⟩:=x;exact⟨k _ _ (.inl rfl) e,ih q⟩
 |tbl ps=>
  have e:h.get? a=some {cls:=.none,data:=.fields ps}:=x;show h'.get? a=some {cls:=.none,data:=.fields ps};exact k a _ (.inl rfl) e
 |met f y=>
  have e:h.get? a=some (PySem.W.methodObj (.ref f) (.ref y)):=x;show h'.get? a=some (PySem.W.methodObj (.ref f) (.ref y));exact k a _ (.inl rfl) e
 |ext φ=>obtain⟨p,⟨o,e⟩,st⟩:=x;exact⟨st _ _ p fun o q=>k _ _ (.inl rfl) q,⟨o,k _ _ (.inl rfl) e⟩,st⟩
theorem HOk.lt(x:HOk P w H h)(e:H a=some o):a<h.objs.size:=(x a o e).lt
theorem HOk.fresh(x:HOk P w H h)(e:h.objs.size<=a):H a=none:=by
 cases q:H a with
 |none=>rfl
 |some u=>exact absurd (Nat.lt_of_lt_of_le (x.lt q) e) (Nat.lt_irrefl _)
theorem HOk.kept(x:HOk P w H h)(k:∀b u,h.get? b=some u->h'.get? b=some u):HOk P w H h':=fun a o e=>
 (x a o e).eO (fun b u _ q=>k b u q) (fun _ q=>q) fun _ _ q=>q
theorem HOk.laid(x:HOk P w H h)(k:∀b u,h.get? b=some u->h'.get? b=some u)(hp:h.objs.size<=a)(new:ba P w (upd H a o) h' a o):HOk P w (upd H a o) h':=fun b u e=>by
 have hn:=x.fresh hp
 by_cases hb:b=a
 ·subst hb;rw[aa] at e;cases e;exact new
 ·rw[am hb] at e;exact(x b u e).eO (fun c v _ q=>k c v q) (fun c q=>by rw[am (aR q hn)];exact q) fun c xs q=>by rw[am (aR q hn)];exact q
end
def Rd(H:Hp)(a:Addr)(u:HO):Prop:=H a=some u\/∃o,H a=some (.frz o u)
theorem Rd.ok{P:Program}{w:World}{H:Hp}{h:Heap}{a:Addr}{u:HO}(r:Rd H a u)(x:HOk P w H h):ba P w H h a u:=by
 rcases r with r|⟨o,r⟩
 ·exact x a u r
 ·obtain⟨_,q⟩:=x a _ r;exact q
def Mut:Option HO->Prop
 |some (.lst _)=>True
 |some (.dK _)=>True
 |some (.dT _)=>True
 |some (.set _ _)=>True
 |some (.ins _ _ _)=>True
 |some (.ext _)=>True
 |_=>False
section
variable {P:Program}{w:World}{H:Hp}{h h':Heap}{x e:Addr}{o':HO}
theorem HOk.write(ok:HOk P w H h)(mu:Mut (H x))(he:e=x\/H e=some (.own x))(k:∀b u,b≠e->h.get? b=some u->h'.get? b=some u)(heo:∃u,h'.get? e=some u)
  (new:ba P w (upd H x o') h' x o'):HOk P w (upd H x o') h':=fun b u q=>by
 have nown:∀c y,H c=some (.own y)->c≠x:=fun c y r z=>by subst z;rw[r] at mu;exact mu
 have ntup:∀c xs,H c=some (.tup xs)->c≠x:=fun c xs r z=>by subst z;rw[r] at mu;exact mu
 by_cases hb:b=x
 ·subst hb;rw[aa] at q;cases q;exact new
 ·rw[am hb] at q
  by_cases hbe:b=e
  ·have q':H b=some (.own x):=by
    rcases he with z|z
    ·exact absurd (hbe.trans z) hb
    ·rw[hbe];exact z
   rw[q] at q';cases q';obtain⟨v,hv⟩:=heo;exact⟨v,by rw[hbe];exact hv⟩
  ·refine(ok b u q).eO (fun c v hc r=>k c v ?_ r) (fun c r=>by rw[am (nown c b r)];exact r) fun c xs r=>by rw[am (ntup c xs r)];exact r
   rcases hc with rfl|hc
   ·exact hbe
   ·rintro rfl;rcases he with z|z
    ·exact nown c b hc z
    ·rw[hc] at z;cases z;exact hb rfl
end
structure Un(fs ex:List Addr)(H H':Hp)(h h':Heap):Prop where
 keep:∀b o,h.get? b=some o->H b=none->b ∉ fs->b ∉ ex->h'.get? b=some o
 slot:∀b o,h.get? b=some o->H b=none->b∈fs->b ∉ ex->∃sl,h'.get? b=some {o with slots:=sl}
 free:∀b o,h.get? b=some o->H b=none->b ∉ ex->H' b=none
 there:∀b o,h.get? b=some o->b ∉ ex->∃o',h'.get? b=some o'
 tups:∀b xs,H b=some (.tup xs)->H' b=some (.tup xs)
 frzs:∀b o u,H b=some (.frz o u)->H' b=some (.frz o u)
 tbls:∀b ps,H b=some (.tbl ps)->∃more,H' b=some (.tbl (ps++more))
section
variable {fs fs' ex ex':List Addr}{H H1 H2:Hp}{h h1 h2 h':Heap}{a x e:Addr}{o:HO}
theorem Un.any(u:Un fs ex H H1 h h1){b:Addr}{ob:Obj}(q:h.get? b=some ob)(n:H b=none)(hx:b ∉ ex):∃sl,h1.get? b=some {ob with slots:=sl}:=by
 by_cases hb:b∈fs
 ·exact u.slot b ob q n hb hx
 ·exact⟨ob.slots,u.keep b ob q n hb hx⟩
theorem Un.kept(k:∀b u,h.get? b=some u->h'.get? b=some u):Un fs ex H H h h':=
 ⟨fun b ob q _ _ _=>k b ob q,fun b ob q _ _ _=>⟨ob.slots,k b ob q⟩,fun _ _ _ n _=>n,fun b ob q _=>⟨ob,k b ob q⟩,fun _ _ q=>q,fun _ _ _ q=>q,fun _ ps q=>⟨#[],by rw[q];simp⟩⟩
theorem Un.refl:Un fs ex H H h h:=Un.kept fun _ _ q=>q
theorem Un.laid(k:∀b u,h.get? b=some u->h'.get? b=some u)(hp:h.objs.size<=a)(hn:H a=none):Un fs ex H (upd H a o) h h' where
 keep:=fun b u q _ _ _=>k b u q
 slot:=fun b u q _ _ _=>⟨u.slots,k b u q⟩
 free:=fun b u q n _=>by rw[am (Nat.ne_of_lt (Nat.lt_of_lt_of_le (Heap.lt_size q) hp))];exact n
 there:=fun b u q _=>⟨u,k b u q⟩
 tups:=fun b xs q=>by rw[am (aR q hn)];exact q
 frzs:=fun b u xs q=>by rw[am (aR q hn)];exact q
 tbls:=fun b ps q=>⟨#[],by rw[am (aR q hn),q];simp⟩
theorem Un.write(mu:Mut (H x))(he:e=x\/H e=some (.own x))(k:∀b u,b≠e->h.get? b=some u->h'.get? b=some u)(heo:∃u,h'.get? e=some u):Un fs ex H (upd H x o) h h':=by
 have hx:∀b,H b=none->b≠x:=fun b n z=>by subst z;rw[n] at mu;exact mu
 have hb:∀b,H b=none->b≠e:=fun b n z=>by
  subst z;rcases he with r|r
  ·exact hx b n r
  ·rw[n] at r;cases r
 have hm:∀b u,H b=some u->¬Mut (some u)->b≠x:=fun b u q nm z=>by subst z;rw[q] at mu;exact nm mu
 refine⟨fun b u q n _ _=>k b u (hb b n) q,fun b u q n _ _=>⟨u.slots,k b u (hb b n) q⟩,fun b u q n _=>by rw[am (hx b n)];exact n,fun b u q _=>?_,
  fun b xs q=>by rw[am (hm b _ q fun z=>z)];exact q,fun b u xs q=>by rw[am (hm b _ q fun z=>z)];exact q,fun b ps q=>⟨#[],by rw[am (hm b _ q fun z=>z),q];simp⟩⟩
 by_cases hbe:b=e
 ·subst hbe;exact heo
 ·exact⟨u,k b u hbe q⟩
end
def trk(h:Heap)(H:Hp):List Addr:=(List.range h.objs.size).filter fun a=>(H a).isSome
def gT(h:Heap)(H:Hp):Heap:=PySem.W.hideAll h (trk h H)
theorem ri(h:Heap)(H:Hp):(gT h H).objs.size=h.objs.size:=PySem.W.hideAll_size _ _
theorem tw{h:Heap}{H:Hp}{b:Addr}{o:Obj}(e:h.get? b=some o)(n:H b=none):(gT h H).get? b=some o:=
 PySem.W.hideAll_get _ e fun hm=>by
  have q:(H b).isSome=true:=(List.mem_filter.mp hm).2;rw[n] at q;simp at q
theorem vU{h:Heap}{H:Hp}{b:Addr}{o:Obj}(e:(gT h H).get? b=some o):h.get? b=some o/\H b=none:=by
 have e':h.get? b=some o:=PySem.W.of_hideAll (trk h H) e;refine⟨e',?_⟩;cases q:H b with
 |none=>rfl
 |some x=>
  have hm:b∈trk h H:=List.mem_filter.mpr ⟨List.mem_range.mpr (Heap.lt_size e'),by simp[q]⟩;have z:(gT h H).get? b=none:=PySem.W.hideAll_none (trk h H) hm;rw[z] at e;cases e
end L2
namespace L2
open PySem PySem.Spec PyProof.Rows
structure Mod(K:PySem.W.Frag)(mg:Str->Option Value)(base:Heap):Prop where
 kin:K.In base
 glob:base.Ns mainGlobals mg
 blt:∃mb,base.Ns builtinsNs mb/\∀x:Str,x≠"__name__"->mb x=bootBuiltins x
 nolimit:base.NoLimit
structure Cx where
 prog:Program
 w:World
 K:PySem.W.Frag
 mg:Str->Option Value
 base:Heap
 A:Around
 N:List Str
 s₀:Shared
 H₀:Hp
 env:Env
 outer:List Env
 stack:List Env
 ex:List Addr
 fn:Str->Bool
 calm:Bool
 pn:List (Addr×Obj)
 xe:Value->Shared->Prop
def frs(l:List Env):List Addr:=l.filterMap (·.frame)
abbrev Cx.fs(X:Cx):List Addr:=frs X.outer
def Vis(sc:Scope)(x:Str):Prop:=sc.names.lookup x=some .local\/sc.names.lookup x=some .cell\/sc.names.lookup x=some .free
def Loc(sc:Scope)(x:Str):Prop:=sc.names.lookup x=some .local\/sc.names.lookup x=some .cell
def Look(env:Env)(h:Heap)(m:Str->Option Value)(x:Str)(u:Value):Prop:=
 (env.kindOf x=some .local/\m x=some u)\/((env.kindOf x=some .cell\/env.kindOf x=some .free)/\∃c,env.cells.lookup x=some c/\h.IsCell c (some u))
structure Cx.Ok(X:Cx):Prop where
 mod:Mod X.K X.mg X.base
 kind:X.env.scope.kind=.function
 glob:X.env.globals=mainGlobals
 blt:X.env.builtins=builtinsNs
 above:X.s₀.heap.objs.size<=X.env.locals
 inj:∀x y c,X.env.cells.lookup x=some c->X.env.cells.lookup y=some c->x=y
 has:∀x,(X.env.kindOf x=some .cell\/X.env.kindOf x=some .free)->∃c,X.env.cells.lookup x=some c
 cab:∀x c,X.fn x=true->X.env.cells.lookup x=some c->X.s₀.heap.objs.size<=c
 hd:X.calm=true->X.A.handled=none
 frames:X.A.frames=some X.stack
 stk:X.stack=X.outer\/(X.stack=X.env::X.outer/\X.env.frame=some X.env.locals)
 exf:∀b∈X.ex,b≠X.env.locals/\∀x c,X.env.cells.lookup x=some c->c≠b
 bs:∀b o,X.base.get? b=some o->X.s₀.heap.get? b=some o/\X.H₀ b=none
 bsz:X.base.objs.size<=X.s₀.heap.objs.size
 noex:∀b o,X.base.get? b=some o->b ∉ X.ex
 exfs:∀b∈X.ex,b ∉ X.fs
 fW:X.s₀.heap.FunFrames X.base X.outer
 frf:∀b∈X.fs,X.H₀ b=none
structure Inv(X:Cx)(pins:List (Addr×Obj))(σ:List (Option V))(H:Hp)(s:Shared):Prop where
 ok:X.Ok
 os:s.os=X.s₀.os
 bare:AllBare s.gens
 base:Un X.fs X.ex X.H₀ H X.s₀.heap s.heap
 loc:∃m,s.heap.Ns X.env.locals m/\∀(i:Nat) (x:Str) (v:V),X.N[i]? =some x->σ[i]? =some (some v)->Vis X.env.scope x->∃u,RelV v u/\Look X.env s.heap m x u
 cell:∀x c,X.env.cells.lookup x=some c->∃v,s.heap.IsCell c v
 free:H X.env.locals=none
 freeC:∀x c,X.env.cells.lookup x=some c->H c=none
 pin:∀p∈X.pn++pins,s.heap.get? p.1=some p.2/\H p.1=none/\p.1≠X.env.locals/\p.1 ∉ X.fs/\∀v,p.2.data≠.cell v
 hok:HOk X.prog X.w H s.heap
 len:σ.length=X.N.length
section
variable {X:Cx}{pins:List (Addr×Obj)}{σ:List (Option V)}{H H':Hp}{s:Shared}{h':Heap}
theorem Cx.Ok.zu(ok:X.Ok){b:Addr}{o:Obj}(e:X.base.get? b=some o):b ∉ X.fs:=fun hb=>by
 have:=(ok.fW.mem hb).1;rw[e] at this;cases this
theorem Inv.bs(I:Inv X pins σ H s):∀b o,X.base.get? b=some o->s.heap.get? b=some o/\H b=none:=fun b o e=>
 ⟨I.base.keep b o (I.ok.bs b o e).1 (I.ok.bs b o e).2 (I.ok.zu e) (I.ok.noex b o e),I.base.free b o (I.ok.bs b o e).1 (I.ok.bs b o e).2 (I.ok.noex b o e)⟩
theorem Inv.bk(I:Inv X pins σ H s):∀b o,X.base.get? b=some o->s.heap.get? b=some o:=fun b o e=>(I.bs b o e).1
theorem Inv.mod(I:Inv X pins σ H s):Mod X.K X.mg X.base:=I.ok.mod
theorem Inv.kIn(I:Inv X pins σ H s):X.K.In s.heap:=I.ok.mod.kin.keeps I.bk
theorem Inv.nolimit(I:Inv X pins σ H s):s.heap.NoLimit:=I.ok.mod.nolimit.keeps I.bk
theorem Inv.lt(I:Inv X pins σ H s):X.env.locals<s.heap.objs.size:=let ⟨_,hn,_⟩:=I.loc;hn.lt
theorem Inv.sz(I:Inv X pins σ H s):X.s₀.heap.objs.size<=s.heap.objs.size:=Nat.le_trans I.ok.above (Nat.le_of_lt I.lt)
theorem Inv.zv(I:Inv X pins σ H s){a:Addr}(h:s.heap.objs.size<=a):a ∉ X.fs:=fun hb=>by
 obtain⟨_,o,ho,_⟩:=I.ok.fW.mem hb;exact absurd (Nat.lt_of_lt_of_le (Heap.lt_size ho) (Nat.le_trans I.sz h)) (Nat.lt_irrefl _)
theorem Inv.cne(I:Inv X pins σ H s):∀x c,X.env.cells.lookup x=some c->c≠X.env.locals:=fun x c e z=>by
 obtain⟨v,o,ho,hd⟩:=I.cell x c e;obtain⟨m,⟨o',es,ep,ho',hd',_⟩,_⟩:=I.loc;rw[z,ho'] at ho;cases ho;rw[hd'] at hd;cases hd
theorem Inv.fW(I:Inv X pins σ H s):s.heap.FunFrames X.base X.outer:=by
 have all:∀(l:List Env),(∀b∈frs l,b∈X.fs)->X.s₀.heap.FunFrames X.base l->s.heap.FunFrames X.base l:=by
  intro l
  induction l with
  |nil=>intro _ _;trivial
  |cons env r ih=>
   intro hs hl;obtain⟨hk,⟨L,o,hf,hn,ho,hd⟩,hr⟩:=hl;have hL:L∈X.fs:=hs L (by unfold frs;rw[List.filterMap_cons,hf];exact aac);obtain⟨sl,e⟩:=I.base.slot L o ho (I.ok.frf L hL) hL fun z=>I.ok.exfs L z hL
   exact⟨hk,⟨L,_,hf,hn,e,hd⟩,ih (fun b hb=>hs b (by unfold frs;rw[List.filterMap_cons,hf];exact aad _ hb)) hr⟩
 exact all X.outer (fun _ hb=>hb) I.ok.fW
theorem Inv.stack(I:Inv X pins σ H s):s.heap.FunFrames X.base X.stack:=by
 rcases I.ok.stk with e|⟨e,hf⟩
 ·rw[e];exact I.fW
 ·rw[e];obtain⟨m,hn,_⟩:=I.loc;refine .cons (by rw[I.ok.kind];decide) hf hn ?_ I.fW;exact Heap.get?_none_of_le (Nat.le_trans I.ok.bsz I.ok.above)
theorem Inv.mU(I:Inv X pins σ H s):∀b∈frs X.stack,b∈X.env.locals::X.fs:=fun b hb=>by
 rcases I.ok.stk with e|⟨e,hf⟩
 ·rw[e] at hb;exact aad _ hb
 ·rw[e] at hb;unfold frs at hb;rw[List.filterMap_cons,hf] at hb;exact hb
theorem Inv.li(I:Inv X pins σ H s):∀b∈frs X.stack,H b=none:=fun b hb=>by
 rcases List.mem_cons.mp (I.mU b hb) with e|hb
 ·rw[e];exact I.free
 ·obtain⟨_,o,ho,_⟩:=I.ok.fW.mem hb;exact I.base.free b o ho (I.ok.frf b hb) fun z=>I.ok.exfs b z hb
theorem Inv.step{g':Array GenState}{t':Nat}{d':Drawn}{ch:List Addr}(I:Inv X pins σ H s)
  (hch:∀b∈ch,(b∈X.ex\/X.s₀.heap.objs.size<=b)/\b≠X.env.locals/\(∀x c,X.env.cells.lookup x=some c->c≠b)/\∀p∈X.pn++pins,p.1≠b)
  (keep:∀b o,b≠X.env.locals->b ∉ X.fs->b ∉ ch->s.heap.get? b=some o->H b=none->h'.get? b=some o)
  (slot:∀b o,b≠X.env.locals->b∈X.fs->b ∉ ch->s.heap.get? b=some o->H b=none->∃sl,h'.get? b=some {o with slots:=sl})(free:∀b o,b ∉ ch->s.heap.get? b=some o->H b=none->H' b=none)
  (there:∀b o,b ∉ ch->s.heap.get? b=some o->∃o',h'.get? b=some o')
  (tups:∀b xs,H b=some (.tup xs)->H' b=some (.tup xs))(frzs:∀b o u,H b=some (.frz o u)->H' b=some (.frz o u))(tbls:∀b ps,H b=some (.tbl ps)->∃more,H' b=some (.tbl (ps++more)))
  (ns:∀m,s.heap.Ns X.env.locals m->h'.Ns X.env.locals m)(hok:HOk X.prog X.w H' h')(hg:AllBare g') :
  Inv X pins σ H' {s with heap:=h',gens:=g',drawn:=d',toks:=t'}:=by
 have neL:∀b o,X.s₀.heap.get? b=some o->b≠X.env.locals:=fun b o e=>Nat.ne_of_lt (Nat.lt_of_lt_of_le (Heap.lt_size e) I.ok.above)
 have neC:∀b o,X.s₀.heap.get? b=some o->b ∉ X.ex->b ∉ ch:=fun b o e hx hb=>by
  rcases(hch b hb).1 with z|z
  ·exact hx z
  ·exact absurd (Nat.lt_of_lt_of_le (Heap.lt_size e) z) (Nat.lt_irrefl _)
 have cellK:∀x c,X.env.cells.lookup x=some c->∀v,s.heap.IsCell c v->h'.IsCell c v:=fun x c e v ⟨o,ho,hd⟩=>by
  have nch:c ∉ ch:=fun z=>(hch c z).2.2.1 x c e rfl
  by_cases hc:c∈X.fs
  ·obtain⟨sl,q⟩:=slot c o (I.cne x c e) hc nch ho (I.freeC x c e);exact⟨_,q,hd⟩
  ·exact⟨o,keep c o (I.cne x c e) hc nch ho (I.freeC x c e),hd⟩
 refine⟨I.ok,I.os,hg,⟨fun b o e n hb hx=>?_,fun b o e n hb hx=>?_,fun b o e n hx=>?_,fun b o e hx=>?_,fun b xs e=>tups b xs (I.base.tups b xs e),fun b o xs e=>frzs b o xs (I.base.frzs b o xs e),fun b ps e=>?_⟩,?_,fun x c e=>?_,?_,fun x c e=>?_,fun p hp=>?_,hok,I.len⟩
 ·exact keep b o (neL b o e) hb (neC b o e hx) (I.base.keep b o e n hb hx) (I.base.free b o e n hx)
 ·obtain⟨sl,e1⟩:=I.base.slot b o e n hb hx;obtain⟨sl',e2⟩:=slot b _ (neL b o e) hb (neC b o e hx) e1 (I.base.free b o e n hx);exact⟨sl',e2⟩
 ·obtain⟨o',e1⟩:=I.base.there b o e hx;exact free b o' (neC b o e hx) e1 (I.base.free b o e n hx)
 ·obtain⟨o',e1⟩:=I.base.there b o e hx;exact there b o' (neC b o e hx) e1
 ·obtain⟨m1,e1⟩:=I.base.tbls b ps e;obtain⟨m2,e2⟩:=tbls b _ e1;exact⟨m1++m2,by rw[e2,Array.append_assoc]⟩
 ·obtain⟨m,hn,hl⟩:=I.loc;refine⟨m,ns m hn,fun i x v e1 e2 e3=>?_⟩;obtain⟨u,r,l⟩:=hl i x v e1 e2 e3;refine⟨u,r,?_⟩;rcases l with l|⟨k,c,e,z⟩
  ·exact .inl l
  ·exact .inr ⟨k,c,e,cellK x c e _ z⟩
 ·obtain⟨v,z⟩:=I.cell x c e;exact⟨v,cellK x c e v z⟩
 ·obtain⟨m,⟨o,_,_,ho,_⟩,_⟩:=I.loc;exact free _ o (fun z=>(hch _ z).2.1 rfl) ho I.free
 ·obtain⟨v,o,ho,hd⟩:=I.cell x c e;exact free c o (fun z=>(hch c z).2.2.1 x c e rfl) ho (I.freeC x c e)
 ·obtain⟨e,n,ne,nf,d⟩:=I.pin p hp;have nch:p.1 ∉ ch:=fun z=>(hch p.1 z).2.2.2 p hp rfl
  exact⟨keep p.1 p.2 ne nf nch e n,free p.1 p.2 nch e n,ne,nf,d⟩
theorem Inv.un{t':Nat}(I:Inv X pins σ H s)(u:Un X.fs [] H H' s.heap h')(hok:HOk X.prog X.w H' h'):Inv X pins σ H' {s with heap:=h',toks:=t'}:=by
 obtain⟨m,⟨o,es,ep,ho,r⟩,_⟩:=id I.loc;obtain⟨sl,hL⟩:=u.any ho I.free (by simp);exact I.step (g':=s.gens) (d':=s.drawn) (ch:=[]) (fun _ z=>nomatch z) (fun b o _ hb _ e n=>u.keep b o e n hb (by simp)) (fun b o _ hb _ e n=>u.slot b o e n hb (by simp)) (fun b o _ e n=>u.free b o e n (by simp)) (fun b o _ e=>u.there b o e (by simp)) u.tups u.frzs u.tbls (fun m' hm=>by
  obtain⟨o',es',ep',ho',r'⟩:=hm;rw[ho] at ho';cases ho';exact⟨_,es',ep',hL,r'⟩) hok I.bare
theorem Inv.call{g':Array GenState}{t':Nat}{d':Drawn}{ch:List Addr}(I:Inv X pins σ H s)(u:Un (frs X.stack) ch H H' s.heap h')(hok:HOk X.prog X.w H' h')(hg:AllBare g')
  (hch:∀b∈ch,(b∈X.ex\/X.s₀.heap.objs.size<=b)/\b≠X.env.locals/\(∀x c,X.env.cells.lookup x=some c->c≠b)/\∀p∈X.pn++pins,p.1≠b) :
  Inv X pins σ H' {s with heap:=h',gens:=g',drawn:=d',toks:=t'}:=by
 obtain⟨m,⟨o,es,ep,ho,r⟩,_⟩:=id I.loc;obtain⟨sl,hL⟩:=u.any ho I.free fun z=>(hch _ z).2.1 rfl
 exact I.step (ch:=ch) hch (fun b o hL hb hc e n=>u.keep b o e n (fun z=>(List.mem_cons.mp (I.mU b z)).elim hL hb) hc) (fun b o _ _ hc e n=>u.any e n hc) (fun b o hc e n=>u.free b o e n hc) (fun b o hc e=>u.there b o e hc) u.tups u.frzs u.tbls (fun m' hm=>by
  obtain⟨o',es',ep',ho',r'⟩:=hm;rw[ho] at ho';cases ho';exact⟨_,es',ep',hL,r'⟩) hok hg
theorem Inv.turned{t':Nat}{it:Addr}(I:Inv X pins σ H s)(k:∀b o,b≠it->s.heap.get? b=some o->h'.get? b=some o)(hn:H it=none)(hL:it≠X.env.locals)
  (h1:it∈X.ex\/X.s₀.heap.objs.size<=it)(h2:∀x c,X.env.cells.lookup x=some c->c≠it)(h3:∀p∈X.pn++pins,p.1≠it):Inv X pins σ H {s with heap:=h',toks:=t'}:=by
 have nit:∀b u,H b=some u->b≠it:=fun b u e z=>by rw[z,hn] at e;cases e
 refine I.step (g':=s.gens) (d':=s.drawn) (ch:=[it]) (fun b hb=>?_) (fun b o _ _ hc e _=>k b o (fun z=>hc (by simp[z])) e) (fun b o _ _ hc e _=>⟨o.slots,k b o (fun z=>hc (by simp[z])) e⟩) (fun _ _ _ _ n=>n)
  (fun b o hc e=>⟨o,k b o (fun z=>hc (by simp[z])) e⟩) (fun _ _ e=>e) (fun _ _ _ e=>e) (fun b ps e=>⟨#[],by rw[e];simp⟩) (fun m hm=>?_) (fun b u e=>?_) I.bare
 ·have e:b=it:=by simpa using hb
  subst e;exact⟨h1,hL,h2,h3⟩
 ·obtain⟨o,es,ep,ho,r⟩:=hm;exact⟨o,es,ep,k _ o (Ne.symm hL) ho,r⟩
 ·refine(I.hok b u e).eO (fun c v hc q=>k c v ?_ q) (fun _ q=>q) fun _ _ q=>q
  rcases hc with z|z
  ·rw[z];exact nit b u e
  ·exact nit c _ z
theorem Inv.tok(I:Inv X pins σ H s)(t:Nat):Inv X pins σ H {s with toks:=t}:=I.un (h':=s.heap) (t':=t) Un.refl I.hok
theorem Inv.kept{t':Nat}(I:Inv X pins σ H s)(k:∀b u,s.heap.get? b=some u->h'.get? b=some u):Inv X pins σ H {s with heap:=h',toks:=t'}:=I.un (Un.kept k) (I.hok.kept k)
theorem Inv.laid{a:Addr}{o:HO}{t':Nat}(I:Inv X pins σ H s)(k:∀b u,s.heap.get? b=some u->h'.get? b=some u)(hp:s.heap.objs.size<=a)(new:ba X.prog X.w (upd H a o) h' a o) :
  Inv X pins σ (upd H a o) {s with heap:=h',toks:=t'}:=I.un (Un.laid k hp (I.hok.fresh hp)) (I.hok.laid k hp new)
theorem Inv.write{x e:Addr}{o:HO}{t':Nat}(I:Inv X pins σ H s)(mu:Mut (H x))(he:e=x\/H e=some (.own x))(k:∀b u,b≠e->s.heap.get? b=some u->h'.get? b=some u)(heo:∃u,h'.get? e=some u)
  (new:ba X.prog X.w (upd H x o) h' x o):Inv X pins σ (upd H x o) {s with heap:=h',toks:=t'}:=I.un (Un.write mu he k heo) (I.hok.write mu he k heo new)
theorem Inv.gl{pins':List (Addr×Obj)}(I:Inv X pins σ H s)(h:∀p∈pins',s.heap.get? p.1=some p.2/\H p.1=none/\p.1≠X.env.locals/\p.1 ∉ X.fs/\∀v,p.2.data≠.cell v):Inv X pins' σ H s:=
 ⟨I.ok,I.os,I.bare,I.base,I.loc,I.cell,I.free,I.freeC,fun p hp=>(aak.mp hp).elim (fun z=>I.pin p (List.mem_append_left _ z)) (h p),I.hok,I.len⟩
theorem gv{N:List Str}(hN:N.Nodup){i j:Nat}{x:Str}(a:N[i]? =some x)(b:N[j]? =some x):i=j:=by
 obtain⟨h1,e1⟩:=aab.mp a;obtain⟨h2,e2⟩:=aab.mp b;exact(List.getElem_inj hN).mp (e1.trans e2.symm)
theorem rj{M:Model}{A:Around}{E:Value->Shared->Prop}{i:Nat}{x:Str}{v:V}{u:Value}{Q:Unit->Shared->Prop}(I:Inv X pins σ H s)(hN:X.N.Nodup)(hi:X.N[i]? =some x)(hx:Loc X.env.scope x)(r:RelV v u)
  (h:∀s',Inv X pins (σ.set i (some v)) H s'->(∃a,Heap.SameBut a s.heap s'.heap/\(a=X.env.locals\/X.env.cells.lookup x=some a))->Q () s')(hf:X.fn x=true\/X.env.scope.names.lookup x=some .local:=by first | exact .inl rfl | exact .inr rfl | assumption):wpAny M A (storeName X.env x u) Q E s:=by
 obtain⟨m,hn,hl⟩:=id I.loc;have hcls:(X.env.scope.kind == .class || (X.env.scope.kind == .module && X.env.locals != X.env.globals))=false:=by rw[I.ok.kind];rfl
 have hiσ:i < σ.length:=by rw[I.len];exact(aab.mp hi).1
 have cne:=I.cne;have tracked:∀{a:Addr} {h':Heap},(∃o,s.heap.get? a=some o/\H a=none)->Heap.SameBut a s.heap h'->HOk X.prog X.w H h':=fun{a h'} ha hs b ob e=>by
  obtain⟨_,_,hfree⟩:=ha;refine(I.hok b ob e).eO (fun c w' hc q=>(hs.2 c ?_).trans q) (fun _ q=>q) fun _ _ q=>q
  rintro rfl;rcases hc with rfl|hc
  ·rw[hfree] at e;cases e
  ·rw[hfree] at hc;cases hc
 rcases hx with hk|hk
 ·refine wpAny_storeName_local hk hn (fun h' hn' hs=>?_) hcls;obtain⟨oL,_,_,hoL,_⟩:=id hn;refine h _ ⟨I.ok,I.os,I.bare,⟨fun b o e n hb hx=>?_,fun b o e n hb hx=>?_,I.base.free,fun b o e hx=>?_,I.base.tups,I.base.frzs,I.base.tbls⟩,⟨_,hn',fun j y v' e1 e2 e3=>?_⟩,fun y c e=>?_,I.free,I.freeC,fun p hp=>?_,tracked ⟨oL,hoL,I.free⟩ hs,by simpa using I.len⟩ ⟨_,hs,.inl rfl⟩
  ·exact(hs.2 b (Nat.ne_of_lt (Nat.lt_of_lt_of_le (Heap.lt_size e) I.ok.above))).trans (I.base.keep b o e n hb hx)
  ·obtain⟨sl,e1⟩:=I.base.slot b o e n hb hx;exact⟨sl,(hs.2 b (Nat.ne_of_lt (Nat.lt_of_lt_of_le (Heap.lt_size e) I.ok.above))).trans e1⟩
  ·obtain⟨o',e1⟩:=I.base.there b o e hx;exact⟨o',(hs.2 b (Nat.ne_of_lt (Nat.lt_of_lt_of_le (Heap.lt_size e) I.ok.above))).trans e1⟩
  ·by_cases hj:j=i
   ·subst hj;rw[hi] at e1;cases e1;rw[List.getElem?_set_self hiσ] at e2;cases e2
    exact⟨u,r,.inl ⟨hk,by simp⟩⟩
   ·rw[List.getElem?_set_ne (Ne.symm hj)] at e2;obtain⟨u',r',q⟩:=hl j y v' e1 e2 e3;refine⟨u',r',?_⟩;rcases q with ⟨k,e⟩|⟨k,c,e,z⟩
    ·refine .inl ⟨k,?_⟩;have:y≠x:=fun e=>hj (gv hN e1 (e▸hi))
     simp[this,e]
    ·exact .inr ⟨k,c,e,z.sameBut hs (cne y c e)⟩
  ·obtain⟨w',z⟩:=I.cell y c e;exact⟨w',z.sameBut hs (cne y c e)⟩
  ·obtain⟨e,n,ne,nf,d⟩:=I.pin p hp;exact⟨(hs.2 p.1 ne).trans e,n,ne,nf,d⟩
 ·have hfn:X.fn x=true:=by
   rcases hf with z|z
   ·exact z
   ·rw[z] at hk;cases hk
  obtain⟨c,hc⟩:=I.ok.has x (.inl hk);obtain⟨w',z⟩:=I.cell x c hc;refine wpAny_storeName_cell I.ok.kind hk hc z (fun h' hc' hs=>?_);obtain⟨oc,hoc,hocd⟩:=id z;refine h {s with heap:=h'} ⟨I.ok,I.os,I.bare,⟨fun b o e n hb hx=>?_,fun b o e n hb hx=>?_,I.base.free,fun b o e hx=>?_,I.base.tups,I.base.frzs,I.base.tbls⟩,⟨m,hn.sameBut hs (Ne.symm (cne x c hc)),fun j y v' e1 e2 e3=>?_⟩,fun y c' e=>?_,I.free,I.freeC,fun p hp=>?_,tracked ⟨oc,hoc,I.freeC x c hc⟩ hs,by simpa using I.len⟩ ⟨c,hs,.inr hc⟩
  ·exact(hs.2 b (Nat.ne_of_lt (Nat.lt_of_lt_of_le (Heap.lt_size e) (I.ok.cab x c hfn hc)))).trans (I.base.keep b o e n hb hx)
  ·obtain⟨sl,e1⟩:=I.base.slot b o e n hb hx;exact⟨sl,(hs.2 b (Nat.ne_of_lt (Nat.lt_of_lt_of_le (Heap.lt_size e) (I.ok.cab x c hfn hc)))).trans e1⟩
  ·obtain⟨o',e1⟩:=I.base.there b o e hx;exact⟨o',(hs.2 b (Nat.ne_of_lt (Nat.lt_of_lt_of_le (Heap.lt_size e) (I.ok.cab x c hfn hc)))).trans e1⟩
  ·by_cases hj:j=i
   ·subst hj;rw[hi] at e1;cases e1;rw[List.getElem?_set_self hiσ] at e2;cases e2
    exact⟨u,r,.inr ⟨.inl hk,c,hc,hc'⟩⟩
   ·rw[List.getElem?_set_ne (Ne.symm hj)] at e2;obtain⟨u',r',q⟩:=hl j y v' e1 e2 e3;refine⟨u',r',?_⟩;rcases q with q|⟨k,c',e,z'⟩
    ·exact .inl q
    ·refine .inr ⟨k,c',e,z'.sameBut hs ?_⟩;rintro rfl;exact hj (gv hN e1 (I.ok.inj _ _ _ e hc▸hi))
  ·by_cases hcc:c'=c
   ·subst hcc;exact⟨_,hc'⟩
   ·obtain⟨w2,z2⟩:=I.cell y c' e;exact⟨w2,z2.sameBut hs hcc⟩
  ·obtain⟨e,n,ne,nf,d⟩:=I.pin p hp;refine⟨(hs.2 p.1 ?_).trans e,n,ne,nf,d⟩;intro q;rw[q,hoc] at e;have q':oc=p.2:=Option.some.inj e;exact d w' (by rw[←q'];exact hocd)
theorem j0{M:Model}{A:Around}{E:Value->Shared->Prop}{i:Nat}{x:Str}{v:V}{u:Value}{Q:Unit->Shared->Prop}(I:Inv X pins σ H s)(hN:X.N.Nodup)(hi:X.N[i]? =some x)(hx:Loc X.env.scope x)(r:RelV v u)
  (h:∀s',Inv X pins (σ.set i (some v)) H s'->Q () s')(hf:X.fn x=true\/X.env.scope.names.lookup x=some .local:=by first | exact .inl rfl | exact .inr rfl | assumption):wpAny M A (storeName X.env x u) Q E s:=
 rj I hN hi hx r (fun s' I' _=>h s' I') hf
theorem Inv.yN{s':Shared}{ch:List Addr}(I:Inv X pins σ H s)(ho:s'.os=s.os)(u:Un (frs X.stack) ch H H' s.heap s'.heap)(hok:HOk X.prog X.w H' s'.heap)(hg:AllBare s'.gens)
  (hch:∀b∈ch,(b∈X.ex\/X.s₀.heap.objs.size<=b)/\b≠X.env.locals/\(∀x c,X.env.cells.lookup x=some c->c≠b)/\∀p∈X.pn++pins,p.1≠b):Inv X pins σ H' s':=by
 obtain⟨h',g',d',t',o'⟩:=s';have e:o'=s.os:=ho;subst e;exact I.call (g':=g') (t':=t') (d':=d') u hok hg hch
end
abbrev XK:=Value->Option Addr->Hp->Prop
abbrev St:=List (Option V)
abbrev VK:=V->Hp->Prop
abbrev TE:=St->Hp->VK->Prop
abbrev TT:=St->Hp->(Bool->Hp->Prop)->Prop
abbrev TA:=St->Hp->(List V->Hp->Prop)->Prop
structure Ends where
 nx:St->Hp->Prop
 rt:VK
 bk:St->Hp->Prop:=fun _ _=>False
 ct:St->Hp->Prop:=fun _ _=>False
abbrev TS:=Ends->St->Hp->Prop
def EP(X:Cx)(pins:List (Addr×Obj))(σ:St)(Q:VK)(u:Value)(s':Shared):Prop:=∃v H',Inv X pins σ H' s'/\RelV v u/\Q v H'
def TP(X:Cx)(pins:List (Addr×Obj))(σ:St)(Q:Bool->Hp->Prop)(b:Bool)(s':Shared):Prop:=∃H',Inv X pins σ H' s'/\Q b H'
def AP(X:Cx)(pins:List (Addr×Obj))(σ:St)(Q:List V->Hp->Prop)(us:List Value)(s':Shared):Prop:=∃vs H',Inv X pins σ H' s'/\Vals vs us/\Q vs H'
def SP(X:Cx)(pins:List (Addr×Obj))(D:Ends)(f:Flow)(s':Shared):Prop:=
 match f with
 |.next=>∃σ' H',Inv X pins σ' H' s'/\D.nx σ' H'
 |.brk=>∃σ' H',Inv X pins σ' H' s'/\D.bk σ' H'
 |.cont=>∃σ' H',Inv X pins σ' H' s'/\D.ct σ' H'
 |.ret u=>∃v σ' H',Inv X pins σ' H' s'/\RelV v u/\D.rt v H'
def PE(X:Cx)(e:Expr)(t:TE):Prop:=
 ∀(pins:List (Addr×Obj)) (s:Shared) (σ:St) (H:Hp) (Q:VK),Inv X pins σ H s->t σ H Q->wpAny (model X.prog X.w) X.A (eval e X.env) (EP X pins σ Q) X.xe s
def PT(X:Cx)(e:Expr)(t:TT):Prop:=
 ∀(pins:List (Addr×Obj)) (s:Shared) (σ:St) (H:Hp) (Q:Bool->Hp->Prop),Inv X pins σ H s->t σ H Q->wpAny (model X.prog X.w) X.A (isTrue e X.env (eval e X.env)) (TP X pins σ Q) X.xe s
def PW(X:Cx)(e:Expr)(t:TT):Prop:=
 ∀(whole:Sem Value) (pins:List (Addr×Obj)) (s:Shared) (σ:St) (H:Hp) (Q:Bool->Hp->Prop),Inv X pins σ H s->t σ H Q->wpAny (model X.prog X.w) X.A (isTrue e X.env whole) (TP X pins σ Q) X.xe s
theorem PW.pt{X:Cx}{e:Expr}{t:TT}(h:PW X e t):PT X e t:=h _
def PA(X:Cx)(es:List Expr)(t:TA):Prop:=
 ∀(pos:Pos) (pins:List (Addr×Obj)) (s:Shared) (σ:St) (H:Hp) (Q:List V->Hp->Prop),Inv X pins σ H s->t σ H Q->wpAny (model X.prog X.w) X.A (spliced (backTo pos (starEach es X.env))) (AP X pins σ Q) X.xe s
def PS(X:Cx)(st:Stmt)(t:TS):Prop:=
 ∀(pins:List (Addr×Obj)) (s:Shared) (σ:St) (H:Hp) (D:Ends),Inv X pins σ H s->t D σ H->wpAny (model X.prog X.w) X.A (exec st X.env) (SP X pins D) X.xe s
def PSs(X:Cx)(st:List Stmt)(t:TS):Prop:=
 ∀(pins:List (Addr×Obj)) (s:Shared) (σ:St) (H:Hp) (D:Ends),Inv X pins σ H s->t D σ H->wpAny (model X.prog X.w) X.A (execs st X.env) (SP X pins D) X.xe s
theorem thn{α:Type}{t:Sem α}{Q Q':α->Shared->Prop}{M:Model}{A:Around}{E:Value->Shared->Prop}{s:Shared}(h:wpAny M A t Q E s)(hQ:∀a s,Q a s->Q' a s):wpAny M A t Q' E s:=wpAny_mono h hQ fun _ _ x=>x
end L2
namespace L2
open PySem PySem.Spec PyProof.Rows
section
variable {X:Cx}
def mV(i:Nat):TE:=fun σ H Q=>∃v,σ[i]? =some (some v)/\Q v H
def tC(v:V):TE:=fun _ H Q=>Q v H
theorem rm{i:Nat}{x:Str}{pos:Pos}(hN:X.N[i]? =some x)(hv:Vis X.env.scope x)(hd:(x == ("__debug__":Str))=false:=by decide)(hcd:(x == ("__classdict__":Str))=false:=by decide):PE X (.Name x pos) (mV i):=by
 intro pins s σ H Q I h;obtain⟨v,e,h⟩:=h;obtain⟨m,hn,hl⟩:=I.loc;obtain⟨u,r,l⟩:=hl i x v hN e hv;have fin:EP X pins σ Q u s:=⟨v,H,I,r,h⟩;rcases l with ⟨hk,hm⟩|⟨hk,c,hc,hcell⟩
 ·exact wpAny_Name (wpAny_loadName_local I.ok.kind hk hn hm fin) hd
 ·rcases hk with hk|hk
  ·exact wpAny_Name (wpAny_loadName_cell I.ok.kind hk hc hcell fin) hd
  ·exact wpAny_Name (wpAny_loadName_free I.ok.kind hk hc hcell fin hcd) hd
theorem az{i j pos}:PE X (.Constant (.int i) j pos) (tC (.int i)):=fun _ _ _ H _ I h=>wpAny_Constant_int ⟨.int i,H,I.tok _,⟨_,rfl⟩,h⟩
theorem dC{b j pos}:PE X (.Constant (.bool b) j pos) (tC (.bl b)):=fun _ _ _ H _ I h=>Constant_bool ⟨.bl b,H,I,rfl,h⟩
theorem e7{j pos}:PE X (.Constant .none j pos) (tC .non):=fun _ _ _ H _ I h=>Constant_none ⟨.non,H,I,rfl,h⟩
theorem e8{x j pos}:PE X (.Constant (.str x) j pos) (tC (.str x)):=fun _ _ _ H _ I h=>Calls.Constant_str ⟨.str x,H,I.tok _,⟨_,rfl⟩,h⟩
def Gl(X:Cx)(x:Str):Prop:=X.env.kindOf x=some .globalImplicit
theorem pi{E:Value->Shared->Prop}{pins:List (Addr×Obj)}{s:Shared}{σ:St}{H:Hp}{x:Str}{u:Value}{pos:Pos}{Q:Value->Shared->Prop}(I:Inv X pins σ H s)(hg:Gl X x)(hm:X.mg x=some u)(h:Q u s)
  (hd:(x == ("__debug__":Str))=false:=by decide):wpAny (model X.prog X.w) X.A (eval (.Name x pos) X.env) Q E s:=
 Calls.Name_function_global I.ok.kind hg (Calls.loadGlobal_global (by rw[I.ok.glob];exact I.mod.glob.keeps I.bk) hm h) hd
theorem g6{E:Value->Shared->Prop}{pins:List (Addr×Obj)}{s:Shared}{σ:St}{H:Hp}{x:Str}{u:Value}{pos:Pos}{Q:Value->Shared->Prop}(I:Inv X pins σ H s)(hg:Gl X x)(hm:X.mg x=none)(hv:bootBuiltins x=some u)(h:Q u s)
  (hn:x≠"__name__":=by decide)(hd:(x == ("__debug__":Str))=false:=by decide):wpAny (model X.prog X.w) X.A (eval (.Name x pos) X.env) Q E s:=by
 obtain⟨mb,h1,h2⟩:=I.mod.blt;exact Calls.Name_function_global I.ok.kind hg (Calls.loadGlobal_builtin (by rw[I.ok.glob];exact I.mod.glob.keeps I.bk) hm (by rw[I.ok.blt];exact h1.keeps I.bk) ((h2 x hn).trans hv) h) hd
theorem bR{x:Str}{v:V}{u:Value}{pos:Pos}(hg:Gl X x)(hm:X.mg x=some u)(r:RelV v u)(hd:(x == ("__debug__":Str))=false:=by decide):PE X (.Name x pos) (tC v):=
 fun _ _ _ H _ I h=>pi I hg hm ⟨v,H,I,r,h⟩ hd
theorem cB{x:Str}{v:V}{u:Value}{pos:Pos}(hg:Gl X x)(hm:X.mg x=none)(hv:bootBuiltins x=some u)(r:RelV v u)(hn:x≠"__name__":=by decide)(hd:(x == ("__debug__":Str))=false:=by decide):PE X (.Name x pos) (tC v):=
 fun _ _ _ H _ I h=>g6 I hg hm hv ⟨v,H,I,r,h⟩ hn hd
variable {a b:Expr}{ta tb:TE}{pos:Pos}
def PC(X:Cx)(op:CmpOp)(a b:Expr)(t:TE):Prop:=
 ∀(pins:List (Addr×Obj)) (s:Shared) (σ:St) (H:Hp) (Q:VK),Inv X pins σ H s->t σ H Q->
  wpAny (model X.prog X.w) X.A (eval a X.env) (fun v s₁=>wpAny (model X.prog X.w) X.A (eval b X.env) (fun u s₂=>wpAny (model X.prog X.w) X.A (compareOp op v u) (EP X pins σ Q) X.xe s₂) X.xe s₁) X.xe s
def tB(t:TE):TT:=fun σ H Q=>t σ H fun x H1=>∃c,x=.bl c/\Q c H1
theorem xl{op:CmpOp}{t:TE}(h:PC X op a b t)(h1:behindInMarks op b=false:=by first | exact nobehind _ (by decide) (by decide) | rfl):PE X (.Compare a [op] [b] pos) t:=fun pins s σ H Q I hw=>wpAny_Compare1 (h pins s σ H Q I hw) h1
theorem fM{op:CmpOp}{t:TE}(h:PC X op a b t)(h1:behindInMarks op b=false:=by first | exact nobehind _ (by decide) (by decide) | rfl):PT X (.Compare a [op] [b] pos) (tB t):=by
 intro pins s σ H Q I hw;refine wpAny_isTrue_Compare1 (thn (h pins s σ H _ I hw) fun v s1 h1=>thn h1 fun u s2 h2=>thn h2 fun c s3 ⟨x,H1,I1,r1,q1⟩=>?_) h1;obtain⟨d,rfl,q⟩:=q1;cases r1
 exact wpAny_truthy_bool ⟨H1,I1,q⟩
theorem ci{e:Expr}{t:TE}(h:PE X e t)(he:∀whole,isTrue e X.env whole=(do let v ←whole;standAt e.pos;holding [v] (truthy v)):=by intro _;rfl):PT X e (tB t):=by
 intro pins s σ H Q I hw;refine isTrue_plain (thn (h pins s σ H _ I hw) fun v s1 ⟨x,H1,I1,r1,q1⟩=>?_) (he _);obtain⟨d,rfl,q⟩:=q1;cases r1
 exact wpAny_truthy_bool ⟨H1,I1,q⟩
variable {tA tB':TT}{rest:List Expr}
def zw(t u:TT):TT:=fun σ H Q=>t σ H fun c H1=>if c=true then u σ H1 Q else Q false H1
def tOr(t u:TT):TT:=fun σ H Q=>t σ H fun c H1=>if c=true then Q true H1 else u σ H1 Q
def zx(t:TT):TT:=fun σ H Q=>t σ H fun c H1=>Q (!c) H1
theorem gm(ha:PT X a tA):PW X (.BoolOp .And [a] pos) tA:=by
 intro wh pins s σ H Q I h;refine isTrue_and (thn (ha pins s σ H Q I h) fun c s1 e=>?_);cases c with
 |true=>exact isTrue_and_nil e
 |false=>exact e
theorem iY(ha:PT X a tA):PW X (.BoolOp .Or [a] pos) tA:=by
 intro wh pins s σ H Q I h;refine isTrue_or (thn (ha pins s σ H Q I h) fun c s1 e=>?_);cases c with
 |false=>exact isTrue_or_nil e
 |true=>exact e
theorem g7(ha:PT X a tA)(hb:PW X (.BoolOp .And (b::rest) pos) tB'):PW X (.BoolOp .And (a::b::rest) pos) (zw tA tB'):=by
 intro wh pins s σ H Q I h;refine isTrue_and (thn (ha pins s σ H _ I h) fun c s1 ⟨H1,I1,q1⟩=>?_);cases c with
 |true=>exact hb wh pins s1 σ H1 Q I1 q1
 |false=>exact⟨H1,I1,q1⟩
theorem iw(ha:PT X a tA)(hb:PW X (.BoolOp .Or (b::rest) pos) tB'):PW X (.BoolOp .Or (a::b::rest) pos) (tOr tA tB'):=by
 intro wh pins s σ H Q I h;refine isTrue_or (thn (ha pins s σ H _ I h) fun c s1 ⟨H1,I1,q1⟩=>?_);cases c with
 |true=>exact⟨H1,I1,q1⟩
 |false=>exact hb wh pins s1 σ H1 Q I1 q1
theorem gw(ha:PT X a tA):PT X (.UnaryOp .Not a pos) (zx tA):=by
 intro pins s σ H Q I h;exact isTrue_not (ha pins s σ H (fun c H1=>Q (!c) H1) I h)
def zy(ta tb:TE):TE:=fun σ H Q=>ta σ H fun x H1=>∃c,x=.bl c/\if c=true then Q (.bl true) H1 else tb σ H1 Q
theorem xm{op}{t:TE}(h:PE X a t):PE X (.BoolOp op [a] pos) t:=fun pins s σ H Q I hw=>BoolOp_one (h pins s σ H Q I hw)
theorem yO(ha:PE X a ta)(hb:PE X (.BoolOp .Or (b::rest) pos) tb):PE X (.BoolOp .Or (a::b::rest) pos) (zy ta tb):=by
 intro pins s σ H Q I h;refine BoolOp_or (thn (ha pins s σ H _ I h) fun v s1 ⟨x,H1,I1,r1,q1⟩=>?_);obtain⟨c,rfl,q1⟩:=q1;cases r1
 refine wpAny_truthy_bool ?_;cases c with
 |false=>exact hb pins s1 σ H1 Q I1 q1
 |true=>exact⟨.bl true,H1,I1,rfl,q1⟩
def tIf(t:TT)(ta tb:TE):TE:=fun σ H Q=>t σ H fun c H1=>if c=true then ta σ H1 Q else tb σ H1 Q
theorem j1{c:Expr}(hc:PT X c tA)(ha:PE X a ta)(hb:PE X b tb):PE X (.IfExp c a b pos) (tIf tA ta tb):=by
 intro pins s σ H Q I h;refine wpAny_IfExp (thn (hc pins s σ H _ I h) fun d s1 ⟨H1,I1,q1⟩=>?_);cases d with
 |true=>exact ha pins s1 σ H1 Q I1 q1
 |false=>exact hb pins s1 σ H1 Q I1 q1
end
end L2
namespace L2
open PySem PySem.Spec PyProof.Rows
def SqL(K:PySem.W.Frag)(H:Hp)(a:Addr)(xs:List V):Prop:=
 Rd H a (.lst xs)\/
  ∃(o:Obj) (its:Array Value) (n:Nat),K.lookup a=some o/\o.cls=.type "list"/\o.dict=none/\o.data=.seq its n/\its.size<=sizeLine/\Vals xs its.toList
def SqT(K:PySem.W.Frag)(H:Hp)(a:Addr)(xs:List V):Prop:=
 Rd H a (.tup xs)\/
  ∃(o:Obj) (its:Array Value) (n:Nat),K.lookup a=some o/\o.cls=.type "tuple"/\o.data=.seq its n/\its.size<=sizeLine/\Vals xs its.toList
def zz:Value->Option V
 |.none=>some .non
 |.bool b=>some (.bl b)
 |.int i _=>some (.int i)
 |.str x _=>some (.str x)
 |.bytes b _=>some (.byt b)
 |.float b _=>some (.flt b)
 |.ref a=>some (.ref a)
 |.type n=>some (.ty n)
 |_=>none
theorem RelV.abs{x:V}{u:Value}(r:RelV x u):zz u=some x:=by
 cases x with
 |non=>cases r;rfl
 |bl _=>cases r;rfl
 |int _=>obtain⟨t,rfl⟩:=r;rfl
 |str _=>obtain⟨t,rfl⟩:=r;rfl
 |byt _=>obtain⟨t,rfl⟩:=r;rfl
 |flt _=>obtain⟨t,rfl⟩:=r;rfl
 |ref _=>cases r;rfl
 |ty _=>cases r;rfl
theorem RelV.inj{x y:V}{u:Value}(r:RelV x u)(q:RelV y u):x=y:=Option.some.inj (r.abs.symm.trans q.abs)
theorem Vals.inj:∀{xs ys:List V} {us:List Value},Vals xs us->Vals ys us->xs=ys
 |_,_,_,.nil,.nil=>rfl
 |_,_,_,.cons r t,.cons r' t'=>by rw[r.inj r',Vals.inj t t']
section
variable {X:Cx}{pins:List (Addr×Obj)}{σ:St}{H:Hp}{s:Shared}{a:Addr}{xs ys:List V}
theorem SqL.of{K:PySem.W.Frag}(h:H a=some (.lst xs)):SqL K H a xs:=.inl (.inl h)
theorem SqT.of{K:PySem.W.Frag}(h:H a=some (.tup xs)):SqT K H a xs:=.inl (.inl h)
theorem Inv.list(I:Inv X pins σ H s)(h:SqL X.K H a xs):∃its:List Value,Vals xs its/\PlainL s.heap a its.toArray/\xs.length<=sizeLine:=by
 rcases h with h|⟨o,its,n,hk,hc,hd,hs,hz,r⟩
 ·obtain⟨z,its,n,r,e⟩:=h.ok I.hok;exact⟨its,r,⟨_,n,e,rfl,rfl,rfl⟩,z⟩
 ·refine⟨its.toList,r,⟨o,n,I.kIn a o hk,hc,hd,by simpa using hs⟩,?_⟩;have e:=r.length;simp only[Array.length_toList] at e;omega
theorem Inv.tuple(I:Inv X pins σ H s)(h:SqT X.K H a xs):∃its:List Value,Vals xs its/\IsTup s.heap a its.toArray/\xs.length<=sizeLine:=by
 rcases h with h|⟨o,its,n,hk,hc,hs,hz,r⟩
 ·obtain⟨z,its,r,p⟩:=h.ok I.hok;exact⟨its,r,p,z⟩
 ·refine⟨its.toList,r,⟨o,I.kIn a o hk,hc,n,by simpa using hs⟩,?_⟩;have e:=r.length;simp only[Array.length_toList] at e;omega
theorem Inv.mW(I:Inv X pins σ H s)(h:SqL X.K H a xs)(h':SqL X.K H a ys):xs=ys:=by
 obtain⟨its,r,⟨o,n,e,_,_,d⟩,_⟩:=I.list h;obtain⟨its',r',⟨o',n',e',_,_,d'⟩,_⟩:=I.list h';rw[e] at e';cases e';rw[d] at d';injection d' with d1 _;have:its=its':=by simpa using congrArg Array.toList d1
 subst this;exact r.inj r'
theorem Inv.ro(I:Inv X pins σ H s)(h:SqT X.K H a xs)(h':SqT X.K H a ys):xs=ys:=by
 obtain⟨its,r,⟨o,e,_,n,d⟩,_⟩:=I.tuple h;obtain⟨its',r',⟨o',e',_,n',d'⟩,_⟩:=I.tuple h';rw[e] at e';cases e';rw[d] at d';injection d' with d1 _;have:its=its':=by simpa using congrArg Array.toList d1
 subst this;exact r.inj r'
end
abbrev Cx.gU(X:Cx)(E:Value->Shared->Prop):Cx:={X with xe:=E}
abbrev Cx.nox(X:Cx):Cx:=X.gU fun _ _=>False
theorem Cx.Ok.gU{X:Cx}(ok:X.Ok)(E:Value->Shared->Prop):(X.gU E).Ok:=
 ⟨ok.mod,ok.kind,ok.glob,ok.blt,ok.above,ok.inj,ok.has,ok.cab,ok.hd,ok.frames,ok.stk,ok.exf,ok.bs,ok.bsz,ok.noex,ok.exfs,ok.fW,ok.frf⟩
theorem Cx.Ok.fN{X:Cx}{E:Value->Shared->Prop}(ok:(X.gU E).Ok):X.Ok:=
 ⟨ok.mod,ok.kind,ok.glob,ok.blt,ok.above,ok.inj,ok.has,ok.cab,ok.hd,ok.frames,ok.stk,ok.exf,ok.bs,ok.bsz,ok.noex,ok.exfs,ok.fW,ok.frf⟩
section
variable {X:Cx}{pins:List (Addr×Obj)}{σ:St}{H:Hp}{s:Shared}{E:Value->Shared->Prop}
theorem Inv.gU(I:Inv X pins σ H s)(E:Value->Shared->Prop):Inv (X.gU E) pins σ H s:=⟨I.ok.gU E,I.os,I.bare,I.base,I.loc,I.cell,I.free,I.freeC,I.pin,I.hok,I.len⟩
theorem Inv.fN(I:Inv (X.gU E) pins σ H s):Inv X pins σ H s:=⟨I.ok.fN,I.os,I.bare,I.base,I.loc,I.cell,I.free,I.freeC,I.pin,I.hok,I.len⟩
theorem SP.fN{D:Ends}{f:Flow}{s':Shared}(h:SP (X.gU E) pins D f s'):SP X pins D f s':=by
 cases f with
 |next=>obtain⟨σ',H',I,q⟩:=h;exact⟨σ',H',I.fN,q⟩
 |brk=>obtain⟨σ',H',I,q⟩:=h;exact⟨σ',H',I.fN,q⟩
 |cont=>obtain⟨σ',H',I,q⟩:=h;exact⟨σ',H',I.fN,q⟩
 |ret u=>obtain⟨v,σ',H',I,r,q⟩:=h;exact⟨v,σ',H',I.fN,r,q⟩
theorem PSs.nox{st:List Stmt}{t:TS}(h:PSs X.nox st t):PSs X st t:=fun pins s σ H D I hw=>
 wpAny_mono (h pins s σ H D (I.gU _) hw) (fun _ _ q=>q.fN) fun _ _ z=>False.elim z
end
section
variable {X:Cx}{st:Stmt}{rest:List Stmt}{t u:TS}{e:Expr}{te:TE}{pos:Pos}
def vE:TS:=fun D σ H=>D.nx σ H
def tz(t u:TS):TS:=fun D σ H=>t {D with nx:=u D} σ H
theorem aY:PSs X [] vE:=fun _ _ σ H _ I h=>wpAny_execs_nil ⟨σ,H,I,h⟩
theorem af(h1:PS X st t)(h2:PSs X rest u):PSs X (st::rest) (tz t u):=by
 intro pins s σ H D I h;refine wpAny_execs_cons (thn (h1 pins s σ H {D with nx:=u D} I h) fun f s1 q=>?_);cases f with
 |next=>
  obtain⟨σ',H',I',q⟩:=q;exact h2 pins s1 σ' H' D I' q
 |ret v=>exact q
 |brk=>exact q
 |cont=>exact q
theorem ai(h1:PS X st t):PSs X [st] t:=by
 intro pins s σ H D I h;refine wpAny_execs_cons (thn (h1 pins s σ H D I h) fun f s1 q=>?_);cases f with
 |next=>exact wpAny_execs_nil q
 |ret v=>exact q
 |brk=>exact q
 |cont=>exact q
def xn:TS:=fun D σ H=>D.bk σ H
theorem tD:PS X (.Break pos) xn:=fun _ _ σ H _ I h=>wpAny_Break ⟨σ,H,I,h⟩
theorem Inv.quiet{pins:List (Addr×Obj)}{σ:St}{H:Hp}{s:Shared}(I:Inv X pins σ H s):interactive X.env=false:=by simp[interactive,I.ok.kind]
def vF(te:TE):TS:=fun D σ H=>te σ H fun _ H1=>D.nx σ H1
theorem bp(he:PE X e te)(hs:swapsWith e none pos.line X.env=pure false:=by rfl):PS X (.Expr e pos) (vF te):=by
 intro pins s σ H D I h;exact wpAny_Expr_any (thn (he pins s σ H _ I h) fun v s1 ⟨x,H1,I1,r1,q1⟩=>⟨σ,H1,I1,q1⟩) I.quiet hs
def xo(te:TE):TS:=fun D σ H=>te σ H D.rt
theorem aI(he:PE X e te):PS X (.Return (some e) pos) (xo te):=by
 intro pins s σ H D I h;exact wpAny_Return_some (thn (he pins s σ H _ I h) fun v s1 ⟨x,H1,I1,r1,q1⟩=>⟨x,σ,H1,I1,r1,q1⟩)
def xp(c:TT)(t u:TS):TS:=fun D σ H=>c σ H fun b H1=>if b=true then t D σ H1 else u D σ H1
theorem bi{c:Expr}{a b:List Stmt}{tc:TT}(hc:PT X c tc)(ha:PSs X a t)(hb:PSs X b u):PS X (.If c a b pos) (xp tc t u):=by
 intro pins s σ H D I h;refine wpAny_If (thn (hc pins s σ H _ I h) fun d s1 ⟨H1,I1,q1⟩=>?_);cases d with
 |true=>exact ha pins s1 σ H1 D I1 q1
 |false=>exact hb pins s1 σ H1 D I1 q1
def xq:TS:=fun _ _ _=>False
theorem cn{sts:List Stmt}:PSs X sts xq:=fun _ _ _ _ _ _ h=>h.elim
end
abbrev TG:=V->St->Hp->(St->Hp->Prop)->Prop
abbrev TGs:=List V->St->Hp->(St->Hp->Prop)->Prop
def PG(X:Cx)(target:Expr)(t:TG):Prop:=
 ∀(pins:List (Addr×Obj)) (s:Shared) (σ:St) (H:Hp) (v:V) (u:Value) (Q:St->Hp->Prop),Inv X pins σ H s->RelV v u->t v σ H Q->
  wpAny (model X.prog X.w) X.A (assign target X.env u) (fun _ s'=>∃σ' H',Inv X pins σ' H' s'/\Q σ' H') X.xe s
def PGs(X:Cx)(ts:List Expr)(t:TGs):Prop:=
 ∀(pins:List (Addr×Obj)) (s:Shared) (σ:St) (H:Hp) (vs:List V) (us:List Value) (Q:St->Hp->Prop),Inv X pins σ H s->Vals vs us->t vs σ H Q->
  wpAny (model X.prog X.w) X.A (assignInOrder ((assignEach ts X.env).map (·.2)) us) (fun _ s'=>∃σ' H',Inv X pins σ' H' s'/\Q σ' H') X.xe s
section
variable {X:Cx}{pos:Pos}
def jy(i:Nat):TG:=fun v σ H Q=>Q (σ.set i (some v)) H
theorem ap{i:Nat}{x:Str}(hN:X.N.Nodup)(hi:X.N[i]? =some x)(hx:Loc X.env.scope x)(hf:X.fn x=true\/X.env.scope.names.lookup x=some .local:=by first | exact .inl rfl | exact .inr rfl | assumption):PG X (.Name x pos) (jy i):=by
 intro pins s σ H v u Q I r h;exact wpAny_assign_Name (j0 I hN hi hx r (fun s' I'=>⟨_,H,I',h⟩) hf)
def zA:TGs:=fun vs σ H Q=>vs=[]/\Q σ H
def yP(t:TG)(u:TGs):TGs:=fun vs σ H Q=>∃v r,vs=v::r/\t v σ H fun σ' H'=>u r σ' H' Q
theorem cg:PGs X [] zA:=by
 intro pins s σ H vs us Q I r h;obtain⟨e,h⟩:=h;subst e;cases r
 exact assignInOrder_nil ⟨σ,H,I,h⟩
theorem aH{e:Expr}{es:List Expr}{t:TG}{u:TGs}(h1:PG X e t)(h2:PGs X es u)
  (hs:(assignEach (e::es) X.env).map (·.2)=assign e X.env::(assignEach es X.env).map (·.2):=by rfl):PGs X (e::es) (yP t u):=by
 intro pins s σ H vs us Q I r h;obtain⟨v,vr,e1,h⟩:=h;subst e1;cases r with
 |cons r rr=>
  rw[hs];refine assignInOrder_cons (thn (h1 pins s σ H _ _ _ I r h) fun _ s1 ⟨σ1,H1,I1,q1⟩=>?_);exact h2 pins s1 σ1 H1 _ _ Q I1 rr q1
def xt(K:PySem.W.Frag)(n:Nat)(t:TGs):TG:=fun v σ H Q=>∃a xs,v=.ref a/\SqT K H a xs/\xs.length=n/\t xs σ H Q
theorem cJ{es:List Expr}{k:Nat}{t:TGs}{n:Nat}(hc:X.calm=true)(h:PGs X es t)
  (hn:(assignEach es X.env).length=n:=by rfl)(hst:(assignEach es X.env).findIdx? (·.1)=none:=by rfl):PG X (.Tuple es k pos) (xt X.K n t):=by
 intro pins s σ H v u Q I r hw;obtain⟨a,xs,e1,hq,hl,hw⟩:=hw;subst e1;cases r
 obtain⟨its,rv,ht,hz⟩:=I.tuple hq;refine assign_Tuple_tuple (I.ok.hd hc) ht (by simp[hn,←hl,rv.length]) hst fun h' hx=>?_
 have I1:Inv X pins σ H {s with heap:=h'}:=I.kept (t':=s.toks) fun b o e=>hx b o (Nat.ne_of_lt (Heap.lt_size e)) e
 exact h pins _ σ H xs _ Q I1 (by simpa using rv) hw
def pU(te:TE)(g:TG):TS:=fun D σ H=>te σ H fun x H1=>g x σ H1 D.nx
theorem xu{tg e:Expr}{te:TE}{g:TG}(he:PE X e te)(hg:PG X tg g)(hs:swapsWithSole [tg] e pos.line X.env=pure false:=by rfl)(hw:swappedStores [tg] e X.env=pure none:=by rfl)
  (h1:(assignEach [tg] X.env).map (·.2)=[assign tg X.env]:=by rfl):PS X (.Assign [tg] e pos) (pU te g):=by
 intro pins s σ H D I h;refine wpAny_Assign_stores (thn (he pins s σ H _ I h) fun v s1 ⟨x,H1,I1,r1,q1⟩=>?_) hs hw;rw[h1];exact thn (hg pins s1 σ H1 x v _ I1 r1 q1) fun _ s2 q=>q
theorem ao{i:Nat}{x:Str}{e:Expr}{te:TE}{pos':Pos}(hN:X.N.Nodup)(hi:X.N[i]? =some x)(hx:Loc X.env.scope x)(he:PE X e te)(hs:swapsWith e (some (.Name x pos')) pos.line X.env=pure false:=by rfl)(hf:X.fn x=true\/X.env.scope.names.lookup x=some .local:=by first | exact .inl rfl | exact .inr rfl | assumption) :
  PS X (.Assign [.Name x pos'] e pos) (pU te (jy i)):=by
 intro pins s σ H D I h;refine wpAny_Assign_Name (thn (he pins s σ H _ I h) fun v s1 ⟨y,H1,I1,r1,q1⟩=>?_) hs;exact j0 I1 hN hi hx r1 (fun s2 I2=>⟨_,H1,I2,q1⟩) hf
end
section
variable {X:Cx}{pos:Pos}
def xv(c:TT)(tb:TS):TS:=fun D σ H=>∃W:Nat->St->Hp->Prop,(∃m,W m σ H)/\∀m σ H,W m σ H->
 c σ H fun b H1=>if b=true then ∃N:St->Hp->Prop,(∀σ' H',N σ' H'->∃m',m'<m/\W m' σ' H')/\tb {D with nx:=N,ct:=N,bk:=D.nx} σ H1 else D.nx σ H1
theorem dU{c:Expr}{body:List Stmt}{tc:TT}{tb:TS}(hp:PassesOwn (model X.prog X.w) X.A X.env X.xe)(hc:PT X c tc)(hb:PSs X body tb):PS X (.While c body [] pos) (xv tc tb):=by
 intro pins s σ H D I h;obtain⟨W,⟨m0,w0⟩,turn⟩:=h;refine wpAny_While (codeAny_whileLoop (fun n s'=>∃σ' H',Inv X pins σ' H' s'/\W n σ' H') ?_ m0 ⟨σ,H,I,w0⟩);rintro n s1 ⟨σ1,H1,I1,w1⟩;refine wpAny_passesOwn hp (thn (hc pins s1 σ1 H1 _ I1 (turn n σ1 H1 w1)) fun b s2 ⟨H2,I2,q2⟩=>?_);cases b with
 |true=>
  obtain⟨N,hN,q2⟩:=q2;rw[if_pos rfl];refine wpAny_passesOwn hp (thn (hb pins s2 σ1 H2 _ I2 q2) fun f s3 q3=>?_);cases f with
  |next=>
   obtain⟨σ3,H3,I3,n3⟩:=q3;obtain⟨m',hm,w3⟩:=hN σ3 H3 n3;exact⟨m',hm,σ3,H3,I3,w3⟩
  |cont=>
   obtain⟨σ3,H3,I3,n3⟩:=q3;obtain⟨m',hm,w3⟩:=hN σ3 H3 n3;exact⟨m',hm,σ3,H3,I3,w3⟩
  |brk=>exact q3
  |ret v=>exact q3
 |false=>
  rw[if_neg Bool.false_ne_true];exact wpAny_execs_nil ⟨σ1,H2,I2,q2⟩
end
structure It where
 go:Nat->Hp->Prop
 yld:Nat->Hp->V->Hp->Prop
 stop:Nat->Hp->Prop
def cT(X:Cx)(pins:List (Addr×Obj))(H:Hp)(b:Addr):Prop:=
 H b=none/\b≠X.env.locals/\b ∉ X.fs/\(b∈X.ex\/X.s₀.heap.objs.size<=b)/\(∀x c,X.env.cells.lookup x=some c->c≠b)/\∀p∈X.pn++pins,p.1≠b
theorem Inv.gW{X:Cx}{pins:List (Addr×Obj)}{σ:St}{H H':Hp}{s:Shared}{b:Addr}(I:Inv X pins σ H s)(hb:s.heap.objs.size<=b)(hn:H' b=none):cT X pins H' b:=by
 refine⟨hn,Nat.ne_of_gt (Nat.lt_of_lt_of_le I.lt hb),I.zv hb,.inr (Nat.le_trans I.sz hb),fun x c e z=>?_,fun p hp z=>?_⟩
 ·obtain⟨v,q⟩:=I.cell x c e;exact absurd (Nat.lt_of_lt_of_le q.lt (by rw[z];exact hb)) (Nat.lt_irrefl _)
 ·exact absurd (Nat.lt_of_lt_of_le (Heap.lt_size (I.pin p hp).1) (by rw[z];exact hb)) (Nat.lt_irrefl _)
structure Turn(P:Program)(w:World)(K:PySem.W.Frag)(tg:Expr)(J:It)(fp:List Addr)(it:Addr)(tn:Nat->Heap->Prop):Prop where
 mem:it∈fp
 obj:∀i h,tn i h->∀b∈fp,∃o,h.get? b=some o/\∀v,o.data≠.cell v
 keep:∀i h h',tn i h->(∀b∈fp,∀o,h.get? b=some o->h'.get? b=some o)->tn i h'
 item:∀(X:Cx),X.prog=P->X.w=w->X.K=K->X.calm=true->∀(i:Nat) (pins:List (Addr×Obj)) (s:Shared) (σ:St) (H:Hp) (E:Value->Shared->Prop),Inv X pins σ H s->(∀b∈fp,cT X pins H b)->tn i s.heap->J.go i H->
  wpAny (model P w) X.A (pyNext (.ref it)) (fun r s1=>∃u,r=some u/\
   wpAny (model P w) X.A (letOwnedTupleGo tg (.ref it) u) (fun _ s2=>∃x H',Inv X pins σ H' s2/\RelV x u/\J.yld i H x H'/\tn (i+1) s2.heap/\∀b∈fp,H' b=none) E s1) E s
 done:∀(X:Cx),X.prog=P->X.w=w->X.K=K->X.calm=true->∀(i:Nat) (pins:List (Addr×Obj)) (s:Shared) (σ:St) (H:Hp) (E:Value->Shared->Prop),Inv X pins σ H s->(∀b∈fp,cT X pins H b)->tn i s.heap->J.stop i H->
  wpAny (model P w) X.A (pyNext (.ref it)) (fun r s1=>r=none/\Inv X pins σ H s1) E s
 self:∀(A:Around) (i:Nat) (s:Shared) (Q:Value->Shared->Prop) (E:Value->Shared->Prop),tn i s.heap->Q (.ref it) s->wpAny (model P w) A (pyIter (.ref it)) Q E s
abbrev TI:=St->Hp->(It->Hp->Prop)->Prop
def PIE(X:Cx)(pins:List (Addr×Obj))(σ:St)(tg:Expr)(R:It->Hp->Prop)(itv:Value)(s2:Shared):Prop:=
 ∃(it:Addr) (fp:List Addr) (tn:Nat->Heap->Prop) (J:It) (H':Hp),itv=.ref it/\Inv X pins σ H' s2/\Turn X.prog X.w X.K tg J fp it tn/\tn 0 s2.heap/\(∀b∈fp,cT X pins H' b)/\R J H'
def PI(X:Cx)(tg iter:Expr)(wi:TI):Prop:=
 ∀(pins:List (Addr×Obj)) (s:Shared) (σ:St) (H:Hp) (R:It->Hp->Prop),Inv X pins σ H s->wi σ H R->
  wpAny (model X.prog X.w) X.A (eval iter X.env) (fun v s1=>wpAny (model X.prog X.w) X.A (pyIter v) (PIE X pins σ tg R) X.xe s1) X.xe s
theorem mE{M:Model}{A:Around}{E:Value->Shared->Prop}{s:Shared}{tg:Expr}{it:Addr}{u:Value}{o:Obj}{n:String}{vs:Array Value}{Q:Unit->Shared->Prop}(ho:s.heap.get? it=some o)(hc:o.cls=.type n)(hd:o.data=.fields vs)
  (hn:["enumerate","zip","dict_itemiterator","dict_reverseitemiterator","odict_iterator","itertools.zip_longest","itertools.pairwise"].contains n=false)(hQ:Q () s):wpAny M A (letOwnedTupleGo tg (.ref it) u) Q E s:=by
 unfold letOwnedTupleGo;cases tg <;> first
  |exact wpAny_pure hQ
  |(cases u <;> first
    |exact wpAny_pure hQ
    |(refine wpAny_bind (wpAny_load ho ?_);rw[hc,hd];show wpAny M A (if (["enumerate","zip","dict_itemiterator","dict_reverseitemiterator","odict_iterator","itertools.zip_longest","itertools.pairwise"].contains n && vs[0]? == some (rawInt _))=true then _ else _) Q E s;rw[if_neg (by intro h;rw[hn,Bool.false_and] at h;cases h)];exact wpAny_pure hQ))
def Itl(K:PySem.W.Frag)(a:Addr):It:=
 ⟨fun i H=>∃xs x,SqL K H a xs/\xs[i]? =some x,fun i H x H'=>H'=H/\∀xs,SqL K H a xs->xs[i]? =some x,fun i H=>∃xs,SqL K H a xs/\xs.length<=i⟩
def Itt(K:PySem.W.Frag)(a:Addr):It:=
 ⟨fun i H=>∃xs x,SqT K H a xs/\xs[i]? =some x,fun i H x H'=>H'=H/\∀xs,SqT K H a xs->xs[i]? =some x,fun i H=>∃xs,SqT K H a xs/\xs.length<=i⟩
def Itr(lo:Int)(n:Nat):It:=⟨fun i _=>i<n,fun i H x H'=>H'=H/\x=.int (lo+i),fun i _=>n<=i⟩
theorem rp{P:Program}{w:World}{K:PySem.W.Frag}{tg:Expr}(a it:Addr):Turn P w K tg (Itl K a) [it] it (fun i h=>h.IsListIter it a i) where
 mem:=by simp
 obj:=fun i h st b hb=>by
  have e:b=it:=by simpa using hb
  subst e;obtain⟨o,e,c,d⟩:=st;exact⟨o,e,fun v z=>by rw[d] at z;cases z⟩
 keep:=fun i h h' st k=>st.at fun o e=>k it (by simp) o e
 item:=by
  intro X hP hw hK hc i pins s σ H E I hf st hg;subst hP hw hK;obtain⟨xs,x,hq,hx⟩:=hg;obtain⟨its,rv,p,hz⟩:=I.list hq;obtain⟨u,hu,ru⟩:=rv.get hx;obtain⟨f0,f1,f2,f3,f4,f5⟩:=hf it (by simp);refine wpAny_pyNext_list_item st p.isList (x:=u) (by simpa using hu) fun h' st' sb=>?_
  have I1:Inv X pins σ H {s with heap:=h'}:=I.turned (t':=s.toks) (fun b o hb e=>(sb.2 b hb).trans e) f0 f1 f3 f4 f5;obtain⟨o,e,c,d⟩:=id st';exact⟨u,rfl,mE (s:={s with heap:=h'}) e c d (by decide) ⟨x,H,I1,ru,⟨rfl,fun ys hy=>by rw[I.mW hy hq];exact hx⟩,st',fun b hb=>(hf b hb).1⟩⟩
 done:=by
  intro X hP hw hK hc i pins s σ H E I hf st hg;subst hP hw hK;obtain⟨xs,hq,hx⟩:=hg;obtain⟨its,rv,p,hz⟩:=I.list hq;obtain⟨f0,f1,f2,f3,f4,f5⟩:=hf it (by simp);have hl:=rv.length;exact wpAny_pyNext_list_end (I.ok.hd hc) st p.isList (by simp;omega) fun h' eb=>⟨rfl,I.turned (t':=s.toks) (fun b o hb e=>eb b o hb e) f0 f1 f3 f4 f5⟩
 self:=fun _ _ _ _ _ st h=>wpAny_pyIter_listiter st h
theorem pV{P:Program}{w:World}{K:PySem.W.Frag}{tg:Expr}(a it:Addr):Turn P w K tg (Itt K a) [it] it (fun i h=>h.IsTupleIter it a i) where
 mem:=by simp
 obj:=fun i h st b hb=>by
  have e:b=it:=by simpa using hb
  subst e;obtain⟨o,e,c,d⟩:=st;exact⟨o,e,fun v z=>by rw[d] at z;cases z⟩
 keep:=fun i h h' st k=>st.at fun o e=>k it (by simp) o e
 item:=by
  intro X hP hw hK hc i pins s σ H E I hf st hg;subst hP hw hK;obtain⟨xs,x,hq,hx⟩:=hg;obtain⟨its,rv,p,hz⟩:=I.tuple hq;obtain⟨u,hu,ru⟩:=rv.get hx;obtain⟨f0,f1,f2,f3,f4,f5⟩:=hf it (by simp);refine wpAny_pyNext_tuple_item st (show s.heap.IsTuple a its.toArray from p) (x:=u) (by simpa using hu) fun h' st' sb=>?_
  have I1:Inv X pins σ H {s with heap:=h'}:=I.turned (t':=s.toks) (fun b o hb e=>(sb.2 b hb).trans e) f0 f1 f3 f4 f5;obtain⟨o,e,c,d⟩:=id st';exact⟨u,rfl,mE (s:={s with heap:=h'}) e c d (by decide) ⟨x,H,I1,ru,⟨rfl,fun ys hy=>by rw[I.ro hy hq];exact hx⟩,st',fun b hb=>(hf b hb).1⟩⟩
 done:=by
  intro X hP hw hK hc i pins s σ H E I hf st hg;subst hP hw hK;obtain⟨xs,hq,hx⟩:=hg;obtain⟨its,rv,p,hz⟩:=I.tuple hq;obtain⟨f0,f1,f2,f3,f4,f5⟩:=hf it (by simp);have hl:=rv.length;exact wpAny_pyNext_tuple_end (I.ok.hd hc) st (show s.heap.IsTuple a its.toArray from p) (by simp;omega) fun h' eb=>⟨rfl,I.turned (t':=s.toks) (fun b o hb e=>eb b o hb e) f0 f1 f3 f4 f5⟩
 self:=fun _ _ _ _ _ st h=>wpAny_pyIter_tupleiter st h
theorem pW{P:Program}{w:World}{K:PySem.W.Frag}{tg:Expr}(it:Addr)(lo:Int)(n:Nat):Turn P w K tg (Itr lo n) [it] it (fun i h=>IsRangeIter h it (lo+(i:Nat)*1) ((n:Int) - (i:Nat)) 1) where
 mem:=by simp
 obj:=fun i h st b hb=>by
  have e:b=it:=by simpa using hb
  subst e;exact⟨_,st,fun v z=>by
   have z':Data.fields _=Data.cell v:=z;cases z'⟩
 keep:=fun i h h' st k=>k it (by simp) _ st
 item:=by
  intro X hP hw hK hc i pins s σ H E I hf st hg;subst hP hw hK;obtain⟨f0,f1,f2,f3,f4,f5⟩:=hf it (by simp);have W:=Walks.range (prog:=X.prog) (w:=X.w) (I.ok.hd hc) it lo 1 n;refine W.item i s _ _ hg st fun v h' tk hv st' kk=>?_
  obtain⟨t,rfl⟩:=hv;have I1:Inv X pins σ H {s with heap:=h',toks:=tk}:=I.turned (fun b o hb e=>kk b o (by simpa using hb) e) f0 f1 f3 f4 f5;refine⟨_,rfl,mE (s:={s with heap:=h',toks:=tk}) (n:="range_iterator") st' rfl rfl (by decide) ⟨.int (lo+i),H,I1,⟨t,?_⟩,⟨rfl,rfl⟩,st',fun b hb=>(hf b hb).1⟩⟩;rw[Int.mul_one]
 done:=by
  intro X hP hw hK hc i pins s σ H E I hf st hg;subst hP hw hK;obtain⟨f0,f1,f2,f3,f4,f5⟩:=hf it (by simp);exact wpAny_pyNext_range_end (I.ok.hd hc) st (by have:n<=i:=hg;omega) fun h' eb=>⟨rfl,I.turned (t':=s.toks) (fun b o hb e=>eb b o hb e) f0 f1 f3 f4 f5⟩
 self:=fun _ _ _ _ _ st h=>wpAny_pyIter_rangeiter st h
end L2
namespace L2
open PySem PySem.Spec PyProof.Rows
section
variable {X:Cx}{tg:Expr}
def yQ(K:PySem.W.Frag)(tl:TE):TI:=fun σ H R=>tl σ H fun x H1=>∃a,x=.ref a/\(∃xs,SqL K H1 a xs)/\R (Itl K a) H1
def zB(K:PySem.W.Frag)(tl:TE):TI:=fun σ H R=>tl σ H fun x H1=>∃a,x=.ref a/\(∃xs,SqT K H1 a xs)/\R (Itt K a) H1
theorem aB{l:Expr}{tl:TE}(hl:PE X l tl):PI X tg l (yQ X.K tl):=by
 intro pins s σ H R I h;refine thn (hl pins s σ H _ I h) fun v s1 ⟨x,H1,I1,r1,q1⟩=>?_
 obtain⟨a,e,⟨xs,hq⟩,q⟩:=q1;subst e;cases r1
 obtain⟨its,rv,p,hz⟩:=I1.list hq;refine wpAny_pyIter_list p.isList ?_;refine⟨s1.heap.objs.size,[s1.heap.objs.size],_,_,H1,rfl,I1.kept (t':=s1.toks) fun b o e=>aaf _ e,rp a _,⟨_,aay _ rfl,rfl,rfl⟩,fun b hb=>?_,q⟩;have e:b=s1.heap.objs.size:=by simpa using hb
 subst e;exact I1.gW (Nat.le_refl _) (I1.hok.fresh (Nat.le_refl _))
theorem xw{l:Expr}{tl:TE}(hl:PE X l tl):PI X tg l (zB X.K tl):=by
 intro pins s σ H R I h;refine thn (hl pins s σ H _ I h) fun v s1 ⟨x,H1,I1,r1,q1⟩=>?_
 obtain⟨a,e,⟨xs,hq⟩,q⟩:=q1;subst e;cases r1
 obtain⟨its,rv,p,hz⟩:=I1.tuple hq;refine wpAny_pyIter_tuple (show s1.heap.IsTuple a its.toArray from p) ?_;refine⟨s1.heap.objs.size,[s1.heap.objs.size],_,_,H1,rfl,I1.kept (t':=s1.toks) fun b o e=>aaf _ e,pV a _,⟨_,aay _ rfl,rfl,rfl⟩,fun b hb=>?_,q⟩;have e:b=s1.heap.objs.size:=by simpa using hb
 subst e;exact I1.gW (Nat.le_refl _) (I1.hok.fresh (Nat.le_refl _))
theorem tE{pins:List (Addr×Obj)}{σ:St}{H:Hp}{s:Shared}{R:It->Hp->Prop}{E:Value->Shared->Prop}{lo hi:Int}{t u v:Tok}{tk:Nat}(I:Inv X pins σ H s)(h1:-(2 ^ 62)<=lo)(h2:lo<2 ^ 62)(h3:-(2 ^ 62)<=hi)(h4:hi<2 ^ 62)
  (q:R (Itr lo (hi - lo).toNat) H):wpAny (model X.prog X.w) X.A (pyIter (.ref s.heap.objs.size)) (PIE X pins σ tg R) E {s with heap:=s.heap.push {cls:=.type "range",data:=.fields #[.int lo t,.int hi u,.int 1 v]},toks:=tk}:=by
 refine wpAny_pyIter_range (IsRange.new ..) (small_one h1 h2 h3 h4) ?_;have I1:Inv X pins σ H {s with heap:=s.heap.push {cls:=.type "range",data:=.fields #[.int lo t,.int hi u,.int 1 v]},toks:=tk}:=I.kept fun b o e=>aaf _ e
 refine⟨(s.heap.push {cls:=.type "range",data:=.fields #[.int lo t,.int hi u,.int 1 v]}).objs.size,[(s.heap.push {cls:=.type "range",data:=.fields #[.int lo t,.int hi u,.int 1 v]}).objs.size],_,_,H,rfl,
  I1.kept (t':=tk) fun b o e=>aaf _ e,pW _ lo (hi - lo).toNat,?_,fun b hb=>?_,q⟩
 ·have e1:lo+((0:Nat):Int)*1=lo:=by simp
  have e2:(((hi - lo).toNat:Nat):Int) - ((0:Nat):Int)=Builtin.Range.rangeSize lo hi 1:=by rw[rangeSize_one];split <;> omega
  show IsRangeIter _ _ (lo+((0:Nat):Int)*1) ((((hi - lo).toNat:Nat):Int) - ((0:Nat):Int)) 1;rw[e1,e2];exact aay _ rfl
 ·have e:b=(s.heap.push {cls:=.type "range",data:=.fields #[.int lo t,.int hi u,.int 1 v]}).objs.size:=by simpa using hb
  subst e;exact I1.gW (Nat.le_refl _) (I1.hok.fresh (Nat.le_refl _))
def yR(ta:TA):TI:=fun σ H R=>ta σ H fun vs H1=>∃j:Int,vs=[.int j]/\-(2 ^ 62)<=j/\j<2 ^ 62/\R (Itr 0 j.toNat) H1
theorem eV{a:Expr}{ta:TA}{p pos:Pos}(hg:Gl X "range")(hm:X.mg "range"=none)(ha:PA X [a] ta)(hs:starEach [a] X.env=[(false,eval a X.env)]:=by rfl):PI X tg (.Call (.Name "range" p) [a] [] pos) (yR ta):=by
 intro pins s σ H R I h;refine Call_ (g6 I hg hm boot_range (PyProof.Rows.callWith_type1 (thn (ha pos pins s σ H _ I h) fun us s1 ⟨vs,H1,I1,r1,q1⟩=>?_) hs rfl));obtain⟨j,e,q1,q2,q⟩:=q1;subst e;cases r1 with
 |cons r rr=>
  cases rr
  obtain⟨t,rfl⟩:=r;exact call_range_1 (tE I1 (by omega) (by omega) q1 q2 (by simpa using q))
def xy(wi:TI)(g:TG)(tb:TS):TS:=fun D σ H=>wi σ H fun J H1=>∃W:Nat->Nat->St->Hp->Prop,(∃m,W 0 m σ H1)/\∀i m σ H,W i m σ H->
 (J.stop i H/\D.nx σ H)\/(J.go i H/\∃N:St->Hp->Prop,(∀σ' H',N σ' H'->∃m',m'<m/\W (i+1) m' σ' H')/\∀x H',J.yld i H x H'->g x σ H' fun σ2 H2=>tb {D with nx:=N,ct:=N,bk:=D.nx} σ2 H2)
def iZ(fp:List Addr)(h:Heap):List (Addr×Obj):=fp.filterMap fun b=>(h.get? b).map fun o=>(b,o)
theorem ga{fp:List Addr}{h:Heap}{b:Addr}{o:Obj}(hb:b∈fp)(e:h.get? b=some o):(b,o)∈iZ fp h:=List.mem_filterMap.mpr ⟨b,hb,by rw[e];rfl⟩
theorem rq{fp:List Addr}{h:Heap}{p:Addr×Obj}(hp:p∈iZ fp h):p.1∈fp/\h.get? p.1=some p.2:=by
 obtain⟨b,hb,e⟩:=List.mem_filterMap.mp hp;cases q:h.get? b with
 |none=>rw[q] at e;cases e
 |some o=>
  rw[q] at e;have e':(b,o)=p:=Option.some.inj e;subst e';exact⟨hb,q⟩
theorem Inv.pinned{pins:List (Addr×Obj)}{σ:St}{H:Hp}{s:Shared}{fp:List Addr}(I:Inv X pins σ H s)(hf:∀b∈fp,cT X pins H b)(ho:∀b∈fp,∃o,s.heap.get? b=some o/\∀v,o.data≠.cell v):Inv X (pins++iZ fp s.heap) σ H s:=
 I.gl fun p hp=>(aak.mp hp).elim (fun z=>I.pin p (aar _ z)) fun z=>by
  obtain⟨hb,e⟩:=rq z;obtain⟨f0,f1,f2,_⟩:=hf p.1 hb;obtain⟨o,e',d⟩:=ho p.1 hb;rw[e] at e';cases e';exact⟨e,f0,f1,f2,d⟩
theorem Inv.fu{pins pl:List (Addr×Obj)}{σ:St}{H:Hp}{s:Shared}(I:Inv X (pins++pl) σ H s):Inv X pins σ H s:=I.gl fun p hp=>I.pin p (aar _ (List.mem_append_left _ hp))
theorem aO{iter:Expr}{body:List Stmt}{wi:TI}{g:TG}{tb:TS}{pos:Pos}(hp:PassesOwn (model X.prog X.w) X.A X.env X.xe)(hc:X.calm=true)(hi:PI X tg iter wi)(hg:PG X tg g)(hb:PSs X body tb)
  (hs:∀x,foldedSetIterable iter X.env x=pure x:=by intro _;rfl):PS X (.For tg iter body [] pos) (xy wi g tb):=by
 intro pins s σ H D I h;refine wpAny_For (thn (hi pins s σ H _ I h) fun v s1 h1=>thn h1 fun itv s2 h2=>?_) hs;obtain⟨it,fp,tn,J,H2,e,I2,T,st2,f2,W,⟨m0,w0⟩,turn⟩:=h2;subst e;have stat:∀{H':Hp},(∀b∈fp,H' b=none)->∀b∈fp,cT X pins H' b:=fun hn b hb=>⟨hn b hb,(f2 b hb).2⟩
 refine codeAny_forLoop_any (fun n s'=>∃i σ' H',Inv X pins σ' H' s'/\tn i s'.heap/\(∀b∈fp,H' b=none)/\W i n σ' H') ?_ m0 ⟨0,σ,H2,I2,st2,fun b hb=>(f2 b hb).1,w0⟩;rintro n s3 ⟨i,σ3,H3,I3,st3,fr3,w3⟩;rcases turn i n σ3 H3 w3 with ⟨stop,qn⟩|⟨go,N,hN,step⟩
 ·refine wpAny_passesOwn hp (thn (T.done X rfl rfl rfl hc i pins s3 σ3 H3 X.xe I3 (stat fr3) st3 stop) fun r s4 ⟨hr,I4⟩=>?_);subst hr;exact wpAny_execs_nil ⟨σ3,H3,I4,qn⟩
 ·refine wpAny_passesOwn hp (thn (T.item X rfl rfl rfl hc i pins s3 σ3 H3 X.xe I3 (stat fr3) st3 go) fun r s4 ⟨u,hr,h4⟩=>?_);subst hr;refine wpAny_passesOwn hp (thn h4 fun _ s5 ⟨x,H5,I5,r5,y5,st5,fr5⟩=>?_);have I5':=I5.pinned (stat fr5) (T.obj _ _ st5);refine wpAny_passesOwn hp (thn (hg _ s5 σ3 H5 x u _ I5' r5 (step x H5 y5)) fun _ s6 ⟨σ6,H6,I6,q6⟩=>?_);refine wpAny_passesOwn hp (thn (hb _ s6 σ6 H6 _ I6 q6) fun f s7 q7=>?_);have again:∀{σ7:St} {H7:Hp},Inv X (pins++iZ fp s5.heap) σ7 H7 s7->N σ7 H7->∃m,m<n/\∃i σ' H',Inv X pins σ' H' s7/\tn i s7.heap/\(∀b∈fp,H' b=none)/\W i m σ' H':=fun{σ7 H7} I7 n7=>by
   obtain⟨m',hm,w7⟩:=hN σ7 H7 n7;refine⟨m',hm,i+1,σ7,H7,I7.fu,T.keep _ _ _ st5 fun b hb o e=>(I7.pin (b,o) (aar _ (aar _ (ga hb e)))).1,fun b hb=>?_,w7⟩;obtain⟨o,e,d⟩:=T.obj _ _ st5 b hb;exact(I7.pin (b,o) (aar _ (aar _ (ga hb e)))).2.1
  cases f with
  |next=>obtain⟨σ7,H7,I7,n7⟩:=q7;exact again I7 n7
  |cont=>obtain⟨σ7,H7,I7,n7⟩:=q7;exact again I7 n7
  |brk=>obtain⟨σ7,H7,I7,q7⟩:=q7;exact⟨σ7,H7,I7.fu,q7⟩
  |ret v=>obtain⟨x7,σ7,H7,I7,r7,q7⟩:=q7;exact⟨x7,σ7,H7,I7.fu,r7,q7⟩
end
theorem aM{K:PySem.W.Frag}{a:Addr}{xs:List V}{g:TG}{tb:TS}{D:Ends}{σ:St}{H:Hp}(Pv:Nat->St->Hp->Prop)(h0:Pv 0 σ H)(hl:∀i σ H,i<=xs.length->Pv i σ H->SqL K H a xs)
  (hs:∀i x σ H,xs[i]? =some x->Pv i σ H->g x σ H fun σ2 H2=>tb {D with nx:=Pv (i+1),ct:=Pv (i+1),bk:=D.nx} σ2 H2)(hd:∀σ H,Pv xs.length σ H->D.nx σ H) :
  ∃W:Nat->Nat->St->Hp->Prop,(∃m,W 0 m σ H)/\∀i m σ H,W i m σ H->
   ((Itl K a).stop i H/\D.nx σ H)\/((Itl K a).go i H/\∃N:St->Hp->Prop,(∀σ' H',N σ' H'->∃m',m'<m/\W (i+1) m' σ' H')/\∀x H',(Itl K a).yld i H x H'->g x σ H' fun σ2 H2=>tb {D with nx:=N,ct:=N,bk:=D.nx} σ2 H2):=by
 refine⟨fun i m σ H=>m=xs.length - i/\i<=xs.length/\Pv i σ H,⟨xs.length,by simp,Nat.zero_le _,h0⟩,?_⟩;rintro i m σ H ⟨rfl,hi,p⟩;have q:=hl i σ H hi p
 by_cases hlt:i<xs.length
 ·refine .inr ⟨⟨xs,xs[i],q,by simp[hlt]⟩,Pv (i+1),fun σ' H' p'=>⟨xs.length - (i+1),by omega,rfl,hlt,p'⟩,fun x H' y=>?_⟩;obtain⟨e,y⟩:=y;subst e;exact hs i x σ _ (y xs q) p
 ·have e:i=xs.length:=by omega
  subst e;exact .inl ⟨⟨xs,q,Nat.le_refl _⟩,hd σ H p⟩
theorem eW{lo:Int}{n:Nat}{g:TG}{tb:TS}{D:Ends}{σ:St}{H:Hp}(Pv:Nat->St->Hp->Prop)(h0:Pv 0 σ H)
  (hs:∀i σ H,i<n->Pv i σ H->g (.int (lo+i)) σ H fun σ2 H2=>tb {D with nx:=Pv (i+1),ct:=Pv (i+1),bk:=D.nx} σ2 H2)(hd:∀σ H,Pv n σ H->D.nx σ H) :
  ∃W:Nat->Nat->St->Hp->Prop,(∃m,W 0 m σ H)/\∀i m σ H,W i m σ H->
   ((Itr lo n).stop i H/\D.nx σ H)\/((Itr lo n).go i H/\∃N:St->Hp->Prop,(∀σ' H',N σ' H'->∃m',m'<m/\W (i+1) m' σ' H')/\∀x H',(Itr lo n).yld i H x H'->g x σ H' fun σ2 H2=>tb {D with nx:=N,ct:=N,bk:=D.nx} σ2 H2):=by
 refine⟨fun i m σ H=>m=n - i/\i<=n/\Pv i σ H,⟨n,by simp,Nat.zero_le _,h0⟩,?_⟩;rintro i m σ H ⟨rfl,hi,p⟩
 by_cases hlt:i<n
 ·refine .inr ⟨hlt,Pv (i+1),fun σ' H' p'=>⟨n - (i+1),by omega,rfl,hlt,p'⟩,fun x H' y=>?_⟩;obtain⟨e,y⟩:=y;subst e y;exact hs i σ _ hlt p
 ·have e:i=n:=by omega
  subst e;exact .inl ⟨Nat.le_refl _,hd σ H p⟩
end L2
namespace L2
open PySem PySem.Spec PyProof.Rows
abbrev R2:=V->V->Hp->VK->Prop
def OpR(X:Cx)(f:Value->Value->Sem Value)(r:R2):Prop:=
 ∀(pins:List (Addr×Obj)) (s:Shared) (σ:St) (H:Hp) (x y:V) (v u:Value) (Q:VK),Inv X pins σ H s->RelV x v->RelV y u->r x y H Q->
  wpAny (model X.prog X.w) X.A (f v u) (EP X pins σ Q) X.xe s
def dt(X:Cx)(f:Value)(r:List V->Hp->VK->Prop):Prop:=
 ∀(pins:List (Addr×Obj)) (s:Shared) (σ:St) (H:Hp) (xs:List V) (us:List Value) (Q:VK),Inv X pins σ H s->Vals xs us->r xs H Q->
  wpAny (model X.prog X.w) X.A (call f us) (EP X pins σ Q) X.xe s
def zC(X:Cx)(r:V->Hp->(Bool->Hp->Prop)->Prop):Prop:=
 ∀(pins:List (Addr×Obj)) (s:Shared) (σ:St) (H:Hp) (x:V) (v:Value) (Q:Bool->Hp->Prop),Inv X pins σ H s->RelV x v->r x H Q->
  wpAny (model X.prog X.w) X.A (truthy v) (TP X pins σ Q) X.xe s
def tOp(r:R2)(ta tb:TE):TE:=fun σ H Q=>ta σ H fun x H1=>tb σ H1 fun y H2=>r x y H2 Q
def rI(C:Int->Int->Prop)(g:Int->Int->V):R2:=fun x y H Q=>∃i j,x=.int i/\y=.int j/\C i j/\Q (g i j) H
def rI0(g:Int->Int->V):R2:=fun x y H Q=>∃i j,x=.int i/\y=.int j/\Q (g i j) H
section
variable {X:Cx}{a b c:Expr}{ta tb tc:TE}{pos:Pos}
theorem tF(ha:PE X a ta)(hb:PE X b tb){pins:List (Addr×Obj)}{s:Shared}{σ:St}{H:Hp}{R:V->V->Hp->Prop}(I:Inv X pins σ H s)
  (h:ta σ H fun x H1=>tb σ H1 fun y H2=>R x y H2){Q:Value->Shared->Prop}{f:Value->Value->Sem Value}
  (hf:∀v u s2 x y H2,Inv X pins σ H2 s2->RelV x v->RelV y u->R x y H2->wpAny (model X.prog X.w) X.A (f v u) Q X.xe s2) :
  wpAny (model X.prog X.w) X.A (eval a X.env) (fun v s₁=>wpAny (model X.prog X.w) X.A (eval b X.env) (fun u s₂=>wpAny (model X.prog X.w) X.A (f v u) Q X.xe s₂) X.xe s₁) X.xe s:=by
 refine thn (ha pins s σ H _ I h) fun v s1 ⟨x,H1,I1,r1,q1⟩=>?_
 refine thn (hb pins s1 σ H1 _ I1 q1) fun u s2 ⟨y,H2,I2,r2,q2⟩=>?_
 exact hf v u s2 x y H2 I2 r1 r2 q2
theorem bv{op:Operator}{r:R2}(ho:OpR X (binaryOp op) r)(ha:PE X a ta)(hb:PE X b tb):PE X (.BinOp a op b pos) (tOp r ta tb):=by
 intro pins s σ H Q I h;exact wpAny_BinOp (tF ha hb I h fun v u s2 x y H2 I2 rx ry q=>ho pins s2 σ H2 x y v u Q I2 rx ry q)
theorem opI{f:Value->Value->Sem Value}{C:Int->Int->Prop}{g:Int->Int->Int}
  (rule:∀(i j:Int) (t u:Tok) (s:Shared) (Q:Value->Shared->Prop) (E:Value->Shared->Prop),C i j->Q (.int (g i j) s.toks) {s with toks:=s.toks+1}->wpAny (model X.prog X.w) X.A (f (.int i t) (.int j u)) Q E s) :
  OpR X f (rI C fun i j=>.int (g i j)):=by
 intro pins s σ H x y v u Q I rx ry h;obtain⟨i,j,rfl,rfl,hc,q⟩:=h;obtain⟨t,rfl⟩:=rx;obtain⟨t',rfl⟩:=ry;exact rule i j t t' s _ _ hc ⟨.int (g i j),H,I.tok _,⟨_,rfl⟩,q⟩
theorem xz{f:Value->Value->Sem Value}{g:Int->Int->Int}
  (rule:∀(i j:Int) (t u:Tok) (s:Shared) (Q:Value->Shared->Prop) (E:Value->Shared->Prop),Q (.int (g i j) s.toks) {s with toks:=s.toks+1}->wpAny (model X.prog X.w) X.A (f (.int i t) (.int j u)) Q E s) :
  OpR X f (rI0 fun i j=>.int (g i j)):=by
 intro pins s σ H x y v u Q I rx ry h;obtain⟨i,j,rfl,rfl,q⟩:=h;obtain⟨t,rfl⟩:=rx;obtain⟨t',rfl⟩:=ry;exact rule i j t t' s _ _ ⟨.int (g i j),H,I.tok _,⟨_,rfl⟩,q⟩
theorem tG{f:Value->Value->Sem Value}{g:Int->Int->Bool}
  (rule:∀(i j:Int) (t u:Tok) (s:Shared) (Q:Value->Shared->Prop) (E:Value->Shared->Prop),Q (.bool (g i j)) s->wpAny (model X.prog X.w) X.A (f (.int i t) (.int j u)) Q E s) :
  OpR X f (rI0 fun i j=>.bl (g i j)):=by
 intro pins s σ H x y v u Q I rx ry h;obtain⟨i,j,rfl,rfl,q⟩:=h;obtain⟨t,rfl⟩:=rx;obtain⟨t',rfl⟩:=ry;exact rule i j t t' s _ _ ⟨.bl (g i j),H,I,rfl,q⟩
def zD(i j:Int):Prop:=0<j/\j<1073741824
def zE(i j:Int):Prop:=0<=j/\j<=1000000/\i.natAbs<2 ^ 64
theorem eE:OpR X (binaryOp .Add) (rI0 fun i j=>.int (i+j)):=xz fun _ _ _ _ _ _ _ q=>add_int q
theorem xA:OpR X (binaryOp .Sub) (rI0 fun i j=>.int (i - j)):=xz fun _ _ _ _ _ _ _ q=>sub_int q
theorem jz:OpR X (binaryOp .FloorDiv) (rI zD fun i j=>.int (i / j)):=opI fun i j _ _ _ _ _ hc q=>by
 have h1:(0:Int)<j:=hc.1;have h2:j<1073741824:=hc.2;exact floordiv_int (by omega) (by rw[Int.fdiv_eq_ediv_of_nonneg i (by omega)];exact q) (.inl (PyProof.noPylong_small (by omega)))
theorem eF:OpR X (binaryOp .Mod) (rI (fun _ j=>0<j) fun i j=>.int (i % j)):=opI fun i j _ _ _ _ _ hc q=>by
 have h1:(0:Int)<j:=hc;exact mod_int' (by omega) (by rw[Int.fmod_eq_emod_of_nonneg i (by omega)];exact q)
theorem xB:OpR X (binaryOp .Pow) (rI zE fun i j=>.int (i ^ j.toNat)):=opI fun _ _ _ _ _ _ _ hc q=>pow_int_small hc.1 hc.2.1 hc.2.2 q
end
def xC:V->V->Bool
 |.non,.non=>true | .non,.int _=>true | .int _,.non=>true | .non,.bl _=>true | .bl _,.non=>true | .non,.str _=>true | .str _,.non=>true
 |.int _,.int _=>true | .bl _,.bl _=>true | .str _,.str _=>true | .byt _,.byt _=>true
 |.int _,.str _=>true | .str _,.int _=>true | .bl _,.str _=>true | .str _,.bl _=>true
 |_,_=>false
def rEq:R2:=fun x y H Q=>xC x y=true/\Q (.bl (decide (x=y))) H
def rNe:R2:=fun x y H Q=>xC x y=true/\Q (.bl (!decide (x=y))) H
theorem pj{i j:Int}:decide (V.int i=V.int j)=(i == j):=by
 rw[Bool.eq_iff_iff];simp
theorem rA{i j:Bool}:decide (V.bl i=V.bl j)=(i == j):=by
 rw[Bool.eq_iff_iff];simp
theorem pk{i j:Str}:decide (V.str i=V.str j)=(i == j):=by
 rw[Bool.eq_iff_iff];simp
theorem pw{i j:Array UInt8}:decide (V.byt i=V.byt j)=(i.toList == j.toList):=by
 rw[Bool.eq_iff_iff];cases i
 cases j
 simp
section
variable {X:Cx}{a b c:Expr}{ta tb tc:TE}{pos:Pos}
theorem bn{pins:List (Addr×Obj)}{σ:St}{H:Hp}{s:Shared}{Q:VK}{k k':Bool}(I:Inv X pins σ H s)(q:Q (.bl k) H)(e:k=k'):EP X pins σ Q (.bool k') s:=by
 subst e;exact⟨.bl k,H,I,rfl,q⟩
theorem km:OpR X (compareOp .Eq) rEq:=by
 intro pins s σ H x y v u Q I rx ry h;obtain⟨hs,q⟩:=h;cases x with
 |non=>
  cases rx
  cases y with
  |non=>cases ry;exact PySem.EqNone.eq_none_none (bn I q (by simp))
  |bl j=>cases ry;exact PySem.EqNone.eq_none_bool (bn I q (by simp))
  |int j=>obtain⟨t',rfl⟩:=ry;exact PySem.EqNone.eq_none_int (bn I q (by simp))
  |str j=>obtain⟨t',rfl⟩:=ry;exact PySem.EqNone.eq_none_str (bn I q (by simp))
  |_=>exact absurd (show false=true from hs) Bool.false_ne_true
 |bl i=>
  cases rx
  cases y with
  |non=>cases ry;exact PySem.EqNone.eq_bool_none (bn I q (by simp))
  |bl j=>cases ry;exact eq_bool (bn I q rA)
  |str j=>obtain⟨t',rfl⟩:=ry;exact PySem.EqMixed.eq_bool_str (bn I q (by simp))
  |_=>exact absurd (show false=true from hs) Bool.false_ne_true
 |int i=>
  obtain⟨t,rfl⟩:=rx;cases y with
  |non=>cases ry;exact PySem.EqNone.eq_int_none (bn I q (by simp))
  |int j=>obtain⟨t',rfl⟩:=ry;exact eq_int (bn I q pj)
  |str j=>obtain⟨t',rfl⟩:=ry;exact PySem.EqMixed.eq_int_str (bn I q (by simp))
  |_=>exact absurd (show false=true from hs) Bool.false_ne_true
 |str i=>
  obtain⟨t,rfl⟩:=rx;cases y with
  |non=>cases ry;exact PySem.EqNone.eq_str_none (bn I q (by simp))
  |bl j=>cases ry;exact PySem.EqMixed.eq_str_bool (bn I q (by simp))
  |int j=>obtain⟨t',rfl⟩:=ry;exact PySem.EqMixed.eq_str_int (bn I q (by simp))
  |str j=>obtain⟨t',rfl⟩:=ry;exact eq_str (bn I q pk)
  |_=>exact absurd (show false=true from hs) Bool.false_ne_true
 |byt i=>
  obtain⟨t,rfl⟩:=rx;cases y with
  |byt j=>obtain⟨t',rfl⟩:=ry;exact PySem.W.eq_bytes (bn I q pw)
  |_=>exact absurd (show false=true from hs) Bool.false_ne_true
 |_=>cases y <;> exact absurd (show false=true from hs) Bool.false_ne_true
theorem jA:OpR X (compareOp .NotEq) rNe:=by
 intro pins s σ H x y v u Q I rx ry h;obtain⟨hs,q⟩:=h;cases x with
 |non=>
  cases rx
  cases y with
  |non=>cases ry;exact PySem.EqNone.ne_none_none (bn I q (by simp))
  |bl j=>cases ry;exact PySem.EqNone.ne_none_bool (bn I q (by simp))
  |int j=>obtain⟨t',rfl⟩:=ry;exact PySem.EqNone.ne_none_int (bn I q (by simp))
  |str j=>obtain⟨t',rfl⟩:=ry;exact PySem.EqNone.ne_none_str (bn I q (by simp))
  |_=>exact absurd (show false=true from hs) Bool.false_ne_true
 |bl i=>
  cases rx
  cases y with
  |non=>cases ry;exact PySem.EqNone.ne_bool_none (bn I q (by simp))
  |bl j=>cases ry;exact ne_bool (bn I q (congrArg not rA))
  |str j=>obtain⟨t',rfl⟩:=ry;exact PySem.EqMixed.ne_bool_str (bn I q (by simp))
  |_=>exact absurd (show false=true from hs) Bool.false_ne_true
 |int i=>
  obtain⟨t,rfl⟩:=rx;cases y with
  |non=>cases ry;exact PySem.EqNone.ne_int_none (bn I q (by simp))
  |int j=>obtain⟨t',rfl⟩:=ry;exact ne_int (bn I q (congrArg not pj))
  |str j=>obtain⟨t',rfl⟩:=ry;exact PySem.EqMixed.ne_int_str (bn I q (by simp))
  |_=>exact absurd (show false=true from hs) Bool.false_ne_true
 |str i=>
  obtain⟨t,rfl⟩:=rx;cases y with
  |non=>cases ry;exact PySem.EqNone.ne_str_none (bn I q (by simp))
  |bl j=>cases ry;exact PySem.EqMixed.ne_str_bool (bn I q (by simp))
  |int j=>obtain⟨t',rfl⟩:=ry;exact PySem.EqMixed.ne_str_int (bn I q (by simp))
  |str j=>obtain⟨t',rfl⟩:=ry;exact ne_str (bn I q (congrArg not pk))
  |_=>exact absurd (show false=true from hs) Bool.false_ne_true
 |byt i=>
  obtain⟨t,rfl⟩:=rx;cases y with
  |byt j=>obtain⟨t',rfl⟩:=ry;exact PySem.W.ne_bytes (bn I q (congrArg not pw))
  |_=>exact absurd (show false=true from hs) Bool.false_ne_true
 |_=>cases y <;> exact absurd (show false=true from hs) Bool.false_ne_true
theorem pX:OpR X (compareOp .Lt) (rI0 fun i j=>.bl (decide (i<j))):=tG fun _ _ _ _ _ _ _ q=>lt_int q
theorem pY:OpR X (compareOp .Gt) (rI0 fun i j=>.bl (decide (j<i))):=tG fun _ _ _ _ _ _ _ q=>gt_int q
theorem yS:OpR X (compareOp .GtE) (rI0 fun i j=>.bl (decide (j<=i))):=tG fun _ _ _ _ _ _ _ q=>ge_int q
theorem rB:OpR X (compareOp .Is) (fun x y H Q=>y=.non/\Q (.bl (decide (x=.non))) H):=by
 intro pins s σ H x y v u Q I rx ry h;obtain⟨rfl,q⟩:=h;cases ry
 refine is_none_gen (bn I q ?_);cases x <;> first
  |(cases rx;rfl)
  |(obtain⟨t,rfl⟩:=rx;rfl)
theorem lj:OpR X (compareOp .IsNot) (fun x y H Q=>y=.non/\Q (.bl (!decide (x=.non))) H):=by
 intro pins s σ H x y v u Q I rx ry h;obtain⟨rfl,q⟩:=h;cases ry
 refine isnot_none_gen (bn I q ?_);cases x <;> first
  |(cases rx;rfl)
  |(obtain⟨t,rfl⟩:=rx;rfl)
theorem bB(b:Expr){op:CmpOp}(h:op≠.In:=by decide)(h2:op≠.NotIn:=by decide):behindInMarks op b=false:=by
 have e1:(op == CmpOp.In)=false:=by cases op <;> first | rfl | exact absurd rfl h
 have e2:(op == CmpOp.NotIn)=false:=by cases op <;> first | rfl | exact absurd rfl h2
 cases b <;> simp[behindInMarks,e1,e2]
theorem ll{op:CmpOp}{r:R2}(ho:OpR X (compareOp op) r)(ha:PE X a ta)(hb:PE X b tb)(hm:behindInMarks op b=false):PE X (.Compare a [op] [b] pos) (tOp r ta tb):=by
 intro pins s σ H Q I h;exact wpAny_Compare1 (tF ha hb I h fun v u s2 x y H2 I2 rx ry q=>ho pins s2 σ H2 x y v u Q I2 rx ry q) hm
def vG(t:TE):TT:=fun σ H Q=>t σ H fun x H'=>∃k,x=.bl k/\Q k H'
theorem aK{op:CmpOp}{r:R2}(ho:OpR X (compareOp op) r)(ha:PE X a ta)(hb:PE X b tb)(hm:behindInMarks op b=false):PT X (.Compare a [op] [b] pos) (vG (tOp r ta tb)):=by
 intro pins s σ H Q I h;refine wpAny_isTrue_Compare1 (thn (ha pins s σ H _ I h) fun v s1 ⟨x,H1,I1,r1,q1⟩=>thn (hb pins s1 σ H1 _ I1 q1) fun u s2 ⟨y,H2,I2,r2,q2⟩=>
  thn (ho pins s2 σ H2 x y v u _ I2 r1 r2 q2) fun c s3 ⟨z,H3,I3,r3,k,e,q3⟩=>?_) hm
 subst e;cases r3
 exact wpAny_truthy_bool ⟨H3,I3,q3⟩
def xD(K:PySem.W.Frag)(x:V)(H:Hp)(k:Bool):Prop:=
 match x with
 |.non=>k=false
 |.bl b=>k=b
 |.int i=>k=(i != 0)
 |.str y=>y.length<=sizeLine/\k=((y.length:Int) != 0)
 |.byt y=>y.size<=sizeLine/\k=((y.size:Int) != 0)
 |.ref p=>(∃xs,SqL K H p xs/\k=!xs.isEmpty)\/(∃xs,SqT K H p xs/\k=!xs.isEmpty)\/∃kvs,H p=some (.dK kvs)/\k=!kvs.isEmpty
 |_=>False
theorem pZ{κ:Type}{kvs:List (κ×V)}{vs:List (κ×Value)}(r:KV kvs vs):(!vs.isEmpty)=!kvs.isEmpty:=by
 cases r <;> rfl
theorem kn{xs:List V}{its:List Value}(r:Vals xs its):(!its.toArray.isEmpty)=!xs.isEmpty:=by
 cases r <;> simp
theorem i0:(sizeLine:Nat)<2 ^ 63:=by rw[sizeLine_eq];decide
theorem xE:zC X (fun x H Q=>∃k,xD X.K x H k/\Q k H):=by
 intro pins s σ H x v Q I rx h;obtain⟨k,e,q⟩:=h;have hl:=i0;have hs:sizeLine=16777216:=sizeLine_eq;cases x with
 |non=>
  cases rx
  have e':k=false:=e;subst e';exact truthy_none ⟨H,I,q⟩
 |bl b=>
  cases rx
  have e':k=b:=e;subst e';exact wpAny_truthy_bool ⟨H,I,q⟩
 |int i=>
  obtain⟨t,rfl⟩:=rx;have e':k=(i != 0):=e;subst e';exact PySem.P.truthy_int ⟨H,I,q⟩
 |str y=>
  obtain⟨t,rfl⟩:=rx;obtain⟨hy,e'⟩:y.length<=sizeLine/\k=((y.length:Int) != 0):=e;subst e';exact PySem.P.truthy_str (by omega) ⟨H,I.tok _,q⟩
 |byt y=>
  obtain⟨t,rfl⟩:=rx;obtain⟨hy,e'⟩:y.size<=sizeLine/\k=((y.size:Int) != 0):=e;subst e';exact PySem.W.truthy_bytes (by omega) ⟨H,I.tok _,q⟩
 |ref p=>
  cases rx
  have e':(∃xs,SqL X.K H p xs/\k=!xs.isEmpty)\/(∃xs,SqT X.K H p xs/\k=!xs.isEmpty)\/∃kvs,H p=some (.dK kvs)/\k=!kvs.isEmpty:=e;rcases e' with ⟨xs,hx,e'⟩|⟨xs,hx,e'⟩|⟨kvs,hx,e'⟩
  ·subst e';obtain⟨its,r,pl,hz⟩:=I.list hx;have hlen:=r.length;exact wpAny_truthy_list pl.isList (by simp only[aaq];omega) ⟨H,I.tok _,by rw[kn r];exact q⟩
  ·subst e';obtain⟨its,r,pl,hz⟩:=I.tuple hx;have hlen:=r.length;exact truthy_tuple pl (by simp only[aaq];omega) ⟨H,I.tok _,by rw[kn r];exact q⟩
  ·subst e';obtain⟨hz,hS,vs,r,m⟩:kvs.length<=sizeLine/\(p == sysModules)=false/\∃vs,KV kvs vs/\s.heap.DictOf (bD X.prog X.w) p vs:=I.hok p _ hx;have hlen:kvs.length=vs.length:=Paired.length r;exact wpAny_truthy_dict hS m (by omega) ⟨H,I.tok _,by rw[pZ r];exact q⟩
 |_=>exact(show False from e).elim
theorem tH(ha:PE X a ta)(he:∀whole,isTrue a X.env whole=(do let v ←whole;standAt a.pos;holding [v] (truthy v))) :
  PT X a (fun σ H Q=>ta σ H fun x H'=>∃k,xD X.K x H' k/\Q k H'):=by
 intro pins s σ H Q I h;exact isTrue_plain (thn (ha pins s σ H _ I h) fun v s1 ⟨x,H1,I1,r1,q1⟩=>xE pins s1 σ H1 x v Q I1 r1 q1) (he _)
theorem iz:OpR X (binaryOp .Add) (fun x y H Q=>∃i j,x=.str i/\y=.str j/\i.length+j.length<=sizeLine/\Q (.str (i++j)) H):=by
 intro pins s σ H x y v u Q I rx ry h;obtain⟨i,j,rfl,rfl,hz,q⟩:=h;obtain⟨t,rfl⟩:=rx;obtain⟨t',rfl⟩:=ry;exact add_str (fun t' tk=>⟨.str (i++j),H,I.tok _,⟨_,rfl⟩,q⟩) hz
theorem vals1{x:V}{us:List Value}(r:Vals [x] us):∃u,us=[u]/\RelV x u:=by
 cases r with
 |cons r1 r2=>cases r2;exact⟨_,rfl,r1⟩
theorem vals2{x y:V}{us:List Value}(r:Vals [x,y] us):∃u w',us=[u,w']/\RelV x u/\RelV y w':=by
 cases r with
 |cons r1 r2=>
  cases r2 with
  |cons r3 r4=>cases r4;exact⟨_,_,rfl,r1,r3⟩
theorem tI:dt X (.builtin "abs") (fun xs H Q=>∃i,xs=[.int i]/\Q (.int (if i<0 then -i else i)) H):=by
 intro pins s σ H xs us Q I r h;obtain⟨i,rfl,q⟩:=h;obtain⟨u,rfl,t,rfl⟩:=vals1 r;exact call_abs_int fun u tk=>⟨.int (if i<0 then -i else i),H,I.tok _,⟨_,rfl⟩,q⟩
end
end L2
namespace L2
open PySem PySem.Spec PyProof.Rows
structure tJ(h:Heap)(x dx C:Addr)(mA:Str->Option Value):Prop where
 obj:h.get? x=some (PySem.W.instObj C dx)
 ns:h.Ns1 dx mA
 ne:dx≠x
theorem rC{h:Heap}{dx:Addr}{mA:Str->Option Value}(n:h.Ns1 dx mA):∃od,h.get? dx=some od/\∀name,PySem.W.lookIn name od=some (mA name):=by
 obtain⟨o,es,ep,ho,hd,hk,_,hm⟩:=n;refine⟨o,ho,fun name=>?_⟩;have e:=hm name;unfold nsFind findBy at e;rw[←Array.find?_toList] at e;unfold PySem.W.lookIn;rw[hd];dsimp only;split
 ·rename_i y q;rw[q] at e;exact congrArg some e
 ·rename_i q;rw[q] at e;have a:es.toList.any (·.refKey)=false:=by
   rw[List.any_eq_false];intro y hy;obtain⟨z,t,hkey⟩:=hk y (Array.mem_toList_iff.mp hy);simp[DictEntry.refKey,hkey]
  have a':¬es.toList.any (·.refKey)=true:=by rw[a];exact Bool.false_ne_true
  rw[if_neg a'];exact congrArg some e
theorem tJ.look{h:Heap}{x dx C:Addr}{mA:Str->Option Value}(I:tJ h x dx C mA):∃od,PySem.W.InstAt h x (PySem.W.instObj C dx) C (some od)/\∀name,PySem.W.lookIn name od=some (mA name):=
 let ⟨od,ho,hl⟩:=rC I.ns
 ⟨od,⟨I.obj,rfl,rfl,ho⟩,hl⟩
section
variable {prog:Program}{w:World}{A:Around}{E:Value->Shared->Prop}{s:Shared}{K:PySem.W.Frag}{x dx C f:Addr}{mA:Str->Option Value}{name:Str}{v:Value}
end
theorem ft.some_of{v:V}{o:Option Value}(r:ft (some v) o):∃u,o=some u/\RelV v u:=by
 cases o with
 |none=>exact(show False from r).elim
 |some u=>exact⟨u,rfl,r⟩
section
variable {P:Program}{w:World}{H H':Hp}{h h':Heap}{a C dx:Addr}{fs fs':List (Str×V)}
theorem px(hok:HOk P w H h)(e:H a=some (.ins C dx fs)):∃mA,tJ h a dx C mA/\(∀f,ft (fs.lookup f) (mA f))/\PySem.Within mA (fs.map (·.1))/\fs.length<=1000/\H dx=some (.own a):=by
 obtain⟨d,z,ne,ob,mA,n,r,q⟩:=(show ba P w H h a (.ins C dx fs) from hok a _ e);exact⟨mA,⟨ob,n,ne⟩,r,q,z,d⟩
end
structure Cls(K:PySem.W.Frag)(C:Addr):Prop where
 pg:PySem.W.plainGet K C Str.empty=true
 hd:PySem.W.hasDictIn K C=true
 po:PySem.W.plainOver K C=true
 sa:PySem.W.findIn K (.ref C) "__setattr__"=some (some (.builtin "object.__setattr__"))
theorem Cls.get{K:PySem.W.Frag}{C:Addr}(c:Cls K C)(f:Str):PySem.W.plainGet K C f=true:=c.pg
section
variable {X:Cx}{pins:List (Addr×Obj)}{σ:St}{H:Hp}{s:Shared}{a C dx:Addr}{fs:List (Str×V)}{f:Str}{v:V}{A:Around}{E:Value->Shared->Prop}
end
section
variable {X:Cx}{o e value:Expr}{f:Str}{pos pos' tpos:Pos}{ta tv:TE}
end
section
variable {X:Cx}{pins:List (Addr×Obj)}{σ:St}{H:Hp}{s:Shared}{A:Around}{E:Value->Shared->Prop}{Q:Value->Shared->Prop}{c:Value}{b:Bool}
inductive cu(K:PySem.W.Frag)(H:Hp):V->Value->Prop where
 |non:cu K H .non (.type "NoneType")
 |bl (x:Bool):cu K H (.bl x) (.type "bool")
 |int (i:Int):cu K H (.int i) (.type "int")
 |str (x:Str):cu K H (.str x) (.type "str")
 |flt (x:UInt64):cu K H (.flt x) (.type "float")
 |lst {a:Addr} {xs:List V} (e:H a=some (.lst xs)):cu K H (.ref a) (.type "list")
 |frz {a:Addr} {o:Obj} {xs:List V} (e:H a=some (.frz o (.lst xs))):cu K H (.ref a) (.type "list")
 |tup {a:Addr} {xs:List V} (e:H a=some (.tup xs)):cu K H (.ref a) (.type "tuple")
 |dK {a:Addr} {kvs:List (Key×V)} (e:H a=some (.dK kvs)):cu K H (.ref a) (.type "dict")
 |dT {a:Addr} {kvs:List (List Key×V)} (e:H a=some (.dT kvs)):cu K H (.ref a) (.type "dict")
 |ins {a C dx:Addr} {fs:List (Str×V)} (e:H a=some (.ins C dx fs)) (cl:Cls K C) (ha:PySem.W.findIn K (.ref C) "__class__"=some (some (.builtin "object.__class__")))
   (hn:PySem.W.specialIn K (.builtin "object.__class__") "__get__"=some (some (.builtin "getset_descriptor.__get__"))) (htk:PySem.W.takesIn K (.builtin "object.__class__")=some true)
   (hm:PySem.W.mroIn K C (.type "object")=some true):cu K H (.ref a) (.ref C)
theorem rD{x:V}{u t:Value}(I:Inv X pins σ H s)(rx:RelV x u)(ty:cu X.K H x t)(e:PySem.W.kitOne X.K t c=some b)(h:∀tk,Q (.bool b) {s with toks:=tk}) :
  wpAny (model X.prog X.w) A (call (.builtin "isinstance") [u,c]) Q E s:=by
 cases ty with
 |non=>cases (show u=Value.none from rx);exact PySem.W.kia_one PySem.W.kitx_none I.kIn True.intro e (fun z=>nomatch z) h
 |bl y=>cases (show u=Value.bool y from rx);exact PySem.W.kia_one PySem.W.kitx_bool I.kIn True.intro e (fun z=>nomatch z) h
 |int i=>obtain⟨t,q⟩:=(show ∃t,u=Value.int i t from rx);cases q;exact PySem.W.kia_one PySem.W.kitx_int I.kIn True.intro e (fun z=>nomatch z) h
 |str y=>obtain⟨t,q⟩:=(show ∃t,u=Value.str y t from rx);cases q;exact PySem.W.kia_one PySem.W.kitx_str I.kIn True.intro e (fun z=>nomatch z) h
 |flt y=>obtain⟨t,q⟩:=(show ∃t,u=Value.float y t from rx);cases q;exact PySem.W.kia_one PySem.W.kitx_float I.kIn True.intro e (fun z=>nomatch z) h
 |@lst a xs ea=>
  cases (show u=Value.ref a from rx)
  obtain⟨_,_,n,_,h1⟩:=(show ba X.prog X.w H s.heap a (.lst xs) from I.hok a _ ea);exact PySem.W.kia_one PySem.W.kitx_list I.kIn ⟨_,h1,rfl⟩ e (fun z=>nomatch z) h
 |@frz a ob xs ea=>
  cases (show u=Value.ref a from rx)
  obtain⟨_,_,_,n,_,h1⟩:=(show ba X.prog X.w H s.heap a (.frz ob (.lst xs)) from I.hok a _ ea);exact PySem.W.kia_one PySem.W.kitx_list I.kIn ⟨_,h1,rfl⟩ e (fun z=>nomatch z) h
 |@tup a xs ea=>
  cases (show u=Value.ref a from rx)
  obtain⟨_,_,_,p⟩:=(show ba X.prog X.w H s.heap a (.tup xs) from I.hok a _ ea);obtain⟨o,h1,h2,_⟩:=p;exact PySem.W.kia_one PySem.W.kitx_tuple I.kIn ⟨o,h1,h2⟩ e (fun z=>nomatch z) h
 |@dK a kvs ea=>
  cases (show u=Value.ref a from rx)
  obtain⟨_,_,vs,_,p⟩:=(show ba X.prog X.w H s.heap a (.dK kvs) from I.hok a _ ea);obtain⟨o,es,ep,h1,h2,_⟩:=p;exact PySem.W.kia_one PySem.W.kitx_dict I.kIn ⟨o,h1,h2.1⟩ e (fun z=>nomatch z) h
 |@dT a kvs ea=>
  cases (show u=Value.ref a from rx)
  obtain⟨_,_,xs,_,o,es,ep,h1,h2,_⟩:=(show ba X.prog X.w H s.heap a (.dT kvs) from I.hok a _ ea);exact PySem.W.kia_one PySem.W.kitx_dict I.kIn ⟨o,h1,h2.1⟩ e (fun z=>nomatch z) h
 |@ins a C dx fs ea cl ha hn htk hm=>
  cases (show u=Value.ref a from rx)
  obtain⟨mA,O,_⟩:=px I.hok ea;obtain⟨od,J,_⟩:=O.look;exact PySem.W.kia_one (PySem.W.kitx_own (cl.get _) cl.hd ha hn htk hm) I.kIn J e (fun z=>nomatch z) h
end
end L2
namespace L2
open PySem PySem.Spec PyProof.Rows
structure bu(k:Nat)(A:Around):Prop where
 hd:A.handled=none
 dp:A.depth+3*k+5<recursionLimit
 un:A.units+16*k+200<cLine
theorem bu.mono{j k:Nat}{A:Around}(r:bu k A)(h:j<=k):bu j A:=⟨r.hd,by have:=r.dp;omega,by have:=r.un;omega⟩
theorem bu.deeper{k:Nat}{A:Around}(r:bu (k+1) A)(env:Env):bu k (A.deeper env):=
 ⟨r.hd,by have:=r.dp;show A.depth+1+3*k+5<_;omega,by have:=r.un;show A.units+3+16*k+200<_;omega⟩
theorem bu.depth{k:Nat}{A:Around}(r:bu k A):A.depth<recursionLimit:=by have:=r.dp;omega
theorem bu.units{k:Nat}{A:Around}(r:bu k A):A.units+64<cLine:=by have:=r.un;omega
def p6:TA:=fun _ H Q=>Q [] H
def jB(ta:TE)(tr:TA):TA:=fun σ H Q=>ta σ H fun x H1=>tr σ H1 fun xs H2=>Q (x::xs) H2
section
variable {X:Cx}{e:Expr}{es:List Expr}{te:TE}{t:TA}{pos:Pos}
theorem ac:PA X [] p6:=fun _ _ _ _ H Q I h=>Calls.spliced_nil ⟨[],H,I,.nil,h⟩
theorem aj(ha:PE X e te)(hr:PA X es t)(hs:starEach (e::es) X.env=(false,eval e X.env)::starEach es X.env:=by rfl):PA X (e::es) (jB te t):=by
 intro pos pins s σ H Q I h;rw[hs];show wpAny _ _ (spliced ((false,eval e X.env)::backTo pos (starEach es X.env))) _ _ s;refine Calls.spliced_cons (thn (ha pins s σ H _ I h) fun u s1 ⟨x,H1,I1,r1,q1⟩=>?_);exact thn (hr pos pins s1 σ H1 _ I1 q1) fun us s2 ⟨xs,H2,I2,r2,q2⟩=>⟨x::xs,H2,I2,.cons r1 r2,q2⟩
def tK(t:TA):TE:=fun σ H Q=>t σ H fun xs H1=>xs.length<=sizeLine/\∀p,H1 p=none->Q (.ref p) (upd H1 p (.tup xs))
def tL(t:TA):TE:=fun σ H Q=>t σ H fun xs H1=>xs.length<=sizeLine/\∀p,H1 p=none->Q (.ref p) (upd H1 p (.lst xs))
theorem aP{x1}(h:PA X es t):PE X (.Tuple es x1 pos) (tK t):=by
 intro pins s σ H Q I hq;refine wpAny_Tuple_spliced (thn (h pos pins s σ H _ I hq) fun us s1 ⟨xs,H1,I1,r,z,q⟩=>⟨by rw[←r.length];exact z,?_⟩);have hf:H1 s1.heap.objs.size=none:=I1.hok.fresh (Nat.le_refl _);refine⟨.ref s1.heap.objs.size,upd H1 s1.heap.objs.size (.tup xs),I1.laid (t':=s1.toks) (fun b u e=>aaf _ e) (Nat.le_refl _) ?_,rfl,q _ hf⟩;exact⟨z,us,r,⟨_,aay _ rfl,rfl,_,rfl⟩⟩
theorem aW(h:PA X es t):PE X (.List es pos) (tL t):=by
 intro pins s σ H Q I hq;refine wpAny_List_spliced (thn (h pos pins s σ H _ I hq) fun us s1 ⟨xs,H1,I1,r,z,q⟩=>⟨by rw[←r.length];exact z,?_⟩);have hf:H1 s1.heap.objs.size=none:=I1.hok.fresh (Nat.le_refl _);refine⟨.ref s1.heap.objs.size,upd H1 s1.heap.objs.size (.lst xs),I1.laid (t':=s1.toks) (fun b u e=>aaf _ e) (Nat.le_refl _) ?_,rfl,q _ hf⟩;exact⟨z,us,0,r,aay _ rfl⟩
end
abbrev Sp:=List V->Hp->VK->XK->Prop
abbrev CXT:=List Env->Hp->Shared->XK->Value->Shared->Prop
structure p7(P:Program)(w:World)(K:PySem.W.Frag)(mg:Str->Option Value)(base:Heap)(A:Around)(outer:List Env)(s:Shared)(H:Hp):Prop where
 frames:A.frames=some outer
 mod:Mod K mg base
 bs:∀b o,base.get? b=some o->s.heap.get? b=some o/\H b=none
 bsz:base.objs.size<=s.heap.objs.size
 fW:s.heap.FunFrames base outer
 frf:∀b∈frs outer,H b=none
 hok:HOk P w H s.heap
 bare:AllBare s.gens
def CE(outer:List Env)(P:Program)(w:World)(H:Hp)(s:Shared)(Q:VK)(u:Value)(s':Shared):Prop:=
 ∃v H',s'.os=s.os/\AllBare s'.gens/\Un (frs outer) [] H H' s.heap s'.heap/\HOk P w H' s'.heap/\RelV v u/\Q v H'
def CR(CX:CXT)(outer:List Env)(P:Program)(w:World)(H:Hp)(s:Shared)(Q:VK)(E:XK)(r:Result)(s':Shared):Prop:=
 match r with
 |.ok (.ret u)=>CE outer P w H s Q u s'
 |.ok _=>False
 |.error e=>CX outer H s E e s'
structure a0(P:Program)(w:World)(K:PySem.W.Frag)(mg:Str->Option Value)(base:Heap)(CX:CXT)(k:Nat)(f:Addr)(fd:FuncData)(ps:List Str)(sp:Sp):Prop where
 len:∀vs H Q E,sp vs H Q E->vs.length=ps.length
 run:∀(A:Around) (outer:List Env) (s:Shared) (H:Hp) (args:Args) (us:List Value) (vs:List V) (Q:VK) (E:XK),bu k A->p7 P w K mg base A outer s H->BindsTo s fd args (ps.zip us)->Vals vs us->sp vs H Q E->
  codeAny (model P w) A (.call (.ref f) args) (CR CX outer P w H s Q E) s
section
variable {X:Cx}{pins:List (Addr×Obj)}{σ:St}{H:Hp}{s s':Shared}
theorem Inv.zF(I:Inv X pins σ H s):p7 X.prog X.w X.K X.mg X.base X.A X.stack s H:=
 ⟨I.ok.frames,I.ok.mod,I.bs,Nat.le_trans I.ok.bsz I.sz,I.stack,I.li,I.hok,I.bare⟩
theorem Inv.after{Q:VK}{u:Value}(I:Inv X pins σ H s)(h:CE X.stack X.prog X.w H s Q u s'):EP X pins σ Q u s':=by
 obtain⟨v,H',os,bare,un,hok,r,q⟩:=h;obtain⟨hh,g,d,t,os'⟩:=s';obtain rfl:os'=s.os:=os;exact⟨v,H',I.call (h':=hh) (g':=g) (d':=d) (t':=t) (ch:=[]) un hok bare (fun b z=>absurd z (by simp)),r,q⟩
end
def p8(sp:Sp)(dvs:List V)(E:XK)(t:TA):TE:=fun σ H Q=>t σ H fun vs H1=>sp (vs++dvs) H1 Q E
def Binds(K:PySem.W.Frag)(fd:FuncData)(ps:List Str)(ds:List Value):Prop:=
 ∀(s:Shared) (us:List Value),K.In s.heap->(us++ds).length=ps.length->BindsTo s fd ⟨us,[]⟩ (ps.zip (us++ds))
theorem Binds.all{K:PySem.W.Frag}{fd:FuncData}{ps:List Str}(h:∀us:List Value,us.length=ps.length->bindArgs fd ⟨us,[]⟩=pure (ps.zip us)):Binds K fd ps []:=fun s us _ hl=>by
 rw[List.append_nil] at hl ⊢;exact .of_eq (h us hl)
def Passes(CX:CXT)(X:Cx)(E:XK):Prop:=∀(pins:List (Addr×Obj)) (σ:St) (H:Hp) (s:Shared) (e:Value) (s':Shared),Inv X pins σ H s->CX X.stack H s E e s'->X.xe e s'
section
variable {X:Cx}{CX:CXT}{k:Nat}{f C:Addr}{fd:FuncData}{ps:List Str}{sp:Sp}{dvs:List V}{ds:List Value}{E:XK}{x m:Str}{p pos apos:Pos}{e o:Expr}{es:List Expr}{ta:TE}{t:TA}
theorem xF{pins:List (Addr×Obj)}{σ:St}{H:Hp}{s:Shared}{Q:VK}{us:List Value}{vs:List V}(F:a0 X.prog X.w X.K X.mg X.base CX k f fd ps sp)(hr:bu k X.A)(hb:Binds X.K fd ps ds)(hd:Vals dvs ds)(hx:Passes CX X E)
  (I:Inv X pins σ H s)(r:Vals vs us)(h:sp (vs++dvs) H Q E):wpAny (model X.prog X.w) X.A (call (.ref f) us) (EP X pins σ Q) X.xe s:=by
 have r2:Vals (vs++dvs) (us++ds):=r.append hd;have hl:(us++ds).length=ps.length:=by rw[←r2.length];exact F.len _ _ _ _ h
 refine wpAny_call (codeAny_mono (F.run X.A X.stack s H ⟨us,[]⟩ (us++ds) (vs++dvs) Q E hr I.zF (hb s us I.kIn hl) r2 h) fun r s' hq=>?_);cases r with
 |error e=>exact hx pins σ H s e s' I hq
 |ok fl=>
  cases fl with
  |ret u=>exact I.after hq
  |next=>exact False.elim hq
  |brk=>exact False.elim hq
  |cont=>exact False.elim hq
theorem vV(F:a0 X.prog X.w X.K X.mg X.base CX k f fd ps sp)(hr:bu k X.A)(hg:Gl X x)(hm:X.mg x=some (.ref f))(hk:PySem.W.keepIn X.K (.ref f)=true)(hb:Binds X.K fd ps ds)(hd:Vals dvs ds)(hx:Passes CX X E)
  (ha:PA X (e::es) t)(hdb:(x == ("__debug__":Str))=false:=by decide)(he:starEach (e::es) X.env=(false,eval e X.env)::starEach es X.env:=by rfl)(hpl:(backTo pos (starEach es X.env)).any (·.1)=false:=by rfl) :
  PE X (.Call (.Name x p) (e::es) [] pos) (p8 sp dvs E t):=by
 intro pins s σ H Q I h;refine wpAny_Call_Name_kw (pi I hg hm ?_ hdb);refine PySem.W.callWith_K (h₀:=X.base) I.ok.mod.kin hk (thn (ha pos pins s σ H _ I h) fun us s1 ⟨vs,H1,I1,r,q⟩=>⟨I1.kIn,?_⟩) he hpl;exact xF F hr hb hd hx I1 r q
end
section
variable {X:Cx}{CX:CXT}{k:Nat}{f C:Addr}{fd:FuncData}{ps ks:List Str}{sp:Sp}{E:XK}{x m:Str}{p pos apos kpos:Pos}{e o:Expr}{es:List Expr}{kws:List Keyword}{te ta:TE}{t tk:TA}{nm:Option Str}
variable {g:List Value->List Value->List Value}{gV:List V->List V->List V}
end
structure aD(N P:List Str)(sc:Scope):Prop where
 kind:sc.kind=.function
 co:sc.isCoroutine=false
 gen:sc.isGenerator=false
 nd:N.Nodup
 pre:N.take P.length=P
 par:∀x∈P,sc.names.lookup x=some .local\/sc.names.lookup x=some .cell
 nofree:∀y∈sc.names,y.2≠.free
theorem lR{kindOf:Str->Option NameKind}{x:Str}:∀{binds:List (Str×Value)} {m:Str->Option Value},(∀v,(x,v) ∉ binds)->bindL kindOf binds m x=m x
 |[],_,_=>rfl
 |(n,v)::r,m,h=>by
  unfold bindL;rw[lR fun w hw=>h w (aad _ hw)];split
  ·have:x≠n:=by rintro rfl;exact h v aac
   simp[this]
  ·rfl
theorem lT{kindOf:Str->Option NameKind}{x:Str}:∀{binds:List (Str×Value)} {m:Str->Option Value},(∀v,(x,v) ∉ binds)->bindC kindOf binds m x=m x
 |[],_,_=>rfl
 |(n,v)::r,m,h=>by
  unfold bindC;rw[lT fun w hw=>h w (aad _ hw)];split
  ·rfl
  ·have:x≠n:=by rintro rfl;exact h v aac
   simp[this]
theorem lV{kindOf:Str->Option NameKind}{x:Str}{v:Value}:∀{P:List Str} {vs:List Value} {i:Nat} {m:Str->Option Value},P.Nodup->P[i]? =some x->vs[i]? =some v->kindOf x=some .local->
  bindL kindOf (P.zip vs) m x=some v
 |[],_,_,_,_,h,_,_=>by simp at h
 |_::_,[],_,_,_,_,h,_=>by simp at h
 |p::P,w::vs,0,m,nd,h1,h2,hk=>by
  simp at h1 h2;subst h1;subst h2;show bindL kindOf ((p,w)::P.zip vs) m p=_;unfold bindL;rw[lR fun v hv=>(List.nodup_cons.mp nd).1 (List.of_mem_zip hv).1,if_pos hk];simp
 |p::P,w::vs,i+1,m,nd,h1,h2,hk=>by
  show bindL kindOf ((p,w)::P.zip vs) m x=_;unfold bindL;exact lV (i:=i) (List.nodup_cons.mp nd).2 (by simpa using h1) (by simpa using h2) hk
theorem lW{kindOf:Str->Option NameKind}{x:Str}{v:Value}:∀{P:List Str} {vs:List Value} {i:Nat} {m:Str->Option Value},P.Nodup->P[i]? =some x->vs[i]? =some v->kindOf x≠some .local->
  bindC kindOf (P.zip vs) m x=some v
 |[],_,_,_,_,h,_,_=>by simp at h
 |_::_,[],_,_,_,_,h,_=>by simp at h
 |p::P,w::vs,0,m,nd,h1,h2,hk=>by
  simp at h1 h2;subst h1;subst h2;show bindC kindOf ((p,w)::P.zip vs) m p=_;unfold bindC;rw[lT fun v hv=>(List.nodup_cons.mp nd).1 (List.of_mem_zip hv).1,if_neg hk];simp
 |p::P,w::vs,i+1,m,nd,h1,h2,hk=>by
  show bindC kindOf ((p,w)::P.zip vs) m x=_;unfold bindC;exact lW (i:=i) (List.nodup_cons.mp nd).2 (by simpa using h1) (by simpa using h2) hk
def start(N:List Str)(vs:List V):St:=vs.map some++List.replicate (N.length - vs.length) none
def iA(CX:CXT)(P:Program)(w:World)(K:PySem.W.Frag)(mg:Str->Option Value)(base:Heap)(N:List Str)(qual:Str)(scope:Scope)(f:Addr)(cd:Value)(A:Around)(outer:List Env)(s:Shared)(H:Hp)(E:XK):Cx where
 prog:=P
 w:=w
 K:=K
 mg:=mg
 base:=base
 A:=A.deeper (envOfC qual scope s.heap.objs.size f cd)
 N:=N
 s₀:=s
 H₀:=H
 env:=envOfC qual scope s.heap.objs.size f cd
 outer:=outer
 stack:=envOfC qual scope s.heap.objs.size f cd::outer
 ex:=[]
 calm:=true
 fn:=fun _=>true
 pn:=[]
 xe:=fun e s'=>wpAny (model P w) (A.deeper (envOfC qual scope s.heap.objs.size f cd)) (leaving (envOfC qual scope s.heap.objs.size f cd) e) (fun _ s''=>CX outer H s E e s'') (fun e' s''=>CX outer H s E e' s'') s'
theorem mX{sc:Scope}{n:Nat}{x:Str}(h:sc.names.lookup x=some .cell):∃c,(cellsFrom n sc.names []).lookup x=some c:=by
 have q:=PySem.W.cellsFrom_some sc.names n [] (.inl h);exact Option.isSome_iff_exists.mp q
theorem rF{CX:CXT}{P:Program}{w:World}{K:PySem.W.Frag}{mg:Str->Option Value}{base:Heap}{N ps:List Str}{qual:Str}{scope:Scope}{f:Addr}{cd:Value}{A:Around}{outer:List Env}{s s1:Shared}{H:Hp}{E:XK}{us:List Value}{vs:List V}
  (S:aD N ps scope)(hd:A.handled=none)(e0:p7 P w K mg base A outer s H)(hl:vs.length=ps.length)(r:Vals vs us)
  (x:InCallC s s.heap.objs.size (bindL (envOfC qual scope s.heap.objs.size f cd).kindOf (ps.zip us) fun _=>none) (cellsFrom (s.heap.objs.size+1) scope.names []) (bindC (envOfC qual scope s.heap.objs.size f cd).kindOf (ps.zip us) fun _=>none) s1) :
  Inv (iA CX P w K mg base N qual scope f cd A outer s H E) [] (start N vs) H s1:=by
 have hpl:ps.length<=N.length:=by have:=congrArg List.length S.pre;rw[aal] at this;omega
 obtain⟨h1,tk,rfl,hk⟩:=x.done;have noA:∀b:Addr,b ∉ (iA CX P w K mg base N qual scope f cd A outer s H E).ex:=fun b z=>absurd (show b∈([]:List Addr) from z) (by simp)
 refine⟨⟨e0.mod,S.kind,rfl,rfl,Nat.le_refl _,fun y z c h1 h2=>?_,fun y hy=>?_,fun y c _ h=>?_,fun _=>hd,Around.frames_deeper e0.frames,.inr ⟨rfl,rfl⟩,fun b z=>absurd z (noA b),e0.bs,e0.bsz,fun b _ _=>noA b,fun b z=>absurd z (noA b),e0.fW,e0.frf⟩,
  rfl,e0.bare,Un.kept hk,⟨_,x.toInCall.ns,fun i y v h1 h2 h3=>?_⟩,fun y c h=>⟨_,x.cell y c h⟩,e0.hok.fresh (Nat.le_refl _),fun y c h=>?_,fun p hp=>absurd (show p∈([]:List (Addr×Obj)) from hp) (by simp),e0.hok.kept hk,?_⟩
 ·exact name_of_addr x.apart (PySem.mem_of_lookup h1) (PySem.mem_of_lookup h2)
 ·have hy:scope.names.lookup y=some .cell\/scope.names.lookup y=some .free:=hy;rcases hy with hy|hy
  ·exact mX hy
  ·exact absurd rfl (S.nofree _ (PySem.mem_of_lookup hy))
 ·exact Nat.le_of_lt (x.above y c (PySem.mem_of_lookup h))
 ·have hi:i<vs.length:=by
   unfold start at h2
   by_cases hi:i<vs.length
   ·exact hi
   ·rw[List.getElem?_append_right (by simpa using hi)] at h2;rw[List.getElem?_replicate] at h2;split at h2 <;> cases h2
  have ha:vs[i]? =some v:=by
   unfold start at h2;rw[List.getElem?_append_left (by simpa using hi),aax] at h2;cases e:vs[i]? with
   |none=>rw[e] at h2;cases h2
   |some a=>rw[e] at h2;cases h2;rfl
  obtain⟨u,hu,rv⟩:=r.get ha;have hp:ps[i]? =some y:=by
   rw[←S.pre,List.getElem?_take_of_lt (by omega)];exact h1
  have ndP:ps.Nodup:=by rw[←S.pre];exact S.nd.sublist (List.take_sublist _ _)
  refine⟨u,rv,?_⟩;rcases S.par y (aah hp) with k|k
  ·exact .inl ⟨k,lV ndP hp hu k⟩
  ·obtain⟨c,e⟩:=mX (n:=s.heap.objs.size+1) k;refine .inr ⟨.inl k,c,e,?_⟩;have q:=x.cell y c e;rw[lW ndP hp hu (by show scope.names.lookup y≠_;rw[k];decide)] at q;exact q
 ·exact e0.hok.fresh (Nat.le_of_lt (x.above y c (PySem.mem_of_lookup h)))
 ·unfold start;show _=N.length;rw[aag,aaa,List.length_replicate];omega
theorem vH{CX:CXT}{P:Program}{w:World}{K:PySem.W.Frag}{mg:Str->Option Value}{base:Heap}{k:Nat}{f:Addr}{name qual:Str}{params:Arguments}{body:List Stmt}{scope:Scope}{dV kV doc pm cdv ct oc:Value}{an od:Option Addr}
  {osl:Array (Option Value)}{N ps:List Str}{sp:Sp}(lk:K.lookup f=some ⟨oc,od,.func (PySem.W.fnOf name qual params body scope dV kV doc pm an cdv ct),osl⟩)(hcd:PySem.W.codeIn K cdv qual=true)(S:aD N ps scope)
  (len:∀vs H Q E,sp vs H Q E->vs.length=ps.length)
  (hbody:∀(A:Around) (outer:List Env) (s:Shared) (H:Hp) (vs:List V) (Q:VK) (E:XK),bu k (A.deeper (envOfC qual scope s.heap.objs.size f cdv))->sp vs H Q E->
   ∃t,PSs (iA CX P w K mg base N qual scope f cdv A outer s H E) body t/\t {nx:=fun _ H'=>Q .non H',rt:=Q} (start N vs) H) :
  a0 P w K mg base CX (k+1) f (PySem.W.fnOf name qual params body scope dV kV doc pm an cdv ct) ps sp:=by
 refine⟨len,fun A outer s H args us vs Q E hr e0 hb r hsp=>?_⟩;have hl:=len _ _ _ _ hsp;have KX:K.In s.heap:=e0.mod.kin.keeps fun b o e=>(e0.bs b o e).1
 have lim:s.heap.NoLimit:=e0.mod.nolimit.keeps fun b o e=>(e0.bs b o e).1
 have hkind:∀y∈ps.zip us,scope.names.lookup y.1=some .local\/(scope.names.lookup y.1=some .cell/\((cellsFrom (s.heap.objs.size+1) scope.names []).lookup y.1).isSome=true):=fun⟨n,v⟩ hy=>by
  rcases S.par n (List.of_mem_zip hy).1 with q|q
  ·exact .inl q
  ·exact .inr ⟨q,PySem.W.cellsFrom_some _ _ _ (.inl q)⟩
 refine codeAny_call_function hr.depth (KX _ _ lk) rfl S.co S.gen rfl (PySem.W.codeRec_of KX hcd) (hb _ _ _ _ ?_);refine wpAny_newFunctionEnv_cells S.kind hkind fun env he s1 x=>?_
 subst he;refine⟨lim.keeps x.toInCall.keep,codeAny_func ?_⟩;obtain⟨t,ht,hq⟩:=hbody A outer s H vs Q E (hr.deeper _) hsp;have I:Inv (iA CX P w K mg base N qual scope f cdv A outer s H E) [] (start N vs) H s1:=rF S hr.hd e0 hl r x;refine wpAny_mono (ht [] s1 (start N vs) H _ I hq) (fun fl s' hs=>?_) fun e s' hs=>hs
 have fin:∀{σ':St} {H':Hp} {v:V} {u:Value},Inv (iA CX P w K mg base N qual scope f cdv A outer s H E) [] σ' H' s'->RelV v u->Q v H'->CE outer P w H s Q u s':=
  fun{σ' H' v u} J rv q=>⟨v,H',J.os,J.bare,J.base,J.hok,rv,q⟩
 cases fl with
 |ret u=>
  obtain⟨v,σ',H',J,rv,q⟩:=hs;exact fin J rv q
 |next=>
  obtain⟨σ',H',J,q⟩:=hs;exact fin (v:=V.non) (u:=Value.none) J rfl q
 |brk=>
  obtain⟨_,_,_,q⟩:=hs;exact False.elim q
 |cont=>
  obtain⟨_,_,_,q⟩:=hs;exact False.elim q
end L2
namespace L2
open PySem PySem.Spec PyProof.Rows
section
variable {X:Cx}{x:Str}{p pos:Pos}{e:Expr}{es:List Expr}{t:TA}{id T:String}{r:List V->Hp->VK->Prop}
def tCB(r:List V->Hp->VK->Prop)(t:TA):TE:=fun σ H Q=>t σ H fun vs H1=>r vs H1 Q
theorem aC(hc:dt X (.builtin id) r)(hg:Gl X x)(hm:X.mg x=none)(hv:bootBuiltins x=some (.builtin id))(ha:PA X (e::es) t)(hn:x≠"__name__":=by decide)(hdb:(x == ("__debug__":Str))=false:=by decide)
  (he:starEach (e::es) X.env=(false,eval e X.env)::starEach es X.env:=by rfl)(hpl:(backTo pos (starEach es X.env)).any (·.1)=false:=by rfl):PE X (.Call (.Name x p) (e::es) [] pos) (tCB r t):=by
 intro pins s σ H Q I h;refine wpAny_Call_Name_kw (g6 I hg hm hv ?_ hn hdb);exact PyProof.Rows.callWith_builtin1 (thn (ha pos pins s σ H _ I h) fun us s1 ⟨vs,H1,I1,r1,q1⟩=>hc pins s1 σ H1 vs us Q I1 r1 q1) he hpl
theorem cX(hc:dt X (.type T) r)(hg:Gl X x)(hm:X.mg x=none)(hv:bootBuiltins x=some (.type T))(ha:PA X (e::es) t)(hn:x≠"__name__":=by decide)(hdb:(x == ("__debug__":Str))=false:=by decide)
  (he:starEach (e::es) X.env=(false,eval e X.env)::starEach es X.env:=by rfl)(hpl:(backTo pos (starEach es X.env)).any (·.1)=false:=by rfl):PE X (.Call (.Name x p) (e::es) [] pos) (tCB r t):=by
 intro pins s σ H Q I h;refine wpAny_Call_Name_kw (g6 I hg hm hv ?_ hn hdb);exact PyProof.Rows.callWith_type1 (thn (ha pos pins s σ H _ I h) fun us s1 ⟨vs,H1,I1,r1,q1⟩=>hc pins s1 σ H1 vs us Q I1 r1 q1) he hpl
end
end L2
namespace HT
open PySem PyProof.Rows
section
open PySem.SeqAt
open PySem.MeetsSeq PySem.MeetsSeq2 PySem.MeetsSeq3
end
section
variable {prog:Program}{w:World}{A:Around}{E:Value->Shared->Prop}{s:Shared}
theorem vW{t b:Addr}{vs ws:List Value}{Q:Value->Shared->Prop}(ht:IsTup s.heap t vs.toArray)(hb:IsTup s.heap b ws.toArray)(hv:vs≠[])
  (h1:ws=[]->Q (.ref t) s)(h2:ws≠[]->Q (.ref s.heap.objs.size) {s with heap:=s.heap.push {cls:=.type "tuple",data:=.seq (vs++ws).toArray}})
  (hsz:vs.length+ws.length<=sizeLine):wpAny (model prog w) A (binaryOp .Add (.ref t) (.ref b)) Q E s:=by
 obtain⟨⟨cls,dd,data,sl⟩,ho,hc,n,hd⟩:=id ht;obtain⟨⟨cls2,dd2,data2,sl2⟩,ho2,hc2,n2,hd2⟩:=id hb;simp only at hc hd hc2 hd2;subst hc hd hc2 hd2;have e:vs.toArray++ws.toArray=(vs++ws).toArray:=by simp
 by_cases hw:ws=[]
 ·exact concat_meets ⟨_,ho,rfl⟩ ⟨_,ho2,rfl⟩ noFill_tuple_add seq_tuple_add PySem.F.slot_tuple_add PySem.F.entry_tuple_add (PySem.F.args_tuple_add_2 _ _)
   (tuple_addW1 t b vs.toArray ws.toArray n n2 dd dd2 sl sl2 (by simpa using hv) (by simp[hw])) ⟨ho,ho2,h1 hw⟩
 ·refine concat_meets ⟨_,ho,rfl⟩ ⟨_,ho2,rfl⟩ noFill_tuple_add seq_tuple_add PySem.F.slot_tuple_add PySem.F.entry_tuple_add (PySem.F.args_tuple_add_2 _ _)
   (tuple_addW2 t b vs.toArray ws.toArray n n2 dd dd2 sl sl2 (by simpa using hv) (by simpa using hw) (by rw[aaq,aaq];exact hsz)) ⟨ho,ho2,?_⟩
  rw[e];exact h2 hw
def sIx(n d:Nat):Option Int->Nat
 |none=>d
 |some v=>if v<0 then (v+(n:Int)).toNat else min v.toNat n
theorem j2(n d:Nat):sIx n d none=d:=rfl
theorem g8(n d k:Nat):sIx n d (some (k:Int))=min k n:=by
 show(if (k:Int)<0 then ((k:Int)+(n:Int)).toNat else min (k:Int).toNat n)=min k n;rw[if_neg (by omega),Int.toNat_natCast]
theorem xG(n d:Nat)(hd:d<=n)(o:Option Int):sIx n d o<=n:=by
 cases o with
 |none=>exact hd
 |some v=>
  show(if v<0 then (v+(n:Int)).toNat else min v.toNat n)<=n
  by_cases hv:v<0
  ·rw[if_pos hv];omega
  ·rw[if_neg hv];exact Nat.min_le_right _ _
theorem pz(v:Int)(n d:Nat):(if v<0 then max (v+(n:Int)) 0 else min v (n:Int))=((sIx n d (some v):Nat):Int):=by
 show(if v<0 then max (v+(n:Int)) 0 else min v (n:Int))=(((if v<0 then (v+(n:Int)).toNat else min v.toNat n):Nat):Int)
 by_cases hv:v<0
 ·simp only[if_pos hv];omega
 ·simp only[if_neg hv];omega
theorem p9(lo hi:Option Int)(n:Nat):Builtin.Slice.sliceAdjust lo hi 1 (n:Int)=(((sIx n 0 lo:Nat):Int),((sIx n n hi:Nat):Int)):=by
 have h1:¬((1:Int)<0):=by omega
 unfold Builtin.Slice.sliceAdjust;simp only[h1,if_false];refine Prod.ext ?_ ?_
 ·cases lo with
  |none=>rfl
  |some v=>exact pz v n 0
 ·cases hi with
  |none=>rfl
  |some v=>exact pz v n n
theorem qa(i j:Nat):Builtin.Slice.slicePlaces (i:Int) (j:Int) 1=j - i:=by
 unfold Builtin.Slice.slicePlaces;have h1:(1:Int) > 0:=by omega
 simp only[h1,if_true,Int.ediv_one];split <;> omega
theorem ko{v:Value}{o:Option Int}{Q:Option Int->Shared->Prop}(p:IsPart v o)(h:Q o s):wpAny (model prog w) A (Builtin.Slice.slicePartIndex v) Q E s:=by
 cases p with
 |none=>exact slicePart_none h
 |int i t=>exact slicePart_int h
theorem j3{sl:Addr}{vl vu:Value}{lo hi:Option Int}{n:Nat}{Q:Int×Int×Nat->Shared->Prop}(hs:s.heap.IsSliceOf sl vl vu .none)(pl:IsPart vl lo)(pu:IsPart vu hi)
  (h:Q (((sIx n 0 lo:Nat):Int),1,sIx n n hi - sIx n 0 lo) s):wpAny (model prog w) A (Builtin.Slice.sliceApplied (.ref sl) (pure (n:Int))) Q E s:=by
 obtain⟨os,hos,hcs,hds⟩:=id hs;unfold Builtin.Slice.sliceApplied Builtin.Slice.sliceFields;refine wpAny_bind (wpAny_bind (wpAny_field hos hds (x:=vl) rfl (wpAny_bind (wpAny_field hos hds (x:=vu) rfl (wpAny_bind (wpAny_field hos hds (x:=.none) rfl (wpAny_pure ?_)))))));refine wpAny_bind (slicePart_none ?_);show wpAny _ _ (if ((1:Int) == 0)=true then _ else _) _ _ s;rw[if_neg (by decide)];refine wpAny_bind (ko pl (wpAny_bind (ko pu (wpAny_bind (wpAny_pure ?_)))));show wpAny _ _ (match Builtin.Slice.sliceAdjust lo hi 1 (n:Int) with | (lo,hi)=>pure (lo,(1:Int),Builtin.Slice.slicePlaces lo hi 1)) _ _ s;rw[p9 lo hi n];show wpAny _ _ (pure (((sIx n 0 lo:Nat):Int),(1:Int),Builtin.Slice.slicePlaces ((sIx n 0 lo:Nat):Int) ((sIx n n hi:Nat):Int) 1)) _ _ s;rw[qa];exact wpAny_pure h
theorem tM(xs:Array Value)(i k:Nat):((List.range k).filterMap fun(m:Nat)=>xs[((i:Int)+(m:Int)*1).toNat]?).toArray=((xs.toList.drop i).take k).toArray:=by
 have e:(fun(m:Nat)=>xs[((i:Int)+(m:Int)*1).toNat]?)=fun m=>xs[i+m]?:=by
  funext m
  have:((i:Int)+(m:Int)*1).toNat=i+m:=by omega
  rw[this]
 rw[e];have:=pick_run xs i k;rw[List.filterMap_map] at this;have e2:((fun x=>xs[x]?) ∘ fun x=>i+x)=fun m=>xs[i+m]?:=rfl
 rw[e2] at this;rw[this]
theorem jN{t sl:Addr}{items:Array Value}{vl vu:Value}{lo hi:Option Int}{Q:Value->Shared->Prop}(ht:IsTup s.heap t items)(hs:s.heap.IsSliceOf sl vl vu .none)(pl:IsPart vl lo)(pu:IsPart vu hi)
  (hw:¬(sIx items.size 0 lo=0/\sIx items.size items.size hi=items.size))
  (h:Q (.ref s.heap.objs.size) {s with heap:=s.heap.push {cls:=.type "tuple",data:=.seq ((items.toList.drop (sIx items.size 0 lo)).take (sIx items.size items.size hi - sIx items.size 0 lo)).toArray}})
  (hsz:items.size<=sizeLine):wpAny (model prog w) A (getItem (.ref t) (.ref sl)) Q E s:=by
 have htake:sizeOk (.seq ((items.toList.drop (sIx items.size 0 lo)).take (sIx items.size items.size hi - sIx items.size 0 lo)).toArray):=by
  show((items.toList.drop (sIx items.size 0 lo)).take (sIx items.size items.size hi - sIx items.size 0 lo)).toArray.size<=sizeLine;rw[aaq,aal,List.length_drop,Array.length_toList];omega
 have hj:sIx items.size items.size hi<=items.size:=xG _ _ (Nat.le_refl _) hi;obtain⟨os,hos,hcs,hds⟩:=id hs;have hTs:s.TypeIs (.ref sl) "slice":=⟨os,hos,hcs⟩;unfold getItem
 try with_reducible refine wpAny_holding ?_
 first | refine wpAny_bind (wpAny_pure ?_) | skip
 refine wpAny_bind (wpAny_sequenceKey ht.typeIs (by decide) ?_);refine wpAny_bind (wpAny_callSpecial?_slot (name:=Str.ofString "__getitem__") ht.typeIs PyProof.Rows.slot_tuple_getitem
  (wpAny_call_entry PyProof.Rows.slot_tuple_getitem ht.typeIs entry_tuple_getitem ?_ (args_tuple_getitem _ _)))
 show wpAny _ _ (Builtin.Tuple.tupleItemsOf (.ref t) >>= _) _ _ s;refine wpAny_bind (tupleItemsOf_ ht ?_);refine wpAny_bind (wpAny_typeOf hTs ?_);rw[if_pos (by decide)];refine wpAny_bind (j3 hs pl pu ?_);have hno:¬((((sIx items.size 0 lo:Nat):Int) == 0 && (1:Int) == 1 && (sIx items.size items.size hi - sIx items.size 0 lo) == items.size)=true):=by
  intro q;rw[Bool.and_eq_true,Bool.and_eq_true] at q;have q1:((sIx items.size 0 lo:Nat):Int)=0:=eq_of_beq q.1.1;have q2:sIx items.size items.size hi - sIx items.size 0 lo=items.size:=eq_of_beq q.2;exact hw ⟨by omega,by omega⟩
 show wpAny _ _ (if (((sIx items.size 0 lo:Nat):Int) == 0 && (1:Int) == 1 && (sIx items.size items.size hi - sIx items.size 0 lo) == items.size)=true then _ else _) _ _ s;rw[if_neg hno,tM]
 first
  |exact wpAny_bind (m:=Builtin.Tuple.tupleExact _) (wpAny_newObj_type (wpAny_pure ⟨_,rfl,wpAny_pure h⟩) htake)
  |exact wpAny_bind (m:=Builtin.Tuple.tupleExact _) (wpAny_newObj_type (wpAny_bind (wpAny_pure (wpAny_pure ⟨_,rfl,wpAny_pure h⟩))) htake)
  |exact wpAny_bind (wpAny_bind (m:=Builtin.Tuple.tupleExact _) (wpAny_newObj_type (wpAny_pure (wpAny_pure ⟨_,rfl,wpAny_pure h⟩)) htake))
  |exact wpAny_bind (wpAny_bind (m:=Builtin.Tuple.tupleExact _) (wpAny_newObj_type (wpAny_pure ⟨_,rfl,wpAny_pure h⟩) htake))
end
end HT
namespace L2
open PySem PySem.Spec PyProof.Rows
abbrev TO:=St->Hp->(Option Int->Hp->Prop)->Prop
def PO(X:Cx)(e:Option Expr)(t:TO):Prop:=
 ∀(pins:List (Addr×Obj)) (s:Shared) (σ:St) (H:Hp) (Q:Option Int->Hp->Prop),Inv X pins σ H s->t σ H Q->
  wpAny (model X.prog X.w) X.A (evalPart e X.env) (fun u s'=>∃o H',Inv X pins σ H' s'/\IsPart u o/\Q o H') X.xe s
def vX:TO:=fun _ H Q=>Q none H
def yT(t:TE):TO:=fun σ H Q=>t σ H fun x H1=>∃i,x=.int i/\Q (some i) H1
theorem intsAre_of{ns:List Int}:∀{us:List Value},Vals (ns.map V.int) us->IntsAre us ns:=by
 induction ns with
 |nil=>intro us r;rw[List.map_nil] at r;cases r;exact .nil
 |cons n ns ih=>
  intro us r;rw[aaw] at r;cases r with
  |cons r1 r2=>
   obtain⟨t,e⟩:=r1;subst e;exact .cons n t (ih r2)
section
variable {X:Cx}{e:Expr}{te:TE}{lo hi:Option Expr}{tl th:TO}{pos p2:Pos}
theorem c9:PO X none vX:=by
 intro pins s σ H Q I h;rw[evalPart_none];exact wpAny_pure ⟨none,H,I,.none,h⟩
theorem cM(h:PE X e te):PO X (some e) (yT te):=by
 intro pins s σ H Q I hw;rw[evalPart_some];refine thn (h pins s σ H _ I hw) fun u s1 ⟨x,H1,I1,r1,q1⟩=>?_
 obtain⟨i,rfl,q⟩:=q1;obtain⟨t,rfl⟩:=r1;exact⟨some i,H1,I1,.int i t,q⟩
def SlR(X:Cx)(r:V->Option Int->Option Int->Hp->VK->Prop):Prop:=
 ∀(pins:List (Addr×Obj)) (s:Shared) (σ:St) (H:Hp) (x:V) (v vl vu:Value) (lo hi:Option Int) (sl:Addr) (Q:VK),Inv X pins σ H s->RelV x v->s.heap.IsSliceOf sl vl vu .none->IsPart vl lo->IsPart vu hi->r x lo hi H Q->
  ∃T id,typeLookup (.type T) "__getitem__"=pure (some (.builtin id))/\s.TypeIs v T/\wpAny (model X.prog X.w) X.A (getItem v (.ref sl)) (EP X pins σ Q) X.xe s
def tSl(r:V->Option Int->Option Int->Hp->VK->Prop)(te:TE)(tl th:TO):TE:=fun σ H Q=>te σ H fun x H1=>tl σ H1 fun l H2=>th σ H2 fun u H3=>r x l u H3 Q
theorem cE{r:V->Option Int->Option Int->Hp->VK->Prop}(hr:SlR X r)(he:PE X e te)(hl:PO X lo tl)(hu:PO X hi th):PE X (.Subscript e (.Slice lo hi none p2) pos) (tSl r te tl th):=by
 intro pins s σ H Q I h;refine Subscript_ (thn (he pins s σ H _ I h) fun v s1 ⟨x,H1,I1,r1,q1⟩=>?_);refine wpAny_Slice (thn (hl pins s1 σ H1 _ I1 q1) fun vl s2 ⟨l,H2,I2,pl,q2⟩=>thn (hu pins s2 σ H2 _ I2 q2) fun vu s3 ⟨u,H3,I3,pu,q3⟩=>?_);rw[evalPart_none];refine wpAny_pure ?_;have I4:Inv X pins σ H3 {s3 with heap:=s3.heap.push {cls:=.type "slice",data:=.fields #[vl,vu,.none]}}:=I3.kept (t':=s3.toks) fun b ob q=>aaf _ q
 obtain⟨T,id,hT,ht,hg⟩:=hr pins {s3 with heap:=s3.heap.push {cls:=.type "slice",data:=.fields #[vl,vu,.none]}} σ H3 x v vl vu l u s3.heap.objs.size Q I4 r1 (Heap.IsSliceOf.new ..) pl pu q3;show wpAny (model X.prog X.w) X.A (subscriptTail e (.Slice lo hi none p2) v (.ref s3.heap.objs.size)) (EP X pins σ Q) X.xe {s3 with heap:=s3.heap.push {cls:=.type "slice",data:=.fields #[vl,vu,.none]}};exact tail_any (ops:=[.ref s3.heap.objs.size,v]) ht hT hg (by with_unfolding_all rfl)
def dw(xs:List V)(lo hi:Option Int):List V:=(xs.drop (HT.sIx xs.length 0 lo)).take (HT.sIx xs.length xs.length hi - HT.sIx xs.length 0 lo)
theorem jO(xs:List V)(lo hi:Option Int):(dw xs lo hi).length<=xs.length:=by
 unfold dw;rw[aal,List.length_drop];omega
def xH(K:PySem.W.Frag):V->Option Int->Option Int->Hp->VK->Prop:=fun x lo hi H Q=>∃a xs,x=.ref a/\SqT K H a xs/\
 ¬(HT.sIx xs.length 0 lo=0/\HT.sIx xs.length xs.length hi=xs.length)/\∀p,H p=none->Q (.ref p) (upd H p (.tup (dw xs lo hi)))
theorem kq:SlR X (xH X.K):=by
 intro pins s σ H x v vl vu lo hi sl Q I rx hs pl pu h;obtain⟨a,xs,rfl,hx,hw,q⟩:=h;cases rx
 obtain⟨its,r,ht,hz⟩:=I.tuple hx;have hlen:its.toArray.size=xs.length:=by rw[aaq];exact r.length.symm
 refine⟨"tuple",_,PyProof.Rows.slot_tuple_getitem.lookup,ht.typeIs,?_⟩;refine HT.jN ht hs pl pu (by rw[hlen];exact hw) ?_ (by rw[hlen];exact hz);rw[hlen];refine⟨.ref s.heap.objs.size,_,I.laid (t':=s.toks) (o:=.tup (dw xs lo hi)) (fun b ob q=>aaf _ q) (Nat.le_refl _) ?_,rfl,q _ (I.hok.fresh (Nat.le_refl _))⟩;exact⟨Nat.le_trans (jO xs lo hi) hz,_,(r.drop (HT.sIx xs.length 0 lo)).take (HT.sIx xs.length xs.length hi - HT.sIx xs.length 0 lo),IsTup.new _ _⟩
def yU(K:PySem.W.Frag):R2:=fun x y H Q=>∃a b xs ys,x=.ref a/\y=.ref b/\SqT K H a xs/\SqT K H b ys/\xs≠[]/\xs.length+ys.length<=sizeLine/\
 (ys=[]->Q (.ref a) H)/\(ys≠[]->∀p,H p=none->Q (.ref p) (upd H p (.tup (xs++ys))))
theorem Vals.lm{xs:List V}{us:List Value}(r:Vals xs us):us=[]↔xs=[]:=by
 cases r with
 |nil=>simp
 |cons _ _=>simp
theorem vY:OpR X (binaryOp .Add) (yU X.K):=by
 intro pins s σ H x y v u Q I rx ry h;obtain⟨a,b,xs,ys,rfl,rfl,ha,hb,hx,hz,q1,q2⟩:=h;cases rx
 cases ry
 obtain⟨its,r1,p1,_⟩:=I.tuple ha;obtain⟨its2,r2,p2,_⟩:=I.tuple hb;refine HT.vW p1 p2 (fun z=>hx (r1.lm.mp z)) (fun z=>⟨.ref a,H,I,rfl,q1 (r2.lm.mp z)⟩) (fun z=>?_) (by rw[←r1.length,←r2.length];exact hz);refine⟨.ref s.heap.objs.size,_,I.laid (t':=s.toks) (o:=.tup (xs++ys)) (fun b ob q=>aaf _ q) (Nat.le_refl _) ?_,rfl,q2 (fun w=>z (r2.lm.mpr w)) _ (I.hok.fresh (Nat.le_refl _))⟩;exact⟨by rw[aag];exact hz,_,r1.append r2,IsTup.new _ _⟩
end
end L2
namespace L2
open PySem PySem.Spec PyProof.Rows
def ixN(n:Nat)(i:Int):Option Nat:=if 0<=i then (if i<n then some i.toNat else none) else if -(n:Int)<=i then some (i+n).toNat else none
def atI{α:Type}(xs:List α)(i:Int):Option α:=(ixN xs.length i).bind fun j=>xs[j]?
theorem vZ{n:Nat}{i:Int}{j:Nat}(h:ixN n i=some j):seqIndex? i n=some j/\j<n/\-(n:Int)<=i/\i<n:=by
 unfold ixN at h
 by_cases h0:0<=i
 ·rw[if_pos h0] at h
  by_cases h1:i<n
  ·rw[if_pos h1] at h;have e:i.toNat=j:=Option.some.inj h;exact⟨by rw[seqIndex_of h0 h1,e],by omega,by omega,h1⟩
  ·rw[if_neg h1] at h;cases h
 ·rw[if_neg h0] at h
  by_cases h1:-(n:Int)<=i
  ·rw[if_pos h1] at h;have e:(i+n).toNat=j:=Option.some.inj h;exact⟨by rw[seqIndex_neg (by omega) h1,e],by omega,h1,by omega⟩
  ·rw[if_neg h1] at h;cases h
theorem ln{α:Type}{xs:List α}{i:Int}{v:α}(h:atI xs i=some v):∃j,seqIndex? i xs.length=some j/\xs[j]? =some v/\j<xs.length/\-(xs.length:Int)<=i/\i<xs.length:=by
 unfold atI at h;cases e:ixN xs.length i with
 |none=>rw[e] at h;cases h
 |some j=>
  rw[e] at h;obtain⟨h1,h2,h3,h4⟩:=vZ e;exact⟨j,h1,h,h2,h3,h4⟩
theorem aA{α:Type}{xs:List α}{j:Nat}{v:α}(h:xs[j]? =some v):atI xs (j:Int)=some v:=by
 have hj:j<xs.length:=(aab.mp h).1;have e:ixN xs.length (j:Int)=some j:=by
  unfold ixN;rw[if_pos (by omega),if_pos (by omega)];simp
 unfold atI;rw[e];exact h
def pA(b:Expr):Prop:=∀o i,subscripted b false o i=operate [o,i] (getItem o i)
def IxR(X:Cx)(r:R2):Prop:=
 ∀(value slice:Expr) (pins:List (Addr×Obj)) (s:Shared) (σ:St) (H:Hp) (x y:V) (v u:Value) (Q:VK),Inv X pins σ H s->RelV x v->RelV y u->r x y H Q->
  subscripted slice false v u=operate [v,u] (getItem v u)->wpAny (model X.prog X.w) X.A (subscriptTail value slice v u) (EP X pins σ Q) X.xe s
def MtR(X:Cx)(id:String)(r:V->List V->Hp->VK->Prop):Prop:=
 ∀(pins:List (Addr×Obj)) (s:Shared) (σ:St) (H:Hp) (x:V) (xs:List V) (v:Value) (us:List Value) (Q:VK),Inv X pins σ H s->RelV x v->Vals xs us->r x xs H Q->
  wpAny (model X.prog X.w) X.A (call (.builtin id) (v::us)) (EP X pins σ Q) X.xe s
section
variable {X:Cx}{a b:Expr}{ta tb:TE}{pos:Pos}
theorem IxR.or{r r':R2}(h:IxR X r)(h':IxR X r'):IxR X (fun x y H Q=>r x y H Q\/r' x y H Q):=by
 intro value slice pins s σ H x y v u Q I rx ry q hs;rcases q with q|q
 ·exact h value slice pins s σ H x y v u Q I rx ry q hs
 ·exact h' value slice pins s σ H x y v u Q I rx ry q hs
theorem aE{r:R2}(hr:IxR X r)(ha:PE X a ta)(hb:PE X b tb)(hs:pA b):PE X (.Subscript a b pos) (tOp r ta tb):=by
 intro pins s σ H Q I h;exact Subscript_ (tF ha hb I h fun v u s2 x y H2 I2 rx ry q=>hr a b pins s2 σ H2 x y v u Q I2 rx ry q (hs _ _))
def e9(K:PySem.W.Frag):R2:=fun x y H Q=>∃p xs i v,x=.ref p/\y=.int i/\SqL K H p xs/\atI xs i=some v/\Q v H
def gX(K:PySem.W.Frag):R2:=fun x y H Q=>∃p xs i v,x=.ref p/\y=.int i/\SqT K H p xs/\atI xs i=some v/\Q v H
def qc:R2:=fun x y H Q=>∃z i c,x=.str z/\y=.int i/\z.length<=sizeLine/\atI z.cps.toList i=some c/\Q (.str ⟨#[c]⟩) H
theorem bb:IxR X (e9 X.K):=by
 intro value slice pins s σ H x y v u Q I rx ry h hs;obtain⟨p,xs,i,z,rfl,rfl,hq,he,q⟩:=h;cases rx
 obtain⟨t,rfl⟩:=ry;obtain⟨its,r,pl,hz⟩:=I.list hq;obtain⟨j,h1,h2,h3,h4,h5⟩:=ln he;obtain⟨w,ew,rw'⟩:=r.get h2;have hl:=r.length;have hn:=i0;have fin:EP X pins σ Q w s:=⟨z,H,I,rw',q⟩
 by_cases h0:0<=i
 ·have hj:i.toNat=j:=by
   rw[seqIndex_of h0 h5] at h1;exact Option.some.inj h1
  exact item_listR pl.isList h0 (by omega) (by rw[hj];simpa using ew) fin hs
 ·have hj:(i+(its.toArray.size:Int)).toNat=j:=by
   rw[seqIndex_neg (by omega) h4] at h1;rw[aaq,←hl];exact Option.some.inj h1
  exact subscriptTail_builtinR (x:=w) pl.isList.typeIs slot_list_getitem.lookup
   (wpAny_getItem_list_neg (Q:=fun r s'=>r=w/\EP X pins σ Q r s') pl.isList (by omega) (by rw[aaq] <;> omega) (by omega) (by rw[hj];simpa using ew) ⟨rfl,fin⟩) hs
theorem aU:IxR X (gX X.K):=by
 intro value slice pins s σ H x y v u Q I rx ry h hs;obtain⟨p,xs,i,z,rfl,rfl,hq,he,q⟩:=h;cases rx
 obtain⟨t,rfl⟩:=ry;obtain⟨its,r,pl,hz⟩:=I.tuple hq;obtain⟨j,h1,h2,h3,h4,h5⟩:=ln he;obtain⟨w,ew,rw'⟩:=r.get h2;have hl:=r.length;have hn:=i0;have fin:EP X pins σ Q w s:=⟨z,H,I,rw',q⟩;exact subscriptTail_builtinR (x:=w) pl.typeIs slot_tuple_getitem.lookup
  (getItem_tuple (j:=j) (Q:=fun r s'=>r=w/\EP X pins σ Q r s') pl (by omega) (by omega) (by rw[aaq,←hl];exact h1) (by simpa using ew) ⟨rfl,fin⟩) hs
theorem mY:IxR X qc:=by
 intro value slice pins s σ H x y v u Q I rx ry h hs;obtain⟨z,i,c,rfl,rfl,hz,he,q⟩:=h;obtain⟨t,rfl⟩:=rx;obtain⟨t',rfl⟩:=ry;obtain⟨j,h1,h2,h3,h4,h5⟩:=ln he;have hl:z.cps.toList.length=z.length:=by simp[Str.length]
 rw[hl] at h1 h4 h5;have hn:=i0;exact tail_any (typeIs_str s z t) slot_str_getitem.lookup (getItem_str (c:=c) (by
  have e1:decide (i < -(2 ^ 63:Int))=false:=aai (by omega);have e2:decide (i ≥ 2 ^ 63)=false:=aai (by omega);rw[e1,e2,Bool.or_false]) (by rw[h1];simpa using h2) ⟨.str ⟨#[c]⟩,H,I.tok _,⟨_,rfl⟩,q⟩) hs
def rIx(K:PySem.W.Frag):R2:=fun x y H Q=>e9 K x y H Q\/gX K x y H Q\/qc x y H Q
theorem rG:IxR X (rIx X.K):=bb.or (aU.or mY)
theorem mZ(lo hi:Option Int)(n:Nat):(sliceBounds lo hi none n).1=((HT.sIx n 0 lo:Nat):Int)/\(sliceBounds lo hi none n).2.1=((HT.sIx n n hi:Nat):Int)/\(sliceBounds lo hi none n).2.2=1:=by
 refine⟨?_,?_,rfl⟩
 ·cases lo with
  |none=>simp[sliceBounds,HT.sIx]
  |some i=>
   simp only[sliceBounds,HT.sIx,Option.getD_none,show(1:Int) > 0 by decide,if_true]
   by_cases h:i<0
   ·simp only[h,if_true] <;> omega
   ·simp only[h,if_false] <;> omega
 ·cases hi with
  |none=>simp[sliceBounds,HT.sIx]
  |some i=>
   simp only[sliceBounds,HT.sIx,Option.getD_none,show(1:Int) > 0 by decide,if_true]
   by_cases h:i<0
   ·simp only[h,if_true] <;> omega
   ·simp only[h,if_false] <;> omega
theorem mq(its:List Value)(lo hi:Option Int):slicePick its.toArray lo hi none=((its.drop (HT.sIx its.length 0 lo)).take (HT.sIx its.length its.length hi - HT.sIx its.length 0 lo)).toArray:=by
 obtain⟨h1,h2,h3⟩:=mZ lo hi its.toArray.size;unfold slicePick;rw[h1,h2,h3];simp only[sliceRange_one,pick_run,aaq] <;> rfl
def zG(K:PySem.W.Frag):V->Option Int->Option Int->Hp->VK->Prop:=fun x lo hi H Q=>∃a xs,x=.ref a/\SqL K H a xs/\∀p,H p=none->Q (.ref p) (upd H p (.lst (dw xs lo hi)))
theorem d9:SlR X (zG X.K):=by
 intro pins s σ H x v vl vu lo hi sl Q I rx hs pl pu h;obtain⟨a,xs,rfl,hx,q⟩:=h;cases rx
 obtain⟨its,r,ht,hz⟩:=I.list hx;have hlen:=r.length;refine⟨"list",_,slot_list_getitem.lookup,ht.isList.typeIs,?_⟩;refine wpAny_getItem_list_slice ht.isList hs pl pu .none (by simp) ?_ (by rw[aaq] <;> omega);rw[mq,←hlen];refine⟨.ref s.heap.objs.size,_,I.laid (t':=s.toks) (o:=.lst (dw xs lo hi)) (fun b ob q=>aaf _ q) (Nat.le_refl _) ?_,rfl,q _ (I.hok.fresh (Nat.le_refl _))⟩;exact⟨Nat.le_trans (jO xs lo hi) hz,_,0,(r.drop (HT.sIx xs.length 0 lo)).take (HT.sIx xs.length xs.length hi - HT.sIx xs.length 0 lo),aay _ rfl⟩
def gb:V->Bool
 |.non=>true
 |.bl _=>true
 |.int _=>true
 |.str _=>true
 |_=>false
def eqV:V->V->Bool
 |.non,.non=>true
 |.bl a,.bl b=>a == b
 |.bl a,.int b=>(if a then 1 else 0) == b
 |.int a,.bl b=>a == (if b then 1 else 0)
 |.int a,.int b=>a == b
 |.str a,.str b=>a == b
 |_,_=>false
theorem m7{A:Around}{s:Shared}{y x:V}{u v:Value}(ry:RelV y u)(rx:RelV x v)(fy:gb y=true)(fx:gb x=true):SeqAt.EqAt A s u v (eqV y x):=by
 cases y with
 |non=>
  cases ry
  cases x with
  |non=>cases rx;exact SeqAt.EqAt.same _
  |bl b=>cases rx;exact SeqAt.EqAt.none_bool b
  |int b=>obtain⟨t,rfl⟩:=rx;exact SeqAt.EqAt.none_int b t
  |str b=>obtain⟨t,rfl⟩:=rx;exact SeqAt.EqAt.none_str b t
  |_=>exact absurd (show false=true from fx) Bool.false_ne_true
 |bl a=>
  cases ry
  cases x with
  |non=>cases rx;exact SeqAt.EqAt.bool_none a
  |bl b=>cases rx;exact SeqAt.EqAt.bool_bool a b
  |int b=>obtain⟨t,rfl⟩:=rx;exact SeqAt.EqAt.bool_int a b t
  |str b=>obtain⟨t,rfl⟩:=rx;exact SeqAt.EqAt.bool_str a b t
  |_=>exact absurd (show false=true from fx) Bool.false_ne_true
 |int a=>
  obtain⟨t',rfl⟩:=ry;cases x with
  |non=>cases rx;exact SeqAt.EqAt.int_none a t'
  |bl b=>cases rx;exact SeqAt.EqAt.int_bool a t' b
  |int b=>obtain⟨t,rfl⟩:=rx;exact SeqAt.EqAt.int_int a t' b t
  |str b=>obtain⟨t,rfl⟩:=rx;exact SeqAt.EqAt.int_str a t' b t
  |_=>exact absurd (show false=true from fx) Bool.false_ne_true
 |str a=>
  obtain⟨t',rfl⟩:=ry;cases x with
  |non=>cases rx;exact SeqAt.EqAt.str_none a t'
  |bl b=>cases rx;exact SeqAt.EqAt.str_bool a t' b
  |int b=>obtain⟨t,rfl⟩:=rx;exact SeqAt.EqAt.str_int a t' b t
  |str b=>obtain⟨t,rfl⟩:=rx;exact SeqAt.EqAt.str_str a t' b t
  |_=>exact absurd (show false=true from fx) Bool.false_ne_true
 |_=>exact absurd (show false=true from fy) Bool.false_ne_true
def eqU(x:V)(u:Value):Bool:=match u with
 |.none=>eqV .non x
 |.bool b=>eqV (.bl b) x
 |.int i _=>eqV (.int i) x
 |.str z _=>eqV (.str z) x
 |_=>false
theorem rH{x y:V}{u:Value}(r:RelV y u)(f:gb y=true):eqU x u=eqV y x:=by
 cases y with
 |non=>cases r;rfl
 |bl b=>cases r;rfl
 |int i=>obtain⟨t,rfl⟩:=r;rfl
 |str z=>obtain⟨t,rfl⟩:=r;rfl
 |_=>exact absurd (show false=true from f) Bool.false_ne_true
theorem g9{x:V}:∀{xs:List V} {us:List Value},Vals xs us->xs.all gb=true->us.any (eqU x)=xs.any fun y=>eqV y x
 |_,_,.nil,_=>rfl
 |y::xs,u::us,.cons r t,f=>by
  rw[List.all_cons,Bool.and_eq_true] at f;rw[List.any_cons,List.any_cons,rH r f.1,g9 t f.2]
theorem gx{A:Around}{s:Shared}{x:V}{v:Value}(rx:RelV x v)(fx:gb x=true):∀{xs:List V} {us:List Value},Vals xs us->xs.all gb=true->∀u∈us,SeqAt.EqAt A s u v (eqU x u)
 |_,_,.nil,_=>fun u hu=>by cases hu
 |y::xs,u::us,.cons r t,f=>fun u' hu=>by
  rw[List.all_cons,Bool.and_eq_true] at f;rcases List.mem_cons.mp hu with rfl|hu
  ·rw[rH r f.1];exact m7 r rx f.1 fx
  ·exact gx rx fx t f.2 u' hu
def inV(x:V)(xs:List V):Bool:=xs.any fun y=>eqV y x
def rIn(K:PySem.W.Frag)(neg:Bool):R2:=fun x y H Q=>∃p xs,y=.ref p/\(SqL K H p xs\/SqT K H p xs)/\gb x=true/\xs.all gb=true/\Q (.bl (if neg then !inV x xs else inV x xs)) H
theorem fO:OpR X (compareOp .In) (rIn X.K false):=by
 intro pins s σ H x y v u Q I rx ry h;obtain⟨p,xs,rfl,hq,fx,fs,q⟩:=h;cases ry
 rcases hq with hq|hq
 ·obtain⟨its,r,pl,hz⟩:=I.list hq;refine SeqAt.in_listAt (eqU x) pl.isList (fun w hw=>gx rx fx r fs w (by simpa using hw)) ⟨.bl _,H,I,rfl,?_⟩;rw[show its.toArray.any (eqU x)=its.any (eqU x) by simp,g9 r fs];exact q
 ·obtain⟨its,r,pl,hz⟩:=I.tuple hq;refine SeqAt.in_tupleAt (eqU x) pl (fun w hw=>gx rx fx r fs w (by simpa using hw)) ⟨.bl _,H,I,rfl,?_⟩;rw[show its.toArray.any (eqU x)=its.any (eqU x) by simp,g9 r fs];exact q
theorem bS:OpR X (compareOp .NotIn) (rIn X.K true):=by
 intro pins s σ H x y v u Q I rx ry h;obtain⟨p,xs,rfl,hq,fx,fs,q⟩:=h;cases ry
 rcases hq with hq|hq
 ·obtain⟨its,r,pl,hz⟩:=I.list hq;refine SeqAt.notIn_listAt (eqU x) pl.isList (fun w hw=>gx rx fx r fs w (by simpa using hw)) ⟨.bl _,H,I,rfl,?_⟩;rw[show its.toArray.any (eqU x)=its.any (eqU x) by simp,g9 r fs];exact q
 ·obtain⟨its,r,pl,hz⟩:=I.tuple hq;refine SeqAt.notIn_tupleAt (eqU x) pl (fun w hw=>gx rx fx r fs w (by simpa using hw)) ⟨.bl _,H,I,rfl,?_⟩;rw[show its.toArray.any (eqU x)=its.any (eqU x) by simp,g9 r fs];exact q
theorem bq:dt X (.builtin "len") (fun xs H Q=>∃p ys,xs=[.ref p]/\(SqL X.K H p ys\/SqT X.K H p ys)/\Q (.int ys.length) H):=by
 intro pins s σ H xs us Q I r h;obtain⟨p,ys,rfl,hq,q⟩:=h;obtain⟨u,rfl,rx⟩:=vals1 r;cases rx
 have hn:=i0;rcases hq with hq|hq
 ·obtain⟨its,r',pl,hz⟩:=I.list hq;have hlen:=r'.length;exact Calls.call_len_list pl.isList (by simp only[aaq] <;> omega) ⟨.int ys.length,H,I.tok _,⟨s.toks+1,by rw[aaq,hlen]⟩,q⟩
 ·obtain⟨its,r',pl,hz⟩:=I.tuple hq;have hlen:=r'.length;exact len_tuple pl (by simp only[aaq] <;> omega) ⟨.int ys.length,H,I.tok _,⟨s.toks+1,by rw[aaq,hlen]⟩,q⟩
theorem m8:dt X (.type "list") (fun xs H Q=>∃p ys,xs=[.ref p]/\(SqL X.K H p ys\/SqT X.K H p ys)/\∀l,H l=none->Q (.ref l) (upd H l (.lst ys))):=by
 intro pins s σ H xs us Q I r h;obtain⟨p,ys,rfl,hq,q⟩:=h;obtain⟨u,rfl,rx⟩:=vals1 r;cases rx
 have fin:∀(its:List Value),Vals ys its->ys.length<=sizeLine->∀(h':Heap) (c':Nat),(∀b o',s.heap.get? b=some o'->h'.get? b=some o')->
   h'.get? s.heap.objs.size=some {cls:=.type "list",dict:=none,data:=.seq its.toArray c',slots:=#[]}->EP X pins σ Q (.ref s.heap.objs.size) {s with heap:=h'}:=fun its r' hz h' c' kp e=>
  ⟨.ref s.heap.objs.size,_,I.laid (t':=s.toks) kp (Nat.le_refl _) (show ba X.prog X.w _ h' _ (.lst ys) from ⟨hz,its,c',r',e⟩),rfl,q _ (I.hok.fresh (Nat.le_refl _))⟩
 rcases hq with hq|hq
 ·obtain⟨its,r',pl,hz⟩:=I.list hq;have hlen:=r'.length;obtain⟨o,ho,hc,n,hd⟩:=pl.isList;exact call_list_seq p (.inl rfl) ho hc hd (fun h' c' kp e=>fin its r' hz h' c' kp e) (by simp only[aaq] <;> omega)
 ·obtain⟨its,r',pl,hz⟩:=I.tuple hq;have hlen:=r'.length;obtain⟨o,ho,hc,n,hd⟩:=pl;exact call_list_seq p (.inr rfl) ho hc hd (fun h' c' kp e=>fin its r' hz h' c' kp e) (by simp only[aaq] <;> omega)
theorem mr:dt X (.type "tuple") (fun xs H Q=>∃p ys,xs=[.ref p]/\((SqL X.K H p ys/\∀l,H l=none->Q (.ref l) (upd H l (.tup ys)))\/(SqT X.K H p ys/\Q (.ref p) H))):=by
 intro pins s σ H xs us Q I r h;obtain⟨p,ys,rfl,h⟩:=h;obtain⟨u,rfl,rx⟩:=vals1 r;cases rx
 rcases h with ⟨hq,q⟩|⟨hq,q⟩
 ·obtain⟨its,r',pl,hz⟩:=I.list hq;have hlen:=r'.length;refine call_tuple_list pl.isList (fun h' kp=>?_) (by simp only[aaq] <;> omega);have I1:Inv X pins σ H {s with heap:=h'}:=I.kept (t':=s.toks) kp;have I2:Inv X pins σ (upd H h'.objs.size (.tup ys)) {s with heap:=h'.push {cls:=.type "tuple",data:=.seq its.toArray}}:=
   I1.laid (t':=s.toks) (fun b o e=>aaf _ e) (Nat.le_refl _) (show ba X.prog X.w _ _ _ (.tup ys) from ⟨hz,its,r',IsTup.new _ _⟩)
  exact⟨.ref h'.objs.size,_,I2,rfl,q _ (I1.hok.fresh (Nat.le_refl _))⟩
 ·obtain⟨its,r',pl,hz⟩:=I.tuple hq;exact call_tuple_same pl ⟨.ref p,H,I,rfl,q⟩
def tyV(K:PySem.W.Frag)(T:String)(x:V)(H:Hp):Prop:=match x with
 |.str _=>T="str"
 |.int _=>T="int"
 |.ref p=>(T="list"/\∃xs,SqL K H p xs)\/(T="tuple"/\∃o,K.lookup p=some o/\o.cls=.type "tuple"/\o.dict=none)\/
   (T="dict"/\((∃kvs,H p=some (.dK kvs))\/∃kvs,H p=some (.dT kvs)))\/(T="set"/\∃S n,H p=some (.set S n))
 |_=>False
theorem rJ{pins:List (Addr×Obj)}{σ:St}{H:Hp}{s:Shared}{T:String}{x:V}{v:Value}(I:Inv X pins σ H s)(r:RelV x v)(ty:tyV X.K T x H) :
  s.TypeIs v T/\∀a,v=.ref a->∃ob,s.heap.get? a=some ob/\ob.dict=none:=by
 cases x with
 |str z=>
  obtain⟨t,rfl⟩:=r;cases (show T="str" from ty)
  exact⟨typeIs_str s z t,fun _ e=>nomatch e⟩
 |int i=>
  obtain⟨t,rfl⟩:=r;cases (show T="int" from ty)
  exact⟨typeIs_int s i t,fun _ e=>nomatch e⟩
 |ref p=>
  cases r
  rcases ty with ⟨rfl,xs,hq⟩|⟨rfl,o,hk,hc,hd⟩|⟨rfl,hk⟩|⟨rfl,S,n,hk⟩
  ·obtain⟨its,_,pl,_⟩:=I.list hq;refine⟨pl.isList.typeIs,fun a e=>?_⟩;cases e
   obtain⟨o,n,e,c,hd,_⟩:=pl;exact⟨o,e,hd⟩
  ·refine⟨⟨o,I.kIn p o hk,hc⟩,fun a e=>?_⟩;cases e
   exact⟨o,I.kIn _ o hk,hd⟩
  ·have z:∃o,s.heap.get? p=some o/\o.ExactDict:=by
    rcases hk with ⟨kvs,hk⟩|⟨kvs,hk⟩
    ·obtain⟨_,_,_,_,o,_,_,e,ex,_⟩:=I.hok p _ hk;exact⟨o,e,ex⟩
    ·obtain⟨_,_,_,_,o,_,_,e,ex,_⟩:=I.hok p _ hk;exact⟨o,e,ex⟩
   obtain⟨o,e,ex⟩:=z;refine⟨⟨o,e,ex.1⟩,fun a e2=>?_⟩;cases e2
   exact⟨o,e,ex.2.1⟩
  ·obtain⟨o,_,_,_,e,ex,_⟩:=I.hok p _ hk;refine⟨⟨o,e,ex.1⟩,fun a e2=>?_⟩;cases e2
   exact⟨o,e,ex.2.1⟩
 |_=>exact False.elim ty
def zH(K:PySem.W.Frag)(T:String)(r:V->List V->Hp->VK->Prop)(to:TE):TE:=fun σ H Q=>to σ H fun x H1=>tyV K T x H1/\r x [] H1 Q
def tBM(K:PySem.W.Frag)(T:String)(r:V->List V->Hp->VK->Prop)(to:TE)(t:TA):TE:=fun σ H Q=>to σ H fun x H1=>tyV K T x H1/\t σ H1 fun xs H2=>r x xs H2 Q
variable {o e:Expr}{es:List Expr}{to:TE}{t:TA}{name:Str}{apos cpos:Pos}{T id:String}{r:V->List V->Hp->VK->Prop}
theorem rK(pa:PlainAttrs T)(slot:Slot T name id)(hty:typeOf (.builtin id)=pure (.type "method_descriptor"))(hm:MtR X id r)(ho:PE X o to)
  (hbase:attributeBase o name X.env (eval o X.env)=eval o X.env:=by rfl)(hline:(apos.endLine == cpos.line)=true:=by rfl):PE X (.Call (.Attribute o name apos) [] [] cpos) (zH X.K T r to):=by
 intro pins s σ H Q I h;refine wpAny_Call_method0_late hbase hline (thn (ho pins s σ H _ I h) fun v s1 ⟨x,H1,I1,r1,ty,q1⟩=>?_);obtain⟨h1,h2⟩:=rJ I1 r1 ty;exact⟨T,id,pa,slot,hty,h1,h2,Calls.callWith_builtin rfl (PySem.evalArgs_none (hm pins s1 σ H1 x [] v [] Q I1 r1 .nil q1))⟩
theorem bY(pa:PlainAttrs T)(slot:Slot T name id)(hty:typeOf (.builtin id)=pure (.type "method_descriptor"))(hm:MtR X id r)(ho:PE X o to)(ha:PA X (e::es) t)
  (hbase:attributeBase o name X.env (eval o X.env)=eval o X.env:=by rfl)
  (hfew:((backTo cpos (starEach (e::es) X.env)).all (fun x=>!x.1) && (backToKw cpos (keywordEach [] X.env)).all (fun x=>x.1.isSome)
   && decide ((e::es).length+([]:List Keyword).length+(if ([]:List Keyword).isEmpty then 0 else 1)<30))=true:=by rfl)
  (hline:(apos.endLine == cpos.line)=true:=by rfl)(hs:starEach (e::es) X.env=(false,eval e X.env)::starEach es X.env:=by rfl)(hplain:(backTo cpos (starEach es X.env)).any (·.1)=false:=by rfl) :
  PE X (.Call (.Attribute o name apos) (e::es) [] cpos) (tBM X.K T r to t):=by
 intro pins s σ H Q I h;refine wpAny_Call_method_late hbase hfew hline rfl (thn (ho pins s σ H _ I h) fun v s1 ⟨x,H1,I1,r1,ty,q1⟩=>?_);obtain⟨h1,h2⟩:=rJ I1 r1 ty;refine⟨T,id,pa,slot,hty,h1,h2,?_⟩;have hA:=ha cpos pins s1 σ H1 _ I1 q1;rw[hs] at hA ⊢;refine Calls.callWith_builtin (by show(false || (backTo cpos (starEach es X.env)).any (·.1))=false;rw[hplain] <;> rfl) (Calls.evalArgs_plain ?_);exact thn hA fun us s2 ⟨vs,H2,I2,r2,q2⟩=>hm pins s2 σ H2 x vs v us Q I2 r1 r2 q2
end
end L2
namespace L2
open PySem PySem.Spec PyProof.Rows
def MtM(X:Cx)(id:String)(r:V->List V->Hp->VK->Prop):Prop:=
 ∀(pins:List (Addr×Obj)) (s:Shared) (σ:St) (H:Hp) (x:V) (xs:List V) (v:Value) (us:List Value) (Q:VK),Inv X pins σ H s->RelV x v->Vals xs us->r x xs H Q->
  wpAny (model X.prog X.w) X.A (call (.builtin id) (v::us)) (EP X pins σ Q) X.xe s
theorem Vals.one:∀{x:V} {us:List Value},Vals [x] us->∃u,us=[u]/\RelV x u
 |_,_,.cons r .nil=>⟨_,rfl,r⟩
theorem Vals.two:∀{x y:V} {us:List Value},Vals [x,y] us->∃u v,us=[u,v]/\RelV x u/\RelV y v
 |_,_,_,.cons r (.cons q .nil)=>⟨_,_,rfl,r,q⟩
theorem Vals.zero:∀{us:List Value},Vals [] us->us=[]
 |_,.nil=>rfl
theorem Vals.dropLast{xs:List V}{us:List Value}(h:Vals xs us):Vals xs.dropLast us.dropLast:=by
 induction h with
 |nil=>exact .nil
 |cons r t ih=>
  cases t with
  |nil=>exact .nil
  |cons q t'=>exact .cons r ih
theorem Vals.rep{xs:List V}{us:List Value}(h:Vals xs us):∀k:Nat,Vals (List.replicate k xs).flatten (List.replicate k us).flatten
 |0=>.nil
 |k+1=>by
  rw[List.replicate_succ,List.replicate_succ,List.flatten_cons,List.flatten_cons];exact Vals.append h (Vals.rep h k)
theorem qd{α:Type}(l:List α):l.eraseIdx (l.length - 1)=l.dropLast:=by
 induction l with
 |nil=>rfl
 |cons a r ih=>
  cases r with
  |nil=>rfl
  |cons b r=>
   have e:(a::b::r).length - 1=((b::r).length - 1)+1:=by
    have h1:(a::b::r).length=r.length+2:=rfl;have h2:(b::r).length=r.length+1:=rfl;omega
   rw[e,List.eraseIdx_cons_succ,ih]
   all_goals rfl
theorem foldl_rep(its:List Value):∀(k:Nat) (acc:List Value),
  List.foldl (fun x1 x2=>x1++x2) acc.toArray (List.replicate k its.toArray)=(acc++(List.replicate k its).flatten).toArray
 |0,acc=>by simp
 |k+1,acc=>by
  have e:acc.toArray++its.toArray=(acc++its).toArray:=by simp
  have e2:(acc++its)++(List.replicate k its).flatten=acc++(List.replicate (k+1) its).flatten:=by
   rw[List.replicate_succ,List.flatten_cons,List.append_assoc]
  rw[←e2,←foldl_rep its k (acc++its),←e,List.replicate_succ,List.foldl_cons]
section
variable {X:Cx}{pins:List (Addr×Obj)}{σ:St}{H:Hp}{s:Shared}{l b:Addr}{xs ys zs:List V}
theorem Inv.tN{its its':List Value}{n:Nat}{f:Array Value->Array Value}{t':Nat}(I:Inv X pins σ H s)(hH:H l=some (.lst xs))
  (e:s.heap.get? l=some {cls:=.type "list",data:=.seq its.toArray n})(hf:f its.toArray=its'.toArray)(hv:Vals ys its')(hz:ys.length<=sizeLine) :
  Inv X pins σ (upd H l (.lst ys)) {s with heap:=s.heap.update l (Obj.mapSeq f),toks:=t'}:=by
 have q:=PySem.IsL.update e f;rw[hf] at q;refine I.write (x:=l) (e:=l) (by rw[hH];exact trivial) (.inl rfl) (fun b' u hb hu=>(Heap.get?_update_other s.heap (Obj.mapSeq f) (Ne.symm hb)).trans hu) ⟨_,q⟩ ?_;exact⟨hz,its',_,hv,q⟩
theorem Inv.tO{its:List Value}{t':Nat}(I:Inv X pins σ H s)(hv:Vals ys its)(hz:ys.length<=sizeLine) :
  Inv X pins σ (upd H s.heap.objs.size (.lst ys)) {s with heap:=s.heap.push {cls:=.type "list",data:=.seq its.toArray},toks:=t'}:=
 I.laid (fun _ _ q=>aaf _ q) (Nat.le_refl _) ⟨hz,its,0,hv,aay _ rfl⟩
theorem Inv.fresh(I:Inv X pins σ H s):H s.heap.objs.size=none:=I.hok.fresh (Nat.le_refl _)
theorem Inv.j4(I:Inv X pins σ H s)(hH:H l=some (.lst xs)):xs.length<=sizeLine/\∃(its:List Value) (n:Nat),Vals xs its/\xs.length=its.length/\s.heap.get? l=some {cls:=.type "list",data:=.seq its.toArray n}:=by
 obtain⟨z,its,n,r,e⟩:=I.hok l _ hH;exact⟨z,its,n,r,r.length,e⟩
theorem m9{n:Nat}(h:n<=sizeLine):Builtin.List.listTooLong n=false:=by
 unfold Builtin.List.listTooLong;exact aai (by omega)
end
section
variable {X:Cx}
def v4:V->List V->Hp->VK->Prop:=fun x vs H Q=>∃l xs y,x=.ref l/\vs=[y]/\H l=some (.lst xs)/\xs.length<sizeLine/\Q .non (upd H l (.lst (xs++[y])))
theorem a8:MtM X "list.append" v4:=by
 intro pins s σ H x vs v us Q I rx rv h;obtain⟨l,xs,y,rfl,rfl,hH,hz,q⟩:=h;cases rx
 obtain⟨u,rfl,ru⟩:=rv.one;obtain⟨z,its,n,r,hl,e⟩:=I.j4 hH;refine call_meets F.slot_list_append ⟨_,e,rfl⟩ F.entry_list_append (F.args_list_append_2 _ _) (PySem.list_append l its.toArray n u (by rw[aaq];omega)) ⟨e,?_⟩;refine⟨.non,_,I.tN (its':=its++[u]) hH e (by simp) (r.append (.cons ru .nil)) ?_,rfl,q⟩;rw[aag,aav];omega
def v5:V->List V->Hp->VK->Prop:=fun x vs H Q=>∃l b xs zs,x=.ref l/\vs=[.ref b]/\H l=some (.lst xs)/\H b=some (.lst zs)/\xs.length+zs.length<=sizeLine/\Q .non (upd H l (.lst (xs++zs)))
theorem dW:MtM X "list.extend" v5:=by
 intro pins s σ H x vs v us Q I rx rv h;obtain⟨l,b,xs,zs,rfl,rfl,hH,hB,hz,q⟩:=h;cases rx
 obtain⟨u,rfl,ru⟩:=rv.one;cases ru
 obtain⟨z,its,n,r,hl,e⟩:=I.j4 hH;obtain⟨z2,its2,n2,r2,hl2,e2⟩:=I.j4 hB;have hsz:its.toArray.size+its2.toArray.size<=sizeLine:=by rw[aaq,aaq];omega
 have hlong:¬(!its.toArray.isEmpty && Builtin.List.listTooLong (its.toArray.size+its2.toArray.size))=true:=by
  rw[m9 hsz,Bool.and_false];exact Bool.false_ne_true
 refine call_meets F.slot_list_extend ⟨_,e,rfl⟩ F.entry_list_extend (F.args_list_extend_2 _ _)
  (AutoSeq1.list_extend_list_list_0 l its.toArray n b its2.toArray n2 hlong (by rw[aaq];omega) (by omega)) ⟨e,e2,?_⟩
 refine⟨.non,_,I.tN (its':=its++its2) hH e (by simp) (r.append r2) ?_,rfl,q⟩;rw[aag];omega
def zI:V->List V->Hp->VK->Prop:=fun x vs H Q=>∃l xs y,x=.ref l/\vs=[]/\H l=some (.lst xs)/\xs[xs.length - 1]? =some y/\Q y (upd H l (.lst xs.dropLast))
theorem rL:MtM X "list.pop" zI:=by
 intro pins s σ H x vs v us Q I rx rv h;obtain⟨l,xs,y,rfl,rfl,hH,hy,q⟩:=h;cases rx
 have hus:=rv.zero;subst hus;obtain⟨z,its,n,r,hl,e⟩:=I.j4 hH;obtain⟨u,hu,ru⟩:=r.get hy;have hy':its.toArray[its.toArray.size - 1]? =some u:=by
  show its.toArray[its.length - 1]? =some u;rw[←Array.getElem?_toList,←hl];exact hu
 refine call_meets F.slot_list_pop ⟨_,e,rfl⟩ F.entry_list_pop (F.args_list_pop_1 _) (MeetsSeq.list_pop_last l its.toArray n u hy' (by rw[aaq];omega)) ⟨e,?_⟩;refine⟨y,_,I.tN (its':=its.dropLast) hH e ?_ r.dropLast ?_,ru,q⟩
 ·show its.toArray.eraseIdxIfInBounds (its.toArray.size - 1)=its.dropLast.toArray;rw[aaq,List.eraseIdxIfInBounds_toArray,qd]
 ·rw[List.length_dropLast];omega
def nc:R2:=fun x y H Q=>∃l b xs zs,x=.ref l/\y=.ref b/\H l=some (.lst xs)/\H b=some (.lst zs)/\xs.length+zs.length<=sizeLine/\∀p,H p=none->Q (.ref p) (upd H p (.lst (xs++zs)))
theorem cD:OpR X (binaryOp .Add) nc:=by
 intro pins s σ H x y v u Q I rx ry h;obtain⟨l,b,xs,zs,rfl,rfl,hH,hB,hz,q⟩:=h;cases rx
 cases ry
 obtain⟨z,its,n,r,hl,e⟩:=I.j4 hH;obtain⟨z2,its2,n2,r2,hl2,e2⟩:=I.j4 hB;refine PySem.P.add_list e e2 ?_ (by rw[aaq,aaq];omega);have ea:its.toArray++its2.toArray=(its++its2).toArray:=by simp
 rw[ea];exact⟨.ref _,_,I.tO (t':=s.toks) (r.append r2) (by rw[aag];omega),rfl,q _ I.fresh⟩
def zJ:R2:=fun x y H Q=>∃l k xs,x=.ref l/\y=.int k/\H l=some (.lst xs)/\-(2 ^ 63)<=k/\k<2 ^ 63/\xs.length*k.toNat<=sizeLine/\
 ∀p,H p=none->Q (.ref p) (upd H p (.lst (List.replicate k.toNat xs).flatten))
theorem len_rep{α:Type}(xs:List α)(k:Nat):(List.replicate k xs).flatten.length=k*xs.length:=by
 induction k with
 |zero=>simp
 |succ k ih=>rw[List.replicate_succ,List.flatten_cons,aag,ih,Nat.succ_mul,Nat.add_comm]
theorem xI:OpR X (binaryOp .Mult) zJ:=by
 intro pins s σ H x y v u Q I rx ry h;obtain⟨l,k,xs,rfl,rfl,hH,h1,h2,hz,q⟩:=h;cases rx
 obtain⟨t,rfl⟩:=ry;obtain⟨z,its,n,r,hl,e⟩:=I.j4 hH;have hlen:its.toArray.size*k.toNat<=sizeLine:=by rw[aaq,←hl];exact hz
 have hcap:¬its.toArray.size*k.toNat > (2 ^ 63 - 1) / 8:=by
  have:(sizeLine:Nat)<=(2 ^ 63 - 1) / 8:=by decide
  omega
 have hfit:¬(!Builtin.List.listFitsIndex k)=true:=by
  rw[fitsIndex_both h1 h2];exact Bool.false_ne_true
 have hlong:¬Builtin.List.listTooLong (its.toArray.size*k.toNat)=true:=by
  rw[m9 hlen];exact Bool.false_ne_true
 have hnew:List.foldl (fun x1 x2=>x1++x2) #[] (List.replicate (if its.toArray.isEmpty=true then 0 else k.toNat) its.toArray)=(List.replicate k.toNat its).flatten.toArray:=by
  have f0:∀m:Nat,List.foldl (fun x1 x2=>x1++x2) #[] (List.replicate m its.toArray)=(List.replicate m its).flatten.toArray:=fun m=>by
   have:=foldl_rep its m [];rw[List.nil_append] at this;exact this
  rw[f0];cases its with
  |nil=>simp
  |cons a r'=>rw[if_neg (by simp)]
 refine wpAny_binaryOp_repeat_ref (T:="list") (U:="int") (by decide) ⟨_,e,rfl⟩ (fun s'=>typeIs_int s' k t) noFill_list_mul F.fills_int_mul F.slot_int_rmul repeat_list F.slot_int_index.lookup
  (call_meets F.slot_int_rmul (typeIs_int s k t) F.entry_int_rmul (F.args_int_rmul_2 _ _) (int___rmul___int_list k t l its.toArray n)
   ⟨e,rfl,⟨_,e,rfl⟩,call_meets F.slot_list_mul ⟨_,e,rfl⟩ F.entry_list_mul (F.args_list_mul_2 _ _) (AutoListH.list___mul___list_int_3 l its.toArray n k t hfit hcap hlong) ⟨e,?_⟩⟩)
 rw[hnew];exact⟨.ref _,_,I.tO (t':=s.toks) (r.rep k.toNat) (by rw[len_rep,Nat.mul_comm];exact hz),rfl,q _ I.fresh⟩
end
section
variable {prog:Program}{w:World}{A:Around}{E:Value->Shared->Prop}{s:Shared}
end
section
variable {X:Cx}
end
end L2
namespace L2
open PySem PySem.Spec PyProof.Rows
section
variable {κ:Type}[DecidableEq κ]
def bc(kvs:List (κ×V))(k:κ):Option V:=(kvs.find? fun kv=>decide (kv.1=k)).map (·.2)
def putK(kvs:List (κ×V))(k:κ)(v:V):List (κ×V):=
 if (kvs.any fun kv=>decide (kv.1=k))=true then kvs.map (fun kv=>if kv.1=k then (kv.1,v) else kv) else kvs++[(k,v)]
theorem bV{p:κ×V}{r:List (κ×V)}{k:κ}(e:p.1=k):bc (p::r) k=some p.2:=by simp[bc,List.find?_cons,e]
theorem bW{p:κ×V}{r:List (κ×V)}{k:κ}(e:¬p.1=k):bc (p::r) k=bc r k:=by simp[bc,List.find?_cons,e]
theorem dX(k:κ):∀kvs:List (κ×V),(kvs.any fun kv=>decide (kv.1=k))=(bc kvs k).isSome
 |[]=>rfl
 |p::r=>by
  rw[List.any_cons]
  by_cases e:p.1=k
  ·simp only[bV e,aan e,Bool.true_or,Option.isSome_some]
  ·rw[bW e,aai e,Bool.false_or];exact dX k r
theorem ng(k j:κ)(y:V):∀kvs:List (κ×V),bc (kvs.map fun kv=>if kv.1=k then (kv.1,y) else kv) j=(bc kvs j).map fun x=>if j=k then y else x
 |[]=>rfl
 |p::r=>by
  have ih:=ng k j y r;rw[aaw]
  by_cases h:p.1=k
  ·rw[if_pos h]
   by_cases e:p.1=j
   ·rw[bV (p:=(p.1,y)) e,bV e,Option.map_some,if_pos (e.symm.trans h)]
   ·rw[bW (p:=(p.1,y)) e,bW e,ih]
  ·rw[if_neg h]
   by_cases e:p.1=j
   ·rw[bV (p:=p) e,bV e,Option.map_some,if_neg (fun z=>h (e.trans z))]
   ·rw[bW (p:=p) e,bW e,ih]
theorem lX(k j:κ)(y:V):∀kvs:List (κ×V),bc kvs k=none->bc (kvs++[(k,y)]) j=if j=k then some y else bc kvs j
 |[],_=>by
  by_cases e:k=j
  ·rw[if_pos e.symm];exact bV (p:=(k,y)) e
  ·rw[if_neg (fun z=>e z.symm)];exact bW (p:=(k,y)) e
 |p::r,hn=>by
  rw[List.cons_append];have hk:¬p.1=k:=fun z=>by rw[bV z] at hn;cases hn
  rw[bW hk] at hn;have ih:=lX k j y r hn
  by_cases e:p.1=j
  ·rw[bV e,bV e,if_neg (fun z=>hk (e.trans z))]
  ·rw[bW e,bW e,ih]
theorem ni(kvs:List (κ×V))(k j:κ)(y:V):bc (putK kvs k y) j=if j=k then some y else bc kvs j:=by
 unfold putK
 by_cases a:(kvs.any fun kv=>decide (kv.1=k))=true
 ·rw[if_pos a,ng];rw[dX] at a
  by_cases e:j=k
  ·obtain⟨x,hx⟩:=Option.isSome_iff_exists.mp a;rw[if_pos e,e,hx,Option.map_some,if_pos rfl]
  ·rw[if_neg e];cases bc kvs j with
   |none=>rfl
   |some x=>rw[Option.map_some,if_neg e]
 ·rw[if_neg a];refine lX k j y kvs ?_;rw[dX] at a;cases q:bc kvs k with
  |none=>rfl
  |some x=>rw[q] at a;exact(a rfl).elim
theorem eG(kvs:List (κ×V))(k:κ)(v:V):(putK kvs k v).length<=kvs.length+1:=by
 unfold putK;split
 ·rw[aaa];omega
 ·rw[aag,aau,List.length_nil];omega
theorem fw{kvs:List (κ×V)}{k:κ}(v:V)(h:bc kvs k=none):putK kvs k v=kvs++[(k,v)]:=by
 unfold putK;rw[dX,h];exact if_neg (by decide)
theorem ft.fP{o:Option V}{u:Option Value}(r:ft o u):o.isSome=u.isSome:=by
 cases o with
 |none=>cases u with
  |none=>rfl
  |some _=>exact(show False from r).elim
 |some _=>cases u with
  |none=>exact(show False from r).elim
  |some _=>rfl
theorem ft.getD{o:Option V}{u:Option Value}{d:V}{d':Value}(r:ft o u)(rd:RelV d d'):RelV (o.getD d) (u.getD d'):=by
 cases o with
 |none=>cases u with
  |none=>exact rd
  |some _=>exact(show False from r).elim
 |some _=>cases u with
  |none=>exact(show False from r).elim
  |some _=>exact r
theorem KV.val{kvs:List (κ×V)}{vs:List (κ×Value)}(r:KV kvs vs)(k:κ):ft (bc kvs k) (valueAt vs k):=by
 unfold KV at r
 induction r with
 |nil=>exact True.intro
 |@cons p q ps qs h t ih=>
  obtain⟨h1,h2⟩:=h
  by_cases e:p.1=k
  ·have e':q.1=k:=h1.symm.trans e;have b:valueAt (q::qs) k=some q.2:=by simp[valueAt,List.find?_cons,e']
   rw[bV e,b];exact h2
  ·have e':¬q.1=k:=fun z=>e (h1.trans z)
   have b:valueAt (q::qs) k=valueAt qs k:=by simp[valueAt,List.find?_cons,e']
   rw[bW e,b];exact ih
theorem KV.any{kvs:List (κ×V)}{vs:List (κ×Value)}(r:KV kvs vs)(k:κ):(kvs.any fun kv=>decide (kv.1=k))=vs.any fun kv=>decide (kv.1=k):=by
 unfold KV at r
 induction r with
 |nil=>rfl
 |cons h t ih=>rw[List.any_cons,List.any_cons,ih,h.1]
theorem KV.tP{kvs:List (κ×V)}{vs:List (κ×Value)}(r:KV kvs vs)(k:κ){y:V}{u:Value}(ry:RelV y u) :
  KV (kvs.map fun kv=>if kv.1=k then (kv.1,y) else kv) (vs.map fun kv=>if kv.1=k then (kv.1,u) else kv):=by
 unfold KV at r ⊢
 induction r with
 |nil=>exact .nil
 |@cons p q ps qs h t ih=>
  rw[aaw,aaw];refine .cons ?_ ih;obtain⟨h1,h2⟩:=h
  by_cases e:p.1=k
  ·rw[if_pos e,if_pos (h1.symm.trans e)];exact⟨h1,ry⟩
  ·rw[if_neg e,if_neg (fun z=>e (h1.trans z))];exact⟨h1,h2⟩
theorem KV.put{kvs:List (κ×V)}{vs:List (κ×Value)}(r:KV kvs vs)(k:κ){y:V}{u:Value}(ry:RelV y u):KV (putK kvs k y) (stored vs k u):=by
 unfold putK stored;rw[r.any k]
 by_cases e:(vs.any fun kv=>decide (kv.1=k))=true
 ·rw[if_pos e,if_pos e];exact r.tP k ry
 ·rw[if_neg e,if_neg e];exact Paired.snoc r ⟨rfl,ry⟩
theorem KV.keys{kvs:List (κ×V)}{vs:List (κ×Value)}(r:KV kvs vs):kvs.map (·.1)=vs.map (·.1):=by
 unfold KV at r
 induction r with
 |nil=>rfl
 |cons h t ih=>rw[aaw,aaw,ih,h.1]
theorem KV.length{kvs:List (κ×V)}{vs:List (κ×Value)}(r:KV kvs vs):kvs.length=vs.length:=Paired.length r
end
theorem iB{P:Program}{w:World}{k:Key}{u:Value}(r:RelV (kV k) u):(bD P w).is k u=true:=by
 cases k with
 |inl i=>obtain⟨t,e⟩:=(show ∃t,u=Value.int i t from r);subst e;exact o9 P w i t
 |inr x=>obtain⟨t,e⟩:=(show ∃t,u=Value.str x t from r);subst e;exact pb P w x t
theorem lY{P:Program}{w:World}:∀{ks:List Key} {us:List Value},Vals (ks.map kV) us->ItemsAre (bD P w) ks us
 |[],_,r=>by rw[List.map_nil] at r;cases r;exact .nil
 |k::ks,_,r=>by
  rw[aaw] at r;cases r with
  |cons h t=>exact .cons (iB h) (lY t)
abbrev KT(H:Hp):List (List Key×V)->List (List Key×Addr×Value)->Prop:=Paired fun p q=>p.1=q.1/\H q.2.1=some (.tup (p.1.map kV))/\RelV p.2 q.2.2
theorem KT.val{H:Hp}{kvs:List (List Key×V)}{xs:List (List Key×Addr×Value)}(r:KT H kvs xs)(k:List Key):ft (bc kvs k) ((atKey xs k).map (·.2)):=by
 induction r with
 |nil=>exact True.intro
 |@cons p q ps qs h t ih=>
  obtain⟨h1,_,h2⟩:=h
  by_cases e:p.1=k
  ·have e':q.1=k:=h1.symm.trans e;have b:atKey (q::qs) k=some q.2:=by simp[atKey,List.find?_cons,e']
   rw[bV e,b];exact h2
  ·have e':¬q.1=k:=fun z=>e (h1.trans z)
   have b:atKey (q::qs) k=atKey qs k:=by simp[atKey,List.find?_cons,e']
   rw[bW e,b];exact ih
theorem KT.tP{H:Hp}{kvs:List (List Key×V)}{xs:List (List Key×Addr×Value)}(r:KT H kvs xs)(k:List Key){y:V}{u:Value}(ry:RelV y u) :
  KT H (kvs.map fun kv=>if kv.1=k then (kv.1,y) else kv) (xs.map (putAt k u)):=by
 induction r with
 |nil=>exact .nil
 |@cons p q ps qs h t ih=>
  rw[aaw,aaw];refine .cons ?_ ih;obtain⟨h1,h2,h3⟩:=h;unfold putAt
  by_cases e:p.1=k
  ·rw[if_pos e,if_pos (h1.symm.trans e)];exact⟨h1,h2,ry⟩
  ·rw[if_neg e,if_neg (fun z=>e (h1.trans z))];exact⟨h1,h2,h3⟩
theorem KT.put{H:Hp}{kvs:List (List Key×V)}{xs:List (List Key×Addr×Value)}(r:KT H kvs xs)(k:List Key){b:Addr}{y:V}{u:Value}(hb:H b=some (.tup (k.map kV)))(ry:RelV y u) :
  KT H (putK kvs k y) (storedH xs k b u):=by
 have e:(kvs.any fun kv=>decide (kv.1=k))=(atKey xs k).isSome:=by
  rw[dX,(r.val k).fP,Option.isSome_map]
 unfold putK storedH;rw[e]
 by_cases q:(atKey xs k).isSome=true
 ·rw[if_pos q,if_pos q];exact r.tP k ry
 ·rw[if_neg q,if_neg q];exact Paired.snoc r ⟨rfl,hb,ry⟩
theorem KT.keeps{H H':Hp}{kvs:List (List Key×V)}{xs:List (List Key×Addr×Value)}(r:KT H kvs xs)(ht:∀b ys,H b=some (.tup ys)->H' b=some (.tup ys)):KT H' kvs xs:=
 Paired.bJ r fun _ _ z=>⟨z.1,ht _ _ z.2.1,z.2.2⟩
section
variable {P:Program}{w:World}{H:Hp}{h:Heap}{a:Addr}
theorem vI{u:HO}(ok:HOk P w H h)(e:Rd H a u):ba P w H h a u:=e.ok ok
theorem iC{kvs:List (Key×V)}(ok:HOk P w H h)(e:Rd H a (.dK kvs)):kvs.length<=sizeLine/\(a == sysModules)=false/\∃vs,KV kvs vs/\h.DictOf (bD P w) a vs:=
 show ba P w H h a (.dK kvs) from vI ok e
theorem mF{kvs:List (Key×V)}(ok:HOk P w H h)(e:H a=some (.dK kvs)):kvs.length<=sizeLine/\(a == sysModules)=false/\∃vs,KV kvs vs/\h.DictOf (bD P w) a vs:=iC ok (.inl e)
theorem gy{ks:List Key}(ok:HOk P w H h)(e:H a=some (.tup (ks.map kV))):(tupleKind (bD P w)).is h ks a:=by
 obtain⟨_,its,r,o,h1,h2,n,h3⟩:=(show ba P w H h a (.tup (ks.map kV)) from ok a _ e);exact⟨o,its.toArray,n,h1,h2,h3,by simpa using lY r⟩
theorem gI{kvs:List (List Key×V)}(ok:HOk P w H h)(e:Rd H a (.dT kvs)):kvs.length<=sizeLine/\(a == sysModules)=false/\
  ∃xs,KT H kvs xs/\h.DictOfH (tupleKind (bD P w)) a xs:=by
 obtain⟨z,y,xs,r,o,es,ep,h1,h2,h3,h4,h5⟩:=(show ba P w H h a (.dT kvs) from vI ok e);refine⟨z,y,xs,r,o,es,ep,h1,h2,h3,h4,fun x hx=>?_,h5⟩;have all:∀{l:List (List Key×V)} {m:List (List Key×Addr×Value)},KT H l m->∀x∈m,(tupleKind (bD P w)).is h x.1 x.2.1:=by
  intro l m q
  induction q with
  |nil=>intro x hx;exact nomatch hx
  |@cons p q ps qs hq t ih=>
   intro x hx;rcases List.mem_cons.mp hx with e|hx
   ·subst e;exact gy ok (by rw[←hq.1];exact hq.2.1)
   ·exact ih x hx
 exact all r x hx
theorem vJ{kvs:List (List Key×V)}(ok:HOk P w H h)(e:H a=some (.dT kvs)):kvs.length<=sizeLine/\(a == sysModules)=false/\
  ∃xs,KT H kvs xs/\h.DictOfH (tupleKind (bD P w)) a xs:=gI ok (.inl e)
end
def bP(H:Hp)(a:Addr)(y:V)(r:Option V):Prop:=
 (∃kvs k,Rd H a (.dK kvs)/\y=kV k/\r=bc kvs k)\/∃kvs k b,Rd H a (.dT kvs)/\y=.ref b/\H b=some (.tup (k.map kV))/\r=bc kvs k
def dD(H:Hp)(a:Addr)(y v:V)(H':Hp):Prop:=
 (∃kvs k,H a=some (.dK kvs)/\y=kV k/\kvs.length<sizeLine/\H'=upd H a (.dK (putK kvs k v)))\/
 ∃kvs k b,H a=some (.dT kvs)/\y=.ref b/\H b=some (.tup (k.map kV))/\kvs.length<sizeLine/\H'=upd H a (.dT (putK kvs k v))
theorem bP.k{H:Hp}{a:Addr}{kvs:List (Key×V)}{k:Key}(e:H a=some (.dK kvs)):bP H a (kV k) (bc kvs k):=.inl ⟨kvs,k,.inl e,rfl,rfl⟩
theorem bP.t{H:Hp}{a b:Addr}{kvs:List (List Key×V)}{k:List Key}(e:H a=some (.dT kvs))(eb:H b=some (.tup (k.map kV))):bP H a (.ref b) (bc kvs k):=.inr ⟨kvs,k,b,.inl e,rfl,eb,rfl⟩
theorem dD.k{H:Hp}{a:Addr}{kvs:List (Key×V)}{k:Key}{v:V}(e:H a=some (.dK kvs))(hl:kvs.length<sizeLine):dD H a (kV k) v (upd H a (.dK (putK kvs k v))):=.inl ⟨kvs,k,e,rfl,hl,rfl⟩
theorem dD.t{H:Hp}{a b:Addr}{kvs:List (List Key×V)}{k:List Key}{v:V}(e:H a=some (.dT kvs))(eb:H b=some (.tup (k.map kV)))(hl:kvs.length<sizeLine) :
  dD H a (.ref b) v (upd H a (.dT (putK kvs k v))):=.inr ⟨kvs,k,b,e,rfl,eb,hl,rfl⟩
section
variable {X:Cx}{pins:List (Addr×Obj)}{σ:St}{H:Hp}{s:Shared}{a:Addr}{y v:V}{u r:Value}{o:Option V}{A:Around}{E:Value->Shared->Prop}
theorem Inv.big(I:Inv X pins σ H s):sysModules<s.heap.objs.size:=by
 have h:mainGlobals<s.heap.objs.size:=(I.mod.glob.keeps I.bk).lt;exact Nat.lt_trans (by decide) h
theorem rM{Q:Value->Shared->Prop}(hu:A.units+1<cLine)(I:Inv X pins σ H s)(g:bP H a y (some v))(ry:RelV y u)(h:∀w' s',Inv X pins σ H s'->RelV v w'->Q w' s') :
  wpAny (model X.prog X.w) A (getItem (.ref a) u) Q E s:=by
 rcases g with ⟨kvs,k,e,ey,l⟩|⟨kvs,k,b,e,ey,eb,l⟩
 ·subst ey;obtain⟨z,hd,vs,rel,dd⟩:=iC I.hok e;obtain⟨w',hw,rw'⟩:=ft.some_of (v:=v) (o:=valueAt vs k) (by rw[l];exact rel.val k);exact wpAny_getItem_of (iB ry) dd.mapOf hw (h w' _ (I.tok _) rw')
 ·subst ey;cases (show u=Value.ref b from ry)
  obtain⟨z,hd,xs,rel,dd⟩:=gI I.hok e;obtain⟨w',hw,rw'⟩:=ft.some_of (v:=v) (o:=(atKey xs k).map (·.2)) (by rw[l];exact rel.val k);obtain⟨p,hp,hp2⟩:=Option.map_eq_some_iff.mp hw;refine wpAny_getItem_heap (tupleKind_room_in1 hu) (gy I.hok eb) dd hp ?_;rw[hp2];exact h w' _ (I.tok _) rw'
theorem zK{Q:Value->Shared->Prop}(hu:A.units+1<cLine)(I:Inv X pins σ H s)(g:bP H a y o)(ry:RelV y u)(h:∀s',Inv X pins σ H s'->Q (.bool o.isSome) s') :
  wpAny (model X.prog X.w) A (compareOp .In u (.ref a)) Q E s:=by
 rcases g with ⟨kvs,k,e,ey,l⟩|⟨kvs,k,b,e,ey,eb,l⟩
 ·subst ey;obtain⟨z,hd,vs,rel,dd⟩:=iC I.hok e;refine wpAny_in_of (iB ry) hd dd.mapOf ?_;rw[←(rel.val k).fP,←l];exact h _ (I.tok _)
 ·subst ey;cases (show u=Value.ref b from ry)
  obtain⟨z,hd,xs,rel,dd⟩:=gI I.hok e;refine wpAny_in_heap (tupleKind_room_in1 hu) (gy I.hok eb) hd dd ?_;have q:=(rel.val k).fP;rw[Option.isSome_map] at q;rw[←q,←l];exact h _ (I.tok _)
theorem v6{Q:Value->Shared->Prop}(hu:A.units+1<cLine)(I:Inv X pins σ H s)(g:bP H a y o)(ry:RelV y u)(h:∀s',Inv X pins σ H s'->Q (.bool (!o.isSome)) s') :
  wpAny (model X.prog X.w) A (compareOp .NotIn u (.ref a)) Q E s:=by
 rcases g with ⟨kvs,k,e,ey,l⟩|⟨kvs,k,b,e,ey,eb,l⟩
 ·subst ey;obtain⟨z,hd,vs,rel,dd⟩:=iC I.hok e;refine wpAny_notIn_of (iB ry) hd dd.mapOf ?_;rw[←(rel.val k).fP,←l];exact h _ (I.tok _)
 ·subst ey;cases (show u=Value.ref b from ry)
  obtain⟨z,hd,xs,rel,dd⟩:=gI I.hok e;refine wpAny_notIn_heap (tupleKind_room_in1 hu) (gy I.hok eb) hd dd ?_;have q:=(rel.val k).fP;rw[Option.isSome_map] at q;rw[←q,←l];exact h _ (I.tok _)
theorem jC{h':Heap}{t':Nat}{ob:HO}(I:Inv X pins σ H s)(mu:Mut (H a))(hs:Heap.SameBut a s.heap h')(he:∃q,h'.get? a=some q)(new:ba X.prog X.w (upd H a ob) h' a ob) :
  Inv X pins σ (upd H a ob) {s with heap:=h',toks:=t'}:=
 I.write (x:=a) (e:=a) mu (.inl rfl) (fun b q hb z=>(hs.2 b hb).trans z) he new
theorem rN{P:Program}{w:World}{H':Hp}{h':Heap}{kvs:List (Key×V)}{vs:List (Key×Value)}(z:kvs.length<=sizeLine)(hd:(a == sysModules)=false)(rel:KV kvs vs)(dd:h'.DictOf (bD P w) a vs) :
  ba P w H' h' a (.dK kvs):=⟨z,hd,vs,rel,dd⟩
theorem rO{H':Hp}{Q:Unit->Shared->Prop}(hu:A.units+1<cLine)(I:Inv X pins σ H s)(g:dD H a y v H')(ry:RelV y u)(rv:RelV v r)(h:∀s',Inv X pins σ H' s'->Q () s') :
  wpAny (model X.prog X.w) A (setItem (.ref a) u r) Q E s:=by
 rcases g with ⟨kvs,k,e,ey,l,eH⟩|⟨kvs,k,b,e,ey,eb,l,eH⟩
 ·subst ey eH;obtain⟨z,hd,vs,rel,dd⟩:=mF I.hok e;have hz:vs.length<=sizeLine:=by rw[←rel.length];exact z
  have hl:(putK kvs k v).length<=sizeLine:=by have:=eG kvs k v;omega
  refine wpAny_setItem_pairs (hsz:=hz) (iB ry) dd fun h' dd' hs=>h _ ?_
  have he:∃q,h'.get? a=some q:=let ⟨q,_,_,hq,_⟩:=dd';⟨q,hq⟩
  exact jC I (by rw[e];exact True.intro) hs he (rN hl hd (rel.put k rv) dd')
 ·subst ey eH;cases (show u=Value.ref b from ry)
  obtain⟨z,hd,xs,rel,dd⟩:=vJ I.hok e;have hz:xs.length<=sizeLine:=by rw[←Paired.length rel];exact z
  have hl:(putK kvs k v).length<=sizeLine:=by have:=eG kvs k v;omega
  refine wpAny_setItem_heap (hsz:=hz) (tupleKind_room_in1 hu) (gy I.hok eb) dd fun h' dd' hs=>h _ ?_
  obtain⟨q,es,ep,hq,h2,h3,h4,_,h5⟩:=dd';refine jC I (by rw[e];exact True.intro) hs ⟨q,hq⟩ ⟨hl,hd,_,(rel.put k eb rv).keeps fun c ys ec=>?_,q,es,ep,hq,h2,h3,h4,h5⟩;rw[am (mD ec e (fun z=>nomatch z))];exact ec
end
section
variable {X:Cx}{pins:List (Addr×Obj)}{σ:St}{H:Hp}{s:Shared}{a:Addr}{kvs:List (Key×V)}{k:Key}{u:Value}{A:Around}{E:Value->Shared->Prop}
end
def xJ(i:Expr):Prop:=∀ov iv,subscripted i false ov iv=operate [ov,iv] (getItem ov iv)
theorem v8{prog:Program}{w:World}{A:Around}{E:Value->Shared->Prop}{s:Shared}{env:Env}{value slice:Expr}{pos:Pos}{T id:String}{Q:Value->Shared->Prop}
  (hl:typeLookup (.type T) "__getitem__"=pure (some (.builtin id)))(hs:xJ slice)
  (h:wpAny (model prog w) A (eval value env) (fun o s₁=>wpAny (model prog w) A (eval slice env) (fun i s₂=>s₂.TypeIs o T/\wpAny (model prog w) A (getItem o i) Q E s₂) E s₁) E s) :
  wpAny (model prog w) A (eval (.Subscript value slice pos) env) Q E s:=by
 refine Subscript_ (wpAny_mono h (fun o s₁ h₁=>wpAny_mono h₁ (fun i s₂ h₂=>?_) fun _ _ x=>x) fun _ _ x=>x);obtain⟨hT,h₂⟩:=h₂;unfold subscriptTail;refine wpAny_bind ?_;rw[getitemInPython_of_ne hT.not_modules];refine wpAny_bind (wpAny_specialOf hT hl ?_);have fin:wpAny (model prog w) A (subscripted slice false o i) (fun r s₃=>wpAny (model prog w) A (letTemporaryGo value o r >>= fun _=>pure r) Q E s₃) E s₂:=by
  rw[hs o i];exact wpAny_operating (wpAny_mono h₂ (fun r s₃ h₃=>wpAny_bind (wpAny_letTemporaryGo (wpAny_pure h₃))) fun _ _ x=>x)
 first
  |exact wpAny_pure (wpAny_bind fin)
  |exact wpAny_bind (wpAny_pure (wpAny_bind fin))
  |exact wpAny_bind fin
theorem pc{X:Cx}{pins:List (Addr×Obj)}{σ:St}{H:Hp}{s:Shared}{a:Addr}{y:V}{o:Option V}(I:Inv X pins σ H s)(g:bP H a y o):s.TypeIs (.ref a) "dict":=by
 rcases g with ⟨kvs,k,e,_,_⟩|⟨kvs,k,b,e,_,_,_⟩
 ·obtain⟨_,_,vs,_,dd⟩:=iC I.hok e;exact dd.typeIs
 ·obtain⟨_,_,xs,_,dd⟩:=gI I.hok e;exact dd.typeIs
def yV(td ty:TE):TE:=fun σ H Q=>td σ H fun x H1=>ty σ H1 fun y H2=>∃a v,x=.ref a/\bP H2 a y (some v)/\Q v H2
def zL(ty td:TE):TE:=fun σ H Q=>ty σ H fun y H1=>td σ H1 fun x H2=>∃a o,x=.ref a/\bP H2 a y o/\Q (.bl o.isSome) H2
def v9(ty td:TE):TE:=fun σ H Q=>ty σ H fun y H1=>td σ H1 fun x H2=>∃a o,x=.ref a/\bP H2 a y o/\Q (.bl (!o.isSome)) H2
def yW(td ty tv:TE):TS:=fun D σ H=>tv σ H fun v H1=>td σ H1 fun x H2=>ty σ H2 fun y H3=>∃a H4,x=.ref a/\dD H3 a y v H4/\D.nx σ H4
section
variable {X:Cx}{o i e value:Expr}{pos pos' tpos:Pos}{td ty tv:TE}
theorem bI(hu:X.A.units+1<cLine)(ho:PE X o td)(hi:PE X i ty)(hs:xJ i):PE X (.Subscript o i pos) (yV td ty):=by
 intro pins s σ H Q I h;refine v8 PySem.F.slot_dict_getitem.lookup hs (thn (ho pins s σ H _ I h) fun u s1 ⟨x,H1,I1,rx,q1⟩=>thn (hi pins s1 σ H1 _ I1 q1) fun iv s2 ⟨y,H2,I2,ry,a,v,ex,g,q2⟩=>?_);subst ex;obtain rfl:u=Value.ref a:=rx;exact⟨pc I2 g,rM hu I2 g ry fun w' s3 I3 rw'=>⟨v,H2,I3,rw',q2⟩⟩
theorem hG(hu:X.A.units+1<cLine)(hi:PE X i ty)(ho:PE X o td):PC X .In i o (zL ty td):=by
 intro pins s σ H Q I h;refine thn (hi pins s σ H _ I h) fun iv s1 ⟨y,H1,I1,ry,q1⟩=>thn (ho pins s1 σ H1 _ I1 q1) fun u s2 ⟨x,H2,I2,rx,a,ov,ex,g,q2⟩=>?_
 subst ex;obtain rfl:u=Value.ref a:=rx;exact zK hu I2 g ry fun s3 I3=>⟨.bl ov.isSome,H2,I3,rfl,q2⟩
theorem i4(hu:X.A.units+1<cLine)(hi:PE X i ty)(ho:PE X o td):PC X .NotIn i o (v9 ty td):=by
 intro pins s σ H Q I h;refine thn (hi pins s σ H _ I h) fun iv s1 ⟨y,H1,I1,ry,q1⟩=>thn (ho pins s1 σ H1 _ I1 q1) fun u s2 ⟨x,H2,I2,rx,a,ov,ex,g,q2⟩=>?_
 subst ex;obtain rfl:u=Value.ref a:=rx;exact v6 hu I2 g ry fun s3 I3=>⟨.bl (!ov.isSome),H2,I3,rfl,q2⟩
theorem da(hu:X.A.units+1<cLine)(ho:PE X o td)(hi:PE X i ty)(hv:PE X value tv)(hs:swapsWith value (some (.Subscript o i pos')) pos.line X.env=pure false) :
  PS X (.Assign [.Subscript o i pos'] value pos) (yW td ty tv):=by
 intro pins s σ H D I h;refine wpAny_Assign_Subscript (thn (hv pins s σ H _ I h) fun r s1 ⟨v,H1,I1,rv,q1⟩=>thn (ho pins s1 σ H1 _ I1 q1) fun u s2 ⟨x,H2,I2,rx,q2⟩=>thn (hi pins s2 σ H2 _ I2 q2) fun iv s3 ⟨y,H3,I3,ry,a,H4,ex,g,q3⟩=>?_) hs;subst ex;obtain rfl:u=Value.ref a:=rx;exact rO hu I3 g ry rv fun s4 I4=>⟨σ,H4,I4,q3⟩
end
theorem nj{P:Program}{w:World}{H:Hp}(h:Heap)(hb:sysModules<h.objs.size):ba P w H (h.push {cls:=.type "dict",data:=.dict #[]}) h.objs.size (.dK []):=
 ⟨Nat.zero_le _,beq_eq_false_iff_ne.mpr (Ne.symm (Nat.ne_of_lt hb)),[],.nil,Heap.DictOf.new h⟩
theorem tQ{P:Program}{w:World}{H:Hp}(h:Heap)(hb:sysModules<h.objs.size):ba P w H (h.push {cls:=.type "dict",data:=.dict #[]}) h.objs.size (.dT []):=
 ⟨Nat.zero_le _,beq_eq_false_iff_ne.mpr (Ne.symm (Nat.ne_of_lt hb)),[],.nil,_,#[],0,aay _ rfl,⟨rfl,rfl,rfl⟩,rfl,rfl,List.nodup_nil⟩
def xK:TE:=fun _ H Q=>∀p,H p=none->Q (.ref p) (upd H p (.dK []))
def xL:TE:=fun _ H Q=>∀p,H p=none->Q (.ref p) (upd H p (.dT []))
section
variable {X:Cx}{pos:Pos}
theorem dY:PE X (.Dict [] [] pos) xK:=fun pins s σ H Q I h=>
 wpAny_Dict_empty ⟨.ref s.heap.objs.size,_,I.laid (a:=s.heap.objs.size) (o:=.dK []) (t':=s.toks) (fun _ _ q=>aaf _ q) (Nat.le_refl _) (nj s.heap I.big),rfl,h _ (I.hok.fresh (Nat.le_refl _))⟩
theorem j5:PE X (.Dict [] [] pos) xL:=fun pins s σ H Q I h=>
 wpAny_Dict_empty ⟨.ref s.heap.objs.size,_,I.laid (a:=s.heap.objs.size) (o:=.dT []) (t':=s.toks) (fun _ _ q=>aaf _ q) (Nat.le_refl _) (tQ s.heap I.big),rfl,h _ (I.hok.fresh (Nat.le_refl _))⟩
end
def np:List (TE×TE)->St->Hp->(List (V×V)->Hp->Prop)->Prop
 |[],_,H,Q=>Q [] H
 |(tk,tv)::r,σ,H,Q=>tk σ H fun x H1=>tv σ H1 fun y H2=>np r σ H2 fun ps H3=>Q ((x,y)::ps) H3
abbrev VV:List (V×V)->List (Value×Value)->Prop:=Paired fun p q=>RelV p.1 q.1/\RelV p.2 q.2
def PPs(X:Cx)(pos:Pos)(keys:List (Option Expr))(values:List Expr)(trs:List (TE×TE)):Prop:=
 ∀(pins:List (Addr×Obj)) (s:Shared) (σ:St) (H:Hp) (Q:List (V×V)->Hp->Prop),Inv X pins σ H s->np trs σ H Q->
  wpAny (model X.prog X.w) X.A (evalPairs (pairTrees keys values X.env pos)) (fun vs s'=>∃ps H',Inv X pins σ H' s'/\VV ps vs/\Q ps H') X.xe s
theorem wa{X:Cx}{pos:Pos}:PPs X pos [] [] []:=fun pins s σ H Q I h=>pairTrees_nil_walk ⟨[],H,I,.nil,h⟩
theorem tR{X:Cx}{pos:Pos}{k v:Expr}{ks:List (Option Expr)}{vs:List Expr}{tk tv:TE}{trs:List (TE×TE)}(hk:PE X k tk)(hv:PE X v tv)(hr:PPs X pos ks vs trs) :
  PPs X pos (some k::ks) (v::vs) ((tk,tv)::trs):=fun pins s σ H Q I h=>
 pairTrees_cons_walk (thn (hk pins s σ H _ I h) fun u s1 ⟨x,H1,I1,rx,q1⟩=>thn (hv pins s1 σ H1 _ I1 q1) fun w2 s2 ⟨y,H2,I2,ry,q2⟩=>
  thn (hr pins s2 σ H2 _ I2 q2) fun ws s3 ⟨ps,H3,I3,rel,q3⟩=>⟨(x,y)::ps,H3,I3,.cons ⟨rx,ry⟩ rel,q3⟩)
def fc(kvs more:List (Key×V)):List (Key×V):=more.foldl (fun acc kv=>putK acc kv.1 kv.2) kvs
theorem KV.merge:∀{more:List (Key×V)} {rs:List (Key×Value)} {kvs:List (Key×V)} {vs:List (Key×Value)},KV more rs->KV kvs vs->KV (fc kvs more) (merged vs rs):=by
 intro more rs kvs vs r;unfold KV at r
 induction r generalizing kvs vs with
 |nil=>intro q;exact q
 |@cons p q ps qs h t ih=>
  intro r0;have e:KV (putK kvs p.1 p.2) (stored vs q.1 q.2):=by
   have:=r0.put p.1 h.2;rw[←h.1];exact this
  exact ih e
theorem iW:∀(more kvs:List (Key×V)),(fc kvs more).length<=kvs.length+more.length
 |[],kvs=>by show kvs.length<=kvs.length+0;omega
 |p::r,kvs=>by
  have h1:=iW r (putK kvs p.1 p.2);have h2:=eG kvs p.1 p.2;show(fc (putK kvs p.1 p.2) r).length<=_;rw[aau];omega
theorem ku{P:Program}{w:World}:∀{kvs:List (Key×V)} {ws:List (Value×Value)},VV (kvs.map fun kv=>(kV kv.1,kv.2)) ws->∃rs,Carries (bD P w) ws rs/\KV kvs rs
 |[],_,r=>by rw[List.map_nil] at r;cases r;exact⟨[],True.intro,.nil⟩
 |p::kvs,_,r=>by
  rw[aaw] at r;cases r with
  |@cons a b as bs h t=>
   obtain⟨rs,c,q⟩:=ku (P:=P) (w:=w) t;obtain⟨b1,b2⟩:=b;exact⟨(p.1,b2)::rs,⟨iB h.1,rfl,c⟩,.cons ⟨rfl,h.2⟩ q⟩
def vK(trs:List (TE×TE)):TE:=fun σ H Q=>∀p,H p=none->np trs σ (upd H p (.dK [])) fun ps H2=>H2 p=some (.dK [])/\∃kvs:List (Key×V),ps=kvs.map (fun kv=>(kV kv.1,kv.2))/\kvs.length<=15/\Q (.ref p) (upd H2 p (.dK (fc [] kvs)))
theorem wc{X:Cx}{pos:Pos}{keys:List (Option Expr)}{values:List Expr}{trs:List (TE×TE)}(h:PPs X pos keys values trs)(hall:keys.all (·.isSome)=true)(hl:keys.length=values.length)(h0:keys≠[])
  (h15:keys.length<=15):PE X (.Dict keys values pos) (vK trs):=by
 intro pins s σ H Q I q;have hn:=I.hok.fresh (Nat.le_refl s.heap.objs.size);have I1:=I.laid (a:=s.heap.objs.size) (o:=.dK []) (h':=s.heap.push {cls:=.type "dict",data:=.dict #[]}) (t':=s.toks) (fun _ _ q=>aaf _ q) (Nat.le_refl _) (nj s.heap I.big);refine wpAny_Dict_walk (knd:=bD X.prog X.w) hall hl h0 h15 (thn (h pins _ σ _ _ I1 (q _ hn)) fun ws s2 ⟨ps,H2,I2,rel,e,kvs,ep,lk,q2⟩=>?_);subst ep;obtain⟨rs,c,rk⟩:=ku (P:=X.prog) (w:=X.w) rel;obtain⟨z,hd,vs0,r0,dd⟩:=mF I2.hok e;cases r0
 refine⟨rs,c,dd,fun h' dd' hs=>⟨.ref s.heap.objs.size,_,?_,rfl,q2⟩⟩;have hz:(fc [] kvs).length<=sizeLine:=by
  have h1:=iW kvs [];rw[List.length_nil] at h1;rw[sizeLine_eq];omega
 have he:∃q,h'.get? s.heap.objs.size=some q:=let ⟨q,_,_,hq,_⟩:=dd';⟨q,hq⟩
 exact jC I2 (by rw[e];exact True.intro) hs he (rN hz hd (rk.merge .nil) dd')
structure M2(X:Cx)(o:Expr)(m:Str)(apos:Pos)(e f:Expr)(cpos:Pos):Prop where
 base:attributeBase o m X.env (eval o X.env)=eval o X.env
 few:((backTo cpos (starEach [e,f] X.env)).all (fun x=>!x.1) && (backToKw cpos (keywordEach [] X.env)).all (fun x=>x.1.isSome)
  && decide (([e,f]:List Expr).length+([]:List Keyword).length+(if ([]:List Keyword).isEmpty then 0 else 1)<30))=true
 line:(apos.endLine == cpos.line)=true
 trees:backTo cpos (starEach [e,f] X.env)=[(false,eval e X.env),(false,eval f X.env)]
def IsD(H:Hp)(a:Addr):Prop:=(∃kvs,Rd H a (.dK kvs))\/∃kvs,Rd H a (.dT kvs)
theorem nq{X:Cx}{pins:List (Addr×Obj)}{σ:St}{H:Hp}{s:Shared}{a:Addr}(I:Inv X pins σ H s)(d:IsD H a) :
  s.TypeIs (.ref a) "dict"/\(∀b,Value.ref a=.ref b->∃ob,s.heap.get? b=some ob/\ob.dict=none)/\(a == sysModules)=false:=by
 rcases d with ⟨kvs,e⟩|⟨kvs,e⟩
 ·obtain⟨_,hd,vs,_,dd⟩:=iC I.hok e;refine⟨dd.typeIs,fun b q=>?_,hd⟩;cases q
  obtain⟨ob,_,_,h1,h2,_⟩:=dd;exact⟨ob,h1,h2.2.1⟩
 ·obtain⟨_,hd,xs,_,dd⟩:=gI I.hok e;refine⟨dd.typeIs,fun b q=>?_,hd⟩;cases q
  obtain⟨ob,_,_,h1,h2,_⟩:=dd;exact⟨ob,h1,h2.2.1⟩
section
variable {X:Cx}{pins:List (Addr×Obj)}{σ:St}{H:Hp}{s:Shared}{a:Addr}{y d:V}{u r:Value}{o:Option V}{A:Around}{E:Value->Shared->Prop}
theorem rP{Q:Value->Shared->Prop}(hu:A.units+1<cLine)(I:Inv X pins σ H s)(g:bP H a y o)(ry:RelV y u)(rd:RelV d r)(h:∀w' s',Inv X pins σ H s'->RelV (o.getD d) w'->Q w' s') :
  wpAny (model X.prog X.w) A (call (.builtin "dict.get") [.ref a,u,r]) Q E s:=by
 rcases g with ⟨kvs,k,e,ey,l⟩|⟨kvs,k,b,e,ey,eb,l⟩
 ·subst ey;obtain⟨z,hd,vs,rel,dd⟩:=iC I.hok e;refine call_meetsIn PySem.F.slot_dict_get dd.typeIs PySem.F.entry_dict_get (PySem.F.args_dict_get_3 _ _ _) (meets_dict_get_default (bD X.prog X.w) a (iB ry) hd r) ⟨_,dd.mapOf,h _ _ (I.tok _) ?_⟩;rw[l];exact(rel.val k).getD rd
 ·subst ey;cases (show u=Value.ref b from ry)
  obtain⟨z,hd,xs,rel,dd⟩:=gI I.hok e;refine call_meetsIn PySem.F.slot_dict_get dd.typeIs PySem.F.entry_dict_get (PySem.F.args_dict_get_3 _ _ _) (meetsH_dict_get_default (tupleKind (bD X.prog X.w)) a b hd r) ⟨tupleKind_room_in1 hu,k,xs,gy I.hok eb,dd,h _ _ (I.tok _) ?_⟩;rw[l];exact(rel.val k).getD rd
end
def xM(td ty tx:TE):TE:=fun σ H Q=>td σ H fun x H1=>∃a,x=.ref a/\IsD H1 a/\ty σ H1 fun y H2=>tx σ H2 fun z H3=>∃o,bP H3 a y o/\Q (o.getD z) H3
section
variable {X:Cx}{o e f:Expr}{apos cpos:Pos}{td ty tx:TE}
theorem iD(hu:X.A.units+1<cLine)(ho:PE X o td)(he:PE X e ty)(hf:PE X f tx)(m:M2 X o "get" apos e f cpos):PE X (.Call (.Attribute o "get" apos) [e,f] [] cpos) (xM td ty tx):=by
 intro pins s σ H Q I h;refine wpAny_Call_method m.base m.few m.line PySem.F.plainAttrs_dict PySem.F.slot_dict_get PySem.F.type_dict_get (thn (ho pins s σ H _ I h) fun u s1 ⟨x,H1,I1,rx,a,ex,d,q1⟩=>?_);subst ex;obtain rfl:u=Value.ref a:=rx;obtain⟨t1,t2,_⟩:=nq I1 d;refine⟨t1,t2,?_⟩;rw[m.trees];refine Calls.callWith_builtin rfl (Calls.evalArgs_plain (Calls.spliced_cons (thn (he pins s1 σ H1 _ I1 q1) fun iv s2 ⟨y,H2,I2,ry,q2⟩=>
  Calls.spliced_cons (thn (hf pins s2 σ H2 _ I2 q2) fun fv s3 ⟨z,H3,I3,rz,ov,g,q3⟩=>Calls.spliced_nil ?_))))
 exact rP hu I3 g ry rz fun w' s4 I4 rw'=>⟨_,H3,I4,rw',q3⟩
end
section
variable {X:Cx}{pins:List (Addr×Obj)}{σ:St}{H:Hp}{s:Shared}{a:Addr}{kvs:List (Key×V)}{A:Around}{E:Value->Shared->Prop}
end
section
variable {X:Cx}{pins:List (Addr×Obj)}{σ:St}{H:Hp}{s:Shared}{a:Addr}{y:V}{u:Value}{A:Around}{E:Value->Shared->Prop}
end
end L2
namespace Att
open PySem PySem.W PySem.Calls PyProof.Rows
theorem kw{P:Params}{h:Heap}:∀(ns:List Int) (vs:List Value),WellAll P h vs (ns.map WData.int)->IntsAre vs ns:=by
 intro ns
 induction ns with
 |nil=>
  intro vs w;rw[List.map_nil] at w;cases w
  exact .nil
 |cons n ns ih=>
  intro vs w;rw[aaw] at w;cases w with
  |cons a b=>
   cases a
   exact .cons _ _ (ih _ b)
theorem rQ{l:OpenLaw}{n:Nat}(hn:l.most=some n){P:Params}{h:Heap}{args:List WData}{vals:List Value}
  (hpre:l.row.toRowW.claim.pre args=true)(hwl:WellAll P h vals args) :
  ∃a vs ns,vals=[Value.ref a]/\args=[WData.list (ns.map WData.int)]/\h.get? a=some {cls:=.type "list",data:=.seq vs.toArray}/\IntsAre vs ns/\ns.length<=n:=by
 have hsh:WShape.hasAll [] args [.list .int]=true:=(pre_splitW hpre).1;have hc:l.pre.holds [] {args:=args}=true:=(pre_splitW hpre).2;obtain⟨d,r,rfl,h1,h2⟩:=hasAllW_cons hsh;obtain rfl:=hasAllW_nil h2;obtain⟨xs,rfl,h3⟩:=hasW_list h1;obtain⟨ns,rfl⟩:=items_int h3;have hlen:ns.length<=n:=by
  unfold OpenLaw.pre at hc;have h4:(WTm.not (.lt (.lit (.int (n:Int))) (.len (.arg 0)))).holds [] {args:=[.list (ns.map .int)]}=true:=by
   have h4:=(holds_andW hc).1;rw[hn] at h4;exact h4
  have h5:=condW_of h4 (w_not (w_lt w_lit (w_len_list (w_arg rfl))));rw[aaa] at h5;refine Nat.le_of_not_lt fun q=>?_
  have q':(n:Int)<((ns.length:Nat):Int):=by omega
  first
   |(rw[aan q'] at h5;exact absurd h5 (by decide))
   |(simp at h5;omega)
 cases hwl with
 |cons w1 w2=>
  cases w2
  cases w1 with
  |list ho hall=>exact⟨_,_,ns,rfl,rfl,ho,kw ns _ hall,hlen⟩
theorem rR(l:OpenLaw)(args:List WData):l.row.toRowW.claim.post args (.bool true) args=true:=
 postW_of (r:=l.row.toRowW) (X:=(true == true))
  (show WShape.has [] (.bool true) .bool=true by first | rfl | decide | simp[WShape.has,WShape.arms,WShape.armsAll])
  (show(WTm.eq .res (.lit (.bool true))).value [] {args:=args,res:=some (.bool true),after:=args}=some (.bool (true == true)) from w_eq_bool (w_res rfl) w_lit) rfl
theorem pd{l:OpenLaw}{n:Nat}{q:Program}{loose:List Str}{XP:(Str->Option Value)->Heap->Prop}{YP:World->Heap->Prop}{d:DefRec}
  (hn:l.most=some n)(hdf:d.params.defaults=[])
  (call:∀(w:World) (s₀ s₁:Shared) (mg mb:Str->Option Value) (fa:Addr) (o:Obj) (pm cd doc:Value) (a:Addr) (vs:List Value) (ns:List Int),
   Ground q loose [] XP w s₀ mg mb s₁.heap->YP w s₁.heap->
   s₁.heap.get? fa=some o->o.data=.func (docDef d.name d.params d.body d.scope pm cd doc)->s₁.heap.CodeRec cd d.name->mg d.name=some (.ref fa)->
   s₁.heap.get? a=some {cls:=.type "list",data:=.seq vs.toArray}->IntsAre vs ns->ns.length<=n->s₁.gens=#[]->
   codeAny (model l.prog w) callerA (.call (.ref fa) ⟨[.ref a],[]⟩) (fun r s'=>r=.ok (.ret (.bool true))/\OldK s₁.heap s'.heap/\s'.os=s₁.os/\AllBare s'.gens) s₁) :
  WalkO q loose XP YP l.row.toRowW d [] (fun f vs=>PySem.call f vs):=by
 intro w s₀ s₁ mg mb G Y fa o pm cd doc dV kV ho hd hcd hD hmg hg args vals as hpre hlay hrd hwl hlo;obtain rfl:dV=.none:=Dflts.none hD hdf;obtain rfl:kV=.none:=Dflts.noKw hD;obtain⟨a,vs,ns,rfl,rfl,hobj,hints,hlen⟩:=rQ hn hpre hwl;refine enter_call (codeAny_mono (call w s₀ s₁ mg mb fa o pm cd doc a vs ns G Y ho (fd_plain hd) hcd hmg hobj hints hlen hg) fun r s' hq=>?_);obtain⟨rfl,h2,h3,h4⟩:=hq;exact⟨.inl ⟨.bool true,.bool true,[],rfl,fun _=>rfl,.bool true,rR l _,fun _=>⟨List.Pairwise.nil,fun _ hm=>(nomatch hm)⟩⟩,h2,h3,h4⟩
section
variable {prog:Program}{w:World}{A:Around}{E:Value->Shared->Prop}{s:Shared}{K:Frag}
end
end Att
namespace L2
open PySem PySem.Spec PyProof.Rows
theorem lZ:∀{vs:List Value} {ns:List Int},IntsAre vs ns->Vals (ns.map V.int) vs
 |_,_,.nil=>.nil
 |_,_,.cons n t h=>.cons ⟨t,rfl⟩ (lZ h)
end L2
namespace L2
open PySem PySem.Spec PyProof.Rows
end L2
namespace L2
open PySem PySem.Spec PyProof.Rows
def gn(s:Stmt):Arguments:=match s with
 |.FunctionDef _ a _ _ _ _ _ _ _ _=>a
 |_=>{posonlyargs:=[],args:=[],vararg:=none,kwonlyargs:=[],kw_defaults:=[],kwarg:=none,defaults:=[]}
def eX(s:Stmt):List Stmt:=match s with
 |.FunctionDef _ _ b _ _ _ _ _ _ _=>b
 |_=>[]
def au(s:Stmt):Scope:=match s with
 |.FunctionDef _ _ _ _ _ _ sc _ _ _=>sc
 |_=>{kind:=.function,names:=[],isGenerator:=false,isCoroutine:=false}
abbrev CX0:CXT:=fun _ _ _ _ _ _=>False
abbrev E0:XK:=fun _ _ _=>False
theorem yX{X:Cx}:Passes CX0 X E0:=fun _ _ _ _ _ _ _ h=>h.elim
structure Fun(K:PySem.W.Frag)(x qual:Str)(st:Stmt)(f:Addr)(fd:FuncData):Prop where
 ex:∃(oc:Value) (od:Option Addr) (kV doc pm:Value) (an:Option Addr) (cdv ct:Value) (osl:Array (Option Value)),
  fd=PySem.W.fnOf x qual (gn st) (eX st) (au st) .none kV doc pm an cdv ct/\K.lookup f=some ⟨oc,od,.func fd,osl⟩/\PySem.W.codeIn K cdv qual=true
 kp:PySem.W.keepIn K (.ref f)=true
section
variable {P:Program}{w:World}{K:PySem.W.Frag}{mg:Str->Option Value}{base:Heap}
theorem Fun.ok{x qual:Str}{st:Stmt}{f:Addr}{fd:FuncData}{N ps:List Str}{k:Nat}{sp:Sp}(F:Fun K x qual st f fd)(S:aD N ps (au st))(len:∀vs H Q E,sp vs H Q E->vs.length=ps.length)
  (hbody:∀(cdv:Value) (A:Around) (outer:List Env) (s:Shared) (H:Hp) (vs:List V) (Q:VK) (E:XK),bu k (A.deeper (envOfC qual (au st) s.heap.objs.size f cdv))->sp vs H Q E->
   ∃t,PSs (iA CX0 P w K mg base N qual (au st) f cdv A outer s H E).nox (eX st) t/\t {nx:=fun _ H'=>Q .non H',rt:=Q} (start N vs) H):a0 P w K mg base CX0 (k+1) f fd ps sp:=by
 obtain⟨oc,od,kV,doc,pm,an,cdv,ct,osl,rfl,lk,hcd⟩:=F.ex;refine vH lk hcd S len fun A outer s H vs Q E hr hsp=>?_
 obtain⟨t,h,q⟩:=hbody cdv A outer s H vs Q E hr hsp;exact⟨t,h.nox,q⟩
theorem Fun.binds{x qual:Str}{st:Stmt}{f:Addr}{fd:FuncData}{ps:List Str}(F:Fun K x qual st f fd)
  (h:∀(kV doc pm:Value) (an:Option Addr) (cdv ct:Value) (us:List Value),us.length=ps.length->bindArgs (PySem.W.fnOf x qual (gn st) (eX st) (au st) .none kV doc pm an cdv ct) ⟨us,[]⟩=pure (ps.zip us)):Binds K fd ps []:=by
 obtain⟨oc,od,kV,doc,pm,an,cdv,ct,osl,rfl,lk,hcd⟩:=F.ex;exact .all (h kV doc pm an cdv ct)
theorem rS{x qual:Str}{st:Stmt}{f:Addr}{oc:Value}{od an:Option Addr}{osl:Array (Option Value)}{kV doc pm cdv ct:Value}(l:K.lookup f=some ⟨oc,od,.func (PySem.W.fnOf x qual (gn st) (eX st) (au st) .none kV doc pm an cdv ct),osl⟩)
  (c:PySem.W.codeIn K cdv qual=true)(k:PySem.W.keepIn K (.ref f)=true):Fun K x qual st f (PySem.W.fnOf x qual (gn st) (eX st) (au st) .none kV doc pm an cdv ct):=⟨⟨oc,od,kV,doc,pm,an,cdv,ct,osl,rfl,l,c⟩,k⟩
end
theorem cv{A:Around}{k:Nat}(hr:bu k A):A.units+1<cLine:=Nat.lt_of_le_of_lt (Nat.add_le_add_left (by decide:1<=64) _) hr.units
theorem av{n:Nat}(h:n<=1000):n<sizeLine:=Nat.lt_of_le_of_lt h (by decide)
section
variable {X:Cx}
theorem pv(i:Nat){x:Str}{pos:Pos}(hN:X.N[i]? =some x:=by rfl)(hv:Vis X.env.scope x:=by first | exact Or.inl rfl | exact Or.inr (Or.inl rfl) | exact Or.inr (Or.inr rfl))(hd:(x == ("__debug__":Str))=false:=by decide)
  (hcd:(x == ("__classdict__":Str))=false:=by decide):PE X (.Name x pos) (mV i):=rm hN hv hd hcd
end
theorem aJ{A B:Prop}(h:B):if false=true then A else B:=by
 rw[if_neg Bool.false_ne_true];exact h
theorem a9{A B:Prop}(h:A):if true=true then A else B:=by
 rw[if_pos rfl];exact h
theorem zM{c A B:Prop}[Decidable c](h1:c->A)(h2:¬c->B):if c then A else B:=by
 by_cases h:c
 ·rw[if_pos h];exact h1 h
 ·rw[if_neg h];exact h2 h
theorem jD{c A B:Prop}[Decidable c](hc:c)(h:B):if (!decide c)=true then A else B:=by
 rw[aan hc];exact aJ h
def ab(H H':Hp):Prop:=∀b o,H b=some o->H' b=some o
theorem ab.refl(H:Hp):ab H H:=fun _ _ h=>h
theorem ab.trans{H H1 H2:Hp}(a:ab H H1)(b:ab H1 H2):ab H H2:=fun c o h=>b c o (a c o h)
theorem ab.free{H H':Hp}(e:ab H H'){l:Addr}(h:H' l=Option.none):H l=Option.none:=by
 cases q:H l with
 |none=>rfl
 |some o=>
  rw[e l o q] at h;cases h
theorem ab.seq{K:PySem.W.Frag}{H H':Hp}{a:Addr}{xs:List V}(e:ab H H')(h:SqL K H a xs):SqL K H' a xs:=by
 rcases h with (h|⟨o,h⟩)|h
 ·exact .inl (.inl (e _ _ h))
 ·exact .inl (.inr ⟨o,e _ _ h⟩)
 ·exact .inr h
section
variable {κ:Type}[DecidableEq κ]
theorem we{kvs:List (κ×V)}{k:κ}{v:V}(h:bc kvs k=some v):k∈kvs.map (·.1):=by
 have q:(kvs.any fun kv=>decide (kv.1=k))=true:=by
  rw[dX,h]
  all_goals rfl
 obtain⟨p,hp,e⟩:=List.any_eq_true.mp q;exact aao.mpr ⟨p,hp,of_decide_eq_true e⟩
theorem dL:∀{l:List κ} {k:κ},l.Nodup->¬k∈l->(l++[k]).Nodup
 |[],k,_,_=>by simp
 |a::r,k,h,hk=>by
  obtain⟨h1,h2⟩:=List.nodup_cons.mp h;show(a::(r++[k])).Nodup;refine List.nodup_cons.mpr ⟨fun m=>?_,dL h2 fun m=>hk (List.mem_cons.mpr (Or.inr m))⟩;rcases aak.mp m with q|q
  ·exact h1 q
  ·exact hk (List.mem_cons.mpr (Or.inl (aaj.mp q).symm))
end
end L2
namespace L2
open PySem PySem.Spec PyProof.Rows
section
variable {prog:Program}{w:World}{A:Around}{R:Result->Shared->Prop}{s:Shared}
theorem nr{elt target iter:Expr}{ifs:List Expr}{scope:Scope}{pos:Pos}{it acc:Value}{env:Env}(I:Nat->Shared->Prop)
  (turn:∀n s,I n s->wpAny (model prog w) A (pyNext it) (fun r s₁=>match r with
   |none=>R (.ok .next) s₁
   |some v=>wpAny (model prog w) A (letOwnedTupleGo target it v) (fun _ s₁'=>wpAny (model prog w) A (assign target env v) (fun _ s₂=>
     wpAny (model prog w) A (forIn ifs true fun c r=>if r=true then do let ok ←isTrue c env (eval c env);pure (ForInStep.yield ok) else pure (ForInStep.yield r)) (fun ok s₃=>
      if ok=true then wpAny (model prog w) A (eval elt env) (fun x s₄=>
       wpAny (model prog w) A (call (.builtin "list.append") [acc,x]) (fun _ s₅=>∃m,m<n/\I m s₅) (fun _ _=>False) s₄) (fun _ _=>False) s₃
      else ∃m,m<n/\I m s₃) (fun _ _=>False) s₂) (fun _ _=>False) s₁') (fun _ _=>False) s₁) (fun _ _=>False) s)
  (n:Nat)(h:I n s) :
  codeAny (model prog w) A (.compLoop (.ListComp elt [⟨target,iter,ifs,0⟩] scope pos) 0 it acc env) R s:=by
 refine codeAny_loop rfl I (fun n s hI=>?_) n h;show wpAny _ A ((compTurn (.ListComp elt [⟨target,iter,ifs,0⟩] scope pos) 0 it acc env).onRaise (fun x=>do noteFrame x env;theTreesLotGoes x)) _ _ s;refine wpAny_noted ?_;rw[compTurn_list];refine wpAny_bind (wpAny_standAt (wpAny_bind (wpAny_mono (turn n s hI) (fun r s₁ h₁=>?_) fun _ _ h'=>h'.elim)));cases r with
 |none=>exact wpAny_pure h₁
 |some v=>
  refine wpAny_bind (wpAny_mono h₁ (fun _ s₁' h₁'=>?_) fun _ _ h'=>h'.elim);refine wpAny_bind (wpAny_mono h₁' (fun _ s₂ h₂=>wpAny_bind (wpAny_mono h₂ (fun ok s₃ h₃=>?_) fun _ _ h'=>h'.elim)) fun _ _ h'=>h'.elim);cases ok with
  |false=>exact wpAny_pure ⟨rfl,h₃⟩
  |true=>
   exact wpAny_bind (wpAny_bind (wpAny_mono h₃ (fun x s₄ h₄=>wpAny_bind (wpAny_mono h₄ (fun _ s₅ h₅=>wpAny_pure (wpAny_pure ⟨rfl,h₅⟩)) fun _ _ h'=>h'.elim)) fun _ _ h'=>h'.elim))
end
def PIf(X:Cx)(ifs:List Expr)(t:TT):Prop:=
 ∀(pins:List (Addr×Obj)) (s:Shared) (σ:St) (H:Hp) (Q:Bool->Hp->Prop),Inv X pins σ H s->t σ H Q->
  wpAny (model X.prog X.w) X.A (forIn ifs true fun c r=>if r=true then do let ok ←isTrue c X.env (eval c X.env);pure (ForInStep.yield ok) else pure (ForInStep.yield r)) (TP X pins σ Q) X.xe s
def mG:TT:=fun _ H Q=>Q true H
theorem dc{X:Cx}:PIf X [] mG:=fun _ _ _ H _ I h=>wpAny_tests_nil ⟨H,I,h⟩
theorem gp{X:Cx}{c:Expr}{t:TT}(h:PT X c t):PIf X [c] t:=fun pins s σ H Q I hw=>wpAny_tests_one (h pins s σ H Q I hw)
def fG(sel:List (Option Nat))(σ:St):St:=sel.map fun o=>match o with
 |some i=>(σ[i]?).join
 |none=>none
def cC(X:Cx)(scope:Scope)(cl:List (Str×Addr))(N:List Str)(s₃:Shared)(H₃:Hp)(fp:List Addr):Cx where
 prog:=X.prog
 w:=X.w
 K:=X.K
 mg:=X.mg
 base:=X.base
 A:=X.A
 N:=N
 s₀:=s₃
 H₀:=H₃
 env:=compEnvC scope cl s₃.heap.objs.size X.env
 outer:=X.stack
 stack:=X.stack
 ex:=fp
 fn:=fun _=>false
 calm:=X.calm
 pn:=[]
 xe:=fun _ _=>False
structure aX(X:Cx)(scope:Scope)(cl:List (Str×Addr))(N:List Str)(sel:List (Option Nat)):Prop where
 clos:closureFor scope X.env=pure cl
 nocell:∀y∈scope.names,y.2≠.cell
 kind:scope.kind=.function
 locs:∀y∈scope.names,y.2=.local->scope.names.lookup y.1=some .local
 cells:∀x c,cl.lookup x=some c->X.env.cells.lookup x=some c
 has:∀x,(Vis (relabel scope X.env) x/\(relabel scope X.env).names.lookup x≠some .local)->∃c,cl.lookup x=some c
 len:sel.length=N.length
 names:∀(j i:Nat),sel[j]? =some (some i)->∃x,X.N[i]? =some x/\N[j]? =some x/\(Vis X.env.scope x/\X.env.scope.names.lookup x≠some .local)/\(relabel scope X.env).names.lookup x≠some .local
def ky(sel:List (Option Nat))(J:It)(D:Addr)(g:TG)(tc:TT)(te:TE)(σ:St)(H1:Hp)(Q:VK):Prop:=
 ∃W:Nat->Nat->St->Hp->Prop,(∃m,W 0 m (fG sel σ) (upd H1 D (.lst [])))/\∀i m τ H2,W i m τ H2->
  (J.stop i H2/\Q (.ref D) H2)\/(J.go i H2/\∃N:St->Hp->Prop,(∀τ' H',N τ' H'->∃m',m'<m/\W (i+1) m' τ' H')/\∀x H3,J.yld i H2 x H3->g x τ H3 fun τ2 H4=>tc τ2 H4 fun b H5=>
   if b=true then te τ2 H5 fun y H6=>∃ys,H6 D=some (.lst ys)/\ys.length<sizeLine/\N τ2 (upd H6 D (.lst (ys++[y])))
   else N τ2 H5)
def qf(sel:List (Option Nat))(wi:TI)(g:TG)(tc:TT)(te:TE):TE:=fun σ H Q=>wi σ H fun J H1=>∀D,H1 D=none->ky sel J D g tc te σ H1 Q
theorem rT{sel:List (Option Nat)}{σ:St}{j:Nat}{v:V}(h:(fG sel σ)[j]? =some (some v)):∃i,sel[j]? =some (some i)/\σ[i]? =some (some v):=by
 unfold fG at h;rw[aax] at h;cases e:sel[j]? with
 |none=>rw[e] at h;cases h
 |some o=>
  rw[e] at h;cases o with
  |none=>cases h
  |some i=>
   refine⟨i,rfl,?_⟩;have h:(σ[i]?).join=some v:=by simpa using h
   cases q:σ[i]? with
   |none=>rw[q] at h;cases h
   |some o=>
    rw[q] at h;have h:o=some v:=h;rw[h]
section
variable {X:Cx}{pins:List (Addr×Obj)}{σ:St}{H:Hp}{s:Shared}{scope:Scope}{cl:List (Str×Addr)}{N:List Str}{sel:List (Option Nat)}
theorem aX.ok(C:aX X scope cl N sel){s₃:Shared}{H₃:Hp}{fp:List Addr}(I:Inv X pins σ H₃ s₃)(hf:∀b∈fp,cT X pins H₃ b)(hlt:∀b∈fp,b<s₃.heap.objs.size):(cC X scope cl N s₃ H₃ fp).Ok where
 mod:=I.ok.mod
 kind:=C.kind
 glob:=I.ok.glob
 blt:=I.ok.blt
 above:=Nat.le_refl _
 inj:=fun x y c h1 h2=>I.ok.inj x y c (C.cells x c h1) (C.cells y c h2)
 has:=fun x hx=>C.has x (by
  rcases hx with k|k
  ·exact⟨.inr (.inl k),by rw[show(relabel scope X.env).names.lookup x=some .cell from k];decide⟩
  ·exact⟨.inr (.inr k),by rw[show(relabel scope X.env).names.lookup x=some .free from k];decide⟩)
 cab:=fun x c h=>absurd (show false=true from h) (by decide)
 hd:=I.ok.hd
 frames:=I.ok.frames
 stk:=.inl rfl
 exf:=fun b hb=>⟨Nat.ne_of_lt (hlt b hb),fun x c h=>(hf b hb).2.2.2.2.1 x c (C.cells x c h)⟩
 bs:=I.bs
 bsz:=Nat.le_trans I.ok.bsz I.sz
 noex:=fun b o e hb=>by
  rcases(hf b hb).2.2.2.1 with z|z
  ·exact I.ok.noex b o e z
  ·exact absurd (Nat.lt_of_lt_of_le (Heap.lt_size (I.ok.bs b o e).1) z) (Nat.lt_irrefl _)
 exfs:=fun b hb z=>by
  rcases List.mem_cons.mp (I.mU b z) with e|e
  ·exact(hf b hb).2.1 e
  ·exact(hf b hb).2.2.1 e
 fW:=I.stack
 frf:=I.li
theorem aX.start(C:aX X scope cl N sel){s₃:Shared}{H₃:Hp}{fp:List Addr}{h':Heap}(I:Inv X pins σ H₃ s₃)(hf:∀b∈fp,cT X pins H₃ b)(hlt:∀b∈fp,b<s₃.heap.objs.size)
  (hn:h'.Ns s₃.heap.objs.size (fun _=>none))(k:∀b o,s₃.heap.get? b=some o->h'.get? b=some o)(tk:Nat):Inv (cC X scope cl N s₃ H₃ fp) [] (fG sel σ) H₃ {s₃ with heap:=h',toks:=tk}:=by
 refine⟨C.ok I hf hlt,rfl,I.bare,Un.kept k,⟨_,hn,fun j x v h1 h2 h3=>?_⟩,fun x c h=>?_,I.hok.fresh (Nat.le_refl _),fun x c h=>I.freeC x c (C.cells x c h),fun p hp=>absurd (show p∈([]:List (Addr×Obj)) from hp) (by simp),I.hok.kept k,?_⟩
 ·obtain⟨i,e1,e2⟩:=rT h2;obtain⟨y,n1,n2,⟨vis,nl⟩,nl'⟩:=C.names j i e1;have e:x=y:=by
   have z:N[j]? =some x:=h1;rw[n2] at z;exact(Option.some.inj z).symm
  subst e;obtain⟨m,hm,hl⟩:=I.loc;obtain⟨u,r,l⟩:=hl i x v n1 e2 vis;rcases l with ⟨k1,_⟩|⟨_,c,hc,hcell⟩
  ·exact absurd k1 nl
  ·refine⟨u,r,.inr ⟨?_,?_⟩⟩
   ·rcases h3 with z|z|z
    ·exact absurd z nl'
    ·exact .inl z
    ·exact .inr z
   ·obtain⟨c',hc'⟩:=C.has x ⟨h3,nl'⟩;have e:=C.cells x c' hc';rw[hc] at e;cases e
    obtain⟨o,ho,hd⟩:=hcell;exact⟨c,hc',o,k c o ho,hd⟩
 ·obtain⟨v,o,ho,hd⟩:=I.cell x c (C.cells x c h);exact⟨v,o,k c o ho,hd⟩
 ·unfold fG;rw[aaa];exact C.len
theorem aX.back(C:aX X scope cl N sel){s₃ s':Shared}{H₃ H':Hp}{fp:List Addr}{τ:St}{pl:List (Addr×Obj)}(I:Inv X pins σ H₃ s₃)(hf:∀b∈fp,cT X pins H₃ b)
  (J:Inv (cC X scope cl N s₃ H₃ fp) pl τ H' s'){h':Heap}(hs:Heap.SameBut s₃.heap.objs.size s'.heap h'):Inv X pins σ H' {s' with heap:=h'}:=by
 have fr:H' s₃.heap.objs.size=none:=J.free;have lt:∀b o,s₃.heap.get? b=some o->b≠s₃.heap.objs.size:=fun b o e=>Nat.ne_of_lt (Heap.lt_size e)
 have u:Un (frs X.stack) fp H₃ H' s₃.heap h':=by
  have u0:Un (frs X.stack) fp H₃ H' s₃.heap s'.heap:=J.base;exact⟨fun b o e n h1 h2=>hs.extBut b o (lt b o e) (u0.keep b o e n h1 h2),fun b o e n h1 h2=>by
    obtain⟨sl,q⟩:=u0.slot b o e n h1 h2;exact⟨sl,hs.extBut b _ (lt b o e) q⟩,u0.free,fun b o e h1=>by
    obtain⟨o',q⟩:=u0.there b o e h1;exact⟨o',hs.extBut b _ (lt b o e) q⟩,u0.tups,u0.frzs,u0.tbls⟩
 refine I.yN (s':={s' with heap:=h'}) (ch:=fp) J.os u (fun a o e=>?_) J.bare fun b hb=>⟨(hf b hb).2.2.2.1,(hf b hb).2.1,(hf b hb).2.2.2.2.1,(hf b hb).2.2.2.2.2⟩
 have ne:∀b x,H' b=some x->b≠s₃.heap.objs.size:=fun b x q z=>by rw[z,fr] at q;cases q
 refine(J.hok a o e).eO (fun b u hb q=>hs.extBut b u ?_ q) (fun _ q=>q) fun _ _ q=>q
 rcases hb with z|z
 ·rw[z];exact ne a o e
 ·exact ne b _ z
theorem l3(C:aX X scope cl N sel){tg iter elt:Expr}{ifs:List Expr}{wi:TI}{g:TG}{tc:TT}{te:TE}{pos:Pos}(hc:X.calm=true)(hi:PI X tg iter wi)
  (hg:∀s₃ H₃ fp,PG (cC X scope cl N s₃ H₃ fp) tg g)(ht:∀s₃ H₃ fp,PIf (cC X scope cl N s₃ H₃ fp) ifs tc)(he:∀s₃ H₃ fp,PE (cC X scope cl N s₃ H₃ fp) elt te)
  {RR:Value->Addr->Result->Shared->Prop}{R:VK}(I:Inv X pins σ H s)(h:qf sel wi g tc te σ H R)
  (fin:∀D C' H' s' m,R (.ref D) H'->s'.heap.Ns C' m->cT X pins H' C'->(∀h',Heap.SameBut C' s'.heap h'->Inv X pins σ H' {s' with heap:=h'})->RR (.ref D) C' (.ok .next) s') :
  wpAny (model X.prog X.w) X.A (eval iter X.env) (fun x s₁=>wpAny (model X.prog X.w) X.A (pyIter x) (fun it s₂=>wpAny (model X.prog X.w) X.A (newList []) (fun acc s₃=>
   wpAny (model X.prog X.w) X.A (newFunctionEnv scope X.env.globals cl [] X.env.qual none .none (some X.env)) (fun cenv s₄=>
    codeAny (model X.prog X.w) X.A (.compStart (.ListComp elt [⟨tg,iter,ifs,0⟩] scope pos) 0 it acc {cenv with scope:=relabel scope X.env}) (RR acc cenv.locals) s₄) X.xe s₃) X.xe s₂) X.xe s₁) X.xe s:=by
 refine thn (hi pins s σ H _ I h) fun v s1 h1=>thn h1 fun itv s2 h2=>?_
 obtain⟨it,fp,tn,J,H2,e,I2,T,st2,f2,hD⟩:=h2;subst e;have frD:H2 s2.heap.objs.size=none:=I2.fresh;obtain⟨W,⟨m0,w0⟩,turn⟩:=hD s2.heap.objs.size frD;refine wpAny_newObj_type ?_;have I3:Inv X pins σ (upd H2 s2.heap.objs.size (.lst [])) {s2 with heap:=s2.heap.push {cls:=.type "list",data:=.seq ([]:List Value).toArray},toks:=s2.toks}:=I2.tO (its:=[]) .nil (Nat.zero_le _);have lt2:∀b∈fp,b<s2.heap.objs.size:=fun b hb=>by
  obtain⟨o,e,_⟩:=T.obj _ _ st2 b hb;exact Heap.lt_size e
 have f3:∀b∈fp,cT X pins (upd H2 s2.heap.objs.size (.lst [])) b:=fun b hb=>⟨by rw[am (Nat.ne_of_lt (lt2 b hb))];exact(f2 b hb).1,(f2 b hb).2⟩
 generalize eH:upd H2 s2.heap.objs.size (.lst [])=H3 at I3 f3 w0;have hD3:H3 s2.heap.objs.size=some (.lst []):=by rw[←eH];exact aa
 generalize es:({s2 with heap:=s2.heap.push {cls:=.type "list",data:=.seq ([]:List Value).toArray},toks:=s2.toks}:Shared)=s3 at I3;have st3:tn 0 s3.heap:=by
  rw[←es];exact T.keep _ _ _ st2 fun b _ o e=>aaf _ e
 have lt3:∀b∈fp,b<s3.heap.objs.size:=fun b hb=>by
  obtain⟨o,e,_⟩:=T.obj _ _ st3 b hb;exact Heap.lt_size e
 refine wpAny_newFunctionEnv C.nocell (fun x hx=>by simp at hx) (fun h4 hn4 hs4=>?_) C.kind;have k4:∀b o,s3.heap.get? b=some o->h4.get? b=some o:=fun b o e=>hs4.extBut b o (Nat.ne_of_lt (Heap.lt_size e)) (aaf _ e)
 have I4:=C.start (tk:=s3.toks+([]:List (Str×Value)).length) I3 f3 lt3 (by simpa using hn4) k4;have st4:tn 0 h4:=T.keep _ _ _ st3 fun b _ o e=>k4 b o e
 have stat:∀{H':Hp},(∀b∈fp,H' b=none)->∀b∈fp,cT (cC X scope cl N s3 H3 fp) [] H' b:=fun hn b hb=>
  ⟨hn b hb,Nat.ne_of_lt (lt3 b hb),(C.ok I3 f3 lt3).exfs b hb,.inl hb,fun x c h=>(f3 b hb).2.2.2.2.1 x c (C.cells x c h),fun p hp=>absurd (show p∈([]:List (Addr×Obj)) from hp) (by simp)⟩
 have loop:codeAny (model X.prog X.w) X.A (.compLoop (.ListComp elt [⟨tg,iter,ifs,0⟩] scope pos) 0 (.ref it) (.ref s2.heap.objs.size) (compEnvC scope cl s3.heap.objs.size X.env)) (RR (.ref s2.heap.objs.size) s3.heap.objs.size)
   {s3 with heap:=h4,toks:=s3.toks+([]:List (Str×Value)).length}:=by
  refine nr (fun n s'=>∃i τ H',Inv (cC X scope cl N s3 H3 fp) [] τ H' s'/\tn i s'.heap/\(∀b∈fp,H' b=none)/\W i n τ H') ?_ m0 ⟨0,fG sel σ,H3,I4,st4,fun b hb=>(f3 b hb).1,w0⟩;rintro n s5 ⟨i,τ5,H5,I5,st5,fr5,w5⟩;rcases turn i n τ5 H5 w5 with ⟨stop,q⟩|⟨go,Nx,hNx,step⟩
  ·refine thn (T.done (cC X scope cl N s3 H3 fp) rfl rfl rfl hc i [] s5 τ5 H5 _ I5 (stat fr5) st5 stop) fun r s6 ⟨hr,I6⟩=>?_
   subst hr;obtain⟨m6,hn6,_⟩:=id I6.loc;exact fin _ _ H5 s6 m6 q hn6 (I3.gW (Nat.le_refl _) I6.free) fun h' hs'=>C.back I3 f3 I6 hs'
  ·refine thn (T.item (cC X scope cl N s3 H3 fp) rfl rfl rfl hc i [] s5 τ5 H5 _ I5 (stat fr5) st5 go) fun r s6 ⟨u,hr,h6⟩=>?_
   subst hr;refine thn h6 fun _ s7 ⟨x,H7,I7,r7,y7,st7,fr7⟩=>?_
   have I7':=I7.pinned (stat fr7) (T.obj _ _ st7);have dg:∀{τ':St} {H':Hp} {s':Shared},Inv (cC X scope cl N s3 H3 fp) ([]++iZ fp s7.heap) τ' H' s'->tn (i+1) s'.heap/\∀b∈fp,H' b=none:=fun{τ' H' s'} Iz=>
    ⟨T.keep _ _ _ st7 fun b hb o e=>(Iz.pin (b,o) (aar _ (aar _ (ga hb e)))).1,fun b hb=>by
     obtain⟨o,e,d⟩:=T.obj _ _ st7 b hb;exact(Iz.pin (b,o) (aar _ (aar _ (ga hb e)))).2.1⟩
   refine thn (hg s3 H3 fp _ s7 τ5 H7 x u _ I7' r7 (step x H7 y7)) fun _ s8 ⟨τ8,H8,I8,q8⟩=>?_
   refine thn (ht s3 H3 fp _ s8 τ8 H8 _ I8 q8) fun ok s9 ⟨H9,I9,q9⟩=>?_
   cases ok with
   |false=>
    obtain⟨m',hm,w9⟩:=hNx _ _ (show Nx τ8 H9 from q9);exact⟨m',hm,i+1,τ8,H9,I9.fu,(dg I9).1,(dg I9).2,w9⟩
   |true=>
    have q9:te τ8 H9 _:=q9;refine thn (he s3 H3 fp _ s9 τ8 H9 _ I9 q9) fun y s10 ⟨yv,H10,I10,r10,q10⟩=>?_
    obtain⟨ys,hys,hl,n10⟩:=q10;obtain⟨m',hm,w10⟩:=hNx _ _ n10;refine thn (a8 (X:=cC X scope cl N s3 H3 fp) _ s10 τ8 H10 (.ref s2.heap.objs.size) [yv] (.ref s2.heap.objs.size) [y] (fun _ H'=>W (i+1) m' τ8 H') I10 rfl (.cons r10 .nil) ⟨_,ys,yv,rfl,rfl,hys,hl,w10⟩) fun _ s11 ⟨_,H11,I11,_,w11⟩=>?_
    exact⟨m',hm,i+1,τ8,H11,I11.fu,(dg I11).1,(dg I11).2,w11⟩
 exact codeAny_compStart_list loop (T.self X.A 0 _ _ _ st4 loop)
theorem cY(C:aX X scope cl N sel){tg iter elt:Expr}{ifs:List Expr}{wi:TI}{g:TG}{tc:TT}{te:TE}{pos:Pos}(hc:X.calm=true)(hi:PI X tg iter wi)
  (hg:∀s₃ H₃ fp,PG (cC X scope cl N s₃ H₃ fp) tg g)(ht:∀s₃ H₃ fp,PIf (cC X scope cl N s₃ H₃ fp) ifs tc)(he:∀s₃ H₃ fp,PE (cC X scope cl N s₃ H₃ fp) elt te)
  (hs:∀x,foldedSetIterable iter X.env x=pure x:=by intro _;rfl):PE X (.ListComp elt [⟨tg,iter,ifs,0⟩] scope pos) (qf sel wi g tc te):=by
 intro pins s σ H Q I h;rw[eval_ListComp];refine wpAny_comprehension_free (use:=none) rfl hs C.clos C.kind C.locs (l3 C hc hi hg ht he I h (R:=Q) fun D C' H' s' m q hn _ back=>?_);exact⟨m,hn,fun h' hs'=>⟨.ref D,H',back h' hs',rfl,q⟩⟩
theorem fe(C:aX X scope cl N sel){tg iter elt:Expr}{ifs:List Expr}{wi:TI}{g:TG}{tc:TT}{te:TE}{pos spos py:Pos}{y:Str}{k:Nat}(hc:X.calm=true)(hN:X.N.Nodup)(hk:X.N[k]? =some y)(hy:Loc X.env.scope y)(hi:PI X tg iter wi)
  (hg:∀s₃ H₃ fp,PG (cC X scope cl N s₃ H₃ fp) tg g)(ht:∀s₃ H₃ fp,PIf (cC X scope cl N s₃ H₃ fp) ifs tc)(he:∀s₃ H₃ fp,PE (cC X scope cl N s₃ H₃ fp) elt te)
  (hsw:swapsWith (.ListComp elt [⟨tg,iter,ifs,0⟩] scope pos) (some (.Name y py)) spos.line X.env=pure true:=by rfl)
  (hs:∀x,foldedSetIterable iter X.env x=pure x:=by intro _;rfl)(hf:X.fn y=true\/X.env.scope.names.lookup y=some .local:=by first | exact .inl rfl | exact .inr rfl | assumption) :
  PS X (.Assign [.Name y py] (.ListComp elt [⟨tg,iter,ifs,0⟩] scope pos) spos) (pU (qf sel wi g tc te) (jy k)):=by
 intro pins s σ H D I h;rw[exec_Assign_Name_used _ _ _ _ hsw];refine wpAny_bind (wpAny_standAt (wpAny_bind ?_));show wpAny _ X.A (do let _ ←comprehension (.ListComp elt [⟨tg,iter,ifs,0⟩] scope pos) scope X.env _ (newList []) false (eval iter X.env) (some (assign (.Name y py) X.env))) _ _ s;refine wpAny_bind (wpAny_mono (wpAny_comprehension_free (use:=some (assign (.Name y py) X.env)) (Q:=fun _ s'=>SP X pins D .next s') rfl hs C.clos C.kind C.locs
  (l3 C hc hi hg ht he I h (R:=fun x H1=>D.nx (σ.set k (some x)) H1) fun D' C' H' s' m q hn fC back=>?_)) (fun _ s' hq=>wpAny_pure (wpAny_pure hq)) fun _ _ e=>e)
 show wpAny (model X.prog X.w) X.A (assign (.Name y py) X.env (.ref D')) _ _ s';have I':Inv X pins σ H' s':=back s'.heap (.refl ..);obtain⟨oC,hoC,hdC⟩:∃o,s'.heap.get? C'=some o/\∀v,o.data≠.cell v:=by
  obtain⟨o,es,ep,ho,hd,_⟩:=id hn;exact⟨o,ho,fun v z=>by rw[hd] at z;cases z⟩
 have I'':Inv X (pins++[(C',oC)]) σ H' s':=I'.gl fun p hp=>by
  rcases aak.mp hp with z|z
  ·exact I'.pin p (aar _ z)
  ·have e:p=(C',oC):=by simpa using z
   subst e;exact⟨hoC,fC.1,fC.2.1,fC.2.2.1,hdC⟩
 refine wpAny_assign_Name (j0 I'' hN hk hy (v:=.ref D') rfl (fun s2 I2=>?_) hf);have p2:=I2.pin (C',oC) (aar _ (aar _ (by simp)));refine⟨m,?_,fun h' hs'=>⟨σ.set k (some (.ref D')),H',?_,q⟩⟩
 ·obtain⟨o,es,ep,ho,r⟩:=hn;rw[hoC] at ho;cases ho;exact⟨oC,es,ep,p2.1,r⟩
 ·exact I2.fu.turned (t':=s2.toks) (fun b o hb e=>hs'.extBut b o hb e) fC.1 fC.2.1 fC.2.2.2.1 fC.2.2.2.2.1 fC.2.2.2.2.2
end
end L2
namespace SL
open PySem
def c6:Value->Str
 |.str x _=>x
 |_=>Str.empty
def gc(w:World)(e:Int×Value):Prop:=∃k t,e=(hashStr w k,Value.str k t)
def be(w:World)(h:Heap)(a:Addr)(L:List Str):Prop:=
 ∃o es ep t,h.get? a=some o/\o.ExactSet/\o.data=.set es ep t/\(∀e∈es.toList,gc w e)/\(es.toList.map fun e=>c6 e.2).Perm L/\L.Nodup/\es.size<scanBound/\t.fits es.size=true
  /\t.led=(!w.params.followText "set-order")/\(t.plain=true->es.size=0)
theorem wf(t:SetTable)(j:Nat):(t.put j).1.led=t.led:=by
 unfold SetTable.put;first | rfl | (split <;> rfl) | (dsimp only;split <;> rfl)
theorem rU(t:SetTable)(j:Nat):(t.put j).1.plain=t.plain:=by
 unfold SetTable.put;first | rfl | (split <;> rfl) | (dsimp only;split <;> rfl)
theorem mt(t:SetTable)(n:Nat):(t.orStandIn n).led=t.led:=by
 unfold SetTable.orStandIn;split <;> rfl
theorem kz(t:SetTable)(n:Nat)(h:t.plain=false):(t.orStandIn n).plain=false:=by
 unfold SetTable.orStandIn;split
 ·exact h
 ·rfl
theorem qg(t:SetTable)(es:Array (Int×Value))(h:Int)(x:Value):(layNew t es h x).2.1.led=t.led:=by
 unfold layNew;split
 ·dsimp only;rw[mt,wf]
 ·rfl
theorem nv(t:SetTable)(es:Array (Int×Value))(h:Int)(x:Value)(hp:t.plain=false):(layNew t es h x).2.1.plain=false:=by
 unfold layNew;split
 ·dsimp only;exact kz _ _ (by rw[rU];exact hp)
 ·rfl
theorem kA{t t':SetTable}{hs:Array Int}{n:Nat}{o:Array Nat}(e:t.relaid hs n=some (t',o)):t'.led=t.led/\t'.plain=t.plain:=by
 unfold SetTable.relaid SetTable.laid at e;cases q:SetTable.layClean (SetTable.sizeAbove n - 1) hs with
 |none=>rw[q] at e;cases e
 |some ow=>
  rw[q] at e;simp only[Option.bind_eq_bind,Option.bind_some] at e;have e:=Option.some.inj e;have e1:=congrArg Prod.fst e;constructor
  ·exact(congrArg SetTable.led e1).symm
  ·exact(congrArg SetTable.plain e1).symm
theorem ny(t:SetTable)(es:Array (Int×Value))(n:Nat):(relayAll t es n).2.1.led=t.led:=by
 unfold relayAll;split
 ·rename_i t' o e;dsimp only;split
  ·exact(kA e).1
  ·rfl
 ·rfl
theorem lp(t:SetTable)(es:Array (Int×Value))(n:Nat)(h:t.plain=false):(relayAll t es n).2.1.plain=false:=by
 unfold relayAll;split
 ·rename_i t' o e;dsimp only;split
  ·rw[(kA e).2];exact h
  ·rfl
 ·rfl
end SL
namespace SL
open PySem
section
variable {prog:Program}{w:World}{A:Around}{E:Value->Shared->Prop}{s:Shared}{a:Addr}{L:List Str}
theorem gc.of{w:World}(prog:Program){e:Int×Value}(h:gc w e):(∃k,(strKind prog w).is k e.2=true/\e.1=(strKind prog w).hash k)/\e.2.scannable=true:=by
 obtain⟨k,t,rfl⟩:=h;exact⟨⟨k,by simp[strKind,Value.isStrOf],rfl⟩,rfl⟩
theorem kB{w:World}{prog:Program}{e:Int×Value}(h:gc w e)(k:Str):(strKind prog w).is k e.2=true↔c6 e.2=k:=by
 obtain⟨x,t,rfl⟩:=h;show Value.isStrOf k (.str x t)=true↔x=k;constructor
 ·intro q;obtain⟨u,e⟩:=Value.isStrOf_shape q;injection e
 ·intro e;subst e;simp[Value.isStrOf]
theorem lq{w:World}(prog:Program){l:List (Int×Value)}(h:∀e∈l,gc w e):ElemsOf (strKind prog w) l:=fun e he=>(h e he).of prog
theorem be.setOf(prog:Program){h:Heap}(S:be w h a L):h.SetOf (strKind prog w) a (fun k=>decide (k∈L)) L.length:=by
 obtain⟨o,es,ep,t,ho,hex,hd,hel,hp,nd,hb,hf,_,_⟩:=S;refine⟨o,es,ep,t,ho,hex,hd,lq prog hel,fun k=>?_,hb,hf,?_⟩
 ·rw[decide_eq_true_eq,←hp.mem_iff,aao];exact⟨fun⟨e,he,q⟩=>⟨e,he,(kB (hel e he) k).mpr q⟩,fun⟨e,he,q⟩=>⟨e,he,(kB (hel e he) k).mp q⟩⟩
 ·have:=hp.length_eq;rw[aaa,Array.length_toList] at this;exact this
theorem be.at{h h':Heap}(S:be w h a L)(k:∀o,h.get? a=some o->h'.get? a=some o):be w h' a L:=by
 obtain⟨o,es,ep,t,ho,r⟩:=S;exact⟨o,es,ep,t,k o ho,r⟩
theorem be.there{h:Heap}(S:be w h a L):∃o,h.get? a=some o:=by
 obtain⟨o,es,ep,t,ho,r⟩:=S;exact⟨o,ho⟩
theorem tS{Q:Value->Shared->Prop}
  (h:∀h',be w h' s.heap.objs.size []->(∀b o,s.heap.get? b=some o->h'.get? b=some o)->Q (.ref s.heap.objs.size) {s with heap:=h'}) :
  wpAny (model prog w) A (newSet (.type "set")) Q E s:=by
 unfold newSet setsByText;refine wpAny_bind (wpAny_bind (wpAny_askSetting (wpAny_pure ?_)));dsimp only;simp only[newObj];refine wpAny_bind (wpAny_alloc (wpAny_pure (h _ ⟨_,#[],0,_,aay _ rfl,⟨rfl,rfl,rfl⟩,rfl,fun e he=>by simp at he,.refl _,List.nodup_nil,by decide,by rfl,rfl,fun _=>rfl⟩ fun b o e=>aaf _ e)))
def cU(L:List Str)(x:Str):List Str:=if x∈L then L else L++[x]
theorem iE{L:List Str}{x:Str}(h:L.Nodup):(cU L x).Nodup:=by
 unfold cU;split
 ·exact h
 ·rename_i hx;rw[List.nodup_append];refine⟨h,by simp,fun a ha b hb=>?_⟩;rw[aaj] at hb;subst hb;exact fun e=>hx (e▸ha)
theorem nC{L:List Str}{x y:Str}:y∈cU L x↔y∈L\/y=x:=by
 unfold cU;split
 ·rename_i hx;exact⟨.inl,fun z=>z.elim id fun e=>e▸hx⟩
 ·rw[aak,aaj]
theorem jP{x:Str}{t₀:Tok}{Q:Bool->Shared->Prop}(S:be w s.heap a L)(hroom:L.length+1<scanBound)
  (h:∀h',Heap.SameBut a s.heap h'->be w h' a (cU L x)->Q (!decide (x∈L)) {s with heap:=h'}) :
  wpAny (model prog w) A (setAddHashed a (.str x t₀) (hashStr w x)) Q E s:=by
 have hkey:(strKind prog w).is x (.str x t₀)=true:=by simp[strKind,Value.isStrOf]
 obtain⟨o,es,ep,t,ho,hex,hd,hel,hp,nd,hb,hf,hled,hpl⟩:=id S;have hn:es.size=L.length:=by
  have:=hp.length_eq;rw[aaa,Array.length_toList] at this;exact this
 have hb1:es.size+1<scanBound:=by rw[hn];exact hroom
 unfold setAddHashed setAddHashedIn;refine wpAny_holding (wpAny_bind (wpAny_setState_of ho hd hf ?_));dsimp only;rw[byScan_of (knd:=strKind prog w) rfl hb (lq prog hel)];simp only[↓reduceIte];unfold setAddByScan;refine wpAny_bind ?_;refine wpAny_bind (wpAny_rule ?_);refine wpAny_bind (wpAny_setScan_of (knd:=strKind prog w) (k:=x) hkey ho hd hf (lq prog hel) ?_);cases hr:List.findIdx? (fun e=>(strKind prog w).is x e.2) es.toList with
 |some j=>
  dsimp only;obtain⟨hj,hpj,_⟩:=List.findIdx?_eq_some_iff_getElem.mp hr;have hx:x∈L:=by
   rw[←hp.mem_iff,aao];exact⟨_,List.getElem_mem hj,(kB (hel _ (List.getElem_mem hj)) x).mp hpj⟩
  refine wpAny_pure (wpAny_pure ?_);have e:s={s with heap:=s.heap}:=by cases s;rfl
  have q:=h s.heap (Heap.SameBut.refl a s.heap) (by rw[cU,if_pos hx];exact S);rw[aan hx] at q;rw[e];exact q
 |none=>
  dsimp only;have hx:¬x∈L:=by
   rw[←hp.mem_iff,aao];rintro⟨e,he,q⟩;have z:=List.findIdx?_eq_none_iff.mp hr e he;rw[(kB (hel e he) x).mpr q] at z;cases z
  have hgw:∀(b:Bool) {s₁:Shared} {Q':Unit->Shared->Prop},Q' () s₁->wpAny (model prog w) A (match b with | true=>rule "set.scan.the-table-gave-way" | false=>pure ()) Q' E s₁:=
   fun b s₁ Q' hq=>by cases b <;> first | exact wpAny_pure hq | exact wpAny_rule hq
  have hperm:=layNew_perm t es (hashStr w x) (.str x t₀);have hfits:=layNew_fits t es (hashStr w x) (.str x t₀);have hledN:=qg t es (hashStr w x) (.str x t₀);have hplN:=nv t es (hashStr w x) (.str x t₀);generalize hL:layNew t es (hashStr w x) (.str x t₀)=L0 at hperm hfits hledN hplN ⊢;obtain⟨es1,t1,wasDummy,gave⟩:=L0;dsimp only at hperm hfits hledN hplN ⊢;rw[Array.toList_push] at hperm;have hel1:∀e∈es1.toList,gc w e:=fun e he=>by
   rcases aak.mp (hperm.mem_iff.mp he) with z|z
   ·exact hel e z
   ·rw[aaj] at z;exact⟨x,t₀,z⟩
  have hp1:(es1.toList.map fun e=>c6 e.2).Perm (L++[x]):=by
   refine(hperm.map _).trans ?_;rw[aam];exact hp.append_right _
  have hsz1:es1.size=es.size+1:=by rw[←Array.length_toList,hperm.length_eq,aag,Array.length_toList];rfl
  have hb1':es1.size<scanBound:=by rw[hsz1];exact hb1
  have nd1:(L++[x]).Nodup:=by
   have:=iE (x:=x) nd;rw[cU,if_neg hx] at this;exact this
  refine wpAny_bind (hgw _ ?_);have tail:∀t2:SetTable,t2.fits es1.size=true->t2.led=t.led->t2.plain=false->wpAny (model prog w) A (do
    storeSet a es1 t2
    if (!wasDummy && t2.tooFull)=true then do
      (match (relayAll t2 es1 (SetTable.grown es1.size)).2.2 with | true=>rule "set.scan.the-table-gave-way" | false=>pure ())
      storeSet a (relayAll t2 es1 (SetTable.grown es1.size)).1 (relayAll t2 es1 (SetTable.grown es1.size)).2.1
      pure (some true)
     else pure (some true)) (fun r s'=>r=some true/\∃h',s'={s with heap:=h'}/\Heap.SameBut a s.heap h'/\be w h' a (L++[x])) E s:=by
   intro t2 f2 l2 p2;refine wpAny_bind (wpAny_storeSet_of ho hd ?_ (fits_of_scanBound hb1'));have hsb1:=Heap.SameBut.update s.heap a (Obj.putSet es1 t2);have ho1:(s.heap.update a (Obj.putSet es1 t2)).get? a=some {o with data:=.set es1 (ep+1) t2}:=by
    have:=Heap.get?_update_self (Obj.putSet es1 t2) ho (by rw[putSet_of es1 t2 hd];rfl);rw[putSet_of es1 t2 hd] at this;exact this
   have fin:∀{h1:Heap} {o1:Obj} {e2:Array (Int×Value)} {n2:Nat} {t3:SetTable},h1.get? a=some o1->o1.ExactSet->o1.data=.set e2 n2 t3->e2.toList.Perm es1.toList->t3.fits e2.size=true->t3.led=t.led->t3.plain=false->be w h1 a (L++[x]):=by
    intro h1 o1 e2 n2 t3 q1 q2 q3 pq q4 q5 q6;refine⟨o1,e2,n2,t3,q1,q2,q3,fun e he=>hel1 e (pq.mem_iff.mp he),(pq.map _).trans hp1,nd1,?_,q4,q5.trans hled,fun z=>by rw[q6] at z;cases z⟩;have:e2.size=es1.size:=by rw[←Array.length_toList,pq.length_eq,Array.length_toList]
    rw[this];exact hb1'
   split
   ·have hpr:=relayAll_perm t2 es1 (SetTable.grown es1.size);have hfr:=relayAll_fits t2 es1 (SetTable.grown es1.size);have hlr:=ny t2 es1 (SetTable.grown es1.size);have hplr:=lp t2 es1 (SetTable.grown es1.size) p2;generalize hRl:relayAll t2 es1 (SetTable.grown es1.size)=Rl at hpr hfr hlr hplr ⊢;obtain⟨es2,t3,gave2⟩:=Rl;dsimp only at hpr hfr hlr hplr ⊢;have hsz:es2.size=es1.size:=by rw[←Array.length_toList,hpr.length_eq,Array.length_toList]
    have hb2:es2.size<scanBound:=by rw[hsz];exact hb1'
    refine wpAny_bind (hgw _ ?_);refine wpAny_bind (wpAny_storeSet_of ho1 rfl ?_ (fits_of_scanBound hb2));have ho2:=Heap.get?_update_self (Obj.putSet es2 t3) ho1 (by rw[putSet_of es2 t3 rfl];rfl);rw[putSet_of es2 t3 rfl] at ho2;exact wpAny_pure ⟨rfl,_,rfl,hsb1.trans (Heap.SameBut.update _ a _),fin ho2 hex rfl hpr hfr (hlr.trans l2) hplr⟩
   ·exact wpAny_pure ⟨rfl,_,rfl,hsb1,fin ho1 hex rfl (.refl _) f2 l2 p2⟩
  have done:∀r s',(r=some true/\∃h',s'={s with heap:=h'}/\Heap.SameBut a s.heap h'/\be w h' a (L++[x]))->r=some true/\Q true s':=by
   rintro r s' ⟨rfl,h',rfl,hs,S'⟩;have q:=h h' hs (by rw[cU,if_neg hx];exact S');rw[aai hx] at q;exact⟨rfl,q⟩
  split
  ·rename_i hp1';refine wpAny_bind ?_;rw[hashByValue_scannable 8 (show(Value.str x t₀).scannable=true from rfl)];refine wpAny_pure ?_;refine wpAny_mono (tail _ ?_ ?_ ?_) (fun r s' q=>?_) fun _ _ e=>e
   ·exact SetTable.fits_plain_off hfits
   ·exact hledN
   ·rfl
   ·obtain⟨rfl,q'⟩:=done r s' q;exact wpAny_pure q'
  ·rename_i hp1';refine wpAny_bind (wpAny_pure ?_);simp only[↓reduceIte];refine wpAny_mono (tail t1 hfits hledN (by cases z:t1.plain with | false=>rfl | true=>exact absurd z hp1')) (fun r s' q=>?_) fun _ _ e=>e
   obtain⟨rfl,q'⟩:=done r s' q;exact wpAny_pure q'
theorem xN{x:Str}{t₀:Tok}{Q:Option Nat->Shared->Prop}(S:be w s.heap a L)(h:∀r:Option Nat,r.isSome=decide (x∈L)->Q r s) :
  wpAny (model prog w) A (setFind a (.str x t₀) (hashStr w x)) Q E s:=
 wpAny_setFind_of (knd:=strKind prog w) (k:=x) (by simp[strKind,Value.isStrOf]) rfl (S.setOf prog) h
end
end SL
namespace SL
open PySem PySem.Spec
def gz(val:Nat->Str)(i:Nat):List Str:=((List.range i).map val).foldl cU []
theorem l4(val:Nat->Str)(i:Nat):gz val (i+1)=cU (gz val i) (val i):=by
 unfold gz;rw[List.range_succ,aam,List.foldl_append];rfl
theorem j6(L:List Str)(x:Str):(cU L x).length<=L.length+1:=by
 unfold cU;split
 ·omega
 ·simp
theorem nE(val:Nat->Str):∀i,(gz val i).length<=i
 |0=>Nat.le_refl _
 |i+1=>by
  rw[l4];have:=j6 (gz val i) (val i);have:=nE val i;omega
def aq(ss:List Str):List Str:=ss.foldl cU []
theorem l5:∀(ss L:List Str) (x:Str),x∈ss.foldl cU L↔x∈L\/x∈ss
 |[],L,x=>by simp
 |y::r,L,x=>by
  rw[List.foldl_cons,l5 r,nC,List.mem_cons,or_assoc]
theorem jQ:∀(ss L:List Str),L.Nodup->(ss.foldl cU L).Nodup
 |[],L,h=>h
 |y::r,L,h=>jQ r _ (iE h)
theorem bt{ss:List Str}{x:Str}:x∈aq ss↔x∈ss:=by
 unfold aq;rw[l5];simp
theorem bF(ss:List Str):(aq ss).Nodup:=jQ ss [] List.nodup_nil
theorem l6:∀(ss L:List Str),(ss.foldl cU L).length<=L.length+ss.length
 |[],L=>by simp
 |y::r,L=>by
  have h1:=l6 r (cU L y);have h2:=j6 L y;rw[List.foldl_cons,aau];omega
theorem eY(ss:List Str):(aq ss).length<=ss.length:=by
 have:=l6 ss [];simpa [aq] using this
theorem rV(ss:List Str):gz (fun i=>ss.getD i Str.empty) ss.length=aq ss:=by
 unfold gz aq;have e:(List.range ss.length).map (fun i=>ss.getD i Str.empty)=ss:=by
  apply List.ext_getElem
  ·simp
  ·intro i h1 h2;simp only[List.getElem_map,List.getElem_range];rw[aat,aae h2];rfl
 rw[e]
section
variable {prog:Program}{w:World}{A:Around}{R:Result->Shared->Prop}{I:Addr}{fp wr:List Addr}{G:Array GenState->Array GenState->Prop}{n:Nat}{P:Nat->Value->Prop}{St:Nat->Shared->Prop}
theorem mv(W:WalksS prog w A.in1 I fp wr G n P St)(S:Addr)(hSf:S ∉ fp)
  (val:Nat->Str)(hval:∀i v,P i v->∃t,v=.str (val i) t)(hb:n+1<scanBound) :
  ∀(k i:Nat) (s:Shared),n - i=k->i<=n->St i s->be w s.heap S (gz val i)->
   (∀s',Moved (S::wr) G s s'->be w s'.heap S (gz val n)->R (.ok (.ret .none)) s')->
   codeAny (model prog w) A (.builtin "set.update.loop" ⟨[.ref S,.ref I],[]⟩) R s:=by
 have hSw:S ∉ wr:=fun h=>hSf (W.sub _ h)
 have hsub:∀b∈wr,b∈S::wr:=fun b hb=>aad _ hb
 intro k
 induction k with
 |zero=>
  intro i s hk hi hst hS hR;have hin:i=n:=by omega
  subst hin;refine codeAny_builtin PyProof.Rows.F.entry_set_update_loop ?_;rw[Around.under_plainId PyProof.Rows.F.plain_set_update_loop _];show wpAny _ A.in1 (pyNext (.ref I) >>= _) _ _ s;refine wpAny_bind (W.done s _ _ hst fun s' hm=>?_);show wpAny _ A.in1 (ret Value.none) _ _ s';exact wpAny_pure (hR s' (hm.mono hsub) (hS.at fun o e=>hm.heap S _ hSw e))
 |succ k ih=>
  intro i s hk hi hst hS hR;have hlt:i<n:=by omega
  refine codeAny_builtin PyProof.Rows.F.entry_set_update_loop ?_;rw[Around.under_plainId PyProof.Rows.F.plain_set_update_loop _];show wpAny _ A.in1 (pyNext (.ref I) >>= _) _ _ s;refine wpAny_bind (W.item i s _ _ hlt hst fun v s' hP hst' hm=>?_);obtain⟨t,rfl⟩:=hval i v hP;have hS':be w s'.heap S (gz val i):=hS.at fun o e=>hm.heap S _ hSw e
  show wpAny _ A.in1 (holding [Value.str (val i) t] (setAdd S (.str (val i) t)) >>= _) _ _ s';refine wpAny_bind (wpAny_holding ?_);unfold setAdd;refine wpAny_holding ?_;refine wpAny_bind ((strKind prog w).pyHash (k:=val i) (by simp[strKind,Value.isStrOf]) ?_);have hroom:(gz val i).length+1<scanBound:=by have:=nE val i;omega
  refine jP (x:=val i) (t₀:=t) (s:={s' with toks:=s'.toks+1}) hS' hroom fun h' hsb hS2=>?_
  rw[←l4] at hS2;refine wpAny_pure ⟨plainId_quiet PyProof.Rows.F.plain_set_update_loop _,ih (i+1) _ (by omega) hlt (W.frame _ s' _ _ hst' (Nat.le_succ _) fun b hb o e=>?_) hS2 fun s'' hm'' hS''=>?_⟩
  ·rw[hsb.2 b (fun h:b=S=>hSf (by rw[←h];exact hb))];exact e
  ·refine hR s'' (Moved.trans W.gtrans ((hm.mono hsub).then_heap (Nat.le_succ _) fun b o hb e=>?_) hm'') hS'';rw[hsb.2 b (fun h:b=S=>hb (by rw[h];exact aac))];exact e
end
section
variable {prog:Program}{w:World}{A:Around}{E:Value->Shared->Prop}{s:Shared}
abbrev cK(w:World):Obj:={cls:=.type "set",dict:=none,data:=.set #[] 0 (.fresh 0 0 (!w.params.followText "set-order"))}
theorem wg{h:Heap}{a:Addr}(e:h.get? a=some (cK w)):be w h a []:=
 ⟨_,#[],0,_,e,⟨rfl,rfl,rfl⟩,rfl,fun e he=>by simp at he,.refl _,List.nodup_nil,by decide,by rfl,rfl,fun _=>rfl⟩
theorem lr(a:Value){Q₁:Value->Shared->Prop}(h:Q₁ (.ref s.heap.objs.size) {s with heap:=s.heap.push (cK w)}) :
  codeAny (model prog w) A (.call (.builtin "set.__new__") ⟨[.type "set",a],[]⟩) (wants Q₁ E) s:=by
 refine codeAny_of_tree ?_;show wpAny _ A.in1 (do checkBuiltinCall "set.__new__" ⟨[.type "set",a],[]⟩;again (.builtin "set.__new__" ⟨[.type "set",a],[]⟩)) _ _ s;refine wpAny_bind (wpAny_of_eq (F.newCall_set_1 a) (wpAny_pure ⟨plainId_quiet F.plain_set_new _,codeAny_builtin F.entry_set_new ?_⟩));rw[Around.under_plainId F.plain_set_new _];unfold Builtin.«set.__new__» Builtin.Frozenset.newClass;have hsub:=sub_set_self;obtain⟨hp,g,d,tk,os⟩:=s;dsimp only
 wp_walk
 refine wpAny_askSetting (wpAny_pure ?_);dsimp only;simp only[newObj];refine wpAny_bind (wpAny_alloc (wpAny_pure ?_));exact wpAny_pure h
set_option maxHeartbeats 8000000 in
theorem mw{l:Addr}{items:Array Value}{ss:List Str}{Q:Value->Shared->Prop}
  (hh:A.handled=none)(hl:s.heap.IsList l items)(hi:∀(i:Nat) (v:Value),items[i]? =some v->∃t,v=.str (ss.getD i Str.empty) t)(hn:items.size=ss.length)(hb:items.size+1<scanBound)
  (h:∀(h':Heap) (tk:Nat),be w h' s.heap.objs.size (aq ss)->
   (∀b o,b<s.heap.objs.size->s.heap.get? b=some o->h'.get? b=some o)->Q (.ref s.heap.objs.size) {s with heap:=h',toks:=tk}) :
  wpAny (model prog w) A (call (.type "set") [.ref l]) Q E s:=by
 obtain⟨c,tl,hmro⟩:=F.called_set.mro;have hmade:=F.called_set.made;have hsub:=F.called_set.sub;refine wpAny_call (codeAny_of_tree ?_);show wpAny _ _ (callAny (.type "set") _) _ _ _;refine wpAny_pure ⟨Code.quiet_builtin _ (by decide +kernel),codeAny_builtin F.entry_type_call ?_⟩;rw[Around.under_plain (weight_type_call_type "set" [.ref l] []) rfl];have h1:=F.called_set.notType;have h2:=F.called_set.canCreate;have hct:=F.typeCall_set_1 (.ref l)
 repeat (any_goals (first | assumption | wp_step))
 refine codeAny_mono (lr (.ref l) (E:=E) (Q₁:=fun obj s₁=>obj=.ref s.heap.objs.size/\s₁={s with heap:=s.heap.push (cK w)}) ⟨rfl,rfl⟩) fun r s₁ hr=>?_
 cases r with
 |error e=>exact hr
 |ok fl=>
  cases fl with
  |ret obj=>
   obtain⟨rfl,rfl⟩:=hr;have hS:(s.heap.push (cK w)).get? s.heap.objs.size=some (cK w):=aay _ rfl;have hT:Shared.TypeIs {s with heap:=s.heap.push (cK w)} (.ref s.heap.objs.size) "set":=⟨_,hS,rfl⟩;have hli:=F.called_set.init.lookup;have hbi:=F.called_set.init.bind (.ref s.heap.objs.size)
   repeat (any_goals (first | assumption | wp_step))
   refine codeAny_mono (codeAny_call_builtin (R:=wants (fun r s₂=>r=.none/\∃h' tk,s₂={s with heap:=h',toks:=tk}/\be w h' s.heap.objs.size (aq ss)/\
     (∀b o,b<s.heap.objs.size->s.heap.get? b=some o->h'.get? b=some o)) E) F.called_set.init.plain F.entry_set_init (check_set_init_1 hT ?_)) fun r₂ s₂ hr₂=>?_
   ·obtain⟨ol,hol,hcl,nl,hdl⟩:=hl;obtain⟨ocls,odict,odata,oslots⟩:=ol;simp only at hcl hdl;subst hcl;subst hdl;have hol':(s.heap.push (cK w)).get? l=some {cls:=.type "list",dict:=odict,data:=.seq items nl,slots:=oslots}:=aaf _ hol;have hsls:=F.sub_list_set;have hslf:=F.sub_list_frozenset;have hne:(Value.type "list" == Value.type "dict")=false:=by decide
    have hl1:(s.heap.push (cK w)).IsList l items:=⟨_,hol',rfl,nl,rfl⟩;unfold Builtin.«set.__init__» noKeywords Builtin.Frozenset.updateFrom;generalize hPI:pyIter=PI
    wp_walk
    subst hPI;refine wpAny_pyIter_list hl1 ?_;refine wpAny_bind (wpAny_runValue ?_);have hlS:l<s.heap.objs.size:=Heap.lt_size hol;have hh3:A.in1.in1.in1.handled=none:=by simp[hh]
    have hneI:l≠(s.heap.push (cK w)).objs.size:=by
     rw[Heap.size_push];exact Nat.ne_of_lt (Nat.lt_succ_of_lt hlS)
    have hSf:s.heap.objs.size ∉ [(s.heap.push (cK w)).objs.size,l]:=by
     rw[Heap.size_push];simp only[List.mem_cons,aaj,List.not_mem_nil,or_false,not_or];exact⟨Nat.ne_of_lt (Nat.lt_succ_self _),Nat.ne_of_gt hlS⟩
    refine mv ((Walks.list hh3 _ l hneI items).toS) s.heap.objs.size
     hSf (fun i=>ss.getD i Str.empty) hi hb (items.size - 0) 0 _ (by omega) (Nat.zero_le _)
     ⟨⟨_,aay _ rfl,rfl,rfl⟩,(hl1.push _)⟩ ?hS0 ?hR
    case hS0=>exact wg (aaf _ hS)
    case hR=>
     intro s' hm hS';rw[hn,rV] at hS';obtain⟨h',g',d',tk',os'⟩:=s';have eg:g'=s.gens:=hm.gens;have ed:d'=s.drawn:=hm.drawn;have eo:os'=s.os:=hm.os;subst eg;subst ed;subst eo;show wpAny _ _ _ _ _ _;refine wpAny_pure ?_;show wpAny _ _ (ret Value.none) _ _ _;refine wpAny_pure ⟨rfl,h',tk',rfl,hS',fun b o hb e=>?_⟩;have hb1:b≠s.heap.objs.size:=Nat.ne_of_lt hb;have hb2:b≠(s.heap.push (cK w)).objs.size:=by
      rw[Heap.size_push];exact Nat.ne_of_lt (Nat.lt_succ_of_lt hb)
     exact hm.heap b o (by simp only[List.mem_cons,aaj,List.not_mem_nil,or_false,not_or];exact⟨hb1,hb2⟩) (aaf _ (aaf _ e))
   ·cases r₂ with
    |error e=>exact hr₂
    |ok fl₂=>
     cases fl₂ with
     |ret r=>
      obtain⟨rfl,h',tk,rfl,hS',hk'⟩:=hr₂
      repeat (any_goals (first | assumption | wp_step))
      exact h _ _ hS' hk'
     |_=>exact hr₂.elim
  |_=>exact hr.elim
end
end SL
namespace SL
open PySem
theorem fX{α:Type}:∀(l:List α) (i:Nat) (h:i<l.length),(l[i]::l.eraseIdx i).Perm l
 |[],i,h=>by simp at h
 |x::r,0,h=>.refl _
 |x::r,i+1,h=>by
  have hi:i<r.length:=by simpa using h
  have:=fX r i hi;show(r[i]::x::r.eraseIdx i).Perm (x::r);exact(List.Perm.swap _ _ _).trans (List.Perm.cons _ this)
theorem pB{α:Type}(next:Nat->Nat):∀(fuel k:Nat) (left:List α) (out:Array α),left.length<=fuel->(pickOrder.go next fuel k left out).toList.Perm (out.toList++left)
 |0,k,left,out,h=>by
  have e:left=[]:=List.length_eq_zero_iff.mp (by omega);subst e;unfold pickOrder.go;simp
 |fuel+1,k,left,out,h=>by
  unfold pickOrder.go;cases e:left[next k % left.length]? with
  |none=>
   have hl:left.length=0:=by
    rcases Nat.eq_zero_or_pos left.length with z|z
    ·exact z
    ·have:=Nat.mod_lt (next k) z;rw[aae this] at e;cases e
   have:left=[]:=List.length_eq_zero_iff.mp hl;subst this;simp
  |some x=>
   dsimp only;obtain⟨hi,hx⟩:=aab.mp e;have hlen:(left.eraseIdx (next k % left.length)).length<=fuel:=by
    rw[List.length_eraseIdx_of_lt hi];omega
   refine(pB next fuel (k+1) _ (out.push x) hlen).trans ?_;rw[Array.toList_push,List.append_assoc];refine List.Perm.append_left _ ?_;have:=fX left _ hi;rw[hx] at this;exact this
theorem hJ{α:Type}(next:Nat->Nat)(xs:Array α):(pickOrder next xs).toList.Perm xs.toList:=by
 unfold pickOrder;have:=pB next xs.size 0 xs.toList #[] (by simp);simpa using this
section
variable {M:Model}{A:Around}{E:Value->Shared->Prop}
theorem nF{src:Source}{n:Nat}{s:Shared}{Q:Nat->Shared->Prop}(hn:n≠0)(h:∀i,i<n->Q i {s with drawn:=s.drawn.bump src}):wpAny M A (choose src n) Q E s:=by
 have hlt:M.w.draws src (s.drawn.get src) % n<n:=Nat.mod_lt _ (Nat.pos_of_ne_zero hn);exact fun _ _ _=>⟨hn,h _ hlt⟩
theorem hV{α:Type}:∀(n:Nat) (xs:List α) (s:Shared) {Q:List α->Shared->Prop},xs.length=n->(∀ys d,ys.Perm xs->Q ys {s with drawn:=d})->wpAny M A (drawOrder n xs) Q E s
 |0,xs,s,Q,hl,h=>by
  have e:xs=[]:=List.length_eq_zero_iff.mp hl;subst e;exact wpAny_pure (h [] s.drawn (.refl _))
 |n+1,[],s,Q,hl,h=>by simp at hl
 |n+1,x::xs,s,Q,hl,h=>by
  unfold drawOrder;refine wpAny_bind (nF (by simp) fun i hi=>?_);have e:(x::xs)[i]? =some (x::xs)[i]:=aae hi;rw[e];dsimp only;refine wpAny_bind (hV n _ _ ?_ fun ys d hp=>wpAny_pure ?_)
  ·rw[List.length_eraseIdx_of_lt hi];simp at hl ⊢;exact hl
  ·refine h _ d ?_;exact(List.Perm.cons _ hp).trans (fX (x::xs) i hi)
end
theorem qh{xs:Array Nat}(h:xs.size<=1):SetTable.below xs 0=0:=by
 unfold SetTable.below;rcases Nat.eq_zero_or_pos xs.size with z|z
 ·rw[z];rfl
 ·have e:xs.size=1:=by omega
  rw[e];unfold SetTable.below.go;simp[SetTable.below.go]
theorem qi{xs:Array Nat}(h:xs.size=1):SetTable.below xs (xs.getD 0 0+1)=1:=by
 unfold SetTable.below;rw[h];obtain⟨j,hj⟩:∃j,xs[0]? =some j:=⟨xs[0],Array.getElem?_eq_getElem (by omega)⟩;have e1:xs.getD 0 0=j:=by rw[Array.getD_eq_getD_getElem?,hj];rfl
 have e2:xs.getD 0 (j+1)=j:=by rw[Array.getD_eq_getD_getElem?,hj];rfl
 rw[e1];unfold SetTable.below.go;simp only[Nat.zero_lt_one,if_true,Nat.zero_add,show 1 / 2=0 from rfl,e2,Nat.lt_succ_self];unfold SetTable.below.go;rfl
theorem dy:Slot "set_iterator" "__next__" "set_iterator.__next__":=
 .of (owner:="set_iterator") (n:="__next__") (by rw[typeLookup_type,builtinLookup_eq_fast];kernel_rfl) (by decide +kernel) (by decide +kernel) (by decide +kernel)
  (by first | exact .inl (by decide +kernel) | exact .inr (by decide +kernel)) (by rw[isSubtype_type];kernel_rfl)
theorem iX:entryFor table "set_iterator.__next__"=some Builtin.«set_iterator.__next__»:=entryFor_of_tree (by kernel_rfl)
theorem nG:Manifest.owners.lookup (String.ofList ['r','o','t','a','r','e','t','i','_','t','e','s'].reverse)=some Manifest.sig_set_iterator:=by kernel_rfl
theorem i5(a:Value):argsOk "set_iterator.__next__" ⟨[a],[]⟩:=by
 unfold argsOk;rw[signature?_of (id:="set_iterator.__next__") (n:=['_','_','t','x','e','n','_','_']) (o:=['r','o','t','a','r','e','t','i','_','t','e','s']) (by kernel_rfl) nG];kernel_rfl
theorem i6:Slot "set_iterator" "__iter__" "set_iterator.__iter__":=
 .of (owner:="set_iterator") (n:="__iter__") (by rw[typeLookup_type,builtinLookup_eq_fast];kernel_rfl) (by decide +kernel) (by decide +kernel) (by decide +kernel)
  (by first | exact .inl (by decide +kernel) | exact .inr (by decide +kernel)) (by rw[isSubtype_type];kernel_rfl)
theorem mx:entryFor table "set_iterator.__iter__"=some Builtin.«dict_keyiterator.__iter__»:=entryFor_alias (id':="dict_keyiterator.__iter__") (by kernel_rfl) rfl (by decide +kernel) (by kernel_rfl)
theorem nH(a:Value):argsOk "set_iterator.__iter__" ⟨[a],[]⟩:=by
 unfold argsOk;rw[signature?_of (id:="set_iterator.__iter__") (n:=['_','_','r','e','t','i','_','_']) (o:=['r','o','t','a','r','e','t','i','_','t','e','s']) (by kernel_rfl) nG];kernel_rfl
theorem lv:entryFor table "set.__iter__"=some Builtin.«frozenset.__iter__»:=entryFor_alias (id':="frozenset.__iter__") (by kernel_rfl) rfl (by decide +kernel) (by kernel_rfl)
inductive SIt(w:World)(h:Heap)(I a tp:Addr)(vs:List Value)(i:Nat):Prop where
 |txt {o:Obj} {es:Array (Int×Value)} {ep:Nat} {t:SetTable} {sl:Int} (ho:h.get? a=some o) (hd:o.data=.set es ep t) (hf:t.fits es.size=true) (by_:w.params.followText "set-order"=true)
   (hv:vs=(pickOrder (w.params.setOrder a ep) es).toList.map (·.2)) (hI:h.get? I=some {cls:=.type "set_iterator",data:=.fields #[.int sl 0,.int i 0,.ref a,.int es.size 0,.int ep 0]}):SIt w h I a tp vs i
 |drw {o:Obj} {es:Array (Int×Value)} {ep:Nat} {t:SetTable} {ps:List Nat} (ho:h.get? a=some o) (hd:o.data=.set es ep t) (hf:t.fits es.size=true)
   (hv:vs.map some=ps.map fun p=>(es[p]?).map (·.2)) (ht:h.get? tp=some {cls:=.type "tuple",data:=.seq (ps.map fun(p:Nat)=>rawInt p).toArray})
   (hI:h.get? I=some {cls:=.type "set_iterator",data:=.fields #[.ref tp,.int i 0,.ref a,.int es.size 0,.int ep 0]}):SIt w h I a tp vs i
 |one {o:Obj} {es:Array (Int×Value)} {ep:Nat} {t:SetTable} (ho:h.get? a=some o) (hd:o.data=.set es ep t) (hf:t.fits es.size=true) (by_:w.params.followText "set-order"=false) (hl:t.led=true) (hz:es.size<=1)
   (hv:vs=es.toList.map (·.2)) (hI:h.get? I=some {cls:=.type "set_iterator",data:=.fields #[.int (if i=0 then 0 else (t.place.getD 0 0:Nat)+1) 0,.int i 0,.ref a,.int es.size 0,.int ep 0]}):SIt w h I a tp vs i
theorem SIt.keep{w:World}{h h':Heap}{I a tp:Addr}{vs:List Value}{i:Nat}(x:SIt w h I a tp vs i)(k:∀b∈[I,a,tp],∀o,h.get? b=some o->h'.get? b=some o):SIt w h' I a tp vs i:=by
 have kI:=k I (by simp);have ka:=k a (by simp);have kt:=k tp (by simp);cases x with
 |txt ho hd hf b hv hI=>exact .txt (ka _ ho) hd hf b hv (kI _ hI)
 |drw ho hd hf hv ht hI=>exact .drw (ka _ ho) hd hf hv (kt _ ht) (kI _ hI)
 |one ho hd hf b hl hz hv hI=>exact .one (ka _ ho) hd hf b hl hz hv (kI _ hI)
theorem SIt.typeIs{w:World}{s:Shared}{I a tp:Addr}{vs:List Value}{i:Nat}(x:SIt w s.heap I a tp vs i):s.TypeIs (.ref I) "set_iterator":=by
 cases x with
 |txt ho hd hf b hv hI=>exact⟨_,hI,rfl⟩
 |drw ho hd hf hv ht hI=>exact⟨_,hI,rfl⟩
 |one ho hd hf b hl hz hv hI=>exact⟨_,hI,rfl⟩
section
variable {prog:Program}{w:World}{A:Around}{E:Value->Shared->Prop}{s:Shared}{I a tp:Addr}{vs:List Value}{i:Nat}
theorem jR{o:Obj}{es:Array (Int×Value)}{ep:Nat}{t:SetTable}{Q:Array (Int×Value)->Shared->Prop}(ho:s.heap.get? a=some o)(hd:o.data=.set es ep t)(hf:t.fits es.size=true)(b:w.params.followText "set-order"=true)
  (h:Q (pickOrder (w.params.setOrder a ep) es) s):wpAny (model prog w) A (setWalk a) Q E s:=by
 unfold setWalk setsByText;refine wpAny_bind (wpAny_setState_of ho hd hf ?_);dsimp only;refine wpAny_bind (wpAny_bind (wpAny_askSetting (wpAny_pure ?_)));show wpAny _ _ (if (w.params.followText "set-order")=true then _ else _) _ _ _;rw[if_pos b];exact wpAny_bind (wpAny_askSetting (wpAny_pure h))
theorem wj{v:Value}{Q:Option Value->Shared->Prop}(x:SIt w s.heap I a tp vs i)(hIa:I≠a)(hIt:I≠tp)(hv:vs[i]? =some v)
  (h:∀h',SIt w h' I a tp vs (i+1)->(∀b o,b≠I->s.heap.get? b=some o->h'.get? b=some o)->Q (some v) {s with heap:=h'}):wpAny (model prog w) A (pyNext (.ref I)) Q E s:=by
 unfold pyNext;refine wpAny_bind (wpAny_attempt (wpAny_callSpecial?_slot (name:=Str.ofString "__next__") x.typeIs dy
  (wpAny_call_entry dy x.typeIs iX ?_ (i5 _))))
 unfold Builtin.«set_iterator.__next__»;refine wpAny_bind (wpAny_pure ?_);cases x with
 |@txt o es ep t sl ho hd hf b hve hI=>
  refine wpAny_bind (wpAny_fieldsOf hI rfl ?_);dsimp only;refine wpAny_bind (wpAny_setEntries_of ho hd hf ?_);rw[if_neg (by simp)];unfold setNext setsByText;refine wpAny_bind (wpAny_bind (wpAny_setState_of ho hd hf ?_));dsimp only;refine wpAny_bind (wpAny_bind (wpAny_askSetting (wpAny_pure ?_)));show wpAny _ _ (if (w.params.followText "set-order")=true then _ else _) _ _ _;rw[if_pos b,if_neg (by simp)];refine wpAny_bind (jR ho hd hf b (wpAny_pure ?_));have e:((pickOrder (w.params.setOrder a ep) es)[(i:Int).toNat]?).map (fun e=>(e.2,(sl).toNat))=some (v,sl.toNat):=by
   rw[hve,aax,Array.getElem?_toList] at hv;rw[Int.toNat_natCast];cases q:(pickOrder (w.params.setOrder a ep) es)[i]? with
   |none=>rw[q] at hv;cases hv
   |some z=>
    rw[q] at hv;have hv:some z.2=some v:=hv;injection hv with hv;rw[←hv];rfl
  rw[e];dsimp only;refine wpAny_bind (wpAny_setField hI rfl (by simp) ?_);have hI1:=Heap.get?_update_self (Obj.mapFields (·.setIfInBounds 0 (rawInt sl.toNat))) hI rfl;refine wpAny_bind (wpAny_setField hI1 rfl (by simp[Obj.mapFields]) ?_);have hI2:=Heap.get?_update_self (Obj.mapFields (·.setIfInBounds 1 (rawInt ((i:Int)+1)))) hI1 rfl;have oth:∀b o,b≠I->s.heap.get? b=some o->((s.heap.update I (Obj.mapFields (·.setIfInBounds 0 (rawInt sl.toNat)))).update I (Obj.mapFields (·.setIfInBounds 1 (rawInt ((i:Int)+1))))).get? b=some o:=fun b o hb e=>
   (Heap.get?_update_other _ _ (Ne.symm hb)).trans ((Heap.get?_update_other _ _ (Ne.symm hb)).trans e)
  refine wpAny_pure ⟨_,rfl,wpAny_pure (h _ (.txt (oth _ _ (Ne.symm hIa) ho) hd hf b hve (sl:=sl.toNat) ?_) oth)⟩;exact hI2
 |@drw o es ep t ps ho hd hf hve ht hI=>
  refine wpAny_bind (wpAny_fieldsOf hI rfl ?_);dsimp only;refine wpAny_bind (wpAny_setEntries_of ho hd hf ?_);rw[if_neg (by simp)];refine wpAny_bind (wpAny_seqItems ht rfl ?_);dsimp only;have hp:∃p,ps[i]? =some p/\∃e,es[p]? =some e/\e.2=v:=by
   have q:=congrArg (fun l=>l[i]?) hve;simp only[aax] at q;rw[hv] at q;cases z:ps[i]? with
   |none=>rw[z] at q;cases q
   |some p=>
    rw[z] at q;have q:some (some v)=some ((es[p]?).map (·.2)):=q;injection q with q;cases y:es[p]? with
    |none=>rw[y] at q;cases q
    |some e=>
     rw[y] at q;have q:some v=some e.2:=q;injection q with q;exact⟨p,rfl,e,y,q.symm⟩
  obtain⟨p,hps,e,he,rfl⟩:=hp;have e1:((ps.map fun(p:Nat)=>rawInt p).toArray)[(i:Int).toNat]? =some (rawInt p):=by
   rw[Int.toNat_natCast,List.getElem?_toArray,aax,hps];rfl
  rw[e1];show wpAny _ _ (setNextDrawn a (p:Int).toNat (ep:Int).toNat >>= _) _ _ _;unfold setNextDrawn;refine wpAny_bind (wpAny_bind (wpAny_setState_of ho hd hf ?_));dsimp only;rw[if_neg (by simp),Int.toNat_natCast,he];dsimp only;refine wpAny_pure ?_;refine wpAny_bind (wpAny_setField hI rfl (by simp) ?_);have hI2:=Heap.get?_update_self (Obj.mapFields (·.setIfInBounds 1 (rawInt ((i:Int)+1)))) hI rfl;have oth:∀b o,b≠I->s.heap.get? b=some o->(s.heap.update I (Obj.mapFields (·.setIfInBounds 1 (rawInt ((i:Int)+1))))).get? b=some o:=fun b o hb e=>
   (Heap.get?_update_other _ _ (Ne.symm hb)).trans e
  refine wpAny_pure ⟨_,rfl,wpAny_pure (h _ (.drw (oth _ _ (Ne.symm hIa) ho) hd hf hve (oth _ _ (Ne.symm hIt) ht) ?_) oth)⟩;exact hI2
 |@one o es ep t ho hd hf b hl hz hve hI=>
  have h0:i=0/\∃e,es[0]? =some e/\e.2=v/\es.size=1:=by
   rw[hve,aax,Array.getElem?_toList] at hv;cases q:es[i]? with
   |none=>rw[q] at hv;cases hv
   |some e=>
    rw[q] at hv;have hv:some e.2=some v:=hv;injection hv with hv;obtain⟨hlt,_⟩:=Array.getElem?_eq_some_iff.mp q;have:i=0:=by omega
    subst this;exact⟨rfl,e,q,hv,by omega⟩
  obtain⟨rfl,e,he,rfl,hsz⟩:=h0;have hpl:t.place.size=1:=by
   simp only[SetTable.fits,Bool.and_eq_true,beq_iff_eq] at hf;rw[hf.1,hsz]
  obtain⟨j,hj⟩:∃j,t.place[0]? =some j:=⟨t.place[0],Array.getElem?_eq_getElem (by omega)⟩;have hjd:t.place.getD 0 0=j:=by
   rw[Array.getD_eq_getD_getElem?,hj];rfl
  refine wpAny_bind (wpAny_fieldsOf hI rfl ?_);dsimp only;refine wpAny_bind (wpAny_setEntries_of ho hd hf ?_);rw[if_neg (by simp)];unfold setNext setsByText;refine wpAny_bind (wpAny_bind (wpAny_setState_of ho hd hf ?_));dsimp only;refine wpAny_bind (wpAny_bind (wpAny_askSetting (wpAny_pure ?_)));show wpAny _ _ (if (w.params.followText "set-order")=true then _ else _) _ _ _;rw[if_neg (by rw[b];decide)];refine wpAny_ite_split (fun hab=>absurd (show(!t.plain && decide (es.size > 1))=true from hab) (by rw[hsz];simp)) fun _=>?_
  refine wpAny_bind ?_;show wpAny _ _ (if (!t.led && !es.isEmpty)=true then _ else _) _ _ _;rw[if_neg (by rw[hl];simp)];refine wpAny_pure ?_;show wpAny (model prog w) A.in1 (pure (match es[SetTable.below t.place 0]?,t.place[SetTable.below t.place 0]? with
     |some (_,x),some j=>some (x,j+1)
     |_,_=>none)) _ _ _
  rw[qh (by omega),he,hj];refine wpAny_pure ?_;dsimp only;refine wpAny_bind (wpAny_setField hI rfl (by simp) ?_);have hI1:=Heap.get?_update_self (Obj.mapFields (·.setIfInBounds 0 (rawInt ((j+1:Nat):Int)))) hI rfl;refine wpAny_bind (wpAny_setField hI1 rfl (by simp[Obj.mapFields]) ?_);have hI2:=Heap.get?_update_self (Obj.mapFields (·.setIfInBounds 1 (rawInt (((0:Nat):Int)+1)))) hI1 rfl;have oth:∀b o,b≠I->s.heap.get? b=some o->((s.heap.update I (Obj.mapFields (·.setIfInBounds 0 (rawInt ((j+1:Nat):Int))))).update I (Obj.mapFields (·.setIfInBounds 1 (rawInt (((0:Nat):Int)+1))))).get? b=some o:=fun b o hb e=>
   (Heap.get?_update_other _ _ (Ne.symm hb)).trans ((Heap.get?_update_other _ _ (Ne.symm hb)).trans e)
  refine wpAny_pure ⟨_,rfl,wpAny_pure (h _ (.one (oth _ _ (Ne.symm hIa) ho) hd hf b hl hz hve ?_) oth)⟩;rw[hjd];exact hI2
theorem wk{Q:Option Value->Shared->Prop}(hh:A.handled=none)(x:SIt w s.heap I a tp vs i)(hv:vs.length=i)
  (h:∀h',(∀b o,b≠I->s.heap.get? b=some o->h'.get? b=some o)->Q none {s with heap:=h'}):wpAny (model prog w) A (pyNext (.ref I)) Q E s:=by
 unfold pyNext;refine wpAny_bind (wpAny_attempt (wpAny_callSpecial?_slot (name:=Str.ofString "__next__") x.typeIs dy
  (wpAny_call_entry dy x.typeIs iX ?_ (i5 _))))
 unfold Builtin.«set_iterator.__next__»;refine wpAny_bind (wpAny_pure ?_);have fin:∀(h1:Heap),(∀b o,b≠I->s.heap.get? b=some o->h1.get? b=some o)->wpAny (model prog w) A.in1 (newExc (.type "StopIteration") [] >>= fun e=>raiseNew e)
   (fun fin s'=>∃v,fin=PySem.Fin.done (Flow.ret v)/\wpAny (model prog w) A (pure (some v)) Q E s')
   (fun e s'=>wpAny (model prog w) A (do if ←isInstance e (.type "StopIteration") then pure none else throw e) Q E s') {s with heap:=h1}:=by
  intro h1 k;refine wpAny_bind ?_;simp only[newExc,newTuple];refine wpAny_bind (wpAny_newObj_type ?_ (by size_fits));refine wpAny_bind (m:=firstArgMember _ _) (wpAny_of_eq (a:=Value.none) (by first | rfl | (simp only[firstArgMember];rfl)) ?_);refine wpAny_newObj_type ?_ (by size_fits);simp only[raiseNew];refine wpAny_bind (wpAny_handled ?_);rw[show A.in1.handled=none from hh];refine wpAny_bind (wpAny_pure (wpAny_throw ?_));refine wpAny_bind (wpAny_isInstance (T:="StopIteration") (b:=true) ⟨_,aay _ rfl,rfl⟩ isSubtype_stop ?_);exact wpAny_pure (h _ fun b o hb e=>aaf _ (aaf _ (k b o hb e)))
 have oth1:∀(f:Obj->Obj) b o,b≠I->s.heap.get? b=some o->(s.heap.update I f).get? b=some o:=fun f b o hb e=>(Heap.get?_update_other _ _ (Ne.symm hb)).trans e
 cases x with
 |@txt o es ep t sl ho hd hf b hve hI=>
  refine wpAny_bind (wpAny_fieldsOf hI rfl ?_);dsimp only;refine wpAny_bind (wpAny_setEntries_of ho hd hf ?_);rw[if_neg (by simp)];unfold setNext setsByText;refine wpAny_bind (wpAny_bind (wpAny_setState_of ho hd hf ?_));dsimp only;refine wpAny_bind (wpAny_bind (wpAny_askSetting (wpAny_pure ?_)));show wpAny _ _ (if (w.params.followText "set-order")=true then _ else _) _ _ _;rw[if_pos b,if_neg (by simp)];refine wpAny_bind (jR ho hd hf b (wpAny_pure ?_));have e:(pickOrder (w.params.setOrder a ep) es)[(i:Int).toNat]? =none:=by
   rw[Int.toNat_natCast];refine Array.getElem?_eq_none ?_;rw[←Array.length_toList,←hv,hve,aaa];exact Nat.le_refl _
  rw[e];show wpAny _ _ (setField (.ref I) 2 .none >>= _) _ _ _;refine wpAny_bind (wpAny_setField hI rfl (by simp) ?_);exact fin _ (oth1 _)
 |@drw o es ep t ps ho hd hf hve ht hI=>
  refine wpAny_bind (wpAny_fieldsOf hI rfl ?_);dsimp only;refine wpAny_bind (wpAny_setEntries_of ho hd hf ?_);rw[if_neg (by simp)];refine wpAny_bind (wpAny_seqItems ht rfl ?_);dsimp only;have hl:ps.length=i:=by
   have:=congrArg List.length hve;rw[aaa,aaa] at this;omega
  have e1:((ps.map fun(p:Nat)=>rawInt p).toArray)[(i:Int).toNat]? =none:=by
   rw[Int.toNat_natCast];refine Array.getElem?_eq_none ?_;simp[hl]
  rw[e1];dsimp only;refine wpAny_bind (wpAny_setField hI rfl (by simp) ?_);have hI1:=Heap.get?_update_self (Obj.mapFields (·.setIfInBounds 0 (rawInt 0))) hI rfl;refine wpAny_bind (wpAny_setField hI1 rfl (by simp[Obj.mapFields]) ?_);exact fin _ fun b o hb e=>(Heap.get?_update_other _ _ (Ne.symm hb)).trans (oth1 _ b o hb e)
 |@one o es ep t ho hd hf b hl hz hve hI=>
  have hsz:es.size=i:=by rw[←hv,hve,aaa,Array.length_toList]
  have hpl:t.place.size=es.size:=by
   simp only[SetTable.fits,Bool.and_eq_true,beq_iff_eq] at hf;exact hf.1
  refine wpAny_bind (wpAny_fieldsOf hI rfl ?_);dsimp only;refine wpAny_bind (wpAny_setEntries_of ho hd hf ?_);rw[if_neg (by simp)];unfold setNext setsByText;refine wpAny_bind (wpAny_bind (wpAny_setState_of ho hd hf ?_));dsimp only;refine wpAny_bind (wpAny_bind (wpAny_askSetting (wpAny_pure ?_)));show wpAny _ _ (if (w.params.followText "set-order")=true then _ else _) _ _ _;rw[if_neg (by rw[b];decide)];refine wpAny_ite_split (fun hab=>absurd (show(!t.plain && decide (es.size > 1))=true from hab) (by
   have:decide (es.size > 1)=false:=aai (by omega);rw[this];simp)) fun _=>?_
  refine wpAny_bind ?_;show wpAny _ _ (if (!t.led && !es.isEmpty)=true then _ else _) _ _ _;rw[if_neg (by rw[hl];simp)];refine wpAny_pure ?_;have e:es[SetTable.below t.place (if i=0 then (0:Int) else (t.place.getD 0 0:Nat)+1).toNat]? =none:=by
   refine Array.getElem?_eq_none ?_;rcases Nat.eq_zero_or_pos i with z|z
   ·omega
   ·have h1:t.place.size=1:=by omega
    rw[if_neg (by omega)];rw[show(((t.place.getD 0 0:Nat):Int)+1).toNat=t.place.getD 0 0+1 from by omega,qi h1];exact hz
  rw[e];refine wpAny_pure ?_;show wpAny _ _ (setField (.ref I) 2 .none >>= _) _ _ _;refine wpAny_bind (wpAny_setField hI rfl (by simp) ?_);exact fin _ (oth1 _)
theorem wm{Q:Value->Shared->Prop}(x:SIt w s.heap I a tp vs i)(h:Q (.ref I) s):wpAny (model prog w) A (pyIter (.ref I)) Q E s:=by
 refine wpAny_pyIter_slot x.typeIs i6 (wpAny_call_entry i6 x.typeIs mx ?_ (nH _));show wpAny _ _ (ret (.ref I)) _ _ s;exact wpAny_pure ⟨_,rfl,"set_iterator",_,x.typeIs,dy.lookup,h⟩
theorem rW(hh:A.handled=none)(hIa:I≠a)(hIt:I≠tp):Walks prog w A I [I,a,tp] [I] vs.length (fun i v=>vs[i]? =some v) (fun i h=>SIt w h I a tp vs i) where
 sub:=fun b hb=>by simp at hb;simp[hb]
 frame:=fun _ _ _ st hk=>st.keep hk
 item:=fun i s Q E hi st hQ=>by
  refine wj st hIa hIt (aae hi) fun h' st' k=>hQ _ h' s.toks (aae hi) st' fun b o hb e=>k b o (fun z=>hb (by simp[z])) e
 done:=fun s Q E st hQ=>wk hh st rfl fun h' k=>hQ h' s.toks fun b o hb e=>k b o (fun z=>hb (by simp[z])) e
 self:=fun _ _ _ _ st hQ=>wm st hQ
end
end SL
namespace SL
open PySem PyProof.Rows
def leS(a b:Str):Bool:=!decide (b.cps.toList<a.cps.toList)
theorem i7(a b:Str):(leS a b || leS b a)=true:=by
 unfold leS
 by_cases h:b.cps.toList<a.cps.toList
 ·have:¬a.cps.toList<b.cps.toList:=fun z=>List.lt_irrefl _ (List.lt_trans h z)
  simp[this]
 ·simp[h]
theorem i8(a b c:Str)(h1:leS a b=true)(h2:leS b c=true):leS a c=true:=by
 unfold leS at *;simp only[Bool.not_eq_true',decide_eq_false_iff_not] at *;have h1:a.cps.toList<=b.cps.toList:=List.not_lt.mp h1;have h2:b.cps.toList<=c.cps.toList:=List.not_lt.mp h2;exact List.not_lt.mpr (List.le_trans h1 h2)
theorem wn{a b:Str}(h:a.cps.toList=b.cps.toList):a=b:=by
 cases a;cases b
 simp only[Str.mk.injEq];exact Array.toList_inj.mp h
theorem iF(a b:Str)(h1:leS a b=true)(h2:leS b a=true):a=b:=by
 unfold leS at *;simp only[Bool.not_eq_true',decide_eq_false_iff_not] at *;exact wn (List.le_antisymm (List.not_lt.mp h1) (List.not_lt.mp h2))
def srt(l:List Str):List Str:=l.mergeSort leS
theorem gA(l:List Str):(srt l).Perm l:=List.mergeSort_perm l leS
theorem kC(l:List Str):(srt l).Pairwise (fun a b=>leS a b=true):=List.pairwise_mergeSort i8 i7 l
theorem yY{l l':List Str}(h:l.Pairwise (fun a b=>leS a b=true))(h':l'.Pairwise (fun a b=>leS a b=true))(p:l.Perm l'):l=l':=
 List.Perm.eq_of_pairwise (fun a b _ _=>iF a b) h h' p
theorem rX{l l':List Str}(h:l'.Pairwise (fun a b=>leS a b=true))(p:l'.Perm l):l'=srt l:=yY h (kC l) (p.trans (gA l).symm)
theorem l8{l l':List Str}(p:l.Perm l'):srt l=srt l':=rX (kC l) ((gA l).trans p)
theorem bM{l:List Str}{x:Str}:x∈srt l↔x∈l:=(gA l).mem_iff
theorem dz(l:List Str):(srt l).length=l.length:=(gA l).length_eq
theorem fQ{l:List Str}(h:l.Nodup):(srt l).Nodup:=(gA l).nodup_iff.mpr h
theorem jS{l l':List Str}(h:l.Nodup)(h':l'.Nodup)(e:∀x,x∈l↔x∈l'):l.Perm l':=(List.perm_ext_iff_of_nodup h h').mpr e
theorem wo{l l':List Str}(h:l.Nodup)(h':l'.Nodup)(e:∀x,x∈l↔x∈l'):srt l=srt l':=l8 (jS h h' e)
theorem xO{vs:List Value}{ss:List Str}(hS:StrsAre vs ss){xs:Array Keyed}(hp:xs.Perm (pairsOf vs))(hs:SortedToK PyProof.Rows.strKind xs (pairsOf vs).size):StrsAre (xs.map (·.2)).toList (srt ss):=by
 have hl:xs.toList.Perm (vs.zip vs):=by rw[←pairsOf_toList];exact Array.perm_iff_toList_perm.mp hp
 have hmem:∀p,p∈xs.toList->p.1=p.2/\p.1∈vs:=fun p hp'=>mem_zip_self (hl.mem_iff.mp hp')
 have h1:StrsAre (xs.map (·.2)).toList (xs.toList.map (fun p=>strOf p.1)):=by
  have e:(xs.map (·.2)).toList=xs.toList.map (·.1):=by
   rw[Array.toList_map];exact List.map_congr_left fun p hp'=>(hmem p hp').1.symm
  rw[e];have h1:=strsAre_map (xs.toList.map (·.1)) (by
   intro v hv;obtain⟨p,hp',rfl⟩:=aao.mp hv;exact hS.all _ (hmem p hp').2)
  rwa [List.map_map] at h1
 have h2:(xs.toList.map (fun p=>strOf p.1)).Perm ss:=by
  have h1:=hl.map (fun p=>strOf p.1);have e2:(vs.zip vs).map (fun p=>strOf p.1)=ss:=by
   have:(vs.zip vs).map (fun p=>strOf p.1)=((vs.zip vs).map Prod.fst).map strOf:=by rw[List.map_map];rfl
   rw[this,List.map_fst_zip (Nat.le_refl _),hS.strs]
  rwa [e2] at h1
 have h3:(xs.toList.map (fun p=>strOf p.1)).Pairwise (fun a b=>leS a b=true):=by
  rw[List.pairwise_iff_getElem];intro i j hi hj hij;have hi':i<xs.size:=by simpa using hi
  have hj':j<xs.size:=by simpa using hj
  have h1:=hs i j (Nat.le_of_lt hij) (by rw[←hp.size_eq];exact hj');obtain⟨x,t,ex⟩:=hS.all _ (hmem xs[i] (by simp)).2;obtain⟨y,u,ey⟩:=hS.all _ (hmem xs[j] (by simp)).2;rw[KK_str hi' (x:=x) (t:=t) (q:=xs[i].2) (Prod.ext ex rfl),KK_str hj' (x:=y) (t:=u) (q:=xs[j].2) (Prod.ext ey rfl)] at h1;change decide (y.cps.toList<x.cps.toList)=false at h1;simp only[List.getElem_map,Array.getElem_toList];rw[show strOf xs[i].1=x by rw[ex];rfl,show strOf xs[j].1=y by rw[ey];rfl];unfold leS;rw[h1];rfl
 rw[←rX h3 h2];exact h1
section
variable {prog:Program}{w:World}{A:Around}{E:Value->Shared->Prop}{s:Shared}
theorem rY{x:Value}{Q:Value->Shared->Prop}(hcol:wpAny (model prog w) A.in1 (collect x) (fun vs s₁=>∃ss,StrsAre vs ss/\vs.length<64/\
   ∀(out:List Value) (e:Nat) (h':Heap),StrsAre out (srt ss)->(∀b o,s₁.heap.get? b=some o->h'.get? b=some o)->h'.get? s₁.heap.objs.size=some {cls:=.type "list",data:=.seq out.toArray e}->Q (.ref s₁.heap.objs.size) {s₁ with heap:=h'}) E s) :
  wpAny (model prog w) A (call (.builtin "sorted") [x]) Q E s:=by
 refine Calls.call_function_entry kind_sorted plain_sorted entry_sorted (args_sorted1 _) ?_;unfold Builtin.«sorted»;refine wpAny_bind (m:=checkCount "sorted" 1 1 _) (wpAny_pure ?_);refine wpAny_bind (wpAny_mono hcol (fun vs s₁ h₁=>?_) fun _ _ e=>e);obtain⟨ss,hS,h64,fin⟩:=h₁;refine wpAny_bind (wpAny_newList ?_ (by rw[sizeLine_eq];omega));have hoL:(s₁.heap.push (seqObj "list" vs.toArray 0)).get? s₁.heap.objs.size=some (seqObj "list" vs.toArray 0):=aay _ rfl;show wpAny _ _ _ _ _ {s₁ with heap:=s₁.heap.push (seqObj "list" vs.toArray 0)};refine wpAny_bind (wpAny_holding (wpAny_call_entry slot_list_sort ⟨_,hoL,rfl⟩ entry_list_sort (list_sort_treeK strKind_oneLt hoL hS.keysOf (fun v₁ v₂ rest e=>keyKind_strs (by rw[←e];exact hS)) h64 fun st' a1 a2=>⟨_,rfl,?_⟩) (args_list_sort _)));obtain⟨e,he⟩:=sortedHeap_at (out:=(arrOf st').map (·.2)) hoL;refine wpAny_pure ⟨_,rfl,fin _ e _ (xO hS a1 a2) (fun b o q=>?_) (by rw[Array.toArray_toList];exact he)⟩;have hlt:=Heap.lt_size q;rw[sortedHeap_old (Nat.ne_of_lt hlt) (by rw[size_push'];exact Nat.lt_succ_of_lt hlt)];exact aaf _ q
end
end SL
namespace SL
open PySem PyProof.Rows
theorem wp{prog:Program}{w:World}{A:Around}{E:Value->Shared->Prop}{s:Shared}{r:Addr}{Q:Bool->Shared->Prop}(hT:s.TypeIs (.ref r) "set")(h:Q false s):wpAny (model prog w) A (Builtin.List.listLengthHint (.ref r)) Q E s:=by
 unfold Builtin.List.listLengthHint;refine wpAny_bind (wpAny_specialOf hT PySem.F.slot_set_len.lookup ?_);generalize hid:("set.__len__":String)=id0
 wp_delta
 rw[show splitId id0=some ("set","__len__") from by subst hid;decide +kernel];subst hid;refine wpAny_bind (wpAny_isInstance (T:="set") (b:=true) hT (by rw[isSubtype_type];kernel_rfl) ?_);refine wpAny_ite_split (fun hab=>absurd hab (by decide)) (fun _=>?_);refine wpAny_ite_split (fun _=>?_) (fun hab=>absurd (by decide +kernel) hab);refine wpAny_bind (wpAny_typeOf hT ?_);exact wpAny_pure h
structure i9(vs:List Value)(L:List Str):Prop where
 str:∀v∈vs,∃x t,v=Value.str x t
 perm:(vs.map c6).Perm L
theorem i9.of{w:World}{es:Array (Int×Value)}{L:List Str}(hel:∀e∈es.toList,gc w e)(hp:(es.toList.map fun e=>c6 e.2).Perm L){vs:List Value}(h:vs.Perm (es.toList.map (·.2))):i9 vs L:=by
 refine⟨fun v hv=>?_,?_⟩
 ·obtain⟨e,he,rfl⟩:=aao.mp (h.mem_iff.mp hv);obtain⟨k,t,rfl⟩:=hel e he;exact⟨k,t,rfl⟩
 ·refine(h.map c6).trans ?_;rw[List.map_map];exact hp
theorem nI{wr:List Addr}{s s':Shared}(hm:Moved wr (fun a b=>b=a) s s'):s'={s with heap:=s'.heap,toks:=s'.toks}:=by
 obtain⟨h',g',d',tk',os'⟩:=s';have eg:g'=s.gens:=hm.gens;have ed:d'=s.drawn:=hm.drawn;have eo:os'=s.os:=hm.os;subst eg;subst ed;subst eo;rfl
section
variable {prog:Program}{w:World}{A:Around}{E:Value->Shared->Prop}{s:Shared}{a:Addr}{L:List Str}
theorem be.typeIs(S:be w s.heap a L):s.TypeIs (.ref a) "set":=by
 obtain⟨o,es,ep,t,ho,hex,_⟩:=S;exact⟨o,ho,hex.1⟩
theorem map_range{es:Array (Int×Value)}:(List.range es.size).map (fun p=>((es[p]?).map (·.2)).getD Value.none)=es.toList.map (·.2):=by
 apply List.ext_getElem
 ·simp
 ·intro i h1 h2;have hi:i<es.size:=by simpa using h1
  simp[hi]
theorem tT{Q:Value->Shared->Prop}(S:be w s.heap a L)
  (h:∀(I tp:Addr) (vs:List Value) (h':Heap) (d:Drawn),SIt w h' I a tp vs 0->I≠a->I≠tp->s.heap.objs.size<=I->(tp=a\/s.heap.objs.size<=tp)->I<h'.objs.size->tp<h'.objs.size->i9 vs L->(∀b o,s.heap.get? b=some o->h'.get? b=some o)->Q (.ref I) {s with heap:=h',drawn:=d}) :
  wpAny (model prog w) A (pyIter (.ref a)) Q E s:=by
 have hT:=S.typeIs;obtain⟨o,es,ep,t,ho,hex,hd,hel,hp,nd,hb,hf,hled,hpl⟩:=S;have halt:a<s.heap.objs.size:=Heap.lt_size ho;have hsl:es.size<=sizeLine:=fits_of_scanBound hb;refine wpAny_pyIter_slot hT PySem.F.slot_set_iter (wpAny_call_entry PySem.F.slot_set_iter hT lv ?_ (PySem.F.args_set_iter_1 _));unfold Builtin.«frozenset.__iter__»;refine wpAny_bind (wpAny_pure ?_);refine wpAny_bind ?_;unfold Builtin.Frozenset.sizeOf;refine wpAny_bind (wpAny_setEntries_of ho hd hf (wpAny_pure ?_));unfold setDrawn setsByText;refine wpAny_bind (wpAny_bind (wpAny_setState_of ho hd hf ?_));dsimp only;refine wpAny_bind (wpAny_bind (wpAny_askSetting (wpAny_pure ?_)));refine wpAny_pure ?_;have fin:∀(first:Value) (h1:Heap) (d:Drawn) (tp:Addr) (vs:List Value),(∀b o,s.heap.get? b=some o->h1.get? b=some o)->s.heap.objs.size<=h1.objs.size->(tp=a\/s.heap.objs.size<=tp)->tp<h1.objs.size->i9 vs L->
   (∀h',(∀b o,h1.get? b=some o->h'.get? b=some o)->h'.get? h1.objs.size=some {cls:=.type "set_iterator",data:=.fields #[first,rawInt 0,.ref a,rawInt es.size,rawInt ep]}->SIt w h' h1.objs.size a tp vs 0)->
   wpAny (model prog w) A.in1 (do ret (←newFields "set_iterator" [first,rawInt 0,.ref a,rawInt es.size,rawInt (←setEpoch a)])) (fun fin s'=>∃it,fin=PySem.Fin.done (.ret it)/\∃(T:String) (id:Value),s'.TypeIs it T/\typeLookup (.type T) "__next__"=pure (some id)/\Q it s') (fun e s'=>E e s') {s with heap:=h1,drawn:=d}:=by
  intro first h1 d tp vs k1 hsz htp htl ho2 mk;refine wpAny_bind (wpAny_setEpoch_of (k1 _ _ ho) hd hf ?_);unfold newFields;refine wpAny_bind (wpAny_newObj_type ?_ (by size_fits));have hI:(h1.push {cls:=.type "set_iterator",data:=.fields #[first,rawInt 0,.ref a,rawInt es.size,rawInt ep]}).get? h1.objs.size=some {cls:=.type "set_iterator",data:=.fields #[first,rawInt 0,.ref a,rawInt es.size,rawInt ep]}:=aay _ rfl;refine wpAny_pure ⟨_,rfl,"set_iterator",_,⟨_,hI,rfl⟩,dy.lookup,?_⟩;refine h h1.objs.size tp vs _ d (mk _ (fun b o e=>aaf _ e) hI) (Ne.symm (Nat.ne_of_lt (Nat.lt_of_lt_of_le halt hsz))) (Ne.symm (Nat.ne_of_lt htl)) hsz htp ?_ ?_ ho2 fun b o e=>aaf _ (k1 b o e)
  ·show h1.objs.size<(h1.push _).objs.size;rw[Heap.size_push];exact Nat.lt_succ_self _
  ·show tp<(h1.push _).objs.size;rw[Heap.size_push];exact Nat.lt_succ_of_lt htl
 by_cases b:w.params.followText "set-order"=true
 ·
  refine wpAny_ite_split (fun hab=>absurd (show(!(w.params.followText "set-order") && (!t.plain && decide (es.size > 1)))=true from hab) (by rw[b];simp)) fun _=>?_
  refine wpAny_bind (wpAny_pure ?_);refine fin (rawInt 0) s.heap s.drawn a _ (fun _ _ e=>e) (Nat.le_refl _) (.inl rfl) halt (i9.of hel hp ((hJ (w.params.setOrder a ep) es).map (·.2))) fun h' k hI=>?_
  exact .txt (sl:=0) (k _ _ ho) hd hf b rfl hI
 ·have b:w.params.followText "set-order"=false:=by simpa using b
  refine wpAny_ite_split (fun hab=>?_) (fun hab=>?_)
  ·refine wpAny_bind (hV _ _ _ (List.length_range) fun ps d hps=>?_);have hlen:ps.length=es.size:=by rw[hps.length_eq,List.length_range]
   refine wpAny_bind (wpAny_newTuple ?_ (by rw[aaa,hlen];exact hsl));have hv:((ps.map fun p=>((es[p]?).map (·.2)).getD Value.none).map some)=ps.map fun p=>(es[p]?).map (·.2):=by
    rw[List.map_map];refine List.map_congr_left fun p hpm=>?_
    have hlt:p<es.size:=List.mem_range.mp (hps.mem_iff.mp hpm);simp[hlt]
   refine fin _ _ d s.heap.objs.size (ps.map fun p=>((es[p]?).map (·.2)).getD Value.none) (fun _ _ e=>aaf _ e) (by rw[Heap.size_push];exact Nat.le_succ _) (.inr (Nat.le_refl _)) (by rw[Heap.size_push];exact Nat.lt_succ_self _)
    (i9.of hel hp (by rw[←map_range];exact hps.map _)) fun h' k hI=>?_
   exact .drw (k _ _ (aaf _ ho)) hd hf hv (k _ _ (aay _ rfl)) hI
  ·refine wpAny_bind (wpAny_pure ?_);have hdr:¬(!t.plain && decide (es.size > 1))=true:=fun z=>hab (show(!(w.params.followText "set-order") && (!t.plain && decide (es.size > 1)))=true by rw[b,z];rfl)
   have hz:es.size<=1:=by
    rcases Nat.lt_or_ge 1 es.size with z|z
    ·cases q:t.plain with
     |true=>have:=hpl q;omega
     |false=>
      rw[q] at hdr;simp at hdr;omega
    ·exact z
   refine fin (rawInt 0) s.heap s.drawn a _ (fun _ _ e=>e) (Nat.le_refl _) (.inl rfl) halt (i9.of hel hp (.refl _)) fun h' k hI=>?_
   exact .one (k _ _ ho) hd hf b (by rw[hled,b];rfl) hz rfl hI
theorem pe{Q:List Value->Shared->Prop}(hh:A.handled=none)(S:be w s.heap a L)
  (h:∀(vs:List Value) (h':Heap) (tk:Nat) (d:Drawn),i9 vs L->(∀b o,s.heap.get? b=some o->h'.get? b=some o)->Q vs {s with heap:=h',toks:=tk,drawn:=d}) :
  wpAny (model prog w) A (collect (.ref a)) Q E s:=by
 obtain⟨oa,hoa⟩:=S.there;have halt:a<s.heap.objs.size:=Heap.lt_size hoa;have hLs:L.length<=sizeLine:=by
  obtain⟨o,es,ep,t,ho,hex,hd,hel,hp,nd,hb,_⟩:=id S;have:=hp.length_eq;rw[aaa,Array.length_toList] at this;rw[←this];exact fits_of_scanBound hb
 unfold collect;refine wpAny_bind (wpAny_runValue (codeAny_builtin entry_proto_collect' ?_));rw[Around.under_plainId PySem.F.plain_proto_collect _];show wpAny _ A.in1 (newList [] >>= fun l=>again (.builtin "list.__iadd__" ⟨[l,.ref a],[]⟩)) _ _ s;refine wpAny_bind (wpAny_newObj_type ?_);refine wpAny_pure ⟨plainId_quiet PySem.F.plain_list_iadd _,codeAny_builtin entry_list_iadd' ?_⟩;rw[Around.under_plainId PySem.F.plain_list_iadd _];have hS₁:(s.heap.push {cls:=.type "list",data:=.seq ([]:List Value).toArray}).get? s.heap.objs.size=some {cls:=.type "list",data:=.seq #[]}:=aay _ rfl;generalize hs1:s.heap.push {cls:=.type "list",data:=.seq ([]:List Value).toArray}=h1 at hS₁;have k1:∀b o,s.heap.get? b=some o->h1.get? b=some o:=fun b o e=>by rw[←hs1];exact aaf _ e
 have z1:h1.objs.size=s.heap.objs.size+1:=by rw[←hs1,Heap.size_push]
 have S1:be w h1 a L:=S.at fun o e=>k1 _ _ e
 show wpAny _ A.in1 (Builtin.List.listExtendWith (.ref s.heap.objs.size) (.ref a) (.ref s.heap.objs.size)) _ _ {s with heap:=h1};unfold Builtin.List.listExtendWith;have hT1:Shared.TypeIs {s with heap:=h1} (.ref a) "set":=be.typeIs (s:={s with heap:=h1}) S1;refine wpAny_bind (wpAny_typeOf hT1 ?_);have e1:Builtin.List.listSameRef (.ref s.heap.objs.size) (.ref a)=false:=by simp[Builtin.List.listSameRef,Ne.symm (Nat.ne_of_lt halt)]
 have e2:(Value.type "set" == Value.type "list")=false:=by decide
 have e3:(Value.type "set" == Value.type "tuple")=false:=by decide
 simp only[e1,e2,e3,Bool.or_false,Bool.false_eq_true,if_false];refine wpAny_bind (tT (s:={s with heap:=h1}) S1 fun I tp vs h2 d st hIa hIt hI htp hIl htl hO k2=>?_);have hI:h1.objs.size<=I:=hI;rw[z1] at hI;have hvl:vs.length<=sizeLine:=by
  have:=hO.perm.length_eq;rw[aaa] at this;rw[this];exact hLs
 have hT2:Shared.TypeIs {s with heap:=h2,drawn:=d} (.ref a) "set":=be.typeIs (s:={s with heap:=h2,drawn:=d}) (S1.at fun o e=>k2 _ _ e);refine wpAny_bind (wpAny_holding (wp hT2 ?_));have hSf:s.heap.objs.size ∉ [I,a,tp]:=by
  simp only[List.mem_cons,List.not_mem_nil,or_false,not_or];refine⟨by omega,Ne.symm (Nat.ne_of_lt halt),?_⟩;rcases htp with z|z
  ·rw[z];exact Ne.symm (Nat.ne_of_lt halt)
  ·have z:h1.objs.size<=tp:=z;rw[z1] at z;omega
 have hh2:A.in1.handled=none:=hh;have key:∀(h3:Heap) (c tk:Nat),SIt w h3 I a tp vs 0->(∀b o,b≠s.heap.objs.size->h2.get? b=some o->h3.get? b=some o)->h3.get? s.heap.objs.size=some {cls:=.type "list",data:=.seq #[] c}->
   codeAny (model prog w) A (.builtin "list.extend.loop" ⟨[.ref s.heap.objs.size,.ref I,.ref s.heap.objs.size],[]⟩)
    (fun(q:Result) (s':Shared)=>∃(h':Heap) (tk:Nat) (acc':Array Value) (c':Nat),q=.ok (.ret (.ref s.heap.objs.size))/\s'={s with heap:=h',toks:=tk,drawn:=d}/\
     (∀b o,s.heap.get? b=some o->h'.get? b=some o)/\h'.get? s.heap.objs.size=some {cls:=.type "list",dict:=none,data:=.seq acc' c',slots:=#[]}/\acc'.toList=vs)
    {s with heap:=h3,toks:=tk,drawn:=d}:=by
  intro h3 c tk st3 k3 hS3;refine codeAny_extend_loopS (rW (A:=A.in1) hh2 hIa hIt).toS hvl _ hSf _ vs.length 0 _ #[] c rfl (Nat.zero_le _) st3 hS3 (ItemsOf.nil _) fun s' acc' c' hm hS' hacc=>?_
  refine⟨s'.heap,s'.toks,acc',c',rfl,?_,fun b o e=>?_,hS',?_⟩
  ·exact nI hm
  ·have hb:b<s.heap.objs.size:=Heap.lt_size e;refine hm.heap b o (fun z=>?_) (k3 b o (Nat.ne_of_lt hb) (k2 b o (k1 b o e)));simp only[List.mem_cons,List.not_mem_nil,or_false] at z;have hI0:s.heap.objs.size<I:=by omega
   rcases z with z|z
   ·exact absurd z (Nat.ne_of_lt hb)
   ·exact absurd (z▸hb) (Nat.not_lt.mpr (Nat.le_of_lt hI0))
  ·apply List.ext_getElem?;intro j;rcases Nat.lt_or_ge j vs.length with z|z
   ·have hj:j<acc'.size:=by rw[hacc.1];exact z
    have q:=hacc.2 j acc'[j] (Array.getElem?_eq_getElem hj);rw[Array.getElem?_toList,Array.getElem?_eq_getElem hj];exact q.symm
   ·rw[List.getElem?_eq_none z,List.getElem?_eq_none (by rw[Array.length_toList,hacc.1];exact z)]
 have hS2:h2.get? s.heap.objs.size=some {cls:=.type "list",data:=.seq #[]}:=k2 _ _ hS₁;refine wpAny_ite_split (fun _=>?_) (fun _=>?_)
 ·refine wpAny_bind (wpAny_rule ?_);refine wpAny_bind ?_;show wpAny _ _ (updateSeq s.heap.objs.size (·.push .none) >>= fun _=>updateSeq s.heap.objs.size (·.pop)) _ _ _;refine wpAny_bind (wpAny_updateSeq hS2 rfl ?_);have hS3:=Heap.get?_update_self (Obj.mapSeq (·.push Value.none)) hS2 rfl;refine wpAny_updateSeq (hz:=by seq_fits) hS3 rfl ?_;have hS4:=Heap.get?_update_self (Obj.mapSeq (·.pop)) hS3 rfl;have oth:∀b o,b≠s.heap.objs.size->h2.get? b=some o->((h2.update s.heap.objs.size (Obj.mapSeq (·.push Value.none))).update s.heap.objs.size (Obj.mapSeq (·.pop))).get? b=some o:=fun b o hb e=>
   (Heap.get?_update_other _ _ (Ne.symm hb)).trans ((Heap.get?_update_other _ _ (Ne.symm hb)).trans e)
  refine wpAny_pure ⟨plainId_quiet PySem.F.plain_extend_loop _,codeAny_mono (key _ _ s.toks (st.keep fun b hb o e=>oth b o (fun z=>hSf (z▸hb)) e) oth hS4) fun q s' y=>?_⟩;obtain⟨h',tk,acc',c',rfl,rfl,k,hS',rfl⟩:=y;show wpAny _ A (load s.heap.objs.size >>= _) _ _ _;refine wpAny_bind (wpAny_load hS' ?_);exact wpAny_pure (h _ h' tk d hO k)
 ·refine wpAny_pure ⟨plainId_quiet PySem.F.plain_extend_loop _,codeAny_mono (key h2 _ s.toks st (fun _ _ _ e=>e) hS2) fun q s' y=>?_⟩;obtain⟨h',tk,acc',c',rfl,rfl,k,hS',rfl⟩:=y;show wpAny _ A (load s.heap.objs.size >>= _) _ _ _;refine wpAny_bind (wpAny_load hS' ?_);exact wpAny_pure (h _ h' tk d hO k)
end
end SL
namespace SL
open PySem PyProof.Rows
theorem my:entryFor table "set.__sub__"=some Builtin.«frozenset.__sub__»:=entryFor_alias (id':="frozenset.__sub__") (by kernel_rfl) rfl (by decide +kernel) (by kernel_rfl)
theorem sub_set_set:isSubtype (.type "set") (.type "set")=pure true:=by rw[isSubtype_type];kernel_rfl
section
variable {prog:Program}{w:World}{A:Around}{E:Value->Shared->Prop}{s:Shared}{a b r:Addr}{L M:List Str}
def xP(w:World)(es:List (Int×Value))(L:List Str):Prop:=(∀e∈es,gc w e)/\(es.map fun e=>c6 e.2).Perm L
theorem be.data{h:Heap}(S:be w h a L):∃o es ep t,h.get? a=some o/\o.data=.set es ep t/\t.fits es.size=true/\xP w es.toList L/\t.led=(!w.params.followText "set-order")/\(t.plain=true->es.size=0)/\es.size=L.length:=by
 obtain⟨o,es,ep,t,ho,hex,hd,hel,hp,nd,hb,hf,hled,hpl⟩:=S;have:=hp.length_eq;rw[aaa,Array.length_toList] at this;exact⟨o,es,ep,t,ho,hd,hf,⟨hel,hp⟩,hled,hpl,this⟩
theorem qj:∀{as:List Addr} {s:Shared},(∀x∈as,∃L,be w s.heap x L)->∀{Q:Bool->Shared->Prop},Q true s->wpAny (model prog w) A (setsQuiet as) Q E s:=by
 intro as s hS Q h;unfold setsQuiet;refine wpAny_bind (wpAny_forIn_list _ (fun rest (r:Option Bool×Unit) s'=>r=(none,())/\s'=s/\∀x∈rest,∃L,be w s.heap x L) _ ?_ ?_ as _ ⟨rfl,rfl,hS⟩)
 ·rintro x rest r s' ⟨rfl,rfl,hr⟩;obtain⟨L',S'⟩:=hr x (aac ..);obtain⟨o,es,ep,t,ho,hd,hf,hE,_,_,_⟩:=S'.data;refine wpAny_bind (wpAny_setEntries_of ho hd hf ?_);refine wpAny_bind (wpAny_forIn_array' _ (fun rest (r:Option Bool×Unit) s''=>r=(none,())/\s''=s'/\∀e∈rest,gc w e) _ ?_ ?_ es _ ⟨rfl,rfl,hE.1⟩)
  ·rintro e rest r s'' ⟨rfl,rfl,he⟩;obtain⟨k,tk,rfl⟩:=he e (aac ..);exact wpAny_pure ⟨rfl,rfl,fun e' h'=>he e' (aad _ h')⟩
  ·rintro r s'' ⟨rfl,rfl,_⟩;exact wpAny_pure ⟨rfl,rfl,fun y hy=>hr y (aad _ hy)⟩
 ·rintro r s' ⟨rfl,rfl,_⟩;exact wpAny_pure h
theorem nJ{others:List Addr}{Q:Array (Int×Value)->Shared->Prop}(S:be w s.heap a L)(F:be w s.heap r [])(hne:a≠r)(ho:∀x∈others,∃L,be w s.heap x L)
  (h:∀(es:Array (Int×Value)) (h':Heap) (d:Drawn),xP w es.toList L->Heap.SameBut r s.heap h'->be w h' r []->Q es {s with heap:=h',drawn:=d}) :
  wpAny (model prog w) A (setWalkUnseen a others (some r)) Q E s:=by
 obtain⟨o,es,ep,t,hoa,hd,hf,hE,hled,hpl,hn⟩:=S.data;unfold setWalkUnseen setsByText;refine wpAny_bind (wpAny_setState_of hoa hd hf ?_);dsimp only;refine wpAny_bind (wpAny_bind (wpAny_askSetting (wpAny_pure ?_)));have walk:(w.params.followText "set-order"=true\/es.size<=1)->wpAny (model prog w) A (setWalk a) Q E s:=by
  intro hc;unfold setWalk setsByText;refine wpAny_bind (wpAny_setState_of hoa hd hf ?_);dsimp only;refine wpAny_bind (wpAny_bind (wpAny_askSetting (wpAny_pure ?_)));refine wpAny_ite_split (fun hb=>?_) (fun hb=>?_)
  ·refine wpAny_bind (wpAny_askSetting (wpAny_pure ?_));have p:=hJ (w.params.setOrder a ep) es;exact h _ s.heap s.drawn ⟨fun e he=>hE.1 e (p.mem_iff.mp he),(p.map _).trans hE.2⟩ (.refl ..) F
  ·have hz:es.size<=1:=hc.resolve_left hb;refine wpAny_ite_split (fun hab=>absurd (show(!t.plain && decide (es.size > 1))=true from hab) (by
    have:decide (es.size > 1)=false:=aai (by omega);rw[this];simp)) fun _=>?_
   refine wpAny_bind ?_;show wpAny _ _ (if (!t.led && decide (es.size > 1))=true then _ else _) _ _ _;rw[if_neg (by
    have:decide (es.size > 1)=false:=aai (by omega);rw[this];simp)]
   exact wpAny_pure (wpAny_pure (h es s.heap s.drawn hE (.refl ..) F))
 refine wpAny_ite_split (fun hab=>?_) (fun hab=>?_)
 ·have hab:((w.params.followText "set-order" || (t.led && t.plain)) || decide (es.size<=1))=true:=hab;refine wpAny_mono (walk ?_) (fun _ _ q=>?_) fun _ _ e=>e
  ·by_cases b:w.params.followText "set-order"=true
   ·exact .inl b
   ·right
    cases q:t.plain with
    |true=>have:=hpl q;omega
    |false=>
     rw[q] at hab;simp at hab;rcases hab with z|z
     ·exact absurd z b
     ·exact z
  ·first | exact wpAny_pure q | exact q
 ·refine wpAny_bind (qj (as:=a::others) (fun x hx=>?_) ?_)
  ·rcases List.mem_cons.mp hx with rfl|hx
   ·exact⟨L,S⟩
   ·exact ho x hx
  ·simp only[Bool.not_true,Bool.false_eq_true,if_false];refine wpAny_bind (wpAny_rule ?_);obtain⟨of,ef,epf,tf,hof,hexf,hdf,helf,hpf,ndf,hbf,hff,hledf,hplf⟩:=id F;refine wpAny_bind (wpAny_setState_of hof hdf hff ?_);dsimp only;have hz:ef.size=0:=by
    have:=hpf.length_eq;rw[aaa,Array.length_toList] at this;exact this
   refine wpAny_ite_split (fun _=>?_) (fun _=>?_)
   ·refine wpAny_bind (wpAny_storeSet_of hof hdf ?_ (by omega));have ho2:=Heap.get?_update_self (Obj.putSet ef {tf with led:=tf.led && t.led,plain:=tf.plain && t.plain}) hof (by rw[putSet_of ef _ hdf];rfl);rw[putSet_of ef _ hdf] at ho2;refine wpAny_pure (h es _ s.drawn hE (Heap.SameBut.update ..) ⟨_,ef,epf+1,_,ho2,hexf,rfl,helf,hpf,ndf,hbf,?_,?_,fun _=>hz⟩)
    ·cases tf;exact hff
    ·show(tf.led && t.led)=_;rw[hledf,hled,Bool.and_self]
   ·exact wpAny_pure (h es s.heap s.drawn hE (.refl ..) F)
def dA(es:List (Int×Value))(M:List Str)(acc:List Str):List Str:=es.foldl (fun acc e=>if c6 e.2∈M then acc else cU acc (c6 e.2)) acc
theorem l9(M:List Str):∀(es:List (Int×Value)) (acc:List Str) (x:Str),x∈dA es M acc↔x∈acc\/(x∈es.map (fun e=>c6 e.2)/\¬x∈M)
 |[],acc,x=>by simp[dA]
 |e::r,acc,x=>by
  have ih:=l9 M r (if c6 e.2∈M then acc else cU acc (c6 e.2)) x;show x∈dA r M (if c6 e.2∈M then acc else cU acc (c6 e.2))↔_;rw[ih,aaw,List.mem_cons]
  by_cases h:c6 e.2∈M
  ·rw[if_pos h];constructor
   ·rintro(z|⟨z,y⟩)
    ·exact .inl z
    ·exact .inr ⟨.inr z,y⟩
   ·rintro(z|⟨rfl|z,y⟩)
    ·exact .inl z
    ·exact absurd h y
    ·exact .inr ⟨z,y⟩
  ·rw[if_neg h,nC];constructor
   ·rintro((z|rfl)|⟨z,y⟩)
    ·exact .inl z
    ·exact .inr ⟨.inl rfl,h⟩
    ·exact .inr ⟨.inr z,y⟩
   ·rintro(z|⟨rfl|z,y⟩)
    ·exact .inl (.inl z)
    ·exact .inl (.inr rfl)
    ·exact .inr ⟨z,y⟩
theorem jT(M:List Str):∀(es:List (Int×Value)) (acc:List Str),acc.Nodup->(dA es M acc).Nodup
 |[],acc,h=>h
 |e::r,acc,h=>by
  refine jT M r _ ?_;show(if c6 e.2∈M then acc else cU acc (c6 e.2)).Nodup;split
  ·exact h
  ·exact iE h
theorem ma(M:List Str):∀(es:List (Int×Value)) (acc:List Str),(dA es M acc).length<=acc.length+es.length
 |[],acc=>by simp[dA]
 |e::r,acc=>by
  have ih:=ma M r (if c6 e.2∈M then acc else cU acc (c6 e.2));show(dA r M (if c6 e.2∈M then acc else cU acc (c6 e.2))).length<=_;have h2:=j6 acc (c6 e.2);rw[aau];split at ih <;> simp_all <;> omega
theorem hX{h:Heap}(S:be w h a L):L.length<scanBound:=by
 obtain⟨o,es,ep,t,ho,hex,hd,hel,hp,nd,hb,_⟩:=S;have:=hp.length_eq;rw[aaa,Array.length_toList] at this;omega
theorem nK{Q:Bool->Shared->Prop}(S:be w s.heap a L)(h:Q true s):wpAny (model prog w) A (Builtin.Frozenset.isAnySet (.ref a)) Q E s:=by
 unfold Builtin.Frozenset.isAnySet;refine wpAny_bind (wpAny_isInstance S.typeIs sub_set_set ?_);exact wpAny_pure h
theorem tU{Q:Value->Shared->Prop}(S:be w s.heap a L)(h:Q (.type "set") s):wpAny (model prog w) A (Builtin.Frozenset.baseOf a) Q E s:=by
 unfold Builtin.Frozenset.baseOf;refine wpAny_bind (wpAny_isInstance S.typeIs sub_set_set ?_);exact wpAny_pure h
theorem nL{Q:Nat->Shared->Prop}(S:be w s.heap a L)(h:Q L.length s):wpAny (model prog w) A (Builtin.Frozenset.sizeOf a) Q E s:=by
 obtain⟨oa,esa,epa,ta,hoa,hda,hfa,_,_,_,hna⟩:=S.data;unfold Builtin.Frozenset.sizeOf;refine wpAny_bind (wpAny_setEntries_of hoa hda hfa (wpAny_pure ?_));rw[hna];exact h
theorem xQ{Q:Value->Shared->Prop}(S:be w s.heap a L)(T:be w s.heap b M)(hsm:L.length / 4<=M.length)
  (h:∀(D:List Str) (h':Heap) (tk:Nat) (d:Drawn),D.Nodup->(∀x,x∈D↔x∈L/\¬x∈M)->be w h' s.heap.objs.size D->(∀b o,s.heap.get? b=some o->h'.get? b=some o)->Q (.ref s.heap.objs.size) {s with heap:=h',toks:=tk,drawn:=d}) :
  wpAny (model prog w) A (binaryOp .Sub (.ref a) (.ref b)) Q E s:=by
 refine wpAny_binaryOp_same S.typeIs T.typeIs PySem.F.fills_set_sub PySem.F.slot_set_sub ?_;refine wpAny_call_entry PySem.F.slot_set_sub S.typeIs my ?_ (PySem.F.args_set_sub_2 _ _);obtain⟨oa,esa,epa,ta,hoa,hda,hfa,hEa,_,_,hna⟩:=S.data;obtain⟨ob,esb,epb,tb,hob,hdb,hfb,hEb,_,_,hnb⟩:=T.data;have lta:=Heap.lt_size hoa;have ltb:=Heap.lt_size hob;show wpAny _ _ (do
  let (self,other) ←Builtin.Frozenset.slot1 "__sub__" ⟨[.ref a,.ref b],[]⟩
  let (l,r):=if false then (other,self) else (self,other)
  if !(←Builtin.Frozenset.isAnySet l <&&> Builtin.Frozenset.isAnySet r) then rule s!"frozenset.__sub__.declined";return ←ret .notImplemented
  ret (←Builtin.Frozenset.difference s!"frozenset.__sub__" (←Builtin.Frozenset.addrOf l) r)) _ _ s
 refine wpAny_bind (wpAny_pure ?_);show wpAny _ _ (do
  let d ←Builtin.Frozenset.isAnySet (.ref a) <&&> Builtin.Frozenset.isAnySet (.ref b)
  if (!d)=true then do rule (toString "frozenset.__sub__.declined");ret .notImplemented
  else do
   let x ←Builtin.Frozenset.addrOf (.ref a)
   let y ←Builtin.Frozenset.difference (toString "frozenset.__sub__") x (.ref b)
   ret y) _ _ s
 refine wpAny_bind ?_;refine wpAny_bind (nK S ?_);refine nK T ?_;rw[if_neg (by decide)];refine wpAny_bind (wpAny_pure ?_);refine wpAny_bind ?_;unfold Builtin.Frozenset.difference;refine wpAny_bind (nK T ?_);simp only[Bool.not_true,Bool.false_eq_true,if_false,Bool.false_and,if_true];refine wpAny_bind (wpAny_pure ?_);refine wpAny_bind (nL T ?_);refine wpAny_bind (nL S ?_);rw[if_neg (by omega)];refine wpAny_bind (tU S ?_);refine wpAny_bind (tS fun h1 F1 k1=>?_);refine wpAny_bind (wpAny_pure ?_);have S1:be w h1 a L:=S.at fun o e=>k1 _ _ e
 have T1:be w h1 b M:=T.at fun o e=>k1 _ _ e
 have hna1:a≠s.heap.objs.size:=Nat.ne_of_lt lta;have hnb1:b≠s.heap.objs.size:=Nat.ne_of_lt ltb;refine wpAny_bind (wpAny_setEpoch_of (k1 _ _ hoa) hda hfa ?_);refine wpAny_bind (wpAny_holding ?_);have hlen:L.length<scanBound:=hX S;refine wpAny_bind (nJ (s:={s with heap:=h1}) S1 F1 hna1 (fun x hx=>?_) fun es h2 d hE sb2 F2=>?_)
 ·simp only[List.mem_cons,List.not_mem_nil,or_false] at hx;rcases hx with rfl|rfl
  ·exact⟨M,T1⟩
  ·exact⟨[],F1⟩
 have hel:es.toList.length=L.length:=by
  have:=hE.2.length_eq;rw[aaa] at this;exact this
 have hoa2:h2.get? a=some oa:=sb2.extBut _ _ hna1 (k1 _ _ hoa);refine wpAny_bind (wpAny_forIn_array' _ (fun rest (_:PUnit) s'=>∃(done:List (Int×Value)) (h3:Heap) (tk:Nat),es.toList=done++rest/\s'={s with heap:=h3,toks:=tk,drawn:=d}/\
   be w h3 s.heap.objs.size (dA done M [])/\(∀x o,x≠s.heap.objs.size->h2.get? x=some o->h3.get? x=some o)) _ ?_ ?_ es _ ⟨[],h2,s.toks,rfl,rfl,F2,fun _ _ _ e=>e⟩)
 ·rintro e rest u s' ⟨done,h3,tk,hsp,rfl,F3,k3⟩;obtain⟨k,tk',rfl⟩:=hE.1 e (by rw[hsp];simp);have T3:be w h3 b M:=T1.at fun o e=>k3 _ _ hnb1 (sb2.extBut _ _ hnb1 e)
  have hdl:(dA done M []).length+1<scanBound:=by
   have h1:=ma M done [];have h2:done.length+(rest.length+1)=L.length:=by rw[←hel,hsp];simp
   simp at h1;omega
  have step:∀(h4:Heap) (tk4:Nat) (P:ForInStep PUnit->Shared->Prop),(∀x o,x≠s.heap.objs.size->h2.get? x=some o->h4.get? x=some o)->P (.yield PUnit.unit) {s with heap:=h4,toks:=tk4,drawn:=d}->
    wpAny (model prog w) A.in1 (do Builtin.Frozenset.unchanged (toString "frozenset.__sub__") a epa;pure (ForInStep.yield PUnit.unit)) P E {s with heap:=h4,toks:=tk4,drawn:=d}:=by
   intro h4 tk4 P k4 hP;refine wpAny_bind ?_;unfold Builtin.Frozenset.unchanged;refine wpAny_bind (wpAny_setEpoch_of (k4 _ _ hna1 hoa2) hda hfa ?_);rw[if_neg (by simp)];exact wpAny_pure (wpAny_pure hP)
  have em:dA (done++[(hashStr w k,Value.str k tk')]) M []=if k∈M then dA done M [] else cU (dA done M []) k:=by
   unfold dA;rw[List.foldl_append];rfl
  refine wpAny_bind (wpAny_holding ?_);refine wpAny_bind (xN (s:={s with heap:=h3,toks:=tk,drawn:=d}) T3 fun o ho=>?_);refine wpAny_bind (wpAny_pure ?_)
  by_cases hk:k∈M
  ·rw[if_neg (by rw[ho,aan hk];decide)];refine wpAny_pure (step h3 tk _ k3 ⟨done++[(hashStr w k,Value.str k tk')],h3,tk,by rw[hsp];simp,rfl,?_,k3⟩);rw[em,if_pos hk];exact F3
  ·rw[if_pos (by rw[ho,aai hk];rfl)];refine wpAny_bind (jP (s:={s with heap:=h3,toks:=tk,drawn:=d}) F3 hdl fun h4 sb4 F4=>?_);have k4:∀x o,x≠s.heap.objs.size->h2.get? x=some o->h4.get? x=some o:=fun x o hx e=>sb4.extBut _ _ hx (k3 x o hx e)
   refine wpAny_pure (step h4 tk _ k4 ⟨done++[(hashStr w k,Value.str k tk')],h4,tk,by rw[hsp];simp,rfl,?_,k4⟩);rw[em,if_neg hk];exact F4
 ·rintro u s' ⟨done,h3,tk,hsp,rfl,F3,k3⟩;have hsp:es.toList=done:=by rw[hsp];simp
  subst hsp;refine wpAny_pure (wpAny_pure (wpAny_pure ⟨_,rfl,(by intro z;cases z),h _ h3 tk d (jT M _ _ List.nodup_nil) (fun x=>?_) F3 fun x o e=>?_⟩))
  ·rw[l9];rw[hE.2.mem_iff];simp
  ·have hlt:x≠s.heap.objs.size:=Nat.ne_of_lt (Heap.lt_size e);exact k3 x o hlt (sb2.extBut _ _ hlt (k1 x o e))
end
end SL
namespace L2
open PySem PySem.Spec PyProof.Rows
open SL (be aq srt hX)
section
variable {X:Cx}{pins:List (Addr×Obj)}{σ:St}{H:Hp}{s:Shared}
theorem Inv.draw(I:Inv X pins σ H s)(d:Drawn):Inv X pins σ H {s with drawn:=d}:=⟨I.ok,I.os,I.bare,I.base,I.loc,I.cell,I.free,I.freeC,I.pin,I.hok,I.len⟩
theorem lw:∀{ss:List Str} {us:List Value},Vals (ss.map V.str) us->StrsAre us ss
 |[],us,h=>by cases h;exact .nil
 |x::r,us,h=>by
  cases h with
  |cons e t=>
   obtain⟨tk,rfl⟩:=e;exact .cons x tk (lw t)
theorem ja:∀{us:List Value} {ss:List Str},StrsAre us ss->Vals (ss.map V.str) us
 |_,_,.nil=>.nil
 |_,_,.cons x t h=>.cons ⟨t,rfl⟩ (ja h)
theorem jU{us:List Value}{ss:List Str}(h:StrsAre us ss):us.length=ss.length:=by
 have:=(ja h).length;rw[aaa] at this;exact this.symm
theorem jV:∀{us:List Value} {ss:List Str},StrsAre us ss->∀(i:Nat) (v:Value),us[i]? =some v->∃t,v=.str (ss.getD i Str.empty) t
 |_,_,.nil,i,v,h=>by simp at h
 |_,_,.cons x t r,0,v,h=>by simp at h;exact⟨t,by rw[←h];rfl⟩
 |_,_,.cons x t r,i+1,v,h=>by
  simp only[List.getElem?_cons_succ] at h;obtain⟨t',e⟩:=jV r i v h;exact⟨t',by rw[e];rfl⟩
def dm(w:World)(a:Addr)(L:List Str):HO:=.ext fun h=>be w h a L
theorem pC{P:Program}{w:World}{H:Hp}{h:Heap}{a:Addr}{L:List Str}(S:be w h a L):ba P w H h a (dm w a L):=⟨S,S.there,fun _ _ S k=>S.at k⟩
theorem Inv.tV{a:Addr}{L:List Str}(I:Inv X pins σ H s)(h:H a=some (dm X.w a L)):be X.w s.heap a L:=(I.hok a _ h).1
theorem Inv.newList{its:List Value}{ys:List V}{n:Nat}{h':Heap}{a:Addr}{tk:Nat}(I:Inv X pins σ H s)(k:∀b o,s.heap.get? b=some o->h'.get? b=some o)(ha:s.heap.objs.size<=a)(e:h'.get? a=some {cls:=.type "list",data:=.seq its.toArray n})(r:Vals ys its)(hz:ys.length<=sizeLine) :
  Inv X pins σ (upd H a (.lst ys)) {s with heap:=h',toks:=tk}:=I.laid (t':=tk) k ha (show ba X.prog X.w _ h' _ (.lst ys) from ⟨hz,its,n,r,e⟩)
end
section
variable {X:Cx}
theorem dZ(hc:X.calm=true):dt X (.type "set") (fun xs H Q=>∃p ss,xs=[.ref p]/\SqL X.K H p (ss.map V.str)/\ss.length+1<scanBound/\∀q,H q=none->Q (.ref q) (upd H q (dm X.w q (aq ss)))):=by
 intro pins s σ H xs us Q I r h;obtain⟨p,ss,rfl,hq,hb,q⟩:=h;obtain⟨u,rfl,rx⟩:=vals1 r;cases rx
 obtain⟨its,r',pl,hz⟩:=I.list hq;have hS:=lw r';have hl:=jU hS;refine SL.mw (I.ok.hd hc) pl.isList (ss:=ss) (fun i v e=>jV hS i v (by simpa using e)) (by simpa using hl) (by simp only[aaq];omega) fun h' tk S k=>?_
 exact⟨.ref _,_,I.laid (t':=tk) (fun b o e=>k b o (Heap.lt_size e) e) (Nat.le_refl _) (pC S),rfl,q _ I.fresh⟩
theorem wv:OpR X (binaryOp .Sub) (fun x y H Q=>∃a b L M,x=.ref a/\y=.ref b/\H a=some (dm X.w a L)/\H b=some (dm X.w b M)/\L.length / 4<=M.length/\
  ∀q D,H q=none->D.Nodup->(∀z,z∈D↔z∈L/\¬z∈M)->Q (.ref q) (upd H q (dm X.w q D))):=by
 intro pins s σ H x y v u Q I rx ry h;obtain⟨a,b,L,M,rfl,rfl,h1,h2,hl,q⟩:=h;cases rx
 cases ry
 refine SL.xQ (I.tV h1) (I.tV h2) hl fun D h' tk d nd hm S k=>?_
 have J:Inv X pins σ (upd H s.heap.objs.size (dm X.w s.heap.objs.size D)) {s with heap:=h',toks:=tk}:=I.laid (t':=tk) k (Nat.le_refl _) (pC S);exact⟨.ref _,_,J.draw d,rfl,q _ D I.fresh nd hm⟩
def zN(X:Cx)(H:Hp)(p:Addr)(ss:List Str):Prop:=SqL X.K H p (ss.map V.str)\/H p=some (dm X.w p ss)\/∃kvs,H p=some (.dK kvs)/\kvs.map (·.1)=ss.map Sum.inr
theorem cq(hc:X.calm=true):dt X (.builtin "sorted") (fun xs H Q=>∃p ss,xs=[.ref p]/\zN X H p ss/\ss.length<64/\∀q,H q=none->Q (.ref q) (upd H q (.lst ((srt ss).map V.str)))):=by
 intro pins s σ H xs us Q I r h;obtain⟨p,ss,rfl,hq,h64,q⟩:=h;obtain⟨u,rfl,rx⟩:=vals1 r;cases rx
 have hh:X.A.in1.handled=none:=I.ok.hd hc;have hz:((srt ss).map V.str).length<=sizeLine:=by rw[aaa,SL.dz,sizeLine_eq];omega
 have fin:∀(vs:List Value) (ss':List Str) (h1:Heap) (tk:Nat) (d:Drawn),StrsAre vs ss'->ss'.Perm ss->(∀b o,s.heap.get? b=some o->h1.get? b=some o)->
   ∃ss,StrsAre vs ss/\vs.length<64/\∀(out:List Value) (e:Nat) (h':Heap),StrsAre out (srt ss)->(∀b o,h1.get? b=some o->h'.get? b=some o)->h'.get? h1.objs.size=some {cls:=.type "list",data:=.seq out.toArray e}->
    EP X pins σ Q (.ref h1.objs.size) {s with heap:=h',toks:=tk,drawn:=d}:=by
  intro vs ss' h1 tk d hS hp k;have I1:Inv X pins σ H {s with heap:=h1,toks:=tk}:=I.kept (t':=tk) k;refine⟨ss',hS,by rw[jU hS,hp.length_eq];exact h64,fun out e h' hO k' he=>?_⟩;rw[SL.l8 hp] at hO;have J:=I1.newList (tk:=tk) k' (Nat.le_refl _) he (ja hO) hz;exact⟨.ref _,_,J.draw d,rfl,q _ I1.fresh⟩
 refine SL.rY ?_;rcases hq with hq|hq|⟨kvs,hq,hk⟩
 ·obtain⟨its,r',pl,hz'⟩:=I.list hq;have hS:=lw r';refine collect_list pl.isList ?_;refine fin its ss _ s.toks s.drawn hS (.refl _) (fun b o e=>?_);refine(Heap.get?_update_other _ _ ?_).trans (aaf _ e);exact Ne.symm (Nat.ne_of_lt (Heap.lt_size e))
 ·refine SL.pe hh (I.tV hq) fun vs h' tk d hO k=>?_
  have hS:=strsAre_map vs hO.str;have e:vs.map strOf=vs.map SL.c6:=List.map_congr_left fun v hv=>by
   obtain⟨x,t,rfl⟩:=hO.str v hv;rfl
  exact fin vs _ h' tk d hS (by rw[e];exact hO.perm) k
 ·obtain⟨z,hsm,vs,rel,dd⟩:=mF I.hok hq;obtain⟨ep,hat⟩:=dd.dictAt;have hlen:vs.length=ss.length:=by
   have h1:=rel.length;have h2:=congrArg List.length hk;rw[aaa,aaa] at h2;omega
  refine PySem.W.kdu_collect (PySem.W.kdl_dict (knd:=bD X.prog X.w) (kvs:=vs) (ep:=ep) hsm) hh hat (by rw[hlen,sizeLine_eq];omega) fun h' tk acc k hacc=>?_
  have hS:StrsAre acc.toList ss:=by
   have hks:vs.map (·.1)=ss.map Sum.inr:=by rw[←rel.keys];exact hk
   have hst:∀(j:Nat) (v:Value),acc[j]? =some v->∃t,v=.str (ss.getD j Str.empty) t:=fun j v e=>by
    obtain⟨k',x,h1,h2⟩:=hacc.2 j v e;have h3:=congrArg (fun l=>l[j]?) hks;simp only[aax,h1] at h3;cases q3:ss[j]? with
    |none=>rw[q3] at h3;cases h3
    |some y=>
     rw[q3] at h3;have h3:some k'=some (Sum.inr y):=h3;injection h3 with h3;subst h3;obtain⟨t,rfl⟩:=Value.isStrOf_shape (x:=y) (v:=v) h2;exact⟨t,by rw[aat,q3];rfl⟩
   have ha:∀v,v∈acc.toList->∃x t,v=Value.str x t:=fun v hv=>by
    obtain⟨j,hj,e⟩:=List.mem_iff_getElem.mp hv;obtain⟨t,e'⟩:=hst j v (by rw[←Array.getElem?_toList,aae hj,e]);exact⟨_,t,e'⟩
   have h4:=strsAre_map acc.toList ha;have h5:acc.toList.map strOf=ss:=by
    apply List.ext_getElem?;intro j;rw[aax,Array.getElem?_toList];cases q4:acc[j]? with
    |none=>
     have:ss.length<=j:=by
      rw[Array.getElem?_eq_none_iff] at q4;rw[hacc.1,hlen] at q4;exact q4
     rw[List.getElem?_eq_none this];rfl
    |some v=>
     obtain⟨t,rfl⟩:=hst j v q4;have hj:j<ss.length:=by
      obtain⟨hlt,_⟩:=Array.getElem?_eq_some_iff.mp q4;rw[hacc.1,hlen] at hlt;exact hlt
     rw[aat,aae hj];rfl
   rw[h5] at h4;exact h4
  exact fin _ ss h' tk s.drawn hS (.refl _) k
theorem nM(hc:X.calm=true):dt X (.builtin "all") (fun xs H Q=>∃(p:Addr) (bs:List Bool),xs=[.ref p]/\SqL X.K H p (bs.map V.bl)/\Q (.bl (bs.all id)) H):=by
 intro pins s σ H xs us Q I r h;obtain⟨p,bs,rfl,hq,q⟩:=h;obtain⟨u,rfl,rx⟩:=vals1 r;cases rx
 obtain⟨its,r',pl,hz⟩:=I.list hq;have hplt:p<s.heap.objs.size:=by
  obtain⟨o,n,e,_⟩:=pl;exact Heap.lt_size e
 have hb:∀(i:Nat) (v:Value),its.toArray[i]? =some v->v=.bool (bs.getD i true)/\i<bs.length:=fun i v e=>by
  have e:its[i]? =some v:=by simpa using e
  cases q1:(bs.map V.bl)[i]? with
  |none=>
   have:=Vals.none_of r' q1;rw[this] at e;cases e
  |some x=>
   obtain⟨u,h1,h2⟩:=Vals.get r' q1;rw[e] at h1;cases h1;rw[aax] at q1;cases q2:bs[i]? with
   |none=>rw[q2] at q1;cases q1
   |some b=>
    rw[q2] at q1;have q1:some (V.bl b)=some x:=q1;injection q1 with q1;subst q1;cases h2
    rw[aat,q2];exact⟨rfl,(aab.mp q2).1⟩
 have hl:its.length=bs.length:=by
  have:=r'.length;rw[aaa] at this;exact this.symm
 refine call_all_walk (wpAny_pyIter_list pl.isList ?_);refine⟨s.heap.objs.size,_,_,_,_,_,fun i=>bs.getD i true,rfl,Walks.list (show X.A.in1.handled=none from I.ok.hd hc) s.heap.objs.size p (Nat.ne_of_lt hplt) its.toArray,⟨⟨_,aay _ rfl,rfl,rfl⟩,pl.isList.push _⟩,?_,fun h' tk k=>?_⟩
 ·intro i v s' Q' E' hP h';obtain⟨rfl,_⟩:=hb i v hP;exact wpAny_truthy_bool h'
 ·have e:((List.range its.toArray.size).all fun i=>bs.getD i true)=bs.all id:=by
   rw[aaq,hl,Bool.eq_iff_iff,List.all_eq_true,List.all_eq_true];constructor
   ·intro z b hb';obtain⟨i,hi,e⟩:=List.mem_iff_getElem.mp hb';have:=z i (List.mem_range.mpr hi);rw[aat,aae hi] at this;rw[←e];exact this
   ·intro z i hi;have hi:=List.mem_range.mp hi;rw[aat,aae hi];exact z _ (List.getElem_mem hi)
  rw[e];refine⟨.bl _,H,I.kept (t':=tk) fun b o z=>?_,rfl,q⟩;exact k b o (by simp only[aaj];exact Nat.ne_of_lt (Heap.lt_size z)) (aaf _ z)
theorem preSum_eq(ns:List Int):∀n,n<=ns.length->preSum (fun i=>ns.getD i 0) n=(ns.take n).sum
 |0,_=>rfl
 |n+1,h=>by
  show preSum _ n+ns.getD n 0=_;rw[preSum_eq ns n (by omega),aap,List.sum_append,aat,aae (by omega)];simp
theorem tW(hc:X.calm=true):dt X (.builtin "sum") (fun xs H Q=>∃(p:Addr) (ns:List Int),xs=[.ref p]/\SqL X.K H p (ns.map V.int)/\Q (.int ns.sum) H):=by
 intro pins s σ H xs us Q I r h;obtain⟨p,ns,rfl,hq,q⟩:=h;obtain⟨u,rfl,rx⟩:=vals1 r;cases rx
 obtain⟨its,r',pl,hz⟩:=I.list hq;have hI:=intsAre_of r';have hplt:p<s.heap.objs.size:=by
  obtain⟨o,n,e,_⟩:=pl;exact Heap.lt_size e
 have hl:its.length=ns.length:=hI.length;refine call_sum_walkAnyS (wpAny_pyIter_list pl.isList ?_);refine⟨s.heap.objs.size,_,_,_,_,_,_,fun i=>ns.getD i 0,rfl,(Walks.list (show X.A.in1.handled=none from I.ok.hd hc) s.heap.objs.size p (Nat.ne_of_lt hplt) its.toArray).toS,⟨⟨_,aay _ rfl,rfl,rfl⟩,pl.isList.push _⟩,fun b hb=>?_,fun i v e=>IntsAre.int_at hI i v (by simpa using e),fun s' t' hm=>?_⟩
 ·simp only[List.mem_cons,List.not_mem_nil,or_false] at hb;show b<(s.heap.push _).objs.size;rw[Heap.size_push];rcases hb with rfl|rfl
  ·exact Nat.lt_succ_self _
  ·exact Nat.lt_succ_of_lt hplt
 ·have e:preSum (fun i=>ns.getD i 0) its.toArray.size=ns.sum:=by
   rw[aaq,hl,preSum_eq ns _ (Nat.le_refl _),aas]
  rw[e,SL.nI hm];refine⟨.int _,H,I.kept (t':=s'.toks) fun b o z=>?_,⟨_,rfl⟩,q⟩;exact hm.heap b o (by simp only[aaj];exact Nat.ne_of_lt (Heap.lt_size z)) (aaf _ z)
end
end L2
namespace L2
open PySem PySem.Spec PyProof.Rows
open SL (be aq srt hX)
def Itd(o:Obj)(d:Addr)(kvs:List (Key×V)):It:=
 ⟨fun i H=>H d=some (.frz o (.dK kvs))/\i<kvs.length,fun i H x H'=>H'=H/\∃k v,kvs[i]? =some (k,v)/\x=kV k,fun i H=>H d=some (.frz o (.dK kvs))/\kvs.length<=i⟩
theorem ww{P:Program}{w:World}{k:Key}{u:Value}(h:(bD P w).is k u=true):RelV (kV k) u:=by
 rcases cp (k:=k) (v:=u) h with ⟨i,t,rfl,rfl⟩|⟨x,t,rfl,rfl⟩
 ·exact⟨t,rfl⟩
 ·exact⟨t,rfl⟩
theorem rZ{P:Program}{w:World}{K:PySem.W.Frag}{tg:Expr}(d it:Addr)(o:Obj)(kvs:List (Key×V))(n ep:Nat)(hn:n=kvs.length)(hep:∃es,o.data=.dict es ep):Turn P w K tg (Itd o d kvs) [it] it (fun i h=>h.IsKeyIter it d i n ep) where
 mem:=by simp
 obj:=fun i h st b hb=>by
  have e:b=it:=by simpa using hb
  subst e;obtain⟨o',ho,hc,hd⟩:=st;exact⟨o',ho,fun v z=>by rw[hd] at z;cases z⟩
 keep:=fun i h h' st k=>by
  obtain⟨o',ho,r⟩:=st;exact⟨o',k it (by simp) o' ho,r⟩
 item:=by
  intro X hP hw hK hc i pins s σ H E I f st go;subst hP;subst hw;subst hK;obtain⟨e,hi⟩:=go;obtain⟨ho,ob⟩:=I.hok d _ e;obtain⟨z,hsm,vs,rel,o2,es2,ep2,h1,h2,h3,h4,h5,h6⟩:=ob;rw[ho] at h1;cases h1;obtain⟨es,hes⟩:=hep;rw[hes] at h3;injection h3 with h3 h3';subst h3';have hvl:vs.length=n:=by rw[hn,←rel.length]
  have hat:s.heap.DictAt (bD X.prog X.w) d vs ep:=⟨o,es2,ho,h2,by rw[hes,h3],h4,h5,h6⟩;subst hvl;obtain⟨kv,hkv⟩:∃kv,kvs[i]? =some kv:=⟨kvs[i],aae hi⟩;have hvi:∃u,vs[i]? =some (kv.1,u):=by
   have hk:=congrArg (fun l=>l[i]?) rel.keys;simp only[aax,hkv] at hk;cases q:vs[i]? with
   |none=>rw[q] at hk;cases hk
   |some p=>
    rw[q] at hk;have hk:some kv.1=some p.1:=hk;injection hk with hk;exact⟨p.2,by rw[hk]⟩
  obtain⟨u,hu⟩:=hvi;have hf:=f it (by simp);refine wpAny_pyNext_dict_item st hat hu fun key h' hkey st' hs=>?_
  obtain⟨oi,hoi,hci,hdi⟩:=id st';refine⟨key,rfl,mE (n:="dict_keyiterator") hoi hci hdi (by decide) ?_⟩;exact⟨kV kv.1,H,I.turned (t':=s.toks) (fun b o hb e=>hs.extBut b o hb e) hf.1 hf.2.1 hf.2.2.2.1 hf.2.2.2.2.1 hf.2.2.2.2.2,ww hkey,⟨rfl,kv.1,kv.2,hkv,rfl⟩,st',fun b hb=>by
   have e:b=it:=by simpa using hb
   subst e;exact hf.1⟩
 done:=by
  intro X hP hw hK hc i pins s σ H E I f st stop;subst hP;subst hw;subst hK;obtain⟨e,hi⟩:=stop;obtain⟨ho,ob⟩:=I.hok d _ e;obtain⟨z,hsm,vs,rel,o2,es2,ep2,h1,h2,h3,h4,h5,h6⟩:=ob;rw[ho] at h1;cases h1;obtain⟨es,hes⟩:=hep;rw[hes] at h3;injection h3 with h3 h3';subst h3';have hvl:vs.length=n:=by rw[hn,←rel.length]
  have hat:s.heap.DictAt (bD X.prog X.w) d vs ep:=⟨o,es2,ho,h2,by rw[hes,h3],h4,h5,h6⟩;subst hvl;have hf:=f it (by simp);refine wpAny_pyNext_dict_end (I.ok.hd hc) st hat (List.getElem?_eq_none (by rw[←rel.length];exact hi)) fun h' hs=>?_
  exact⟨rfl,I.turned (t':=s.toks) (fun b o hb e=>hs b o hb e) hf.1 hf.2.1 hf.2.2.2.1 hf.2.2.2.2.1 hf.2.2.2.2.2⟩
 self:=fun A i s Q E st h=>wpAny_pyIter_keyiter st h
def yZ(tl:TE):TI:=fun σ H R=>tl σ H fun x H1=>∃d kvs,x=.ref d/\H1 d=some (.dK kvs)/\∀o,R (Itd o d kvs) (upd H1 d (.frz o (.dK kvs)))
section
variable {X:Cx}{tg:Expr}
theorem Inv.freeze{pins:List (Addr×Obj)}{σ:St}{H:Hp}{s:Shared}{d:Addr}{kvs:List (Key×V)}{o:Obj}(I:Inv X pins σ H s)(e:H d=some (.dK kvs))(ho:s.heap.get? d=some o):Inv X pins σ (upd H d (.frz o (.dK kvs))) s:=by
 have mu:Mut (H d):=by rw[e];trivial
 have hok:HOk X.prog X.w (upd H d (.frz o (.dK kvs))) s.heap:=I.hok.write mu (.inl rfl) (fun _ _ _ q=>q) ⟨o,ho⟩ ⟨ho,(I.hok d _ e).eO (fun _ _ _ q=>q) (fun b q=>by
   rw[am (fun z=>by rw[z,e] at q;cases q)];exact q) fun b xs q=>by rw[am (fun z=>by rw[z,e] at q;cases q)];exact q⟩
 have:=I.un (t':=s.toks) (h':=s.heap) (H':=upd H d (.frz o (.dK kvs))) (Un.write mu (.inl rfl) (fun _ _ _ q=>q) ⟨o,ho⟩) hok;exact this
theorem wx{l:Expr}{tl:TE}(hl:PE X l tl):PI X tg l (yZ tl):=by
 intro pins s σ H R I h;refine thn (hl pins s σ H _ I h) fun v s1 ⟨x,H1,I1,r1,q1⟩=>?_
 obtain⟨d,kvs,rfl,hd,q⟩:=q1;cases r1
 obtain⟨z,hsm,vs,rel,dd⟩:=mF I1.hok hd;obtain⟨ep,hat⟩:=dd.dictAt;obtain⟨o,es,ho,h2,h3,h4⟩:=id hat;refine wpAny_pyIter_dict hsm hat ?_;have I2:=I1.freeze hd ho;have I3:Inv X pins σ (upd H1 d (.frz o (.dK kvs))) {s1 with heap:=s1.heap.push {cls:=.type "dict_keyiterator",data:=.fields #[.ref d,.int 0 0,.int vs.length 0,.int ep 0]}}:=I2.kept (t':=s1.toks) fun b o e=>aaf _ e
 refine⟨s1.heap.objs.size,[s1.heap.objs.size],_,Itd o d kvs,_,rfl,I3,rZ d s1.heap.objs.size o kvs vs.length ep rel.length.symm ⟨es,h3⟩,⟨_,aay _ rfl,rfl,rfl⟩,fun b hb=>?_,q o⟩;have e:b=s1.heap.objs.size:=by simpa using hb
 subst e;exact I2.gW (Nat.le_refl _) I2.fresh
theorem tX{o:Obj}{d:Addr}{kvs:List (Key×V)}{g:TG}{tb:TS}{D:Ends}{σ:St}{H:Hp}(Pv:Nat->St->Hp->Prop)(h0:Pv 0 σ H)(hl:∀i σ H,Pv i σ H->H d=some (.frz o (.dK kvs)))
  (hs:∀i k v σ H,kvs[i]? =some (k,v)->Pv i σ H->g (kV k) σ H fun σ2 H2=>tb {D with nx:=Pv (i+1),ct:=Pv (i+1),bk:=D.nx} σ2 H2)(hd:∀σ H,Pv kvs.length σ H->D.nx σ H) :
  ∃W:Nat->Nat->St->Hp->Prop,(∃m,W 0 m σ H)/\∀i m σ H,W i m σ H->
   ((Itd o d kvs).stop i H/\D.nx σ H)\/((Itd o d kvs).go i H/\∃N:St->Hp->Prop,(∀σ' H',N σ' H'->∃m',m'<m/\W (i+1) m' σ' H')/\∀x H',(Itd o d kvs).yld i H x H'->g x σ H' fun σ2 H2=>tb {D with nx:=N,ct:=N,bk:=D.nx} σ2 H2):=by
 refine⟨fun i m σ H=>Pv i σ H/\i<=kvs.length/\m=kvs.length - i,⟨_,h0,Nat.zero_le _,rfl⟩,fun i m σ H ⟨p,hi,hm⟩=>?_⟩;rcases Nat.lt_or_ge i kvs.length with hlt|hge
 ·refine .inr ⟨⟨hl i σ H p,hlt⟩,Pv (i+1),fun σ' H' n=>⟨kvs.length - (i+1),by omega,n,hlt,rfl⟩,fun x H' y=>?_⟩;obtain⟨rfl,k,v,e,rfl⟩:=y;exact hs i k v σ _ e p
 ·have e:i=kvs.length:=by omega
  subst e;exact .inl ⟨⟨hl _ σ H p,Nat.le_refl _⟩,hd σ H p⟩
end
end L2
namespace L2
open PySem PySem.Spec PyProof.Rows
open SL (be aq srt hX)
section
variable {X:Cx}
theorem cx:dt X (.builtin "isinstance") (fun xs H Q=>∃x c t b,xs=[x,.ty c]/\cu X.K H x t/\PySem.W.kitOne X.K t (.type c)=some b/\Q (.bl b) H):=by
 intro pins s σ H xs us Q I r h;obtain⟨x,c,t,b,rfl,ty,e,q⟩:=h;obtain⟨u,w',rfl,rx,ry⟩:=vals2 r;cases ry
 exact rD I rx ty e fun tk=>⟨.bl b,H,I.tok tk,rfl,q⟩
theorem r6:dt X (.builtin "isinstance") (fun xs H Q=>∃(x:V) (tp:Addr) (cs:List String) (t:Value) (b:Bool),xs=[x,.ref tp]/\H tp=some (.tup (cs.map V.ty))/\cu X.K H x t/\PySem.W.kitAny X.K t (cs.map Value.type)=some b/\Q (.bl b) H):=by
 intro pins s σ H xs us Q I r h;obtain⟨x,tp,cs,t,b,rfl,htp,ty,e,q⟩:=h;obtain⟨u,w',rfl,rx,ry⟩:=vals2 r;cases ry
 obtain⟨_,its,rv,⟨o,ho,hoc,n,hod⟩⟩:=I.hok tp _ htp;have ei:its=cs.map Value.type:=by
  clear e htp ho hod;have:∀(cs:List String) (its:List Value),Vals (cs.map V.ty) its->its=cs.map Value.type:=by
   intro cs
   induction cs with
   |nil=>intro its h;cases h;rfl
   |cons c r ih=>
    intro its h;cases h with
    |cons h1 h2=>
     have h1:_=Value.type c:=h1;rw[h1,ih _ h2];rfl
  exact this cs its rv
 obtain⟨oc,od,odt,osl⟩:=o;simp only at hoc hod;subst hoc;subst hod;rw[ei] at ho;have fin:∀tk,EP X pins σ Q (.bool b) {s with toks:=tk}:=fun tk=>⟨.bl b,H,I.tok tk,rfl,q⟩
 cases ty with
 |non=>cases (show u=Value.none from rx);exact PySem.W.kia_tup PySem.W.kitx_none I.kIn True.intro ho e (fun z=>nomatch z) fin
 |bl y=>cases (show u=Value.bool y from rx);exact PySem.W.kia_tup PySem.W.kitx_bool I.kIn True.intro ho e (fun z=>nomatch z) fin
 |int i=>obtain⟨t,q⟩:=(show ∃t,u=Value.int i t from rx);cases q;exact PySem.W.kia_tup PySem.W.kitx_int I.kIn True.intro ho e (fun z=>nomatch z) fin
 |str y=>obtain⟨t,q⟩:=(show ∃t,u=Value.str y t from rx);cases q;exact PySem.W.kia_tup PySem.W.kitx_str I.kIn True.intro ho e (fun z=>nomatch z) fin
 |flt y=>obtain⟨t,q⟩:=(show ∃t,u=Value.float y t from rx);cases q;exact PySem.W.kia_tup PySem.W.kitx_float I.kIn True.intro ho e (fun z=>nomatch z) fin
 |@lst a xs ea=>
  cases (show u=Value.ref a from rx)
  obtain⟨_,_,n,_,h1⟩:=(show ba X.prog X.w H s.heap a (.lst xs) from I.hok a _ ea);exact PySem.W.kia_tup PySem.W.kitx_list I.kIn ⟨_,h1,rfl⟩ ho e (fun z=>nomatch z) fin
 |@frz a ob xs ea=>
  cases (show u=Value.ref a from rx)
  obtain⟨_,_,_,n,_,h1⟩:=(show ba X.prog X.w H s.heap a (.frz ob (.lst xs)) from I.hok a _ ea);exact PySem.W.kia_tup PySem.W.kitx_list I.kIn ⟨_,h1,rfl⟩ ho e (fun z=>nomatch z) fin
 |@tup a xs ea=>
  cases (show u=Value.ref a from rx)
  obtain⟨_,_,_,p⟩:=(show ba X.prog X.w H s.heap a (.tup xs) from I.hok a _ ea);obtain⟨o,h1,h2,_⟩:=p;exact PySem.W.kia_tup PySem.W.kitx_tuple I.kIn ⟨o,h1,h2⟩ ho e (fun z=>nomatch z) fin
 |@dK a kvs ea=>
  cases (show u=Value.ref a from rx)
  obtain⟨_,_,vs,_,p⟩:=(show ba X.prog X.w H s.heap a (.dK kvs) from I.hok a _ ea);obtain⟨o,es,ep,h1,h2,_⟩:=p;exact PySem.W.kia_tup PySem.W.kitx_dict I.kIn ⟨o,h1,h2.1⟩ ho e (fun z=>nomatch z) fin
 |@dT a kvs ea=>
  cases (show u=Value.ref a from rx)
  obtain⟨_,_,xs,_,o,es,ep,h1,h2,_⟩:=(show ba X.prog X.w H s.heap a (.dT kvs) from I.hok a _ ea);exact PySem.W.kia_tup PySem.W.kitx_dict I.kIn ⟨o,h1,h2.1⟩ ho e (fun z=>nomatch z) fin
 |@ins a C dx fs ea cl ha hn htk hm=>
  cases (show u=Value.ref a from rx)
  obtain⟨mA,O,_⟩:=px I.hok ea;obtain⟨od,J,_⟩:=O.look;exact PySem.W.kia_tup (PySem.W.kitx_own (cl.get _) cl.hd ha hn htk hm) I.kIn J ho e (fun z=>nomatch z) fin
theorem j7(hu:X.A.units<cLine):OpR X (compareOp .Eq) (fun x y H Q=>∃a b xs,x=.ref a/\y=.ref b/\SqL X.K H a xs/\SqL X.K H b []/\Q (.bl xs.isEmpty) H):=by
 intro pins s σ H x y v u Q I rx ry h;obtain⟨a,b,xs,rfl,rfl,h1,h2,q⟩:=h;cases rx
 cases ry
 obtain⟨its,r,pl,hz⟩:=I.list h1;obtain⟨its2,r2,pl2,hz2⟩:=I.list h2;cases r2
 have hl:=r.length;cases xs with
 |nil=>
  cases r
  refine SeqAt.eq_listAt (e:=fun _=>true) pl.isList pl2.isList rfl hu (fun j h1 h2=>absurd h1 (by simp)) ?_;exact⟨.bl true,H,I,rfl,q⟩
 |cons x xr=>
  refine SeqAt.eq_list_lengthsAt pl.isList pl2.isList ?_ hu ?_
  ·simp only[aaq];rw[←hl];simp
  ·exact⟨.bl false,H,I,rfl,q⟩
end
end L2
namespace L2
open PySem PySem.Spec PyProof.Rows
open SL (be aq srt hX)
section
variable {X:Cx}
theorem nN(hu:X.A.units<cLine):OpR X (compareOp .NotEq) (fun x y H Q=>∃a b xs,x=.ref a/\y=.ref b/\SqL X.K H a xs/\SqL X.K H b []/\Q (.bl (!xs.isEmpty)) H):=by
 intro pins s σ H x y v u Q I rx ry h;obtain⟨a,b,xs,rfl,rfl,h1,h2,q⟩:=h;cases rx
 cases ry
 obtain⟨its,r,pl,hz⟩:=I.list h1;obtain⟨its2,r2,pl2,hz2⟩:=I.list h2;cases r2
 have hl:=r.length;cases xs with
 |nil=>
  cases r
  refine SeqAt.RcNeAt.lists (e:=fun _=>true) pl.isList pl2.isList rfl hu (fun j h1 h2=>absurd h1 (by simp)) X.prog X.w _ _ ?_;exact⟨.bl false,H,I,rfl,q⟩
 |cons x xr=>
  refine SeqAt.RcNeAt.lists_lengths pl.isList pl2.isList ?_ hu X.prog X.w _ _ ?_
  ·simp only[aaq];rw[←hl];simp
  ·exact⟨.bl true,H,I,rfl,q⟩
end
abbrev Row:=Str×List Str
def ak(H:Hp)(a:Addr)(ss:List Str):Prop:=H a=some (.lst (ss.map V.str))
def dE(H:Hp)(v:V)(p:Row):Prop:=∃t b,v=.ref t/\H t=some (.tup [.str p.1,.ref b])/\ak H b p.2
def a7(H:Hp)(a:Addr)(R:List Row):Prop:=∃vs,H a=some (.lst vs)/\Paired (dE H) vs R
theorem ak.mono{H H':Hp}(e:ab H H'){a:Addr}{ss:List Str}(h:ak H a ss):ak H' a ss:=e _ _ h
theorem dE.mono{H H':Hp}(e:ab H H'){v:V}{p:Row}(h:dE H v p):dE H' v p:=by
 obtain⟨t,b,h1,h2,h3⟩:=h;exact⟨t,b,h1,e _ _ h2,h3.mono e⟩
theorem a7.mono{H H':Hp}(e:ab H H'){a:Addr}{R:List Row}(h:a7 H a R):a7 H' a R:=by
 obtain⟨vs,h1,h2⟩:=h;exact⟨vs,e _ _ h1,Paired.bJ h2 fun _ _ q=>q.mono e⟩
theorem aT{α β:Type}{F:α->β->Prop}:∀{l₁:List α} {l₂:List β},Paired F l₁ l₂->∀(i:Nat) (x:α),l₁[i]? =some x->∃y,l₂[i]? =some y/\F x y
 |_,_,.nil,i,x,e=>by simp at e
 |_,_,.cons h _,0,x,e=>by simp at e;subst e;exact⟨_,rfl,h⟩
 |_,_,.cons _ t,i+1,x,e=>by
  obtain⟨y,h1,h2⟩:=aT t i x (by simpa using e);exact⟨y,by simpa using h1,h2⟩
theorem cG{α β:Type}{F:α->β->Prop}:∀{l₁:List α} {l₂:List β},Paired F l₁ l₂->∀{x:α} {y:β},F x y->Paired F (l₁++[x]) (l₂++[y])
 |_,_,.nil,x,y,h=>.cons h .nil
 |_,_,.cons h t,x,y,h'=>.cons h (cG t h')
theorem ab.upd{H:Hp}{a:Addr}{o:HO}(h:H a=none):ab H (upd H a o):=fun b u e=>by rw[am (aR e h)];exact e
theorem ab.bz{H H1:Hp}{a:Addr}{o:HO}(e:ab H H1)(h:H a=none):ab H (L2.upd H1 a o):=fun b u q=>by rw[am (aR q h)];exact e b u q
section
variable {A:Around}{s:Shared}{P:Program}{w:World}{H:Hp}
theorem r8(A:Around)(s:Shared):∀{ss rs:List Str} {us vs:List Value},Vals (ss.map V.str) us->Vals (rs.map V.str) vs->∀(j:Nat) (h1:j<us.toArray.size) (h2:j<vs.toArray.size),SeqAt.EqAt A s us.toArray[j] vs.toArray[j] (decide (ss[j]? =rs[j]?)):=by
 intro ss rs us vs r1 r2 j h1 h2;have e1:us[j]? =some us.toArray[j]:=by rw[←List.getElem?_toArray,Array.getElem?_eq_getElem h1]
 have e2:vs[j]? =some vs.toArray[j]:=by rw[←List.getElem?_toArray,Array.getElem?_eq_getElem h2]
 have l1:=r1.length;have l2:=r2.length;rw[aaa] at l1 l2;have hj1:j<ss.length:=by rw[l1];simpa using h1
 have hj2:j<rs.length:=by rw[l2];simpa using h2
 obtain⟨u,hu,ru⟩:=Vals.get r1 (i:=j) (x:=.str ss[j]) (by rw[aax,aae hj1];rfl);obtain⟨v,hv,rv⟩:=Vals.get r2 (i:=j) (x:=.str rs[j]) (by rw[aax,aae hj2];rfl);rw[e1] at hu;cases hu;rw[e2] at hv;cases hv;have:=m7 (A:=A) (s:=s) ru rv rfl rfl;have e:decide (ss[j]? =rs[j]?)=eqV (.str ss[j]) (.str rs[j]):=by
  rw[aae hj1,aae hj2];show _=(ss[j] == rs[j])
  by_cases z:ss[j]=rs[j]
  ·rw[z];simp
  ·rw[aai (fun q=>z (Option.some.inj q))];exact(beq_eq_false_iff_ne.mpr z).symm
 rw[e];exact this
theorem qk{ss rs:List Str}(hl:ss.length=rs.length):((List.range ss.length).all fun j=>decide (ss[j]? =rs[j]?))=decide (ss=rs):=by
 rw[Bool.eq_iff_iff,List.all_eq_true,decide_eq_true_eq];constructor
 ·intro h;apply List.ext_getElem?;intro j;rcases Nat.lt_or_ge j ss.length with z|z
  ·exact of_decide_eq_true (h j (List.mem_range.mpr z))
  ·rw[List.getElem?_eq_none z,List.getElem?_eq_none (by omega)]
 ·intro h j _;rw[h];simp
theorem tY{t t' b b':Addr}{l l':Str}{r r':List Str}(ok:HOk P w H s.heap)(hu1:A.units<cLine)(hu2:A.in1.units<cLine)(h1:H t=some (.tup [.str l,.ref b]))(h2:ak H b r)(h1':H t'=some (.tup [.str l',.ref b']))(h2':ak H b' r')(ht:t≠t')(hb:b≠b') :
  SeqAt.EqAt A s (.ref t) (.ref t') (decide ((l,r)=(l',r'))):=by
 obtain⟨_,its,rv,tp⟩:=ok t _ h1;obtain⟨_,its',rv',tp'⟩:=ok t' _ h1';obtain⟨_,us,n,ru,eu⟩:=ok b _ h2;obtain⟨_,us',n',ru',eu'⟩:=ok b' _ h2';obtain⟨x1,x2,rfl,rx1,rx2⟩:∃x1 x2,its=[x1,x2]/\RelV (.str l) x1/\RelV (.ref b) x2:=Vals.two rv;obtain⟨y1,y2,rfl,ry1,ry2⟩:∃x1 x2,its'=[x1,x2]/\RelV (.str l') x1/\RelV (.ref b') x2:=Vals.two rv';cases rx2
 cases ry2
 have l1:us.length=r.length:=by have:=ru.length;rw[aaa] at this;exact this.symm
 have l2:us'.length=r'.length:=by have:=ru'.length;rw[aaa] at this;exact this.symm
 have il:s.heap.IsList b us.toArray:=⟨_,eu,rfl,n,rfl⟩;have il':s.heap.IsList b' us'.toArray:=⟨_,eu',rfl,n',rfl⟩;have eL:SeqAt.EqAt A.in1 s (.ref b) (.ref b') (decide (r=r')):=by
  refine SeqAt.EqAt.of_refs hb ?_
  by_cases hl:r.length=r'.length
  ·have:=SeqAt.RcAt.lists (A:=A.in1) (e:=fun j=>decide (r[j]? =r'[j]?)) il il' (by simp[l1,l2,hl]) hu2 (fun j h1 h2=>r8 _ _ ru ru' j h1 h2);rw[aaq,l1,qk hl] at this;exact this
  ·have e:decide (r=r')=false:=aai fun z=>hl (by rw[z])
   rw[e];exact SeqAt.RcAt.lists_lengths (A:=A.in1) il il' (by simp[l1,l2,hl]) hu2
 have eS:SeqAt.EqAt A.in1 s x1 y1 (decide (l=l')):=by
  have:=m7 (A:=A.in1) (s:=s) rx1 ry1 rfl rfl;have e:eqV (.str l) (.str l')=decide (l=l'):=by
   show(l == l')=_
   by_cases z:l=l'
   ·rw[z];simp
   ·rw[aai z];exact beq_eq_false_iff_ne.mpr z
  rw[e] at this;exact this
 refine SeqAt.EqAt.of_refs ht ?_;have:=SeqAt.RcAt.tuples (A:=A) (e:=fun j=>if j=0 then decide (l=l') else decide (r=r')) tp tp' hu1 (fun j h1 h2=>by
  have hj:j<2:=h1;rcases j with _|_|j
  ·exact eS
  ·exact eL
  ·omega)
 have e2:((List.range (min ([x1,Value.ref b]:List Value).toArray.size ([y1,Value.ref b']:List Value).toArray.size)).all (fun j=>if j=0 then decide (l=l') else decide (r=r')) && ([x1,Value.ref b]:List Value).toArray.size == ([y1,Value.ref b']:List Value).toArray.size)=decide ((l,r)=(l',r')):=by
  show((decide (l=l') && (decide (r=r') && true)) && true)=_
  by_cases z1:l=l'
  ·by_cases z2:r=r'
   ·subst z1;subst z2;simp
   ·simp[z1,z2]
  ·simp[z1]
 rw[e2] at this;exact this
end
def iG(H:Hp)(p:Row):Value->Bool
 |.ref t=>match H t with
  |some (.tup [.str l,.ref b])=>match H b with
   |some (.lst xs)=>decide (l=p.1/\xs=p.2.map V.str)
   |_=>false
  |_=>false
 |_=>false
theorem pf{a b:List Str}(h:a.map V.str=b.map V.str):a=b:=by
 induction a generalizing b with
 |nil=>cases b with | nil=>rfl | cons _ _=>cases h
 |cons x r ih=>cases b with
  |nil=>cases h
  |cons y q=>
   rw[aaw,aaw] at h;injection h with h1 h2;injection h1 with h1;rw[h1,ih h2]
theorem tZ{H:Hp}{p p':Row}{t b:Addr}(h1:H t=some (.tup [.str p'.1,.ref b]))(h2:ak H b p'.2):iG H p (.ref t)=decide (p'=p):=by
 have h2:H b=some (.lst (p'.2.map V.str)):=h2;unfold iG;dsimp only;rw[h1];dsimp only;rw[h2];dsimp only
 by_cases z:p'=p
 ·subst z;simp
 ·rw[aai z,aai];rintro⟨e1,e2⟩;exact z (Prod.ext e1 (pf e2))
section
variable {X:Cx}
theorem nO(hu1:X.A.in1.units<cLine)(hu2:X.A.in1.in1.units<cLine):OpR X (compareOp .NotIn) (fun x y H Q=>∃(t b a:Addr) (p:Row) (R:List Row),x=.ref t/\y=.ref a/\H t=some (.tup [.str p.1,.ref b])/\ak H b p.2/\
  (∃vs,H a=some (.lst vs)/\Paired (dE H) vs R/\∀v∈vs,∀t' b' l',v=.ref t'->H t'=some (.tup [.str l',.ref b'])->t'≠t/\b'≠b)/\Q (.bl (!decide (p∈R))) H):=by
 intro pins s σ H x y v u Q I rx ry h;obtain⟨t,b,a,p,R,rfl,rfl,h1,h2,⟨vs,h3,h4,h5⟩,q⟩:=h;cases rx
 cases ry
 obtain⟨_,its,n,rv,e⟩:=I.hok a _ h3;have il:s.heap.IsList a its.toArray:=⟨_,e,rfl,n,rfl⟩;have key:∀{vs:List V} {its:List Value} {R:List Row},Vals vs its->Paired (dE H) vs R->(∀v∈vs,∀t' b' l',v=.ref t'->H t'=some (.tup [.str l',.ref b'])->t'≠t/\b'≠b)->
   (∀z∈its,SeqAt.EqAt X.A.in1 s z (.ref t) (iG H p z))/\its.any (iG H p)=decide (p∈R):=by
  intro vs its R rv
  induction rv generalizing R with
  |nil=>intro h4 _;cases h4;exact⟨fun z hz=>(by cases hz),by simp⟩
  |@cons v u vr ur hvu _ ih=>
   intro h4 h5;cases h4 with
   |@cons _ p' _ Rr hp hrest=>
    obtain⟨hf,ha⟩:=ih hrest fun v hv=>h5 v (aad _ hv)
    obtain⟨t',b',rfl,g1,g2⟩:=hp;cases hvu
    obtain⟨nt,nb⟩:=h5 _ (aac ..) t' b' p'.1 rfl g1;have ee:=tY (A:=X.A.in1) I.hok hu1 hu2 g1 g2 h1 h2 nt nb;have er:=tZ (p:=p) g1 g2;refine⟨fun z hz=>?_,?_⟩
    ·rcases List.mem_cons.mp hz with e|hz
     ·subst e;rw[er];exact ee
     ·exact hf z hz
    ·rw[List.any_cons,er,ha,Bool.eq_iff_iff,Bool.or_eq_true,decide_eq_true_eq,decide_eq_true_eq,decide_eq_true_eq,List.mem_cons];exact⟨fun z=>z.imp Eq.symm id,fun z=>z.imp Eq.symm id⟩
 obtain⟨hf,ha⟩:=key rv h4 h5;refine SeqAt.notIn_listAt (iG H p) il (fun z hz=>hf z (by simpa using hz)) ⟨.bl _,H,I,rfl,?_⟩;rw[show its.toArray.any (iG H p)=its.any (iG H p) by simp,ha];exact q
end
end L2
namespace L2
open PySem PySem.Spec PyProof.Rows
theorem lookup_mem{α β:Type}[BEq α][LawfulBEq α]:∀{l:List (α×β)} {a:α} {b:β},l.lookup a=some b->(a,b)∈l
 |[],_,_,h=>by cases h
 |(x,y)::r,a,b,h=>by
  rw[List.lookup_cons] at h;cases e:a == x with
  |true=>
   rw[e] at h;have h:some y=some b:=h;injection h with h;rw[eq_of_beq e,h];exact aac ..
  |false=>
   rw[e] at h;exact aad _ (lookup_mem h)
theorem aX.plain{X:Cx}{scope:Scope}{N:List Str}(hall:scope.names.all (fun y=>y.2 == .local)=true)(hk:scope.kind=.function)(hl:∀y∈scope.names,y.2=.local->scope.names.lookup y.1=some .local):aX X scope [] N (List.replicate N.length none) where
 clos:=closureFor_none fun y hy=>by
  have:=List.all_eq_true.mp hall y hy;intro z;rw[z] at this;exact absurd this (by decide)
 nocell:=fun y hy z=>by
  have:=List.all_eq_true.mp hall y hy;rw[z] at this;exact absurd this (by decide)
 kind:=hk
 locs:=hl
 cells:=fun x c h=>by cases h
 has:=fun x ⟨v,n⟩=>by
  exfalso;have e:(relabel scope X.env).names=scope.names:=map_eq_self fun y hy=>by
   obtain⟨a,k⟩:=y;have h:(k == NameKind.local)=true:=List.all_eq_true.mp hall (a,k) hy;have h:k=.local:=eq_of_beq h;subst h;rfl
  have key:∀kd:NameKind,(relabel scope X.env).names.lookup x=some kd->kd=.local:=fun kd h=>by
   rw[e] at h;have:=List.all_eq_true.mp hall _ (lookup_mem h);exact eq_of_beq this
  rcases v with z|z|z
  ·exact n z
  ·cases key _ z
  ·cases key _ z
 len:=by simp
 names:=fun j i h=>by
  rw[List.getElem?_replicate] at h;split at h <;> cases h
section
variable {sel:List (Option Nat)}{g:TG}{tc:TT}{te:TE}{σ:St}{H:Hp}{Q:VK}
theorem gJ{K:PySem.W.Frag}{a D:Addr}{xs:List V}(Pv:Nat->St->Hp->Prop)(h0:Pv 0 (fG sel σ) (upd H D (.lst [])))
  (hl:∀i τ H1,Pv i τ H1->SqL K H1 a xs)
  (hs:∀i x τ H1,xs[i]? =some x->Pv i τ H1->g x τ H1 fun τ2 H4=>tc τ2 H4 fun b H5=>if b=true then te τ2 H5 fun y H6=>∃ys,H6 D=some (.lst ys)/\ys.length<sizeLine/\Pv (i+1) τ2 (upd H6 D (.lst (ys++[y]))) else Pv (i+1) τ2 H5)
  (hd:∀τ H1,Pv xs.length τ H1->Q (.ref D) H1) :
  ky sel (Itl K a) D g tc te σ H Q:=by
 refine⟨fun i m τ H1=>Pv i τ H1/\i<=xs.length/\m=xs.length - i,⟨_,h0,Nat.zero_le _,rfl⟩,?_⟩;rintro i m τ H2 ⟨p,hi,hm⟩;have sq:=hl i τ H2 p;rcases Nat.lt_or_ge i xs.length with hlt|hge
 ·refine .inr ⟨⟨xs,xs[i],sq,aae hlt⟩,Pv (i+1),fun τ' H' n=>⟨xs.length - (i+1),by omega,n,hlt,rfl⟩,?_⟩;rintro x H3 ⟨rfl,hx⟩;exact hs i x τ _ (hx xs sq) p
 ·have e:i=xs.length:=by omega
  subst e;exact .inl ⟨⟨xs,sq,Nat.le_refl _⟩,hd τ H2 p⟩
theorem cH{K:PySem.W.Frag}{a D:Addr}{xs:List V}{n:Nat}(Pv:Nat->St->Hp->Prop)(h0:Pv 0 (fG sel σ) (upd H D (.lst [])))
  (hl:∀i τ H1,Pv i τ H1->SqL K H1 a xs)
  (hs:∀i x τ H1,xs[i]? =some x->Pv i τ H1->te (τ.set n (some x)) H1 fun y H6=>∃ys,H6 D=some (.lst ys)/\ys.length<sizeLine/\Pv (i+1) (τ.set n (some x)) (upd H6 D (.lst (ys++[y]))))
  (hd:∀τ H1,Pv xs.length τ H1->Q (.ref D) H1):ky sel (Itl K a) D (jy n) mG te σ H Q:=
 gJ Pv h0 hl (fun i x τ H1 e p=>a9 (B:=Pv (i+1) (τ.set n (some x)) H1) (hs i x τ H1 e p)) hd
theorem fg{K:PySem.W.Frag}{a D:Addr}{xs:List V}{n:Nat}(Pv:Nat->St->Hp->Prop)(h0:Pv 0 (fG sel σ) (upd H D (.lst [])))
  (hl:∀i τ H1,Pv i τ H1->SqL K H1 a xs)
  (hs:∀i x τ H1,xs[i]? =some x->Pv i τ H1->tc (τ.set n (some x)) H1 fun b H5=>if b=true then te (τ.set n (some x)) H5 fun y H6=>∃ys,H6 D=some (.lst ys)/\ys.length<sizeLine/\Pv (i+1) (τ.set n (some x)) (upd H6 D (.lst (ys++[y]))) else Pv (i+1) (τ.set n (some x)) H5)
  (hd:∀τ H1,Pv xs.length τ H1->Q (.ref D) H1):ky sel (Itl K a) D (jy n) tc te σ H Q:=
 gJ Pv h0 hl hs hd
end
end L2
namespace Gram
variable {α:Type}[DecidableEq α]
inductive Made(R:List (α×List α))(W:α->Prop):α->Prop
 |mk {l:α} {r:List α}:(l,r)∈R->(∀s,s∈r->¬W s->Made R W s)->Made R W l
theorem h7{R:List (α×List α)}{W:α->Prop}{ks:List α}(closed:∀l r,(l,r)∈R->(∀s,s∈r->W s\/s∈ks)->l∈ks):∀{x:α},Made R W x->x∈ks:=by
 intro x h
 induction h with
 |mk hm _ ih=>
  refine closed _ _ hm fun s hs=>?_
  by_cases w:W s
  ·exact .inl w
  ·exact .inr (ih s hs w)
theorem me{R:List (α×List α)}{W:α->Prop}{ks:List α}(sound:∀x,x∈ks->Made R W x){l:α}{r:List α}(hm:(l,r)∈R)(h:∀s,s∈r->W s\/s∈ks):Made R W l:=
 .mk hm fun s hs nw=>sound s ((h s hs).resolve_left nw)
theorem Made.left{R:List (α×List α)}{W:α->Prop}{x:α}(h:Made R W x):x∈R.map (·.1):=by
 cases h with
 |mk hm _=>exact aao.mpr ⟨_,hm,rfl⟩
theorem Made.mono{R:List (α×List α)}{W W':α->Prop}(hw:∀x,W x->W' x){x:α}(h:Made R W x):Made R W' x:=by
 induction h with
 |mk hm _ ih=>exact .mk hm fun s hs nw=>ih s hs fun z=>nw (hw s z)
inductive Reach(f:α->List α)(a:α):α->Prop
 |refl:Reach f a a
 |step {b c:α}:Reach f a b->c∈f b->Reach f a c
theorem Reach.head{f:α->List α}{a c b:α}(hc:c∈f a)(h:Reach f c b):Reach f a b:=by
 induction h with
 |refl=>exact .step .refl hc
 |step _ hd ih=>exact .step ih hd
theorem gK{f:α->List α}{a:α}{ks:List α}(h0:a∈ks)(closed:∀x,x∈ks->∀y,y∈f x->y∈ks){b:α}(h:Reach f a b):b∈ks:=by
 induction h with
 |refl=>exact h0
 |step _ hc ih=>exact closed _ ih _ hc
theorem Reach.congr{f g:α->List α}(e:∀x y,y∈f x->y∈g x){a b:α}(h:Reach f a b):Reach g a b:=by
 induction h with
 |refl=>exact .refl
 |step _ hc ih=>exact .step ih (e _ _ hc)
def lead(E:List α):List α->List α
 |[]=>[]
 |s::r=>s::(if s∈E then lead E r else [])
theorem iH(E:List α):∀(r:List α) (x:α),x∈lead E r->x∈r
 |[],x,h=>h
 |s::r,x,h=>by
  unfold lead at h;rcases List.mem_cons.mp h with e|h
  ·exact List.mem_cons.mpr (.inl e)
  ·split at h
   ·exact List.mem_cons.mpr (.inr (iH E r x h))
   ·cases h
theorem ge{E E':List α}(h:∀x,x∈E↔x∈E'):∀r:List α,lead E r=lead E' r
 |[]=>rfl
 |s::r=>by
  unfold lead;rw[ge h r]
  by_cases z:s∈E
  ·rw[if_pos z,if_pos ((h s).mp z)]
  ·rw[if_neg z,if_neg fun y=>z ((h s).mpr y)]
theorem eP(E:List α):∀r:List α,(lead E r).length<=r.length
 |[]=>Nat.le_refl _
 |s::r=>by
  unfold lead;have:=eP E r;split
  ·simp;omega
  ·simp
def sorts(R:List (α×List α)):List α:=R.map (·.1)
inductive Beg(R:List (α×List α))(E:List α):α->α->Prop
 |word {l w:α} {r:List α}:(l,r)∈R->w∈lead E r->¬w∈sorts R->Beg R E l w
 |sort {l b w:α} {r:List α}:(l,r)∈R->b∈lead E r->b∈sorts R->Beg R E b w->Beg R E l w
def own(R:List (α×List α))(E:List α)(l:α):List α:=R.flatMap fun p=>if p.1=l then (lead E p.2).filter (fun s=>¬s∈sorts R) else []
def links(R:List (α×List α))(E:List α)(l:α):List α:=R.flatMap fun p=>if p.1=l then (lead E p.2).filter (fun s=>s∈sorts R) else []
theorem jE{R:List (α×List α)}{E:List α}{l w:α}:w∈own R E l↔∃r,(l,r)∈R/\w∈lead E r/\¬w∈sorts R:=by
 unfold own;rw[List.mem_flatMap];constructor
 ·rintro⟨⟨l',r⟩,hm,h⟩;split at h
  ·rename_i e;have e:l'=l:=e;subst e;obtain⟨h1,h2⟩:=List.mem_filter.mp h;exact⟨r,hm,h1,of_decide_eq_true h2⟩
  ·cases h
 ·rintro⟨r,hm,h1,h2⟩;refine⟨(l,r),hm,?_⟩;rw[if_pos rfl];exact List.mem_filter.mpr ⟨h1,aan h2⟩
theorem gM{R:List (α×List α)}{E:List α}{l w:α}:w∈links R E l↔∃r,(l,r)∈R/\w∈lead E r/\w∈sorts R:=by
 unfold links;rw[List.mem_flatMap];constructor
 ·rintro⟨⟨l',r⟩,hm,h⟩;split at h
  ·rename_i e;have e:l'=l:=e;subst e;obtain⟨h1,h2⟩:=List.mem_filter.mp h;exact⟨r,hm,h1,of_decide_eq_true h2⟩
  ·cases h
 ·rintro⟨r,hm,h1,h2⟩;refine⟨(l,r),hm,?_⟩;rw[if_pos rfl];exact List.mem_filter.mpr ⟨h1,aan h2⟩
theorem wy{R:List (α×List α)}{E:List α}{a w:α}:(∃b,Reach (links R E) a b/\w∈own R E b)↔Beg R E a w:=by
 constructor
 ·rintro⟨b,hr,hw⟩;obtain⟨r,hm,h1,h2⟩:=jE.mp hw;have hb:Beg R E b w:=.word hm h1 h2;clear hw hm h1 h2
  induction hr with
  |refl=>exact hb
  |step _ hc ih=>
   obtain⟨r',hm',h1',h2'⟩:=gM.mp hc;exact ih (.sort hm' h1' h2' hb)
 ·intro h
  induction h with
  |word hm h1 h2=>exact⟨_,.refl,jE.mpr ⟨_,hm,h1,h2⟩⟩
  |sort hm h1 h2 _ ih=>
   obtain⟨b,hr,hw⟩:=ih;exact⟨b,Reach.head (gM.mpr ⟨_,hm,h1,h2⟩) hr,hw⟩
theorem mz{R:List (α×List α)}{E:List α}{F:α->List α}(cw:∀l r w,(l,r)∈R->w∈lead E r->¬w∈sorts R->w∈F l)
  (cs:∀l r b w,(l,r)∈R->b∈lead E r->b∈sorts R->w∈F b->w∈F l){l w:α}(h:Beg R E l w):w∈F l:=by
 induction h with
 |word hm h1 h2=>exact cw _ _ _ hm h1 h2
 |sort hm h1 h2 _ ih=>exact cs _ _ _ _ hm h1 h2 ih
theorem Beg.sign{R:List (α×List α)}{E:List α}{l w:α}(h:Beg R E l w):¬w∈sorts R/\∃p∈R,w∈p.2:=by
 induction h with
 |word hm h1 h2=>exact⟨h2,_,hm,iH _ _ _ h1⟩
 |sort _ _ _ _ ih=>exact ih
theorem bT:∀{l m:List α},l.Nodup->(∀x,x∈l->x∈m)->l.length<=m.length
 |[],m,_,_=>Nat.zero_le _
 |x::r,m,nd,h=>by
  obtain⟨hx,nd'⟩:=List.nodup_cons.mp nd;have hm:x∈m:=h x (aac ..);have h2:r.length<=(m.erase x).length:=bT nd' fun y hy=>by
   have:y≠x:=fun e=>hx (e▸hy)
   exact(List.mem_erase_of_ne this).mpr (h y (aad _ hy))
  rw[List.length_erase_of_mem hm] at h2;have:0<m.length:=List.length_pos_of_mem hm;simp only[aau];omega
end Gram
namespace Nw
inductive X1_3 {a:Sort _}(A B C:a->Prop):Prop|mk(x0:a)(_:A x0)(_:B x0)(_:C x0):X1_3 A B C
inductive X1_4 {a:Sort _}(A B C D:a->Prop):Prop|mk(x0:a)(_:A x0)(_:B x0)(_:C x0)(_:D x0):X1_4 A B C D
inductive X1_5 {a:Sort _}(A B C D E:a->Prop):Prop|mk(x0:a)(_:A x0)(_:B x0)(_:C x0)(_:D x0)(_:E x0):X1_5 A B C D E
inductive X1_6 {a:Sort _}(A B C D E F:a->Prop):Prop|mk(x0:a)(_:A x0)(_:B x0)(_:C x0)(_:D x0)(_:E x0)(_:F x0):X1_6 A B C D E F
inductive X1_7 {a:Sort _}(A B C D E F G:a->Prop):Prop|mk(x0:a)(_:A x0)(_:B x0)(_:C x0)(_:D x0)(_:E x0)(_:F x0)(_:G x0):X1_7 A B C D E F G
inductive X1_8 {a:Sort _}(A B C D E F G H:a->Prop):Prop|mk(x0:a)(_:A x0)(_:B x0)(_:C x0)(_:D x0)(_:E x0)(_:F x0)(_:G x0)(_:H x0):X1_8 A B C D E F G H
inductive X2_2 {a:Sort _}{b:Sort _}(A B:a->b->Prop):Prop|mk(x0:a)(x1:b)(_:A x0 x1)(_:B x0 x1):X2_2 A B
inductive X2_3 {a:Sort _}{b:Sort _}(A B C:a->b->Prop):Prop|mk(x0:a)(x1:b)(_:A x0 x1)(_:B x0 x1)(_:C x0 x1):X2_3 A B C
inductive X2_4 {a:Sort _}{b:Sort _}(A B C D:a->b->Prop):Prop|mk(x0:a)(x1:b)(_:A x0 x1)(_:B x0 x1)(_:C x0 x1)(_:D x0 x1):X2_4 A B C D
inductive X2_5 {a:Sort _}{b:Sort _}(A B C D E:a->b->Prop):Prop|mk(x0:a)(x1:b)(_:A x0 x1)(_:B x0 x1)(_:C x0 x1)(_:D x0 x1)(_:E x0 x1):X2_5 A B C D E
inductive X2_6 {a:Sort _}{b:Sort _}(A B C D E F:a->b->Prop):Prop|mk(x0:a)(x1:b)(_:A x0 x1)(_:B x0 x1)(_:C x0 x1)(_:D x0 x1)(_:E x0 x1)(_:F x0 x1):X2_6 A B C D E F
inductive X2_7 {a:Sort _}{b:Sort _}(A B C D E F G:a->b->Prop):Prop|mk(x0:a)(x1:b)(_:A x0 x1)(_:B x0 x1)(_:C x0 x1)(_:D x0 x1)(_:E x0 x1)(_:F x0 x1)(_:G x0 x1):X2_7 A B C D E F G
inductive X2_8 {a:Sort _}{b:Sort _}(A B C D E F G H:a->b->Prop):Prop|mk(x0:a)(x1:b)(_:A x0 x1)(_:B x0 x1)(_:C x0 x1)(_:D x0 x1)(_:E x0 x1)(_:F x0 x1)(_:G x0 x1)(_:H x0 x1):X2_8 A B C D E F G H
inductive X3_2 {a:Sort _}{b:Sort _}{c:Sort _}(A B:a->b->c->Prop):Prop|mk(x0:a)(x1:b)(x2:c)(_:A x0 x1 x2)(_:B x0 x1 x2):X3_2 A B
inductive X3_3 {a:Sort _}{b:Sort _}{c:Sort _}(A B C:a->b->c->Prop):Prop|mk(x0:a)(x1:b)(x2:c)(_:A x0 x1 x2)(_:B x0 x1 x2)(_:C x0 x1 x2):X3_3 A B C
inductive X3_4 {a:Sort _}{b:Sort _}{c:Sort _}(A B C D:a->b->c->Prop):Prop|mk(x0:a)(x1:b)(x2:c)(_:A x0 x1 x2)(_:B x0 x1 x2)(_:C x0 x1 x2)(_:D x0 x1 x2):X3_4 A B C D
inductive X3_5 {a:Sort _}{b:Sort _}{c:Sort _}(A B C D E:a->b->c->Prop):Prop|mk(x0:a)(x1:b)(x2:c)(_:A x0 x1 x2)(_:B x0 x1 x2)(_:C x0 x1 x2)(_:D x0 x1 x2)(_:E x0 x1 x2):X3_5 A B C D E
inductive X3_6 {a:Sort _}{b:Sort _}{c:Sort _}(A B C D E F:a->b->c->Prop):Prop|mk(x0:a)(x1:b)(x2:c)(_:A x0 x1 x2)(_:B x0 x1 x2)(_:C x0 x1 x2)(_:D x0 x1 x2)(_:E x0 x1 x2)(_:F x0 x1 x2):X3_6 A B C D E F
inductive X3_7 {a:Sort _}{b:Sort _}{c:Sort _}(A B C D E F G:a->b->c->Prop):Prop|mk(x0:a)(x1:b)(x2:c)(_:A x0 x1 x2)(_:B x0 x1 x2)(_:C x0 x1 x2)(_:D x0 x1 x2)(_:E x0 x1 x2)(_:F x0 x1 x2)(_:G x0 x1 x2):X3_7 A B C D E F G
inductive X3_8 {a:Sort _}{b:Sort _}{c:Sort _}(A B C D E F G H:a->b->c->Prop):Prop|mk(x0:a)(x1:b)(x2:c)(_:A x0 x1 x2)(_:B x0 x1 x2)(_:C x0 x1 x2)(_:D x0 x1 x2)(_:E x0 x1 x2)(_:F x0 x1 x2)(_:G x0 x1 x2)(_:H x0 x1 x2):X3_8 A B C D E F G H
inductive X4_2 {a:Sort _}{b:Sort _}{c:Sort _}{d:Sort _}(A B:a->b->c->d->Prop):Prop|mk(x0:a)(x1:b)(x2:c)(x3:d)(_:A x0 x1 x2 x3)(_:B x0 x1 x2 x3):X4_2 A B
inductive X4_3 {a:Sort _}{b:Sort _}{c:Sort _}{d:Sort _}(A B C:a->b->c->d->Prop):Prop|mk(x0:a)(x1:b)(x2:c)(x3:d)(_:A x0 x1 x2 x3)(_:B x0 x1 x2 x3)(_:C x0 x1 x2 x3):X4_3 A B C
inductive X4_4 {a:Sort _}{b:Sort _}{c:Sort _}{d:Sort _}(A B C D:a->b->c->d->Prop):Prop|mk(x0:a)(x1:b)(x2:c)(x3:d)(_:A x0 x1 x2 x3)(_:B x0 x1 x2 x3)(_:C x0 x1 x2 x3)(_:D x0 x1 x2 x3):X4_4 A B C D
inductive X4_5 {a:Sort _}{b:Sort _}{c:Sort _}{d:Sort _}(A B C D E:a->b->c->d->Prop):Prop|mk(x0:a)(x1:b)(x2:c)(x3:d)(_:A x0 x1 x2 x3)(_:B x0 x1 x2 x3)(_:C x0 x1 x2 x3)(_:D x0 x1 x2 x3)(_:E x0 x1 x2 x3):X4_5 A B C D E
inductive X4_6 {a:Sort _}{b:Sort _}{c:Sort _}{d:Sort _}(A B C D E F:a->b->c->d->Prop):Prop|mk(x0:a)(x1:b)(x2:c)(x3:d)(_:A x0 x1 x2 x3)(_:B x0 x1 x2 x3)(_:C x0 x1 x2 x3)(_:D x0 x1 x2 x3)(_:E x0 x1 x2 x3)(_:F x0 x1 x2 x3):X4_6 A B C D E F
inductive X4_7 {a:Sort _}{b:Sort _}{c:Sort _}{d:Sort _}(A B C D E F G:a->b->c->d->Prop):Prop|mk(x0:a)(x1:b)(x2:c)(x3:d)(_:A x0 x1 x2 x3)(_:B x0 x1 x2 x3)(_:C x0 x1 x2 x3)(_:D x0 x1 x2 x3)(_:E x0 x1 x2 x3)(_:F x0 x1 x2 x3)(_:G x0 x1 x2 x3):X4_7 A B C D E F G
inductive X4_8 {a:Sort _}{b:Sort _}{c:Sort _}{d:Sort _}(A B C D E F G H:a->b->c->d->Prop):Prop|mk(x0:a)(x1:b)(x2:c)(x3:d)(_:A x0 x1 x2 x3)(_:B x0 x1 x2 x3)(_:C x0 x1 x2 x3)(_:D x0 x1 x2 x3)(_:E x0 x1 x2 x3)(_:F x0 x1 x2 x3)(_:G x0 x1 x2 x3)(_:H x0 x1 x2 x3):X4_8 A B C D E F G H
inductive X5_2 {a:Sort _}{b:Sort _}{c:Sort _}{d:Sort _}{e:Sort _}(A B:a->b->c->d->e->Prop):Prop|mk(x0:a)(x1:b)(x2:c)(x3:d)(x4:e)(_:A x0 x1 x2 x3 x4)(_:B x0 x1 x2 x3 x4):X5_2 A B
inductive X5_3 {a:Sort _}{b:Sort _}{c:Sort _}{d:Sort _}{e:Sort _}(A B C:a->b->c->d->e->Prop):Prop|mk(x0:a)(x1:b)(x2:c)(x3:d)(x4:e)(_:A x0 x1 x2 x3 x4)(_:B x0 x1 x2 x3 x4)(_:C x0 x1 x2 x3 x4):X5_3 A B C
inductive X5_4 {a:Sort _}{b:Sort _}{c:Sort _}{d:Sort _}{e:Sort _}(A B C D:a->b->c->d->e->Prop):Prop|mk(x0:a)(x1:b)(x2:c)(x3:d)(x4:e)(_:A x0 x1 x2 x3 x4)(_:B x0 x1 x2 x3 x4)(_:C x0 x1 x2 x3 x4)(_:D x0 x1 x2 x3 x4):X5_4 A B C D
inductive X5_5 {a:Sort _}{b:Sort _}{c:Sort _}{d:Sort _}{e:Sort _}(A B C D E:a->b->c->d->e->Prop):Prop|mk(x0:a)(x1:b)(x2:c)(x3:d)(x4:e)(_:A x0 x1 x2 x3 x4)(_:B x0 x1 x2 x3 x4)(_:C x0 x1 x2 x3 x4)(_:D x0 x1 x2 x3 x4)(_:E x0 x1 x2 x3 x4):X5_5 A B C D E
inductive X5_6 {a:Sort _}{b:Sort _}{c:Sort _}{d:Sort _}{e:Sort _}(A B C D E F:a->b->c->d->e->Prop):Prop|mk(x0:a)(x1:b)(x2:c)(x3:d)(x4:e)(_:A x0 x1 x2 x3 x4)(_:B x0 x1 x2 x3 x4)(_:C x0 x1 x2 x3 x4)(_:D x0 x1 x2 x3 x4)(_:E x0 x1 x2 x3 x4)(_:F x0 x1 x2 x3 x4):X5_6 A B C D E F
inductive X5_7 {a:Sort _}{b:Sort _}{c:Sort _}{d:Sort _}{e:Sort _}(A B C D E F G:a->b->c->d->e->Prop):Prop|mk(x0:a)(x1:b)(x2:c)(x3:d)(x4:e)(_:A x0 x1 x2 x3 x4)(_:B x0 x1 x2 x3 x4)(_:C x0 x1 x2 x3 x4)(_:D x0 x1 x2 x3 x4)(_:E x0 x1 x2 x3 x4)(_:F x0 x1 x2 x3 x4)(_:G x0 x1 x2 x3 x4):X5_7 A B C D E F G
inductive X5_8 {a:Sort _}{b:Sort _}{c:Sort _}{d:Sort _}{e:Sort _}(A B C D E F G H:a->b->c->d->e->Prop):Prop|mk(x0:a)(x1:b)(x2:c)(x3:d)(x4:e)(_:A x0 x1 x2 x3 x4)(_:B x0 x1 x2 x3 x4)(_:C x0 x1 x2 x3 x4)(_:D x0 x1 x2 x3 x4)(_:E x0 x1 x2 x3 x4)(_:F x0 x1 x2 x3 x4)(_:G x0 x1 x2 x3 x4)(_:H x0 x1 x2 x3 x4):X5_8 A B C D E F G H
inductive X6_2 {a:Sort _}{b:Sort _}{c:Sort _}{d:Sort _}{e:Sort _}{f:Sort _}(A B:a->b->c->d->e->f->Prop):Prop|mk(x0:a)(x1:b)(x2:c)(x3:d)(x4:e)(x5:f)(_:A x0 x1 x2 x3 x4 x5)(_:B x0 x1 x2 x3 x4 x5):X6_2 A B
inductive X6_3 {a:Sort _}{b:Sort _}{c:Sort _}{d:Sort _}{e:Sort _}{f:Sort _}(A B C:a->b->c->d->e->f->Prop):Prop|mk(x0:a)(x1:b)(x2:c)(x3:d)(x4:e)(x5:f)(_:A x0 x1 x2 x3 x4 x5)(_:B x0 x1 x2 x3 x4 x5)(_:C x0 x1 x2 x3 x4 x5):X6_3 A B C
inductive X6_4 {a:Sort _}{b:Sort _}{c:Sort _}{d:Sort _}{e:Sort _}{f:Sort _}(A B C D:a->b->c->d->e->f->Prop):Prop|mk(x0:a)(x1:b)(x2:c)(x3:d)(x4:e)(x5:f)(_:A x0 x1 x2 x3 x4 x5)(_:B x0 x1 x2 x3 x4 x5)(_:C x0 x1 x2 x3 x4 x5)(_:D x0 x1 x2 x3 x4 x5):X6_4 A B C D
inductive X6_5 {a:Sort _}{b:Sort _}{c:Sort _}{d:Sort _}{e:Sort _}{f:Sort _}(A B C D E:a->b->c->d->e->f->Prop):Prop|mk(x0:a)(x1:b)(x2:c)(x3:d)(x4:e)(x5:f)(_:A x0 x1 x2 x3 x4 x5)(_:B x0 x1 x2 x3 x4 x5)(_:C x0 x1 x2 x3 x4 x5)(_:D x0 x1 x2 x3 x4 x5)(_:E x0 x1 x2 x3 x4 x5):X6_5 A B C D E
inductive X6_6 {a:Sort _}{b:Sort _}{c:Sort _}{d:Sort _}{e:Sort _}{f:Sort _}(A B C D E F:a->b->c->d->e->f->Prop):Prop|mk(x0:a)(x1:b)(x2:c)(x3:d)(x4:e)(x5:f)(_:A x0 x1 x2 x3 x4 x5)(_:B x0 x1 x2 x3 x4 x5)(_:C x0 x1 x2 x3 x4 x5)(_:D x0 x1 x2 x3 x4 x5)(_:E x0 x1 x2 x3 x4 x5)(_:F x0 x1 x2 x3 x4 x5):X6_6 A B C D E F
inductive X6_7 {a:Sort _}{b:Sort _}{c:Sort _}{d:Sort _}{e:Sort _}{f:Sort _}(A B C D E F G:a->b->c->d->e->f->Prop):Prop|mk(x0:a)(x1:b)(x2:c)(x3:d)(x4:e)(x5:f)(_:A x0 x1 x2 x3 x4 x5)(_:B x0 x1 x2 x3 x4 x5)(_:C x0 x1 x2 x3 x4 x5)(_:D x0 x1 x2 x3 x4 x5)(_:E x0 x1 x2 x3 x4 x5)(_:F x0 x1 x2 x3 x4 x5)(_:G x0 x1 x2 x3 x4 x5):X6_7 A B C D E F G
inductive X6_8 {a:Sort _}{b:Sort _}{c:Sort _}{d:Sort _}{e:Sort _}{f:Sort _}(A B C D E F G H:a->b->c->d->e->f->Prop):Prop|mk(x0:a)(x1:b)(x2:c)(x3:d)(x4:e)(x5:f)(_:A x0 x1 x2 x3 x4 x5)(_:B x0 x1 x2 x3 x4 x5)(_:C x0 x1 x2 x3 x4 x5)(_:D x0 x1 x2 x3 x4 x5)(_:E x0 x1 x2 x3 x4 x5)(_:F x0 x1 x2 x3 x4 x5)(_:G x0 x1 x2 x3 x4 x5)(_:H x0 x1 x2 x3 x4 x5):X6_8 A B C D E F G H
inductive X7_2 {a:Sort _}{b:Sort _}{c:Sort _}{d:Sort _}{e:Sort _}{f:Sort _}{g:Sort _}(A B:a->b->c->d->e->f->g->Prop):Prop|mk(x0:a)(x1:b)(x2:c)(x3:d)(x4:e)(x5:f)(x6:g)(_:A x0 x1 x2 x3 x4 x5 x6)(_:B x0 x1 x2 x3 x4 x5 x6):X7_2 A B
inductive X7_3 {a:Sort _}{b:Sort _}{c:Sort _}{d:Sort _}{e:Sort _}{f:Sort _}{g:Sort _}(A B C:a->b->c->d->e->f->g->Prop):Prop|mk(x0:a)(x1:b)(x2:c)(x3:d)(x4:e)(x5:f)(x6:g)(_:A x0 x1 x2 x3 x4 x5 x6)(_:B x0 x1 x2 x3 x4 x5 x6)(_:C x0 x1 x2 x3 x4 x5 x6):X7_3 A B C
inductive X7_4 {a:Sort _}{b:Sort _}{c:Sort _}{d:Sort _}{e:Sort _}{f:Sort _}{g:Sort _}(A B C D:a->b->c->d->e->f->g->Prop):Prop|mk(x0:a)(x1:b)(x2:c)(x3:d)(x4:e)(x5:f)(x6:g)(_:A x0 x1 x2 x3 x4 x5 x6)(_:B x0 x1 x2 x3 x4 x5 x6)(_:C x0 x1 x2 x3 x4 x5 x6)(_:D x0 x1 x2 x3 x4 x5 x6):X7_4 A B C D
inductive X7_5 {a:Sort _}{b:Sort _}{c:Sort _}{d:Sort _}{e:Sort _}{f:Sort _}{g:Sort _}(A B C D E:a->b->c->d->e->f->g->Prop):Prop|mk(x0:a)(x1:b)(x2:c)(x3:d)(x4:e)(x5:f)(x6:g)(_:A x0 x1 x2 x3 x4 x5 x6)(_:B x0 x1 x2 x3 x4 x5 x6)(_:C x0 x1 x2 x3 x4 x5 x6)(_:D x0 x1 x2 x3 x4 x5 x6)(_:E x0 x1 x2 x3 x4 x5 x6):X7_5 A B C D E
inductive X7_6 {a:Sort _}{b:Sort _}{c:Sort _}{d:Sort _}{e:Sort _}{f:Sort _}{g:Sort _}(A B C D E F:a->b->c->d->e->f->g->Prop):Prop|mk(x0:a)(x1:b)(x2:c)(x3:d)(x4:e)(x5:f)(x6:g)(_:A x0 x1 x2 x3 x4 x5 x6)(_:B x0 x1 x2 x3 x4 x5 x6)(_:C x0 x1 x2 x3 x4 x5 x6)(_:D x0 x1 x2 x3 x4 x5 x6)(_:E x0 x1 x2 x3 x4 x5 x6)(_:F x0 x1 x2 x3 x4 x5 x6):X7_6 A B C D E F
inductive X7_7 {a:Sort _}{b:Sort _}{c:Sort _}{d:Sort _}{e:Sort _}{f:Sort _}{g:Sort _}(A B C D E F G:a->b->c->d->e->f->g->Prop):Prop|mk(x0:a)(x1:b)(x2:c)(x3:d)(x4:e)(x5:f)(x6:g)(_:A x0 x1 x2 x3 x4 x5 x6)(_:B x0 x1 x2 x3 x4 x5 x6)(_:C x0 x1 x2 x3 x4 x5 x6)(_:D x0 x1 x2 x3 x4 x5 x6)(_:E x0 x1 x2 x3 x4 x5 x6)(_:F x0 x1 x2 x3 x4 x5 x6)(_:G x0 x1 x2 x3 x4 x5 x6):X7_7 A B C D E F G
inductive X7_8 {a:Sort _}{b:Sort _}{c:Sort _}{d:Sort _}{e:Sort _}{f:Sort _}{g:Sort _}(A B C D E F G H:a->b->c->d->e->f->g->Prop):Prop|mk(x0:a)(x1:b)(x2:c)(x3:d)(x4:e)(x5:f)(x6:g)(_:A x0 x1 x2 x3 x4 x5 x6)(_:B x0 x1 x2 x3 x4 x5 x6)(_:C x0 x1 x2 x3 x4 x5 x6)(_:D x0 x1 x2 x3 x4 x5 x6)(_:E x0 x1 x2 x3 x4 x5 x6)(_:F x0 x1 x2 x3 x4 x5 x6)(_:G x0 x1 x2 x3 x4 x5 x6)(_:H x0 x1 x2 x3 x4 x5 x6):X7_8 A B C D E F G H
inductive X8_2 {a:Sort _}{b:Sort _}{c:Sort _}{d:Sort _}{e:Sort _}{f:Sort _}{g:Sort _}{h:Sort _}(A B:a->b->c->d->e->f->g->h->Prop):Prop|mk(x0:a)(x1:b)(x2:c)(x3:d)(x4:e)(x5:f)(x6:g)(x7:h)(_:A x0 x1 x2 x3 x4 x5 x6 x7)(_:B x0 x1 x2 x3 x4 x5 x6 x7):X8_2 A B
inductive X8_3 {a:Sort _}{b:Sort _}{c:Sort _}{d:Sort _}{e:Sort _}{f:Sort _}{g:Sort _}{h:Sort _}(A B C:a->b->c->d->e->f->g->h->Prop):Prop|mk(x0:a)(x1:b)(x2:c)(x3:d)(x4:e)(x5:f)(x6:g)(x7:h)(_:A x0 x1 x2 x3 x4 x5 x6 x7)(_:B x0 x1 x2 x3 x4 x5 x6 x7)(_:C x0 x1 x2 x3 x4 x5 x6 x7):X8_3 A B C
inductive X8_4 {a:Sort _}{b:Sort _}{c:Sort _}{d:Sort _}{e:Sort _}{f:Sort _}{g:Sort _}{h:Sort _}(A B C D:a->b->c->d->e->f->g->h->Prop):Prop|mk(x0:a)(x1:b)(x2:c)(x3:d)(x4:e)(x5:f)(x6:g)(x7:h)(_:A x0 x1 x2 x3 x4 x5 x6 x7)(_:B x0 x1 x2 x3 x4 x5 x6 x7)(_:C x0 x1 x2 x3 x4 x5 x6 x7)(_:D x0 x1 x2 x3 x4 x5 x6 x7):X8_4 A B C D
inductive X8_5 {a:Sort _}{b:Sort _}{c:Sort _}{d:Sort _}{e:Sort _}{f:Sort _}{g:Sort _}{h:Sort _}(A B C D E:a->b->c->d->e->f->g->h->Prop):Prop|mk(x0:a)(x1:b)(x2:c)(x3:d)(x4:e)(x5:f)(x6:g)(x7:h)(_:A x0 x1 x2 x3 x4 x5 x6 x7)(_:B x0 x1 x2 x3 x4 x5 x6 x7)(_:C x0 x1 x2 x3 x4 x5 x6 x7)(_:D x0 x1 x2 x3 x4 x5 x6 x7)(_:E x0 x1 x2 x3 x4 x5 x6 x7):X8_5 A B C D E
inductive X8_6 {a:Sort _}{b:Sort _}{c:Sort _}{d:Sort _}{e:Sort _}{f:Sort _}{g:Sort _}{h:Sort _}(A B C D E F:a->b->c->d->e->f->g->h->Prop):Prop|mk(x0:a)(x1:b)(x2:c)(x3:d)(x4:e)(x5:f)(x6:g)(x7:h)(_:A x0 x1 x2 x3 x4 x5 x6 x7)(_:B x0 x1 x2 x3 x4 x5 x6 x7)(_:C x0 x1 x2 x3 x4 x5 x6 x7)(_:D x0 x1 x2 x3 x4 x5 x6 x7)(_:E x0 x1 x2 x3 x4 x5 x6 x7)(_:F x0 x1 x2 x3 x4 x5 x6 x7):X8_6 A B C D E F
inductive X8_7 {a:Sort _}{b:Sort _}{c:Sort _}{d:Sort _}{e:Sort _}{f:Sort _}{g:Sort _}{h:Sort _}(A B C D E F G:a->b->c->d->e->f->g->h->Prop):Prop|mk(x0:a)(x1:b)(x2:c)(x3:d)(x4:e)(x5:f)(x6:g)(x7:h)(_:A x0 x1 x2 x3 x4 x5 x6 x7)(_:B x0 x1 x2 x3 x4 x5 x6 x7)(_:C x0 x1 x2 x3 x4 x5 x6 x7)(_:D x0 x1 x2 x3 x4 x5 x6 x7)(_:E x0 x1 x2 x3 x4 x5 x6 x7)(_:F x0 x1 x2 x3 x4 x5 x6 x7)(_:G x0 x1 x2 x3 x4 x5 x6 x7):X8_7 A B C D E F G
inductive X9_2 {a:Sort _}{b:Sort _}{c:Sort _}{d:Sort _}{e:Sort _}{f:Sort _}{g:Sort _}{h:Sort _}{i:Sort _}(A B:a->b->c->d->e->f->g->h->i->Prop):Prop|mk(x0:a)(x1:b)(x2:c)(x3:d)(x4:e)(x5:f)(x6:g)(x7:h)(x8:i)(_:A x0 x1 x2 x3 x4 x5 x6 x7 x8)(_:B x0 x1 x2 x3 x4 x5 x6 x7 x8):X9_2 A B
inductive X9_3 {a:Sort _}{b:Sort _}{c:Sort _}{d:Sort _}{e:Sort _}{f:Sort _}{g:Sort _}{h:Sort _}{i:Sort _}(A B C:a->b->c->d->e->f->g->h->i->Prop):Prop|mk(x0:a)(x1:b)(x2:c)(x3:d)(x4:e)(x5:f)(x6:g)(x7:h)(x8:i)(_:A x0 x1 x2 x3 x4 x5 x6 x7 x8)(_:B x0 x1 x2 x3 x4 x5 x6 x7 x8)(_:C x0 x1 x2 x3 x4 x5 x6 x7 x8):X9_3 A B C
inductive X9_4 {a:Sort _}{b:Sort _}{c:Sort _}{d:Sort _}{e:Sort _}{f:Sort _}{g:Sort _}{h:Sort _}{i:Sort _}(A B C D:a->b->c->d->e->f->g->h->i->Prop):Prop|mk(x0:a)(x1:b)(x2:c)(x3:d)(x4:e)(x5:f)(x6:g)(x7:h)(x8:i)(_:A x0 x1 x2 x3 x4 x5 x6 x7 x8)(_:B x0 x1 x2 x3 x4 x5 x6 x7 x8)(_:C x0 x1 x2 x3 x4 x5 x6 x7 x8)(_:D x0 x1 x2 x3 x4 x5 x6 x7 x8):X9_4 A B C D
inductive X9_5 {a:Sort _}{b:Sort _}{c:Sort _}{d:Sort _}{e:Sort _}{f:Sort _}{g:Sort _}{h:Sort _}{i:Sort _}(A B C D E:a->b->c->d->e->f->g->h->i->Prop):Prop|mk(x0:a)(x1:b)(x2:c)(x3:d)(x4:e)(x5:f)(x6:g)(x7:h)(x8:i)(_:A x0 x1 x2 x3 x4 x5 x6 x7 x8)(_:B x0 x1 x2 x3 x4 x5 x6 x7 x8)(_:C x0 x1 x2 x3 x4 x5 x6 x7 x8)(_:D x0 x1 x2 x3 x4 x5 x6 x7 x8)(_:E x0 x1 x2 x3 x4 x5 x6 x7 x8):X9_5 A B C D E
inductive X9_6 {a:Sort _}{b:Sort _}{c:Sort _}{d:Sort _}{e:Sort _}{f:Sort _}{g:Sort _}{h:Sort _}{i:Sort _}(A B C D E F:a->b->c->d->e->f->g->h->i->Prop):Prop|mk(x0:a)(x1:b)(x2:c)(x3:d)(x4:e)(x5:f)(x6:g)(x7:h)(x8:i)(_:A x0 x1 x2 x3 x4 x5 x6 x7 x8)(_:B x0 x1 x2 x3 x4 x5 x6 x7 x8)(_:C x0 x1 x2 x3 x4 x5 x6 x7 x8)(_:D x0 x1 x2 x3 x4 x5 x6 x7 x8)(_:E x0 x1 x2 x3 x4 x5 x6 x7 x8)(_:F x0 x1 x2 x3 x4 x5 x6 x7 x8):X9_6 A B C D E F
end Nw
open Lean in
def Nw.bndV (bs : Syntax) : Array (Syntax × Option Syntax) := Id.run do
 let b := bs[0]
 let mut r := #[]
 if b.getKind == ``Lean.unbracketedExplicitBinders then
  for i in b[0].getArgs do r := r.push (i, if b[1].getNumArgs == 0 then none else some b[1][1])
 else
  for c in b.getArgs do
   for i in c[1].getArgs do r := r.push (i, some c[3])
 return r
open Lean in
def Nw.exV : Nat → Term → MacroM (Array (Syntax × Option Syntax) × Term)
 | 0, t => return (#[], t)
 | n+1, t => do
  match t with
  | `(∃ $bs:explicitBinders, $b) =>
   let (r, b) ← Nw.exV n b
   return (Nw.bndV bs ++ r, b)
  | _ => return (#[], t)
open Lean in
def Nw.anV : Nat → Term → MacroM (Array Term)
 | 0, t => return #[t]
 | n+1, t => do
  match t with
  | `($a ∧ $b) => return #[a] ++ (← Nw.anV n b)
  | _ => return #[t]
open Lean in
local macro_rules
 | `(∃ $bs:explicitBinders, $b) => do
  let (r, b) ← Nw.exV 20 b
  let r := Nw.bndV bs ++ r
  let cs ← Nw.anV 20 b
  let nm := (Name.mkSimple "Nw").str s!"X{r.size}_{cs.size}"
  if !(← Macro.hasDecl nm) then Macro.throwUnsupported
  let st := match cs[0]! with
   | `($l:ident = $_) => l.getId.toString.startsWith "σ"
   | `([$_,*] = $_) => true
   | _ => false
  if !st then Macro.throwUnsupported
  let mut fs : Array Term := #[]
  for c in cs do
   let mut t := c
   for (i, ty) in r.reverse do
    let id : Term ← if i[0].isIdent then pure ⟨i[0]⟩ else `(_)
    t ← match ty with
     | some ty => `(fun ($id : $(⟨ty⟩)) => $t)
     | none => `(fun $id => $t)
   fs := fs.push t
  `($(mkCIdent nm) $fs*)
open Lean in
local macro_rules
 | `(tactic| refine ⟨fun $x:ident $y:ident => $b, $rs,*⟩) => do
  if (b.raw.find? (·.getKind == `termIfThenElse)).isSome then Macro.throwUnsupported
  `(tactic| first | refine' (let J : L2.St → L2.Hp → Prop := fun $x $y => $b; ⟨J, $rs,*⟩) | fail)
 | `(tactic| refine ⟨fun $x:ident $y:ident $z:ident => $b, $rs,*⟩) => do
  if (b.raw.find? (·.getKind == `termIfThenElse)).isSome then Macro.throwUnsupported
  `(tactic| first | refine' (let J : Nat → L2.St → L2.Hp → Prop := fun $x $y $z => $b; ⟨J, $rs,*⟩) | fail)
open Lean in
local macro_rules
 | `(tactic| rintro $[$ps]*) => do
  let mut ns : Array Ident := #[]
  let mut ts : Array (TSyntax `tactic) := #[]
  for i in [0:ps.size] do
   let q := ps[i]!.raw
   if q.getKind != ``Parser.Tactic.rintroPat.one then Macro.throwUnsupported
   let q := q[0]
   let x := mkIdent (Name.mkSimple s!"y{i}'")
   if q.getKind == ``Parser.Tactic.rcasesPat.one && q[0].getId != `rfl then ns := ns.push ⟨q[0]⟩
   else if q.getKind == ``Parser.Tactic.rcasesPat.ignore then ns := ns.push x
   else if q.getKind == ``Parser.Tactic.rcasesPat.one then
    ns := ns.push x
    ts := ts.push (← `(tactic| subst $x))
   else
    ns := ns.push x
    let m : TSyntax ``Parser.Tactic.rcasesPatMed := ⟨mkNode ``Parser.Tactic.rcasesPatMed #[mkNullNode #[q]]⟩
    ts := ts.push (← `(tactic| obtain $m:rcasesPatMed := $x:ident))
  if ts.isEmpty then Macro.throwUnsupported
  let l ← `(tactic| try first | refine' (let dd : L2.Ends := _; (?_ : (_ : L2.TS) dd _ _)) | fail)
  `(tactic| (intro $[$ns]*; $l; $[$ts];*))
namespace Nw
open PySem L2
open SL (aq srt)
def top(i:Nat):Stmt:=PySem.Challenge.pw_nextword_k04_table.main.body.getD i (.Pass ⟨0,0,0,0⟩)
abbrev j8:Stmt:=top 5
theorem r9:aD ["rows"] ["rows"] (au j8):=⟨rfl,rfl,rfl,by decide +kernel,rfl,by decide +kernel,by decide +kernel⟩
structure Txt(mg:Str->Option Value):Prop where
 srt:mg "sorted"=none
 set:mg "set"=none
 all:mg "all"=none
 lst:mg "list"=none
 tup:mg "tuple"=none
 str:mg "str"=none
 bl:mg "bool"=none
 int:mg "int"=none
 len:mg "len"=none
 rng:mg "range"=none
 isi:mg "isinstance"=none
 abs:mg "abs"=none
 sum:mg "sum"=none
structure Small(R:List Row):Prop where
 len:R.length<=14
 wid:∀p∈R,p.2.length<=20
 few:∃U:List Str,U.length<=40/\∀p∈R,∀x∈p.2,x∈U
 dif:(aq (R.flatMap (·.2))).length / 4<=(aq (R.map (·.1))).length
 ne:R≠[]
theorem j9:∀{R:List Row},(∀p∈R,p.2.length<=20)->(R.flatMap (·.2)).length<=20*R.length
 |[],_=>by simp
 |p::r,h=>by
  have h1:=h p (aac ..);have h2:=j9 (R:=r) fun q hq=>h q (aad _ hq)
  rw[List.flatMap_cons,aag,aau];omega
theorem Small.signs{R:List Row}(S:Small R):(R.flatMap (·.2)).length<=280:=by
 have:=j9 S.wid;have:=S.len;omega
theorem sd{R:List Row}{x:Str}:x∈R.flatMap (·.2)↔∃p∈R,x∈p.2:=List.mem_flatMap
theorem Small.gB{R:List Row}(S:Small R){D:List Str}(nd:D.Nodup)(h:∀z∈D,∃p∈R,z∈p.2):D.length<=40:=by
 obtain⟨U,hU,hm⟩:=S.few;exact Nat.le_trans (Gram.bT nd fun z hz=>by obtain⟨p,hp,hz'⟩:=h z hz;exact hm p hp z hz') hU
structure Def(P:Program)(w:World)(K:PySem.W.Frag)(mg:Str->Option Value)(base:Heap)(x:Str)(k:Nat)(ps:List Str)(sp:Sp):Prop where
 ex:∃f fd,mg x=some (.ref f)/\PySem.W.keepIn K (.ref f)=true/\a0 P w K mg base CX0 k f fd ps sp/\Binds K fd ps []
theorem aw{X:Cx}{x:Str}{k:Nat}{ps:List Str}{sp:Sp}{p pos:Pos}{e:Expr}{es:List Expr}{t:TA}(D:Def X.prog X.w X.K X.mg X.base x k ps sp)(hr:bu k X.A)(hg:Gl X x)(ha:PA X (e::es) t)(hdb:(x == ("__debug__":Str))=false:=by decide)
  (he:starEach (e::es) X.env=(false,eval e X.env)::starEach es X.env:=by rfl)(hpl:(backTo pos (starEach es X.env)).any (·.1)=false:=by rfl):PE X (.Call (.Name x p) (e::es) [] pos) (p8 sp [] E0 t):=by
 obtain⟨f,fd,h1,h2,h3,h4⟩:=D.ex;exact vV h3 hr hg h1 h2 h4 .nil yX ha hdb he hpl
def bZ:Sp:=fun vs H Q _=>∃(a:Addr) (R:List Row),vs=[.ref a]/\a7 H a R/\Small R/\∀q H',ab H H'->H q=none->ak H' q (srt (aq (R.map (·.1))))->Q (.ref q) H'
section
variable {P:Program}{w:World}{K:PySem.W.Frag}{mg:Str->Option Value}{base:Heap}
theorem qm{f:Addr}{fd:FuncData}(F:Fun K "sorts_of" "sorts_of" j8 f fd)(T:Txt mg):a0 P w K mg base CX0 1 f fd ["rows"] bZ:=by
 refine F.ok r9 (fun vs H Q E h=>?_) (fun cdv A outer s H vs Q E hr h=>?_)
 ·obtain⟨a,R,rfl,_⟩:=h;rfl
 ·obtain⟨a,R,rfl,hR,hsm,k⟩:=h;have hn:R.length<64:=by have:=hsm.len;omega
  refine⟨_,ai (aI (aC (cq rfl) (by rfl) T.srt PyProof.Rows.boot_sorted (aj
   (cX (dZ rfl) (by rfl) T.set (by decide +kernel) (aj
    (cY (aX.plain (N:=["row"]) (by rfl) (by rfl) (by decide)) rfl (aB (pv 0)) (fun s₃ H₃ fp=>ap (i:=0) (show(["row"]:List Str).Nodup by decide) rfl (Or.inl rfl)) (fun s₃ H₃ fp=>dc)
     (fun s₃ H₃ fp=>aE (r:=gX K) aU (pv 0) az (fun _ _=>rfl))) ac)) ac))),?_⟩
  obtain⟨vs,hv,hp⟩:=hR;have hlen:vs.length=R.length:=Paired.length hp;refine⟨_,rfl,a,rfl,⟨vs,SqL.of hv⟩,fun D hD=>cH (K:=K) (xs:=vs) (fun i τ H1=>(∃o,τ=[o])/\H1=upd H D (.lst ((R.take i).map fun p=>V.str p.1))) ⟨⟨_,rfl⟩,rfl⟩ ?_ ?_ ?_⟩
  ·rintro i τ H1 ⟨_,rfl⟩;exact(ab.upd hD).seq (SqL.of hv)
  ·rintro i x τ H1 hx ⟨⟨o,rfl⟩,rfl⟩;obtain⟨p,hpi,t,b,rfl,ht,hb⟩:=aT hp i x hx;have hil:i<R.length:=(aab.mp hpi).1;refine⟨_,rfl,t,_,0,_,rfl,rfl,SqT.of (ab.upd hD _ _ ht),aA (j:=0) rfl,_,aa,?_,⟨_,rfl⟩,?_⟩
   ·rw[aaa,aal];exact av (by omega)
   ·rw[cA,aap,hpi,aam];rfl
  ·rintro τ H1 ⟨_,rfl⟩;rw[hlen,aas];have em:(R.map fun p=>V.str p.1)=(R.map (·.1)).map V.str:=by rw[List.map_map];rfl
   rw[em];refine⟨D,R.map (·.1),rfl,SqL.of aa,?_,fun q hq=>?_⟩
   ·rw[aaa];unfold scanBound;omega
   ·refine⟨q,aq (R.map (·.1)),rfl,.inr (.inl aa),?_,fun q2 hq2=>?_⟩
    ·have:=SL.eY (R.map (·.1));rw[aaa] at this;omega
    ·have s1:=(ab.upd (o:=.lst ((R.map (·.1)).map V.str)) hD);have n1:H q=none:=s1.free hq;have s2:ab H (upd (upd H D (.lst ((R.map (·.1)).map V.str))) q (dm w q (aq (R.map (·.1))))):=s1.trans (ab.upd hq);exact k q2 _ (s2.trans (ab.upd hq2)) (s2.free hq2) aa
end
end Nw
namespace Nw
open PySem L2
open SL (aq srt)
abbrev kb:Stmt:=top 6
theorem jb:aD ["rows","signs","row"] ["rows"] (au kb):=⟨rfl,rfl,rfl,by decide +kernel,rfl,by decide +kernel,by decide +kernel⟩
def jc:Sp:=fun vs H Q _=>∃(a:Addr) (R:List Row),vs=[.ref a]/\a7 H a R/\Small R/\∀q ws H',ab H H'->H q=none->(∀z,z∈ws↔(∃p∈R,z∈p.2)/\¬z∈R.map (·.1))->ak H' q ws->Q (.ref q) H'
section
variable {P:Program}{w:World}{K:PySem.W.Frag}{mg:Str->Option Value}{base:Heap}
theorem qo{f:Addr}{fd:FuncData}(F:Fun K "words_of" "words_of" kb f fd)(T:Txt mg)(D1:Def P w K mg base "sorts_of" 1 ["rows"] bZ):a0 P w K mg base CX0 2 f fd ["rows"] jc:=by
 refine F.ok jb (fun vs H Q E h=>?_) (fun cdv A outer s H vs Q E hr h=>?_)
 ·obtain⟨a,R,rfl,_⟩:=h;rfl
 ·obtain⟨a,R,rfl,hR,hsm,k⟩:=h;refine⟨_,af (ao (i:=1) jb.nd rfl (Or.inl rfl) (aW ac))
   (af (aO PassesOwn.never rfl (aB (pv 0)) (ap (i:=2) jb.nd rfl (Or.inl rfl))
    (ai (bp (bY PySem.F.plainAttrs_list PySem.F.slot_list_extend PySem.F.type_list_extend dW (pv 1) (aj (aE aU (pv 2) az (fun _ _=>rfl)) ac)))))
   (ai (aI (aC (cq rfl) (by rfl) T.srt PyProof.Rows.boot_sorted (aj
    (bv wv (cX (dZ rfl) (by rfl) T.set (by decide +kernel) (aj (pv 1) ac))
     (cX (dZ rfl) (by rfl) T.set (by decide +kernel) (aj (aw D1 hr (by rfl) (aj (pv 0) ac)) ac))) ac))))),?_⟩
  obtain⟨vs,hv,hp⟩:=id hR;have hlen:vs.length=R.length:=Paired.length hp;refine⟨by decide,fun l hl=>?_⟩;have s0:ab H (upd H l (.lst [])):=ab.upd hl;refine⟨_,rfl,a,rfl,⟨_,s0.seq (SqL.of hv)⟩,aM (K:=K) (a:=a) (xs:=vs) (fun i σ H1=>(∃o,σ=[some (.ref a),some (.ref l),o])/\H1=upd H l (.lst (((R.take i).flatMap (·.2)).map V.str))) ⟨⟨_,rfl⟩,rfl⟩ ?_ ?_ ?_⟩
  ·rintro i σ H1 _ ⟨_,rfl⟩;exact(ab.upd hl).seq (SqL.of hv)
  ·rintro i x σ H1 hx ⟨⟨o,rfl⟩,rfl⟩;obtain⟨p,hpi,t,b,rfl,ht,hb⟩:=aT hp i x hx;have hil:i<R.length:=(aab.mp hpi).1;have sl:=ab.upd (o:=HO.lst (((R.take i).flatMap (·.2)).map V.str)) hl;refine⟨_,rfl,.inl ⟨rfl,_,SqL.of aa⟩,_,rfl,t,_,1,_,rfl,rfl,SqT.of (sl _ _ ht),aA (j:=1) rfl,l,b,_,_,rfl,rfl,aa,sl _ _ hb,?_,⟨_,rfl⟩,?_⟩
   ·have h1:=j9 (R:=R.take i) fun q hq=>hsm.wid q (List.mem_of_mem_take hq)
    have h2:=hsm.wid p (aah hpi);have h3:=hsm.len;rw[aal] at h1;rw[aaa,aaa];exact Nat.le_of_lt (av (by omega))
   ·rw[cA,aap,hpi,List.flatMap_append,aam];simp
  ·rintro σ H1 ⟨⟨o,rfl⟩,rfl⟩;rw[hlen,aas];have sg:=hsm.signs;have s1:=ab.upd (o:=HO.lst ((R.flatMap (·.2)).map V.str)) hl;refine⟨_,rfl,l,R.flatMap (·.2),rfl,SqL.of aa,by unfold scanBound;omega,fun q1 hq1=>?_⟩;have s2:=s1.trans (ab.upd (o:=dm w q1 (aq (R.flatMap (·.2)))) hq1);refine⟨_,rfl,a,R,rfl,hR.mono s2,hsm,fun q2 H2 s3 n2 hS=>?_⟩;have hso:(srt (aq (R.map (·.1)))).length<=14:=by
    rw[SL.dz];have:=SL.eY (R.map (·.1));rw[aaa] at this;have:=hsm.len;omega
   refine⟨q2,_,rfl,SqL.of hS,by unfold scanBound;omega,fun q3 hq3=>?_⟩;have h1:H2 q1=some (dm w q1 (aq (R.flatMap (·.2)))):=s3 _ _ aa;have s4:=ab.upd (H:=H2) (o:=dm w q3 (aq (srt (aq (R.map (·.1)))))) hq3;have hon:(aq (srt (aq (R.map (·.1))))).length=(aq (R.map (·.1))).length:=by
    have:=SL.jS (SL.bF (srt (aq (R.map (·.1))))) (SL.bF (R.map (·.1))) fun x=>by rw[SL.bt,SL.bM]
    exact this.length_eq
   refine⟨q1,q3,_,_,rfl,rfl,s4 _ _ h1,aa,by rw[hon];exact hsm.dif,fun q4 D hq4 nd hm=>?_⟩;have hD:∀z,z∈D↔(∃p∈R,z∈p.2)/\¬z∈R.map (·.1):=fun z=>by
    rw[hm z,SL.bt,sd,SL.bt,SL.bM,SL.bt]
   refine⟨q4,D,rfl,.inr (.inl aa),?_,fun q5 hq5=>?_⟩
   ·have:=hsm.gB nd fun z hz=>((hD z).mp hz).1
    omega
   ·have s5:ab H (upd (upd H2 q3 (dm w q3 (aq (srt (aq (R.map (·.1))))))) q4 (dm w q4 D)):=((s2.trans s3).trans s4).trans (ab.upd hq4);exact k q5 (srt D) _ (s5.trans (ab.upd hq5)) (s5.free hq5) (fun z=>by rw[SL.bM,hD z]) aa
end
end Nw
namespace L2
open PySem PySem.Spec PyProof.Rows
theorem jW{β:Type}(g:Str->NameKind->NameKind):∀(l:List (Str×NameKind)) (x:Str),(l.map fun y=>(y.1,g y.1 y.2)).lookup x=(l.lookup x).map (g x)
 |[],x=>rfl
 |(n,k)::r,x=>by
  rw[aaw,List.lookup_cons,List.lookup_cons];cases e:x == n with
  |true=>
   dsimp only;rw[eq_of_beq e];rfl
  |false=>exact jW (β:=β) g r x
theorem eh(scope:Scope)(env:Env)(x:Str):(relabel scope env).names.lookup x=(scope.names.lookup x).map fun k=>if (k == NameKind.free && env.scope.kind == .function && env.kindOf x == some .cell)=true then NameKind.cell else k:=by
 have e:(relabel scope env).names=scope.names.map fun y=>(y.1,(fun n k=>if (k == NameKind.free && env.scope.kind == .function && env.kindOf n == some .cell)=true then NameKind.cell else k) y.1 y.2):=by
  unfold relabel;refine List.map_congr_left fun y _=>?_
  obtain⟨n,k⟩:=y;dsimp only;split <;> rfl
 rw[e,jW (β:=Unit) (fun n k=>if (k == NameKind.free && env.scope.kind == .function && env.kindOf n == some .cell)=true then NameKind.cell else k)]
theorem aX.free{X:Cx}{scope:Scope}{cl:List (Str×Addr)}{N:List Str}{sel:List (Option Nat)}(fr:List Str)(clos:closureFor scope X.env=pure cl)(hk:scope.kind=.function)(hek:X.env.scope.kind=.function)
  (hn:∀y∈scope.names,y.2=.local\/(y.2=.free/\y.1∈fr))(hl:∀y∈scope.names,y.2=.local->scope.names.lookup y.1=some .local)
  (hfr:∀x∈fr,X.env.kindOf x=some .cell/\scope.names.lookup x=some .free/\∃c,cl.lookup x=some c/\X.env.cells.lookup x=some c)(hcl:∀y∈cl,y.1∈fr)
  (hlen:sel.length=N.length)(hsel:∀(j i:Nat),sel[j]? =some (some i)->∃x∈fr,X.N[i]? =some x/\N[j]? =some x):aX X scope cl N sel where
 clos:=clos
 nocell:=fun y hy z=>by
  rcases hn y hy with e|⟨e,_⟩
  ·rw[e] at z;cases z
  ·rw[e] at z;cases z
 kind:=hk
 locs:=hl
 cells:=fun x c h=>by
  obtain⟨_,_,c',h1,h2⟩:=hfr x (hcl _ (lookup_mem h));rw[h] at h1;cases h1
  exact h2
 has:=fun x ⟨v,n⟩=>by
  have key:∀kd:NameKind,(relabel scope X.env).names.lookup x=some kd->kd≠.local->∃c,cl.lookup x=some c:=fun kd h hne=>by
   rw[eh] at h;cases q:scope.names.lookup x with
   |none=>rw[q] at h;cases h
   |some k0=>
    rw[q] at h;rcases hn _ (lookup_mem q) with e|⟨_,e⟩
    ·have e:k0=.local:=e;subst e;have h:some NameKind.local=some kd:=h;injection h with h;exact absurd h.symm hne
    ·obtain⟨_,_,c,h1,_⟩:=hfr x e;exact⟨c,h1⟩
  rcases v with z|z|z
  ·exact absurd z n
  ·exact key _ z (by decide)
  ·exact key _ z (by decide)
 len:=hlen
 names:=fun j i h=>by
  obtain⟨x,hx,h1,h2⟩:=hsel j i h;obtain⟨k1,k2,_⟩:=hfr x hx;have k1:X.env.scope.names.lookup x=some .cell:=k1;refine⟨x,h1,h2,⟨.inr (.inl k1),by rw[k1];decide⟩,?_⟩;rw[eh,k2];show some (if _ then _ else _)≠_;split <;> decide
end L2
namespace Nw
open PySem L2
open SL (aq srt)
abbrev nQ:Stmt:=top 7
theorem wz:aD ["rows"] ["rows"] (au nQ):=⟨rfl,rfl,rfl,by decide +kernel,rfl,by decide +kernel,by decide +kernel⟩
def h8:Sp:=fun vs H Q _=>∃(a:Addr) (p:Row) (R:List Row),vs=[.ref a]/\a7 H a (p::R)/\Q (.str p.1) H
abbrev qq:Stmt:=top 8
theorem gD:aD ["rows","words","made","grown","left","right"] ["rows","words"] (au qq):=⟨rfl,rfl,rfl,by decide +kernel,rfl,by decide +kernel,by decide +kernel⟩
def kE:Sp:=fun vs H Q _=>∃(a b:Addr) (R:List Row) (ws:List Str),vs=[.ref a,.ref b]/\a7 H a R/\Small R/\ak H b ws/\∀q ms H',ab H H'->H q=none->ms.Nodup->(∀z,z∈ms↔Gram.Made R (·∈ws) z)->ak H' q (srt ms)->Q (.ref q) H'
def kd(ms:List Str):List (Key×V):=ms.map fun m=>((Sum.inr m:Key),V.bl true)
theorem jd:∀(ms:List Str) (x:Str),bc (kd ms) (Sum.inr x:Key)=if x∈ms then some (V.bl true) else none
 |[],x=>rfl
 |m::r,x=>by
  show bc (((Sum.inr m:Key),V.bl true)::kd r) (Sum.inr x)=_
  by_cases e:m=x
  ·subst e;rw[bV rfl,if_pos (aac ..)]
  ·rw[bW (fun z=>e (Sum.inr.inj z)),jd r x]
   by_cases h:x∈r
   ·rw[if_pos h,if_pos (aad _ h)]
   ·rw[if_neg h,if_neg fun z=>(List.mem_cons.mp z).elim (fun q=>e q.symm) h]
theorem se{ms:List Str}{x:Str}(h:¬x∈ms):putK (kd ms) (Sum.inr x:Key) (V.bl true)=kd (ms++[x]):=by
 rw[fw _ (by rw[jd,if_neg h])];unfold kd;rw[aam];rfl
theorem pD(ms:List Str):(kd ms).map (·.1)=ms.map Sum.inr:=by
 unfold kd;rw[List.map_map];rfl
theorem bX(x:Str):∀ws:List Str,inV (.str x) (ws.map V.str)=decide (x∈ws)
 |[]=>rfl
 |y::r=>by
  have ih:=bX x r;unfold inV at ih ⊢;rw[aaw,List.any_cons,ih];show((y == x) || decide (x∈r))=_
  by_cases e:y=x
  ·subst e;simp
  ·have e1:(y == x)=false:=beq_eq_false_iff_ne.mpr e;have e2:¬x=y:=fun z=>e z.symm
   simp[e1,e2]
theorem bN:∀ws:List Str,(ws.map V.str).all gb=true
 |[]=>rfl
 |_::r=>bN r
theorem bO{H:Hp}{vs:List V}{R:List Row}(hp:Paired (dE H) vs R){i:Nat}{x:V}(hx:vs[i]? =some x):∃p t b,R[i]? =some p/\x=.ref t/\H t=some (.tup [.str p.1,.ref b])/\ak H b p.2:=by
 obtain⟨p,hpi,t,b,rfl,ht,hb⟩:=aT hp i x hx;exact⟨p,t,b,hpi,rfl,ht,hb⟩
section
variable {P:Program}{w:World}{K:PySem.W.Frag}{mg:Str->Option Value}{base:Heap}
theorem t6{f:Addr}{fd:FuncData}(F:Fun K "first_sort" "first_sort" nQ f fd):a0 P w K mg base CX0 1 f fd ["rows"] h8:=by
 refine F.ok wz (fun vs H Q E h=>?_) (fun cdv A outer s H vs Q E hr h=>?_)
 ·obtain⟨a,p,R,rfl,_⟩:=h;rfl
 ·obtain⟨a,p,R,rfl,hR,k⟩:=h;refine⟨_,ai (aI (aE aU (aE bb (pv 0) az (fun _ _=>rfl)) az (fun _ _=>rfl))),?_⟩;obtain⟨vs,hv,hp⟩:=hR;cases hp with
  |@cons v _ vr _ h1 h2=>
   obtain⟨t,b,rfl,ht,hb⟩:=h1;exact⟨_,rfl,a,_,0,_,rfl,rfl,SqL.of hv,aA (j:=0) rfl,t,_,0,_,rfl,rfl,SqT.of ht,aA (j:=0) rfl,k⟩
theorem wA{f:Addr}{fd:FuncData}(F:Fun K "sorts_made_of" "sorts_made_of" qq f fd)(T:Txt mg):a0 P w K mg base CX0 1 f fd ["rows","words"] kE:=by
 refine F.ok gD (fun vs H Q E h=>?_) (fun cdv A outer s H vs Q E hr h=>?_)
 ·obtain⟨a,b,R,ws,rfl,_⟩:=h;rfl
 ·obtain⟨a,b,R,ws,rfl,hR,hsm,hW,k⟩:=h;have hu:=cv hr;refine⟨_,af (ao (i:=2) gD.nd rfl (Or.inr rfl) dY)
   (af (ao (i:=3) gD.nd rfl (Or.inl rfl) dC)
   (af (dU PassesOwn.never (ci (pv 3))
    (af (ao (i:=3) gD.nd rfl (Or.inl rfl) dC)
    (ai (aO PassesOwn.never rfl (aB (pv 0)) (cJ (n:=2) rfl (aH (ap (i:=4) gD.nd rfl (Or.inl rfl)) (aH (ap (i:=5) gD.nd rfl (Or.inl rfl)) cg)))
     (ai (bi (PW.pt (g7 (fM (i4 hu (pv 4) (pv 2))) (gm (ci (aC (nM rfl) (by rfl) T.all PyProof.Rows.boot_all (aj
       (cY (aX.free (N:=["sign","words","made"]) (sel:=[none,some 1,some 2]) ["words","made"] (by rfl) (by rfl) (by rfl) ?c1 ?c2 ?c3 ?c4 (by rfl) ?c5) rfl (aB (pv 5)) (fun s₃ H₃ fp=>ap (i:=0) (show(["sign","words","made"]:List Str).Nodup by decide) rfl (Or.inl rfl)) (fun s₃ H₃ fp=>dc)
        (fun s₃ H₃ fp=>yO (ll (r:=rIn K false) fO (pv 0) (pv 1) (by with_unfolding_all rfl)) (xm (xl (hG (X:=cC _ _ _ _ _ _ _) hu (pv 0) (pv 2)))))) ac))))))
      (af (da hu (pv 2) (pv 4) dC rfl) (ai (ao (i:=3) gD.nd rfl (Or.inl rfl) dC))) aY))))))
   (ai (aI (aC (cq rfl) (by rfl) T.srt PyProof.Rows.boot_sorted (aj (pv 2) ac)))))),?_⟩
  case c1=>decide
  case c2=>decide
  case c3=>
   intro x hx;rcases List.mem_cons.mp hx with rfl|hx
   ·exact⟨rfl,rfl,_,rfl,rfl⟩
   ·rcases List.mem_cons.mp hx with rfl|hx
    ·exact⟨rfl,rfl,_,rfl,rfl⟩
    ·cases hx
  case c4=>
   intro y hy;rcases List.mem_cons.mp hy with rfl|hy
   ·exact aac ..
   ·rcases List.mem_cons.mp hy with rfl|hy
    ·exact aad _ (aac ..)
    ·cases hy
  case c5=>
   intro j i h;rcases j with _|_|_|j
   ·cases h
   ·cases h;exact⟨"words",aac ..,rfl,rfl⟩
   ·cases h;exact⟨"made",aad _ (aac ..),rfl,rfl⟩
   ·cases h
  obtain⟨vs,hv,hp⟩:=id hR;have hlen:vs.length=R.length:=Paired.length hp;have hRl:=hsm.len;intro d hd;refine⟨fun m σ H1=>∃ms g l r,σ=[some (.ref a),some (.ref b),some (.ref d),some (.bl g),l,r]/\ab H H1/\H1 d=some (.dK (kd ms))/\ms.Nodup/\(∀x∈ms,Gram.Made R (·∈ws) x)/\
    (g=false->∀l r,(l,r)∈R->(∀s∈r,s∈ws\/s∈ms)->l∈ms)/\m=(if g=true then 1 else 0)+2*(R.length - ms.length),
   ⟨_,[],true,none,none,rfl,ab.upd hd,aa,List.nodup_nil,fun x hx=>(by cases hx),fun z=>(by cases z),rfl⟩,?_⟩
  rintro m0 σ H1 ⟨ms0,g0,l0,r0,rfl,s1,hd1,nd0,so0,cl0,rfl⟩;refine⟨_,rfl,g0,rfl,?_⟩;have lenR:∀{ms:List Str},ms.Nodup->(∀x∈ms,Gram.Made R (·∈ws) x)->ms.length<=R.length:=fun nd so=>by
   have:=Gram.bT nd fun x hx=>(so x hx).left
   rw[aaa] at this;exact this
  cases g0 with
  |false=>
   refine aJ ?_;have cl:=cl0 rfl;have l14:=lenR nd0 so0;refine⟨_,rfl,d,ms0,rfl,.inr (.inr ⟨_,hd1,pD ms0⟩),by omega,fun q hq=>?_⟩;exact k q ms0 _ (s1.trans (ab.upd hq)) (s1.free hq) nd0 (fun z=>⟨so0 z,fun h=>Gram.h7 cl h⟩) aa
  |true=>
   refine a9 ?_;refine⟨fun σ H2=>∃ms g l r,σ=[some (.ref a),some (.ref b),some (.ref d),some (.bl g),l,r]/\ab H H2/\H2 d=some (.dK (kd ms))/\ms.Nodup/\(∀x∈ms,Gram.Made R (·∈ws) x)/\
     (g=false->ms=ms0/\∀l r,(l,r)∈R->(∀s∈r,s∈ws\/s∈ms0)->l∈ms0)/\(g=true->ms0.length<ms.length),?_,?_⟩
   ·rintro σ' H' ⟨ms,g,l,r,rfl,s2,hd2,nd,so,cf,ct⟩;have l14:=lenR nd so;refine⟨(if g=true then 1 else 0)+2*(R.length - ms.length),?_,ms,g,l,r,rfl,s2,hd2,nd,so,fun z=>?_,rfl⟩
    ·rw[if_pos rfl];cases g with
     |true=>
      have:=ct rfl;rw[if_pos rfl];omega
     |false=>
      have:=(cf rfl).1;rw[if_neg (by decide),this];omega
    ·obtain⟨e,cl⟩:=cf z;rw[e];exact cl
   refine⟨_,rfl,a,rfl,⟨_,s1.seq (SqL.of hv)⟩,aM (K:=K) (a:=a) (xs:=vs)
    (fun i σ H2=>∃ms g l r,σ=[some (.ref a),some (.ref b),some (.ref d),some (.bl g),l,r]/\ab H H2/\H2 d=some (.dK (kd ms))/\ms.Nodup/\(∀x∈ms,Gram.Made R (·∈ws) x)/\ms0.length<=ms.length/\
     (g=false->ms=ms0/\∀j l r,j<i->R[j]? =some (l,r)->(∀s∈r,s∈ws\/s∈ms0)->l∈ms0)/\(g=true->ms0.length<ms.length))
    ⟨ms0,false,l0,r0,rfl,s1,hd1,nd0,so0,Nat.le_refl _,fun _=>⟨rfl,fun j l r hj=>absurd hj (Nat.not_lt_zero _)⟩,fun z=>(by cases z)⟩ ?_ ?_ ?_⟩
   ·rintro i σ H2 _ ⟨_,_,_,_,_,s2,_⟩;exact s2.seq (SqL.of hv)
   ·rintro i x σ H2 hx ⟨ms,g,l,r,rfl,s2,hd2,nd,so,le,cf,ct⟩;obtain⟨p,t,c,hpi,rfl,ht,hc⟩:=bO hp hx;have hpm:(p.1,p.2)∈R:=aah hpi;refine⟨t,_,rfl,SqT.of (s2 _ _ ht),rfl,_,_,rfl,_,_,rfl,rfl,?_⟩;refine⟨_,rfl,_,rfl,d,_,rfl,bP.k (k:=Sum.inr p.1) hd2,_,rfl,?_⟩;rw[jd]
    by_cases hin:p.1∈ms
    ·rw[if_pos hin];refine aJ (aJ ?_);refine⟨ms,g,_,_,rfl,s2,hd2,nd,so,le,fun z=>?_,ct⟩;obtain⟨e,cl⟩:=cf z;refine⟨e,fun j l r hj hR' hs=>?_⟩;rcases Nat.lt_or_ge j i with q|q
     ·exact cl j l r q hR' hs
     ·have:j=i:=by omega
      subst this;rw[hpi] at hR';cases hR'
      rw[←e];exact hin
    ·rw[if_neg hin];refine a9 ?_;have hc2:H2 c=some (.lst (p.2.map V.str)):=s2 _ _ hc;have hw2:H2 b=some (.lst (ws.map V.str)):=s2 _ _ hW;refine⟨_,rfl,c,rfl,⟨_,SqL.of hc2⟩,fun D hD=>cH (K:=K) (xs:=p.2.map V.str)
      (fun i τ H3=>(∃o,τ=[o,some (.ref b),some (.ref d)])/\H3=upd H2 D (.lst ((p.2.take i).map fun s=>V.bl (decide (s∈ws\/s∈ms))))) ⟨⟨_,rfl⟩,rfl⟩ ?_ ?_ ?_⟩
     ·rintro i τ H3 ⟨_,rfl⟩;exact(ab.upd hD).seq (SqL.of hc2)
     ·rintro i x τ H3 hx ⟨⟨o,rfl⟩,rfl⟩;obtain⟨sg,hsg,rfl⟩:∃sg,p.2[i]? =some sg/\V.str sg=x:=by
       rw[aax] at hx;cases e:p.2[i]? with
       |none=>rw[e] at hx;cases hx
       |some sg=>rw[e] at hx;exact⟨sg,rfl,Option.some.inj hx⟩
      have sD:=ab.upd (o:=HO.lst ((p.2.take i).map fun s=>V.bl (decide (s∈ws\/s∈ms)))) hD;have hil:i<p.2.length:=(aab.mp hsg).1;have fin:∀bo:Bool,bo=decide (sg∈ws\/sg∈ms)->∃ys,upd H2 D (.lst ((p.2.take i).map fun s=>V.bl (decide (s∈ws\/s∈ms)))) D=some (.lst ys)/\ys.length<sizeLine/\
        (∃o',[some (V.str sg),some (V.ref b),some (V.ref d)]=[o',some (.ref b),some (.ref d)])/\upd (upd H2 D (.lst ((p.2.take i).map fun s=>V.bl (decide (s∈ws\/s∈ms))))) D (.lst (ys++[V.bl bo]))=upd H2 D (.lst ((p.2.take (i+1)).map fun s=>V.bl (decide (s∈ws\/s∈ms)))):=by
       rintro bo rfl;refine⟨_,aa,?_,⟨_,rfl⟩,?_⟩
       ·rw[aaa,aal];have:=hsm.wid p (aah hpi);exact av (by omega)
       ·rw[cA,aap,hsg,aam];rfl
      refine⟨_,rfl,_,rfl,b,_,rfl,.inl (SqL.of (sD _ _ hw2)),rfl,bN ws,_,rfl,?_⟩;rw[bX]
      by_cases hin1:sg∈ws
      ·rw[aan hin1];refine a9 (fin true ?_);rw[aan (.inl hin1)]
      ·rw[aai hin1];refine aJ ?_;refine⟨_,rfl,_,rfl,d,_,rfl,bP.k (k:=Sum.inr sg) (sD _ _ hd2),?_⟩;rw[jd]
       by_cases hin2:sg∈ms
       ·rw[if_pos hin2];exact fin true (by rw[aan (.inr hin2)])
       ·rw[if_neg hin2];exact fin false (by rw[aai];rintro(z|z);exact hin1 z;exact hin2 z)
     ·rintro τ H3 ⟨_,rfl⟩;rw[aaa,aas];have sD:=ab.upd (o:=HO.lst (p.2.map fun s=>V.bl (decide (s∈ws\/s∈ms)))) hD;have s3:ab H _:=s2.trans sD;refine⟨D,p.2.map fun s=>decide (s∈ws\/s∈ms),rfl,SqL.of (by rw[aa,List.map_map];rfl),_,rfl,?_⟩;have hall:((p.2.map fun s=>decide (s∈ws\/s∈ms)).all id=true)↔∀s∈p.2,s∈ws\/s∈ms:=by
       rw[List.all_map,List.all_eq_true];exact⟨fun h s hs=>of_decide_eq_true (h s hs),fun h s hs=>aan (h s hs)⟩
      cases hb:(p.2.map fun s=>decide (s∈ws\/s∈ms)).all id with
      |true=>
       refine a9 ?_;have ha:=hall.mp hb;have l14:=lenR nd so;have hd3:upd H2 D (.lst (p.2.map fun s=>V.bl (decide (s∈ws\/s∈ms)))) d=some (.dK (kd ms)):=sD _ _ hd2;refine⟨_,rfl,_,rfl,d,_,rfl,dD.k (k:=Sum.inr p.1) hd3 (by unfold kd;rw[aaa];exact av (by omega)),?_⟩;rw[se hin];refine⟨ms++[p.1],true,_,_,rfl,s3.bz hd,aa,dL nd hin,fun x hx=>?_,by rw[aag];omega,fun z=>(by cases z),fun _=>by rw[aag,aav];omega⟩;rcases aak.mp hx with q|q
       ·exact so x q
       ·rw[aaj.mp q];exact Gram.me so hpm ha
      |false=>
       refine aJ ?_;refine⟨ms,g,_,_,rfl,s3,sD _ _ hd2,nd,so,le,fun z=>?_,ct⟩;obtain⟨e,cl⟩:=cf z;refine⟨e,fun j l r hj hR' hs=>?_⟩;rcases Nat.lt_or_ge j i with q|q
       ·exact cl j l r q hR' hs
       ·have:j=i:=by omega
        subst this;rw[hpi] at hR';cases hR'
        exfalso;have:=hall.mpr (by rw[e];exact hs);rw[hb] at this;cases this
   ·rintro σ H2 ⟨ms,g,l,r,rfl,s2,hd2,nd,so,le,cf,ct⟩;rw[hlen] at cf;refine⟨ms,g,l,r,rfl,s2,hd2,nd,so,fun z=>?_,ct⟩;obtain⟨e,cl⟩:=cf z;refine⟨e,fun l r hm hs=>?_⟩;obtain⟨j,hj⟩:=List.mem_iff_getElem?.mp hm;exact cl j l r (aab.mp hj).1 hj hs
end
end Nw
namespace Nw
open PySem L2
open SL (aq srt)
abbrev Tab:=List (Str×List Str)
def cV(H:Hp)(kv:Key×V)(e:Str×List Str):Prop:=kv.1=Sum.inr e.1/\∃l,kv.2=.ref l/\ak H l e.2
def dS(H:Hp)(a:Addr)(f:Tab):Prop:=∃kvs,Rd H a (.dK kvs)/\Paired (cV H) kvs f
def getL(f:Tab)(x:Str):List Str:=(f.lookup x).getD []
theorem wB{H H':Hp}(e:ab H H'){a:Addr}{u:HO}(h:Rd H a u):Rd H' a u:=by
 rcases h with h|⟨o,h⟩
 ·exact .inl (e _ _ h)
 ·exact .inr ⟨o,e _ _ h⟩
theorem dS.mono{H H':Hp}(e:ab H H'){a:Addr}{f:Tab}(h:dS H a f):dS H' a f:=by
 obtain⟨kvs,h1,h2⟩:=h;exact⟨kvs,wB e h1,Paired.bJ h2 fun _ _ ⟨q1,l,q2,q3⟩=>⟨q1,l,q2,e _ _ q3⟩⟩
theorem ej{H:Hp}:∀{kvs:List (Key×V)} {f:Tab},Paired (cV H) kvs f->∀(x:Str),(f.lookup x=none/\bc kvs (Sum.inr x:Key)=none)\/∃ys l,f.lookup x=some ys/\bc kvs (Sum.inr x:Key)=some (.ref l)/\ak H l ys
 |_,_,.nil,x=>.inl ⟨rfl,rfl⟩
 |_,_,@Paired.cons _ _ _ kv e _ _ ⟨h1,l,h2,h3⟩ t,x=>by
  obtain⟨k,v⟩:=kv;obtain⟨n,ys⟩:=e;have h1:k=Sum.inr n:=h1;have h2:v=.ref l:=h2;subst h1;subst h2;rw[List.lookup_cons]
  by_cases q:n=x
  ·subst q
   right
   refine⟨ys,l,?_,bV rfl,h3⟩;simp
  ·have q':(x == n)=false:=beq_eq_false_iff_ne.mpr fun z=>q z.symm
   rw[q',bW (fun z=>q (Sum.inr.inj z))];exact ej t x
theorem cj:∀{f:Tab} {x:Str},x∈f.map (·.1)->∃ys,f.lookup x=some ys/\(x,ys)∈f
 |[],x,h=>by cases h
 |(n,ys)::r,x,h=>by
  rw[List.lookup_cons];cases e:x == n with
  |true=>
   have e:=eq_of_beq e;subst e;exact⟨ys,rfl,aac ..⟩
  |false=>
   rcases List.mem_cons.mp h with z|z
   ·rw[z] at e;simp at e
   ·obtain⟨ys',h1,h2⟩:=cj z;exact⟨ys',h1,aad _ h2⟩
theorem dS.get{H:Hp}{a:Addr}{f:Tab}(h:dS H a f){x:Str}(hx:x∈f.map (·.1)):∃l,bP H a (.str x) (some (.ref l))/\ak H l (getL f x):=by
 obtain⟨kvs,h1,h2⟩:=h;obtain⟨ys,e,_⟩:=cj hx;rcases ej h2 x with ⟨z,_⟩|⟨ys',l,z,v,hl⟩
 ·rw[e] at z;cases z
 ·refine⟨l,.inl ⟨kvs,Sum.inr x,h1,rfl,v.symm⟩,?_⟩;unfold getL;rw[z];exact hl
def wsum(f:Tab)(ms:List Str):Nat:=(f.map fun e=>if e.1∈ms then 0 else e.2.length).sum
theorem lz:∀(f:Tab) (ms:List Str),wsum f ms<=(f.map fun e=>e.2.length).sum
 |[],_=>Nat.le_refl _
 |e::r,ms=>by
  have:=lz r ms;unfold wsum at this ⊢;rw[aaw,List.sum_cons,aaw,List.sum_cons];split <;> omega
theorem nR:∀{f:Tab} {ms:List Str} {x:Str},¬x∈f.map (·.1)->wsum f (ms++[x])=wsum f ms
 |[],_,_,_=>rfl
 |e::r,ms,x,h=>by
  have h1:¬e.1=x:=fun z=>h (by rw[←z];exact aac ..)
  have h2:=nR (f:=r) (ms:=ms) (x:=x) fun z=>h (aad _ z)
  unfold wsum at h2 ⊢;rw[aaw,List.sum_cons,aaw,List.sum_cons,h2];have:(e.1∈ms++[x])↔e.1∈ms:=by rw[aak,aaj];exact⟨fun z=>z.resolve_right h1,.inl⟩
  by_cases z:e.1∈ms
  ·rw[if_pos z,if_pos (this.mpr z)]
  ·rw[if_neg z,if_neg fun q=>z (this.mp q)]
theorem lA:∀{f:Tab} {ms:List Str} {x:Str},(f.map (·.1)).Nodup->x∈f.map (·.1)->¬x∈ms->wsum f (ms++[x])+(getL f x).length=wsum f ms
 |[],_,_,_,h,_=>by cases h
 |e::r,ms,x,nd,h,hx=>by
  rw[aaw,List.nodup_cons] at nd;obtain⟨n,ys⟩:=e
  by_cases q:n=x
  ·subst q;have h1:=nR (f:=r) (ms:=ms) (x:=n) nd.1;unfold wsum at h1 ⊢;rw[aaw,List.sum_cons,aaw,List.sum_cons,h1];have:getL ((n,ys)::r) n=ys:=by unfold getL;simp
   rw[this,if_pos (by simp),if_neg hx];show 0+_+ys.length=ys.length+_;omega
  ·have hr:x∈r.map (·.1):=by
    rcases List.mem_cons.mp h with z|z
    ·exact absurd z.symm q
    ·exact z
   have h1:=lA (f:=r) nd.2 hr hx;have q':(x == n)=false:=beq_eq_false_iff_ne.mpr fun z=>q z.symm
   have:getL ((n,ys)::r) x=getL r x:=by unfold getL;rw[List.lookup_cons,q']
   rw[this];unfold wsum at h1 ⊢;rw[aaw,List.sum_cons,aaw,List.sum_cons];have e2:(n∈ms++[x])↔n∈ms:=by rw[aak,aaj];exact⟨fun z=>z.resolve_right q,.inl⟩
   by_cases z:n∈ms
   ·rw[if_pos z,if_pos (e2.mpr z)];omega
   ·rw[if_neg z,if_neg fun q=>z (e2.mp q)];show ys.length+_+_=ys.length+_;omega
theorem gf{wi:List Str}{here y:Str}:y∈wi.concat here↔y∈wi\/y∈[here]:=by rw[List.concat_eq_append,aak]
structure Links(f:Tab):Prop where
 nd:(f.map (·.1)).Nodup
 cl:∀e∈f,∀y∈e.2,y∈f.map (·.1)
 len:f.length<=14
 sz:(f.map fun e=>e.2.length).sum<=10000
abbrev nS:Stmt:=top 9
theorem jF:aD ["links","sort","reached","waiting","here"] ["links","sort"] (au nS):=⟨rfl,rfl,rfl,by decide +kernel,rfl,by decide +kernel,by decide +kernel⟩
def jG:Sp:=fun vs H Q _=>∃(a:Addr) (x:Str) (f:Tab),vs=[.ref a,.str x]/\dS H a f/\Links f/\x∈f.map (·.1)/\∀q ms H',ab H H'->H q=none->ms.Nodup->(∀z,z∈ms↔Gram.Reach (getL f) x z)->ak H' q (srt ms)->Q (.ref q) H'
theorem bE{n:Nat}(h:n<=20000):n<=sizeLine:=by rw[PySem.sizeLine_eq];omega
section
variable {P:Program}{w:World}{K:PySem.W.Frag}{mg:Str->Option Value}{base:Heap}
theorem t7{f:Addr}{fd:FuncData}(F:Fun K "sorts_reached" "sorts_reached" nS f fd)(T:Txt mg):a0 P w K mg base CX0 1 f fd ["links","sort"] jG:=by
 refine F.ok jF (fun vs H Q E h=>?_) (fun cdv A outer s H vs Q E hr h=>?_)
 ·obtain⟨a,x,f,rfl,_⟩:=h;rfl
 ·obtain⟨a,x,f,rfl,hL,hf,hx,k⟩:=h;have hu:=cv hr;refine⟨_,af (ao (i:=2) jF.nd rfl (Or.inl rfl) dY)
   (af (ao (i:=3) jF.nd rfl (Or.inl rfl) (aW (aj (pv 1) ac)))
   (af (dU PassesOwn.never (tH (pv 3) (fun _=>rfl))
    (af (ao (i:=4) jF.nd rfl (Or.inl rfl) (rK PySem.F.plainAttrs_list PySem.F.slot_list_pop PySem.F.type_list_pop rL (pv 3)))
    (ai (bi (fM (i4 hu (pv 4) (pv 2)))
     (af (da hu (pv 2) (pv 4) dC rfl)
     (ai (bp (bY PySem.F.plainAttrs_list PySem.F.slot_list_extend PySem.F.type_list_extend dW (pv 3) (aj (bI hu (pv 0) (pv 4) (fun _ _=>rfl)) ac)))))
     aY))))
   (ai (aI (aC (cq rfl) (by rfl) T.srt PyProof.Rows.boot_sorted (aj (pv 2) ac)))))),?_⟩
  intro d hd;refine⟨_,rfl,(show 1<=sizeLine by decide),fun wl hwl=>?_⟩;have hwd:H wl=none:=(ab.upd (o:=HO.dK []) hd).free hwl;have ndw:wl≠d:=fun z=>by rw[z,aa] at hwl;cases hwl
  have hfl:=hf.len;refine⟨fun m σ H1=>∃ms ws o,σ=[some (.ref a),some (.str x),some (.ref d),some (.ref wl),o]/\ab H H1/\H1 d=some (.dK (kd ms))/\ak H1 wl ws/\ms.Nodup/\(∀z∈ms,z∈f.map (·.1)/\Gram.Reach (getL f) x z)/\
    (∀z∈ws,z∈f.map (·.1)/\Gram.Reach (getL f) x z)/\(x∈ms\/x∈ws)/\(∀z∈ms,∀y∈getL f z,y∈ms\/y∈ws)/\m=ws.length+wsum f ms/\m<=1+(f.map fun e=>e.2.length).sum,
   ⟨_,[],[x],none,rfl,(ab.upd hd).trans (ab.upd hwl),by rw[am (Ne.symm ndw),aa];rfl,aa,List.nodup_nil,fun z hz=>(by cases hz),fun z hz=>by
    rw[aaj.mp hz];exact⟨hx,.refl⟩,.inr (aac ..),fun z hz=>(by cases hz),rfl,by have:=lz f [];simp only[aav];omega⟩,?_⟩
  rintro m σ H1 ⟨ms,ws,o,rfl,s1,hd1,hw1,nd,so,sw,st,cl,rfl,hm⟩;refine⟨_,rfl,_,.inl ⟨_,SqL.of hw1,rfl⟩,?_⟩;have lenM:ms.length<=f.length:=by
   have:=Gram.bT nd fun z hz=>(so z hz).1
   rw[aaa] at this;exact this
  rcases List.eq_nil_or_concat ws with rfl|⟨wi,here,rfl⟩
  ·refine aJ ?_;refine⟨_,rfl,d,ms,rfl,.inr (.inr ⟨_,hd1,pD ms⟩),by omega,fun q hq=>?_⟩;refine k q ms _ (s1.trans (ab.upd hq)) (s1.free hq) nd (fun z=>⟨fun h=>(so z h).2,fun h=>?_⟩) aa;refine Gram.gK (st.resolve_right (by intro z;cases z)) (fun z hz y hy=>(cl z hz y hy).resolve_right (by intro z;cases z)) h
  ·have e0:(!((wi.concat here).map V.str).isEmpty)=true:=by simp
   rw[e0];refine a9 ?_;have hw1:H1 wl=some (.lst ((wi.map V.str)++[V.str here])):=by
    have:=hw1;unfold ak at this;rw[this];simp
   obtain⟨hk,hre⟩:=sw here (by simp);have nwd:H1 wl≠H1 d:=by rw[hw1,hd1];intro z;cases z
   have hwld:wl≠d:=ndw;have s2:ab H (upd H1 wl (.lst (wi.map V.str))):=s1.bz hwd;have hd2:upd H1 wl (.lst (wi.map V.str)) d=some (.dK (kd ms)):=by rw[am (Ne.symm hwld)];exact hd1
   refine⟨fun σ H2=>∃ms' ws' o,σ=[some (.ref a),some (.str x),some (.ref d),some (.ref wl),o]/\ab H H2/\H2 d=some (.dK (kd ms'))/\ak H2 wl ws'/\ms'.Nodup/\(∀z∈ms',z∈f.map (·.1)/\Gram.Reach (getL f) x z)/\
    (∀z∈ws',z∈f.map (·.1)/\Gram.Reach (getL f) x z)/\(x∈ms'\/x∈ws')/\(∀z∈ms',∀y∈getL f z,y∈ms'\/y∈ws')/\ws'.length+wsum f ms'+1=(wi.concat here).length+wsum f ms,?_,?_⟩
   ·rintro σ' H' ⟨ms',ws',o',rfl,q1,q2,q3,q4,q5,q6,q7,q8,q9⟩;exact⟨_,by omega,ms',ws',o',rfl,q1,q2,q3,q4,q5,q6,q7,q8,rfl,by omega⟩
   refine⟨_,rfl,.inl ⟨rfl,_,SqL.of hw1⟩,wl,_,V.str here,rfl,rfl,hw1,by simp,?_⟩;rw[List.dropLast_concat];refine⟨_,rfl,_,rfl,d,_,rfl,bP.k (k:=Sum.inr here) hd2,_,rfl,?_⟩;rw[jd]
   by_cases hin:here∈ms
   ·rw[if_pos hin];refine aJ ?_;refine⟨ms,wi,_,rfl,s2,hd2,aa,nd,so,fun z hz=>sw z (by simp[hz]),?_,fun z hz y hy=>?_,by simp;omega⟩
    ·rcases st with z|z
     ·exact .inl z
     ·rcases gf.mp z with q|q
      ·exact .inr q
      ·exact .inl (by rw[aaj.mp q];exact hin)
    ·rcases cl z hz y hy with q|q
     ·exact .inl q
     ·rcases gf.mp q with q|q
      ·exact .inr q
      ·exact .inl (by rw[aaj.mp q];exact hin)
   ·rw[if_neg hin];refine a9 ?_;refine⟨_,rfl,_,rfl,d,_,rfl,dD.k (k:=Sum.inr here) hd2 (by unfold kd;rw[aaa];exact av (by omega)),?_⟩;rw[se hin];have s3:ab H (upd (upd H1 wl (.lst (wi.map V.str))) d (.dK (kd (ms++[here])))):=s2.bz hd;have hw3:upd (upd H1 wl (.lst (wi.map V.str))) d (.dK (kd (ms++[here]))) wl=some (.lst (wi.map V.str)):=by rw[am hwld,aa]
    obtain⟨l,hg,hl⟩:=(hL.mono s3).get hk;have hws:=lA (ms:=ms) hf.nd hk hin;have hgl:∀y∈getL f here,y∈f.map (·.1)/\Gram.Reach (getL f) x y:=fun y hy=>by
     refine⟨?_,.step hre hy⟩;obtain⟨ys,e1,e2⟩:=cj hk;unfold getL at hy;rw[e1] at hy;exact hf.cl _ e2 y hy
    refine⟨_,rfl,.inl ⟨rfl,_,SqL.of hw3⟩,_,rfl,_,rfl,a,_,rfl,hg,wl,l,_,_,rfl,rfl,hw3,hl,?_,?_⟩
    ·rw[aaa,aaa];have:=hf.sz;simp only[List.length_concat] at hm;exact bE (by omega)
    ·refine⟨ms++[here],wi++getL f here,_,rfl,s3.bz hwd,?_,?_,dL nd hin,fun z hz=>?_,fun z hz=>?_,?_,fun z hz y hy=>?_,?_⟩
     ·rw[am (Ne.symm hwld),aa]
     ·unfold ak;rw[aa,aam]
     ·rcases aak.mp hz with q|q
      ·exact so z q
      ·rw[aaj.mp q];exact⟨hk,hre⟩
     ·rcases aak.mp hz with q|q
      ·exact sw z (by simp[q])
      ·exact hgl z q
     ·rcases st with z|z
      ·exact .inl (List.mem_append_left _ z)
      ·rcases gf.mp z with q|q
       ·exact .inr (List.mem_append_left _ q)
       ·exact .inl (aar _ q)
     ·rcases aak.mp hz with q|q
      ·rcases cl z q y hy with r|r
       ·exact .inl (List.mem_append_left _ r)
       ·rcases gf.mp r with r|r
        ·exact .inr (List.mem_append_left _ r)
        ·exact .inl (aar _ r)
      ·rw[aaj.mp q] at hy;exact .inr (aar _ hy)
     ·simp only[aag,List.length_concat];omega
end
end Nw
namespace Nw
open PySem L2
open SL (aq srt)
abbrev KA:=List (Str×Addr)
def kvsOf(ka:KA):List (Key×V):=ka.map fun e=>((Sum.inr e.1:Key),V.ref e.2)
structure Ka(H:Hp)(d:Addr)(ka:KA):Prop where
 ndk:(ka.map (·.1)).Nodup
 nda:(ka.map (·.2)).Nodup
 ne:∀e∈ka,e.2≠d
 fr:∀e∈ka,H e.2=none
 frd:H d=none
structure bC(H:Hp)(d:Addr)(ka:KA)(v:Str->List Str):Prop where
 dk:H d=some (.dK (kvsOf ka))
 at_:∀e∈ka,H e.2=some (.lst ((v e.1).map V.str))
theorem h9:∀{ka:KA},(ka.map (·.1)).Nodup->∀(x:Str),(¬x∈ka.map (·.1)/\bc (kvsOf ka) (Sum.inr x:Key)=none)\/∃a,(x,a)∈ka/\bc (kvsOf ka) (Sum.inr x:Key)=some (.ref a)
 |[],_,x=>.inl ⟨fun h=>(by cases h),rfl⟩
 |(n,a)::r,nd,x=>by
  rw[aaw,List.nodup_cons] at nd;show _\/∃a',(x,a')∈(n,a)::r/\bc (((Sum.inr n:Key),V.ref a)::kvsOf r) (Sum.inr x)=some (.ref a')
  by_cases q:n=x
  ·subst q;exact .inr ⟨a,aac ..,bV rfl⟩
  ·have e:bc (((Sum.inr n:Key),V.ref a)::kvsOf r) (Sum.inr x:Key)=bc (kvsOf r) (Sum.inr x:Key):=bW fun z=>q (Sum.inr.inj z)
   rcases h9 nd.2 x with ⟨h1,h2⟩|⟨a',h1,h2⟩
   ·left
    refine⟨fun z=>?_,by show bc (((Sum.inr n:Key),V.ref a)::kvsOf r) (Sum.inr x)=none;rw[e];exact h2⟩;rcases List.mem_cons.mp z with z|z
    ·exact q z.symm
    ·exact h1 z
   ·right
    exact⟨a',aad _ h1,by rw[e];exact h2⟩
theorem bC.get{H H0:Hp}{d:Addr}{ka:KA}{v:Str->List Str}(h:bC H d ka v)(g:Ka H0 d ka){x:Str}(hx:x∈ka.map (·.1)):∃a,(x,a)∈ka/\bP H d (.str x) (some (.ref a))/\H a=some (.lst ((v x).map V.str)):=by
 rcases h9 g.ndk x with ⟨z,_⟩|⟨a,h1,h2⟩
 ·exact absurd hx z
 ·exact⟨a,h1,.inl ⟨_,Sum.inr x,.inl h.dk,rfl,h2.symm⟩,h.at_ _ h1⟩
theorem bC.has{H H0:Hp}{d:Addr}{ka:KA}{v:Str->List Str}(h:bC H d ka v)(g:Ka H0 d ka)(x:Str):∃o,bP H d (.str x) o/\o.isSome=decide (x∈ka.map (·.1)):=by
 refine⟨_,bP.k (k:=Sum.inr x) h.dk,?_⟩;rcases h9 g.ndk x with ⟨z,h2⟩|⟨a,h1,h2⟩
 ·rw[h2,aai z];rfl
 ·rw[h2,aan (aao.mpr ⟨_,h1,rfl⟩)];rfl
theorem bC.keep{H H':Hp}{d:Addr}{ka:KA}{v:Str->List Str}(h:bC H d ka v)(k:ab H H'):bC H' d ka v:=⟨k _ _ h.dk,fun e he=>k _ _ (h.at_ e he)⟩
theorem bC.congr{H:Hp}{d:Addr}{ka:KA}{v v':Str->List Str}(h:bC H d ka v)(e:∀x∈ka.map (·.1),v x=v' x):bC H d ka v':=
 ⟨h.dk,fun y hy=>by rw[←e y.1 (aao.mpr ⟨y,hy,rfl⟩)];exact h.at_ y hy⟩
theorem nT:∀{ka:KA},(ka.map (·.2)).Nodup->∀{x y:Str} {a:Addr},(x,a)∈ka->(y,a)∈ka->x=y
 |[],_,_,_,_,h,_=>by cases h
 |(n,b)::r,nd,x,y,a,h1,h2=>by
  rw[aaw,List.nodup_cons] at nd;rcases List.mem_cons.mp h1 with e1|e1
  ·rcases List.mem_cons.mp h2 with e2|e2
   ·cases e1;cases e2;rfl
   ·cases e1
    exact absurd (aao.mpr ⟨_,e2,rfl⟩) nd.1
  ·rcases List.mem_cons.mp h2 with e2|e2
   ·cases e2
    exact absurd (aao.mpr ⟨_,e1,rfl⟩) nd.1
   ·exact nT nd.2 e1 e2
theorem bC.app{H H0:Hp}{d:Addr}{ka:KA}{v:Str->List Str}(h:bC H d ka v)(g:Ka H0 d ka){x:Str}{a:Addr}(ha:(x,a)∈ka)(more:List Str) :
  bC (upd H a (.lst ((v x++more).map V.str))) d ka (fun y=>if y=x then v x++more else v y):=by
 refine⟨by rw[am (Ne.symm (g.ne _ ha))];exact h.dk,fun e he=>?_⟩;obtain⟨y,b⟩:=e
 by_cases q:b=a
 ·subst q;have:y=x:=nT g.nda he ha;subst this;rw[aa,if_pos rfl]
 ·rw[am q];have:y≠x:=fun z=>by
   subst z;apply q;have key:∀{ka:KA},(ka.map (·.1)).Nodup->∀{y:Str} {a b:Addr},(y,a)∈ka->(y,b)∈ka->b=a:=by
    intro ka
    induction ka with
    |nil=>intro _ y a b h;cases h
    |cons p r ih=>
     intro nd y a b h1 h2;rw[aaw,List.nodup_cons] at nd;rcases List.mem_cons.mp h1 with e1|e1
     ·rcases List.mem_cons.mp h2 with e2|e2
      ·rw[←e1] at e2;exact(Prod.mk.inj e2).2
      ·exact absurd (aao.mpr ⟨_,e2,by rw[←e1]⟩) nd.1
     ·rcases List.mem_cons.mp h2 with e2|e2
      ·exact absurd (aao.mpr ⟨_,e1,by rw[←e2]⟩) nd.1
      ·exact ih nd.2 e1 e2
   exact key g.ndk ha he
  show H b=some (.lst ((if y=x then v x++more else v y).map V.str));rw[if_neg this];exact h.at_ _ he
theorem bC.new{H H0:Hp}{d p:Addr}{ka:KA}{v:Str->List Str}{x:Str}(h:bC H d ka v)(g:Ka H0 d ka)(hx:¬x∈ka.map (·.1))(hp:H p=none)(hv:v x=[]) :
  bC (upd (upd H p (.lst [])) d (.dK (putK (kvsOf ka) (Sum.inr x:Key) (.ref p)))) d (ka++[(x,p)]) v:=by
 have hpd:p≠d:=fun z=>by rw[z,h.dk] at hp;cases hp
 refine⟨?_,fun e he=>?_⟩
 ·rw[aa]
  congr 2
  rw[fw]
  ·unfold kvsOf;rw[aam];rfl
  ·rcases h9 g.ndk x with ⟨_,h2⟩|⟨a,h1,_⟩
   ·exact h2
   ·exact absurd (aao.mpr ⟨_,h1,rfl⟩) hx
 ·rcases aak.mp he with q|q
  ·have:e.2≠p:=fun z=>by rw[←z,h.at_ e q] at hp;cases hp
   rw[am (g.ne e q),am this];exact h.at_ e q
  ·rw[aaj.mp q];show upd (upd H p (.lst [])) d _ p=_;rw[am hpd,aa];show _=some (HO.lst ((v x).map V.str));rw[hv];rfl
theorem Ka.new{H0 H:Hp}{d p:Addr}{ka:KA}{x:Str}(g:Ka H0 d ka)(hx:¬x∈ka.map (·.1))(hp0:H0 p=none)(hpd:p≠d)(hpa:¬p∈ka.map (·.2)):Ka H0 d (ka++[(x,p)]) where
 ndk:=by rw[aam];exact dL g.ndk hx
 nda:=by rw[aam];exact dL g.nda hpa
 ne:=fun e he=>by
  rcases aak.mp he with q|q
  ·exact g.ne e q
  ·rw[aaj.mp q];exact hpd
 fr:=fun e he=>by
  rcases aak.mp he with q|q
  ·exact g.fr e q
  ·rw[aaj.mp q];exact hp0
 frd:=g.frd
def tabOf(ka:KA)(v:Str->List Str):Tab:=ka.map fun e=>(e.1,v e.1)
theorem bw(ka:KA)(v:Str->List Str):(tabOf ka v).map (·.1)=ka.map (·.1):=by unfold tabOf;rw[List.map_map];rfl
theorem bC.mH{H:Hp}{d:Addr}{ka:KA}{v:Str->List Str}(h:bC H d ka v):dS H d (tabOf ka v):=by
 refine⟨kvsOf ka,.inl h.dk,?_⟩;have:∀(l:KA),(∀e∈l,H e.2=some (.lst ((v e.1).map V.str)))->Paired (cV H) (kvsOf l) (tabOf l v):=by
  intro l
  induction l with
  |nil=>intro _;exact .nil
  |cons e r ih=>intro q;exact .cons ⟨rfl,e.2,rfl,q e (aac ..)⟩ (ih fun z hz=>q z (aad _ hz))
 exact this ka h.at_
theorem ev(v:Str->List Str)(x:Str):∀(ka:KA),getL (tabOf ka v) x=if x∈ka.map (·.1) then v x else []
 |[]=>rfl
 |(n,a)::r=>by
  have ih:=ev v x r;unfold getL tabOf at ih ⊢;rw[aaw,List.lookup_cons,aaw];cases e:x == n with
  |true=>
   have e:=eq_of_beq e;subst e;simp
  |false=>
   have:x≠n:=fun z=>by rw[z] at e;simp at e
   dsimp only;rw[ih]
   by_cases q:x∈r.map (·.1)
   ·rw[if_pos q,if_pos (aad _ q)]
   ·rw[if_neg q,if_neg fun z=>(List.mem_cons.mp z).elim this q]
theorem je{ka:KA}{v:Str->List Str}{b:Nat}(h:∀e∈ka,(v e.1).length<=b):((tabOf ka v).map fun e=>e.2.length).sum<=b*ka.length:=by
 induction ka with
 |nil=>simp[tabOf]
 |cons e r ih=>
  have h1:=h e (aac ..);have h2:=ih fun z hz=>h z (aad _ hz)
  unfold tabOf at h2 ⊢;rw[aaw,aaw,List.sum_cons,aau];show(v e.1).length+_<=_;rw[Nat.mul_succ];omega
end Nw
namespace Nw
open PySem L2
open SL (aq srt)
def ad(R:List Row):List Str:=srt (aq (R.map (·.1)))
theorem aF{R:List Row}{x:Str}:x∈ad R↔x∈R.map (·.1):=by unfold ad;rw[SL.bM,SL.bt]
theorem cI(R:List Row):(ad R).Nodup:=SL.fQ (SL.bF _)
theorem dM(R:List Row):(ad R).length<=R.length:=by
 unfold ad;rw[SL.dz];have:=SL.eY (R.map (·.1));rw[aaa] at this;exact this
theorem ia{H:Hp}{d:Addr}{ka:KA}{v:Str->List Str}(h:bC H d ka v){p:Addr}(hp:H p=none):¬p∈ka.map (·.2):=fun z=>by
 obtain⟨e,he,rfl⟩:=aao.mp z;rw[h.at_ e he] at hp;cases hp
theorem nU{ka:KA}{ss:List Str}{i:Nat}{x:Str}(hk:ka.map (·.1)=ss.take i)(nd:ss.Nodup)(hx:ss[i]? =some x):¬x∈ka.map (·.1):=by
 rw[hk];intro z;obtain⟨j,hj⟩:=List.mem_iff_getElem?.mp z;rw[List.getElem?_take] at hj;split at hj
 ·rename_i hlt;have:=gv nd hj hx;omega
 ·cases hj
theorem aZ{ss:List Str}{i:Nat}{x:V}(hx:(ss.map V.str)[i]? =some x):∃y,ss[i]? =some y/\x=.str y:=by
 rw[aax] at hx;cases e:ss[i]? with
 |none=>rw[e] at hx;cases hx
 |some sg=>rw[e] at hx;exact⟨sg,rfl,(Option.some.inj hx).symm⟩
abbrev nW:Stmt:=top 15
theorem lB:aD ["rows","lists","sort"] ["rows"] (au nW):=⟨rfl,rfl,rfl,by decide +kernel,rfl,by decide +kernel,by decide +kernel⟩
def jH:Sp:=fun vs H Q _=>∃(a:Addr) (R:List Row),vs=[.ref a]/\a7 H a R/\Small R/\∀d ka H',ab H H'->Ka H d ka->ka.map (·.1)=ad R->bC H' d ka (fun _=>[])->Q (.ref d) H'
def rl(R:List Row)(x:Str):List Str:=R.flatMap fun p=>if p.1=x then p.2.filter (fun s=>decide (s∈R.map (·.1))) else []
theorem kF{R:List Row}{x y:Str}:y∈rl R x↔∃r,(x,r)∈R/\y∈r/\y∈R.map (·.1):=by
 unfold rl;rw[List.mem_flatMap];constructor
 ·rintro⟨⟨l,r⟩,hm,h⟩;split at h
  ·rename_i e;have e:l=x:=e;subst e;obtain⟨h1,h2⟩:=List.mem_filter.mp h;exact⟨r,hm,h1,of_decide_eq_true h2⟩
  ·cases h
 ·rintro⟨r,hm,h1,h2⟩;refine⟨(x,r),hm,?_⟩;rw[if_pos rfl];exact List.mem_filter.mpr ⟨h1,aan h2⟩
theorem gg{R:List Row}{x:Str}{g:List Str->List Str}(hg:∀r,(g r).length<=r.length)(hw:∀p∈R,p.2.length<=20):(R.flatMap fun p=>if p.1=x then g p.2 else []).length<=20*R.length:=by
 induction R with
 |nil=>simp
 |cons p r ih=>
  have h1:=ih fun q hq=>hw q (aad _ hq)
  have h2:=hw p (aac ..);have h3:=hg p.2;rw[List.flatMap_cons,aag,aau];split
  ·omega
  ·rw[List.length_nil];omega
abbrev nX:Stmt:=top 10
theorem ib:aD ["rows","links","sort","left","right"] ["rows"] (au nX):=⟨rfl,rfl,rfl,by decide +kernel,rfl,by decide +kernel,by decide +kernel⟩
def lC:Sp:=fun vs H Q _=>∃(a:Addr) (p:Row) (R:List Row),vs=[.ref a]/\a7 H a (p::R)/\Small (p::R)/\∀q ms H',ab H H'->H q=none->ms.Nodup->(∀z,z∈ms↔Gram.Reach (rl (p::R)) p.1 z)->ak H' q (srt ms)->Q (.ref q) H'
section
variable {P:Program}{w:World}{K:PySem.W.Frag}{mg:Str->Option Value}{base:Heap}
theorem t8{f:Addr}{fd:FuncData}(F:Fun K "lists_by_sort" "lists_by_sort" nW f fd)(T:Txt mg)(D1:Def P w K mg base "sorts_of" 1 ["rows"] bZ):a0 P w K mg base CX0 2 f fd ["rows"] jH:=by
 refine F.ok lB (fun vs H Q E h=>?_) (fun cdv A outer s H vs Q E hr h=>?_)
 ·obtain⟨a,R,rfl,_⟩:=h;rfl
 ·obtain⟨a,R,rfl,hR,hsm,k⟩:=h;have hu:=cv hr;refine⟨_,af (ao (i:=1) lB.nd rfl (Or.inl rfl) dY)
   (af (aO PassesOwn.never rfl (aB (aw D1 hr (by rfl) (aj (pv 0) ac))) (ap (i:=2) lB.nd rfl (Or.inl rfl))
    (ai (da hu (pv 1) (pv 2) (aW ac) rfl)))
   (ai (aI (pv 1)))),?_⟩
  intro d hd;have hl14:=dM R;have hR14:=hsm.len;refine⟨_,rfl,a,R,rfl,hR.mono (ab.upd hd),hsm,fun q H1 s1 n1 hS=>?_⟩;have hS:H1 q=some (.lst ((ad R).map V.str)):=hS;have s01:ab H H1:=(ab.upd hd).trans s1;have hqd:q≠d:=fun z=>by rw[z,aa] at n1;cases n1
  refine⟨q,rfl,⟨_,SqL.of hS⟩,aM (K:=K) (a:=q) (xs:=(ad R).map V.str)
   (fun i σ H2=>∃ka o,σ=[some (.ref a),some (.ref d),o]/\ab H H2/\H2 q=some (.lst ((ad R).map V.str))/\Ka H d ka/\ka.map (·.1)=(ad R).take i/\bC H2 d ka (fun _=>[]))
   ⟨[],none,rfl,s01,hS,⟨List.nodup_nil,List.nodup_nil,fun e he=>(by cases he),fun e he=>(by cases he),hd⟩,rfl,⟨s1 _ _ aa,fun e he=>(by cases he)⟩⟩ ?_ ?_ ?_⟩
  ·rintro i σ H2 _ ⟨_,_,_,_,h,_⟩;exact SqL.of h
  ·rintro i x σ H2 hx ⟨ka,o,rfl,s2,hq2,gk,hk,tv⟩;obtain⟨y,hy,rfl⟩:=aZ hx;have hny:=nU hk (cI R) hy;refine⟨by decide,fun p hp=>?_⟩;have hpd:p≠d:=fun z=>by rw[z,tv.dk] at hp;cases hp
   have hpq:p≠q:=fun z=>by rw[z,hq2] at hp;cases hp
   have hp0:H p=none:=s2.free hp;have hkl:ka.length<=14:=by
    have:=congrArg List.length hk;rw[aaa,aal] at this;omega
   refine⟨_,rfl,_,rfl,d,_,rfl,dD.k (k:=Sum.inr y) (kvs:=kvsOf ka) (by rw[am (Ne.symm hpd)];exact tv.dk) (by unfold kvsOf;rw[aaa];exact av (by omega)),?_⟩;refine⟨ka++[(y,p)],_,rfl,(s2.trans (ab.upd hp)).bz hd,?_,gk.new (H:=H2) hny hp0 hpd (ia tv hp),?_,tv.new gk hny hp rfl⟩
   ·rw[am hqd,am (Ne.symm hpq)];exact hq2
   ·rw[aam,hk,aap,hy];rfl
  ·rintro σ H2 ⟨ka,o,rfl,s2,hq2,gk,hk,tv⟩;rw[aaa,aas] at hk;exact⟨_,rfl,k d ka H2 s2 gk hk tv⟩
theorem t9{f:Addr}{fd:FuncData}(F:Fun K "sorts_in_trees_of_lines" "sorts_in_trees_of_lines" nX f fd)(T:Txt mg)(D1:Def P w K mg base "sorts_of" 1 ["rows"] bZ)(D2:Def P w K mg base "sorts_reached" 1 ["links","sort"] jG)
  (D3:Def P w K mg base "first_sort" 1 ["rows"] h8):a0 P w K mg base CX0 2 f fd ["rows"] lC:=by
 refine F.ok ib (fun vs H Q E h=>?_) (fun cdv A outer s H vs Q E hr h=>?_)
 ·obtain⟨a,p,R,rfl,_⟩:=h;rfl
 ·obtain⟨a,p0,R0,rfl,hR,hsm,k⟩:=h;have hu:=cv hr;refine⟨_,af (ao (i:=1) ib.nd rfl (Or.inr rfl) dY)
   (af (aO PassesOwn.never rfl (aB (aw D1 hr (by rfl) (aj (pv 0) ac))) (ap (i:=2) ib.nd rfl (Or.inl rfl))
    (ai (da hu (pv 1) (pv 2) (aW ac) rfl)))
   (af (aO PassesOwn.never rfl (aB (pv 0)) (cJ (n:=2) rfl (aH (ap (i:=3) ib.nd rfl (Or.inl rfl)) (aH (ap (i:=4) ib.nd rfl (Or.inl rfl)) cg)))
    (ai (bp (bY PySem.F.plainAttrs_list PySem.F.slot_list_extend PySem.F.type_list_extend dW (bI hu (pv 1) (pv 3) (fun _ _=>rfl)) (aj
     (cY (aX.free (N:=["sign","links"]) (sel:=[none,some 1]) ["links"] (by rfl) (by rfl) (by rfl) ?c1 ?c2 ?c3 ?c4 (by rfl) ?c5) rfl (aB (pv 4)) (fun s₃ H₃ fp=>ap (i:=0) (show(["sign","links"]:List Str).Nodup by decide) rfl (Or.inl rfl))
      (fun s₃ H₃ fp=>gp (fM (hG (X:=cC _ _ _ _ _ _ _) hu (pv 0) (pv 1)))) (fun s₃ H₃ fp=>pv 0)) ac)))))
   (ai (aI (aw D2 hr (by rfl) (aj (pv 1) (aj (aw D3 hr (by rfl) (aj (pv 0) ac)) ac))))))),?_⟩
  case c1=>decide
  case c2=>decide
  case c3=>
   intro x hx;rcases List.mem_cons.mp hx with rfl|hx
   ·exact⟨rfl,rfl,_,rfl,rfl⟩
   ·cases hx
  case c4=>
   intro y hy;rcases List.mem_cons.mp hy with rfl|hy
   ·exact aac ..
   ·cases hy
  case c5=>
   intro j i h;rcases j with _|_|j
   ·cases h
   ·cases h;exact⟨"links",aac ..,rfl,rfl⟩
   ·cases h
  generalize hRR:p0::R0=R at hR hsm k;intro d hd;have hl14:=dM R;have hR14:=hsm.len;refine⟨_,rfl,a,R,rfl,hR.mono (ab.upd hd),hsm,fun q H1 s1 n1 hS=>?_⟩;have hS:H1 q=some (.lst ((ad R).map V.str)):=hS;have s01:ab H H1:=(ab.upd hd).trans s1;have hqd:q≠d:=fun z=>by rw[z,aa] at n1;cases n1
  refine⟨q,rfl,⟨_,SqL.of hS⟩,aM (K:=K) (a:=q) (xs:=(ad R).map V.str)
   (fun i σ H2=>∃ka o,σ=[some (.ref a),some (.ref d),o,none,none]/\ab H H2/\H2 q=some (.lst ((ad R).map V.str))/\Ka H d ka/\ka.map (·.1)=(ad R).take i/\bC H2 d ka (fun _=>[]))
   ⟨[],none,rfl,s01,hS,⟨List.nodup_nil,List.nodup_nil,fun e he=>(by cases he),fun e he=>(by cases he),hd⟩,rfl,⟨s1 _ _ aa,fun e he=>(by cases he)⟩⟩ ?_ ?_ ?_⟩
  ·rintro i σ H2 _ ⟨_,_,_,_,h,_⟩;exact SqL.of h
  ·rintro i x σ H2 hx ⟨ka,o,rfl,s2,hq2,gk,hk,tv⟩;obtain⟨y,hy,rfl⟩:=aZ hx;have hny:=nU hk (cI R) hy;refine⟨by decide,fun p hp=>?_⟩;have hpd:p≠d:=fun z=>by rw[z,tv.dk] at hp;cases hp
   have hpq:p≠q:=fun z=>by rw[z,hq2] at hp;cases hp
   have hp0:H p=none:=s2.free hp;have hkl:ka.length<=14:=by
    have:=congrArg List.length hk;rw[aaa,aal] at this;omega
   refine⟨_,rfl,_,rfl,d,_,rfl,dD.k (k:=Sum.inr y) (kvs:=kvsOf ka) (by rw[am (Ne.symm hpd)];exact tv.dk) (by unfold kvsOf;rw[aaa];exact av (by omega)),?_⟩;refine⟨ka++[(y,p)],_,rfl,(s2.trans (ab.upd hp)).bz hd,?_,gk.new (H:=H2) hny hp0 hpd (ia tv hp),?_,tv.new gk hny hp rfl⟩
   ·rw[am hqd,am (Ne.symm hpq)];exact hq2
   ·rw[aam,hk,aap,hy];rfl
  ·rintro σ H2 ⟨ka,o,rfl,s2,hq2,gk,hk,tv⟩;rw[aaa,aas] at hk;have hkm:∀x,x∈ka.map (·.1)↔x∈R.map (·.1):=fun x=>by rw[hk,aF]
   obtain⟨vs,hv,hp⟩:=id hR;have hlen:vs.length=R.length:=Paired.length hp;refine⟨_,rfl,a,rfl,⟨_,s2.seq (SqL.of hv)⟩,aM (K:=K) (a:=a) (xs:=vs)
    (fun i σ H3=>∃o1 o2 o3,σ=[some (.ref a),some (.ref d),o1,o2,o3]/\ab H H3/\bC H3 d ka (fun x=>(R.take i).flatMap fun p=>if p.1=x then p.2.filter (fun s=>decide (s∈R.map (·.1))) else []))
    ⟨_,_,_,rfl,s2,tv⟩ ?_ ?_ ?_⟩
   ·rintro i σ H3 _ ⟨_,_,_,_,s3,_⟩;exact s3.seq (SqL.of hv)
   ·rintro i x σ H3 hx ⟨o1,o2,o3,rfl,s3,tv3⟩;obtain⟨p,t,c,hpi,rfl,ht,hc⟩:=bO hp hx;have hpm:(p.1,p.2)∈R:=aah hpi;have hpw:=hsm.wid p hpm;have hil:i<R.length:=(aab.mp hpi).1;have hpk:p.1∈ka.map (·.1):=(hkm _).mpr (aao.mpr ⟨_,hpm,rfl⟩);obtain⟨al,hal,hg,hll⟩:=tv3.get gk hpk;refine⟨t,_,rfl,SqT.of (s3 _ _ ht),rfl,_,_,rfl,_,_,rfl,rfl,?_⟩;have hc3:H3 c=some (.lst (p.2.map V.str)):=s3 _ _ hc;refine⟨_,rfl,_,rfl,d,_,rfl,hg,.inl ⟨rfl,_,SqL.of hll⟩,_,rfl,c,rfl,⟨_,SqL.of hc3⟩,fun D hD=>fg (K:=K) (xs:=p.2.map V.str)
     (fun i τ H4=>(∃o,τ=[o,some (.ref d)])/\H4=upd H3 D (.lst (((p.2.take i).filter (fun s=>decide (s∈R.map (·.1)))).map V.str))) ⟨⟨_,rfl⟩,rfl⟩ ?_ ?_ ?_⟩
    ·rintro i τ H4 ⟨_,rfl⟩;exact(ab.upd hD).seq (SqL.of hc3)
    ·rintro j x τ H4 hx ⟨⟨o,rfl⟩,rfl⟩;obtain⟨y,hy,rfl⟩:=aZ hx;have sD:=ab.upd (o:=HO.lst (((p.2.take j).filter (fun s=>decide (s∈R.map (·.1)))).map V.str)) hD;obtain⟨o',g',ho'⟩:=(tv3.keep sD).has gk y;refine⟨_,rfl,_,rfl,d,o',rfl,g',_,rfl,?_⟩;rw[ho'];have hjl:j<p.2.length:=(aab.mp hy).1;have hle:((p.2.take j).filter (fun s=>decide (s∈R.map (·.1)))).length<=p.2.length:=Nat.le_trans (List.length_filter_le _ _) (by rw[aal];omega)
     by_cases hyk:y∈R.map (·.1)
     ·rw[aan ((hkm y).mpr hyk)];refine a9 ⟨_,rfl,_,aa,by rw[aaa];exact av (by omega),⟨_,rfl⟩,?_⟩;rw[cA,aap,hy,List.filter_append,aam];have:(some y).toList.filter (fun s=>decide (s∈R.map (·.1)))=[y]:=by
       show List.filter (fun s=>decide (s∈R.map (·.1))) [y]=[y];rw[List.filter_cons,if_pos (aan hyk)];rfl
      rw[this];rfl
     ·rw[aai fun z=>hyk ((hkm y).mp z)];refine aJ ⟨⟨_,rfl⟩,?_⟩;rw[aap,hy,List.filter_append];have:(some y).toList.filter (fun s=>decide (s∈R.map (·.1)))=[]:=by
       show List.filter (fun s=>decide (s∈R.map (·.1))) [y]=[];rw[List.filter_cons,if_neg (by rw[aai hyk];decide)];rfl
      rw[this,List.append_nil]
    ·rintro τ H4 ⟨_,rfl⟩;rw[aaa,aas];have sD:=ab.upd (o:=HO.lst ((p.2.filter (fun s=>decide (s∈R.map (·.1)))).map V.str)) hD;have hll4:=sD _ _ hll;have hfl:=List.length_filter_le (fun s=>decide (s∈R.map (·.1))) p.2;refine⟨al,D,_,_,rfl,rfl,hll4,aa,?_,⟨_,_,_,rfl,(s3.trans sD).bz (gk.fr _ hal),?_⟩⟩
     ·rw[aaa,aaa];have:=gg (R:=R.take i) (x:=p.1) (g:=fun r=>r.filter (fun s=>decide (s∈R.map (·.1)))) (fun r=>List.length_filter_le _ _) fun q hq=>hsm.wid q (List.mem_of_mem_take hq)
      rw[aal] at this;exact Nat.le_of_lt (av (by omega))
     ·have:=(tv3.keep sD).app gk hal (p.2.filter (fun s=>decide (s∈R.map (·.1))));rw[←aam];refine this.congr fun y hy=>?_
      rw[aap,hpi,List.flatMap_append]
      by_cases q:y=p.1
      ·subst q;rw[if_pos rfl];show _=_++((if p.1=p.1 then p.2.filter (fun s=>decide (s∈R.map (·.1))) else [])++[]);rw[if_pos rfl,List.append_nil]
      ·rw[if_neg q];show _=_++((if p.1=y then p.2.filter (fun s=>decide (s∈R.map (·.1))) else [])++[]);rw[if_neg fun z=>q z.symm,List.append_nil,List.append_nil]
   ·rintro σ H3 ⟨o1,o2,o3,rfl,s3,tv3⟩;rw[hlen,aas] at tv3;have tv3:bC H3 d ka (rl R):=tv3;have hg:∀x,getL (tabOf ka (rl R)) x=rl R x:=fun x=>by
     rw[ev]
     by_cases q:x∈ka.map (·.1)
     ·rw[if_pos q]
     ·rw[if_neg q]
      symm
      apply List.eq_nil_iff_forall_not_mem.mpr;intro y hy;obtain⟨r,hm,_⟩:=kF.mp hy;exact q ((hkm x).mpr (aao.mpr ⟨_,hm,rfl⟩))
    subst hRR;refine⟨_,rfl,_,rfl,a,p0,R0,rfl,hR.mono s3,?_⟩;refine⟨d,p0.1,tabOf ka (rl (p0::R0)),rfl,tv3.mH,⟨?_,?_,?_,?_⟩,?_,?_⟩
    ·rw[bw];exact gk.ndk
    ·intro e he y hy;rw[bw,hkm];unfold tabOf at he;obtain⟨z,hz,rfl⟩:=aao.mp he;obtain⟨r,_,_,h⟩:=kF.mp hy;exact h
    ·have:=congrArg List.length (bw ka (rl (p0::R0)));have h2:=congrArg List.length hk;rw[aaa,aaa] at this;rw[aaa] at h2;omega
    ·have:=je (ka:=ka) (v:=rl (p0::R0)) (b:=280) fun e he=>by
      have:=gg (R:=p0::R0) (x:=e.1) (g:=fun r=>r.filter (fun s=>decide (s∈(p0::R0).map (·.1)))) (fun r=>List.length_filter_le _ _) hsm.wid;unfold rl;omega
     have h2:=congrArg List.length hk;rw[aaa] at h2;have:280*ka.length<=280*14:=Nat.mul_le_mul_left _ (by omega);omega
    ·rw[bw,hkm];exact aac ..
    ·intro q5 ms H5 s5 n5 nd5 hm5 hS5;refine k q5 ms H5 (s3.trans s5) (s3.free n5) nd5 (fun z=>?_) hS5;rw[hm5 z];exact⟨fun h=>h.congr fun x y hy=>by rw[hg] at hy;exact hy,fun h=>h.congr fun x y hy=>by rw[hg];exact hy⟩
end
end Nw
namespace Nw
open PySem L2
open SL (aq srt)
def eQ(R:List Row)(z:Str):Prop:=(∃p∈R,z∈p.2)/\¬z∈R.map (·.1)
def b7:List Row->Str
 |p::_=>p.1
 |[]=>Str.empty
structure Good(R:List Row):Prop where
 small:Small R
 made:∀x∈R.map (·.1),Gram.Made R (eQ R) x
 reach:∀x∈R.map (·.1),Gram.Reach (rl R) (b7 R) x
abbrev nY:Stmt:=top 11
theorem ic:aD ["rows","ended","sort","used"] ["rows"] (au nY):=⟨rfl,rfl,rfl,by decide +kernel,rfl,by decide +kernel,by decide +kernel⟩
def lD:Sp:=fun vs H Q _=>∃(a:Addr) (R:List Row),vs=[.ref a]/\a7 H a R/\Good R/\∀H',ab H H'->Q .non H'
abbrev nZ:Stmt:=top 13
theorem wC:aD ["rows"] ["rows"] (au nZ):=⟨rfl,rfl,rfl,by decide +kernel,rfl,by decide +kernel,by decide +kernel⟩
def ie:Sp:=fun vs H Q _=>∃(a:Addr) (R:List Row),vs=[.ref a]/\a7 H a R/\Good R/\∀q ms H',ab H H'->H q=none->ms.Nodup->(∀z,z∈ms↔Gram.Made R (fun _=>False) z)->ak H' q (srt ms)->Q (.ref q) H'
abbrev qr:Stmt:=top 16
theorem oe:aD ["signs","empties","leading","sign"] ["signs","empties"] (au qr):=⟨rfl,rfl,rfl,by decide +kernel,rfl,by decide +kernel,by decide +kernel⟩
def kG:Sp:=fun vs H Q _=>∃(a b:Addr) (r es:List Str),vs=[.ref a,.ref b]/\ak H a r/\ak H b es/\r.length<=900/\∀q H',ab H H'->H q=none->ak H' q (Gram.lead es r)->Q (.ref q) H'
theorem jf:∀{es r:List Str} {i:Nat} {x:Str},(∀s∈r.take i,s∈es)->r[i]? =some x->¬x∈es->Gram.lead es r=r.take (i+1)
 |es,[],i,x,_,h,_=>by simp at h
 |es,s::r,0,x,_,h,hx=>by
  simp at h;subst h;unfold Gram.lead;rw[if_neg hx];rfl
 |es,s::r,i+1,x,ha,h,hx=>by
  have hs:s∈es:=ha s (by simp);unfold Gram.lead;rw[if_pos hs,jf (i:=i) (fun y hy=>ha y (by rw[List.take_succ_cons];exact aad _ hy)) (by simpa using h) hx];rfl
theorem kc:∀{es r:List Str},(∀s∈r,s∈es)->Gram.lead es r=r
 |es,[],_=>rfl
 |es,s::r,h=>by
  unfold Gram.lead;rw[if_pos (h s (aac ..)),kc fun y hy=>h y (aad _ hy)]
section
variable {P:Program}{w:World}{K:PySem.W.Frag}{mg:Str->Option Value}{base:Heap}
theorem wD{f:Addr}{fd:FuncData}(F:Fun K "leading_signs" "leading_signs" qr f fd):a0 P w K mg base CX0 1 f fd ["signs","empties"] kG:=by
 refine F.ok oe (fun vs H Q E h=>?_) (fun cdv A outer s H vs Q E hr h=>?_)
 ·obtain⟨a,b,r,es,rfl,_⟩:=h;rfl
 ·obtain⟨a,b,r,es,rfl,hA,hB,hl,k⟩:=h;refine⟨_,af (ao (i:=2) oe.nd rfl (Or.inl rfl) (aW ac))
   (af (aO PassesOwn.never rfl (aB (pv 0)) (ap (i:=3) oe.nd rfl (Or.inl rfl))
    (af (bp (bY PySem.F.plainAttrs_list PySem.F.slot_list_append PySem.F.type_list_append a8 (pv 2) (aj (pv 3) ac)))
    (ai (bi (aK bS (pv 3) (pv 1) (by with_unfolding_all rfl)) (ai tD) aY))))
   (ai (aI (pv 2)))),?_⟩
  refine⟨by decide,fun q hq=>?_⟩;refine⟨_,rfl,a,rfl,⟨_,SqL.of (ab.upd hq _ _ hA)⟩,aM (K:=K) (a:=a) (xs:=r.map V.str)
   (fun i σ H1=>(∃o,σ=[some (.ref a),some (.ref b),some (.ref q),o])/\H1=upd H q (.lst ((r.take i).map V.str))/\∀s∈r.take i,s∈es) ⟨⟨_,rfl⟩,rfl,fun s hs=>(by cases hs)⟩ ?_ ?_ ?_⟩
  ·rintro i σ H1 _ ⟨_,rfl,_⟩;exact SqL.of (ab.upd hq _ _ hA)
  ·rintro i x σ H1 hx ⟨⟨o,rfl⟩,rfl,hall⟩;obtain⟨y,hy,rfl⟩:=aZ hx;have hil:i<r.length:=(aab.mp hy).1;refine⟨_,rfl,.inl ⟨rfl,_,SqL.of aa⟩,_,rfl,q,_,_,rfl,rfl,aa,by rw[aaa,aal];exact av (by omega),?_⟩;rw[cA];have et:(r.take i).map V.str++[V.str y]=(r.take (i+1)).map V.str:=by rw[aap,hy,aam];rfl
   rw[et];refine⟨_,rfl,_,rfl,b,_,rfl,.inl (SqL.of (ab.upd hq _ _ hB)),rfl,bN es,_,rfl,?_⟩;show if (!inV (.str y) (es.map V.str))=true then _ else _
   rw[bX]
   by_cases hin:y∈es
   ·rw[aan hin];refine aJ ⟨⟨_,rfl⟩,rfl,fun s hs=>?_⟩;rw[aap,hy] at hs;rcases aak.mp hs with z|z
    ·exact hall s z
    ·have:s=y:=by simpa using z
     rw[this];exact hin
   ·rw[aai hin];refine a9 ?_;refine⟨_,rfl,k q _ (ab.upd hq) hq ?_⟩;rw[jf hall hy hin];exact aa
  ·rintro σ H1 ⟨⟨o,rfl⟩,rfl,hall⟩;rw[aaa,aas] at hall;refine⟨_,rfl,k q _ (ab.upd hq) hq ?_⟩;rw[kc hall,aaa,aas];exact aa
theorem uc{f:Addr}{fd:FuncData}(F:Fun K "check_rows" "check_rows" nY f fd)(D1:Def P w K mg base "sorts_of" 1 ["rows"] bZ)(D2:Def P w K mg base "words_of" 2 ["rows"] jc)
  (D3:Def P w K mg base "sorts_made_of" 1 ["rows","words"] kE)(D4:Def P w K mg base "sorts_in_trees_of_lines" 2 ["rows"] lC):a0 P w K mg base CX0 3 f fd ["rows"] lD:=by
 refine F.ok ic (fun vs H Q E h=>?_) (fun cdv A outer s H vs Q E hr h=>?_)
 ·obtain⟨a,R,rfl,_⟩:=h;rfl
 ·obtain⟨a,R,rfl,hR,hg,k⟩:=h;have hr1:bu 1 _:=hr.mono (by decide);refine⟨_,af (ao (i:=1) ic.nd rfl (Or.inl rfl) (aw D3 hr1 (by rfl) (aj (pv 0) (aj (aw D2 hr (by rfl) (aj (pv 0) ac)) ac))))
   (af (aO PassesOwn.never rfl (aB (aw D1 hr1 (by rfl) (aj (pv 0) ac))) (ap (i:=2) ic.nd rfl (Or.inl rfl))
    (ai (bi (aK bS (pv 2) (pv 1) (by with_unfolding_all rfl)) cn aY)))
   (af (ao (i:=3) ic.nd rfl (Or.inl rfl) (aw D4 hr (by rfl) (aj (pv 0) ac)))
   (ai (aO PassesOwn.never rfl (aB (aw D1 hr1 (by rfl) (aj (pv 0) ac))) (ap (i:=2) ic.nd rfl (Or.inl rfl))
    (ai (bi (aK bS (pv 2) (pv 3) (by with_unfolding_all rfl)) cn aY)))))),?_⟩
  refine⟨_,rfl,_,rfl,a,R,rfl,hR,hg.small,fun q1 ws H1 s1 n1 hw hS1=>?_⟩;refine⟨a,q1,R,ws,rfl,hR.mono s1,hg.small,hS1,fun q2 ms H2 s2 n2 nd2 hm2 hS2=>?_⟩;have s12:=s1.trans s2;have hme:∀x∈R.map (·.1),x∈srt ms:=fun x hx=>by
   rw[SL.bM,hm2 x];exact(hg.made x hx).mono fun z hz=>(hw z).mpr hz
  refine⟨_,rfl,a,R,rfl,hR.mono s12,hg.small,fun q3 H3 s3 n3 hS3=>?_⟩;have s13:=s12.trans s3;have hS3:H3 q3=some (.lst ((ad R).map V.str)):=hS3;refine⟨q3,rfl,⟨_,SqL.of hS3⟩,aM (K:=K) (a:=q3) (xs:=(ad R).map V.str) (fun i σ H'=>(∃o,σ=[some (.ref a),some (.ref q2),o,none])/\H'=H3) ⟨⟨_,rfl⟩,rfl⟩ ?_ ?_ ?_⟩
  ·rintro i σ H' _ ⟨_,rfl⟩;exact SqL.of hS3
  ·rintro i x σ H' hx ⟨⟨o,rfl⟩,rfl⟩;obtain⟨y,hy,rfl⟩:=aZ hx;refine⟨_,rfl,_,rfl,q2,_,rfl,.inl (SqL.of (s3 _ _ hS2)),rfl,bN _,_,rfl,?_⟩;show if (!inV (.str y) ((srt ms).map V.str))=true then _ else _
   rw[bX,aan (hme y (aF.mp (aah hy)))];exact aJ ⟨⟨_,rfl⟩,rfl⟩
  ·rintro σ H' ⟨⟨o,rfl⟩,rfl⟩;have hRne:∃p R',R=p::R':=by
    cases R with
    |nil=>exact absurd rfl hg.small.ne
    |cons p R'=>exact⟨p,R',rfl⟩
   obtain⟨p,R',rfl⟩:=hRne;refine⟨_,rfl,a,p,R',rfl,hR.mono s13,hg.small,fun q4 ms' H4 s4 n4 nd4 hm4 hS4=>?_⟩;have s14:=s13.trans s4;have hru:∀x∈(p::R').map (·.1),x∈srt ms':=fun x hx=>by
    rw[SL.bM,hm4 x];exact hg.reach x hx
   refine⟨_,rfl,a,p::R',rfl,hR.mono s14,hg.small,fun q5 H5 s5 n5 hS5=>?_⟩;have s15:=s14.trans s5;have hS5:H5 q5=some (.lst ((ad (p::R')).map V.str)):=hS5;refine⟨q5,rfl,⟨_,SqL.of hS5⟩,aM (K:=K) (a:=q5) (xs:=(ad (p::R')).map V.str) (fun i σ H'=>(∃o,σ=[some (.ref a),some (.ref q2),o,some (.ref q4)])/\H'=H5) ⟨⟨_,rfl⟩,rfl⟩ ?_ ?_ ?_⟩
   ·rintro i σ H' _ ⟨_,rfl⟩;exact SqL.of hS5
   ·rintro i x σ H' hx ⟨⟨o,rfl⟩,rfl⟩;obtain⟨y,hy,rfl⟩:=aZ hx;refine⟨_,rfl,_,rfl,q4,_,rfl,.inl (SqL.of (s5 _ _ hS4)),rfl,bN _,_,rfl,?_⟩;show if (!inV (.str y) ((srt ms').map V.str))=true then _ else _
    rw[bX,aan (hru y (aF.mp (aah hy)))];exact aJ ⟨⟨_,rfl⟩,rfl⟩
   ·rintro σ H' ⟨⟨o,rfl⟩,rfl⟩;exact k _ s15
theorem ud{f:Addr}{fd:FuncData}(F:Fun K "empty_sorts" "empty_sorts" nZ f fd)(D1:Def P w K mg base "check_rows" 3 ["rows"] lD)(D3:Def P w K mg base "sorts_made_of" 1 ["rows","words"] kE):a0 P w K mg base CX0 4 f fd ["rows"] ie:=by
 refine F.ok wC (fun vs H Q E h=>?_) (fun cdv A outer s H vs Q E hr h=>?_)
 ·obtain⟨a,R,rfl,_⟩:=h;rfl
 ·obtain⟨a,R,rfl,hR,hg,k⟩:=h;have hr1:bu 1 _:=hr.mono (by decide);refine⟨_,af (bp (aw D1 hr (by rfl) (aj (pv 0) ac)))
   (ai (aI (aw D3 hr1 (by rfl) (aj (pv 0) (aj (aW ac) ac))))),?_⟩
  refine⟨_,rfl,a,R,rfl,hR,hg,fun H1 s1=>?_⟩;refine⟨_,rfl,by decide,fun q1 hq1=>?_⟩;have s2:=s1.trans (ab.upd (o:=HO.lst []) hq1);refine⟨a,q1,R,[],rfl,hR.mono s2,hg.small,aa,fun q2 ms H2 s3 n2 nd hm hS=>?_⟩;refine k q2 ms H2 (s2.trans s3) (s2.free n2) nd (fun z=>?_) hS;rw[hm z];exact⟨fun h=>h.mono fun _ q=>(by cases q),fun h=>h.mono fun _ q=>q.elim⟩
end
end Nw
namespace Nw
open PySem L2
open SL (aq srt)
def Canon(P:Str->Prop)(L:List Str):Prop:=∃D,L=srt D/\D.Nodup/\∀z,z∈D↔P z
theorem Canon.eq{P P':Str->Prop}{L L':List Str}(h:Canon P L)(h':Canon P' L')(e:∀z,P z↔P' z):L=L':=by
 obtain⟨D,rfl,nd,hm⟩:=h;obtain⟨D',rfl,nd',hm'⟩:=h';exact SL.wo nd nd' fun z=>(hm z).trans ((e z).trans (hm' z).symm)
def bg(H:Hp)(a:Addr)(f:Tab):Prop:=∃kvs,H a=some (.dK kvs)/\Paired (cV H) kvs f
theorem bg.mono{H H':Hp}(e:ab H H'){a:Addr}{f:Tab}(h:bg H a f):bg H' a f:=by
 obtain⟨kvs,h1,h2⟩:=h;exact⟨kvs,e _ _ h1,Paired.bJ h2 fun _ _ ⟨q1,l,q2,q3⟩=>⟨q1,l,q2,e _ _ q3⟩⟩
abbrev qt:Stmt:=top 19
theorem jg:aD ["own","links","words","sort","found","other"] ["own","links"] (au qt):=⟨rfl,rfl,rfl,by decide +kernel,rfl,by decide +kernel,by decide +kernel⟩
def kH:Sp:=fun vs H Q _=>∃(a b:Addr) (f1 f2:Tab),vs=[.ref a,.ref b]/\a≠b/\bg H a f1/\bg H b f2/\Links f2/\f1.map (·.1)=f2.map (·.1)/\(f1.map fun e=>e.2.length).sum<=4000/\(∃U:List Str,U.length<=40/\∀e∈f1,∀z∈e.2,z∈U)/\
 ∀d res H',(∀x o,H x=some o->x≠a->H' x=some o)->H d=none->bg H' d res->res.map (·.1)=f1.map (·.1)->(∀e∈res,Canon (fun z=>∃y,Gram.Reach (getL f2) e.1 y/\z∈getL f1 y) e.2)->Q (.ref d) H'
theorem mf{f:Tab}:∀{ks:List Str},ks.Nodup->(∀k∈ks,k∈f.map (·.1))->(f.map (·.1)).Nodup->(ks.flatMap (getL f)).length<=(f.map fun e=>e.2.length).sum:=by
 intro ks nd hk ndf;have h:∀{ks ms:List Str},(∀k∈ks,k∈f.map (·.1))->(ms++ks).Nodup->(ks.flatMap (getL f)).length+wsum f (ms++ks)=wsum f ms:=by
  intro ks
  induction ks with
  |nil=>intro ms _ _;simp
  |cons x r ih=>
   intro ms hk nd;have hx:=hk x (aac ..);have nd':((ms++[x])++r).Nodup:=by rw[List.append_assoc];exact nd
   have h1:=ih (ms:=ms++[x]) (fun y hy=>hk y (aad _ hy)) nd';have hxm:¬x∈ms:=by
    rw[List.nodup_append] at nd;intro z;exact nd.2.2 x z x (aac ..) rfl
   have h2:=lA ndf hx hxm;rw[List.append_assoc] at h1;rw[List.flatMap_cons,aag];show _+wsum f (ms++([x]++r))=_;omega
 have h1:=h (ks:=ks) (ms:=[]) hk (by simpa using nd);have h2:=lz f [];omega
section
variable {P:Program}{w:World}{K:PySem.W.Frag}{mg:Str->Option Value}{base:Heap}
theorem wF{f:Addr}{fd:FuncData}(F:Fun K "gathered" "gathered" qt f fd)(T:Txt mg)(D2:Def P w K mg base "sorts_reached" 1 ["links","sort"] jG):a0 P w K mg base CX0 2 f fd ["own","links"] kH:=by
 refine F.ok jg (fun vs H Q E h=>?_) (fun cdv A outer s H vs Q E hr h=>?_)
 ·obtain⟨a,b,f1,f2,rfl,_⟩:=h;rfl
 ·obtain⟨a,b,f1,f2,rfl,hab,hO,hL,hlk,hkeys,hsz,⟨U,hU,hUm⟩,k⟩:=h;have hu:=cv hr;refine⟨_,af (ao (i:=2) jg.nd rfl (Or.inl rfl) dY)
   (af (aO PassesOwn.never rfl (wx (pv 0)) (ap (i:=3) jg.nd rfl (Or.inl rfl))
    (af (ao (i:=4) jg.nd rfl (Or.inl rfl) (aW ac))
    (af (aO PassesOwn.never rfl (aB (aw D2 hr (by rfl) (aj (pv 1) (aj (pv 3) ac)))) (ap (i:=5) jg.nd rfl (Or.inl rfl))
     (ai (bp (bY PySem.F.plainAttrs_list PySem.F.slot_list_extend PySem.F.type_list_extend dW (pv 4) (aj (bI hu (pv 0) (pv 5) (fun _ _=>rfl)) ac)))))
    (ai (da hu (pv 2) (pv 3) (aC (cq rfl) (by rfl) T.srt PyProof.Rows.boot_sorted (aj (cX (dZ rfl) (by rfl) T.set (by decide +kernel) (aj (pv 4) ac)) ac)) rfl)))))
   (ai (aI (pv 2)))),?_⟩
  intro d hd;obtain⟨kvs,ha,hp⟩:=hO;obtain⟨kvs2,hb,hp2⟩:=hL;have had:a≠d:=fun z=>by rw[z,hd] at ha;cases ha
  have hl14:=hlk.len;have hkl:kvs.length=f1.length:=Paired.length hp;have hfl:f1.length=f2.length:=by have:=congrArg List.length hkeys;rw[aaa,aaa] at this;exact this
  refine⟨_,rfl,a,kvs,rfl,by rw[am had];exact ha,fun o=>?_⟩;generalize hH1:upd (upd H d (.dK [])) a (.frz o (.dK kvs))=H1;have x1:∀x ob,H x=some ob->x≠a->H1 x=some ob:=fun x ob e hx=>by
   rw[←hH1,am hx,am (aR e hd)];exact e
  have ha1:H1 a=some (.frz o (.dK kvs)):=by rw[←hH1,aa]
  have hd1:H1 d=some (.dK []):=by rw[←hH1,am (Ne.symm had),aa]
  have fr1:∀x,H1 x=none->H x=none:=fun x e=>by
   rw[←hH1] at e
   by_cases q:x=a
   ·rw[q,aa] at e;cases e
   ·rw[am q] at e;exact(ab.upd hd).free e
  have ent:∀{kv:Key×V} {e:Str×List Str},cV H kv e->cV H1 kv e:=fun{kv e} ⟨q1,l,q2,q3⟩=>⟨q1,l,q2,x1 _ _ q3 fun z=>by
   have q3:H l=some _:=q3;rw[z,ha] at q3;cases q3⟩
  have hO1:dS H1 a f1:=⟨kvs,.inr ⟨o,ha1⟩,Paired.bJ hp fun _ _ q=>ent q⟩;have hL1:dS H1 b f2:=⟨kvs2,.inl (x1 _ _ hb (Ne.symm hab)),Paired.bJ hp2 fun _ _ q=>ent q⟩;refine tX (o:=o) (d:=a) (kvs:=kvs) (fun i σ H2=>∃(ka:KA) (v:Str->List Str) (o1 o2 o3:Option V),σ=[some (.ref a),some (.ref b),some (.ref d),o1,o2,o3]/\(∀x ob,H1 x=some ob->x≠d->H2 x=some ob)/\
    Ka H d ka/\ka.map (·.1)=(f1.map (·.1)).take i/\bC H2 d ka v/\∀x∈ka.map (·.1),Canon (fun z=>∃y,Gram.Reach (getL f2) x y/\z∈getL f1 y) (v x))
   ⟨[],fun _=>[],none,none,none,rfl,fun _ _ e _=>e,⟨List.nodup_nil,List.nodup_nil,fun e he=>(by cases he),fun e he=>(by cases he),hd⟩,rfl,⟨hd1,fun e he=>(by cases he)⟩,fun x hx=>(by cases hx)⟩ ?_ ?_ ?_
  ·rintro i σ H2 ⟨ka,v,o1,o2,o3,rfl,x2,_⟩;exact x2 _ _ ha1 had
  ·rintro i kk vv σ H2 hi ⟨ka,v,o1,o2,o3,rfl,x2,gk,hk,tv,hc⟩;obtain⟨e,hei,he1,he2⟩:=aT hp i _ hi;have he1:kk=Sum.inr e.1:=he1;subst he1;have hkx:(f1.map (·.1))[i]? =some e.1:=by rw[aax,hei];rfl
   have ndk:(f1.map (·.1)).Nodup:=by rw[hkeys];exact hlk.nd
   have hnx:=nU hk ndk hkx;have hex:e.1∈f2.map (·.1):=by rw[←hkeys];exact aah hkx
   have hS2:∀{H3:Hp},ab H2 H3->dS H3 a f1/\dS H3 b f2:=fun{H3} s3=>by
    have fz:∀x ob,H1 x=some ob->x≠d->H3 x=some ob:=fun x ob q hx=>s3 _ _ (x2 x ob q hx)
    have ne_d:∀{l:Addr} {ss:List Str},ak H1 l ss->l≠d:=fun{l ss} q z=>by
     have q:H1 l=some _:=q;rw[z,hd1] at q;cases q
    have en:∀{kv:Key×V} {e:Str×List Str},cV H1 kv e->cV H3 kv e:=fun{kv e} ⟨q1,l,q2,q3⟩=>⟨q1,l,q2,fz _ _ q3 (ne_d q3)⟩
    refine⟨⟨kvs,.inr ⟨o,fz _ _ ha1 had⟩,Paired.bJ hp fun _ _ q=>en (ent q)⟩,⟨kvs2,.inl (fz _ _ (x1 _ _ hb (Ne.symm hab)) fun z=>?_),Paired.bJ hp2 fun _ _ q=>en (ent q)⟩⟩;rw[z,hd] at hb;cases hb
   refine⟨by decide,fun fl hfl0=>?_⟩;have hfd:fl≠d:=fun z=>by rw[z,tv.dk] at hfl0;cases hfl0
   have s2':=ab.upd (o:=HO.lst []) hfl0;refine⟨_,rfl,_,rfl,b,e.1,f2,rfl,(hS2 s2').2,hlk,hex,fun q3 ms H3 s3 n3 nd3 hm3 hS3=>?_⟩;have s23:ab H2 H3:=s2'.trans s3;have hS3:H3 q3=some (.lst ((srt ms).map V.str)):=hS3;have hf3:H3 fl=some (.lst []):=s3 _ _ aa;have hq3f:q3≠fl:=fun z=>by rw[z,hf3] at hS3;injection hS3 with q;injection q with q;rw[z,aa] at n3;cases n3
   have hmk:∀z∈srt ms,z∈f1.map (·.1):=fun z hz=>by
    rw[hkeys];have hr:=(hm3 z).mp (SL.bM.mp hz);refine Gram.gK (ks:=f2.map (·.1)) hex (fun x hx y hy=>?_) hr;obtain⟨ys,e1,e2⟩:=cj hx;unfold getL at hy;rw[e1] at hy;exact hlk.cl _ e2 y hy
   refine⟨q3,rfl,⟨_,SqL.of hS3⟩,aM (K:=K) (a:=q3) (xs:=(srt ms).map V.str)
    (fun j σ H4=>(∃o4,σ=[some (.ref a),some (.ref b),some (.ref d),some (.str e.1),some (.ref fl),o4])/\H4=upd H3 fl (.lst ((((srt ms).take j).flatMap (getL f1)).map V.str))) ⟨⟨_,rfl⟩,?_⟩ ?_ ?_ ?_⟩
   ·funext x
    unfold upd;split
    ·rename_i q;rw[q,hf3];rfl
    ·rfl
   ·rintro j σ H4 _ ⟨_,rfl⟩;exact SqL.of (by rw[am hq3f];exact hS3)
   ·rintro j x σ H4 hx ⟨⟨o4,rfl⟩,rfl⟩;obtain⟨y,hy,rfl⟩:=aZ hx;have hyk:=hmk y (aah hy);have s4:ab H2 (upd H3 fl (.lst ((((srt ms).take j).flatMap (getL f1)).map V.str))):=s23.bz hfl0;obtain⟨l,hg,hl⟩:=(hS2 s4).1.get hyk;refine⟨_,rfl,.inl ⟨rfl,_,SqL.of aa⟩,_,rfl,_,rfl,a,_,rfl,hg,fl,l,_,_,rfl,rfl,aa,hl,?_,⟨_,rfl⟩,?_⟩
    ·have h1:=mf (f:=f1) (ks:=(srt ms).take (j+1)) ((SL.fQ nd3).sublist (List.take_sublist _ _)) (fun z hz=>hmk z (List.mem_of_mem_take hz)) ndk;rw[aap,hy,List.flatMap_append,aag] at h1;have e2:((some y).toList.flatMap (getL f1)).length=(getL f1 y).length:=by simp
     rw[e2] at h1;rw[aaa,aaa];exact bE (by omega)
    ·rw[cA,aap,hy,List.flatMap_append,aam];simp
   ·rintro σ H4 ⟨⟨o4,rfl⟩,rfl⟩;rw[aaa,aas];generalize hfo:(srt ms).flatMap (getL f1)=fo;have hfo4:fo.length<=4000:=by
     have:=mf (f:=f1) (ks:=srt ms) (SL.fQ nd3) hmk ndk;rw[hfo] at this;omega
    have hfm:∀z,z∈fo↔∃y,Gram.Reach (getL f2) e.1 y/\z∈getL f1 y:=fun z=>by
     rw[←hfo,List.mem_flatMap];exact⟨fun⟨y,h1,h2⟩=>⟨y,(hm3 y).mp (SL.bM.mp h1),h2⟩,fun⟨y,h1,h2⟩=>⟨y,SL.bM.mpr ((hm3 y).mpr h1),h2⟩⟩
    have hfU:∀z∈aq fo,z∈U:=fun z hz=>by
     obtain⟨y,h1,h2⟩:=(hfm z).mp (SL.bt.mp hz);have hyk:=hmk y (SL.bM.mpr ((hm3 y).mpr h1));obtain⟨ys,e1,e2⟩:=cj hyk;unfold getL at h2;rw[e1] at h2;exact hUm _ e2 z h2
    have h40:(aq fo).length<=40:=Nat.le_trans (Gram.bT (SL.bF fo) hfU) hU;have s4:ab H2 (upd H3 fl (.lst (fo.map V.str))):=s23.bz hfl0;refine⟨_,rfl,fl,fo,rfl,SqL.of aa,by unfold scanBound;omega,fun q5 hq5=>?_⟩;refine⟨q5,aq fo,rfl,.inr (.inl aa),by omega,fun q6 hq6=>?_⟩;have s6:ab H2 (upd (upd (upd H3 fl (.lst (fo.map V.str))) q5 (dm w q5 (aq fo))) q6 (.lst ((srt (aq fo)).map V.str))):=(s4.trans (ab.upd hq5)).trans (ab.upd hq6);have n6:H2 q6=none:=(s4.trans (ab.upd hq5)).free hq6;have hq6d:q6≠d:=fun z=>by rw[z,tv.dk] at n6;cases n6
    have hq6a:¬q6∈ka.map (·.2):=ia tv n6;have hq6H:H q6=none:=fr1 _ (by
     cases q:H1 q6 with
     |none=>rfl
     |some ob=>rw[x2 _ _ q hq6d] at n6;cases n6)
    have hkal:ka.length<=14:=by
     have:=congrArg List.length hk;rw[aaa,aal,aaa] at this;omega
    have tv6:=tv.keep s6;refine⟨_,rfl,_,rfl,d,_,rfl,dD.k (k:=Sum.inr e.1) (kvs:=kvsOf ka) tv6.dk (by unfold kvsOf;rw[aaa];exact av (by omega)),?_⟩;refine⟨ka++[(e.1,q6)],fun y=>if y=e.1 then srt (aq fo) else v y,_,_,_,rfl,fun x ob q hx=>?_,gk.new (H:=H2) hnx hq6H hq6d hq6a,?_,⟨?_,fun z hz=>?_⟩,fun x hx=>?_⟩
    ·rw[am hx];exact s6 _ _ (x2 x ob q hx)
    ·rw[aam,hk,aap,hkx];rfl
    ·rw[aa]
     congr 2
     rw[fw]
     ·unfold kvsOf;rw[aam];rfl
     ·rcases h9 gk.ndk e.1 with ⟨_,h2⟩|⟨a',h1,_⟩
      ·exact h2
      ·exact absurd (aao.mpr ⟨_,h1,rfl⟩) hnx
    ·rcases aak.mp hz with q|q
     ·have hne:z.1≠e.1:=fun y=>hnx (y▸aao.mpr ⟨z,q,rfl⟩)
      rw[am (gk.ne z q)];exact(tv6.at_ z q).trans (by rw[if_neg hne])
     ·rw[aaj.mp q];dsimp only;rw[am hq6d,if_pos rfl];exact aa
    ·rw[aam] at hx;rcases aak.mp hx with q|q
     ·have hne:x≠e.1:=fun y=>hnx (y▸q)
      show Canon _ (if x=e.1 then _ else v x);rw[if_neg hne];exact hc x q
     ·have:x=e.1:=by simpa using q
      subst this;show Canon _ (if e.1=e.1 then _ else v e.1);rw[if_pos rfl];exact⟨aq fo,rfl,SL.bF fo,fun z=>by rw[SL.bt];exact hfm z⟩
  ·rintro σ H2 ⟨ka,v,o1,o2,o3,rfl,x2,gk,hk,tv,hc⟩;rw[hkl,←aaa (f:=(·.1)),aas] at hk;refine⟨_,rfl,k d (tabOf ka v) H2 (fun x ob e hx=>x2 _ _ (x1 x ob e hx) (aR e hd)) hd ?_ ?_ fun e he=>?_⟩
   ·obtain⟨kv,h1,h2⟩:=tv.mH;refine⟨kvsOf ka,tv.dk,?_⟩;rcases h1 with h1|⟨_,h1⟩
    ·rw[tv.dk] at h1;cases h1
     exact h2
    ·rw[tv.dk] at h1;cases h1
   ·rw[bw,hk]
   ·unfold tabOf at he;obtain⟨z,hz,rfl⟩:=aao.mp he;exact hc z.1 (aao.mpr ⟨z,hz,rfl⟩)
end
end Nw
namespace Nw
open PySem L2
open SL (aq srt)
def dF(R:List Row)(x z:Str):Prop:=∃es,(∀y,y∈es↔Gram.Made R (fun _=>False) y)/\Gram.Beg R es x z
theorem si{R:List Row}{es es':List Str}(h:∀x,x∈es↔x∈es'){x z:Str}(b:Gram.Beg R es x z):Gram.Beg R es' x z:=by
 induction b with
 |word hm h1 h2=>exact .word hm (by rw[←Gram.ge h];exact h1) h2
 |sort hm h1 h2 _ ih=>exact .sort hm (by rw[←Gram.ge h];exact h1) h2 ih
theorem mh{R:List Row}{es:List Str}(h:∀y,y∈es↔Gram.Made R (fun _=>False) y){x z:Str}:dF R x z↔Gram.Beg R es x z:=
 ⟨fun⟨es',h',b⟩=>si (fun y=>(h' y).trans (h y).symm) b,fun b=>⟨es,h,b⟩⟩
theorem bC.kJ{H:Hp}{d a:Addr}{o:HO}{ka:KA}{v:Str->List Str}(h:bC H d ka v)(h1:a≠d)(h2:¬a∈ka.map (·.2)):bC (upd H a o) d ka v:=
 ⟨by rw[am (Ne.symm h1)];exact h.dk,fun e he=>by
  have ne:e.2≠a:=fun z=>h2 (aao.mpr ⟨e,he,z⟩)
  rw[am ne];exact h.at_ e he⟩
abbrev uf:Stmt:=top 14
theorem iI:aD ["rows","empties","own","links","left","right","sign"] ["rows"] (au uf):=⟨rfl,rfl,rfl,by decide +kernel,rfl,by decide +kernel,by decide +kernel⟩
def mI:Sp:=fun vs H Q _=>∃(a:Addr) (R:List Row),vs=[.ref a]/\a7 H a R/\Good R/\∀d res H',ab H H'->H d=none->bg H' d res->res.map (·.1)=ad R->(∀e∈res,Canon (dF R e.1) e.2)->Q (.ref d) H'
def gat(g:List Str->List Str)(R:List Row)(x:Str):List Str:=R.flatMap fun p=>if p.1=x then g p.2 else []
theorem og(g:List Str->List Str){R:List Row}{i:Nat}{p:Row}(h:R[i]? =some p)(x:Str):gat g (R.take (i+1)) x=gat g (R.take i) x++(if p.1=x then g p.2 else []):=by
 unfold gat;rw[aap,h,List.flatMap_append];show _++((if p.1=x then g p.2 else [])++[])=_;rw[List.append_nil]
section
variable {P:Program}{w:World}{K:PySem.W.Frag}{mg:Str->Option Value}{base:Heap}
theorem xR{f:Addr}{fd:FuncData}(F:Fun K "words_to_begin" "words_to_begin" uf f fd)(D1:Def P w K mg base "empty_sorts" 4 ["rows"] ie)(D2:Def P w K mg base "lists_by_sort" 2 ["rows"] jH)
  (D3:Def P w K mg base "leading_signs" 1 ["signs","empties"] kG)(D4:Def P w K mg base "gathered" 2 ["own","links"] kH):a0 P w K mg base CX0 5 f fd ["rows"] mI:=by
 refine F.ok iI (fun vs H Q E h=>?_) (fun cdv A outer s H vs Q E hr h=>?_)
 ·obtain⟨a,R,rfl,_⟩:=h;rfl
 ·obtain⟨a,R,rfl,hR,hg,k⟩:=h;have hu:=cv hr;have hr2:bu 2 _:=hr.mono (by decide);have hr1:bu 1 _:=hr.mono (by decide);refine⟨_,af (ao (i:=1) iI.nd rfl (Or.inl rfl) (aw D1 hr (by rfl) (aj (pv 0) ac)))
   (af (ao (i:=2) iI.nd rfl (Or.inl rfl) (aw D2 hr2 (by rfl) (aj (pv 0) ac)))
   (af (ao (i:=3) iI.nd rfl (Or.inl rfl) (aw D2 hr2 (by rfl) (aj (pv 0) ac)))
   (af (aO PassesOwn.never rfl (aB (pv 0)) (cJ (n:=2) rfl (aH (ap (i:=4) iI.nd rfl (Or.inl rfl)) (aH (ap (i:=5) iI.nd rfl (Or.inl rfl)) cg)))
    (ai (aO PassesOwn.never rfl (aB (aw D3 hr1 (by rfl) (aj (pv 5) (aj (pv 1) ac)))) (ap (i:=6) iI.nd rfl (Or.inl rfl))
     (ai (bi (fM (hG hu (pv 6) (pv 3)))
      (ai (bp (bY PySem.F.plainAttrs_list PySem.F.slot_list_append PySem.F.type_list_append a8 (bI hu (pv 3) (pv 4) (fun _ _=>rfl)) (aj (pv 6) ac))))
      (ai (bp (bY PySem.F.plainAttrs_list PySem.F.slot_list_append PySem.F.type_list_append a8 (bI hu (pv 2) (pv 4) (fun _ _=>rfl)) (aj (pv 6) ac)))))))))
   (ai (aI (aw D4 hr2 (by rfl) (aj (pv 2) (aj (pv 3) ac)))))))),?_⟩
  obtain⟨vs,hv,hp⟩:=id hR;have hlen:vs.length=R.length:=Paired.length hp;have hR14:=hg.small.len;refine⟨_,rfl,a,R,rfl,hR,hg,fun qe ms H1 s1 n1 nd1 hm1 hS1=>?_⟩;generalize hes:srt ms=es at hS1;have hem:∀y,y∈es↔Gram.Made R (fun _=>False) y:=fun y=>by rw[←hes,SL.bM];exact hm1 y
  refine⟨_,rfl,a,R,rfl,hR.mono s1,hg.small,fun d1 ka1 H2 s2 g1 hk1 tv1=>?_⟩;have s12:=s1.trans s2;refine⟨_,rfl,a,R,rfl,hR.mono s12,hg.small,fun d2 ka2 H3 s3 g2 hk2 tv2=>?_⟩;have s13:=s12.trans s3;have tv1':=tv1.keep s3;have hkm1:∀x,x∈ka1.map (·.1)↔x∈R.map (·.1):=fun x=>by rw[hk1,aF]
  have hkm2:∀x,x∈ka2.map (·.1)↔x∈R.map (·.1):=fun x=>by rw[hk2,aF]
  have frH1:∀{x:Addr},H1 x=none->H x=none:=fun{x} e=>s1.free e
  have ap2:∀e∈ka2,e.2≠d1/\¬e.2∈ka1.map (·.2):=fun e he=>by
   have:=g2.fr e he;exact⟨fun z=>(by rw[z,tv1.dk] at this;cases this),ia tv1 this⟩
  have ap1:∀e∈ka1,e.2≠d2/\¬e.2∈ka2.map (·.2):=fun e he=>by
   refine⟨fun z=>?_,fun z=>?_⟩
   ·have:=g2.frd;rw[←z,tv1.at_ e he] at this;cases this
   ·obtain⟨e',he',q⟩:=aao.mp z;have:=g2.fr e' he';rw[q,tv1.at_ e he] at this;cases this
  have hd12:d1≠d2:=fun z=>by
   have:=g2.frd;rw[←z,tv1.dk] at this;cases this
  have gH1:∀e∈ka1,H e.2=none:=fun e he=>frH1 (g1.fr e he)
  have gH2:∀e∈ka2,H e.2=none:=fun e he=>s12.free (g2.fr e he)
  refine⟨_,rfl,a,rfl,⟨_,s13.seq (SqL.of hv)⟩,aM (K:=K) (a:=a) (xs:=vs)
   (fun i σ H4=>(∃o1 o2 o3,σ=[some (.ref a),some (.ref qe),some (.ref d1),some (.ref d2),o1,o2,o3])/\ab H H4/\ak H4 qe es/\
    bC H4 d1 ka1 (gat (fun r=>(Gram.lead es r).filter (fun s=>¬s∈R.map (·.1))) (R.take i))/\bC H4 d2 ka2 (gat (fun r=>(Gram.lead es r).filter (fun s=>s∈R.map (·.1))) (R.take i)))
   ⟨⟨_,_,_,rfl⟩,s13,s3 _ _ (s2 _ _ hS1),tv1',tv2⟩ ?_ ?_ ?_⟩
  ·rintro i σ H4 _ ⟨_,s4,_⟩;exact s4.seq (SqL.of hv)
  ·rintro i x σ H4 hx ⟨⟨o1,o2,o3,rfl⟩,s4,hE4,t1,t2⟩;obtain⟨p,t,c,hpi,rfl,ht,hc⟩:=bO hp hx;have hpm:(p.1,p.2)∈R:=aah hpi;have hpw:=hg.small.wid p hpm;have hil:i<R.length:=(aab.mp hpi).1;have hpl:p.1∈R.map (·.1):=aao.mpr ⟨_,hpm,rfl⟩;refine⟨t,_,rfl,SqT.of (s4 _ _ ht),rfl,_,_,rfl,_,_,rfl,rfl,?_⟩;refine⟨_,rfl,_,rfl,c,qe,p.2,es,rfl,s4 _ _ hc,hE4,by omega,fun ql H5 s5 n5 hl5=>?_⟩;generalize hld:Gram.lead es p.2=ld at hl5;have hldl:ld.length<=20:=by rw[←hld];exact Nat.le_trans (Gram.eP es p.2) hpw
   have s45:=s4.trans s5;have nqe:ql≠qe:=fun z=>by
    have q:H4 qe=some _:=hE4;rw[←z,n5] at q;cases q
   refine⟨ql,rfl,⟨_,SqL.of hl5⟩,aM (K:=K) (a:=ql) (xs:=ld.map V.str)
    (fun j σ H6=>(∃o3,σ=[some (.ref a),some (.ref qe),some (.ref d1),some (.ref d2),some (.str p.1),some (.ref c),o3])/\ab H H6/\ak H6 qe es/\ak H6 ql ld/\
     bC H6 d1 ka1 (fun x=>gat (fun r=>(Gram.lead es r).filter (fun s=>¬s∈R.map (·.1))) (R.take i) x++(if p.1=x then (ld.take j).filter (fun s=>¬s∈R.map (·.1)) else []))/\
     bC H6 d2 ka2 (fun x=>gat (fun r=>(Gram.lead es r).filter (fun s=>s∈R.map (·.1))) (R.take i) x++(if p.1=x then (ld.take j).filter (fun s=>s∈R.map (·.1)) else [])))
    ⟨⟨_,rfl⟩,s45,s5 _ _ hE4,hl5,(t1.keep s5).congr fun x _=>by simp,(t2.keep s5).congr fun x _=>by simp⟩ ?_ ?_ ?_⟩
   ·rintro j σ H6 _ ⟨_,_,_,h,_⟩;exact SqL.of h
   ·rintro j x σ H6 hx ⟨⟨o3,rfl⟩,s6,hE6,hl6,u1,u2⟩;obtain⟨y,hy,rfl⟩:=aZ hx;have hjl:j<ld.length:=(aab.mp hy).1;obtain⟨o',g',ho'⟩:=u2.has g2 y;refine⟨_,rfl,_,rfl,d2,o',rfl,g',_,rfl,?_⟩;rw[ho'];have fitl:∀(g:Str->Bool),(gat (fun r=>(Gram.lead es r).filter g) (R.take i) p.1++(if p.1=p.1 then (ld.take j).filter g else [])).length<=900:=fun g=>by
     have h1:=gg (R:=R.take i) (x:=p.1) (g:=fun r=>(Gram.lead es r).filter g) (fun r=>Nat.le_trans (List.length_filter_le _ _) (Gram.eP es r)) fun q hq=>hg.small.wid q (List.mem_of_mem_take hq)
     have h2:((ld.take j).filter g).length<=20:=Nat.le_trans (List.length_filter_le _ _) (by rw[aal];omega);rw[if_pos rfl,aag];have h3:(gat (fun r=>(Gram.lead es r).filter g) (R.take i) p.1).length<=20*(R.take i).length:=h1;rw[aal] at h3;omega
    have grow:∀(g:Str->Bool),g y=true->∀x,(if x=p.1 then (gat (fun r=>(Gram.lead es r).filter g) (R.take i) p.1++(if p.1=p.1 then (ld.take j).filter g else []))++[y] else (gat (fun r=>(Gram.lead es r).filter g) (R.take i) x++(if p.1=x then (ld.take j).filter g else [])))=
      gat (fun r=>(Gram.lead es r).filter g) (R.take i) x++(if p.1=x then (ld.take (j+1)).filter g else []):=fun g hgy x=>by
     by_cases q:x=p.1
     ·subst q;rw[if_pos rfl,if_pos rfl,if_pos rfl,aap,hy,List.filter_append,List.append_assoc]
      congr 2
      show [y]=List.filter g [y];rw[List.filter_cons,if_pos hgy];rfl
     ·rw[if_neg q,if_neg fun z=>q z.symm,if_neg fun z=>q z.symm]
    have eO:∀(g:Str->Bool),g y=false->∀x,gat (fun r=>(Gram.lead es r).filter g) (R.take i) x++(if p.1=x then (ld.take j).filter g else [])=gat (fun r=>(Gram.lead es r).filter g) (R.take i) x++(if p.1=x then (ld.take (j+1)).filter g else []):=fun g hgy x=>by
     rw[aap,hy,List.filter_append];have:List.filter g (some y).toList=[]:=by
      show List.filter g [y]=[];rw[List.filter_cons,if_neg (by rw[hgy];decide)];rfl
     rw[this,List.append_nil]
    by_cases hys:y∈R.map (·.1)
    ·rw[aan ((hkm2 y).mpr hys)];refine a9 ?_;obtain⟨al,hal,hgl,hll⟩:=u2.get g2 ((hkm2 p.1).mpr hpl);refine⟨_,rfl,_,rfl,d2,_,rfl,hgl,.inl ⟨rfl,_,SqL.of hll⟩,_,rfl,al,_,_,rfl,rfl,hll,by rw[aaa];exact av (Nat.le_trans (fitl _) (by decide)),?_⟩;have ae:∀(L:List Str),L.map V.str++[V.str y]=(L++[y]).map V.str:=fun L=>by rw[aam];rfl
     rw[ae];have nal:=ap2 _ hal;refine⟨⟨_,rfl⟩,s6.bz (gH2 _ hal),?_,?_,(u1.kJ nal.1 nal.2).congr fun x _=>eO _ (by simp[hys]) x,(u2.app g2 hal [y]).congr fun x _=>grow _ (by simp[hys]) x⟩
     ·have:qe≠al:=fun z=>by
       have q:=g2.fr _ hal;have q1:H2 qe=some _:=s2 _ _ hS1;rw[z] at q1;rw[q1] at q;cases q
      show upd H6 al _ qe=_;rw[am this];exact hE6
     ·have:ql≠al:=fun z=>by
       have q:H4 al=some _:=t2.at_ _ hal;rw[←z,n5] at q;cases q
      show upd H6 al _ ql=_;rw[am this];exact hl6
    ·rw[aai fun z=>hys ((hkm2 y).mp z)];refine aJ ?_;obtain⟨al,hal,hgl,hll⟩:=u1.get g1 ((hkm1 p.1).mpr hpl);refine⟨_,rfl,_,rfl,d1,_,rfl,hgl,.inl ⟨rfl,_,SqL.of hll⟩,_,rfl,al,_,_,rfl,rfl,hll,by rw[aaa];exact av (Nat.le_trans (fitl _) (by decide)),?_⟩;have ae:∀(L:List Str),L.map V.str++[V.str y]=(L++[y]).map V.str:=fun L=>by rw[aam];rfl
     rw[ae];have nal:=ap1 _ hal;refine⟨⟨_,rfl⟩,s6.bz (gH1 _ hal),?_,?_,(u1.app g1 hal [y]).congr fun x _=>grow _ (by simp[hys]) x,(u2.kJ nal.1 nal.2).congr fun x _=>eO _ (by simp[hys]) x⟩
     ·have:qe≠al:=fun z=>by
       have q:=g1.fr _ hal;have q1:H1 qe=some _:=hS1;rw[z] at q1;rw[q1] at q;cases q
      show upd H6 al _ qe=_;rw[am this];exact hE6
     ·have:ql≠al:=fun z=>by
       have q:H4 al=some _:=t1.at_ _ hal;rw[←z,n5] at q;cases q
      show upd H6 al _ ql=_;rw[am this];exact hl6
   ·rintro σ H6 ⟨⟨o3,rfl⟩,s6,hE6,hl6,u1,u2⟩;rw[aaa,aas] at u1 u2;refine⟨⟨_,_,_,rfl⟩,s6,hE6,u1.congr fun x _=>?_,u2.congr fun x _=>?_⟩
    ·rw[og _ hpi,hld]
    ·rw[og _ hpi,hld]
  ·rintro σ H4 ⟨⟨o1,o2,o3,rfl⟩,s4,hE4,t1,t2⟩;rw[hlen,aas] at t1 t2;have e1:∀x,gat (fun r=>(Gram.lead es r).filter (fun s=>¬s∈R.map (·.1))) R x=Gram.own R es x:=fun x=>rfl
   have e2:∀x,gat (fun r=>(Gram.lead es r).filter (fun s=>s∈R.map (·.1))) R x=Gram.links R es x:=fun x=>rfl
   have gO:∀x,getL (tabOf ka1 (Gram.own R es)) x=Gram.own R es x:=fun x=>by
    rw[ev]
    by_cases q:x∈ka1.map (·.1)
    ·rw[if_pos q]
    ·rw[if_neg q]
     symm
     apply List.eq_nil_iff_forall_not_mem.mpr;intro y hy;obtain⟨r,hm,_⟩:=Gram.jE.mp hy;exact q ((hkm1 x).mpr (aao.mpr ⟨_,hm,rfl⟩))
   have gL:∀x,getL (tabOf ka2 (Gram.links R es)) x=Gram.links R es x:=fun x=>by
    rw[ev]
    by_cases q:x∈ka2.map (·.1)
    ·rw[if_pos q]
    ·rw[if_neg q]
     symm
     apply List.eq_nil_iff_forall_not_mem.mpr;intro y hy;obtain⟨r,hm,_⟩:=Gram.gM.mp hy;exact q ((hkm2 x).mpr (aao.mpr ⟨_,hm,rfl⟩))
   have hkl:∀{ka:KA},ka.map (·.1)=ad R->ka.length<=14:=fun{ka} h=>by
    have:=congrArg List.length h;rw[aaa] at this;have:=dM R;omega
   have dR:∀{d:Addr} {ka:KA} {v:Str->List Str},bC H4 d ka v->bg H4 d (tabOf ka v):=fun{d ka v} tv=>by
    obtain⟨kv,h1,h2⟩:=tv.mH;refine⟨kvsOf ka,tv.dk,?_⟩;rcases h1 with h1|⟨_,h1⟩
    ·rw[tv.dk] at h1;cases h1
     exact h2
    ·rw[tv.dk] at h1;cases h1
   have szb:∀(g:Str->Bool) (x:Str),(gat (fun r=>(Gram.lead es r).filter g) R x).length<=280:=fun g x=>by
    have h1:=gg (R:=R) (x:=x) (g:=fun r=>(Gram.lead es r).filter g) (fun r=>Nat.le_trans (List.length_filter_le _ _) (Gram.eP es r)) hg.small.wid;have h3:(gat (fun r=>(Gram.lead es r).filter g) R x).length<=20*R.length:=h1;omega
   obtain⟨U,hU,hUm⟩:=hg.small.few;refine⟨_,rfl,_,rfl,d1,d2,tabOf ka1 (Gram.own R es),tabOf ka2 (Gram.links R es),rfl,hd12,dR t1,dR t2,⟨?_,?_,?_,?_⟩,?_,?_,⟨U,hU,?_⟩,?_⟩
   ·rw[bw];exact g2.ndk
   ·intro e he y hy;rw[bw,hkm2];unfold tabOf at he;obtain⟨z,hz,rfl⟩:=aao.mp he;obtain⟨r,_,_,h⟩:=Gram.gM.mp hy;exact h
   ·have:=congrArg List.length (bw ka2 (Gram.links R es));rw[aaa,aaa] at this;have:=hkl hk2;omega
   ·have:=je (ka:=ka2) (v:=Gram.links R es) (b:=280) fun e he=>szb _ _
    have h2:280*ka2.length<=280*14:=Nat.mul_le_mul_left _ (hkl hk2);omega
   ·rw[bw,bw,hk1,hk2]
   ·have:=je (ka:=ka1) (v:=Gram.own R es) (b:=280) fun e he=>szb _ _
    have h2:280*ka1.length<=280*14:=Nat.mul_le_mul_left _ (hkl hk1);omega
   ·intro e he z hz;unfold tabOf at he;obtain⟨y,hy,rfl⟩:=aao.mp he;obtain⟨r,hm,h1,_⟩:=Gram.jE.mp hz;exact hUm _ hm z (Gram.iH _ _ _ h1)
   ·intro d res H5 x5 n5 hD hkr hcan;refine k d res H5 (fun b o e=>x5 b o (s4 _ _ e) (aR e (frH1 g1.frd))) (s4.free n5) hD (by rw[hkr,bw,hk1]) fun e he=>?_
    obtain⟨D,h1,h2,h3⟩:=hcan e he;refine⟨D,h1,h2,fun z=>?_⟩;rw[h3 z,mh hem,←Gram.wy];constructor
    ·rintro⟨y,q1,q2⟩;refine⟨y,q1.congr fun x y hy=>?_,?_⟩
     ·rw[gL] at hy;exact hy
     ·rw[gO] at q2;exact q2
    ·rintro⟨y,q1,q2⟩;refine⟨y,q1.congr fun x y hy=>?_,?_⟩
     ·rw[gL];exact hy
     ·rw[gO];exact q2
end
end Nw
namespace Nw
open PySem L2
open SL (aq srt)
inductive D where
 |str(s:Str)
 |int(i:Int)
 |tup(ds:List D)
 |lst(ds:List D)
mutual
def D.sz:D->Nat
 |.str _=>1
 |.int _=>1
 |.tup ds=>1+D.szs ds
 |.lst ds=>1+D.szs ds
def D.szs:List D->Nat
 |[]=>0
 |d::r=>D.sz d+D.szs r
end
theorem D.lF:∀(a b:List D),D.szs (a++b)=D.szs a+D.szs b
 |[],b=>by simp[D.szs]
 |d::r,b=>by
  show D.sz d+D.szs (r++b)=D.sz d+D.szs r+D.szs b;rw[D.lF r b];omega
theorem D.sj(d:D):1<=d.sz:=by cases d <;> simp[D.sz] <;> omega
theorem D.lG:∀ds:List D,ds.length<=D.szs ds
 |[]=>Nat.le_refl _
 |d::r=>by
  have:=D.sj d;have:=D.lG r;show r.length+1<=D.sz d+D.szs r;omega
inductive Rep(H:Hp):V->D->Prop
 |str (s:Str):Rep H (.str s) (.str s)
 |int (i:Int):Rep H (.int i) (.int i)
 |tup {a:Addr} {xs:List V} {ds:List D}:H a=some (.tup xs)->xs.length=ds.length->(∀(i:Nat) (x:V) (d:D),xs[i]? =some x->ds[i]? =some d->Rep H x d)->Rep H (.ref a) (.tup ds)
 |lst {a:Addr} {xs:List V} {ds:List D}:H a=some (.lst xs)->xs.length=ds.length->(∀(i:Nat) (x:V) (d:D),xs[i]? =some x->ds[i]? =some d->Rep H x d)->Rep H (.ref a) (.lst ds)
theorem Rep.mono{H H':Hp}(e:ab H H'){v:V}{d:D}(h:Rep H v d):Rep H' v d:=by
 induction h with
 |str s=>exact .str s
 |int i=>exact .int i
 |tup h1 h2 _ ih=>exact .tup (e _ _ h1) h2 ih
 |lst h1 h2 _ ih=>exact .lst (e _ _ h1) h2 ih
abbrev sSo:Stmt:=top 59
theorem oh:aD ["_law_found","_law_due","_law_todo","_law_one","_law_other","_law_k"] ["_law_found","_law_due"] (au sSo):=⟨rfl,rfl,rfl,by decide +kernel,rfl,by decide +kernel,by decide +kernel⟩
def ug:Sp:=fun vs H Q _=>∃(x y:V) (d:D),vs=[x,y]/\Rep H x d/\Rep H y d/\d.sz<=10000/\∀H',ab H H'->Q (.bl true) H'
def eI(H H1:Hp)(v:V)(d:D):Prop:=∃t x y,v=.ref t/\H1 t=some (.tup [x,y])/\Rep H x d/\Rep H y d
theorem lH:bootBuiltins "list"=some (.type "list"):=by decide +kernel
theorem d3:bootBuiltins "tuple"=some (.type "tuple"):=by decide +kernel
theorem oj:bootBuiltins "str"=some (.type "str"):=by decide +kernel
theorem pE:bootBuiltins "bool"=some (.type "bool"):=by decide +kernel
theorem xS:bootBuiltins "int"=some (.type "int"):=by decide +kernel
theorem boot_isinstance:bootBuiltins "isinstance"=some (.builtin "isinstance"):=by decide +kernel
section
variable {K:PySem.W.Frag}
theorem ui:PySem.W.kitAny K (.type "str") (["list","tuple"].map Value.type)=some false:=by rfl
theorem uj:PySem.W.kitAny K (.type "int") (["list","tuple"].map Value.type)=some false:=by rfl
theorem sr:PySem.W.kitAny K (.type "list") (["list","tuple"].map Value.type)=some true:=by rfl
theorem uk:PySem.W.kitAny K (.type "tuple") (["list","tuple"].map Value.type)=some true:=by rfl
theorem zO:PySem.W.kitOne K (.type "list") (.type "list")=some true:=by rfl
theorem k_lt:PySem.W.kitOne K (.type "list") (.type "tuple")=some false:=by rfl
theorem zQ:PySem.W.kitOne K (.type "tuple") (.type "list")=some false:=by rfl
theorem om:PySem.W.kitOne K (.type "tuple") (.type "tuple")=some true:=by rfl
theorem um:PySem.W.kitOne K (.type "str") (.type "str")=some true:=by rfl
theorem k_is:PySem.W.kitOne K (.type "int") (.type "str")=some false:=by rfl
theorem xT:PySem.W.kitOne K (.type "int") (.type "bool")=some false:=by rfl
theorem zR:PySem.W.kitOne K (.type "int") (.type "int")=some true:=by rfl
end
section
variable {P:Program}{w:World}{K:PySem.W.Frag}{mg:Str->Option Value}{base:Heap}
theorem y8{f:Addr}{fd:FuncData}(F:Fun K "_law_so" "_law_so" sSo f fd)(T:Txt mg):a0 P w K mg base CX0 1 f fd ["_law_found","_law_due"] ug:=by
 refine F.ok oh (fun vs H Q E h=>?_) (fun cdv A outer s H vs Q E hr h=>?_)
 ·obtain⟨x,y,d,rfl,_⟩:=h;rfl
 ·obtain⟨x0,y0,d0,rfl,hx0,hy0,hsz,k⟩:=h;have hu:=cv hr;have hu0:(A.deeper (PyProof.Rows.envOfC "_law_so" (au sSo) s.heap.objs.size f cdv)).units<cLine:=Nat.lt_of_succ_lt hu;refine⟨_,af (ao (i:=2) oh.nd rfl (Or.inl rfl) (aW (aj (aP (aj (pv 0) (aj (pv 1) ac))) ac)))
   (af (dU PassesOwn.never (aK (nN hu0) (pv 2) (aW ac) (bB _))
    (af (xu (rK PySem.F.plainAttrs_list PySem.F.slot_list_pop PySem.F.type_list_pop rL (pv 2)) (cJ (n:=2) rfl (aH (ap (i:=3) oh.nd rfl (Or.inl rfl)) (aH (ap (i:=4) oh.nd rfl (Or.inl rfl)) cg))))
    (ai (bi (ci (aC r6 (by rfl) T.isi boot_isinstance (aj (pv 4) (aj (aP (aj (cB (v:=.ty "list") (by rfl) T.lst lH rfl) (aj (cB (v:=.ty "tuple") (by rfl) T.tup d3 rfl) ac))) ac))))
     (af (bi (aK jA (aC cx (by rfl) T.isi boot_isinstance (aj (pv 3) (aj (cB (v:=.ty "list") (by rfl) T.lst lH rfl) ac))) (aC cx (by rfl) T.isi boot_isinstance (aj (pv 4) (aj (cB (v:=.ty "list") (by rfl) T.lst lH rfl) ac))) (bB _)) cn aY)
     (af (bi (aK jA (aC cx (by rfl) T.isi boot_isinstance (aj (pv 3) (aj (cB (v:=.ty "tuple") (by rfl) T.tup d3 rfl) ac))) (aC cx (by rfl) T.isi boot_isinstance (aj (pv 4) (aj (cB (v:=.ty "tuple") (by rfl) T.tup d3 rfl) ac))) (bB _)) cn aY)
     (af (bi (aK jA (aC bq (by rfl) T.len PySem.boot_len (aj (pv 3) ac)) (aC bq (by rfl) T.len PySem.boot_len (aj (pv 4) ac)) (bB _)) cn aY)
     (ai (aO PassesOwn.never rfl (eV (by rfl) T.rng (aj (aC bq (by rfl) T.len PySem.boot_len (aj (pv 4) ac)) ac)) (ap (i:=5) oh.nd rfl (Or.inl rfl))
      (ai (bp (bY PySem.F.plainAttrs_list PySem.F.slot_list_append PySem.F.type_list_append a8 (pv 2) (aj (aP (aj (aE rG (pv 3) (pv 5) (fun _ _=>rfl)) (aj (aE rG (pv 4) (pv 5) (fun _ _=>rfl)) ac))) ac)))))))))
     (ai (bi (ci (aC cx (by rfl) T.isi boot_isinstance (aj (pv 4) (aj (cB (v:=.ty "str") (by rfl) T.str oj rfl) ac))))
      (ai (bi (PW.pt (iw (gw (ci (aC cx (by rfl) T.isi boot_isinstance (aj (pv 3) (aj (cB (v:=.ty "str") (by rfl) T.str oj rfl) ac))))) (iY (aK jA (pv 3) (pv 4) (bB _))))) cn aY))
      (ai (bi (ci (aC cx (by rfl) T.isi boot_isinstance (aj (pv 4) (aj (cB (v:=.ty "bool") (by rfl) T.bl pE rfl) ac)))) cn
       (ai (bi (aK rB (pv 4) e7 (bB _)) cn
        (ai (bi (PW.pt (iw (gw (ci (aC cx (by rfl) T.isi boot_isinstance (aj (pv 3) (aj (cB (v:=.ty "int") (by rfl) T.int xS rfl) ac)))))
         (iw (ci (aC cx (by rfl) T.isi boot_isinstance (aj (pv 3) (aj (cB (v:=.ty "bool") (by rfl) T.bl pE rfl) ac)))) (iY (aK jA (pv 3) (pv 4) (bB _)))))) cn aY))))))))))))
   (ai (aI dC))),?_⟩
  refine⟨_,rfl,_,rfl,(show 2<=sizeLine by decide),fun t0 ht0=>⟨(show 1<=sizeLine by decide),fun tl htl=>?_⟩⟩;have s0:ab H (upd H t0 (.tup [x0,y0])):=ab.upd ht0;have htlH:H tl=none:=s0.free htl;refine⟨fun m σ H1=>∃ts vs o1 o2 o3,σ=[some x0,some y0,some (.ref tl),o1,o2,o3]/\ab H H1/\H1 tl=some (.lst vs)/\Paired (eI H H1) vs ts/\m=D.szs ts/\m<=10000,
   ⟨_,[d0],_,none,none,none,rfl,s0.trans (ab.upd htl),aa,.cons ⟨t0,x0,y0,rfl,by rw[am (aR (aa (H:=H)) htl)];exact aa,hx0,hy0⟩ .nil,rfl,by show d0.sz+0<=_;omega⟩,?_⟩
  rintro m σ H1 ⟨ts,vs,o1,o2,o3,rfl,s1,hl1,hp1,rfl,hm⟩;refine⟨_,rfl,by decide,fun qn hqn=>?_⟩;have hqt:tl≠qn:=aR hl1 hqn;have sn:ab H1 (upd H1 qn (.lst [])):=ab.upd hqn;refine⟨tl,qn,vs,rfl,rfl,SqL.of (sn _ _ hl1),SqL.of aa,_,rfl,?_⟩;rcases List.eq_nil_or_concat vs with rfl|⟨vi,vl,rfl⟩
  ·exact aJ (k _ (s1.trans sn))
  ·rw[show(!(vi.concat vl).isEmpty)=true by simp];refine a9 ?_;obtain⟨ti,dl,rfl,hpi,hpl⟩:∃ti dl,ts=ti++[dl]/\Paired (eI H H1) vi ti/\eI H H1 vl dl:=by
    have key:∀{vi:List V} {ts:List D},Paired (eI H H1) (vi++[vl]) ts->∃ti dl,ts=ti++[dl]/\Paired (eI H H1) vi ti/\eI H H1 vl dl:=by
     intro vi
     induction vi with
     |nil=>
      intro ts h;cases h with
      |cons h1 h2=>cases h2;exact⟨[],_,rfl,.nil,h1⟩
     |cons v r ih=>
      intro ts h;cases h with
      |cons h1 h2=>
       obtain⟨ti,dl,rfl,q1,q2⟩:=ih h2;exact⟨_::ti,dl,rfl,.cons h1 q1,q2⟩
    exact key (by rw[←List.concat_eq_append];exact hp1)
   obtain⟨t,x,y,rfl,ht,hx,hy⟩:=hpl;have hsz2:D.szs (ti++[dl])=D.szs ti+dl.sz:=by rw[D.lF];rfl
   have s1n:=s1.trans sn;generalize hH2:upd H1 qn (.lst [])=H2 at sn s1n;have hl2:H2 tl=some (.lst (vi++[V.ref t])):=by rw[←List.concat_eq_append];exact sn _ _ hl1
   refine⟨fun σ H4=>∃ts' vs' o1 o2 o3,σ=[some x0,some y0,some (.ref tl),o1,o2,o3]/\ab H H4/\H4 tl=some (.lst vs')/\Paired (eI H H4) vs' ts'/\D.szs ts'<D.szs (ti++[dl]),?_,?_⟩
   ·rintro σ' H4 ⟨ts',vs',o1,o2,o3,rfl,q1,q2,q3,q4⟩;exact⟨_,q4,ts',vs',o1,o2,o3,rfl,q1,q2,q3,rfl,by omega⟩
   refine⟨_,rfl,.inl ⟨rfl,_,SqL.of hl2⟩,tl,_,V.ref t,rfl,rfl,hl2,by simp,?_⟩;rw[List.dropLast_concat];generalize hH3:upd H2 tl (.lst vi)=H3;have s3:ab H H3:=by rw[←hH3];exact s1n.bz htlH
   have dg:∀{H4:Hp} {b:Addr} {xs:List V},(∀z o,H2 z=some o->z≠tl->H4 z=some o)->H1 b=some (.tup xs)->H4 b=some (.tup xs):=fun{H4 b xs} h e=>by
    have e2:=sn _ _ e;refine h _ _ e2 fun z=>?_
    rw[z,hl2] at e2;cases e2
   have x3:∀z o,H2 z=some o->z≠tl->H3 z=some o:=fun z o e hz=>by rw[←hH3,am hz];exact e
   have hl3:H3 tl=some (.lst vi):=by rw[←hH3,aa]
   have ht3:H3 t=some (.tup [x,y]):=dg x3 ht;have keepP:∀{H4:Hp},(∀z o,H2 z=some o->z≠tl->H4 z=some o)->Paired (eI H H4) vi ti:=fun{H4} h=>Paired.bJ hpi fun _ _ ⟨t',x',y',q1,q2,q3,q4⟩=>⟨t',x',y',q1,dg h q2,q3,q4⟩
   have same3:∀{H4:Hp},ab H3 H4->∀z o,H2 z=some o->z≠tl->H4 z=some o:=fun{H4} h z o e hz=>h _ _ (x3 z o e hz)
   refine⟨t,_,rfl,SqT.of ht3,rfl,x,_,rfl,y,_,rfl,rfl,?_⟩;refine⟨_,rfl,(show 2<=sizeLine by decide),fun tp htp=>?_⟩;have s4:ab H3 (upd H3 tp (.tup [.ty "list",.ty "tuple"])):=ab.upd htp;generalize hH4:upd H3 tp (.tup [.ty "list",.ty "tuple"])=H4 at s4;have htp4:H4 tp=some (.tup (["list","tuple"].map V.ty)):=by rw[←hH4];exact aa
   have s34:=s3.trans s4;have hl4:H4 tl=some (.lst vi):=s4 _ _ hl3;have done:∀o3':Option V,∃ts' vs' o1 o2 o3,[some x0,some y0,some (V.ref tl),some x,some y,o3']=[some x0,some y0,some (.ref tl),o1,o2,o3]/\ab H H4/\H4 tl=some (.lst vs')/\Paired (eI H H4) vs' ts'/\D.szs ts'<D.szs (ti++[dl]):=fun _=>
    ⟨ti,vi,_,_,_,rfl,s34,hl4,keepP (same3 s4),by rw[hsz2];have:=D.sj dl;omega⟩
   have parts:∀(b:Bool) (ax ay:Addr) (xs ys:List V) (ds:List D),x=.ref ax->y=.ref ay->dl.sz=1+D.szs ds->xs.length=ds.length->ys.length=ds.length->
     (∀(i:Nat) (u:V) (d:D),xs[i]? =some u->ds[i]? =some d->Rep H u d)->(∀(i:Nat) (u:V) (d:D),ys[i]? =some u->ds[i]? =some d->Rep H u d)->
     (if b=true then H ax=some (.tup xs)/\H ay=some (.tup ys) else H ax=some (.lst xs)/\H ay=some (.lst ys))->∃tn:String,(∀H5,ab H H5->cu K H5 (.ref ax) (.type tn)/\cu K H5 (.ref ay) (.type tn))/\
      PySem.W.kitAny K (.type tn) (["list","tuple"].map Value.type)=some true/\PySem.W.kitOne K (.type tn) (.type "list")=some (!b)/\PySem.W.kitOne K (.type tn) (.type "tuple")=some b/\
      (∀H5,ab H H5->(SqL K H5 ax xs\/SqT K H5 ax xs)/\(SqL K H5 ay ys\/SqT K H5 ay ys))/\
      (∀(H5:Hp) (i:Nat) (u:V) (Q:VK),ab H H5->xs[i]? =some u->Q u H5->rIx K (.ref ax) (.int (0+(i:Int))) H5 Q)/\(∀(H5:Hp) (i:Nat) (u:V) (Q:VK),ab H H5->ys[i]? =some u->Q u H5->rIx K (.ref ay) (.int (0+(i:Int))) H5 Q):=by
    intro b ax ay xs ys ds _ _ _ _ _ _ _ hb;cases b with
    |true=>
     obtain⟨h1,h2⟩:=hb;refine⟨"tuple",fun H5 e=>⟨cu.tup (e _ _ h1),cu.tup (e _ _ h2)⟩,uk,zQ,om,fun H5 e=>⟨.inr (SqT.of (e _ _ h1)),.inr (SqT.of (e _ _ h2))⟩,fun H5 i u Q e hi q=>?_,fun H5 i u Q e hi q=>?_⟩
     ·exact .inr (.inl ⟨ax,xs,_,u,rfl,rfl,SqT.of (e _ _ h1),by rw[Int.zero_add];exact aA hi,q⟩)
     ·exact .inr (.inl ⟨ay,ys,_,u,rfl,rfl,SqT.of (e _ _ h2),by rw[Int.zero_add];exact aA hi,q⟩)
    |false=>
     obtain⟨h1,h2⟩:=hb;refine⟨"list",fun H5 e=>⟨cu.lst (e _ _ h1),cu.lst (e _ _ h2)⟩,sr,zO,k_lt,fun H5 e=>⟨.inl (SqL.of (e _ _ h1)),.inl (SqL.of (e _ _ h2))⟩,fun H5 i u Q e hi q=>?_,fun H5 i u Q e hi q=>?_⟩
     ·exact .inl ⟨ax,xs,_,u,rfl,rfl,SqL.of (e _ _ h1),by rw[Int.zero_add];exact aA hi,q⟩
     ·exact .inl ⟨ay,ys,_,u,rfl,rfl,SqL.of (e _ _ h2),by rw[Int.zero_add];exact aA hi,q⟩
   have kinds:(∃s,x=.str s/\y=.str s)\/(∃i,x=.int i/\y=.int i)\/∃(b:Bool) (ax ay:Addr) (xs ys:List V) (ds:List D),x=.ref ax/\y=.ref ay/\dl.sz=1+D.szs ds/\xs.length=ds.length/\ys.length=ds.length/\
     (∀(i:Nat) (u:V) (d:D),xs[i]? =some u->ds[i]? =some d->Rep H u d)/\(∀(i:Nat) (u:V) (d:D),ys[i]? =some u->ds[i]? =some d->Rep H u d)/\
     (if b=true then H ax=some (.tup xs)/\H ay=some (.tup ys) else H ax=some (.lst xs)/\H ay=some (.lst ys)):=by
    cases hy with
    |str sy=>cases hx with | str=>exact .inl ⟨_,rfl,rfl⟩
    |int i=>cases hx with | int=>exact .inr (.inl ⟨_,rfl,rfl⟩)
    |tup h1 h2 h3=>cases hx with | tup g1 g2 g3=>exact .inr (.inr ⟨true,_,_,_,_,_,rfl,rfl,rfl,g2,h2,g3,h3,g1,h1⟩)
    |lst h1 h2 h3=>cases hx with | lst g1 g2 g3=>exact .inr (.inr ⟨false,_,_,_,_,_,rfl,rfl,rfl,g2,h2,g3,h3,g1,h1⟩)
   rcases kinds with ⟨sy,rfl,rfl⟩|⟨iy,rfl,rfl⟩|⟨b,ax,ay,xs,ys,ds,ex,ey,esz,lx,ly,rx,ry,hb⟩
   ·refine⟨.str sy,tp,["list","tuple"],_,_,rfl,htp4,cu.str _,ui,_,rfl,aJ ?_⟩;refine⟨_,rfl,_,_,_,_,rfl,cu.str _,um,_,rfl,a9 ?_⟩;refine⟨_,rfl,_,_,_,_,rfl,cu.str _,um,_,rfl,aJ ?_⟩;exact⟨_,rfl,_,rfl,rfl,_,rfl,jD rfl (done _)⟩
   ·refine⟨.int iy,tp,["list","tuple"],_,_,rfl,htp4,cu.int _,uj,_,rfl,aJ ?_⟩;refine⟨_,rfl,_,_,_,_,rfl,cu.int _,k_is,_,rfl,aJ ?_⟩;refine⟨_,rfl,_,_,_,_,rfl,cu.int _,xT,_,rfl,aJ ?_⟩;refine⟨_,rfl,rfl,_,rfl,aJ ?_⟩;refine⟨_,rfl,_,_,_,_,rfl,cu.int _,zR,_,rfl,aJ ?_⟩;refine⟨_,rfl,_,_,_,_,rfl,cu.int _,xT,_,rfl,aJ ?_⟩;exact⟨_,rfl,_,rfl,rfl,_,rfl,jD rfl (done _)⟩
   ·obtain⟨tn,ty,ka,kl,kt,sq,ix1,ix2⟩:=parts b ax ay xs ys ds ex ey esz lx ly rx ry hb;subst ex;subst ey;obtain⟨ty1,ty2⟩:=ty H4 s34;obtain⟨sq1,sq2⟩:=sq H4 s34;have hlen:xs.length=ys.length:=lx.trans ly.symm;have hds:ds.length<=10000:=by
     have:=D.lG ds;omega
    refine⟨.ref ay,tp,["list","tuple"],_,_,rfl,htp4,ty2,ka,_,rfl,a9 ?_⟩;refine⟨_,rfl,_,_,_,_,rfl,ty1,kl,_,rfl,_,_,_,_,rfl,ty2,kl,rfl,_,rfl,jD rfl ?_⟩;refine⟨_,rfl,_,_,_,_,rfl,ty1,kt,_,rfl,_,_,_,_,rfl,ty2,kt,rfl,_,rfl,jD rfl ?_⟩;refine⟨_,rfl,ax,_,rfl,sq1,_,rfl,ay,_,rfl,sq2,rfl,_,rfl,jD (by rw[hlen]) ?_⟩;refine⟨_,rfl,ay,_,rfl,sq2,_,rfl,by omega,by omega,eW (n:=(ys.length:Int).toNat) (fun i σ H5=>∃vs' o3,σ=[some x0,some y0,some (.ref tl),some (.ref ax),some (.ref ay),o3]/\ab H H5/\H5 tl=some (.lst vs')/\Paired (eI H H5) vs' (ti++ds.take i))
     ⟨vi,_,rfl,s34,hl4,by rw[List.take_zero,List.append_nil];exact keepP (same3 s4)⟩ ?_ ?_⟩
    ·rintro i σ H5 hi ⟨vs',o3',rfl,s5,hl5,hp5⟩;have hi':i<ds.length:=by rw[Int.toNat_natCast] at hi;omega
     have hxi:xs[i]? =some xs[i]:=aae (by omega);have hyi:ys[i]? =some ys[i]:=aae (by omega);have hdi:ds[i]? =some ds[i]:=aae hi';have hvl:vs'.length<=20000:=by
      have h1:=Paired.length hp5;rw[aag,aal] at h1;have h2:=D.lG ti;omega
     refine⟨_,rfl,.inl ⟨rfl,_,SqL.of hl5⟩,_,rfl,_,rfl,ix1 H5 i _ _ s5 hxi ?_⟩;refine⟨_,rfl,_,rfl,ix2 H5 i _ _ s5 hyi ⟨(show 2<=sizeLine by decide),fun p hp=>?_⟩⟩;have hpt:tl≠p:=aR hl5 hp;have sp:ab H5 (upd H5 p (.tup [xs[i],ys[i]])):=ab.upd hp;refine⟨tl,vs',_,rfl,rfl,sp _ _ hl5,Nat.lt_of_le_of_lt hvl (by rw[PySem.sizeLine_eq];decide),vs'++[.ref p],_,rfl,(s5.trans sp).bz htlH,aa,?_⟩;have kt5:∀{b:Addr} {us:List V},H5 b=some (.tup us)->upd (upd H5 p (.tup [xs[i],ys[i]])) tl (.lst (vs'++[.ref p])) b=some (.tup us):=fun{b us} e=>by
      have e2:=sp _ _ e;rw[am fun z=>by rw[z,hl5] at e;cases e];exact e2
     rw[aap,hdi,←List.append_assoc];refine cG (Paired.bJ hp5 fun _ _ ⟨t',x',y',q1,q2,q3,q4⟩=>⟨t',x',y',q1,kt5 q2,q3,q4⟩) ⟨p,_,_,rfl,?_,rx i _ _ hxi hdi,ry i _ _ hyi hdi⟩;rw[am (Ne.symm hpt),aa]
    ·rintro σ H5 ⟨vs',o3',rfl,s5,hl5,hp5⟩;rw[Int.toNat_natCast,ly,aas] at hp5;exact⟨_,vs',_,_,_,rfl,s5,hl5,hp5,by rw[hsz2,D.lF];omega⟩
end
end Nw
namespace Nw
open PySem L2
open SL (aq srt)
abbrev iJ:Stmt:=top 48
theorem y9:aD ["_law_rows"] ["_law_rows"] (au iJ):=⟨rfl,rfl,rfl,by decide +kernel,rfl,by decide +kernel,by decide +kernel⟩
abbrev kK:Stmt:=top 50
theorem gq:aD ["_law_rows","_law_found","_law_turn","_law_left","_law_right","_law_rest"] ["_law_rows"] (au kK):=⟨rfl,rfl,rfl,by decide +kernel,rfl,by decide +kernel,by decide +kernel⟩
def ig:Sp:=fun vs H Q _=>∃(a:Addr) (R:List Row),vs=[.ref a]/\a7 H a R/\Small R/\∀q ms H',ab H H'->H q=none->ms.Nodup->(∀z,z∈ms↔Gram.Made R (fun _=>False) z)->ak H' q (srt ms)->Q (.ref q) H'
def lI(R:List Row)(ms:List Str):Prop:=∀l r,(l,r)∈R->(∀s∈r,s∈ms)->l∈ms
theorem xU{ms L:List Str}(nd:ms.Nodup)(h:∀x∈ms,x∈L)(hl:L.length<=ms.length):∀x∈L,x∈ms:=fun x hx=>by
 by_cases q:x∈ms
 ·exact q
 ·exfalso;have:=Gram.bT (l:=x::ms) (m:=L) (List.nodup_cons.mpr ⟨q,nd⟩) fun y hy=>by
   rcases List.mem_cons.mp hy with e|e
   ·rw[e];exact hx
   ·exact h y e
  rw[aau] at this;omega
abbrev uo:Stmt:=top 51
theorem mJ:aD ["_law_rows","_law_signs","_law_empty","_law_found","_law_words","_law_sign"] ["_law_rows","_law_signs","_law_empty","_law_found"] (au uo):=⟨rfl,rfl,rfl,by decide +kernel,rfl,by decide +kernel,by decide +kernel⟩
def cb(es:List Str)(f:Tab)(r:List Str):List Str:=(Gram.lead es r).flatMap fun s=>(f.lookup s).getD [s]
def kL:Sp:=fun vs H Q _=>∃(x:V) (a b c:Addr) (r es:List Str) (f:Tab),vs=[x,.ref a,.ref b,.ref c]/\ak H a r/\ak H b es/\dS H c f/\r.length<=20/\(∀e∈f,e.2.length<=40)/\∀q H',ab H H'->H q=none->ak H' q (cb es f r)->Q (.ref q) H'
theorem su{f:Tab}{x:Str}{ys:List Str}(h:f.lookup x=some ys):(x,ys)∈f:=lookup_mem h
theorem fR{es:List Str}{f:Tab}(hf:∀e∈f,e.2.length<=40):∀(l:List Str),(l.flatMap fun s=>(f.lookup s).getD [s]).length<=40*l.length
 |[]=>by simp
 |s::r=>by
  have ih:=fR (es:=es) hf r;rw[List.flatMap_cons,aag,aau];have:((f.lookup s).getD [s]).length<=40:=by
   cases e:f.lookup s with
   |none=>simp
   |some ys=>exact hf _ (su e)
  omega
section
variable {P:Program}{w:World}{K:PySem.W.Frag}{mg:Str->Option Value}{base:Heap}
theorem xV{f:Addr}{fd:FuncData}(F:Fun K "_law_all_sorts" "_law_all_sorts" iJ f fd)(T:Txt mg):a0 P w K mg base CX0 1 f fd ["_law_rows"] bZ:=by
 refine F.ok y9 (fun vs H Q E h=>?_) (fun cdv A outer s H vs Q E hr h=>?_)
 ·obtain⟨a,R,rfl,_⟩:=h;rfl
 ·obtain⟨a,R,rfl,hR,hsm,k⟩:=h;have hn:R.length<64:=by have:=hsm.len;omega
  refine⟨_,ai (aI (aC (cq rfl) (by rfl) T.srt PyProof.Rows.boot_sorted (aj
   (cX (dZ rfl) (by rfl) T.set (by decide +kernel) (aj
    (cY (aX.plain (N:=["_law_row"]) (by rfl) (by rfl) (by decide)) rfl (aB (pv 0)) (fun s₃ H₃ fp=>ap (i:=0) (show(["_law_row"]:List Str).Nodup by decide) rfl (Or.inl rfl)) (fun s₃ H₃ fp=>dc)
     (fun s₃ H₃ fp=>aE (r:=gX K) aU (pv 0) az (fun _ _=>rfl))) ac)) ac))),?_⟩
  obtain⟨vs,hv,hp⟩:=hR;have hlen:vs.length=R.length:=Paired.length hp;refine⟨_,rfl,a,rfl,⟨vs,SqL.of hv⟩,fun D hD=>cH (K:=K) (xs:=vs) (fun i τ H1=>(∃o,τ=[o])/\H1=upd H D (.lst ((R.take i).map fun p=>V.str p.1))) ⟨⟨_,rfl⟩,rfl⟩ ?_ ?_ ?_⟩
  ·rintro i τ H1 ⟨_,rfl⟩;exact(ab.upd hD).seq (SqL.of hv)
  ·rintro i x τ H1 hx ⟨⟨o,rfl⟩,rfl⟩;obtain⟨p,hpi,t,b,rfl,ht,hb⟩:=aT hp i x hx;have hil:i<R.length:=(aab.mp hpi).1;refine⟨_,rfl,t,_,0,_,rfl,rfl,SqT.of (ab.upd hD _ _ ht),aA (j:=0) rfl,_,aa,?_,⟨_,rfl⟩,?_⟩
   ·rw[aaa,aal];exact av (by omega)
   ·rw[cA,aap,hpi,aam];rfl
  ·rintro τ H1 ⟨_,rfl⟩;rw[hlen,aas];have em:(R.map fun p=>V.str p.1)=(R.map (·.1)).map V.str:=by rw[List.map_map];rfl
   rw[em];refine⟨D,R.map (·.1),rfl,SqL.of aa,?_,fun q hq=>?_⟩
   ·rw[aaa];unfold scanBound;omega
   ·refine⟨q,aq (R.map (·.1)),rfl,.inr (.inl aa),?_,fun q2 hq2=>?_⟩
    ·have:=SL.eY (R.map (·.1));rw[aaa] at this;omega
    ·have s1:=(ab.upd (o:=.lst ((R.map (·.1)).map V.str)) hD);have n1:H q=none:=s1.free hq;have s2:ab H (upd (upd H D (.lst ((R.map (·.1)).map V.str))) q (dm w q (aq (R.map (·.1))))):=s1.trans (ab.upd hq);exact k q2 _ (s2.trans (ab.upd hq2)) (s2.free hq2) aa
theorem uq{f:Addr}{fd:FuncData}(F:Fun K "_law_wordless" "_law_wordless" kK f fd)(T:Txt mg):a0 P w K mg base CX0 1 f fd ["_law_rows"] ig:=by
 refine F.ok gq (fun vs H Q E h=>?_) (fun cdv A outer s H vs Q E hr h=>?_)
 ·obtain⟨a,R,rfl,_⟩:=h;rfl
 ·obtain⟨a,R,rfl,hR,hsm,k⟩:=h;have hu:=cv hr;have hu0:(A.deeper (PyProof.Rows.envOfC "_law_wordless" (au kK) s.heap.objs.size f cdv)).units<cLine:=Nat.lt_of_succ_lt hu;refine⟨_,af (ao (i:=1) gq.nd rfl (Or.inr rfl) (aW ac))
   (af (aO PassesOwn.never rfl (eV (by rfl) T.rng (aj (aC bq (by rfl) T.len PySem.boot_len (aj (pv 0) ac)) ac)) (ap (i:=2) gq.nd rfl (Or.inl rfl))
    (ai (aO PassesOwn.never rfl (aB (pv 0)) (cJ (n:=2) rfl (aH (ap (i:=3) gq.nd rfl (Or.inl rfl)) (aH (ap (i:=4) gq.nd rfl (Or.inl rfl)) cg)))
     (af (fe (k:=5) (aX.free (N:=["_law_sign","_law_found"]) (sel:=[none,some 1]) ["_law_found"] (by rfl) (by rfl) (by rfl) ?c1 ?c2 ?c3 ?c4 (by rfl) ?c5) rfl gq.nd rfl (Or.inl rfl) (aB (pv 4)) (fun s₃ H₃ fp=>ap (i:=0) (show(["_law_sign","_law_found"]:List Str).Nodup by decide) rfl (Or.inl rfl))
       (fun s₃ H₃ fp=>gp (aK (r:=rIn K true) bS (pv 0) (pv 1) (by with_unfolding_all rfl))) (fun s₃ H₃ fp=>pv 0))
     (ai (bi (PW.pt (g7 (aK bS (pv 3) (pv 1) (by with_unfolding_all rfl)) (gm (aK (j7 hu0) (pv 5) (aW ac) (bB _)))))
      (ai (bp (bY PySem.F.plainAttrs_list PySem.F.slot_list_append PySem.F.type_list_append a8 (pv 1) (aj (pv 3) ac)))) aY))))))
   (ai (aI (aC (cq rfl) (by rfl) T.srt PyProof.Rows.boot_sorted (aj (pv 1) ac))))),?_⟩
  case c1=>decide
  case c2=>decide
  case c3=>
   intro x hx;rcases List.mem_cons.mp hx with rfl|hx
   ·exact⟨rfl,rfl,_,rfl,rfl⟩
   ·cases hx
  case c4=>
   intro y hy;rcases List.mem_cons.mp hy with rfl|hy
   ·exact aac ..
   ·cases hy
  case c5=>
   intro j i h;rcases j with _|_|j
   ·cases h
   ·cases h;exact⟨"_law_found",aac ..,rfl,rfl⟩
   ·cases h
  obtain⟨vs,hv,hp⟩:=id hR;have hlen:vs.length=R.length:=Paired.length hp;have hR14:=hsm.len;refine⟨by decide,fun fl hfl=>?_⟩;have s0:=ab.upd (o:=HO.lst []) hfl;have lenR:∀{ms:List Str},ms.Nodup->(∀x∈ms,Gram.Made R (fun _=>False) x)->ms.length<=R.length:=fun nd so=>by
   have:=Gram.bT nd fun x hx=>(so x hx).left
   rw[aaa] at this;exact this
  refine⟨_,rfl,a,_,rfl,.inl (SqL.of (s0 _ _ hv)),_,rfl,by omega,by omega,eW (n:=(vs.length:Int).toNat)
   (fun t σ H1=>∃ms o1 o2 o3 o4,σ=[some (.ref a),some (.ref fl),o1,o2,o3,o4]/\ab H H1/\ak H1 fl ms/\ms.Nodup/\(∀x∈ms,Gram.Made R (fun _=>False) x)/\(lI R ms\/t<=ms.length))
   ⟨[],_,_,_,_,rfl,s0,aa,List.nodup_nil,fun x hx=>(by cases hx),.inr (Nat.le_refl _)⟩ ?_ ?_⟩
  ·rintro t σ H1 ht ⟨ms0,o1,o2,o3,o4,rfl,s1,hf1,nd0,so0,alt0⟩;refine⟨_,rfl,a,rfl,⟨_,s1.seq (SqL.of hv)⟩,aM (K:=K) (a:=a) (xs:=vs)
    (fun i σ H2=>∃ms o1 o2 o3 o4,σ=[some (.ref a),some (.ref fl),o1,o2,o3,o4]/\ab H H2/\ak H2 fl ms/\ms.Nodup/\(∀x∈ms,Gram.Made R (fun _=>False) x)/\(lI R ms0->ms=ms0)/\
     ((ms=ms0/\∀j l r,j<i->R[j]? =some (l,r)->(∀s∈r,s∈ms0)->l∈ms0)\/ms0.length<ms.length))
    ⟨ms0,_,_,_,_,rfl,s1,hf1,nd0,so0,fun _=>rfl,.inl ⟨rfl,fun j l r hj=>absurd hj (Nat.not_lt_zero _)⟩⟩ ?_ ?_ ?_⟩
   ·rintro i σ H2 _ ⟨_,_,_,_,_,_,s2,_⟩;exact s2.seq (SqL.of hv)
   ·rintro i x σ H2 hx ⟨ms,p1,p2,p3,p4,rfl,s2,hf2,nd,so,cl,alt⟩;obtain⟨p,tt,c,hpi,rfl,htt,hc⟩:=bO hp hx;have hpm:(p.1,p.2)∈R:=aah hpi;have hpw:=hsm.wid p hpm;refine⟨tt,_,rfl,SqT.of (s2 _ _ htt),rfl,_,_,rfl,_,_,rfl,rfl,?_⟩;have hc2:H2 c=some (.lst (p.2.map V.str)):=s2 _ _ hc;have hf2':H2 fl=some (.lst (ms.map V.str)):=hf2;refine⟨_,rfl,c,rfl,⟨_,SqL.of hc2⟩,fun D hD=>fg (K:=K) (xs:=p.2.map V.str)
     (fun j τ H3=>(∃o,τ=[o,some (.ref fl)])/\H3=upd H2 D (.lst (((p.2.take j).filter (fun s=>!decide (s∈ms))).map V.str))) ⟨⟨_,rfl⟩,rfl⟩ ?_ ?_ ?_⟩
    ·rintro j τ H3 ⟨_,rfl⟩;exact(ab.upd hD).seq (SqL.of hc2)
    ·rintro j x τ H3 hx ⟨⟨o,rfl⟩,rfl⟩;obtain⟨y,hy,rfl⟩:=aZ hx;have sD:=ab.upd (o:=HO.lst (((p.2.take j).filter (fun s=>!decide (s∈ms))).map V.str)) hD;have hjl:j<p.2.length:=(aab.mp hy).1;have hle:((p.2.take j).filter (fun s=>!decide (s∈ms))).length<=p.2.length:=Nat.le_trans (List.length_filter_le _ _) (by rw[aal];omega);refine⟨_,rfl,_,rfl,fl,_,rfl,.inl (SqL.of (sD _ _ hf2')),rfl,bN ms,_,rfl,?_⟩;show if (!inV (.str y) (ms.map V.str))=true then _ else _
     rw[bX]
     by_cases hyk:y∈ms
     ·rw[aan hyk];refine aJ ⟨⟨_,rfl⟩,?_⟩;rw[aap,hy,List.filter_append];have:List.filter (fun s=>!decide (s∈ms)) (some y).toList=[]:=by
       show List.filter (fun s=>!decide (s∈ms)) [y]=[];rw[List.filter_cons,if_neg (by rw[aan hyk];decide)];rfl
      rw[this,List.append_nil]
     ·rw[aai hyk];refine a9 ⟨_,rfl,_,aa,by rw[aaa];exact av (by omega),⟨_,rfl⟩,?_⟩;rw[cA,aap,hy,List.filter_append,aam];have:List.filter (fun s=>!decide (s∈ms)) (some y).toList=[y]:=by
       show List.filter (fun s=>!decide (s∈ms)) [y]=[y];rw[List.filter_cons,if_pos (by rw[aai hyk];rfl)];rfl
      rw[this];rfl
    ·rintro τ H3 ⟨_,rfl⟩;rw[aaa,aas];have sD:=ab.upd (o:=HO.lst ((p.2.filter (fun s=>!decide (s∈ms))).map V.str)) hD;have s3:=s2.trans sD;have hf3:=sD _ _ hf2';have same:(p.1∈ms\/¬∀s∈p.2,s∈ms)->((ms=ms0/\∀j l r,j<i+1->R[j]? =some (l,r)->(∀s∈r,s∈ms0)->l∈ms0)\/ms0.length<ms.length):=fun h=>by
      rcases alt with ⟨e,q⟩|q
      ·left
       refine⟨e,fun j l r hj hR' hs=>?_⟩;rcases Nat.lt_or_ge j i with z|z
       ·exact q j l r z hR' hs
       ·have:j=i:=by omega
        subst this;rw[hpi] at hR';cases hR'
        rcases h with h|h
        ·rw[←e];exact h
        ·exact absurd (by rw[e];exact hs) h
      ·exact .inr q
     refine⟨_,rfl,_,rfl,fl,_,rfl,.inl (SqL.of hf3),rfl,bN ms,_,rfl,?_⟩;show if (!inV (.str p.1) (ms.map V.str))=true then _ else _
     rw[bX]
     by_cases hin:p.1∈ms
     ·rw[aan hin];exact aJ (aJ ⟨ms,_,_,_,_,rfl,s3,hf3,nd,so,cl,same (.inl hin)⟩)
     ·rw[aai hin];refine a9 ?_;refine⟨_,rfl,by decide,fun qn hqn=>?_⟩;have sn:=ab.upd (o:=HO.lst []) hqn;have s4:=s3.trans sn;have hf4:=sn _ _ hf3;refine⟨D,qn,_,rfl,rfl,SqL.of (sn _ _ aa),SqL.of aa,_,rfl,?_⟩
      by_cases hall:∀s∈p.2,s∈ms
      ·have e:p.2.filter (fun s=>!decide (s∈ms))=[]:=by
        rw[List.filter_eq_nil_iff];intro s hs;rw[aan (hall s hs)];decide
       have e2:((p.2.filter (fun s=>!decide (s∈ms))).map V.str).isEmpty=true:=by rw[e];rfl
       rw[e2];refine a9 ?_;have l14:=lenR nd so;refine⟨_,rfl,.inl ⟨rfl,_,SqL.of hf4⟩,_,rfl,fl,_,_,rfl,rfl,hf4,by rw[aaa];exact av (by omega),?_⟩;refine⟨ms++[p.1],_,_,_,_,rfl,s4.bz hfl,?_,dL nd hin,fun x hx=>?_,fun hcl=>?_,.inr ?_⟩
       ·unfold ak;rw[aa,aam];rfl
       ·rcases aak.mp hx with q|q
        ·exact so x q
        ·rw[aaj.mp q];exact Gram.me so hpm fun s hs=>.inr (hall s hs)
       ·have e2:=cl hcl;exact absurd (by rw[e2] at hall ⊢;exact hcl _ _ hpm hall) hin
       ·rcases alt with ⟨e2,_⟩|q
        ·rw[e2,aag,aav];omega
        ·rw[aag];omega
      ·have e:(p.2.filter (fun s=>!decide (s∈ms)))≠[]:=fun z=>by
        apply hall;intro s hs;rw[List.filter_eq_nil_iff] at z;have:=z s hs
        by_cases q:s∈ms
        ·exact q
        ·rw[aai q] at this;exact absurd rfl this
       have e2:((p.2.filter (fun s=>!decide (s∈ms))).map V.str).isEmpty=false:=by
        cases q:p.2.filter (fun s=>!decide (s∈ms)) with
        |nil=>exact absurd q e
        |cons _ _=>rfl
       rw[e2];exact aJ ⟨ms,_,_,_,_,rfl,s4,hf4,nd,so,cl,same (.inr hall)⟩
   ·rintro σ H2 ⟨ms,p1,p2,p3,p4,rfl,s2,hf2,nd,so,cl,alt⟩;refine⟨ms,_,_,_,_,rfl,s2,hf2,nd,so,?_⟩;rcases alt with ⟨e,q⟩|q
    ·left
     subst e;intro l r hm hs;obtain⟨j,hj⟩:=List.mem_iff_getElem?.mp hm;rw[hlen] at q;exact q j l r (aab.mp hj).1 hj hs
    ·rcases alt0 with z|z
     ·left
      rw[cl z];exact z
     ·right;omega
  ·rintro σ H1 ⟨ms,o1,o2,o3,o4,rfl,s1,hf1,nd,so,alt⟩;have hcl:lI R ms:=by
    rcases alt with z|z
    ·exact z
    ·intro l r hm hs;rw[Int.toNat_natCast,hlen] at z;exact xU nd (fun x hx=>(so x hx).left) (by rw[aaa];exact z) l (aao.mpr ⟨_,hm,rfl⟩)
   have l14:=lenR nd so;refine⟨_,rfl,fl,ms,rfl,.inl (SqL.of hf1),by omega,fun q hq=>?_⟩;refine k q ms _ (s1.trans (ab.upd hq)) (s1.free hq) nd (fun z=>⟨so z,fun h=>?_⟩) aa;exact Gram.h7 (fun l r hm hs=>hcl l r hm fun s hs'=>(hs s hs').resolve_left id) h
theorem xW{f:Addr}{fd:FuncData}(F:Fun K "_law_can_begin" "_law_can_begin" uo f fd):a0 P w K mg base CX0 1 f fd ["_law_rows","_law_signs","_law_empty","_law_found"] kL:=by
 refine F.ok mJ (fun vs H Q E h=>?_) (fun cdv A outer s H vs Q E hr h=>?_)
 ·obtain⟨x,a,b,c,r,es,f,rfl,_⟩:=h;rfl
 ·obtain⟨x,a,b,c,r,es,f,rfl,hA,hB,hC,hl,hf40,k⟩:=h;have hu:=cv hr;refine⟨_,af (ao (i:=4) mJ.nd rfl (Or.inl rfl) (aW ac))
   (af (aO PassesOwn.never rfl (aB (pv 1)) (ap (i:=5) mJ.nd rfl (Or.inl rfl))
    (af (ao (i:=4) mJ.nd rfl (Or.inl rfl) (bv cD (pv 4) (iD hu (pv 3) (pv 5) (aW (aj (pv 5) ac)) ⟨rfl,rfl,rfl,rfl⟩)))
    (ai (bi (aK bS (pv 5) (pv 2) (by with_unfolding_all rfl)) (ai (aI (pv 4))) aY))))
   (ai (aI (pv 4)))),?_⟩
  refine⟨by decide,fun q0 hq0=>?_⟩;have s0:=ab.upd (o:=HO.lst []) hq0;refine⟨_,rfl,a,rfl,⟨_,SqL.of (s0 _ _ hA)⟩,aM (K:=K) (a:=a) (xs:=r.map V.str)
   (fun i σ H1=>∃q o,σ=[some x,some (.ref a),some (.ref b),some (.ref c),some (.ref q),o]/\ab H H1/\H q=none/\ak H1 q ((r.take i).flatMap fun s=>(f.lookup s).getD [s])/\∀s∈r.take i,s∈es)
   ⟨q0,_,rfl,s0,hq0,aa,fun s hs=>(by cases hs)⟩ ?_ ?_ ?_⟩
  ·rintro i σ H1 _ ⟨_,_,_,s1,_⟩;exact SqL.of (s1 _ _ hA)
  ·rintro i v σ H1 hx ⟨q,o,rfl,s1,hq,hS,hall⟩;obtain⟨y,hy,rfl⟩:=aZ hx;have hil:i<r.length:=(aab.mp hy).1;refine⟨_,rfl,_,rfl,c,rfl,?_,_,rfl,_,rfl,(show 1<=sizeLine by decide),fun q1 hq1=>?_⟩
   ·obtain⟨kvs,h1,_⟩:=hC.mono s1;exact .inl ⟨kvs,h1⟩
   have sq1:=ab.upd (o:=HO.lst [.str y]) hq1;have s2:=s1.trans sq1;obtain⟨kvs,h1,h2⟩:=hC.mono s2;obtain⟨o',l,hg,hv,hl'⟩:∃o' l,bP (upd H1 q1 (.lst [.str y])) c (.str y) o'/\o'.getD (.ref q1)=.ref l/\ak (upd H1 q1 (.lst [.str y])) l ((f.lookup y).getD [y]):=by
    rcases ej h2 y with ⟨e1,e2⟩|⟨ys,l,e1,e2,e3⟩
    ·refine⟨none,q1,.inl ⟨kvs,Sum.inr y,h1,rfl,e2.symm⟩,rfl,?_⟩;rw[e1];exact aa
    ·refine⟨some (.ref l),l,.inl ⟨kvs,Sum.inr y,h1,rfl,e2.symm⟩,rfl,?_⟩;rw[e1];exact e3
   refine⟨o',hg,?_⟩;rw[hv];have hS2:=sq1 _ _ hS;have hb1:=fR (es:=es) hf40 (r.take i);have hb2:=fR (es:=es) hf40 [y];rw[List.flatMap_cons,List.flatMap_nil,List.append_nil] at hb2;rw[aal] at hb1;refine⟨q,l,_,_,rfl,rfl,hS2,hl',by rw[aaa,aaa];simp only[aav] at hb2;exact bE (by omega),fun q2 hq2=>?_⟩;have s3:=s2.trans (ab.upd (o:=HO.lst (((r.take i).flatMap fun s=>(f.lookup s).getD [s]).map V.str++((f.lookup y).getD [y]).map V.str)) hq2);have hS3:ak (upd (upd H1 q1 (.lst [.str y])) q2 (.lst (((r.take i).flatMap fun s=>(f.lookup s).getD [s]).map V.str++((f.lookup y).getD [y]).map V.str))) q2 ((r.take (i+1)).flatMap fun s=>(f.lookup s).getD [s]):=by
    unfold ak;rw[aa,aap,hy,List.flatMap_append,aam];simp
   refine⟨_,rfl,_,rfl,b,_,rfl,.inl (SqL.of (s3 _ _ hB)),rfl,bN es,_,rfl,?_⟩;show if (!inV (.str y) (es.map V.str))=true then _ else _
   rw[bX]
   by_cases hin:y∈es
   ·rw[aan hin];refine aJ ⟨q2,_,rfl,s3,s2.free hq2,hS3,fun s hs=>?_⟩;rw[aap,hy] at hs;rcases aak.mp hs with z|z
    ·exact hall s z
    ·have:s=y:=by simpa using z
     rw[this];exact hin
   ·rw[aai hin];refine a9 ⟨_,rfl,k q2 _ s3 (s2.free hq2) ?_⟩;unfold cb;rw[jf hall hy hin];exact hS3
  ·rintro σ H1 ⟨q,o,rfl,s1,hq,hS,hall⟩;rw[aaa,aas] at hall hS;refine⟨_,rfl,k q _ s1 hq ?_⟩;unfold cb;rw[kc hall];exact hS
end
end Nw
namespace Nw
open PySem L2
open SL (aq srt)
def bj(ks:List Str)(v:Str->List Str):Tab:=ks.map fun x=>(x,v x)
theorem fS(ks:List Str)(v:Str->List Str):(bj ks v).map (·.1)=ks:=by
 induction ks with
 |nil=>rfl
 |cons x r ih=>show x::(bj r v).map (·.1)=_;rw[ih]
theorem ck(v:Str->List Str)(x:Str):∀ks:List Str,(bj ks v).lookup x=if x∈ks then some (v x) else none
 |[]=>rfl
 |k::r=>by
  have ih:=ck v x r;show List.lookup x ((k,v k)::bj r v)=_;rw[List.lookup_cons];cases e:x == k with
  |true=>
   have e:=eq_of_beq e;subst e;simp
  |false=>
   have ne:x≠k:=fun z=>by rw[z] at e;simp at e
   dsimp only;rw[ih]
   by_cases q:x∈r
   ·rw[if_pos q,if_pos (aad _ q)]
   ·rw[if_neg q,if_neg fun z=>(List.mem_cons.mp z).elim ne q]
def dq(v:Str->List Str)(x:Str)(ys:List Str):Str->List Str:=fun y=>if y=x then ys else v y
theorem b8{v:Str->List Str}{x:Str}{ys:List Str}:dq v x ys x=ys:=if_pos rfl
theorem cZ{v:Str->List Str}{x y:Str}{ys:List Str}(h:y≠x):dq v x ys y=v y:=if_neg h
theorem kM{H H':Hp}{l:Addr}{x:Str}{ys:List Str}{v:Str->List Str}(hl:ak H' l ys)(hk:∀l' ss,ak H l' ss->ak H' l' ss) :
  ∀{ks:List Str} {kvs:List (Key×V)},Paired (cV H) kvs (bj ks v)->Paired (cV H') (kvs.map fun kv=>if kv.1=(Sum.inr x:Key) then (kv.1,V.ref l) else kv) (bj ks (dq v x ys))
 |[],_,.nil=>.nil
 |k::r,_,@Paired.cons _ _ _ kv _ kr _ ⟨h1,l',h2,h3⟩ t=>by
  obtain⟨kk,vv⟩:=kv;have h1:kk=Sum.inr k:=h1;have h2:vv=.ref l':=h2;subst h1;subst h2;show Paired (cV H') (((if (Sum.inr k:Key)=Sum.inr x then ((Sum.inr k:Key),V.ref l) else ((Sum.inr k:Key),V.ref l')))::_) ((k,dq v x ys k)::bj r (dq v x ys));refine .cons ?_ (kM hl hk t)
  by_cases q:k=x
  ·subst q;rw[if_pos rfl,b8];exact⟨rfl,l,rfl,hl⟩
  ·rw[if_neg fun z=>q (Sum.inr.inj z),cZ q];exact⟨rfl,l',rfl,hk _ _ h3⟩
theorem jI{H:Hp}{d l:Addr}{kvs:List (Key×V)}{ss:List Str}(hd:H d=some (.dK kvs))(h:ak H l ss):l≠d:=fun z=>by
 have h:H l=some _:=h;rw[z,hd] at h;cases h
theorem bg.put{H:Hp}{d l:Addr}{ks:List Str}{v:Str->List Str}{x:Str}{ys:List Str}{kvs:List (Key×V)}(hd:H d=some (.dK kvs))(hp:Paired (cV H) kvs (bj ks v))(hx:x∈ks)(hl:ak H l ys) :
  bg (upd H d (.dK (putK kvs (Sum.inr x:Key) (.ref l)))) d (bj ks (dq v x ys)):=by
 refine⟨_,aa,?_⟩;have e:putK kvs (Sum.inr x:Key) (V.ref l)=kvs.map fun kv=>if kv.1=(Sum.inr x:Key) then (kv.1,V.ref l) else kv:=by
  unfold putK;rw[if_pos];rw[dX];rcases ej hp x with ⟨z,_⟩|⟨ys',l',_,z,_⟩
  ·rw[ck,if_pos hx] at z;cases z
  ·rw[z];rfl
 have ex:∀l' ss,ak H l' ss->ak (upd H d (.dK (putK kvs (Sum.inr x:Key) (.ref l)))) l' ss:=fun l' ss h=>by
  unfold ak;rw[am (jI hd h)];exact h
 have:=kM (v:=v) (x:=x) (ex _ _ hl) ex hp;rw[←e] at this;exact this
theorem bg.add{H:Hp}{d l:Addr}{ks:List Str}{v:Str->List Str}{x:Str}{kvs:List (Key×V)}(hd:H d=some (.dK kvs))(hp:Paired (cV H) kvs (bj ks v))(hx:¬x∈ks)(hl:ak H l (v x)) :
  bg (upd H d (.dK (putK kvs (Sum.inr x:Key) (.ref l)))) d (bj (ks++[x]) v):=by
 refine⟨_,aa,?_⟩;have ex:∀l' ss,ak H l' ss->ak (upd H d (.dK (putK kvs (Sum.inr x:Key) (.ref l)))) l' ss:=fun l' ss h=>by
  unfold ak;rw[am (jI hd h)];exact h
 have e:putK kvs (Sum.inr x:Key) (V.ref l)=kvs++[((Sum.inr x:Key),V.ref l)]:=by
  apply fw;rcases ej hp x with ⟨_,z⟩|⟨ys',l',z,_,_⟩
  ·exact z
  ·rw[ck,if_neg hx] at z;cases z
 have e2:bj (ks++[x]) v=bj ks v++[(x,v x)]:=by unfold bj;rw[aam];rfl
 rw[e2];have h1:Paired (cV (upd H d (.dK (putK kvs (Sum.inr x:Key) (.ref l))))) kvs (bj ks v):=Paired.bJ hp fun _ _ ⟨q1,l',q2,q3⟩=>⟨q1,l',q2,ex _ _ q3⟩
 have h2:=cG h1 (x:=((Sum.inr x:Key),V.ref l)) (y:=(x,v x)) ⟨rfl,l,rfl,ex _ _ hl⟩;rw[←e] at h2;exact h2
theorem bg.l{H:Hp}{d:Addr}{f:Tab}(h:bg H d f):dS H d f:=by
 obtain⟨kvs,h1,h2⟩:=h;exact⟨kvs,.inl h1,h2⟩
def tot(ks:List Str)(v:Str->List Str):Nat:=(ks.map fun x=>(v x).length).sum
theorem gs:∀{ks:List Str} {v:Str->List Str} {x:Str} {ys:List Str},ks.Nodup->x∈ks->tot ks (dq v x ys)+(v x).length=tot ks v+ys.length
 |[],_,_,_,_,h=>by cases h
 |k::r,v,x,ys,nd,h=>by
  rw[List.nodup_cons] at nd;show(dq v x ys k).length+tot r (dq v x ys)+_=(v k).length+tot r v+_
  by_cases q:k=x
  ·subst q;have e:tot r (dq v k ys)=tot r v:=by
    unfold tot
    congr 1
    apply List.map_congr_left;intro y hy;have:y≠k:=fun z=>nd.1 (z▸hy)
    rw[cZ this]
   rw[b8,e];omega
  ·have hr:x∈r:=(List.mem_cons.mp h).resolve_left fun z=>q z.symm
   have ih:=gs (v:=v) (ys:=ys) nd.2 hr;rw[cZ q];omega
theorem oq{v:Str->List Str}{b:Nat}:∀{ks:List Str},(∀x∈ks,(v x).length<=b)->tot ks v<=b*ks.length
 |[],_=>by simp[tot]
 |k::r,h=>by
  have h1:=h k (aac ..);have h2:=oq (v:=v) (b:=b) (ks:=r) fun x hx=>h x (aad _ hx)
  show(v k).length+tot r v<=b*(r.length+1);rw[Nat.mul_succ];omega
structure Snd(R:List Row)(es ks:List Str)(v:Str->List Str):Prop where
 nd:∀x∈ks,(v x).Nodup
 so:∀x∈ks,∀z∈v x,Gram.Beg R es x z
theorem Snd.len{R:List Row}{es ks:List Str}{v:Str->List Str}(h:Snd R es ks v)(S:Small R){x:Str}(hx:x∈ks):(v x).length<=40:=S.gB (h.nd x hx) fun z hz=>(h.so x hx z hz).sign.2
theorem Snd.add{R:List Row}{es ks:List Str}{v:Str->List Str}(h:Snd R es ks v){x z:Str}(hz:¬z∈v x)(hb:Gram.Beg R es x z):Snd R es ks (dq v x (v x++[z])) where
 nd:=fun y hy=>by
  by_cases q:y=x
  ·subst q;rw[b8];exact dL (h.nd y hy) hz
  ·rw[cZ q];exact h.nd y hy
 so:=fun y hy u hu=>by
  by_cases q:y=x
  ·subst q;rw[b8] at hu;rcases aak.mp hu with r|r
   ·exact h.so y hy u r
   ·rw[aaj.mp r];exact hb
  ·rw[cZ q] at hu;exact h.so y hy u hu
def Clo(R:List Row)(es ks:List Str)(v:Str->List Str):Prop:=∀l r,(l,r)∈R->∀z∈cb es (bj ks v) r,z∈v l
theorem kN{es:List Str}{f:Tab}{r:List Str}{z:Str}:z∈cb es f r↔∃s∈Gram.lead es r,z∈(f.lookup s).getD [s]:=List.mem_flatMap
theorem ut{R:List Row}{es ks:List Str}{v:Str->List Str}(h:Snd R es ks v)(hk:∀x,x∈ks↔x∈R.map (·.1)){l:Str}{r:List Str}(hm:(l,r)∈R){z:Str}(hz:z∈cb es (bj ks v) r):Gram.Beg R es l z:=by
 obtain⟨s,hs,hz⟩:=kN.mp hz;rw[ck] at hz
 by_cases q:s∈ks
 ·rw[if_pos q] at hz;exact .sort hm hs ((hk s).mp q) (h.so s q z hz)
 ·rw[if_neg q] at hz;have:z=s:=by simpa using hz
  subst this;exact .word hm hs fun w=>q ((hk z).mpr w)
theorem wG{R:List Row}{es ks:List Str}{v:Str->List Str}(h:Clo R es ks v)(hk:∀x,x∈ks↔x∈R.map (·.1)){l z:Str}(hb:Gram.Beg R es l z):z∈v l:=by
 refine Gram.mz (F:=v) (fun l r w hm hw hn=>h l r hm w (kN.mpr ⟨w,hw,?_⟩)) (fun l r b w hm hb hs hw=>h l r hm w (kN.mpr ⟨b,hb,?_⟩)) hb
 ·rw[ck,if_neg fun q=>hn ((hk w).mp q)];exact aaj.mpr rfl
 ·rw[ck,if_pos ((hk b).mpr hs)];exact hw
abbrev ot:Stmt:=top 52
theorem dN:aD ["_law_rows","_law_empty","_law_found","_law_left","_law_going","_law_right","_law_word"] ["_law_rows"] (au ot):=⟨rfl,rfl,rfl,by decide +kernel,rfl,by decide +kernel,by decide +kernel⟩
def jJ:Sp:=fun vs H Q _=>∃(a:Addr) (R:List Row),vs=[.ref a]/\a7 H a R/\Small R/\
 ∀d res H',ab H H'->H d=none->bg H' d res->res.map (·.1)=ad R->(∀e∈res,e.2.Nodup/\∀z,z∈e.2↔dF R e.1 z)->Q (.ref d) H'
section
variable {P:Program}{w:World}{K:PySem.W.Frag}{mg:Str->Option Value}{base:Heap}
theorem uu{f:Addr}{fd:FuncData}(F:Fun K "_law_begun_by" "_law_begun_by" ot f fd)(D1:Def P w K mg base "_law_wordless" 1 ["_law_rows"] ig)(D2:Def P w K mg base "_law_all_sorts" 1 ["_law_rows"] bZ)
  (D3:Def P w K mg base "_law_can_begin" 1 ["_law_rows","_law_signs","_law_empty","_law_found"] kL):a0 P w K mg base CX0 2 f fd ["_law_rows"] jJ:=by
 refine F.ok dN (fun vs H Q E h=>?_) (fun cdv A outer s H vs Q E hr h=>?_)
 ·obtain⟨a,R,rfl,_⟩:=h;rfl
 ·obtain⟨a,R,rfl,hR,hsm,k⟩:=h;have hu:=cv hr;refine⟨_,af (ao (i:=1) dN.nd rfl (Or.inl rfl) (aw D1 hr (by rfl) (aj (pv 0) ac)))
   (af (ao (i:=2) dN.nd rfl (Or.inl rfl) dY)
   (af (aO PassesOwn.never rfl (aB (aw D2 hr (by rfl) (aj (pv 0) ac))) (ap (i:=3) dN.nd rfl (Or.inl rfl))
    (ai (da hu (pv 2) (pv 3) (aW ac) rfl)))
   (af (ao (i:=4) dN.nd rfl (Or.inl rfl) dC)
   (af (dU PassesOwn.never (ci (pv 4))
    (af (ao (i:=4) dN.nd rfl (Or.inl rfl) dC)
    (ai (aO PassesOwn.never rfl (aB (pv 0)) (cJ (n:=2) rfl (aH (ap (i:=3) dN.nd rfl (Or.inl rfl)) (aH (ap (i:=5) dN.nd rfl (Or.inl rfl)) cg)))
     (ai (aO PassesOwn.never rfl (aB (aw D3 hr (by rfl) (aj (pv 0) (aj (pv 5) (aj (pv 1) (aj (pv 2) ac)))))) (ap (i:=6) dN.nd rfl (Or.inl rfl))
      (ai (bi (aK bS (pv 6) (bI hu (pv 2) (pv 3) (fun _ _=>rfl)) (by with_unfolding_all rfl))
       (af (da hu (pv 2) (pv 3) (bv cD (bI hu (pv 2) (pv 3) (fun _ _=>rfl)) (aW (aj (pv 6) ac))) rfl)
       (ai (ao (i:=4) dN.nd rfl (Or.inl rfl) dC)))
       aY))))))))
   (ai (aI (pv 2))))))),?_⟩
  obtain⟨vs,hv,hp⟩:=id hR;have hlen:vs.length=R.length:=Paired.length hp;have hR14:=hsm.len;refine⟨_,rfl,a,R,rfl,hR,hsm,fun qe ms HA sA nA ndm hmm hSA=>?_⟩;intro d hd;have hdH:H d=none:=sA.free hd;have s0:=ab.upd (o:=HO.dK []) hd;refine⟨_,rfl,a,R,rfl,(hR.mono sA).mono s0,hsm,fun q HB sB nB hSB=>?_⟩;have hks:∀x,x∈ad R↔x∈R.map (·.1):=fun x=>aF
  have hlk:=dM R;have hSB:HB q=some (.lst ((ad R).map V.str)):=hSB;have hqd:q≠d:=fun z=>by rw[z,aa] at nB;cases nB
  refine⟨q,rfl,⟨_,SqL.of hSB⟩,aM (K:=K) (a:=q) (xs:=(ad R).map V.str)
   (fun i σ H1=>(∃o1 o2 o3 o4,σ=[some (.ref a),some (.ref qe),some (.ref d),o1,o2,o3,o4])/\ab HA H1/\H1 q=some (.lst ((ad R).map V.str))/\bg H1 d (bj ((ad R).take i) fun _=>[]))
   ⟨⟨_,_,_,_,rfl⟩,s0.trans sB,hSB,[],sB _ _ aa,.nil⟩ ?_ ?_ ?_⟩
  ·rintro i σ H1 _ ⟨_,_,h1,_⟩;exact SqL.of h1
  ·rintro i x σ H1 hx ⟨⟨o1,o2,o3,o4,rfl⟩,s1,hq1,kvs,hd1,hp1⟩;obtain⟨y,hy,rfl⟩:=aZ hx;have hlp:kvs.length=((ad R).take i).length:=by
    have:=Paired.length hp1;rw[this];unfold bj;rw[aaa]
   have hny:¬y∈(ad R).take i:=fun z=>by
    obtain⟨j,hj⟩:=List.mem_iff_getElem?.mp z;have hji:j<i:=by
     have:=(aab.mp hj).1;rw[aal] at this;omega
    rw[List.getElem?_take_of_lt hji] at hj;have:=gv (cI R) hj hy;omega
   refine⟨by decide,fun p hp0=>?_⟩;have sp:=ab.upd (o:=HO.lst []) hp0;refine⟨_,rfl,_,rfl,d,_,rfl,dD.k (k:=Sum.inr y) (sp _ _ hd1) (by rw[hlp,aal];exact av (by omega)),?_⟩;refine⟨⟨_,_,_,_,rfl⟩,(s1.trans sp).bz hd,by rw[am hqd];exact sp _ _ hq1,?_⟩;have hp2:Paired (cV (upd H1 p (.lst []))) kvs (bj ((ad R).take i) fun _=>[]):=Paired.bJ hp1 fun _ _ ⟨z1,l,z2,z3⟩=>⟨z1,l,z2,sp _ _ z3⟩
   have:=bg.add (sp _ _ hd1) hp2 hny (l:=p) aa;rw[aap,hy];exact this
  ·rintro σ H1 ⟨⟨o1,o2,o3,o4,rfl⟩,s1,_,hD1⟩;rw[aaa,aas] at hD1;have hem:∀y,y∈srt ms↔Gram.Made R (fun _=>False) y:=fun y=>SL.bM.trans (hmm y)
   refine⟨fun m σ H2=>∃v g o1 o2 o3,σ=[some (.ref a),some (.ref qe),some (.ref d),o1,some (.bl g),o2,o3]/\ab HA H2/\bg H2 d (bj (ad R) v)/\Snd R (srt ms) (ad R) v/\(g=false->Clo R (srt ms) (ad R) v)/\
     m=(if g=true then 1+(40*(ad R).length - tot (ad R) v) else 0),
    ⟨_,fun _=>[],true,_,_,_,rfl,s1,hD1,⟨fun _ _=>List.nodup_nil,fun _ _ z hz=>(by cases hz)⟩,fun z=>(by cases z),rfl⟩,?_⟩
   clear hD1 s1;rintro m σ H2 ⟨v,g,o1,o2,o3,rfl,s2,hD2,snd,clo,rfl⟩;refine⟨_,rfl,_,rfl,?_⟩;cases g with
   |false=>
    refine aJ ⟨_,rfl,k d _ H2 (sA.trans s2) hdH hD2 (fS _ _) fun e he=>?_⟩;unfold bj at he;obtain⟨x,hx,rfl⟩:=aao.mp he;refine⟨snd.nd x hx,fun z=>?_⟩;rw[mh hem];exact⟨snd.so x hx z,fun hb=>wG (clo rfl) hks hb⟩
   |true=>
    refine a9 ⟨fun σ H3=>∃v' g o1 o2 o3,σ=[some (.ref a),some (.ref qe),some (.ref d),o1,some (.bl g),o2,o3]/\ab HA H3/\bg H3 d (bj (ad R) v')/\Snd R (srt ms) (ad R) v'/\(g=false->Clo R (srt ms) (ad R) v')/\
     (g=true->tot (ad R) v<tot (ad R) v'),?_,?_⟩
    ·rintro σ' H3 ⟨v',g,p1,p2,p3,rfl,q1,q2,q3,q4,q5⟩;refine⟨_,?_,v',g,p1,p2,p3,rfl,q1,q2,q3,q4,rfl⟩;cases g with
     |false=>simp only[if_true];rw[if_neg (by decide)];omega
     |true=>
      have h1:=q5 rfl;have h2:=oq (v:=v') (b:=40) (ks:=ad R) fun x hx=>q3.len hsm hx
      simp only[if_true];omega
    ·have hvA:=sA _ _ hv;have hpA:Paired (dE HA) vs R:=Paired.bJ hp fun _ _ q=>q.mono sA
     refine⟨_,rfl,a,rfl,⟨_,SqL.of (s2 _ _ hvA)⟩,aM (K:=K) (a:=a) (xs:=vs)
      (fun i σ H3=>∃v' g o1 o2 o3,σ=[some (.ref a),some (.ref qe),some (.ref d),o1,some (.bl g),o2,o3]/\ab HA H3/\bg H3 d (bj (ad R) v')/\Snd R (srt ms) (ad R) v'/\
       (g=false->v'=v/\∀j l r,j<i->R[j]? =some (l,r)->∀z∈cb (srt ms) (bj (ad R) v) r,z∈v l)/\(g=true->tot (ad R) v<tot (ad R) v'))
      ⟨v,false,_,_,_,rfl,s2,hD2,snd,fun _=>⟨rfl,fun j l r hj=>absurd hj (Nat.not_lt_zero _)⟩,fun z=>(by cases z)⟩ ?_ ?_ ?_⟩
     ·rintro i σ H3 _ ⟨_,_,_,_,_,_,s3,_⟩;exact SqL.of (s3 _ _ hvA)
     ·rintro i x σ H3 hx ⟨v1,g1,o1,o2,o3,rfl,s3,hD3,snd1,alt1,inc1⟩;obtain⟨p,tt,c,hpi,rfl,htt,hc⟩:=bO hpA hx;have hpm:(p.1,p.2)∈R:=aah hpi;have hpw:=hsm.wid p hpm;have hpl:p.1∈ad R:=(hks _).mpr (aao.mpr ⟨p,hpm,rfl⟩);refine⟨tt,_,rfl,SqT.of (s3 _ _ htt),rfl,_,_,rfl,_,_,rfl,rfl,?_⟩;refine⟨_,rfl,_,rfl,_,rfl,_,rfl,_,c,qe,d,p.2,srt ms,bj (ad R) v1,rfl,s3 _ _ hc,s3 _ _ hSA,hD3.l,hpw,?_,fun ql H4 s4 n4 hS4=>?_⟩
      ·intro e he;unfold bj at he;obtain⟨x,hx,rfl⟩:=aao.mp he;exact snd1.len hsm hx
      generalize hW:cb (srt ms) (bj (ad R) v1) p.2=W at hS4;have hWs:∀z∈W,Gram.Beg R (srt ms) p.1 z:=fun z hz=>ut snd1 hks hpm (by rw[hW];exact hz)
      have hS4:H4 ql=some (.lst (W.map V.str)):=hS4;have hD4:=hD3.mono s4;have hqld:ql≠d:=by
       obtain⟨kvs,z,_⟩:=hD4;exact jI z hS4
      refine⟨ql,rfl,⟨_,SqL.of hS4⟩,aM (K:=K) (a:=ql) (xs:=W.map V.str)
       (fun j σ H5=>∃v' g o3,σ=[some (.ref a),some (.ref qe),some (.ref d),some (.str p.1),some (.bl g),some (.ref c),o3]/\ab HA H5/\H5 ql=some (.lst (W.map V.str))/\bg H5 d (bj (ad R) v')/\Snd R (srt ms) (ad R) v'/\
        (g=false->g1=false/\v'=v1/\∀z∈W.take j,z∈v1 p.1)/\(g=true->tot (ad R) v<tot (ad R) v'))
       ⟨v1,g1,_,rfl,s3.trans s4,hS4,hD4,snd1,fun z=>⟨z,rfl,fun z hz=>(by cases hz)⟩,inc1⟩ ?_ ?_ ?_⟩
      ·rintro j σ H5 _ ⟨_,_,_,_,_,z,_⟩;exact SqL.of z
      ·rintro j x σ H5 hx ⟨v2,g2,o4,rfl,s5,hq5,hD5,snd2,alt2,inc2⟩;obtain⟨y,hy,rfl⟩:=aZ hx;obtain⟨kvs,hd5,hp5⟩:=id hD5;obtain⟨l,hg5,hl5⟩:=hD5.l.get (x:=p.1) (by rw[fS];exact hpl);have egl:getL (bj (ad R) v2) p.1=v2 p.1:=by unfold getL;rw[ck,if_pos hpl];rfl
       rw[egl] at hl5;refine⟨_,rfl,_,rfl,_,rfl,d,_,rfl,hg5,l,_,rfl,.inl (SqL.of hl5),rfl,bN _,_,rfl,?_⟩;show if (!inV (.str y) ((v2 p.1).map V.str))=true then _ else _
       rw[bX]
       by_cases hin:y∈v2 p.1
       ·rw[aan hin];refine aJ ⟨v2,g2,_,rfl,s5,hq5,hD5,snd2,fun z=>?_,inc2⟩;obtain⟨e1,e2,e3⟩:=alt2 z;refine⟨e1,e2,fun u hu=>?_⟩;rw[aap,hy] at hu;rcases aak.mp hu with r|r
        ·exact e3 u r
        ·have:u=y:=by simpa using r
         rw[this,←e2];exact hin
       ·rw[aai hin];refine a9 ?_;have hl40:=snd2.len hsm hpl;refine⟨_,rfl,_,rfl,d,_,rfl,hg5,_,rfl,(show 1<=sizeLine by decide),fun p1 hp1=>?_⟩;have sp1:=ab.upd (o:=HO.lst [V.str y]) hp1;refine⟨l,p1,_,_,rfl,rfl,sp1 _ _ hl5,aa,by rw[aaa];exact bE (by simp;omega),fun p2 hp2=>?_⟩;have sp2:=ab.upd (o:=HO.lst ((v2 p.1).map V.str++[V.str y])) hp2;have sp:=sp1.trans sp2;have hd6:=sp _ _ hd5;have hp6:Paired (cV (upd (upd H5 p1 (.lst [V.str y])) p2 (.lst ((v2 p.1).map V.str++[V.str y])))) kvs (bj (ad R) v2):=Paired.bJ hp5 fun _ _ ⟨z1,l,z2,z3⟩=>⟨z1,l,z2,sp _ _ z3⟩
        have hl6:ak (upd (upd H5 p1 (.lst [V.str y])) p2 (.lst ((v2 p.1).map V.str++[V.str y]))) p2 (v2 p.1++[y]):=by
         unfold ak;rw[aa,aam];rfl
        have hkl:kvs.length<sizeLine:=by
         have:=Paired.length hp5;unfold bj at this;rw[aaa] at this;exact av (by omega)
        refine⟨_,rfl,_,rfl,d,_,rfl,dD.k (k:=Sum.inr p.1) hd6 hkl,?_⟩;have htot:=gs (v:=v2) (ys:=v2 p.1++[y]) (cI R) hpl;rw[aag,aav] at htot;refine⟨dq v2 p.1 (v2 p.1++[y]),true,_,rfl,(s5.trans sp).bz hd,by rw[am hqld];exact sp _ _ hq5,bg.put hd6 hp6 hpl hl6,snd2.add hin (hWs y (aah hy)),fun z=>(by cases z),fun _=>?_⟩;cases g2 with
        |true=>have:=inc2 rfl;omega
        |false=>
         obtain⟨e1,e2,_⟩:=alt2 rfl;subst e2;obtain⟨e3,_⟩:=alt1 e1;rw[←e3];omega
      ·rintro σ H5 ⟨v2,g2,o4,rfl,s5,hq5,hD5,snd2,alt2,inc2⟩;refine⟨v2,g2,_,_,_,rfl,s5,hD5,snd2,fun z=>?_,inc2⟩;obtain⟨e1,e2,e3⟩:=alt2 z;rw[aaa,aas] at e3;obtain⟨e4,e5⟩:=alt1 e1;refine⟨e2.trans e4,fun j l r hj hR' u hu=>?_⟩;rcases Nat.lt_or_ge j i with h|h
       ·exact e5 j l r h hR' u hu
       ·have:j=i:=by omega
        subst this;rw[hpi] at hR';cases hR'
        rw[←e4];refine e3 u ?_;rw[←hW,e4];exact hu
     ·rintro σ H3 ⟨v1,g1,o1,o2,o3,rfl,s3,hD3,snd1,alt1,inc1⟩;refine⟨v1,g1,_,_,_,rfl,s3,hD3,snd1,fun z=>?_,inc1⟩;obtain⟨e1,e2⟩:=alt1 z;subst e1;intro l r hm u hu;obtain⟨j,hj⟩:=List.mem_iff_getElem?.mp hm;exact e2 j l r (by rw[hlen];exact(aab.mp hj).1) hj u hu
end
end Nw
namespace L2
open PySem PySem.Spec PyProof.Rows
section
variable {X:Cx}{st:Stmt}{rest:List Stmt}{t u:TS}
def xX(t u:TS):TS:=fun D σ H=>∃N:St->Hp->Prop,t {D with nx:=N} σ H/\∀σ' H',N σ' H'->u D σ' H'
theorem aV(h1:PS X st t)(h2:PSs X rest u):PSs X (st::rest) (xX t u):=by
 intro pins s σ H D I h;obtain⟨N,h,k⟩:=h;refine wpAny_execs_cons (thn (h1 pins s σ H {D with nx:=N} I h) fun f s1 q=>?_);cases f with
 |next=>
  obtain⟨σ',H',I',q⟩:=q;exact h2 pins s1 σ' H' D I' (k _ _ q)
 |ret v=>exact q
 |brk=>exact q
 |cont=>exact q
end
theorem fT{e:Expr}{es:List Expr}{env:Env}(h:∀a p,e≠.Starred a p):starEach (e::es) env=(false,eval e env)::starEach es env:=by
 rw[starEach];intro a p z;exact h a p z
theorem ag{X:Cx}{e:Expr}{es:List Expr}{te:TE}{t:TA}(ha:PE X e te)(hr:PA X es t)(hs:∀a p,e≠Expr.Starred a p:=by intro _ _ h;cases h):PA X (e::es) (jB te t):=aj ha hr (fT hs)
theorem xY{X:Cx}{o e:Expr}{to:TE}{t:TA}{name:Str}{apos cpos:Pos}{T id:String}{r:V->List V->Hp->VK->Prop}(pa:PlainAttrs T)(slot:Slot T name id)(hty:typeOf (.builtin id)=pure (.type "method_descriptor"))(hm:MtR X id r)(ho:PE X o to)(ha:PA X [e] t)
  (hbase:attributeBase o name X.env (eval o X.env)=eval o X.env:=by rfl)(hline:(apos.endLine == cpos.line)=true:=by rfl)(hs:∀a p,e≠Expr.Starred a p:=by intro _ _ h;cases h):PE X (.Call (.Attribute o name apos) [e] [] cpos) (tBM X.K T r to t):=
 bY pa slot hty hm ho ha hbase (by rw[fT hs];rfl) hline (fT hs) rfl
theorem fH(a b:Str):(a++b).length=a.length+b.length:=by
 show(a.cps++b.cps).size=a.cps.size+b.cps.size;rw[Array.size_append]
end L2
namespace Nw
open PySem L2
open SL (aq srt)
abbrev uv:Stmt:=top 56
theorem kO:aD ["_law_cell","_law_left","_law_word"] ["_law_cell"] (au uv):=⟨rfl,rfl,rfl,by decide +kernel,rfl,by decide +kernel,by decide +kernel⟩
def qu:Sp:=fun vs H Q _=>∃(c:Int),vs=[.int c]/\∀z:Str,z.length<=40->Q (.str z) H
abbrev qv:Stmt:=top 57
theorem xZ:aD ["_law_script","_law_most","_law_bound"] ["_law_script","_law_most","_law_bound"] (au qv):=⟨rfl,rfl,rfl,by decide +kernel,rfl,by decide +kernel,by decide +kernel⟩
def ou(K:PySem.W.Frag):Sp:=fun vs H Q _=>∃(a:Addr) (xs:List V) (x y:V),vs=[.ref a,x,y]/\SqL K H a xs/\xs.length<=63/\Q x H
theorem boot_abs:bootBuiltins "abs"=some (.builtin "abs"):=by decide +kernel
theorem ii{α:Type}{xs:List α}{n:Int}(hn:n=(xs.length:Int))(h0:0<n)(c:Int):∃(j:Nat) (v:α),xs[j]? =some v/\c % n=(j:Int)/\atI xs (c % n)=some v:=by
 have h1:=Int.emod_nonneg c (Int.ne_of_gt h0);have h2:=Int.emod_lt_of_pos c h0;obtain⟨j,hj⟩:=Int.eq_ofNat_of_zero_le h1;have hjl:j<xs.length:=by omega
 have hg:xs[j]? =some xs[j]:=aae hjl;exact⟨j,xs[j],hg,hj,by rw[hj];exact aA hg⟩
theorem pow_step{l:Int}{e:Nat}(h0:0<=l)(h:l<26 ^ e)(h1:0<=l / 26 - 1):∃e',e=e'+1/\l / 26 - 1<26 ^ e':=by
 cases e with
 |zero=>simp at h;omega
 |succ e=>
  refine⟨e,rfl,?_⟩;rw[Int.pow_succ] at h;generalize (26:Int) ^ e=p at *;omega
section
variable {P:Program}{w:World}{K:PySem.W.Frag}{mg:Str->Option Value}{base:Heap}
theorem wH{f:Addr}{fd:FuncData}(F:Fun K "_law_room" "_law_room" qv f fd)(T:Txt mg):a0 P w K mg base CX0 1 f fd ["_law_script","_law_most","_law_bound"] (ou K):=by
 refine F.ok xZ (fun vs H Q E h=>?_) (fun cdv A outer s H vs Q E hr h=>?_)
 ·obtain⟨a,xs,x,y,rfl,_⟩:=h;rfl
 ·obtain⟨a,xs,x,y,rfl,hx,hl,k⟩:=h;refine⟨_,af (bi (aK pY (aC bq (by rfl) T.len PySem.boot_len (aj (pv 0) ac)) az (bB _)) cn aY) (ai (aI (pv 1))),?_⟩;refine⟨_,rfl,a,xs,rfl,.inl hx,_,_,rfl,rfl,_,rfl,?_⟩;rw[aai (by omega)];exact aJ ⟨_,rfl,k⟩
theorem x6{f:Addr}{fd:FuncData}(F:Fun K "_law_any_word" "_law_any_word" uv f fd)(T:Txt mg):a0 P w K mg base CX0 1 f fd ["_law_cell"] qu:=by
 refine F.ok kO (fun vs H Q E h=>?_) (fun cdv A outer s H vs Q E hr h=>?_)
 ·obtain⟨c,rfl,_⟩:=h;rfl
 ·obtain⟨c,rfl,k⟩:=h;refine⟨_,af (ao (i:=1) kO.nd rfl (Or.inl rfl) (bv eF (aC tI (by rfl) T.abs boot_abs (aj (pv 0) ac)) (bv xB az az)))
   (af (ao (i:=2) kO.nd rfl (Or.inl rfl) e8)
   (af (dU PassesOwn.never (aK yS (pv 1) az (bB _))
    (af (ao (i:=2) kO.nd rfl (Or.inl rfl) (bv iz (aE (r:=qc) mY e8 (bv eF (pv 1) az) (fun _ _=>rfl)) (pv 2)))
    (ai (ao (i:=1) kO.nd rfl (Or.inl rfl) (bv xA (bv jz (pv 1) az) az)))))
   (ai (aI (pv 2))))),?_⟩
  refine⟨_,rfl,c,rfl,_,_,rfl,rfl,⟨by decide,by decide,by decide⟩,_,_,rfl,rfl,(show(0:Int)<(10:Int) ^ (39:Int).toNat by decide +kernel),?_⟩;show tz _ _ _ _ _;dsimp only;generalize hn:(if c<0 then -c else c)=n;have b0:=Int.emod_nonneg n (show(10:Int) ^ (39:Int).toNat≠0 by decide +kernel);have b1:=Int.emod_lt_of_pos n (show(0:Int)<(10:Int) ^ (39:Int).toNat by decide +kernel);have b2:(10:Int) ^ (39:Int).toNat<26 ^ 28:=by decide +kernel
  generalize n % (10:Int) ^ (39:Int).toNat=l0 at b0 b1;refine⟨fun m σ H1=>∃(l:Int) (z:Str),σ=[some (.int c),some (.int l),some (.str z)]/\H1=H/\m=(l+1).toNat/\((l<0/\z.length<=30)\/(0<=l/\∃e,l<26 ^ e/\z.length+e<=29)),
   ⟨_,l0,"",rfl,rfl,rfl,.inr ⟨b0,28,Int.lt_trans b1 b2,by decide⟩⟩,?_⟩
  rintro m σ H1 ⟨l,z,rfl,rfl,rfl,alt⟩;refine⟨_,rfl,_,_,rfl,rfl,_,rfl,?_⟩
  by_cases hl:0<=l
  ·rw[aan hl];obtain⟨_,e,he,hz⟩:=alt.resolve_left fun q=>by omega
   refine a9 ⟨fun σ H2=>∃(l':Int) (z':Str),σ=[some (.int c),some (.int l'),some (.str z')]/\H2=H1/\l'<l/\((l'<0/\z'.length<=30)\/(0<=l'/\∃e,l'<26 ^ e/\z'.length+e<=29)),?_,?_⟩
   ·rintro σ' H2 ⟨l',z',rfl,rfl,q1,q2⟩;exact⟨_,by omega,l',z',rfl,rfl,rfl,q2⟩
   ·obtain⟨j,ch,hj,_,hat⟩:=ii (xs:=(Str.ofString "abcdefghijklmnopqrstuvwxyz").cps.toList) (n:=26) (by decide +kernel) (by decide) l;have hlen:((⟨#[ch]⟩:Str)++z).length=1+z.length:=fH _ _;refine⟨_,rfl,_,_,rfl,rfl,(show(0:Int)<26 by decide),_,_,ch,rfl,rfl,by decide +kernel,hat,_,rfl,_,_,rfl,rfl,?_,?_⟩
    ·show 1+z.length<=_;exact bE (by omega)
    refine⟨_,rfl,_,_,rfl,rfl,⟨by decide,by decide⟩,_,_,rfl,rfl,l / 26 - 1,_,rfl,rfl,by omega,?_⟩;rcases Int.lt_or_le (l / 26 - 1) 0 with q|q
    ·exact .inl ⟨q,by rw[hlen];omega⟩
    ·obtain⟨e',rfl,h2⟩:=pow_step hl he q;exact .inr ⟨q,e',h2,by rw[hlen];omega⟩
  ·rw[aai hl];refine aJ ⟨_,rfl,k z ?_⟩;rcases alt with q|q
   ·omega
   ·exact absurd q.1 hl
end
end Nw
namespace Nw
open PySem L2
open SL (aq srt)
abbrev jh:Stmt:=top 47
theorem eA:aD ["_law_cells","_law_wild","_law_rows","_law_k","_law_word","_law_left","_law_rights","_law_row"] ["_law_cells","_law_wild"] (au jh):=⟨rfl,rfl,rfl,by decide +kernel,rfl,by decide +kernel,by decide +kernel⟩
def b9:List Row:=[("S",["s","A"]),("A",["t","B"]),("B",["u"])]
def ji:List Str:=["S","A","B"]
def dJ:List Str:=["S","A","B","s","t","u","x"]
structure Drawn(k:Nat)(R:List Row):Prop where
 sh:∃more,R=b9++more/\more.length<=k
 lf:∀p∈R,p.1∈ji
 wd:∀p∈R,p.2.length<=14
 sg:∃U:List Str,U.length<=k/\∀p∈R,∀x∈p.2,x∈U++dJ
 ne:∀p∈R,¬("":Str)∈p.2
theorem x8:Drawn 0 b9 where
 sh:=⟨[],rfl,Nat.le_refl _⟩
 lf:=by decide +kernel
 wd:=by decide +kernel
 sg:=⟨[],Nat.le_refl _,by decide +kernel⟩
 ne:=by decide +kernel
theorem Drawn.eO{k:Nat}{R:List Row}(h:Drawn k R):Drawn (k+1) R where
 sh:=let ⟨m,e,q⟩:=h.sh;⟨m,e,by omega⟩
 lf:=h.lf
 wd:=h.wd
 sg:=let ⟨U,e,q⟩:=h.sg;⟨U,by omega,q⟩
 ne:=h.ne
theorem Drawn.add{k:Nat}{R:List Row}(h:Drawn k R){p:Row}{w:Str}(h1:p.1∈ji)(h2:p.2.length<=14)(h3:∀x∈p.2,x=w\/x∈dJ)(h4:w≠""):Drawn (k+1) (R++[p]) where
 ne:=fun q hq=>by
  rcases aak.mp hq with z|z
  ·exact h.ne q z
  ·rw[aaj.mp z];intro y;rcases h3 _ y with e|e
   ·exact h4 e.symm
   ·revert e;decide +kernel
 sh:=let ⟨m,e,q⟩:=h.sh;⟨m++[p],by rw[e,List.append_assoc],by rw[aag,aav];omega⟩
 lf:=fun q hq=>by
  rcases aak.mp hq with z|z
  ·exact h.lf q z
  ·rw[aaj.mp z];exact h1
 wd:=fun q hq=>by
  rcases aak.mp hq with z|z
  ·exact h.wd q z
  ·rw[aaj.mp z];exact h2
 sg:=let ⟨U,e,q⟩:=h.sg;⟨w::U,by rw[aau];omega,fun p' hp x hx=>by
  rcases aak.mp hp with z|z
  ·exact aad _ (q p' z x hx)
  ·rw[aaj.mp z] at hx;rcases h3 x hx with r|r
   ·rw[r];exact aac ..
   ·exact aad _ (aar _ r)⟩
theorem Drawn.toK{k m:Nat}{R:List Row}(dr:Drawn k R)(h:k<=m):Drawn m R:=
 ⟨let ⟨m,e,q⟩:=dr.sh;⟨m,e,by omega⟩,dr.lf,dr.wd,let ⟨U,e,q⟩:=dr.sg;⟨U,by omega,q⟩,dr.ne⟩
def lJ:Sp:=fun vs H Q _=>∃(a:Addr) (ns:List Int) (wb:Bool),vs=[.ref a,.bl wb]/\H a=some (.lst (ns.map V.int))/\ns.length<=4/\∀q R H',ab H H'->H q=none->a7 H' q R->Drawn ns.length R->Q (.ref q) H'
def lK(H0 H:Hp)(r:Addr)(v:V)(ss:List Str):Prop:=∃b,v=.ref b/\ak H b ss/\H0 b=none/\b≠r
def Chs(H0 H:Hp)(r:Addr)(sss:List (List Str)):Prop:=∃vs,H r=some (.lst vs)/\Paired (lK H0 H r) vs sss/\H0 r=none
theorem lK.mono{H0 H H':Hp}{r:Addr}{v:V}{ss:List Str}(s:ab H H')(h:lK H0 H r v ss):lK H0 H' r v ss:=by
 obtain⟨b,h1,h2,h3,h4⟩:=h;exact⟨b,h1,s _ _ h2,h3,h4⟩
theorem Chs.mono{H0 H H':Hp}{r:Addr}{sss:List (List Str)}(s:ab H H')(h:Chs H0 H r sss):Chs H0 H' r sss:=by
 obtain⟨vs,h1,h2,h3⟩:=h;exact⟨vs,s _ _ h1,Paired.bJ h2 fun _ _ q=>q.mono s,h3⟩
def dG(H0 H:Hp)(v:V)(ss:List Str):Prop:=∃b,v=.ref b/\ak H b ss/\H0 b=none
theorem dG.mono{H0 H H':Hp}{v:V}{ss:List Str}(s:ab H H')(h:dG H0 H v ss):dG H0 H' v ss:=by
 obtain⟨b,h1,h2,h3⟩:=h;exact⟨b,h1,s _ _ h2,h3⟩
theorem dG.mk{H0 H:Hp}{p:Addr}(s:ab H0 H)(hp:H p=none)(ss:List Str){xs:List V}(e:xs=ss.map V.str):dG H0 (upd H p (.lst xs)) (.ref p) ss:=
 ⟨p,rfl,by subst e;exact aa,s.free hp⟩
theorem Chs.mk{H0 H:Hp}{r:Addr}{vs:List V}{sss:List (List Str)}(s:ab H0 H)(h:Paired (dG H0 H) vs sss)(hr:H r=none):Chs H0 (upd H r (.lst vs)) r sss:=by
 refine⟨vs,aa,Paired.bJ h fun _ _ ⟨b,h1,h2,h3⟩=>?_,s.free hr⟩;have ne:b≠r:=aR h2 hr;exact⟨b,h1,ab.upd hr _ _ h2,h3,ne⟩
theorem Chs.app{H0 H:Hp}{r p:Addr}{ss:List Str}{sss:List (List Str)}(h:Chs H0 H r sss)(hp:ak H p ss)(h0:H0 p=none)(hne:p≠r):∃vs,H r=some (.lst vs)/\vs.length=sss.length/\Chs H0 (upd H r (.lst (vs++[.ref p]))) r (sss++[ss]):=by
 obtain⟨vs,h1,h2,h3⟩:=h;refine⟨vs,h1,Paired.length h2,vs++[.ref p],aa,?_,h3⟩;refine cG (Paired.bJ h2 fun _ _ ⟨b,q1,q2,q3,q4⟩=>⟨b,q1,?_,q3,q4⟩) ⟨p,rfl,?_,h0,hne⟩
 ·unfold ak;rw[am hne];exact hp
 ·unfold ak;rw[am q4];exact q2
theorem kP{α β:Type}{F:α->β->Prop}:∀{l₁:List α} {l₂:List β} {m₁:List α} {m₂:List β},Paired F l₁ l₂->Paired F m₁ m₂->Paired F (l₁++m₁) (l₂++m₂)
 |_,_,_,_,.nil,h=>h
 |_,_,_,_,.cons a t,h=>.cons a (kP t h)
theorem Chs.cat{H0 H:Hp}{r r' p:Addr}{xss yss:List (List Str)}(s:ab H0 H)(h:Chs H0 H r xss)(h':Chs H0 H r' yss)(hp:H p=none):∃xs ys,H r=some (.lst xs)/\H r'=some (.lst ys)/\xs.length=xss.length/\ys.length=yss.length/\Chs H0 (upd H p (.lst (xs++ys))) p (xss++yss):=by
 obtain⟨xs,h1,h2,h3⟩:=h;obtain⟨ys,k1,k2,k3⟩:=h';refine⟨xs,ys,h1,k1,Paired.length h2,Paired.length k2,xs++ys,aa,?_,s.free hp⟩;have key:∀{r:Addr} {v:V} {ss:List Str},lK H0 H r v ss->lK H0 (upd H p (.lst (xs++ys))) p v ss:=fun{r v ss} ⟨b,q1,q2,q3,q4⟩=>⟨b,q1,ab.upd hp _ _ q2,q3,aR q2 hp⟩
 exact kP (Paired.bJ h2 fun _ _ q=>key q) (Paired.bJ k2 fun _ _ q=>key q)
def chs(w:Str)(n:Nat):List (List Str):=[[],[w],[w,"A"],[w,"B","x"],[w,"S","x"],[w,"A","x","B"],w::List.replicate n "x",["A",w],["B","A"],["t",w],["u"],["A","B",w]]
theorem x9(w:Str){n:Nat}(hn:n<=13):∀ss∈chs w n,ss.length<=14/\∀x∈ss,x=w\/x∈dJ:=by
 have m1:(("A":Str))∈dJ:=by decide +kernel
 have m2:(("B":Str))∈dJ:=by decide +kernel
 have m3:(("S":Str))∈dJ:=by decide +kernel
 have m4:(("x":Str))∈dJ:=by decide +kernel
 have m5:(("t":Str))∈dJ:=by decide +kernel
 have m6:(("u":Str))∈dJ:=by decide +kernel
 intro ss hs;unfold chs at hs;simp only[List.mem_cons,List.not_mem_nil,or_false] at hs;rcases hs with rfl|rfl|rfl|rfl|rfl|rfl|rfl|rfl|rfl|rfl|rfl|rfl
 all_goals refine⟨?_,fun x hx=>?_⟩
 all_goals first
  |(cases hx;done)
  |(simp only[aau,List.length_nil,List.length_replicate];omega)
  |(simp only[List.mem_cons,List.not_mem_nil,or_false,List.mem_replicate] at hx;rcases hx with rfl|rfl|rfl|rfl <;> simp_all)
  |(simp only[List.mem_cons,List.not_mem_nil,or_false,List.mem_replicate] at hx;rcases hx with rfl|rfl|rfl <;> simp_all)
  |(simp only[List.mem_cons,List.not_mem_nil,or_false,List.mem_replicate] at hx;rcases hx with rfl|rfl <;> simp_all)
  |(simp only[List.mem_cons,List.not_mem_nil,or_false,List.mem_replicate] at hx;rcases hx with rfl|⟨_,rfl⟩ <;> simp_all)
  |(simp only[List.mem_cons,List.not_mem_nil,or_false,List.mem_replicate] at hx;simp_all)
theorem wI{H:Hp}{vs:List V}{R:List Row}(h:Paired (dE H) vs R)(hR:R≠[]){ar b:Addr}{ss:List Str}(ha:H ar=some (.lst vs))(hb:ak H b ss):b≠ar:=fun z=>by
 have hb:H b=some _:=hb;rw[z,ha] at hb;injection hb with hb;injection hb with hb;cases h with
 |nil=>exact hR rfl
 |cons h1 h2=>
  obtain⟨t,b,rfl,_⟩:=h1;cases ss with
  |nil=>cases hb
  |cons x r=>injection hb with q;cases q
end Nw
namespace L2
open PySem PySem.Spec PyProof.Rows
@[irreducible] def PEi (X:Cx) (e:Expr) (t:TE):Prop:=PE X e t
@[irreducible] def PTi (X:Cx) (e:Expr) (t:TT):Prop:=PT X e t
@[irreducible] def PAi (X:Cx) (es:List Expr) (t:TA):Prop:=PA X es t
@[irreducible] def PSi (X:Cx) (st:Stmt) (t:TS):Prop:=PS X st t
@[irreducible] def eC (X:Cx) (st:List Stmt) (t:TS):Prop:=PSs X st t
@[irreducible] def gY (X:Cx) (pos:Pos) (ks:List (Option Expr)) (vs:List Expr) (trs:List (TE×TE)):Prop:=PPs X pos ks vs trs
section
variable {X:Cx}{e a b c:Expr}{es:List Expr}{te ta tb:TE}{tt:TT}{tA:TA}{st:Stmt}{sts:List Stmt}{t u:TS}{pos p:Pos}
theorem PEi.of(h:PE X e te):PEi X e te:=by unfold PEi;exact h
theorem PEi.to(h:PEi X e te):PE X e te:=by unfold PEi at h;exact h
theorem PTi.of(h:PT X e tt):PTi X e tt:=by unfold PTi;exact h
theorem PTi.to(h:PTi X e tt):PT X e tt:=by unfold PTi at h;exact h
theorem PAi.of(h:PA X es tA):PAi X es tA:=by unfold PAi;exact h
theorem PAi.to(h:PAi X es tA):PA X es tA:=by unfold PAi at h;exact h
theorem PSi.of(h:PS X st t):PSi X st t:=by unfold PSi;exact h
theorem PSi.to(h:PSi X st t):PS X st t:=by unfold PSi at h;exact h
theorem eC.of(h:PSs X sts t):eC X sts t:=by unfold eC;exact h
theorem eC.to(h:eC X sts t):PSs X sts t:=by unfold eC at h;exact h
theorem gY.of{ks:List (Option Expr)}{vs:List Expr}{trs:List (TE×TE)}(h:PPs X pos ks vs trs):gY X pos ks vs trs:=by unfold gY;exact h
theorem gY.to{ks:List (Option Expr)}{vs:List Expr}{trs:List (TE×TE)}(h:gY X pos ks vs trs):PPs X pos ks vs trs:=by unfold gY at h;exact h
theorem eJ{i j pos}:PEi X (.Constant (.int i) j pos) (tC (.int i)):=.of az
theorem aG{x j pos}:PEi X (.Constant (.str x) j pos) (tC (.str x)):=.of e8
theorem iv(i:Nat){x:Str}{pos:Pos}(hN:X.N[i]? =some x:=by rfl)(hv:Vis X.env.scope x:=by first | exact Or.inl rfl | exact Or.inr (Or.inl rfl) | exact Or.inr (Or.inr rfl))(hd:(x == ("__debug__":Str))=false:=by decide)
  (hcd:(x == ("__classdict__":Str))=false:=by decide):PEi X (.Name x pos) (mV i):=.of (rm hN hv hd hcd)
theorem bf:PAi X [] p6:=.of ac
theorem aN(ha:PEi X e te)(hr:PAi X es tA)(hs:∀a p,e≠Expr.Starred a p:=by intro _ _ h;cases h):PAi X (e::es) (jB te tA):=.of (ag ha.to hr.to hs)
theorem bU(h:PAi X es tA):PEi X (.List es pos) (tL tA):=.of (aW h.to)
theorem jj{x1}(h:PAi X es tA):PEi X (.Tuple es x1 pos) (tK tA):=.of (aP h.to)
theorem dH{op:Operator}{r:R2}(ho:OpR X (binaryOp op) r)(ha:PEi X a ta)(hb:PEi X b tb):PEi X (.BinOp a op b pos) (tOp r ta tb):=.of (bv ho ha.to hb.to)
theorem fI{r:R2}(hr:IxR X r)(ha:PEi X a ta)(hb:PEi X b tb)(hs:pA b):PEi X (.Subscript a b pos) (tOp r ta tb):=.of (aE hr ha.to hb.to hs)
theorem pF{op:CmpOp}{r:R2}(ho:OpR X (compareOp op) r)(ha:PEi X a ta)(hb:PEi X b tb)(hm:behindInMarks op b=false):PTi X (.Compare a [op] [b] pos) (vG (tOp r ta tb)):=.of (aK ho ha.to hb.to hm)
theorem ya(h:PEi X e te)(he:∀whole,isTrue e X.env whole=(do let v ←whole;standAt e.pos;holding [v] (truthy v)):=by intro _;rfl):PTi X e (tB te):=.of (ci h.to he)
theorem ux{x:Str}{id:String}{r:List V->Hp->VK->Prop}(hc:dt X (.builtin id) r)(hg:Gl X x)(hm:X.mg x=none)(hv:bootBuiltins x=some (.builtin id))(ha:PAi X [e] tA)(hn:x≠"__name__":=by decide)(hdb:(x == ("__debug__":Str))=false:=by decide)
  (hs:∀a p,e≠Expr.Starred a p:=by intro _ _ h;cases h):PEi X (.Call (.Name x p) [e] [] pos) (tCB r tA):=.of (aC hc hg hm hv ha.to hn hdb (fT hs) rfl)
theorem yb{x:Str}{k:Nat}{ps:List Str}{sp:Sp}(D:Nw.Def X.prog X.w X.K X.mg X.base x k ps sp)(hr:bu k X.A)(hg:Gl X x)(ha:PAi X (e::es) tA)(hdb:(x == ("__debug__":Str))=false:=by decide)
  (hs:∀a p,e≠Expr.Starred a p:=by intro _ _ h;cases h)(hpl:(backTo pos (starEach es X.env)).any (·.1)=false:=by rfl):PEi X (.Call (.Name x p) (e::es) [] pos) (p8 sp [] E0 tA):=.of (Nw.aw D hr hg ha.to hdb (fT hs) hpl)
theorem kQ{o:Expr}{to:TE}{name:Str}{apos cpos:Pos}{T id:String}{r:V->List V->Hp->VK->Prop}(pa:PlainAttrs T)(slot:Slot T name id)(hty:typeOf (.builtin id)=pure (.type "method_descriptor"))(hm:MtR X id r)(ho:PEi X o to)(ha:PAi X [e] tA)
  (hbase:attributeBase o name X.env (eval o X.env)=eval o X.env:=by rfl)(hline:(apos.endLine == cpos.line)=true:=by rfl)(hs:∀a p,e≠Expr.Starred a p:=by intro _ _ h;cases h):PEi X (.Call (.Attribute o name apos) [e] [] cpos) (tBM X.K T r to tA):=.of (xY pa slot hty hm ho.to ha.to hbase hline hs)
theorem d4{i:Nat}{x:Str}{pos':Pos}(hN:X.N.Nodup)(hi:X.N[i]? =some x)(hx:Loc X.env.scope x)(he:PEi X e te)(hs:swapsWith e (some (.Name x pos')) pos.line X.env=pure false:=by rfl)(hf:X.fn x=true\/X.env.scope.names.lookup x=some .local:=by first | exact .inl rfl | exact .inr rfl | assumption) :
  PSi X (.Assign [.Name x pos'] e pos) (pU te (jy i)):=.of (ao hN hi hx he.to hs hf)
theorem ij(he:PEi X e te)(hs:swapsWith e none pos.line X.env=pure false:=by rfl):PSi X (.Expr e pos) (vF te):=.of (bp he.to hs)
theorem sv(he:PEi X e te):PSi X (.Return (some e) pos) (xo te):=.of (aI he.to)
theorem qx{a b:List Stmt}(hc:PTi X c tt)(ha:eC X a t)(hb:eC X b u):PSi X (.If c a b pos) (xp tt t u):=.of (bi hc.to ha.to hb.to)
theorem sx{tg iter:Expr}{body:List Stmt}{wi:TI}{g:TG}{tb:TS}(hp:PassesOwn (model X.prog X.w) X.A X.env X.xe)(hc:X.calm=true)(hi:PI X tg iter wi)(hg:PG X tg g)(hb:eC X body tb)
  (hs:∀x,foldedSetIterable iter X.env x=pure x:=by intro _;rfl):PSi X (.For tg iter body [] pos) (xy wi g tb):=.of (aO hp hc hi hg hb.to hs)
theorem lL:eC X [] vE:=.of aY
theorem fA(h:PSi X st t):eC X [st] t:=.of (ai h.to)
theorem eR(h1:PSi X st t)(h2:eC X sts u):eC X (st::sts) (tz t u):=.of (af h1.to h2.to)
theorem dO(h1:PSi X st t)(h2:eC X sts u):eC X (st::sts) (xX t u):=.of (aV h1.to h2.to)
theorem exI{Q:TS->Prop}(h:∃t,eC X sts t/\Q t):∃t,PSs X sts t/\Q t:=by
 obtain⟨t,h1,h2⟩:=h;exact⟨t,h1.to,h2⟩
theorem pG:gY X pos [] [] []:=.of wa
theorem d5{k v:Expr}{ks:List (Option Expr)}{vs:List Expr}{tk tv:TE}{trs:List (TE×TE)}(hk:PEi X k tk)(hv:PEi X v tv)(hr:gY X pos ks vs trs):gY X pos (some k::ks) (v::vs) ((tk,tv)::trs):=.of (tR hk.to hv.to hr.to)
theorem pH{keys:List (Option Expr)}{values:List Expr}{trs:List (TE×TE)}(h:gY X pos keys values trs)(hall:keys.all (·.isSome)=true)(hl:keys.length=values.length)(h0:keys≠[])(h15:keys.length<=15):PEi X (.Dict keys values pos) (vK trs):=.of (wc h.to hall hl h0 h15)
end
end L2
namespace Nw
open PySem L2
open SL (aq srt)
theorem pI(x:Str):∀n:Nat,(List.replicate n [V.str x]).flatten=(List.replicate n x).map V.str
 |0=>rfl
 |n+1=>by
  rw[List.replicate_succ,List.flatten_cons,pI x n,List.replicate_succ];rfl
theorem ints_get{ns:List Int}{i:Nat}(h:i<ns.length):(ns.map V.int)[i]? =some (.int (ns[i]'h)):=by
 rw[aax,aae h];rfl
theorem uy(i:Nat):(0:Int)+(i:Int)=(i:Int):=Int.zero_add _
section
variable {P:Program}{w:World}{K:PySem.W.Frag}{mg:Str->Option Value}{base:Heap}
theorem uz{f:Addr}{fd:FuncData}(F:Fun K "_law_drawn_rows" "_law_drawn_rows" jh f fd)(T:Txt mg)(D1:Def P w K mg base "_law_any_word" 1 ["_law_cell"] qu):a0 P w K mg base CX0 2 f fd ["_law_cells","_law_wild"] lJ:=by
 refine F.ok eA (fun vs H Q E h=>?_) (fun cdv A outer s H vs Q E hr h=>?_)
 ·obtain⟨a,ns,wb,rfl,_⟩:=h;rfl
 ·obtain⟨a,ns,wb,rfl,hA,hl4,k⟩:=h;have hu1:(A.deeper (PyProof.Rows.envOfC "_law_drawn_rows" (au jh) s.heap.objs.size f cdv)).in1.units<cLine:=cv hr;have hu2:(A.deeper (PyProof.Rows.envOfC "_law_drawn_rows" (au jh) s.heap.objs.size f cdv)).in1.in1.units<cLine:=Nat.lt_of_le_of_lt (Nat.add_le_add_left (by decide:2<=64) _) hr.units;refine exI ⟨_,dO (d4 (i:=2) eA.nd rfl (Or.inl rfl) (bU (aN (jj (aN aG (aN (bU (aN aG (aN aG bf))) bf)))
    (aN (jj (aN aG (aN (bU (aN aG (aN aG bf))) bf))) (aN (jj (aN aG (aN (bU (aN aG bf)) bf))) bf)))))
   (eR (sx PassesOwn.never rfl (eV (by rfl) T.rng (ag (aC bq (by rfl) T.len PySem.boot_len (ag (pv 0) ac)) ac)) (ap (i:=3) eA.nd rfl (Or.inl rfl))
    (eR (d4 (i:=4) eA.nd rfl (Or.inl rfl) (fI (r:=e9 K) bb (bU (aN aG (aN aG (aN aG (aN aG (aN aG bf)))))) (dH eF (iv 3) eJ) (fun _ _=>rfl)))
    (dO (qx (pF km (dH eF (fI (r:=e9 K) bb (iv 0) (iv 3) (fun _ _=>rfl)) eJ) eJ (bB _))
     (fA (d4 (i:=4) eA.nd rfl (Or.inl rfl) (dH iz (dH iz aG (yb D1 hr (by rfl) (aN (dH jz (fI (r:=e9 K) bb (iv 0) (iv 3) (fun _ _=>rfl)) eJ) bf))) (fI (r:=qc) mY aG (dH eF (iv 3) eJ) (fun _ _=>rfl)))))
     lL)
    (eR (d4 (i:=5) eA.nd rfl (Or.inl rfl) (fI (r:=e9 K) bb (bU (aN aG (aN aG (aN aG bf)))) (dH eF (fI (r:=e9 K) bb (iv 0) (iv 3) (fun _ _=>rfl)) eJ) (fun _ _=>rfl)))
    (dO (d4 (i:=6) eA.nd rfl (Or.inl rfl) (bU (aN (bU bf) (aN (bU (aN (iv 4) bf)) (aN (bU (aN (iv 4) (aN aG bf))) (aN (bU (aN (iv 4) (aN aG (aN aG bf))))
     (aN (bU (aN (iv 4) (aN aG (aN aG bf)))) bf)))))))
    (dO (ij (kQ PySem.F.plainAttrs_list PySem.F.slot_list_append PySem.F.type_list_append a8 (iv 6) (aN (bU (aN (iv 4) (aN aG (aN aG (aN aG bf))))) bf)))
    (dO (ij (kQ PySem.F.plainAttrs_list PySem.F.slot_list_append PySem.F.type_list_append a8 (iv 6) (aN (dH cD (bU (aN (iv 4) bf)) (dH xI (bU (aN aG bf))
     (dH eF (dH jz (fI (r:=e9 K) bb (iv 0) (iv 3) (fun _ _=>rfl)) eJ) eJ))) bf)))
    (dO (qx (ya (iv 1))
     (dO (d4 (i:=6) eA.nd rfl (Or.inl rfl) (dH cD (iv 6) (bU (aN (bU (aN aG (aN (iv 4) bf))) (aN (bU (aN aG (aN aG bf)))
      (aN (bU (aN aG (aN (iv 4) bf))) (aN (bU (aN aG bf)) bf)))))))
     (fA (ij (kQ PySem.F.plainAttrs_list PySem.F.slot_list_append PySem.F.type_list_append a8 (iv 6) (aN (bU (aN aG (aN aG (aN (iv 4) bf)))) bf)))))
     lL)
    (dO (d4 (i:=7) eA.nd rfl (Or.inl rfl) (jj (aN (iv 5) (aN (fI (r:=e9 K) bb (iv 6) (dH eF (dH jz (fI (r:=e9 K) bb (iv 0) (iv 3) (fun _ _=>rfl)) eJ)
     (ux bq (by rfl) T.len PySem.boot_len (aN (iv 6) bf))) (fun _ _=>rfl)) bf))))
    (fA (qx (pF (nO hu1 hu2) (iv 7) (iv 2) (by with_unfolding_all rfl))
     (fA (ij (kQ PySem.F.plainAttrs_list PySem.F.slot_list_append PySem.F.type_list_append a8 (iv 2) (aN (iv 7) bf)))) lL)))))))))))
   (fA (sv (iv 2)))),?_⟩
  refine⟨fun σ H1=>∃ar vs,σ=[some (.ref a),some (.bl wb),some (.ref ar),none,none,none,none,none]/\H ar=none/\ab H H1/\H1 ar=some (.lst vs)/\Paired (dE H1) vs b9,?_,?_⟩
  ·refine⟨(show 2<=sizeLine by decide),fun b1 hb1=>⟨(show 2<=sizeLine by decide),fun t1 ht1=>⟨(show 2<=sizeLine by decide),fun b2 hb2=>⟨(show 2<=sizeLine by decide),fun t2 ht2=>
    ⟨(show 1<=sizeLine by decide),fun b3 hb3=>⟨(show 2<=sizeLine by decide),fun t3 ht3=>⟨(show 3<=sizeLine by decide),fun ar har=>?_⟩⟩⟩⟩⟩⟩⟩
   have s1:=ab.upd (o:=HO.lst [V.str "s",V.str "A"]) hb1;have s2:=ab.upd (o:=HO.tup [V.str "S",V.ref b1]) ht1;have s3:=ab.upd (o:=HO.lst [V.str "t",V.str "B"]) hb2;have s4:=ab.upd (o:=HO.tup [V.str "A",V.ref b2]) ht2;have s5:=ab.upd (o:=HO.lst [V.str "u"]) hb3;have s6:=ab.upd (o:=HO.tup [V.str "B",V.ref b3]) ht3;have s7:=ab.upd (o:=HO.lst [V.ref t1,V.ref t2,V.ref t3]) har;have s67:=s6.trans s7;have s57:=s5.trans s67;have s47:=s4.trans s57;have s37:=s3.trans s47;have s27:=s2.trans s37;refine⟨ar,[V.ref t1,V.ref t2,V.ref t3],rfl,((((((s1.trans s2).trans s3).trans s4).trans s5).trans s6)).free har,s1.trans s27,aa,?_⟩;exact .cons ⟨t1,b1,rfl,s37 _ _ aa,s27 _ _ aa⟩ (.cons ⟨t2,b2,rfl,s57 _ _ aa,s47 _ _ aa⟩ (.cons ⟨t3,b3,rfl,s7 _ _ aa,s67 _ _ aa⟩ .nil))
  ·rintro σ H1 ⟨ar,vs0,rfl,har,s1,hv0,hp0⟩;refine⟨_,rfl,a,_,rfl,.inl (SqL.of (s1 _ _ hA)),_,rfl,?_,?_,eW (n:=(((ns.map V.int).length:Nat):Int).toNat)
    (fun i σ H2=>∃vs R o3 o4 o5 o6 o7,σ=[some (.ref a),some (.bl wb),some (.ref ar),o3,o4,o5,o6,o7]/\ab H H2/\H2 ar=some (.lst vs)/\Paired (dE H2) vs R/\Drawn i R)
    ⟨vs0,b9,_,_,_,_,_,rfl,s1,hv0,hp0,x8⟩ ?_ ?_⟩
   ·rw[aaa];omega
   ·rw[aaa];omega
   ·rintro i σ H2 hi ⟨vs,R,o3,o4,o5,o6,o7,rfl,s2,hv2,hp2,dr⟩;have hi:i<ns.length:=by rw[aaa] at hi;simpa using hi
    have hA2:=s2 _ _ hA;generalize hc:ns[i]'hi=c;have hat:atI (ns.map V.int) ((0:Int)+(i:Int))=some (.int c):=by rw[uy,←hc];exact aA (ints_get hi)
    have cell:∀{H3:Hp} {Q:VK},ab H2 H3->Q (.int c) H3->e9 K (.ref a) (.int (0+(i:Int))) H3 Q:=fun{H3 Q} s q=>⟨a,_,_,_,rfl,rfl,SqL.of (s _ _ hA2),hat,q⟩
    refine⟨(show 5<=sizeLine by decide),fun p0 hp0=>?_⟩;obtain⟨_,w0,hw0,_,hat0⟩:=ii (xs:=[V.str "a",V.str "Q",V.str "st",V.str "d",V.str "e"]) (n:=5) (by decide) (by decide) (0+(i:Int));obtain⟨ws0,rfl,hws0⟩:∃z,w0=V.str z/\z≠"":=by
     have hm:=aah hw0;simp only[List.mem_cons,List.not_mem_nil,or_false] at hm;rcases hm with rfl|rfl|rfl|rfl|rfl <;> exact⟨_,rfl,by decide +kernel⟩
    have sp0:=ab.upd (o:=HO.lst [V.str "a",V.str "Q",V.str "st",V.str "d",V.str "e"]) hp0;refine⟨_,rfl,_,_,rfl,rfl,(show(0:Int)<5 by decide),p0,_,_,_,rfl,rfl,SqL.of aa,hat0,?_⟩;refine⟨fun σ H3=>∃z:Str,σ=[some (.ref a),some (.bl wb),some (.ref ar),some (.int (0+(i:Int))),some (.str z),o5,o6,o7]/\ab H2 H3/\z≠"",?_,?_⟩
    ·refine⟨_,rfl,_,rfl,cell sp0 ⟨_,_,rfl,rfl,(show(0:Int)<7 by decide),rfl,_,rfl,?_⟩⟩;refine zM (fun _=>?_) fun _=>⟨ws0,rfl,sp0,hws0⟩
     refine⟨_,rfl,_,rfl,cell sp0 ⟨_,_,rfl,rfl,⟨by decide,by decide⟩,_,rfl,fun z hz=>?_⟩⟩;obtain⟨_,ch,_,_,hat1⟩:=ii (xs:=(Str.ofString "abcde").cps.toList) (n:=5) (by decide +kernel) (by decide) (0+(i:Int));refine⟨_,_,rfl,rfl,?_,_,rfl,_,_,rfl,rfl,(show(0:Int)<5 by decide),_,_,ch,rfl,rfl,by decide +kernel,hat1,_,_,rfl,rfl,?_,⟨_,rfl,sp0,fun e=>?_⟩⟩
     ·show 1+z.length<=_;exact bE (by omega)
     ·rw[fH];show 1+z.length+1<=_;exact bE (by omega)
     ·have e:=congrArg Str.length e;rw[fH,fH] at e;have e:1+z.length+1=0:=e;omega
    ·rintro σ H3 ⟨z,rfl,s3,hz0⟩;refine⟨(show 3<=sizeLine by decide),fun p1 hp1=>?_⟩;obtain⟨_,l0,hl0,_,hat2⟩:=ii (xs:=[V.str "S",V.str "A",V.str "B"]) (n:=3) (by decide) (by decide) c;obtain⟨l,rfl,hl⟩:∃l,l0=V.str l/\l∈ji:=by
      have hm:=aah hl0;simp only[List.mem_cons,List.not_mem_nil,or_false] at hm;rcases hm with rfl|rfl|rfl
      ·exact⟨_,rfl,by decide +kernel⟩
      ·exact⟨_,rfl,by decide +kernel⟩
      ·exact⟨_,rfl,by decide +kernel⟩
     have sp1:=s3.trans (ab.upd (o:=HO.lst [V.str "S",V.str "A",V.str "B"]) hp1);refine⟨_,rfl,_,rfl,cell sp1 ⟨_,_,rfl,rfl,(show(0:Int)<3 by decide),p1,_,_,_,rfl,rfl,SqL.of aa,hat2,?_⟩⟩;refine⟨fun σ H4=>∃r,σ=[some (.ref a),some (.bl wb),some (.ref ar),some (.int (0+(i:Int))),some (.str z),some (.str l),some (.ref r),o7]/\ab H2 H4/\Chs H2 H4 r [[],[z],[z,"A"],[z,"B","x"],[z,"S","x"]],?_,?_⟩
     ·generalize upd H3 p1 (HO.lst [V.str "S",V.str "A",V.str "B"])=H4 at sp1;refine⟨(show 0<=sizeLine by decide),fun b1 hb1=>⟨_,rfl,(show 1<=sizeLine by decide),fun b2 hb2=>⟨_,rfl,(show 2<=sizeLine by decide),fun b3 hb3=>⟨_,rfl,(show 3<=sizeLine by decide),fun b4 hb4=>⟨_,rfl,(show 3<=sizeLine by decide),fun b5 hb5=>
       ⟨(show 5<=sizeLine by decide),fun r hr0=>?_⟩⟩⟩⟩⟩⟩
      have t1:=ab.upd (o:=HO.lst []) hb1;have t2:=ab.upd (o:=HO.lst [V.str z]) hb2;have t3:=ab.upd (o:=HO.lst [V.str z,V.str "A"]) hb3;have t4:=ab.upd (o:=HO.lst [V.str z,V.str "B",V.str "x"]) hb4;have t5:=ab.upd (o:=HO.lst [V.str z,V.str "S",V.str "x"]) hb5;have u1:=sp1.trans t1;have u2:=u1.trans t2;have u3:=u2.trans t3;have u4:=u3.trans t4;have u5:=u4.trans t5;refine⟨r,rfl,u5.trans (ab.upd hr0),Chs.mk u5 ?_ hr0⟩;exact .cons ((dG.mk sp1 hb1 [] rfl).mono (((t2.trans t3).trans t4).trans t5)) (.cons ((dG.mk u1 hb2 [z] rfl).mono ((t3.trans t4).trans t5)) (.cons ((dG.mk u2 hb3 [z,"A"] rfl).mono (t4.trans t5))
       (.cons ((dG.mk u3 hb4 [z,"B","x"] rfl).mono t5) (.cons (dG.mk u4 hb5 [z,"S","x"] rfl) .nil))))
     ·rintro σ H4 ⟨r,rfl,s4,ch4⟩;refine⟨fun σ H5=>σ=[some (.ref a),some (.bl wb),some (.ref ar),some (.int (0+(i:Int))),some (.str z),some (.str l),some (.ref r),o7]/\ab H2 H5/\Chs H2 H5 r [[],[z],[z,"A"],[z,"B","x"],[z,"S","x"],[z,"A","x","B"]],?_,?_⟩
      ·obtain⟨vr,hvr,_,hr2⟩:=id ch4;refine⟨_,rfl,.inl ⟨rfl,_,SqL.of hvr⟩,_,rfl,(show 4<=sizeLine by decide),fun p hp=>?_⟩;have t:=ab.upd (o:=HO.lst [V.str z,V.str "A",V.str "x",V.str "B"]) hp;obtain⟨vr',h1,h2,h3⟩:=(ch4.mono t).app (p:=p) (ss:=[z,"A","x","B"]) aa (s4.free hp) (Ne.symm (aR hvr hp));exact⟨r,_,_,rfl,rfl,h1,by rw[h2];exact av (show 5<=1000 by decide),rfl,(s4.trans t).bz hr2,h3⟩
      ·rintro σ H5 ⟨rfl,s5,ch5⟩;clear ch4 s4 H4;obtain⟨n,hn,hn13⟩:∃n:Nat,c / 49 % 14=(n:Int)/\n<=13:=by
        have h1:=Int.emod_nonneg (c / 49) (show(14:Int)≠0 by decide);have h2:=Int.emod_lt_of_pos (c / 49) (show(0:Int)<14 by decide);obtain⟨n,hn⟩:=Int.eq_ofNat_of_zero_le h1;exact⟨n,hn,by omega⟩
       refine⟨fun σ H6=>σ=[some (.ref a),some (.bl wb),some (.ref ar),some (.int (0+(i:Int))),some (.str z),some (.str l),some (.ref r),o7]/\ab H2 H6/\Chs H2 H6 r [[],[z],[z,"A"],[z,"B","x"],[z,"S","x"],[z,"A","x","B"],z::List.replicate n "x"],?_,?_⟩
       ·obtain⟨vr,hvr,_,hr2⟩:=id ch5;refine⟨_,rfl,.inl ⟨rfl,_,SqL.of hvr⟩,_,rfl,(show 1<=sizeLine by decide),fun b1 hb1=>⟨(show 1<=sizeLine by decide),fun b2 hb2=>?_⟩⟩;have t1:=ab.upd (o:=HO.lst [V.str z]) hb1;have t2:=ab.upd (o:=HO.lst [V.str "x"]) hb2;refine⟨_,rfl,_,rfl,cell ((s5.trans t1).trans t2) ⟨_,_,rfl,rfl,⟨by decide,by decide⟩,_,_,rfl,rfl,(show(0:Int)<14 by decide),b2,(n:Int),[V.str "x"],rfl,congrArg V.int hn,aa,by omega,by omega,bE (by rw[Int.toNat_natCast,aav];omega),?_⟩⟩;rw[Int.toNat_natCast,pI];intro b3 hb3;have t3:=ab.upd (o:=HO.lst ((List.replicate n ("x":Str)).map V.str)) hb3;refine⟨b1,b3,_,_,rfl,rfl,t3 _ _ (t2 _ _ aa),aa,?_,fun b4 hb4=>?_⟩
        ·show 1+_<=_;rw[aaa,List.length_replicate];exact bE (by omega)
        have t4:=ab.upd (o:=HO.lst ([V.str z]++(List.replicate n ("x":Str)).map V.str)) hb4;have u:=((t1.trans t2).trans t3);obtain⟨vr',h1,h2,h3⟩:=(ch5.mono (u.trans t4)).app (p:=b4) (ss:=z::List.replicate n "x") aa ((s5.trans u).free hb4) (Ne.symm (aR (u _ _ hvr) hb4));exact⟨r,_,_,rfl,rfl,h1,by rw[h2];exact av (show 6<=1000 by decide),rfl,(s5.trans (u.trans t4)).bz hr2,h3⟩
       ·rintro σ H6 ⟨rfl,s6,ch6⟩;clear ch5 s5 H5;refine⟨fun σ H7=>∃r,σ=[some (.ref a),some (.bl wb),some (.ref ar),some (.int (0+(i:Int))),some (.str z),some (.str l),some (.ref r),o7]/\ab H2 H7/\∃L,Chs H2 H7 r L/\L≠[]/\∀ss∈L,ss∈chs z n,?_,?_⟩
        ·refine⟨_,rfl,_,rfl,?_⟩;cases wb with
         |false=>exact aJ ⟨r,rfl,s6,_,ch6,(fun e=>by cases e),fun ss hs=>List.mem_append_left (bs:=([["A",z],["B","A"],["t",z],["u"],["A","B",z]]:List (List Str))) hs⟩
         |true=>
         refine a9 ?_;refine⟨fun σ H7=>∃r,σ=[some (.ref a),some (.bl true),some (.ref ar),some (.int (0+(i:Int))),some (.str z),some (.str l),some (.ref r),o7]/\ab H2 H7/\Chs H2 H7 r [[],[z],[z,"A"],[z,"B","x"],[z,"S","x"],[z,"A","x","B"],z::List.replicate n "x",["A",z],["B","A"],["t",z],["u"]],?_,?_⟩
         ·refine⟨_,rfl,_,rfl,(show 2<=sizeLine by decide),fun b1 hb1=>⟨(show 2<=sizeLine by decide),fun b2 hb2=>⟨_,rfl,(show 2<=sizeLine by decide),fun b3 hb3=>⟨(show 1<=sizeLine by decide),fun b4 hb4=>⟨(show 4<=sizeLine by decide),fun r2 hr2=>?_⟩⟩⟩⟩⟩;have t1:=ab.upd (o:=HO.lst [V.str "A",V.str z]) hb1;have t2:=ab.upd (o:=HO.lst [V.str "B",V.str "A"]) hb2;have t3:=ab.upd (o:=HO.lst [V.str "t",V.str z]) hb3;have t4:=ab.upd (o:=HO.lst [V.str "u"]) hb4;have t5:=ab.upd (o:=HO.lst [V.ref b1,V.ref b2,V.ref b3,V.ref b4]) hr2;have u1:=s6.trans t1;have u2:=u1.trans t2;have u3:=u2.trans t3;have u4:=u3.trans t4;have cr2:Chs H2 _ r2 [["A",z],["B","A"],["t",z],["u"]]:=Chs.mk (vs:=[V.ref b1,V.ref b2,V.ref b3,V.ref b4]) u4 (.cons ((dG.mk s6 hb1 ["A",z] rfl).mono ((t2.trans t3).trans t4)) (.cons ((dG.mk u1 hb2 ["B","A"] rfl).mono (t3.trans t4)) (.cons ((dG.mk u2 hb3 ["t",z] rfl).mono t4)
           (.cons (dG.mk u3 hb4 ["u"] rfl) .nil)))) hr2
          have cr1:=ch6.mono ((((t1.trans t2).trans t3).trans t4).trans t5);obtain⟨xs,hx1,hx2,_⟩:=id cr1;obtain⟨ys,hy1,hy2,_⟩:=id cr2;have lx:=Paired.length hx2;have ly:=Paired.length hy2;refine⟨r,r2,xs,ys,rfl,rfl,hx1,hy1,by rw[lx,ly];exact bE (by simp),fun r3 hr3=>?_⟩;obtain⟨xs',ys',e1,e2,_,_,hcc⟩:=Chs.cat (u4.trans t5) cr1 cr2 hr3;rw[hx1] at e1;rw[hy1] at e2;cases e1;cases e2
          exact⟨r3,rfl,(u4.trans t5).trans (ab.upd hr3),hcc⟩
         ·rintro σ H7 ⟨r',rfl,s7,ch7⟩;obtain⟨vr,hvr,_,hr2⟩:=id ch7;refine⟨_,rfl,.inl ⟨rfl,_,SqL.of hvr⟩,_,rfl,(show 3<=sizeLine by decide),fun p hp=>?_⟩;have t:=ab.upd (o:=HO.lst [V.str "A",V.str "B",V.str z]) hp;obtain⟨vr',h1,h2,h3⟩:=(ch7.mono t).app (p:=p) (ss:=["A","B",z]) aa (s7.free hp) (Ne.symm (aR hvr hp));exact⟨r',_,_,rfl,rfl,h1,by rw[h2];exact av (show 11<=1000 by decide),r',rfl,(s7.trans t).bz hr2,_,h3,(fun e=>by cases e),fun ss hs=>hs⟩
        ·rintro σ H7 ⟨r',rfl,s7,L,ch7,hLne,hLin⟩;clear ch6 s6 H6;refine⟨fun σ H8=>∃t b ss,σ=[some (.ref a),some (.bl wb),some (.ref ar),some (.int (0+(i:Int))),some (.str z),some (.str l),some (.ref r'),some (.ref t)]/\ab H2 H8/\H8 t=some (.tup [.str l,.ref b])/\ak H8 b ss/\H2 t=none/\H2 b=none/\ss∈chs z n,?_,?_⟩
         ·obtain⟨vr,hvr,hpr,hr2⟩:=id ch7;have hlr:0<vr.length:=by rw[Paired.length hpr];exact List.length_pos_iff.mpr hLne
          obtain⟨j,vj,hj,_,hatj⟩:=ii (xs:=vr) (n:=(vr.length:Int)) rfl (by omega) (c / 3);obtain⟨ss,hss,b,rfl,hb,hb0,_⟩:=aT hpr j vj hj;refine⟨_,rfl,_,rfl,_,rfl,_,rfl,cell s7 ⟨_,_,rfl,rfl,⟨by decide,by decide⟩,_,rfl,r',vr,rfl,.inl (SqL.of hvr),_,_,rfl,rfl,(show(0:Int)<(vr.length:Int) by omega),r',vr,_,_,rfl,rfl,SqL.of hvr,hatj,(show 2<=sizeLine by decide),fun t ht=>?_⟩⟩;have st:=ab.upd (o:=HO.tup [V.str l,V.ref b]) ht;exact⟨t,b,ss,rfl,s7.trans st,aa,st _ _ hb,s7.free ht,hb0,hLin _ (aah hss)⟩
         ·rintro σ H8 ⟨t,b,ss,rfl,s8,ht8,hb8,ht0,hb0,hss⟩;have hv8:=s8 _ _ hv2;have hp8:Paired (dE H8) vs R:=Paired.bJ hp2 fun _ _ q=>q.mono s8
          obtain⟨hs14,hsg⟩:=x9 z hn13 ss hss;have hRne:R≠[]:=by
           obtain⟨m,e,_⟩:=dr.sh;rw[e];intro q;cases q
          have fresh:∀v∈vs,∀t' b' l',v=.ref t'->H8 t'=some (.tup [.str l',.ref b'])->t'≠t/\b'≠b:=fun v hv t' b' l' e1 e2=>by
           obtain⟨ix,hix⟩:=List.mem_iff_getElem?.mp hv;obtain⟨p,_,t2,b2,e3,q1,q2⟩:=aT hp2 ix v hix;rw[e1] at e3;cases e3
           have q3:=s8 _ _ q1;rw[e2] at q3;cases q3
           exact⟨aR q1 ht0,aR q2 hb0⟩
          refine⟨_,rfl,_,rfl,t,b,ar,(l,ss),R,rfl,rfl,ht8,hb8,⟨vs,hv8,hp8,fresh⟩,_,rfl,?_⟩
          by_cases hin:(l,ss)∈R
          ·rw[aan hin];exact aJ ⟨vs,R,_,_,_,_,_,rfl,s2.trans s8,hv8,hp8,dr.eO⟩
          ·rw[aai hin];have hlen:vs.length<=20:=by
            have h1:=Paired.length hp2;obtain⟨m,e,hm⟩:=dr.sh;have:R.length=3+m.length:=by rw[e,aag];rfl
            omega
           refine a9 ⟨_,rfl,.inl ⟨rfl,_,SqL.of hv8⟩,_,rfl,ar,_,_,rfl,rfl,hv8,av (by omega),vs++[V.ref t],R++[(l,ss)],_,_,_,_,_,rfl,(s2.trans s8).bz har,aa,?_,dr.add hl hs14 hsg hz0⟩;have nt:∀{t':Addr} {xs:List V},H8 t'=some (.tup xs)->t'≠ar:=fun{t' xs} e q=>by rw[q,hv8] at e;cases e
           have nb:∀{b':Addr} {rs:List Str},ak H8 b' rs->b'≠ar:=fun{b' rs} e=>wI hp8 hRne hv8 e
           refine cG (Paired.bJ hp8 fun _ _ ⟨t',b',q1,q2,q3⟩=>⟨t',b',q1,?_,?_⟩) ⟨t,b,rfl,?_,?_⟩
           ·rw[am (nt ht8)];exact ht8
           ·unfold ak;rw[am (nb hb8)];exact hb8
           ·rw[am (nt q2)];exact q2
           ·unfold ak;rw[am (nb q3)];exact q3
   ·rintro σ H2 ⟨vs,R,o3,o4,o5,o6,o7,rfl,s2,hv2,hp2,dr⟩;rw[aaa,Int.toNat_natCast] at dr;exact⟨_,rfl,k ar R H2 s2 har ⟨vs,hv2,hp2⟩ dr⟩
end
end Nw
namespace Nw
open PySem L2
open SL (aq srt)
abbrev uA:Stmt:=top 58
theorem gN:aD ["_law_rows","_law_cell","_law_first","_law_second","_law_names","_law_made","_law_left","_law_right","_law_inner"] ["_law_rows","_law_cell"] (au uA):=⟨rfl,rfl,rfl,by decide +kernel,rfl,by decide +kernel,by decide +kernel⟩
abbrev Ren:=List (Str×Str)
def fY:Ren:=[("S","First"),("A","Then"),("B","And"),("C","Part")]
def fZ:Ren:=[("S","Sab"),("A","Tab"),("B","Sob"),("C","Sat")]
def gOf(f:Ren)(x:Str):Str:=(f.lookup x).getD x
def bL(f:Ren)(p:Row):Row:=(gOf f p.1,p.2.map (gOf f))
def kvR(f:Ren):List (Key×V):=f.map fun e=>((Sum.inr e.1:Key),V.str e.2)
theorem pJ(x:Str):∀f:Ren,bc (kvR f) (Sum.inr x:Key)=(f.lookup x).map V.str
 |[]=>rfl
 |(n,y)::r=>by
  show bc (((Sum.inr n:Key),V.str y)::kvR r) (Sum.inr x)=_;rw[List.lookup_cons]
  by_cases q:n=x
  ·subst q;rw[bV rfl];simp
  ·have q':(x == n)=false:=beq_eq_false_iff_ne.mpr fun z=>q z.symm
   rw[q',bW (fun z=>q (Sum.inr.inj z)),pJ x r]
theorem iK:∀(more kvs:List (Key×V)),((kvs++more).map (·.1)).Nodup->fc kvs more=kvs++more
 |[],kvs,_=>(List.append_nil kvs).symm
 |e::r,kvs,nd=>by
  show fc (putK kvs e.1 e.2) r=_;have hn:bc kvs e.1=none:=by
   cases q:bc kvs e.1 with
   |none=>rfl
   |some v=>
    have hm:=we q;rw[aam,List.nodup_append] at nd;exact absurd rfl (nd.2.2 _ hm _ (by rw[aaw];exact aac ..))
  rw[fw _ hn,iK r (kvs++[(e.1,e.2)]) (by rw[List.append_assoc];exact nd),List.append_assoc];rfl
theorem qy{α β:Type}{F G:α->β->Prop}:∀{l₁:List α} {l₂:List β},Paired F l₁ l₂->(∀a b,a∈l₁->F a b->G a b)->Paired G l₁ l₂
 |_,_,.nil,_=>.nil
 |_,_,.cons h t,f=>.cons (f _ _ (aac ..) h) (qy t fun a b m=>f a b (aad _ m))
def qz:Sp:=fun vs H Q _=>∃(a:Addr) (c:Int) (R:List Row),vs=[.ref a,.int c]/\a7 H a R/\R.length<=20/\(∀p∈R,p.2.length<=20)/\∀q f H',ab H H'->(f=[]\/f=fY\/f=fZ)->a7 H' q (R.map (bL f))->Q (.ref q) H'
section
variable {P:Program}{w:World}{K:PySem.W.Frag}{mg:Str->Option Value}{base:Heap}
theorem yc{f:Addr}{fd:FuncData}(F:Fun K "_law_renamed" "_law_renamed" uA f fd):a0 P w K mg base CX0 1 f fd ["_law_rows","_law_cell"] qz:=by
 refine F.ok gN (fun vs H Q E h=>?_) (fun cdv A outer s H vs Q E hr h=>?_)
 ·obtain⟨a,c,R,rfl,_⟩:=h;rfl
 ·obtain⟨a,c,R,rfl,hR,hl20,hw20,k⟩:=h;have hu:=cv hr;refine exI ⟨_,eR (d4 (i:=2) gN.nd rfl (Or.inl rfl) (pH (d5 aG aG (d5 aG aG (d5 aG aG (d5 aG aG pG)))) rfl rfl (by intro z;cases z) (by decide)))
   (dO (d4 (i:=3) gN.nd rfl (Or.inl rfl) (pH (d5 aG aG (d5 aG aG (d5 aG aG (d5 aG aG pG)))) rfl rfl (by intro z;cases z) (by decide)))
   (dO (d4 (i:=4) gN.nd rfl (Or.inr rfl) (fI (r:=e9 K) bb (bU (aN (.of dY) (aN (iv 2) (aN (iv 3) bf)))) (dH eF (iv 1) eJ) (fun _ _=>rfl)))
   (eR (d4 (i:=5) gN.nd rfl (Or.inl rfl) (bU bf))
   (eR (sx PassesOwn.never rfl (aB (pv 0)) (cJ (n:=2) rfl (aH (ap (i:=6) gN.nd rfl (Or.inl rfl)) (aH (ap (i:=7) gN.nd rfl (Or.inl rfl)) cg)))
    (eR (.of (fe (k:=8) (aX.free (N:=["_law_sign","_law_names"]) (sel:=[none,some 4]) ["_law_names"] (by rfl) (by rfl) (by rfl) ?c1 ?c2 ?c3 ?c4 (by rfl) ?c5) rfl gN.nd rfl (Or.inl rfl) (aB (pv 7)) (fun s₃ H₃ fp=>ap (i:=0) (show(["_law_sign","_law_names"]:List Str).Nodup by decide) rfl (Or.inl rfl))
      (fun s₃ H₃ fp=>dc) (fun s₃ H₃ fp=>iD (X:=cC _ _ _ _ _ _ _) hu (pv 1) (pv 0) (pv 0) ⟨rfl,rfl,rfl,rfl⟩)))
    (fA (ij (kQ PySem.F.plainAttrs_list PySem.F.slot_list_append PySem.F.type_list_append a8 (iv 5) (aN (jj (aN (.of (iD hu (pv 4) (pv 6) (pv 6) ⟨rfl,rfl,rfl,rfl⟩)) (aN (iv 8) bf))) bf))))))
   (fA (sv (iv 5))))))),?_⟩
  case c1=>decide
  case c2=>decide
  case c3=>
   intro x hx;rcases List.mem_cons.mp hx with rfl|hx
   ·exact⟨rfl,rfl,_,rfl,rfl⟩
   ·cases hx
  case c4=>
   intro y hy;rcases List.mem_cons.mp hy with rfl|hy
   ·exact aac ..
   ·cases hy
  case c5=>
   intro j i h;rcases j with _|_|j
   ·cases h
   ·cases h;exact⟨"_law_names",aac ..,rfl,rfl⟩
   ·cases h
  have m1:fc [] (kvR fY)=kvR fY:=iK _ _ (by decide +kernel);have m2:fc [] (kvR fZ)=kvR fZ:=iK _ _ (by decide +kernel);obtain⟨vs,hv,hp⟩:=id hR;have hlen:vs.length=R.length:=Paired.length hp;refine fun d1 hd1=>⟨aa,kvR fY,rfl,by decide,?_⟩
  rw[m1,cA];have s1:=ab.upd (o:=HO.dK (kvR fY)) hd1;refine⟨fun σ H1=>∃d2,σ=[some (.ref a),some (.int c),some (.ref d1),some (.ref d2),none,none,none,none,none]/\ab H H1/\H1 d1=some (.dK (kvR fY))/\H1 d2=some (.dK (kvR fZ)),?_,?_⟩
  ·refine fun d2 hd2=>⟨aa,kvR fZ,rfl,by decide,?_⟩
   rw[m2,cA];have s2:=ab.upd (o:=HO.dK (kvR fZ)) hd2;exact⟨d2,rfl,s1.trans s2,s2 _ _ aa,aa⟩
  rintro σ H1 ⟨d2,rfl,s1,h1,h2⟩;refine⟨fun σ H2=>∃dn f,σ=[some (.ref a),some (.int c),some (.ref d1),some (.ref d2),some (.ref dn),none,none,none,none]/\ab H H2/\(f=[]\/f=fY\/f=fZ)/\H2 dn=some (.dK (kvR f)),?_,?_⟩
  ·refine fun d0 hd0=>⟨_,rfl,_,rfl,(show 3<=sizeLine by decide),fun p hp0=>?_⟩
   have t1:=ab.upd (o:=HO.dK []) hd0;have t2:=ab.upd (o:=HO.lst [V.ref d0,V.ref d1,V.ref d2]) hp0;obtain⟨j,v,hj,_,hat⟩:=ii (xs:=[V.ref d0,V.ref d1,V.ref d2]) (n:=3) (by rfl) (by decide) c;refine⟨_,rfl,_,_,rfl,rfl,(show(0:Int)<3 by decide),p,_,_,v,rfl,rfl,SqL.of aa,hat,?_⟩;have sf:=(s1.trans t1).trans t2;have hm:=aah hj;simp only[List.mem_cons,List.not_mem_nil,or_false] at hm;rcases hm with rfl|rfl|rfl
   ·exact⟨d0,[],rfl,sf,.inl rfl,t2 _ _ aa⟩
   ·exact⟨d1,fY,rfl,sf,.inr (.inl rfl),t2 _ _ (t1 _ _ h1)⟩
   ·exact⟨d2,fZ,rfl,sf,.inr (.inr rfl),t2 _ _ (t1 _ _ h2)⟩
  rintro σ H2 ⟨dn,f,rfl,s2,hf,hdn⟩;refine⟨by decide,fun q hq=>?_⟩;have hqH:H q=none:=s2.free hq;have sq:=ab.upd (o:=HO.lst []) hq;have get:∀{H3:Hp} (x:Str),H3 dn=some (.dK (kvR f))->∃o,bP H3 dn (.str x) o/\o.getD (.str x)=.str (gOf f x):=fun{H3} x h=>by
   refine⟨_,bP.k (k:=Sum.inr x) h,?_⟩;rw[pJ];unfold gOf;cases f.lookup x <;> rfl
  have hvs:=s2 _ _ hv;refine⟨_,rfl,a,rfl,⟨_,SqL.of (sq _ _ hvs)⟩,aM (K:=K) (a:=a) (xs:=vs)
   (fun i σ H3=>∃us o6 o7 o8,σ=[some (.ref a),some (.int c),some (.ref d1),some (.ref d2),some (.ref dn),some (.ref q),o6,o7,o8]/\ab H2 H3/\H3 q=some (.lst us)/\Paired (dE H3) us ((R.take i).map (bL f))/\∀v∈us,∃t b l,v=.ref t/\H3 t=some (.tup [.str l,.ref b])/\b≠q)
   ⟨[],_,_,_,rfl,sq,aa,.nil,fun v hv=>(by cases hv)⟩ ?_ ?_ ?_⟩
  ·rintro i σ H3 _ ⟨_,_,_,_,_,s3,_⟩;exact SqL.of (s3 _ _ hvs)
  ·rintro i x σ H3 hx ⟨us,o6,o7,o8,rfl,s3,hq3,hp3,hn3⟩;obtain⟨p,tt,cc,hpi,rfl,htt,hcc⟩:=bO hp hx;have hpm:p∈R:=aah hpi;have hil:i<R.length:=(aab.mp hpi).1;have hpw:=hw20 p hpm;have s23:=s2.trans s3;have hc3:H3 cc=some (.lst (p.2.map V.str)):=s23 _ _ hcc;have hdn3:=s3 _ _ hdn;refine⟨tt,_,rfl,SqT.of (s23 _ _ htt),rfl,_,_,rfl,_,_,rfl,rfl,?_⟩;refine⟨_,rfl,cc,rfl,⟨_,SqL.of hc3⟩,fun D hD=>cH (K:=K) (xs:=p.2.map V.str) (fun j τ H4=>(∃o,τ=[o,some (.ref dn)])/\H4=upd H3 D (.lst (((p.2.take j).map (gOf f)).map V.str))) ⟨⟨_,rfl⟩,rfl⟩ ?_ ?_ ?_⟩
   ·rintro j τ H4 ⟨_,rfl⟩;exact(ab.upd hD).seq (SqL.of hc3)
   ·rintro j x τ H4 hx ⟨⟨o,rfl⟩,rfl⟩;obtain⟨y,hy,rfl⟩:=aZ hx;have hjl:j<p.2.length:=(aab.mp hy).1;have sD:=ab.upd (o:=HO.lst (((p.2.take j).map (gOf f)).map V.str)) hD;obtain⟨o',g1,g2⟩:=get y (sD _ _ hdn3);refine⟨_,rfl,dn,rfl,.inl ⟨_,.inl (sD _ _ hdn3)⟩,_,rfl,_,rfl,o',g1,?_⟩;rw[g2];refine⟨_,aa,?_,⟨_,rfl⟩,?_⟩
    ·rw[aaa,aaa,aal];exact av (by omega)
    ·rw[cA,aap,hy,aam,aam];rfl
   ·rintro τ H4 ⟨_,rfl⟩;rw[aaa,aas];have sD:=ab.upd (o:=HO.lst ((p.2.map (gOf f)).map V.str)) hD;have hq4:=sD _ _ hq3;have hDq:D≠q:=Ne.symm (aR hq3 hD);obtain⟨o',g1,g2⟩:=get p.1 (sD _ _ hdn3);refine⟨_,rfl,.inl ⟨rfl,_,SqL.of hq4⟩,_,rfl,dn,rfl,.inl ⟨_,.inl (sD _ _ hdn3)⟩,_,rfl,_,rfl,o',g1,?_⟩;rw[g2];refine⟨_,rfl,(show 2<=sizeLine by decide),fun t ht=>?_⟩;have st:=ab.upd (o:=HO.tup [V.str (gOf f p.1),V.ref D]) ht;have sDt:=sD.trans st;have hq5:=st _ _ hq4;have htq:t≠q:=Ne.symm (aR hq4 ht);have hus:us.length<=20:=by
     have:=Paired.length hp3;rw[aaa,aal] at this;omega
    refine⟨q,_,_,rfl,rfl,hq5,av (by omega),us++[V.ref t],_,_,_,rfl,(s3.trans sDt).bz hq,aa,?_,?_⟩
    ·rw[aap,hpi,aam];refine cG (qy hp3 fun v r hm ⟨t',b',q1,q2,q3⟩=>⟨t',b',q1,?_,?_⟩) ⟨t,D,rfl,?_,?_⟩
     ·rw[am htq];exact aa
     ·unfold ak;rw[am hDq];exact st _ _ aa
     ·have:t'≠q:=fun z=>by rw[z,hq3] at q2;cases q2
      rw[am this];exact sDt _ _ q2
     ·obtain⟨t2,b2,l2,e1,e2,e3⟩:=hn3 v hm;rw[q1] at e1;cases e1;rw[q2] at e2;cases e2;unfold ak;rw[am e3];exact sDt _ _ q3
    ·intro v hv';rcases aak.mp hv' with z|z
     ·obtain⟨t',b',l',e1,e2,e3⟩:=hn3 v z;refine⟨t',b',l',e1,?_,e3⟩;have:t'≠q:=fun z=>by rw[z,hq3] at e2;cases e2
      rw[am this];exact sDt _ _ e2
     ·rw[aaj.mp z];refine⟨t,D,gOf f p.1,rfl,?_,hDq⟩;rw[am htq];exact aa
  ·rintro σ H3 ⟨us,o6,o7,o8,rfl,s3,hq3,hp3,_⟩;rw[hlen,aas] at hp3;exact⟨_,rfl,k q f H3 (s2.trans s3) hf ⟨us,hq3,hp3⟩⟩
end
end Nw
namespace Nw
open PySem L2
open SL (aq srt)
structure GF(g:Str->Str):Prop where
 s:g "s"="s"
 t:g "t"="t"
 u:g "u"="u"
 nd:[g "S",g "A",g "B"].Nodup
 ns:¬("s":Str)∈[g "S",g "A",g "B"]
 nt:¬("t":Str)∈[g "S",g "A",g "B"]
 nu:¬("u":Str)∈[g "S",g "A",g "B"]
theorem za{f:Ren}(hf:f=[]\/f=fY\/f=fZ):GF (gOf f):=by
 rcases hf with rfl|rfl|rfl
 all_goals exact⟨by decide +kernel,by decide +kernel,by decide +kernel,by decide +kernel,by decide +kernel,by decide +kernel,by decide +kernel⟩
theorem wJ{R:List Row}(h:Drawn 4 R){f:Ren}(hf:f=[]\/f=fY\/f=fZ):Good (R.map (bL f)):=by
 have G:=za hf;obtain⟨more,rfl,hm⟩:=h.sh;obtain⟨U,hU,hUm⟩:=h.sg;generalize hg:gOf f=g at G;have er:∀p:Row,bL f p=(g p.1,p.2.map g):=fun p=>by unfold bL;rw[hg]
 have mem:∀{p:Row},p∈b9->(g p.1,p.2.map g)∈(b9++more).map (bL f):=fun{p} hp=>aao.mpr ⟨p,List.mem_append_left _ hp,er p⟩
 have mS:(g "S",[g "s",g "A"])∈(b9++more).map (bL f):=mem (p:=("S",["s","A"])) (by decide +kernel);have mA:(g "A",[g "t",g "B"])∈(b9++more).map (bL f):=mem (p:=("A",["t","B"])) (by decide +kernel);have mB:(g "B",[g "u"])∈(b9++more).map (bL f):=mem (p:=("B",["u"])) (by decide +kernel);have lf:∀x∈((b9++more).map (bL f)).map (·.1),x∈[g "S",g "A",g "B"]:=fun x hx=>by
  obtain⟨p',hp',rfl⟩:=aao.mp hx;obtain⟨p,hp,rfl⟩:=aao.mp hp';rw[er];have:=h.lf p hp;show g p.1∈[g "S",g "A",g "B"];unfold ji at this;simp only[List.mem_cons,List.not_mem_nil,or_false] at this ⊢;rcases this with e|e|e
  ·exact .inl (by rw[e])
  ·exact .inr (.inl (by rw[e]))
  ·exact .inr (.inr (by rw[e]))
 have inL:∀x∈[g "S",g "A",g "B"],x∈((b9++more).map (bL f)).map (·.1):=fun x hx=>by
  simp only[List.mem_cons,List.not_mem_nil,or_false] at hx;rcases hx with e|e|e
  ·rw[e];exact aao.mpr ⟨_,mS,rfl⟩
  ·rw[e];exact aao.mpr ⟨_,mA,rfl⟩
  ·rw[e];exact aao.mpr ⟨_,mB,rfl⟩
 have sg:∀p∈(b9++more).map (bL f),∀x∈p.2,x∈(U++dJ).map g:=fun p' hp' x hx=>by
  obtain⟨p,hp,rfl⟩:=aao.mp hp';rw[er] at hx;obtain⟨y,hy,rfl⟩:=aao.mp hx;exact aao.mpr ⟨y,hUm p hp y hy,rfl⟩
 have lU:((U++dJ).map g).length<=11:=by
  rw[aaa,aag];show U.length+7<=11;omega
 have sm:Small ((b9++more).map (bL f)):=by
  refine⟨?_,fun p' hp'=>?_,⟨_,Nat.le_trans lU (by decide),sg⟩,?_,?_⟩
  ·rw[aaa,aag];show 3+more.length<=14;omega
  ·obtain⟨p,hp,rfl⟩:=aao.mp hp';rw[er];have:=h.wd p hp;show(p.2.map g).length<=20;rw[aaa];omega
  ·have h1:(aq (((b9++more).map (bL f)).flatMap (·.2))).length<=11:=Nat.le_trans (Gram.bT (SL.bF _) fun x hx=>by
    rw[SL.bt] at hx;obtain⟨p,hp,hx'⟩:=List.mem_flatMap.mp hx;exact sg p hp x hx') lU
   have h2:3<=(aq (((b9++more).map (bL f)).map (·.1))).length:=Gram.bT G.nd fun x hx=>by
    rw[SL.bt];exact inL x hx
   omega
  ·intro z;cases z
 have wd:∀{x:Str} {p:Row},p∈(b9++more).map (bL f)->x∈p.2->¬x∈[g "S",g "A",g "B"]->eQ ((b9++more).map (bL f)) x:=fun{x p} hp hx hn=>⟨⟨p,hp,hx⟩,fun z=>hn (lf x z)⟩
 have wu:=wd mB (x:="u") (by rw[G.u];exact aac ..) G.nu;have wt:=wd mA (x:="t") (by rw[G.t];exact aac ..) G.nt;have ws:=wd mS (x:="s") (by rw[G.s];exact aac ..) G.ns;have MB:Gram.Made ((b9++more).map (bL f)) (eQ ((b9++more).map (bL f))) (g "B"):=.mk mB fun s hs nw=>by
  rw[aaj.mp hs,G.u] at nw;exact absurd wu nw
 have MA:Gram.Made ((b9++more).map (bL f)) (eQ ((b9++more).map (bL f))) (g "A"):=.mk mA fun s hs nw=>by
  rcases List.mem_cons.mp hs with e|e
  ·rw[e,G.t] at nw;exact absurd wt nw
  ·rw[aaj.mp e];exact MB
 have MS:Gram.Made ((b9++more).map (bL f)) (eQ ((b9++more).map (bL f))) (g "S"):=.mk mS fun s hs nw=>by
  rcases List.mem_cons.mp hs with e|e
  ·rw[e,G.s] at nw;exact absurd ws nw
  ·rw[aaj.mp e];exact MA
 have fst:b7 ((b9++more).map (bL f))=g "S":=by
  show(bL f ("S",["s","A"])).1=_;rw[er]
 have RA:Gram.Reach (rl ((b9++more).map (bL f))) (g "S") (g "A"):=.step .refl (kF.mpr ⟨_,mS,aad _ (aac ..),inL _ (aad _ (aac ..))⟩);have RB:Gram.Reach (rl ((b9++more).map (bL f))) (g "S") (g "B"):=.step RA (kF.mpr ⟨_,mA,aad _ (aac ..),inL _ (aad _ (aad _ (aac ..)))⟩);refine⟨sm,fun x hx=>?_,fun x hx=>?_⟩
 ·have:=lf x hx;simp only[List.mem_cons,List.not_mem_nil,or_false] at this;rcases this with e|e|e
  ·rw[e];exact MS
  ·rw[e];exact MA
  ·rw[e];exact MB
 ·have:=lf x hx;rw[fst];simp only[List.mem_cons,List.not_mem_nil,or_false] at this;rcases this with e|e|e
  ·rw[e];exact .refl
  ·rw[e];exact RA
  ·rw[e];exact RB
def mK(ss:List Str):D:=.lst (ss.map D.str)
def jk(p:Row):D:=.tup [.str p.1,mK p.2]
def jK(R:List Row):D:=.lst (R.map jk)
theorem uB{H:Hp}{a:Addr}{ss:List Str}(h:ak H a ss):Rep H (.ref a) (mK ss):=
 .lst h (by rw[aaa,aaa]) fun i x d h1 h2=>by
  rw[aax] at h1 h2;cases e:ss[i]? with
  |none=>rw[e] at h1;cases h1
  |some y=>
   rw[e] at h1 h2;cases h1;cases h2
   exact .str y
theorem wK{H:Hp}{v:V}{p:Row}(h:dE H v p):Rep H v (jk p):=by
 obtain⟨t,b,rfl,h1,h2⟩:=h;refine .tup h1 rfl fun i x d e1 e2=>?_
 rcases i with _|_|i
 ·cases e1;cases e2;exact .str _
 ·cases e1;cases e2;exact uB h2
 ·cases e1
theorem ox{H:Hp}{a:Addr}{R:List Row}(h:a7 H a R):Rep H (.ref a) (jK R):=by
 obtain⟨vs,h1,h2⟩:=h;refine .lst h1 (by rw[aaa];exact Paired.length h2) fun i x d e1 e2=>?_
 obtain⟨p,hp,hr⟩:=aT h2 i x e1;rw[aax,hp] at e2;cases e2
 exact wK hr
theorem wL(ss:List Str):(mK ss).sz=1+ss.length:=by
 show 1+D.szs (ss.map D.str)=_
 congr 1
 induction ss with
 |nil=>rfl
 |cons x r ih=>show 1+D.szs (r.map D.str)=r.length+1;rw[ih];omega
theorem pK{b:Nat}:∀{R:List Row},(∀p∈R,p.2.length<=b)->(jK R).sz<=1+(b+3)*R.length
 |[],_=>by simp[jK,D.sz,D.szs]
 |p::r,h=>by
  have h1:=h p (aac ..);have h2:=pK (b:=b) (R:=r) fun q hq=>h q (aad _ hq)
  have e:(jK (p::r)).sz=(jk p).sz+(jK r).sz:=by
   show 1+(D.sz (jk p)+D.szs (r.map jk))=D.sz (jk p)+(1+D.szs (r.map jk));omega
  have e2:(jk p).sz=3+p.2.length:=by
   show 1+(1+((mK p.2).sz+0))=_;rw[wL];omega
  rw[e,e2,aau,Nat.mul_succ];omega
end Nw
namespace Nw
open PySem L2
open SL (aq srt)
abbrev uC:Stmt:=top 17
theorem zb:aD ["signs","empties"] ["signs","empties"] (au uC):=⟨rfl,rfl,rfl,by decide +kernel,rfl,by decide +kernel,by decide +kernel⟩
def mL:Sp:=fun vs H Q _=>∃(a b:Addr) (r es:List Str),vs=[.ref a,.ref b]/\ak H a r/\ak H b es/\r.length<=20/\∀H',ab H H'->Q (.bl (r.all fun s=>decide (s∈es))) H'
abbrev uD:Stmt:=top 18
theorem qA:aD ["signs","empties","begins","words","sign"] ["signs","empties","begins"] (au uD):=⟨rfl,rfl,rfl,by decide +kernel,rfl,by decide +kernel,by decide +kernel⟩
def mM:Sp:=fun vs H Q _=>∃(a b c:Addr) (r es:List Str) (f:Tab),vs=[.ref a,.ref b,.ref c]/\ak H a r/\ak H b es/\dS H c f/\r.length<=20/\(∀e∈f,e.2.length<=40)/\(∃U:List Str,U.length<=40/\∀z∈cb es f r,z∈U)/\
 ∀q H',ab H H'->H q=none->ak H' q (srt (aq (cb es f r)))->Q (.ref q) H'
section
variable {P:Program}{w:World}{K:PySem.W.Frag}{mg:Str->Option Value}{base:Heap}
theorem yd{f:Addr}{fd:FuncData}(F:Fun K "can_be_empty" "can_be_empty" uC f fd)(T:Txt mg):a0 P w K mg base CX0 1 f fd ["signs","empties"] mL:=by
 refine F.ok zb (fun vs H Q E h=>?_) (fun cdv A outer s H vs Q E hr h=>?_)
 ·obtain⟨a,b,r,es,rfl,_⟩:=h;rfl
 ·obtain⟨a,b,r,es,rfl,hA,hB,hl,k⟩:=h;refine⟨_,ai (aI (aC (nM rfl) (by rfl) T.all PyProof.Rows.boot_all (aj
   (cY (aX.free (N:=["sign","empties"]) (sel:=[none,some 1]) ["empties"] (by rfl) (by rfl) (by rfl) ?c1 ?c2 ?c3 ?c4 (by rfl) ?c5) rfl (aB (pv 0)) (fun s₃ H₃ fp=>ap (i:=0) (show(["sign","empties"]:List Str).Nodup by decide) rfl (Or.inl rfl)) (fun s₃ H₃ fp=>dc)
    (fun s₃ H₃ fp=>ll (r:=rIn K false) fO (pv 0) (pv 1) (by with_unfolding_all rfl))) ac))),?_⟩
  case c1=>decide
  case c2=>decide
  case c3=>
   intro x hx;rcases List.mem_cons.mp hx with rfl|hx
   ·exact⟨rfl,rfl,_,rfl,rfl⟩
   ·cases hx
  case c4=>
   intro y hy;rcases List.mem_cons.mp hy with rfl|hy
   ·exact aac ..
   ·cases hy
  case c5=>
   intro j i h;rcases j with _|_|j
   ·cases h
   ·cases h;exact⟨"empties",aac ..,rfl,rfl⟩
   ·cases h
  have hA:H a=some (.lst (r.map V.str)):=hA;have hB:H b=some (.lst (es.map V.str)):=hB;refine⟨_,rfl,a,rfl,⟨_,SqL.of hA⟩,fun D hD=>cH (K:=K) (xs:=r.map V.str) (fun j τ H4=>(∃o,τ=[o,some (.ref b)])/\H4=upd H D (.lst (((r.take j).map fun s=>decide (s∈es)).map V.bl))) ⟨⟨_,rfl⟩,rfl⟩ ?_ ?_ ?_⟩
  ·rintro j τ H4 ⟨_,rfl⟩;exact(ab.upd hD).seq (SqL.of hA)
  ·rintro j x τ H4 hx ⟨⟨o,rfl⟩,rfl⟩;obtain⟨y,hy,rfl⟩:=aZ hx;have hjl:j<r.length:=(aab.mp hy).1;have sD:=ab.upd (o:=HO.lst (((r.take j).map fun s=>decide (s∈es)).map V.bl)) hD;refine⟨_,rfl,_,rfl,b,_,rfl,.inl (SqL.of (sD _ _ hB)),rfl,bN es,_,aa,?_,⟨_,rfl⟩,?_⟩
   ·rw[aaa,aaa,aal];exact av (by omega)
   ·rw[cA,aap,hy,aam,aam];show upd H D (.lst (_++[V.bl (inV (.str y) (es.map V.str))]))=_;rw[bX];rfl
  ·rintro τ H4 ⟨_,rfl⟩;rw[aaa,aas];refine⟨D,r.map fun s=>decide (s∈es),rfl,SqL.of aa,?_⟩;have e:((r.map fun s=>decide (s∈es)).all id)=r.all fun s=>decide (s∈es):=by rw[List.all_map];rfl
   rw[e];exact k _ (ab.upd hD)
theorem ye{f:Addr}{fd:FuncData}(F:Fun K "words_to_begin_signs" "words_to_begin_signs" uD f fd)(T:Txt mg)(D1:Def P w K mg base "leading_signs" 1 ["signs","empties"] kG):a0 P w K mg base CX0 2 f fd ["signs","empties","begins"] mM:=by
 refine F.ok qA (fun vs H Q E h=>?_) (fun cdv A outer s H vs Q E hr h=>?_)
 ·obtain⟨a,b,c,r,es,f,rfl,_⟩:=h;rfl
 ·obtain⟨a,b,c,r,es,f,rfl,hA,hB,hC,hl,hf40,⟨U,hU,hUm⟩,k⟩:=h;have hu:=cv hr;refine⟨_,af (ao (i:=3) qA.nd rfl (Or.inl rfl) (aW ac))
   (af (aO PassesOwn.never rfl (aB (aw D1 hr (by rfl) (aj (pv 0) (aj (pv 1) ac)))) (ap (i:=4) qA.nd rfl (Or.inl rfl))
    (ai (bp (bY PySem.F.plainAttrs_list PySem.F.slot_list_extend PySem.F.type_list_extend dW (pv 3) (aj (iD hu (pv 2) (pv 4) (aW (aj (pv 4) ac)) ⟨rfl,rfl,rfl,rfl⟩) ac)))))
   (ai (aI (aC (cq rfl) (by rfl) T.srt PyProof.Rows.boot_sorted (aj (cX (dZ rfl) (by rfl) T.set (by decide +kernel) (aj (pv 3) ac)) ac))))),?_⟩
  refine⟨by decide,fun wl hwl=>?_⟩;have s0:=ab.upd (o:=HO.lst []) hwl;refine⟨_,rfl,_,rfl,a,b,r,es,rfl,s0 _ _ hA,s0 _ _ hB,by omega,fun ql H1 s1 n1 hS1=>?_⟩;have s01:=s0.trans s1;have hS1:H1 ql=some (.lst ((Gram.lead es r).map V.str)):=hS1;have hql:ql≠wl:=fun z=>by rw[z,aa] at n1;cases n1
  have hll:=Gram.eP es r;refine⟨ql,rfl,⟨_,SqL.of hS1⟩,aM (K:=K) (a:=ql) (xs:=(Gram.lead es r).map V.str)
   (fun i σ H2=>(∃o,σ=[some (.ref a),some (.ref b),some (.ref c),some (.ref wl),o])/\ab H H2/\H2 ql=some (.lst ((Gram.lead es r).map V.str))/\ak H2 wl (((Gram.lead es r).take i).flatMap fun s=>(f.lookup s).getD [s]))
   ⟨⟨_,rfl⟩,s01,hS1,s1 _ _ aa⟩ ?_ ?_ ?_⟩
  ·rintro i σ H2 _ ⟨_,_,h,_⟩;exact SqL.of h
  ·rintro i x σ H2 hx ⟨⟨o,rfl⟩,s2,hq2,hw2⟩;obtain⟨y,hy,rfl⟩:=aZ hx;have hil:i<(Gram.lead es r).length:=(aab.mp hy).1;have hw2':H2 wl=some (.lst ((((Gram.lead es r).take i).flatMap fun s=>(f.lookup s).getD [s]).map V.str)):=hw2;refine⟨_,rfl,.inl ⟨rfl,_,SqL.of hw2'⟩,_,rfl,c,rfl,?_,_,rfl,_,rfl,(show 1<=sizeLine by decide),fun q1 hq1=>?_⟩
   ·obtain⟨kvs,h1,_⟩:=hC.mono s2;exact .inl ⟨kvs,h1⟩
   have sq1:=ab.upd (o:=HO.lst [.str y]) hq1;have s3:=s2.trans sq1;obtain⟨kvs,h1,h2⟩:=hC.mono s3;obtain⟨o',l,hg,hv,hl'⟩:∃o' l,bP (upd H2 q1 (.lst [.str y])) c (.str y) o'/\o'.getD (.ref q1)=.ref l/\ak (upd H2 q1 (.lst [.str y])) l ((f.lookup y).getD [y]):=by
    rcases ej h2 y with ⟨e1,e2⟩|⟨ys,l,e1,e2,e3⟩
    ·refine⟨none,q1,.inl ⟨kvs,Sum.inr y,h1,rfl,e2.symm⟩,rfl,?_⟩;rw[e1];exact aa
    ·refine⟨some (.ref l),l,.inl ⟨kvs,Sum.inr y,h1,rfl,e2.symm⟩,rfl,?_⟩;rw[e1];exact e3
   refine⟨o',hg,?_⟩;rw[hv];have hb1:=fR (es:=es) hf40 ((Gram.lead es r).take i);have hb2:=fR (es:=es) hf40 [y];rw[List.flatMap_cons,List.flatMap_nil,List.append_nil] at hb2;rw[aal] at hb1;simp only[aav] at hb2;refine⟨wl,l,_,_,rfl,rfl,sq1 _ _ hw2',hl',by rw[aaa,aaa];exact bE (by omega),⟨_,rfl⟩,s3.bz hwl,by rw[am hql];exact sq1 _ _ hq2,?_⟩;unfold ak;rw[aa,aap,hy,List.flatMap_append,aam];simp
  ·rintro σ H2 ⟨⟨o,rfl⟩,s2,hq2,hw2⟩;rw[aaa,aas] at hw2;have hw2:ak H2 wl (cb es f r):=hw2;have hb1:(cb es f r).length<=40*(Gram.lead es r).length:=fR (es:=es) hf40 (Gram.lead es r);refine⟨_,rfl,wl,cb es f r,rfl,SqL.of hw2,by unfold scanBound;omega,fun q hq=>?_⟩;refine⟨q,aq (cb es f r),rfl,.inr (.inl aa),?_,fun q2 hq2=>?_⟩
   ·have:=Gram.bT (SL.bF (cb es f r)) fun z hz=>hUm z (SL.bt.mp hz)
    omega
   ·have s3:=s2.trans (ab.upd (o:=dm w q (aq (cb es f r))) hq);exact k q2 _ (s3.trans (ab.upd hq2)) (s3.free hq2) aa
end
end Nw
namespace L2
open PySem PySem.Spec PyProof.Rows
section
variable {X:Cx}
theorem Inv.wM{pins:List (Addr×Obj)}{σ:St}{H:Hp}{s:Shared}{h':Heap}{fp:List Addr}{a:Addr}{o:HO}{t':Nat}(I:Inv X pins σ H s)(k:∀b u,b ∉ fp->s.heap.get? b=some u->h'.get? b=some u)(hf:∀b∈fp,cT X pins H b)(ha:s.heap.objs.size<=a)
  (new:ba X.prog X.w (upd H a o) h' a o):Inv X pins σ (upd H a o) {s with heap:=h',toks:=t'}:=by
 have hn:H a=none:=I.hok.fresh ha;have nit:∀b u,H b=some u->b ∉ fp:=fun b u e z=>by rw[(hf b z).1] at e;cases e
 have up:∀b u,H b=some u->upd H a o b=some u:=fun b u e=>by rw[am (aR e hn)];exact e
 refine I.step (g':=s.gens) (d':=s.drawn) (ch:=fp) (fun b hb=>?_) (fun b o _ _ hc e _=>k b o hc e) (fun b o _ _ hc e _=>⟨o.slots,k b o hc e⟩) (fun b o' hc e n=>?_)
  (fun b o hc e=>⟨o,k b o hc e⟩) (fun b xs e=>up b _ e) (fun b o' u e=>up b _ e) (fun b ps e=>⟨#[],by rw[up b _ e];simp⟩) (fun m hm=>?_) (fun b u e=>?_) I.bare
 ·obtain⟨f0,f1,f2,f3,f4,f5⟩:=hf b hb;exact⟨f3,f1,f4,f5⟩
 ·rw[am (Nat.ne_of_lt (Nat.lt_of_lt_of_le (Heap.lt_size e) ha))];exact n
 ·obtain⟨o,es,ep,ho,r⟩:=hm;exact⟨o,es,ep,k _ o (fun z=>(hf _ z).2.1 rfl) ho,r⟩
 ·by_cases q:b=a
  ·subst q;rw[aa] at e;cases e
   exact new
  ·rw[am q] at e;refine(I.hok b u e).eO (fun c v hc q=>k c v ?_ q) (fun c q=>up c _ q) fun c xs q=>up c _ q
   rcases hc with z|z
   ·rw[z];exact nit b u e
   ·exact nit c _ z
end
def Ite(K:PySem.W.Frag)(a:Addr):It:=
 ⟨fun i H=>∃xs x,SqL K H a xs/\xs[i]? =some x,fun i H v H'=>∃t x,H t=none/\v=.ref t/\H'=upd H t (.tup [.int i,x])/\∀xs,SqL K H a xs->xs[i]? =some x,fun i H=>∃xs,SqL K H a xs/\xs.length<=i⟩
theorem sC{P:Program}{w:World}{K:PySem.W.Frag}{elts:List Expr}{x1}{pos:Pos}(a e it:Addr)(hne:e≠it):Turn P w K (.Tuple elts x1 pos) (Ite K a) [e,it] e (fun i h=>∃old,IsEnum h e it (i:Nat) old/\h.IsListIter it a i) where
 mem:=by simp
 obj:=fun i h st b hb=>by
  obtain⟨old,he,hi⟩:=st;rcases List.mem_cons.mp hb with z|z
  ·subst z;exact⟨_,he,fun v q=>by
    have q:Data.fields _=Data.cell v:=q;cases q⟩
  ·have z:b=it:=by simpa using z
   subst z;obtain⟨o,e,c,d⟩:=hi;exact⟨o,e,fun v q=>by rw[d] at q;cases q⟩
 keep:=fun i h h' st k=>by
  obtain⟨old,he,hi⟩:=st;exact⟨old,k e (by simp) _ he,hi.at fun o q=>k it (by simp) o q⟩
 item:=by
  intro X hP hw hK hc i pins s σ H E I hf st hg;subst hP hw hK;obtain⟨old,he,hi⟩:=st;obtain⟨xs,x,hq,hx⟩:=hg;obtain⟨its,rv,p,hz⟩:=I.list hq;obtain⟨u,hu,ru⟩:=rv.get hx;refine wpAny_pyNext_enum_item he hi p.isList (x:=u) (by simpa using hu) hne fun h1 heo hit1 ht1 hz1 hk1=>?_
  refine⟨_,rfl,wpAny_letOwnedTupleGo_enum heo fun h2 he2 hs2=>?_⟩;replace hs2:Heap.SameBut e h1 h2:=hs2;have helt:e<s.heap.objs.size:=Heap.lt_size he;have ht2:h2.get? s.heap.objs.size=some {cls:=.type "tuple",data:=.seq #[.int i s.toks,u]}:=(hs2.2 _ (Nat.ne_of_gt helt)).trans ht1;have I1:Inv X pins σ (upd H s.heap.objs.size (.tup [.int i,x])) {s with heap:=h2,toks:=s.toks+1}:=by
   refine I.wM (fp:=[e,it]) (fun b o hb q=>?_) hf (Nat.le_refl _) ?_
   ·have hbe:b≠e:=fun z=>hb (by simp[z])
    have hbi:b≠it:=fun z=>hb (by simp[z])
    exact(hs2.2 b hbe).trans (hk1 b o hbe hbi q)
   ·exact⟨(show 2<=sizeLine by decide),[.int i s.toks,u],.cons ⟨_,rfl⟩ (.cons ru .nil),⟨_,ht2,rfl,_,rfl⟩⟩
  refine⟨.ref s.heap.objs.size,_,I1,rfl,⟨_,x,I.fresh,rfl,rfl,fun ys hy=>by rw[I.mW hy hq];exact hx⟩,⟨u,?_,(hit1.extBut hs2.extBut (Ne.symm hne))⟩,fun b hb=>?_⟩
  ·have:((i+1:Nat):Int)=(i:Int)+1:=by push_cast;rfl
   rw[this];exact he2
  ·have f0:=(hf b hb).1;have hlt:b<s.heap.objs.size:=by
    rcases List.mem_cons.mp hb with z|z
    ·rw[z];exact helt
    ·have z:b=it:=by simpa using z
     rw[z];obtain⟨o,q,_⟩:=hi;exact Heap.lt_size q
   rw[am (Nat.ne_of_lt hlt)];exact f0
 done:=by
  intro X hP hw hK hc i pins s σ H E I hf st hg;subst hP hw hK;obtain⟨old,he,hi⟩:=st;obtain⟨xs,hq,hx⟩:=hg;obtain⟨its,rv,p,hz⟩:=I.list hq;obtain⟨f0,f1,f2,f3,f4,f5⟩:=hf it (by simp);have hl:=rv.length;exact wpAny_pyNext_enum_end (I.ok.hd hc) he hi p.isList (by simp;omega) fun h' eb=>⟨rfl,I.turned (t':=s.toks) (fun b o hb e=>eb b o hb e) f0 f1 f3 f4 f5⟩
 self:=fun _ _ _ _ _ st h=>by
  obtain⟨old,he,_⟩:=st;exact wpAny_pyIter_enum he h
def zc(K:PySem.W.Frag)(ta:TA):TI:=fun σ H R=>ta σ H fun vs H1=>∃a,vs=[.ref a]/\(∃xs,SqL K H1 a xs)/\R (Ite K a) H1
theorem sE:bootBuiltins "enumerate"=some (.type "enumerate"):=by decide +kernel
theorem ik{X:Cx}{elts:List Expr}{x1}{tpos:Pos}{a:Expr}{ta:TA}{p pos:Pos}(hg:Gl X "enumerate")(hm:X.mg "enumerate"=none)(ha:PA X [a] ta)(hs:starEach [a] X.env=[(false,eval a X.env)]:=by rfl):PI X (.Tuple elts x1 tpos) (.Call (.Name "enumerate" p) [a] [] pos) (zc X.K ta):=by
 intro pins s σ H R I h;refine Call_ (g6 I hg hm sE (PyProof.Rows.callWith_type1 (thn (ha pos pins s σ H _ I h) fun us s1 ⟨vs,H1,I1,r1,q1⟩=>?_) hs rfl));obtain⟨l,e,⟨xs,hq⟩,q⟩:=q1;subst e;cases r1 with
 |cons r rr=>
  cases rr
  cases r
  obtain⟨its,rv,pl,hz⟩:=I1.list hq;refine call_enumerate_list pl.isList fun h' he hi hz' hk=>?_
  refine wpAny_pyIter_enum he ?_;have I2:Inv X pins σ H1 {s1 with heap:=h'}:=I1.kept (t':=s1.toks) hk;refine⟨s1.heap.objs.size+1,[s1.heap.objs.size+1,s1.heap.objs.size],_,_,H1,rfl,I2,sC l _ _ (Nat.succ_ne_self _),⟨.none,he,hi⟩,fun b hb=>?_,q⟩;have hb':s1.heap.objs.size<=b:=by
   rcases List.mem_cons.mp hb with z|z
   ·rw[z];exact Nat.le_succ _
   ·have z:b=s1.heap.objs.size:=by simpa using z
    rw[z];exact Nat.le_refl _
  exact I1.gW hb' (I1.hok.fresh hb')
theorem gE{K:PySem.W.Frag}{a:Addr}{xs:List V}{g:TG}{tb:TS}{D:Ends}{σ:St}{H:Hp}(Pv:Nat->St->Hp->Prop)(h0:Pv 0 σ H)(hl:∀i σ H,i<=xs.length->Pv i σ H->SqL K H a xs)
  (hs:∀i x t σ H,xs[i]? =some x->Pv i σ H->H t=none->g (.ref t) σ (upd H t (.tup [.int i,x])) fun σ2 H2=>tb {D with nx:=Pv (i+1),ct:=Pv (i+1),bk:=D.nx} σ2 H2)(hd:∀σ H,Pv xs.length σ H->D.nx σ H) :
  ∃W:Nat->Nat->St->Hp->Prop,(∃m,W 0 m σ H)/\∀i m σ H,W i m σ H->
   ((Ite K a).stop i H/\D.nx σ H)\/((Ite K a).go i H/\∃N:St->Hp->Prop,(∀σ' H',N σ' H'->∃m',m'<m/\W (i+1) m' σ' H')/\∀x H',(Ite K a).yld i H x H'->g x σ H' fun σ2 H2=>tb {D with nx:=N,ct:=N,bk:=D.nx} σ2 H2):=by
 refine⟨fun i m σ H=>Pv i σ H/\i<=xs.length/\m=xs.length - i,⟨_,h0,Nat.zero_le _,rfl⟩,fun i m σ H ⟨p,hi,hm⟩=>?_⟩;have sq:=hl i σ H hi p;rcases Nat.lt_or_ge i xs.length with hlt|hge
 ·refine .inr ⟨⟨xs,xs[i],sq,aae hlt⟩,Pv (i+1),fun σ' H' n=>⟨xs.length - (i+1),by omega,n,hlt,rfl⟩,fun x H' y=>?_⟩;obtain⟨t,z,ht,rfl,rfl,hx⟩:=y;exact hs i z t σ H (hx xs sq) p ht
 ·have e:i=xs.length:=by omega
  subst e;exact .inl ⟨⟨xs,sq,Nat.le_refl _⟩,hd σ H p⟩
end L2
namespace Nw
open PySem L2
open SL (aq srt)
def Oc(R:List Row)(x:Str)(rest:List Str)(l:Str):Prop:=∃r j,(l,r)∈R/\r[j]? =some x/\rest=r.drop (j+1)
def fJ(R:List Row)(i j:Nat)(x:Str)(rest:List Str)(l:Str):Prop:=∃i' j' p,(i'<i\/(i'=i/\j'<j))/\R[i']? =some p/\p.2[j']? =some x/\rest=p.2.drop (j'+1)/\l=p.1
theorem iL{R:List Row}{x:Str}{rest:List Str}{l:Str}:¬fJ R 0 0 x rest l:=by
 rintro⟨i',j',p,h,_⟩;omega
theorem bx{R:List Row}{i j:Nat}{p:Row}{x y:Str}{rest:List Str}{l:Str}(hp:R[i]? =some p)(hy:p.2[j]? =some y):fJ R i (j+1) x rest l↔fJ R i j x rest l\/(x=y/\rest=p.2.drop (j+1)/\l=p.1):=by
 constructor
 ·rintro⟨i',j',p',h,h1,h2,h3,h4⟩
  by_cases q:i'=i/\j'=j
  ·obtain⟨rfl,rfl⟩:=q;rw[hp] at h1;cases h1;rw[hy] at h2;cases h2;exact .inr ⟨rfl,h3,h4⟩
  ·exact .inl ⟨i',j',p',by omega,h1,h2,h3,h4⟩
 ·rintro(⟨i',j',p',h,h1,h2,h3,h4⟩|⟨rfl,h3,h4⟩)
  ·exact⟨i',j',p',by omega,h1,h2,h3,h4⟩
  ·exact⟨i,j,p,.inr ⟨rfl,by omega⟩,hp,hy,h3,h4⟩
theorem jl{R:List Row}{i:Nat}{p:Row}{x:Str}{rest:List Str}{l:Str}(hp:R[i]? =some p):fJ R (i+1) 0 x rest l↔fJ R i p.2.length x rest l:=by
 constructor
 ·rintro⟨i',j',p',h,h1,h2,h3,h4⟩;refine⟨i',j',p',?_,h1,h2,h3,h4⟩;rcases Nat.lt_or_ge i' i with z|z
  ·exact .inl z
  ·have e:i'=i:=by omega
   subst e;rw[hp] at h1;cases h1;exact .inr ⟨rfl,(aab.mp h2).1⟩
 ·rintro⟨i',j',p',h,h1,h2,h3,h4⟩;exact⟨i',j',p',.inl (by omega),h1,h2,h3,h4⟩
theorem jm{R:List Row}{x:Str}{rest:List Str}{l:Str}:fJ R R.length 0 x rest l↔Oc R x rest l:=by
 constructor
 ·rintro⟨i',j',p',h,h1,h2,h3,rfl⟩;exact⟨p'.2,j',aah h1,h2,h3⟩
 ·rintro⟨r,j,hm,h2,h3⟩;obtain⟨i,hi⟩:=List.mem_iff_getElem?.mp hm;exact⟨i,j,(l,r),.inl (aab.mp hi).1,hi,h2,h3,rfl⟩
theorem Oc.row{R:List Row}{x:Str}{rest:List Str}{l:Str}(h:Oc R x rest l):∃r,(l,r)∈R/\∀s∈rest,s∈r:=by
 obtain⟨r,j,hm,_,rfl⟩:=h;exact⟨r,hm,fun s hs=>List.mem_of_mem_drop hs⟩
def Wd(R:List Row)(es rest:List Str)(z:Str):Prop:=∃s∈Gram.lead es rest,(s∈R.map (·.1)/\dF R s z)\/(¬s∈R.map (·.1)/\z=s)
theorem im{R:List Row}{es rest:List Str}{f:Tab}(hk:f.map (·.1)=ad R)(hc:∀e∈f,∀z,z∈e.2↔dF R e.1 z){z:Str}:z∈cb es f rest↔Wd R es rest z:=by
 rw[kN];unfold Wd;have key:∀s,z∈(f.lookup s).getD [s]↔(s∈R.map (·.1)/\dF R s z)\/(¬s∈R.map (·.1)/\z=s):=fun s=>by
  by_cases q:s∈R.map (·.1)
  ·obtain⟨ys,e1,e2⟩:=cj (f:=f) (x:=s) (by rw[hk];exact aF.mpr q);rw[e1];show z∈ys↔_;rw[hc _ e2 z];exact⟨fun h=>.inl ⟨q,h⟩,fun h=>h.elim (·.2) fun w=>absurd q w.1⟩
  ·have e:f.lookup s=none:=by
    cases e:f.lookup s with
    |none=>rfl
    |some ys=>
     have:=lookup_mem e;exact absurd (aF.mp (by rw[←hk];exact aao.mpr ⟨_,this,rfl⟩)) q
   rw[e];show z∈[s]↔_;rw[aaj];exact⟨fun h=>.inr ⟨q,h⟩,fun h=>h.elim (fun w=>absurd w.1 q) (·.2)⟩
 exact⟨fun⟨s,h1,h2⟩=>⟨s,h1,(key s).mp h2⟩,fun⟨s,h1,h2⟩=>⟨s,h1,(key s).mpr h2⟩⟩
theorem Wd.sign{R:List Row}{es rest:List Str}{z:Str}(h:Wd R es rest z){r:List Str}{l:Str}(hm:(l,r)∈R)(hs:∀s∈rest,s∈r):∃p∈R,z∈p.2:=by
 obtain⟨s,h1,⟨_,es',_,hb⟩|⟨_,rfl⟩⟩:=h
 ·exact hb.sign.2
 ·exact⟨_,hm,hs _ (Gram.iH _ _ _ h1)⟩
theorem Wd.congr{R:List Row}{es es' rest:List Str}(h:∀x,x∈es↔x∈es'){z:Str}(w:Wd R es rest z):Wd R es' rest z:=by
 unfold Wd at *;rw[←Gram.ge h];exact w
inductive Beh(R:List Row)(es:List Str):Str->Str->Prop
 |fin:Beh R es (b7 R) ""
 |word {l x z:Str} {rest:List Str}:Oc R x rest l->x∈R.map (·.1)->Wd R es rest z->Beh R es x z
 |up {l x z:Str} {rest:List Str}:Oc R x rest l->x∈R.map (·.1)->(∀s∈rest,s∈es)->Beh R es l z->Beh R es x z
def Behind(R:List Row)(x z:Str):Prop:=∃es,(∀y,y∈es↔Gram.Made R (fun _=>False) y)/\Beh R es x z
theorem mi{R:List Row}{es es':List Str}(h:∀x,x∈es↔x∈es'){x z:Str}(b:Beh R es x z):Beh R es' x z:=by
 induction b with
 |fin=>exact .fin
 |word h1 h2 h3=>exact .word h1 h2 (h3.congr h)
 |up h1 h2 h3 _ ih=>exact .up h1 h2 (fun s hs=>(h s).mp (h3 s hs)) ih
theorem gh{R:List Row}{es:List Str}(h:∀y,y∈es↔Gram.Made R (fun _=>False) y){x z:Str}:Behind R x z↔Beh R es x z:=
 ⟨fun⟨es',h',b⟩=>mi (fun y=>(h' y).trans (h y).symm) b,fun b=>⟨es,h,b⟩⟩
theorem wN{R:List Row}{es:List Str}{o k:Str->List Str}(hf:b7 R∈R.map (·.1))(ho:∀x z,z∈o x↔x∈R.map (·.1)/\((x=b7 R/\z="")\/∃rest l,Oc R x rest l/\Wd R es rest z))
  (hk:∀x y,y∈k x↔x∈R.map (·.1)/\∃rest,Oc R x rest y/\∀s∈rest,s∈es){x z:Str}:(∃y,Gram.Reach k x y/\z∈o y)↔Beh R es x z:=by
 constructor
 ·rintro⟨y,hr,hz⟩;have hb:Beh R es y z:=by
   obtain⟨hy,⟨rfl,rfl⟩|⟨rest,l,h1,h2⟩⟩:=(ho y z).mp hz
   ·exact .fin
   ·exact .word h1 hy h2
  clear hz
  induction hr with
  |refl=>exact hb
  |step _ hc ih=>
   obtain⟨hy,rest,h1,h2⟩:=(hk _ _).mp hc;exact ih (.up h1 hy h2 hb)
 ·intro h
  induction h with
  |fin=>exact⟨_,.refl,(ho _ _).mpr ⟨hf,.inl ⟨rfl,rfl⟩⟩⟩
  |word h1 h2 h3=>exact⟨_,.refl,(ho _ _).mpr ⟨h2,.inr ⟨_,_,h1,h3⟩⟩⟩
  |up h1 h2 h3 _ ih=>
   obtain⟨y,hr,hz⟩:=ih;exact⟨y,Gram.Reach.head ((hk _ _).mpr ⟨h2,_,h1,h3⟩) hr,hz⟩
theorem Beh.sign{R:List Row}{es:List Str}{x z:Str}(h:Beh R es x z):z=""\/∃p∈R,z∈p.2:=by
 induction h with
 |fin=>exact .inl rfl
 |word h1 _ h3=>
  obtain⟨r,hm,hs⟩:=h1.row;exact .inr (h3.sign hm hs)
 |up _ _ _ _ ih=>exact ih
theorem Canon.congr{P P':Str->Prop}{L:List Str}(h:Canon P L)(e:∀z,P z↔P' z):Canon P' L:=by
 obtain⟨D,h1,h2,h3⟩:=h;exact⟨D,h1,h2,fun z=>(h3 z).trans (e z)⟩
theorem Canon.mem{P:Str->Prop}{L:List Str}(h:Canon P L)(z:Str):z∈L↔P z:=by
 obtain⟨D,rfl,h2,h3⟩:=h;rw[SL.bM];exact h3 z
structure Tight(R:List Row):Prop where
 len:R.length<=7
 wid:∀p∈R,p.2.length<=14
 few:∃U:List Str,U.length<=11/\∀p∈R,∀x∈p.2,x∈U
theorem Tight.gB{R:List Row}(S:Tight R){D:List Str}(nd:D.Nodup)(h:∀z∈D,∃p∈R,z∈p.2):D.length<=11:=by
 obtain⟨U,hU,hm⟩:=S.few;exact Nat.le_trans (Gram.bT nd fun z hz=>by obtain⟨p,hp,hz'⟩:=h z hz;exact hm p hp z hz') hU
theorem mj(ka:KA)(v:Str->List Str):((tabOf ka v).map fun e=>e.2.length).sum=tot (ka.map (·.1)) v:=by
 unfold tabOf tot;rw[List.map_map,List.map_map];rfl
theorem iM(r:List Str)(k:Nat):dw (r.map V.str) (some ((k:Nat):Int)) none=(r.drop k).map V.str:=by
 unfold dw;rw[HT.j2,HT.g8,aaa];rcases Nat.lt_or_ge r.length k with z|z
 ·rw[Nat.min_eq_right (by omega),Nat.sub_self,List.take_zero,List.drop_eq_nil_of_le (by omega)];rfl
 ·rw[Nat.min_eq_left z,List.take_of_length_le (by rw[List.length_drop,aaa];omega),List.map_drop]
end Nw
namespace Nw
open PySem L2
open SL (aq srt)
structure WI(R:List Row)(es:List Str)(i j:Nat)(o k:Str->List Str):Prop where
 ow:∀x z,z∈o x↔x∈R.map (·.1)/\((x=b7 R/\z="")\/∃rest l,fJ R i j x rest l/\Wd R es rest z)
 lk:∀x y,y∈k x↔x∈R.map (·.1)/\∃rest,fJ R i j x rest y/\∀s∈rest,s∈es
 so:tot (ad R) o<=1+11*(14*i+j)
 sk:tot (ad R) k<=14*i+j
theorem pL(ks:List Str):tot ks (fun _=>[])=0:=by
 unfold tot
 induction ks with
 |nil=>rfl
 |cons x r ih=>rw[aaw,List.sum_cons,ih];rfl
theorem WI.zero{R:List Row}{es:List Str}(hf:b7 R∈R.map (·.1)):WI R es 0 0 (dq (fun _=>[]) (b7 R) (([]:List Str)++[("":Str)])) (fun _=>[]):=by
 refine⟨fun x z=>?_,fun x y=>?_,?_,?_⟩
 ·constructor
  ·intro h
   by_cases q:x=b7 R
   ·subst q;rw[b8] at h;exact⟨hf,.inl ⟨rfl,by simpa using h⟩⟩
   ·rw[cZ q] at h;cases h
  ·rintro⟨hx,⟨rfl,rfl⟩|⟨rest,l,h,_⟩⟩
   ·rw[b8];simp
   ·exact absurd h iL
 ·constructor
  ·intro h;cases h
  ·rintro⟨_,rest,h,_⟩;exact absurd h iL
 ·have:=gs (v:=fun _=>[]) (ys:=([]:List Str)++[("":Str)]) (cI R) (aF.mpr hf);rw[pL] at this;simp only[List.length_nil,aag,aav] at this;omega
 ·rw[pL];omega
theorem WI.skip{R:List Row}{es:List Str}{i j:Nat}{o k:Str->List Str}{p:Row}{y:Str}(h:WI R es i j o k)(hp:R[i]? =some p)(hy:p.2[j]? =some y)(n:¬y∈R.map (·.1)):WI R es i (j+1) o k:=by
 refine⟨fun x z=>?_,fun x z=>?_,by have:=h.so;omega,by have:=h.sk;omega⟩
 ·rw[h.ow];constructor
  ·rintro⟨hx,h1|⟨rest,l,h1,h2⟩⟩
   ·exact⟨hx,.inl h1⟩
   ·exact⟨hx,.inr ⟨rest,l,(bx hp hy).mpr (.inl h1),h2⟩⟩
  ·rintro⟨hx,h1|⟨rest,l,h1,h2⟩⟩
   ·exact⟨hx,.inl h1⟩
   ·rcases(bx hp hy).mp h1 with h1|⟨e,_⟩
    ·exact⟨hx,.inr ⟨rest,l,h1,h2⟩⟩
    ·exact absurd (e▸hx) n
 ·rw[h.lk];constructor
  ·rintro⟨hx,rest,h1,h2⟩;exact⟨hx,rest,(bx hp hy).mpr (.inl h1),h2⟩
  ·rintro⟨hx,rest,h1,h2⟩;rcases(bx hp hy).mp h1 with h1|⟨e,_⟩
   ·exact⟨hx,rest,h1,h2⟩
   ·exact absurd (e▸hx) n
theorem WI.row{R:List Row}{es:List Str}{i:Nat}{o k:Str->List Str}{p:Row}(h:WI R es i p.2.length o k)(hp:R[i]? =some p)(hw:p.2.length<=14):WI R es (i+1) 0 o k:=by
 refine⟨fun x z=>?_,fun x z=>?_,by have:=h.so;omega,by have:=h.sk;omega⟩
 ·rw[h.ow];simp only[jl hp]
 ·rw[h.lk];simp only[jl hp]
theorem WI.step{R:List Row}{es:List Str}{i j:Nat}{o k k':Str->List Str}{p:Row}{y:Str}(h:WI R es i j o k)(hp:R[i]? =some p)(hy:p.2[j]? =some y)(hys:y∈R.map (·.1))
  {ws:List Str}(hw:∀z,z∈ws↔Wd R es (p.2.drop (j+1)) z)(hl:ws.length<=11)
  (hk:((∀s∈p.2.drop (j+1),s∈es)/\k'=dq k y (k y++[p.1]))\/((¬∀s∈p.2.drop (j+1),s∈es)/\k'=k)):WI R es i (j+1) (dq o y (o y++ws)) k':=by
 refine⟨fun x z=>?_,fun x z=>?_,?_,?_⟩
 ·by_cases q:x=y
  ·subst q;rw[b8,aak,h.ow,hw];constructor
   ·rintro(⟨hx,h1|⟨rest,l,h1,h2⟩⟩|h1)
    ·exact⟨hx,.inl h1⟩
    ·exact⟨hx,.inr ⟨rest,l,(bx hp hy).mpr (.inl h1),h2⟩⟩
    ·exact⟨hys,.inr ⟨_,_,(bx hp hy).mpr (.inr ⟨rfl,rfl,rfl⟩),h1⟩⟩
   ·rintro⟨hx,h1|⟨rest,l,h1,h2⟩⟩
    ·exact .inl ⟨hx,.inl h1⟩
    ·rcases(bx hp hy).mp h1 with h1|⟨_,e,_⟩
     ·exact .inl ⟨hx,.inr ⟨rest,l,h1,h2⟩⟩
     ·rw[e] at h2;exact .inr h2
  ·rw[cZ q,h.ow];constructor
   ·rintro⟨hx,h1|⟨rest,l,h1,h2⟩⟩
    ·exact⟨hx,.inl h1⟩
    ·exact⟨hx,.inr ⟨rest,l,(bx hp hy).mpr (.inl h1),h2⟩⟩
   ·rintro⟨hx,h1|⟨rest,l,h1,h2⟩⟩
    ·exact⟨hx,.inl h1⟩
    ·rcases(bx hp hy).mp h1 with h1|⟨e,_⟩
     ·exact⟨hx,.inr ⟨rest,l,h1,h2⟩⟩
     ·exact absurd e q
 ·rcases hk with ⟨ha,rfl⟩|⟨ha,rfl⟩
  ·by_cases q:x=y
   ·subst q;rw[b8,aak,h.lk,aaj];constructor
    ·rintro(⟨hx,rest,h1,h2⟩|rfl)
     ·exact⟨hx,rest,(bx hp hy).mpr (.inl h1),h2⟩
     ·exact⟨hys,_,(bx hp hy).mpr (.inr ⟨rfl,rfl,rfl⟩),ha⟩
    ·rintro⟨hx,rest,h1,h2⟩;rcases(bx hp hy).mp h1 with h1|⟨_,_,e⟩
     ·exact .inl ⟨hx,rest,h1,h2⟩
     ·exact .inr e
   ·rw[cZ q,h.lk];constructor
    ·rintro⟨hx,rest,h1,h2⟩;exact⟨hx,rest,(bx hp hy).mpr (.inl h1),h2⟩
    ·rintro⟨hx,rest,h1,h2⟩;rcases(bx hp hy).mp h1 with h1|⟨e,_⟩
     ·exact⟨hx,rest,h1,h2⟩
     ·exact absurd e q
  ·rw[h.lk];constructor
   ·rintro⟨hx,rest,h1,h2⟩;exact⟨hx,rest,(bx hp hy).mpr (.inl h1),h2⟩
   ·rintro⟨hx,rest,h1,h2⟩;rcases(bx hp hy).mp h1 with h1|⟨_,e,_⟩
    ·exact⟨hx,rest,h1,h2⟩
    ·rw[e] at h2;exact absurd h2 ha
 ·have:=gs (v:=o) (ys:=o y++ws) (cI R) (aF.mpr hys);rw[aag] at this;have:=h.so;omega
 ·rcases hk with ⟨ha,rfl⟩|⟨ha,rfl⟩
  ·have:=gs (v:=k) (ys:=k y++[p.1]) (cI R) (aF.mpr hys);rw[aag,aav] at this;have:=h.sk;omega
  ·have:=h.sk;omega
theorem pM{ks:List Str}{v:Str->List Str}{x:Str}(h:x∈ks):(v x).length<=tot ks v:=by
 unfold tot
 induction ks with
 |nil=>cases h
 |cons y r ih=>
  rw[aaw,List.sum_cons];rcases List.mem_cons.mp h with e|e
  ·rw[e];omega
  ·have:=ih e;omega
abbrev uF:Stmt:=top 22
theorem fK:aD ["rows","empties","begins","own","links","left","right","place","sign","rest"] ["rows"] (au uF):=⟨rfl,rfl,rfl,by decide +kernel,rfl,by decide +kernel,by decide +kernel⟩
def qB:Sp:=fun vs H Q _=>∃(a:Addr) (R:List Row),vs=[.ref a]/\a7 H a R/\Good R/\Tight R/\∀d res H',ab H H'->H d=none->bg H' d res->res.map (·.1)=ad R->(∀e∈res,Canon (Behind R e.1) e.2)->Q (.ref d) H'
section
variable {P:Program}{w:World}{K:PySem.W.Frag}{mg:Str->Option Value}{base:Heap}
theorem yf{f:Addr}{fd:FuncData}(F:Fun K "words_behind" "words_behind" uF f fd)(T:Txt mg)(hEn:mg "enumerate"=none){uE:Value}(hE:mg "END"=some uE)(rE:RelV (.str "") uE)
  (D1:Def P w K mg base "empty_sorts" 4 ["rows"] ie)(D2:Def P w K mg base "words_to_begin" 5 ["rows"] mI)(D3:Def P w K mg base "lists_by_sort" 2 ["rows"] jH)
  (D4:Def P w K mg base "first_sort" 1 ["rows"] h8)(D5:Def P w K mg base "words_to_begin_signs" 2 ["signs","empties","begins"] mM)(D6:Def P w K mg base "can_be_empty" 1 ["signs","empties"] mL)
  (D7:Def P w K mg base "gathered" 2 ["own","links"] kH):a0 P w K mg base CX0 6 f fd ["rows"] qB:=by
 refine F.ok fK (fun vs H Q E h=>?_) (fun cdv A outer s H vs Q E hr h=>?_)
 ·obtain⟨a,R,rfl,_⟩:=h;rfl
 ·obtain⟨a,R,rfl,hR,hg,ht,k⟩:=h;have hu:=cv hr;have hr4:bu 4 _:=hr.mono (by decide);have hr2:bu 2 _:=hr.mono (by decide);have hr1:bu 1 _:=hr.mono (by decide);refine⟨_,af (ao (i:=1) fK.nd rfl (Or.inl rfl) (aw D1 hr4 (by rfl) (aj (pv 0) ac)))
   (af (ao (i:=2) fK.nd rfl (Or.inl rfl) (aw D2 hr (by rfl) (aj (pv 0) ac)))
   (af (ao (i:=3) fK.nd rfl (Or.inl rfl) (aw D3 hr2 (by rfl) (aj (pv 0) ac)))
   (af (ao (i:=4) fK.nd rfl (Or.inl rfl) (aw D3 hr2 (by rfl) (aj (pv 0) ac)))
   (af (bp (bY PySem.F.plainAttrs_list PySem.F.slot_list_append PySem.F.type_list_append a8 (bI hu (pv 3) (aw D4 hr1 (by rfl) (aj (pv 0) ac)) (fun _ _=>rfl)) (aj (bR (by rfl) hE rE) ac)))
   (af (aO PassesOwn.never rfl (aB (pv 0)) (cJ (n:=2) rfl (aH (ap (i:=5) fK.nd rfl (Or.inl rfl)) (aH (ap (i:=6) fK.nd rfl (Or.inl rfl)) cg)))
    (ai (aO PassesOwn.never rfl (ik (by rfl) hEn (aj (pv 6) ac)) (cJ (n:=2) rfl (aH (ap (i:=7) fK.nd rfl (Or.inl rfl)) (aH (ap (i:=8) fK.nd rfl (Or.inl rfl)) cg)))
     (ai (bi (fM (hG hu (pv 8) (pv 3)))
      (af (ao (i:=9) fK.nd rfl (Or.inl rfl) (cE d9 (pv 6) (cM (bv eE (pv 7) az)) c9))
      (af (bp (bY PySem.F.plainAttrs_list PySem.F.slot_list_extend PySem.F.type_list_extend dW (bI hu (pv 3) (pv 8) (fun _ _=>rfl)) (aj (aw D5 hr2 (by rfl) (aj (pv 9) (aj (pv 1) (aj (pv 2) ac)))) ac)))
      (ai (bi (ci (aw D6 hr1 (by rfl) (aj (pv 9) (aj (pv 1) ac))))
       (ai (bp (bY PySem.F.plainAttrs_list PySem.F.slot_list_append PySem.F.type_list_append a8 (bI hu (pv 4) (pv 8) (fun _ _=>rfl)) (aj (pv 5) ac))))
       aY))))
      aY)))))
   (ai (aI (aw D7 hr2 (by rfl) (aj (pv 3) (aj (pv 4) ac)))))))))),?_⟩
  have hR7:=ht.len;have hne:∃p R',R=p::R':=by
   cases R with
   |nil=>exact absurd rfl hg.small.ne
   |cons p R'=>exact⟨p,R',rfl⟩
  have hf:b7 R∈R.map (·.1):=by
   obtain⟨p,R',rfl⟩:=hne;exact aac ..
  refine⟨_,rfl,a,R,rfl,hR,hg,fun qe ms H1 s1 n1 nd1 hm1 hS1=>?_⟩;generalize hes:srt ms=es at hS1;have hem:∀y,y∈es↔Gram.Made R (fun _=>False) y:=fun y=>by rw[←hes,SL.bM];exact hm1 y
  refine⟨_,rfl,a,R,rfl,hR.mono s1,hg,fun db fb Hb s2 nb hB hkB hcB=>?_⟩;have s12:=s1.trans s2;have hcB':∀e∈fb,∀z,z∈e.2↔dF R e.1 z:=fun e he z=>(hcB e he).mem z
  have wd:∀{rest:List Str} {z:Str},z∈cb es fb rest↔Wd R es rest z:=fun{rest z}=>im hkB hcB'
  have fb40:∀e∈fb,e.2.length<=40:=fun e he=>by
   obtain⟨D,h1,h2,h3⟩:=hcB e he;rw[h1,SL.dz];exact Nat.le_trans (ht.gB h2 fun z hz=>by
    obtain⟨_,_,hb⟩:=(h3 z).mp hz;exact hb.sign.2) (by decide)
  have hEb:ak Hb qe es:=s2 _ _ hS1;have hRb:=hR.mono s12;obtain⟨vs,hv,hp⟩:=id hRb;have hlen:vs.length=R.length:=Paired.length hp;refine⟨_,rfl,a,R,rfl,hRb,hg.small,fun d1 ka1 H2 s3 g1 hk1 tv1=>?_⟩;refine⟨_,rfl,a,R,rfl,hRb.mono s3,hg.small,fun d2 ka2 H3 s4 g2 hk2 tv2=>?_⟩;have s34:=s3.trans s4;have tv1':=tv1.keep s4;have hkm1:∀x,x∈ka1.map (·.1)↔x∈R.map (·.1):=fun x=>by rw[hk1,aF]
  have hkm2:∀x,x∈ka2.map (·.1)↔x∈R.map (·.1):=fun x=>by rw[hk2,aF]
  have ap2:∀e∈ka2,e.2≠d1/\¬e.2∈ka1.map (·.2):=fun e he=>by
   have:=g2.fr e he;exact⟨fun z=>(by rw[z,tv1.dk] at this;cases this),ia tv1 this⟩
  have ap1:∀e∈ka1,e.2≠d2/\¬e.2∈ka2.map (·.2):=fun e he=>by
   refine⟨fun z=>?_,fun z=>?_⟩
   ·have:=g2.frd;rw[←z,tv1.at_ e he] at this;cases this
   ·obtain⟨e',he',q⟩:=aao.mp z;have:=g2.fr e' he';rw[q,tv1.at_ e he] at this;cases this
  have hd12:d1≠d2:=fun z=>by
   have:=g2.frd;rw[←z,tv1.dk] at this;cases this
  have gH1:∀e∈ka1,Hb e.2=none:=g1.fr;have gH2:∀e∈ka2,Hb e.2=none:=fun e he=>s3.free (g2.fr e he)
  have ae:∀(L:List Str) (y:Str),L.map V.str++[V.str y]=(L++[y]).map V.str:=fun L y=>by rw[aam];rfl
  obtain⟨al,hal,hgl,hll⟩:=tv1'.get g1 ((hkm1 (b7 R)).mpr hf);have hfst:∃p R',R=p::R'/\b7 R=p.1:=by
   obtain⟨p,R',rfl⟩:=hne;exact⟨p,R',rfl,rfl⟩
  obtain⟨p0,R',e0,ef⟩:=hfst;refine⟨_,rfl,_,rfl,a,p0,R',rfl,by rw[←e0];exact hRb.mono s34,?_⟩;rw[←ef];refine⟨d1,_,rfl,hgl,.inl ⟨rfl,_,SqL.of hll⟩,al,_,_,rfl,rfl,hll,by exact av (by decide),?_⟩;have tv1a:bC (upd H3 al (.lst ((([]:List Str)++[("":Str)]).map V.str))) d1 ka1 (dq (fun _=>[]) (b7 R) (([]:List Str)++[("":Str)])):=tv1'.app g1 hal [""];have tv2a:bC (upd H3 al (.lst ((([]:List Str)++[("":Str)]).map V.str))) d2 ka2 (fun _=>[]):=tv2.kJ (ap1 _ hal).1 (ap1 _ hal).2;have s5:ab Hb (upd H3 al (.lst ((([]:List Str)++[("":Str)]).map V.str))):=s34.bz (gH1 _ hal);have hwb0:=WI.zero (es:=es) hf;refine⟨_,rfl,a,rfl,⟨_,s5.seq (SqL.of hv)⟩,aM (K:=K) (a:=a) (xs:=vs)
   (fun i σ H4=>∃o k,(∃o1 o2 o3 o4 o5,σ=[some (.ref a),some (.ref qe),some (.ref db),some (.ref d1),some (.ref d2),o1,o2,o3,o4,o5])/\ab Hb H4/\bC H4 d1 ka1 o/\bC H4 d2 ka2 k/\WI R es i 0 o k)
   ⟨_,_,⟨_,_,_,_,_,rfl⟩,s5,tv1a,tv2a,hwb0⟩ ?_ ?_ ?_⟩
  ·rintro i σ H4 _ ⟨_,_,_,s6,_⟩;exact s6.seq (SqL.of hv)
  ·rintro i x σ H4 hx ⟨o,kk,⟨o1,o2,o3,o4,o5,rfl⟩,s6,t1,t2,wi⟩;obtain⟨p,t,c,hpi,rfl,htp,hc⟩:=bO hp hx;have hpm:(p.1,p.2)∈R:=aah hpi;have hpw:=ht.wid p hpm;have hil:i<R.length:=(aab.mp hpi).1;have hpl:p.1∈R.map (·.1):=aao.mpr ⟨_,hpm,rfl⟩;have hc:Hb c=some (.lst (p.2.map V.str)):=hc;refine⟨t,_,rfl,SqT.of (s6 _ _ htp),rfl,_,_,rfl,_,_,rfl,rfl,?_⟩;refine⟨_,rfl,c,rfl,⟨_,SqL.of (s6 _ _ hc)⟩,gE (K:=K) (a:=c) (xs:=p.2.map V.str)
    (fun j σ H5=>∃o k,(∃o3 o4 o5,σ=[some (.ref a),some (.ref qe),some (.ref db),some (.ref d1),some (.ref d2),some (.str p.1),some (.ref c),o3,o4,o5])/\ab Hb H5/\bC H5 d1 ka1 o/\bC H5 d2 ka2 k/\WI R es i j o k)
    ⟨_,_,⟨_,_,_,rfl⟩,s6,t1,t2,wi⟩ ?_ ?_ ?_⟩
   ·rintro j σ H5 _ ⟨_,_,_,s7,_⟩;exact SqL.of (s7 _ _ hc)
   ·rintro j x tt σ H5 hx ⟨o,kk,⟨o3,o4,o5,rfl⟩,s7,u1,u2,wi⟩ htt;obtain⟨y,hy,rfl⟩:=aZ hx;have hjl:j<p.2.length:=(aab.mp hy).1;have stt:=ab.upd (o:=HO.tup [V.int j,V.str y]) htt;generalize hH6:upd H5 tt (.tup [V.int j,V.str y])=H6 at stt;have htt6:H6 tt=some (.tup [V.int j,V.str y]):=by rw[←hH6,aa]
    replace u1:=u1.keep stt;replace u2:=u2.keep stt;replace s7:=s7.trans stt;refine⟨tt,_,rfl,SqT.of htt6,rfl,_,_,rfl,_,_,rfl,rfl,?_⟩;obtain⟨o',g',ho'⟩:=u1.has g1 y;refine⟨_,rfl,_,rfl,d1,o',rfl,g',_,rfl,?_⟩;rw[ho']
    by_cases hys:y∈R.map (·.1)
    ·rw[aan ((hkm1 y).mpr hys)];refine a9 ?_;refine⟨_,rfl,_,rfl,_,_,rfl,rfl,_,rfl,c,_,rfl,SqL.of (s7 _ _ hc),fun q hq=>?_⟩;have ecut:dw (p.2.map V.str) (some ((j:Int)+1)) none=(p.2.drop (j+1)).map V.str:=iM p.2 (j+1);rw[ecut];have hqa:∀e∈ka1,q≠e.2:=fun e he z=>by
      have:=u1.at_ e he;rw[←z,hq] at this;cases this
     have sq:=ab.upd (o:=HO.lst ((p.2.drop (j+1)).map V.str)) hq;generalize hH7:upd H6 q (.lst ((p.2.drop (j+1)).map V.str))=H7 at sq;have hq7:ak H7 q (p.2.drop (j+1)):=by unfold ak;rw[←hH7,aa]
     replace u1:=u1.keep sq;replace u2:=u2.keep sq;have s8:=s7.trans sq;obtain⟨al,hal,hgl,hll⟩:=u1.get g1 ((hkm1 y).mpr hys);have hrl:(p.2.drop (j+1)).length<=14:=by rw[List.length_drop];omega
     obtain⟨U,hU,hUm⟩:=ht.few;have hrs:∀s∈p.2.drop (j+1),s∈p.2:=fun s hs=>List.mem_of_mem_drop hs
     refine⟨_,rfl,_,rfl,d1,_,rfl,hgl,.inl ⟨rfl,_,SqL.of hll⟩,_,rfl,_,rfl,_,rfl,q,qe,db,p.2.drop (j+1),es,fb,rfl,hq7,s8 _ _ hEb,(hB.mono s8).l,by omega,fb40,⟨U,by omega,fun z hz=>?_⟩,fun qw H8 s9 n9 hw9=>?_⟩
     ·obtain⟨p',hp',hz'⟩:=(wd.mp hz).sign hpm hrs;exact hUm p' hp' z hz'
     generalize hws:srt (aq (cb es fb (p.2.drop (j+1))))=ws at hw9;have hwm:∀z,z∈ws↔Wd R es (p.2.drop (j+1)) z:=fun z=>by rw[←hws,SL.bM,SL.bt];exact wd
     have hwl:ws.length<=11:=by
      rw[←hws,SL.dz];exact ht.gB (SL.bF _) fun z hz=>(wd.mp (SL.bt.mp hz)).sign hpm hrs
     have hw9:H8 qw=some (.lst (ws.map V.str)):=hw9;have s10:=s8.trans s9;replace u1:=u1.keep s9;replace u2:=u2.keep s9;have hll8:=s9 _ _ hll;have so:=wi.so;have oy:=pM (v:=o) (aF.mpr hys);have kyl:=pM (v:=kk) (aF.mpr hys);have sk:=wi.sk;refine⟨al,qw,_,_,rfl,rfl,hll8,hw9,by rw[aaa,aaa];exact bE (by omega),?_⟩;rw[←aam];have u1b:bC (upd H8 al (.lst ((o y++ws).map V.str))) d1 ka1 (dq o y (o y++ws)):=u1.app g1 hal ws;have u2b:bC (upd H8 al (.lst ((o y++ws).map V.str))) d2 ka2 kk:=u2.kJ (ap1 _ hal).1 (ap1 _ hal).2;have s11:ab Hb (upd H8 al (.lst ((o y++ws).map V.str))):=s10.bz (gH1 _ hal);have hq9:ak (upd H8 al (.lst ((o y++ws).map V.str))) q (p.2.drop (j+1)):=by
      unfold ak;rw[am (hqa _ hal)];exact s9 _ _ hq7
     generalize hH9:upd H8 al (.lst ((o y++ws).map V.str))=H9 at u1b u2b s11 hq9;refine⟨_,rfl,_,rfl,q,qe,p.2.drop (j+1),es,rfl,hq9,s11 _ _ hEb,by omega,fun H10 s12'=>⟨_,rfl,?_⟩⟩;replace u1b:=u1b.keep s12';replace u2b:=u2b.keep s12';have s13:=s11.trans s12'
     by_cases hall:∀s∈p.2.drop (j+1),s∈es
     ·have e:((p.2.drop (j+1)).all fun s=>decide (s∈es))=true:=List.all_eq_true.mpr fun s hs=>aan (hall s hs)
      rw[e];refine a9 ?_;obtain⟨bl,hbl,hgb,hlb⟩:=u2b.get g2 ((hkm2 y).mpr hys);refine⟨_,rfl,_,rfl,d2,_,rfl,hgb,.inl ⟨rfl,_,SqL.of hlb⟩,_,rfl,bl,_,_,rfl,rfl,hlb,by rw[aaa];exact av (by omega),?_⟩;rw[ae];exact⟨_,_,⟨_,_,_,rfl⟩,s13.bz (gH2 _ hbl),u1b.kJ (ap2 _ hbl).1 (ap2 _ hbl).2,u2b.app g2 hbl [p.1],wi.step hpi hy hys hwm hwl (.inl ⟨hall,rfl⟩)⟩
     ·have e:((p.2.drop (j+1)).all fun s=>decide (s∈es))=false:=by
       cases q:((p.2.drop (j+1)).all fun s=>decide (s∈es)) with
       |false=>rfl
       |true=>exact absurd (fun s hs=>of_decide_eq_true (List.all_eq_true.mp q s hs)) hall
      rw[e];exact aJ ⟨_,_,⟨_,_,_,rfl⟩,s13,u1b,u2b,wi.step hpi hy hys hwm hwl (.inr ⟨hall,rfl⟩)⟩
    ·rw[aai fun z=>hys ((hkm1 y).mp z)];exact aJ ⟨_,_,⟨_,_,_,rfl⟩,s7,u1,u2,wi.skip hpi hy hys⟩
   ·rintro σ H5 ⟨o,kk,⟨o3,o4,o5,rfl⟩,s7,u1,u2,wi⟩;rw[aaa] at wi;exact⟨_,_,⟨_,_,_,_,_,rfl⟩,s7,u1,u2,wi.row hpi hpw⟩
  ·rintro σ H4 ⟨o,kk,⟨o1,o2,o3,o4,o5,rfl⟩,s6,t1,t2,wi⟩;rw[hlen] at wi;have ho:∀x z,z∈o x↔x∈R.map (·.1)/\((x=b7 R/\z="")\/∃rest l,Oc R x rest l/\Wd R es rest z):=fun x z=>by
    rw[wi.ow];simp only[jm]
   have hkk:∀x y,y∈kk x↔x∈R.map (·.1)/\∃rest,Oc R x rest y/\∀s∈rest,s∈es:=fun x y=>by
    rw[wi.lk];simp only[jm]
   have gO:∀x,getL (tabOf ka1 o) x=o x:=fun x=>by
    rw[ev]
    by_cases q:x∈ka1.map (·.1)
    ·rw[if_pos q]
    ·rw[if_neg q]
     symm
     apply List.eq_nil_iff_forall_not_mem.mpr;intro y hy;exact q ((hkm1 x).mpr ((ho x y).mp hy).1)
   have gL:∀x,getL (tabOf ka2 kk) x=kk x:=fun x=>by
    rw[ev]
    by_cases q:x∈ka2.map (·.1)
    ·rw[if_pos q]
    ·rw[if_neg q]
     symm
     apply List.eq_nil_iff_forall_not_mem.mpr;intro y hy;exact q ((hkm2 x).mpr ((hkk x y).mp hy).1)
   have hkl:∀{ka:KA},ka.map (·.1)=ad R->ka.length<=14:=fun{ka} h=>by
    have:=congrArg List.length h;rw[aaa] at this;have:=dM R;omega
   have dR:∀{d:Addr} {ka:KA} {v:Str->List Str},bC H4 d ka v->bg H4 d (tabOf ka v):=fun{d ka v} tv=>by
    obtain⟨kv,h1,h2⟩:=tv.mH;refine⟨kvsOf ka,tv.dk,?_⟩;rcases h1 with h1|⟨_,h1⟩
    ·rw[tv.dk] at h1;cases h1
     exact h2
    ·rw[tv.dk] at h1;cases h1
   obtain⟨U,hU,hUm⟩:=ht.few;refine⟨_,rfl,_,rfl,d1,d2,tabOf ka1 o,tabOf ka2 kk,rfl,hd12,dR t1,dR t2,⟨?_,?_,?_,?_⟩,?_,?_,⟨"" :: U,by rw[aau];omega,?_⟩,?_⟩
   ·rw[bw];exact g2.ndk
   ·intro e he y hy;rw[bw,hkm2];unfold tabOf at he;obtain⟨z,hz,rfl⟩:=aao.mp he;obtain⟨_,rest,h1,_⟩:=(hkk _ _).mp hy;obtain⟨r,hm,_⟩:=h1.row;exact aao.mpr ⟨_,hm,rfl⟩
   ·have:=congrArg List.length (bw ka2 kk);rw[aaa,aaa] at this;have:=hkl hk2;omega
   ·rw[mj,hk2];have:=wi.sk;omega
   ·rw[bw,bw,hk1,hk2]
   ·rw[mj,hk1];have:=wi.so;omega
   ·intro e he z hz;unfold tabOf at he;obtain⟨y,hy,rfl⟩:=aao.mp he;obtain⟨_,⟨_,rfl⟩|⟨rest,l,h1,h2⟩⟩:=(ho _ _).mp hz
    ·exact aac ..
    ·obtain⟨r,hm,hs⟩:=h1.row;obtain⟨p',hp',hz'⟩:=h2.sign hm hs;exact aad _ (hUm p' hp' z hz')
   ·intro d res H5 x5 n5 hD hkr hcan;refine k d res H5 (fun b o e=>x5 b o (s6 _ _ (s12 _ _ e)) (aR e (s12.free g1.frd))) (s12.free (s6.free n5)) hD (by rw[hkr,bw,hk1]) fun e he=>(hcan e he).congr fun z=>?_
    rw[gh hem,←wN hf ho hkk];constructor
    ·rintro⟨y,q1,q2⟩;refine⟨y,q1.congr fun x y hy=>?_,?_⟩
     ·rw[gL] at hy;exact hy
     ·rw[gO] at q2;exact q2
    ·rintro⟨y,q1,q2⟩;refine⟨y,q1.congr fun x y hy=>?_,?_⟩
     ·rw[gL];exact hy
     ·rw[gO];exact q2
end
end Nw
namespace Nw
open PySem L2
open SL (aq srt)
structure gF(R:List Row)(es ks:List Str)(v:Str->List Str):Prop where
 nd:∀x∈ks,(v x).Nodup
 so:∀x∈ks,∀z∈v x,Beh R es x z
 fi:("":Str)∈v (b7 R)
theorem gF.len{R:List Row}{es ks:List Str}{v:Str->List Str}(h:gF R es ks v)(S:Small R){x:Str}(hx:x∈ks):(v x).length<=41:=by
 obtain⟨U,hU,hm⟩:=S.few;have:=Gram.bT (m:=("":Str)::U) (h.nd x hx) fun z hz=>by
  rcases(h.so x hx z hz).sign with e|⟨p,hp,hz'⟩
  ·rw[e];exact aac ..
  ·exact aad _ (hm p hp z hz')
 rw[aau] at this;omega
theorem gF.add{R:List Row}{es ks:List Str}{v:Str->List Str}(h:gF R es ks v){x z:Str}(hz:¬z∈v x)(hb:Beh R es x z):gF R es ks (dq v x (v x++[z])) where
 nd:=fun y hy=>by
  by_cases q:y=x
  ·subst q;rw[b8];exact dL (h.nd y hy) hz
  ·rw[cZ q];exact h.nd y hy
 so:=fun y hy u hu=>by
  by_cases q:y=x
  ·subst q;rw[b8] at hu;rcases aak.mp hu with r|r
   ·exact h.so y hy u r
   ·rw[aaj.mp r];exact hb
  ·rw[cZ q] at hu;exact h.so y hy u hu
 fi:=by
  by_cases q:b7 R=x
  ·rw[←q,b8];exact List.mem_append_left _ h.fi
  ·rw[cZ q];exact h.fi
def ClP(es:List Str)(f:Tab)(v:Str->List Str)(x:Str)(rest:List Str)(l:Str):Prop:=(∀z∈cb es f rest,z∈v x)/\((∀s∈rest,s∈es)->∀z∈v l,z∈v x)
def ClB(R:List Row)(es:List Str)(f:Tab)(v:Str->List Str):Prop:=∀x rest l,Oc R x rest l->x∈R.map (·.1)->ClP es f v x rest l
theorem wO{R:List Row}{es:List Str}{f:Tab}{v:Str->List Str}(hk:f.map (·.1)=ad R)(hc:∀e∈f,∀z,z∈e.2↔dF R e.1 z)(h:ClB R es f v)(hf:("":Str)∈v (b7 R)){x z:Str}(hb:Beh R es x z):z∈v x:=by
 induction hb with
 |fin=>exact hf
 |word h1 h2 h3=>exact(h _ _ _ h1 h2).1 _ ((im hk hc).mpr h3)
 |up h1 h2 h3 _ ih=>exact(h _ _ _ h1 h2).2 h3 _ ih
abbrev mN:Stmt:=top 53
theorem de:aD ["_law_rows","_law_empty","_law_starts","_law_found","_law_left","_law_going","_law_right","_law_k","_law_words","_law_word"] ["_law_rows"] (au mN):=⟨rfl,rfl,rfl,by decide +kernel,rfl,by decide +kernel,by decide +kernel⟩
def oz:Sp:=fun vs H Q _=>∃(a:Addr) (R:List Row),vs=[.ref a]/\a7 H a R/\Small R/\
 ∀d res H',ab H H'->H d=none->bg H' d res->res.map (·.1)=ad R->(∀e∈res,e.2.Nodup/\∀z,z∈e.2↔Behind R e.1 z)->Q (.ref d) H'
section
variable {P:Program}{w:World}{K:PySem.W.Frag}{mg:Str->Option Value}{base:Heap}
theorem wP{f:Addr}{fd:FuncData}(F:Fun K "_law_come_behind" "_law_come_behind" mN f fd)(T:Txt mg)(D1:Def P w K mg base "_law_wordless" 1 ["_law_rows"] ig)(D2:Def P w K mg base "_law_begun_by" 2 ["_law_rows"] jJ)(D3:Def P w K mg base "_law_all_sorts" 1 ["_law_rows"] bZ)
  (D4:Def P w K mg base "_law_can_begin" 1 ["_law_rows","_law_signs","_law_empty","_law_found"] kL):a0 P w K mg base CX0 3 f fd ["_law_rows"] oz:=by
 refine F.ok de (fun vs H Q E h=>?_) (fun cdv A outer s H vs Q E hr h=>?_)
 ·obtain⟨a,R,rfl,_⟩:=h;rfl
 ·obtain⟨a,R,rfl,hR,hsm,k⟩:=h;have hu:=cv hr;have hu0:(A.deeper (PyProof.Rows.envOfC "_law_come_behind" (au mN) s.heap.objs.size f cdv)).units<cLine:=Nat.lt_of_succ_lt hu;have hr1:bu 1 _:=hr.mono (by decide);refine⟨_,aV (ao (i:=1) de.nd rfl (Or.inr rfl) (aw D1 hr1 (by rfl) (ag (pv 0) ac)))
   (aV (ao (i:=2) de.nd rfl (Or.inl rfl) (aw D2 hr (by rfl) (ag (pv 0) ac)))
   (af (ao (i:=3) de.nd rfl (Or.inl rfl) dY)
   (aV (aO PassesOwn.never rfl (aB (aw D3 hr1 (by rfl) (ag (pv 0) ac))) (ap (i:=4) de.nd rfl (Or.inl rfl))
    (ai (da hu (pv 3) (pv 4) (aW ac) rfl)))
   (aV (da hu (pv 3) (aE aU (aE bb (pv 0) az (fun _ _=>rfl)) az (fun _ _=>rfl)) (aW (ag e8 ac)) rfl)
   (af (ao (i:=5) de.nd rfl (Or.inl rfl) dC)
   (af (dU PassesOwn.never (ci (pv 5))
    (af (ao (i:=5) de.nd rfl (Or.inl rfl) dC)
    (ai (aO PassesOwn.never rfl (aB (pv 0)) (cJ (n:=2) rfl (aH (ap (i:=4) de.nd rfl (Or.inl rfl)) (aH (ap (i:=6) de.nd rfl (Or.inl rfl)) cg)))
     (ai (aO PassesOwn.never rfl (eV (by rfl) T.rng (ag (aC bq (by rfl) T.len PySem.boot_len (ag (pv 6) ac)) ac)) (ap (i:=7) de.nd rfl (Or.inl rfl))
      (aV (ao (i:=8) de.nd rfl (Or.inl rfl) (aw D4 hr1 (by rfl) (ag (pv 0) (ag (cE d9 (pv 6) (cM (bv eE (pv 7) az)) c9) (ag (pv 1) (ag (pv 2) ac))))))
      (aV (bi (aK (j7 hu0) (cY (aX.free (N:=["_law_sign","_law_empty"]) (sel:=[none,some 1]) ["_law_empty"] (by rfl) (by rfl) (by rfl) ?c1 ?c2 ?c3 ?c4 (by rfl) ?c5) rfl (aB (cE d9 (pv 6) (cM (bv eE (pv 7) az)) c9)) (fun s₃ H₃ fp=>ap (i:=0) (show(["_law_sign","_law_empty"]:List Str).Nodup by decide) rfl (Or.inl rfl))
        (fun s₃ H₃ fp=>gp (aK (r:=rIn K true) bS (pv 0) (pv 1) (by with_unfolding_all rfl))) (fun s₃ H₃ fp=>pv 0)) (aW ac) (bB _))
       (ai (ao (i:=8) de.nd rfl (Or.inl rfl) (bv cD (pv 8) (bI hu (pv 3) (pv 4) (fun _ _=>rfl))))) aY)
      (ai (aO PassesOwn.never rfl (aB (pv 8)) (ap (i:=9) de.nd rfl (Or.inl rfl))
       (ai (bi (PW.pt (g7 (fM (hG hu (aE bb (pv 6) (pv 7) (fun _ _=>rfl)) (pv 3))) (gm (aK bS (pv 9) (bI hu (pv 3) (aE bb (pv 6) (pv 7) (fun _ _=>rfl)) (fun _ _=>rfl)) (by with_unfolding_all rfl)))))
        (af (da hu (pv 3) (aE bb (pv 6) (pv 7) (fun _ _=>rfl)) (bv cD (bI hu (pv 3) (aE bb (pv 6) (pv 7) (fun _ _=>rfl)) (fun _ _=>rfl)) (aW (ag (pv 9) ac))) rfl)
        (ai (ao (i:=5) de.nd rfl (Or.inl rfl) dC)))
        aY))))))))))))
   (ai (aI (pv 3))))))))),?_⟩
  case c1=>decide
  case c2=>decide
  case c3=>
   intro x hx;rcases List.mem_cons.mp hx with rfl|hx
   ·exact⟨rfl,rfl,_,rfl,rfl⟩
   ·cases hx
  case c4=>
   intro y hy;rcases List.mem_cons.mp hy with rfl|hy
   ·exact aac ..
   ·cases hy
  case c5=>
   intro j i h;rcases j with _|_|j
   ·cases h
   ·cases h;exact⟨"_law_empty",aac ..,rfl,rfl⟩
   ·cases h
  have hR14:=hsm.len;refine⟨fun σ H1=>∃qe es,σ=[some (.ref a),some (.ref qe),none,none,none,none,none,none,none,none]/\ab H H1/\(∀y,y∈es↔Gram.Made R (fun _=>False) y)/\ak H1 qe es,?_,?_⟩
  ·exact⟨_,rfl,a,R,rfl,hR,hsm,fun qe ms H1 s1 _ _ hm hS=>⟨qe,srt ms,rfl,s1,fun y=>SL.bM.trans (hm y),hS⟩⟩
  rintro σ H1 ⟨qe,es,rfl,s1,hem,hE1⟩;refine⟨fun σ HA=>∃st fs,σ=[some (.ref a),some (.ref qe),some (.ref st),none,none,none,none,none,none,none]/\ab H1 HA/\bg HA st fs/\fs.map (·.1)=ad R/\∀e∈fs,e.2.Nodup/\∀z,z∈e.2↔dF R e.1 z,?_,?_⟩
  ·exact⟨_,rfl,a,R,rfl,hR.mono s1,hsm,fun d res H7 s7 _ hd hk hc=>⟨d,res,rfl,s7,hd,hk,hc⟩⟩
  rintro σ HA ⟨st,fs,rfl,s2,hF,hkF,hcF⟩;have sA:=s1.trans s2;have hEA:ak HA qe es:=s2 _ _ hE1;have hRA:=hR.mono sA;have hcF':∀e∈fs,∀z,z∈e.2↔dF R e.1 z:=fun e he=>(hcF e he).2
  have fs40:∀e∈fs,e.2.length<=40:=fun e he=>hsm.gB (hcF e he).1 fun z hz=>by
   obtain⟨_,_,hb⟩:=((hcF e he).2 z).mp hz;exact hb.sign.2
  obtain⟨vs,hvA,hpA⟩:=id hRA;have hlen:vs.length=R.length:=Paired.length hpA;intro d hd;have hdH:H d=none:=sA.free hd;have s0:=ab.upd (o:=HO.dK []) hd;have hks:∀x,x∈ad R↔x∈R.map (·.1):=fun x=>aF
  have hlk:=dM R;refine⟨fun σ H1=>(∃o1,σ=[some (.ref a),some (.ref qe),some (.ref st),some (.ref d),o1,none,none,none,none,none])/\ab HA H1/\bg H1 d (bj (ad R) fun _=>[]),?_,?_⟩
  ·refine⟨_,rfl,a,R,rfl,hRA.mono s0,hsm,fun q HB sB nB hSB=>?_⟩;have hSB:HB q=some (.lst ((ad R).map V.str)):=hSB;have hqd:q≠d:=fun z=>by rw[z,aa] at nB;cases nB
   refine⟨q,rfl,⟨_,SqL.of hSB⟩,aM (K:=K) (a:=q) (xs:=(ad R).map V.str)
    (fun i σ H1=>(∃o1,σ=[some (.ref a),some (.ref qe),some (.ref st),some (.ref d),o1,none,none,none,none,none])/\ab HA H1/\H1 q=some (.lst ((ad R).map V.str))/\bg H1 d (bj ((ad R).take i) fun _=>[]))
    ⟨⟨_,rfl⟩,s0.trans sB,hSB,[],sB _ _ aa,.nil⟩ ?_ ?_ ?_⟩
   ·rintro i σ H1 _ ⟨_,_,h1,_⟩;exact SqL.of h1
   ·rintro i x σ H1 hx ⟨⟨o1,rfl⟩,s1,hq1,kvs,hd1,hp1⟩;obtain⟨y,hy,rfl⟩:=aZ hx;have hlp:kvs.length=((ad R).take i).length:=by
     have:=Paired.length hp1;rw[this];unfold bj;rw[aaa]
    have hny:¬y∈(ad R).take i:=fun z=>by
     obtain⟨j,hj⟩:=List.mem_iff_getElem?.mp z;have hji:j<i:=by
      have:=(aab.mp hj).1;rw[aal] at this;omega
     rw[List.getElem?_take_of_lt hji] at hj;have:=gv (cI R) hj hy;omega
    refine⟨by decide,fun p hp0=>?_⟩;have sp:=ab.upd (o:=HO.lst []) hp0;refine⟨_,rfl,_,rfl,d,_,rfl,dD.k (k:=Sum.inr y) (sp _ _ hd1) (by rw[hlp,aal];exact av (by omega)),?_⟩;refine⟨⟨_,rfl⟩,(s1.trans sp).bz hd,by rw[am hqd];exact sp _ _ hq1,?_⟩;have hp2:Paired (cV (upd H1 p (.lst []))) kvs (bj ((ad R).take i) fun _=>[]):=Paired.bJ hp1 fun _ _ ⟨z1,l,z2,z3⟩=>⟨z1,l,z2,sp _ _ z3⟩
    have:=bg.add (sp _ _ hd1) hp2 hny (l:=p) aa;rw[aap,hy];exact this
   ·rintro σ H1 ⟨⟨o1,rfl⟩,s1,_,hD1⟩;rw[aaa,aas] at hD1;exact⟨⟨_,rfl⟩,s1,hD1⟩
  rintro σ H3 ⟨⟨o1,rfl⟩,s3,hD3⟩;have hfst:∃p R',R=p::R'/\b7 R=p.1:=by
   cases R with
   |nil=>exact absurd rfl hsm.ne
   |cons p R'=>exact⟨p,R',rfl,rfl⟩
  have hf:b7 R∈R.map (·.1):=by
   obtain⟨p,R',e,e'⟩:=hfst;rw[e',e];exact aac ..
  refine⟨fun σ H4=>(∃o1,σ=[some (.ref a),some (.ref qe),some (.ref st),some (.ref d),o1,none,none,none,none,none])/\ab HA H4/\bg H4 d (bj (ad R) (dq (fun _=>[]) (b7 R) [""])),?_,?_⟩
  ·refine⟨(show 1<=sizeLine by decide),fun p hp0=>?_⟩;have sp:=ab.upd (o:=HO.lst [V.str ""]) hp0;obtain⟨r0,R',e0,ef⟩:=hfst;have h0:R[0]? =some r0:=by rw[e0];rfl
   have hv0:∃x0,vs[0]? =some x0:=⟨_,aae (by rw[hlen,e0];exact Nat.succ_pos _)⟩;obtain⟨x0,hv0⟩:=hv0;obtain⟨p0,t0,b0,hp0',rfl,ht0,hb0⟩:=bO hpA hv0;rw[h0] at hp0';cases hp0'
   obtain⟨kvs,hd3,hp3⟩:=id hD3;have hkl:kvs.length<sizeLine:=by
    have:=Paired.length hp3;unfold bj at this;rw[aaa] at this;exact av (by omega)
   have s3p:=s3.trans sp;refine⟨_,rfl,_,rfl,a,_,0,_,rfl,rfl,SqL.of (s3p _ _ hvA),aA (j:=0) hv0,t0,_,0,_,rfl,rfl,SqT.of (s3p _ _ ht0),aA (j:=0) rfl,d,_,rfl,dD.k (k:=Sum.inr r0.1) (sp _ _ hd3) hkl,?_⟩;have hp4:Paired (cV (upd H3 p (.lst [V.str ""]))) kvs (bj (ad R) fun _=>[]):=Paired.bJ hp3 fun _ _ ⟨z1,l,z2,z3⟩=>⟨z1,l,z2,sp _ _ z3⟩
   refine⟨⟨_,rfl⟩,s3p.bz hd,?_⟩;rw[←ef];exact bg.put (l:=p) (ys:=[""]) (sp _ _ hd3) hp4 ((hks _).mpr hf) aa
  clear hD3 s3;rintro σ H4 ⟨⟨o2,rfl⟩,s4,hD4⟩;have snd0:gF R es (ad R) (dq (fun _=>[]) (b7 R) [""]):=by
   refine⟨fun x hx=>?_,fun x hx z hz=>?_,?_⟩
   ·by_cases q:x=b7 R
    ·rw[q,b8];exact List.nodup_cons.mpr ⟨fun h=>(by cases h),List.nodup_nil⟩
    ·rw[cZ q];exact List.nodup_nil
   ·by_cases q:x=b7 R
    ·rw[q,b8] at hz;rw[q,aaj.mp hz];exact .fin
    ·rw[cZ q] at hz;cases hz
   ·rw[b8];exact aac ..
  refine⟨fun m σ H2=>∃v g o1 o2 o3 o4 o5,σ=[some (.ref a),some (.ref qe),some (.ref st),some (.ref d),o1,some (.bl g),o2,o3,o4,o5]/\ab HA H2/\bg H2 d (bj (ad R) v)/\gF R es (ad R) v/\(g=false->ClB R es fs v)/\
    m=(if g=true then 1+(41*(ad R).length - tot (ad R) v) else 0),
   ⟨_,_,true,_,_,_,_,_,rfl,s4,hD4,snd0,fun z=>(by cases z),rfl⟩,?_⟩
  clear hD4 s4;rintro m σ H2 ⟨v,g,o1,o2,o3,o4,o5,rfl,s2',hD2,snd,clo,rfl⟩;refine⟨_,rfl,_,rfl,?_⟩;cases g with
  |false=>
   refine aJ ⟨_,rfl,k d _ H2 (sA.trans s2') hdH hD2 (fS _ _) fun e he=>?_⟩;unfold bj at he;obtain⟨x,hx,rfl⟩:=aao.mp he;refine⟨snd.nd x hx,fun z=>?_⟩;rw[gh hem];exact⟨snd.so x hx z,fun hb=>wO hkF hcF' (clo rfl) snd.fi hb⟩
  |true=>
   refine a9 ⟨fun σ H3=>∃v' g o1 o2 o3 o4 o5,σ=[some (.ref a),some (.ref qe),some (.ref st),some (.ref d),o1,some (.bl g),o2,o3,o4,o5]/\ab HA H3/\bg H3 d (bj (ad R) v')/\gF R es (ad R) v'/\(g=false->ClB R es fs v')/\
    (g=true->tot (ad R) v<tot (ad R) v'),?_,?_⟩
   ·rintro σ' H3 ⟨v',g,p1,p2,p3,p4,p5,rfl,q1,q2,q3,q4,q5⟩;refine⟨_,?_,v',g,p1,p2,p3,p4,p5,rfl,q1,q2,q3,q4,rfl⟩;cases g with
    |false=>simp only[if_true];rw[if_neg (by decide)];omega
    |true=>
     have h1:=q5 rfl;have h2:=oq (v:=v') (b:=41) (ks:=ad R) fun x hx=>q3.len hsm hx
     simp only[if_true];omega
   ·refine⟨_,rfl,a,rfl,⟨_,SqL.of (s2' _ _ hvA)⟩,aM (K:=K) (a:=a) (xs:=vs)
     (fun i σ H3=>∃v' g o1 o2 o3 o4 o5,σ=[some (.ref a),some (.ref qe),some (.ref st),some (.ref d),o1,some (.bl g),o2,o3,o4,o5]/\ab HA H3/\bg H3 d (bj (ad R) v')/\gF R es (ad R) v'/\
      (g=false->v'=v/\∀x rest l,fJ R i 0 x rest l->x∈R.map (·.1)->ClP es fs v x rest l)/\(g=true->tot (ad R) v<tot (ad R) v'))
     ⟨v,false,_,_,_,_,_,rfl,s2',hD2,snd,fun _=>⟨rfl,fun x rest l h=>absurd h iL⟩,fun z=>(by cases z)⟩ ?_ ?_ ?_⟩
    ·rintro i σ H3 _ ⟨_,_,_,_,_,_,_,_,s3,_⟩;exact SqL.of (s3 _ _ hvA)
    ·rintro i x σ H3 hx ⟨v1,g1,o1,o2,o3,o4,o5,rfl,s3,hD3,snd1,alt1,inc1⟩;obtain⟨p,tt,c,hpi,rfl,htt,hc⟩:=bO hpA hx;have hpm:(p.1,p.2)∈R:=aah hpi;have hpw:=hsm.wid p hpm;have hpl:p.1∈ad R:=(hks _).mpr (aao.mpr ⟨p,hpm,rfl⟩);have hc:HA c=some (.lst (p.2.map V.str)):=hc;refine⟨tt,_,rfl,SqT.of (s3 _ _ htt),rfl,_,_,rfl,_,_,rfl,rfl,?_⟩;have hlm:(p.2.map V.str).length=p.2.length:=aaa ..;refine⟨_,rfl,c,_,rfl,.inl (SqL.of (s3 _ _ hc)),_,rfl,by rw[hlm];omega,by rw[hlm];omega,eW (n:=(((p.2.map V.str).length:Nat):Int).toNat)
      (fun j σ H4=>∃v' g o3 o4 o5,σ=[some (.ref a),some (.ref qe),some (.ref st),some (.ref d),some (.str p.1),some (.bl g),some (.ref c),o3,o4,o5]/\ab HA H4/\bg H4 d (bj (ad R) v')/\gF R es (ad R) v'/\
       (g=false->v'=v/\∀x rest l,fJ R i j x rest l->x∈R.map (·.1)->ClP es fs v x rest l)/\(g=true->tot (ad R) v<tot (ad R) v'))
      ⟨v1,g1,_,_,_,rfl,s3,hD3,snd1,alt1,inc1⟩ ?_ ?_⟩
     ·clear hD3 snd1 alt1 inc1 s3 v1 g1;rintro j σ H4 hj ⟨v1,g1,o3,o4,o5,rfl,s4,hD4,snd1,alt1,inc1⟩;rw[Int.toNat_natCast,hlm] at hj;have e0j:(0:Int)+(j:Int)=(j:Int):=Int.zero_add _;rw[e0j];obtain⟨y,hy⟩:∃y,p.2[j]? =some y:=⟨_,aae hj⟩;have hyv:(p.2.map V.str)[j]? =some (V.str y):=by rw[aax,hy];rfl
      have ecut:dw (p.2.map V.str) (some ((j:Int)+1)) none=(p.2.drop (j+1)).map V.str:=iM p.2 (j+1);have oc:Oc R y (p.2.drop (j+1)) p.1:=⟨p.2,j,hpm,hy,rfl⟩;generalize hrest:p.2.drop (j+1)=rest at ecut oc;have hrl:rest.length<=20:=by rw[←hrest,List.length_drop];omega
      have cbl:(cb es fs rest).length<=40*20:=Nat.le_trans (fR (es:=es) fs40 (Gram.lead es rest)) (Nat.mul_le_mul_left _ (Nat.le_trans (Gram.eP es rest) hrl));refine⟨fun σ H5=>∃qw,σ=[some (.ref a),some (.ref qe),some (.ref st),some (.ref d),some (.str p.1),some (.bl g1),some (.ref c),some (.int j),some (.ref qw),o5]/\ab H4 H5/\ak H5 qw (cb es fs rest),?_,?_⟩
      ·refine⟨_,rfl,_,rfl,_,rfl,_,_,rfl,rfl,_,rfl,c,_,rfl,SqL.of (s4 _ _ hc),fun q hq=>?_⟩;rw[ecut];have sq:=ab.upd (o:=HO.lst (rest.map V.str)) hq;have s4q:=s4.trans sq;exact⟨_,rfl,_,rfl,_,q,qe,st,rest,es,fs,rfl,aa,s4q _ _ hEA,(hF.mono s4q).l,hrl,fs40,fun qw H5 s5 _ hS5=>⟨qw,rfl,sq.trans s5,hS5⟩⟩
      rintro σ H5 ⟨qw,rfl,s5,hW5⟩;have hD5:=hD4.mono s5;have s45:=s4.trans s5;refine⟨fun σ H6=>∃qw W,σ=[some (.ref a),some (.ref qe),some (.ref st),some (.ref d),some (.str p.1),some (.bl g1),some (.ref c),some (.int j),some (.ref qw),o5]/\ab H4 H6/\ak H6 qw W/\∀z,z∈W↔z∈cb es fs rest\/((∀s∈rest,s∈es)/\z∈v1 p.1),?_,?_⟩
      ·refine⟨_,rfl,_,rfl,_,_,rfl,rfl,_,rfl,c,_,rfl,SqL.of (s45 _ _ hc),fun q hq=>?_⟩;rw[ecut];have sq:=ab.upd (o:=HO.lst (rest.map V.str)) hq;generalize hHq:upd H5 q (.lst (rest.map V.str))=Hq at sq;have hqq:Hq q=some (.lst (rest.map V.str)):=by rw[←hHq,aa]
       have hEq:Hq qe=some (.lst (es.map V.str)):=sq _ _ (s45 _ _ hEA);refine⟨q,rfl,⟨_,SqL.of hqq⟩,fun D hD=>fg (K:=K) (xs:=rest.map V.str)
        (fun j τ H7=>(∃o,τ=[o,some (.ref qe)])/\H7=upd Hq D (.lst (((rest.take j).filter (fun s=>!decide (s∈es))).map V.str))) ⟨⟨_,rfl⟩,rfl⟩ ?_ ?_ ?_⟩
       ·rintro j τ H7 ⟨_,rfl⟩;exact(ab.upd hD).seq (SqL.of hqq)
       ·rintro j x τ H7 hx ⟨⟨o,rfl⟩,rfl⟩;obtain⟨y,hy,rfl⟩:=aZ hx;have sD:=ab.upd (o:=HO.lst (((rest.take j).filter (fun s=>!decide (s∈es))).map V.str)) hD;have hle:((rest.take j).filter (fun s=>!decide (s∈es))).length<=rest.length:=Nat.le_trans (List.length_filter_le _ _) (by rw[aal];omega);refine⟨_,rfl,_,rfl,qe,_,rfl,.inl (SqL.of (sD _ _ hEq)),rfl,bN es,_,rfl,?_⟩;show if (!inV (.str y) (es.map V.str))=true then _ else _
        rw[bX]
        by_cases hyk:y∈es
        ·rw[aan hyk];refine aJ ⟨⟨_,rfl⟩,?_⟩;rw[aap,hy,List.filter_append];have:List.filter (fun s=>!decide (s∈es)) (some y).toList=[]:=by
          show List.filter (fun s=>!decide (s∈es)) [y]=[];rw[List.filter_cons,if_neg (by rw[aan hyk];decide)];rfl
         rw[this,List.append_nil]
        ·rw[aai hyk];refine a9 ⟨_,rfl,_,aa,by rw[aaa];exact av (by omega),⟨_,rfl⟩,?_⟩;rw[cA,aap,hy,List.filter_append,aam];have:List.filter (fun s=>!decide (s∈es)) (some y).toList=[y]:=by
          show List.filter (fun s=>!decide (s∈es)) [y]=[y];rw[List.filter_cons,if_pos (by rw[aai hyk];rfl)];rfl
         rw[this];rfl
       ·rintro τ H7 ⟨_,rfl⟩;rw[aaa,aas];have sD:=ab.upd (o:=HO.lst ((rest.filter (fun s=>!decide (s∈es))).map V.str)) hD;refine⟨by decide,fun qn hqn=>?_⟩;have sn:=ab.upd (o:=HO.lst []) hqn;have s7:ab H5 _:=(sq.trans sD).trans sn;refine⟨D,qn,_,rfl,rfl,SqL.of (sn _ _ aa),SqL.of aa,_,rfl,?_⟩
        by_cases hall:∀s∈rest,s∈es
        ·have e:rest.filter (fun s=>!decide (s∈es))=[]:=by
          rw[List.filter_eq_nil_iff];intro s hs;rw[aan (hall s hs)];decide
         have e2:((rest.filter (fun s=>!decide (s∈es))).map V.str).isEmpty=true:=by rw[e];rfl
         rw[e2];refine a9 ?_;obtain⟨l,hg7,hl7⟩:=(hD5.mono s7).l.get (x:=p.1) (by rw[fS];exact hpl);have egl:getL (bj (ad R) v1) p.1=v1 p.1:=by unfold getL;rw[ck,if_pos hpl];rfl
         rw[egl] at hl7;have l41:=snd1.len hsm hpl;refine⟨_,rfl,_,rfl,_,rfl,d,_,rfl,hg7,qw,l,_,_,rfl,rfl,s7 _ _ hW5,hl7,by rw[aaa,aaa];exact bE (by omega),fun p2 hp2=>?_⟩;refine⟨p2,cb es fs rest++v1 p.1,rfl,(s5.trans s7).trans (ab.upd hp2),?_,fun z=>?_⟩
         ·unfold ak;rw[aa,aam]
         ·rw[aak];exact⟨fun h=>h.imp_right fun h=>⟨hall,h⟩,fun h=>h.imp_right (·.2)⟩
        ·have e2:((rest.filter (fun s=>!decide (s∈es))).map V.str).isEmpty=false:=by
          cases q:((rest.filter (fun s=>!decide (s∈es))).map V.str).isEmpty with
          |false=>rfl
          |true=>
           have q:=List.isEmpty_iff.mp q;rw[List.map_eq_nil_iff,List.filter_eq_nil_iff] at q;exfalso;apply hall;intro s hs;have:=q s hs
           by_cases z:s∈es
           ·exact z
           ·rw[aai z] at this;exact absurd rfl this
         rw[e2];refine aJ ⟨qw,cb es fs rest,rfl,s5.trans s7,s7 _ _ hW5,fun z=>?_⟩;exact⟨.inl,fun h=>h.elim id fun h=>absurd h.1 hall⟩
      clear hW5 hD5 s45 s5 H5 qw;rintro σ H5 ⟨qw,W,rfl,s5,hW5,hWm⟩;have hWs:y∈R.map (·.1)->∀z∈W,Beh R es y z:=fun hys z hz=>by
       rcases(hWm z).mp hz with h|⟨h1,h2⟩
       ·exact .word oc hys ((im hkF hcF').mp h)
       ·exact .up oc hys h1 (snd1.so p.1 hpl z h2)
      have hW5:H5 qw=some (.lst (W.map V.str)):=hW5;have hD5:=hD4.mono s5;have hqwd:qw≠d:=by
       obtain⟨kvs,z,_⟩:=hD5;exact jI z hW5
      refine⟨_,rfl,qw,rfl,⟨_,SqL.of hW5⟩,aM (K:=K) (a:=qw) (xs:=W.map V.str)
       (fun n σ H6=>∃v' g o5,σ=[some (.ref a),some (.ref qe),some (.ref st),some (.ref d),some (.str p.1),some (.bl g),some (.ref c),some (.int j),some (.ref qw),o5]/\ab HA H6/\H6 qw=some (.lst (W.map V.str))/\bg H6 d (bj (ad R) v')/\gF R es (ad R) v'/\
        (g=false->g1=false/\v'=v1/\(y∈R.map (·.1)->∀z∈W.take n,z∈v1 y))/\(g=true->tot (ad R) v<tot (ad R) v'))
       ⟨v1,g1,_,rfl,s4.trans s5,hW5,hD5,snd1,fun z=>⟨z,rfl,fun _ z hz=>(by cases hz)⟩,inc1⟩ ?_ ?_ ?_⟩
      ·rintro n σ H6 _ ⟨_,_,_,_,_,z,_⟩;exact SqL.of z
      ·rintro n x σ H6 hx ⟨v2,g2,o6,rfl,s6,hq6,hD6,snd2,alt2,inc2⟩;obtain⟨u,hun,rfl⟩:=aZ hx;obtain⟨kvs,hd6,hp6⟩:=id hD6;have hix:∀{H':Hp},ab HA H'->SqL K H' c (p.2.map V.str):=fun s=>SqL.of (s _ _ hc)
       have hat:atI (p.2.map V.str) (j:Int)=some (V.str y):=aA hyv;have hhas:∃o,bP H6 d (.str y) o/\o.isSome=decide (y∈R.map (·.1)):=by
        rcases ej hp6 y with ⟨z1,z2⟩|⟨ys,l,z1,z2,z3⟩
        ·refine⟨none,.inl ⟨kvs,Sum.inr y,.inl hd6,rfl,z2.symm⟩,?_⟩;rw[ck] at z1;have:¬y∈R.map (·.1):=fun h=>by rw[if_pos ((hks y).mpr h)] at z1;cases z1
         rw[aai this];rfl
        ·refine⟨some (.ref l),.inl ⟨kvs,Sum.inr y,.inl hd6,rfl,z2.symm⟩,?_⟩;rw[ck] at z1;have:y∈R.map (·.1):=Classical.byContradiction fun h=>by rw[if_neg fun q=>h ((hks y).mp q)] at z1;cases z1
         rw[aan this];rfl
       obtain⟨oo,hgo,hoo⟩:=hhas;refine⟨_,rfl,_,rfl,c,_,j,_,rfl,rfl,hix s6,hat,_,rfl,d,oo,rfl,hgo,_,rfl,?_⟩;rw[hoo]
       by_cases hys:y∈R.map (·.1)
       ·rw[aan hys];refine a9 ?_;have hyk:=(hks y).mpr hys;obtain⟨l,hg6,hl6⟩:=hD6.l.get (x:=y) (by rw[fS];exact hyk);have egl:getL (bj (ad R) v2) y=v2 y:=by unfold getL;rw[ck,if_pos hyk];rfl
        rw[egl] at hl6;refine⟨_,rfl,_,rfl,_,rfl,_,rfl,c,_,j,_,rfl,rfl,hix s6,hat,d,_,rfl,hg6,l,_,rfl,.inl (SqL.of hl6),rfl,bN _,_,rfl,?_⟩;show if (!inV (.str u) ((v2 y).map V.str))=true then _ else _
        rw[bX]
        by_cases hin:u∈v2 y
        ·rw[aan hin];refine aJ ⟨v2,g2,_,rfl,s6,hq6,hD6,snd2,fun z=>?_,inc2⟩;obtain⟨e1,e2,e3⟩:=alt2 z;refine⟨e1,e2,fun hy' w' hw'=>?_⟩;rw[aap,hun] at hw';rcases aak.mp hw' with r|r
         ·exact e3 hy' w' r
         ·have:w'=u:=by simpa using r
          rw[this,←e2];exact hin
        ·rw[aai hin];refine a9 ?_;have hl41:=snd2.len hsm hyk;refine⟨_,rfl,_,rfl,_,rfl,c,_,j,_,rfl,rfl,hix s6,hat,d,_,rfl,hg6,_,rfl,(show 1<=sizeLine by decide),fun p1 hp1=>?_⟩;have sp1:=ab.upd (o:=HO.lst [V.str u]) hp1;refine⟨l,p1,_,_,rfl,rfl,sp1 _ _ hl6,aa,by rw[aaa];exact bE (by simp;omega),fun p2 hp2=>?_⟩;have sp2:=ab.upd (o:=HO.lst ((v2 y).map V.str++[V.str u])) hp2;have sp:=sp1.trans sp2;have hd7:=sp _ _ hd6;have hp7:Paired (cV (upd (upd H6 p1 (.lst [V.str u])) p2 (.lst ((v2 y).map V.str++[V.str u])))) kvs (bj (ad R) v2):=Paired.bJ hp6 fun _ _ ⟨z1,l,z2,z3⟩=>⟨z1,l,z2,sp _ _ z3⟩
         have hl7:ak (upd (upd H6 p1 (.lst [V.str u])) p2 (.lst ((v2 y).map V.str++[V.str u]))) p2 (v2 y++[u]):=by
          unfold ak;rw[aa,aam];rfl
         have hkl:kvs.length<sizeLine:=by
          have:=Paired.length hp6;unfold bj at this;rw[aaa] at this;exact av (by omega)
         refine⟨_,rfl,_,rfl,_,rfl,c,_,j,_,rfl,rfl,hix (s6.trans sp),hat,d,_,rfl,dD.k (k:=Sum.inr y) hd7 hkl,?_⟩;have htot:=gs (v:=v2) (ys:=v2 y++[u]) (cI R) hyk;rw[aag,aav] at htot;refine⟨dq v2 y (v2 y++[u]),true,_,rfl,(s6.trans sp).bz hd,by rw[am hqwd];exact sp _ _ hq6,bg.put hd7 hp7 hyk hl7,snd2.add hin (hWs hys u (aah hun)),fun z=>(by cases z),fun _=>?_⟩;cases g2 with
         |true=>have:=inc2 rfl;omega
         |false=>
          obtain⟨e1,e2,_⟩:=alt2 rfl;subst e2;obtain⟨e3,_⟩:=alt1 e1;rw[←e3];omega
       ·rw[aai hys];refine aJ (aJ ⟨v2,g2,_,rfl,s6,hq6,hD6,snd2,fun z=>?_,inc2⟩);obtain⟨e1,e2,e3⟩:=alt2 z;exact⟨e1,e2,fun hy'=>absurd hy' hys⟩
      ·rintro σ H6 ⟨v2,g2,o6,rfl,s6,hq6,hD6,snd2,alt2,inc2⟩;refine⟨v2,g2,_,_,_,rfl,s6,hD6,snd2,fun z=>?_,inc2⟩;obtain⟨e1,e2,e3⟩:=alt2 z;rw[aaa,aas] at e3;obtain⟨e4,e5⟩:=alt1 e1;refine⟨e2.trans e4,fun x rs l hdn hx'=>?_⟩;rcases(bx hpi hy).mp hdn with h|⟨ex,er,el⟩
       ·exact e5 x rs l h hx'
       ·rw[hrest] at er;subst ex;subst er;subst el;rw[e4] at e3 hWm;exact⟨fun z hz=>e3 hx' z ((hWm z).mpr (.inl hz)),fun ha z hz=>e3 hx' z ((hWm z).mpr (.inr ⟨ha,hz⟩))⟩
     ·rintro σ H4 ⟨v2,g2,o3',o4',o5',rfl,s4,hD4,snd2,alt2,inc2⟩;rw[Int.toNat_natCast,hlm] at alt2;refine⟨v2,g2,_,_,_,_,_,rfl,s4,hD4,snd2,fun z=>?_,inc2⟩;obtain⟨e1,e2⟩:=alt2 z;exact⟨e1,fun x rs l hdn hx'=>e2 x rs l ((jl hpi).mp hdn) hx'⟩
    ·rintro σ H3 ⟨v1,g1,o1,o2,o3,o4,o5,rfl,s3,hD3,snd1,alt1,inc1⟩;refine⟨v1,g1,_,_,_,_,_,rfl,s3,hD3,snd1,fun z=>?_,inc1⟩;obtain⟨e1,e2⟩:=alt1 z;subst e1;rw[hlen] at e2;exact fun x rs l ho hx'=>e2 x rs l (jm.mpr ho) hx'
end
end Nw
namespace SL
open PySem PySem.W PyProof.Rows
def okT(n:Nat)(lt:Nat->Nat->Bool){α:Type}:KasT α->(α->Prop)->Prop
 |.ret a,P=>P a
 |.ask i j k,P=>i<n/\j<n/\okT n lt (k (lt i j)) P
section
variable {n:Nat}{lt:Nat->Nat->Bool}{α β:Type}
theorem cS{P P':α->Prop}(h:∀a,P a->P' a):∀(t:KasT α),okT n lt t P->okT n lt t P'
 |.ret a,x=>h a x
 |.ask _ _ k,⟨a,b,x⟩=>⟨a,b,cS h (k _) x⟩
theorem fB{f:α->KasT β}{P:β->Prop}:∀(t:KasT α),okT n lt t (fun a=>okT n lt (f a) P)->okT n lt (t.bind f) P
 |.ret _,x=>x
 |.ask _ _ k,⟨a,b,x⟩=>⟨a,b,fB (k _) x⟩
theorem kR{cmp:Nat->Nat->(Bool->Shared->Prop)->Shared->Prop}{s:Shared}(hc:∀i j (C:Bool->Shared->Prop),i<n->j<n->C (lt i j) s->cmp i j C s){Q:α->Shared->Prop} :
  ∀(t:KasT α),okT n lt t (fun a=>Q a s)->t.kasWp cmp Q s
 |.ret _,x=>x
 |.ask i j k,⟨a,b,x⟩=>hc i j _ a b (kR hc (k _) x)
theorem kT{T U:KasT α}{P:α->Prop}(h:okT n lt T P):okT n lt (if true=true then T else U) P:=by rw[if_pos rfl];exact h
theorem kU{T U:KasT α}{P:α->Prop}(h:okT n lt U P):okT n lt (if false=true then T else U) P:=by rw[if_neg (by decide)];exact h
end
structure Ord(lt:Nat->Nat->Bool):Prop where
 tr:∀a b c,lt b a=false->lt c b=false->lt c a=false
 as:∀a b,lt a b=true->lt b a=false
theorem Ord.rf{lt:Nat->Nat->Bool}(O:Ord lt)(a:Nat):lt a a=false:=by
 cases e:lt a a with
 |false=>rfl
 |true=>rw[O.as a a e] at e;cases e
abbrev at0(p:Array Nat)(i:Nat):Nat:=p.getD i 0
theorem fU(p:Array Nat)(i:Nat):at0 p i=(p[i]?).getD 0:=Array.getD_eq_getD_getElem? ..
def Bas(n:Nat)(p:Array Nat):Prop:=p.Perm (List.range n).toArray
theorem Bas.size{n:Nat}{p:Array Nat}(h:Bas n p):p.size=n:=by
 have:=h.size_eq;simpa using this
theorem Bas.lt{n:Nat}{p:Array Nat}(h:Bas n p)(hn:0<n)(i:Nat):at0 p i<n:=by
 rw[fU];cases e:p[i]? with
 |none=>exact hn
 |some v=>
  have hm:v∈p.toList:=by
   rw[←Array.getElem?_toList] at e;exact aah e
  have:=(Array.perm_iff_toList_perm.mp h).mem_iff.mp hm;exact List.mem_range.mp (by simpa using this)
theorem Bas.rev{n:Nat}{p:Array Nat}(h:Bas n p)(i j:Nat):Bas n (kas_rev p i j):=(mirror_perm ..).trans h
theorem Bas.bub{n:Nat}{p:Array Nat}(h:Bas n p)(i j:Nat):Bas n (bubble p i j):=(bubble_perm ..).trans h
theorem gt{p:Array Nat}{i j:Nat}(hj:j<=p.size)(k:Nat):at0 (kas_rev p i j) k=if i<=k/\k<j then at0 p (i+j - 1 - k) else at0 p k:=by
 rw[fU];unfold kas_rev;rw[getElem?_mirror_all hj];split <;> rw[fU]
theorem wQ{p:Array Nat}{k l:Nat}(hk:k<p.size)(hl:l<=k)(i:Nat):at0 (bubble p k (k - l)) i=if i=l then at0 p k else if l<i/\i<=k then at0 p (i - 1) else at0 p i:=by
 rw[fU,getElem?_bubble hk _ (by omega),show k - (k - l)=l by omega]
 by_cases h1:i=l
 ·rw[if_pos h1,if_pos h1];exact(fU p k).symm
 ·rw[if_neg h1,if_neg h1]
  by_cases h2:l<i/\i<=k
  ·rw[if_pos h2,if_pos h2];exact(fU p _).symm
  ·rw[if_neg h2,if_neg h2];exact(fU p _).symm
section
variable {n:Nat}{lt:Nat->Nat->Bool}
def Asc(lt:Nat->Nat->Bool)(p:Array Nat)(m:Nat):Prop:=∀i j,i<=j->j<m->lt (at0 p j) (at0 p i)=false
def Dsc(lt:Nat->Nat->Bool)(p:Array Nat)(m:Nat):Prop:=∀i j,i<=j->j<m->lt (at0 p i) (at0 p j)=false
theorem Asc.one(O:Ord lt)(p:Array Nat):Asc lt p 1:=fun i j h1 h2=>by
 have e1:j=0:=by omega
 have e2:i=0:=by omega
 rw[e1,e2];exact O.rf _
theorem Asc.succ(O:Ord lt){p:Array Nat}{m:Nat}(h:Asc lt p m)(hm:1<=m)(e:lt (at0 p m) (at0 p (m - 1))=false):Asc lt p (m+1):=fun i j h1 h2=>by
 by_cases hj:j=m
 ·subst hj
  by_cases hi:i=j
  ·rw[hi];exact O.rf _
  ·exact O.tr _ _ _ (h i (j - 1) (by omega) (by omega)) e
 ·exact h i j h1 (by omega)
theorem Dsc.succ(O:Ord lt){p:Array Nat}{m:Nat}(h:Dsc lt p m)(hm:1<=m)(e:lt (at0 p (m - 1)) (at0 p m)=false):Dsc lt p (m+1):=fun i j h1 h2=>by
 by_cases hj:j=m
 ·subst hj
  by_cases hi:i=j
  ·rw[hi];exact O.rf _
  ·exact O.tr _ _ _ e (h i (j - 1) (by omega) (by omega))
 ·exact h i j h1 (by omega)
theorem oA(O:Ord lt)(hn:0<n){p:Array Nat}(hB:Bas n p):∀(f m:Nat),1<=m->Asc lt p m->
  okT n lt (kas_asc p f m) (fun r=>m<=r/\r<=m+f/\Asc lt p r/\(r=m+f\/lt (at0 p r) (at0 p (r - 1))=true))
 |0,m,_,h=>⟨Nat.le_refl _,Nat.le_refl _,h,.inl rfl⟩
 |f+1,m,hm,h=>by
  refine⟨hB.lt hn m,hB.lt hn (m - 1),?_⟩;cases e:lt (p.getD m 0) (p.getD (m - 1) 0) with
  |true=>exact kT (show _/\_ from ⟨Nat.le_refl _,by omega,h,.inr e⟩)
  |false=>
   refine kU (cS (fun r hr=>?_) _ (oA O hn hB f (m+1) (by omega) (h.succ O hm e)));obtain⟨a,b,c,d⟩:=hr;refine⟨by omega,by omega,c,?_⟩;rcases d with d|d
   ·exact .inl (by omega)
   ·exact .inr d
def Alike(lt:Nat->Nat->Bool)(p:Array Nat)(m q:Nat):Prop:=q+1<=m/\∀i j,m - (q+1)<=i->i<m->m - (q+1)<=j->j<m->lt (at0 p i) (at0 p j)=false
theorem Dsc.flip(O:Ord lt){p:Array Nat}{m q:Nat}(h:Dsc lt p m)(hz:m<=p.size)(ha:Alike lt p m q):Dsc lt (kas_rev p (m - (q+1)) m) m:=fun i j h1 h2=>by
 obtain⟨hq,al⟩:=ha;have one:∀k,k<m->∃k',at0 (kas_rev p (m - (q+1)) m) k=at0 p k'/\k'<m/\(k=k'\/(m - (q+1)<=k/\m - (q+1)<=k')):=fun k hk=>by
  rw[gt hz];split
  ·exact⟨_,rfl,by omega,.inr ⟨by omega,by omega⟩⟩
  ·exact⟨_,rfl,hk,.inl rfl⟩
 obtain⟨i',e1,l1,c1⟩:=one i (by omega);obtain⟨j',e2,l2,c2⟩:=one j h2;rw[e1,e2]
 by_cases hle:i'<=j'
 ·exact h i' j' hle l2
 ·exact al i' j' (by omega) l1 (by omega) l2
theorem sF{p:Array Nat}{i j:Nat}(hj:j<=p.size){k:Nat}(hk:j<=k):at0 (kas_rev p i j) k=at0 p k:=by
 rw[gt hj,if_neg (by omega)]
theorem jL(O:Ord lt)(hn:0<n):∀(f:Nat) (p:Array Nat) (m q:Nat),Bas n p->1<=m->m+f=n->Dsc lt p m->Alike lt p m q->
  okT n lt (kas_desc f p m q) (fun r=>Bas n r.1/\1<=r.2.1/\r.2.1<=n/\Dsc lt r.1 r.2.1/\Alike lt r.1 r.2.1 r.2.2)
 |0,p,m,q,hB,hm,hf,h,ha=>⟨hB,hm,(by show m<=n;omega),h,ha⟩
 |f+1,p,m,q,hB,hm,hf,h,ha=>by
  have hz:m<=p.size:=by rw[hB.size];omega
  refine⟨hB.lt hn m,hB.lt hn (m - 1),?_⟩;cases e:lt (p.getD m 0) (p.getD (m - 1) 0) with
  |true=>
   refine kT ?_;have al0:∀p':Array Nat,Alike lt p' (m+1) 0:=fun p'=>⟨by omega,fun i j a1 a2 a3 a4=>by
    have e1:i=m:=by omega
    have e2:j=m:=by omega
    rw[e1,e2];exact O.rf _⟩
   have e':lt (at0 p (m - 1)) (at0 p m)=false:=O.as _ _ e
   by_cases hq:q > 0
   ·rw[if_pos hq];refine jL O hn f _ (m+1) 0 (hB.rev _ _) (by omega) (by omega) ((h.flip O hz ha).succ O hm ?_) (al0 _);rw[sF hz (Nat.le_refl m),gt hz];split
    ·refine O.tr _ _ _ e' (ha.2 _ _ (by omega) (by omega) (by have:=ha.1;omega) (by omega))
    ·exact e'
   ·rw[if_neg hq];exact jL O hn f _ (m+1) 0 hB (by omega) (by omega) (h.succ O hm e') (al0 _)
  |false=>
   refine kU ?_;refine⟨hB.lt hn (m - 1),hB.lt hn m,?_⟩;cases e2:lt (p.getD (m - 1) 0) (p.getD m 0) with
   |true=>exact kT (show _/\_ from ⟨hB,hm,(by show m<=n;omega),h,ha⟩)
   |false=>
    refine kU ?_;refine jL O hn f p (m+1) (q+1) hB (by omega) (by omega) (h.succ O hm e2) ⟨by have:=ha.1;omega,fun i j a1 a2 a3 a4=>?_⟩;have al:=ha.2;have low:∀k,m+1 - (q+1+1)<=k->k<m+1->(lt (at0 p k) (at0 p (m - 1))=false/\lt (at0 p (m - 1)) (at0 p k)=false):=fun k k1 k2=>by
     by_cases hk:k=m
     ·rw[hk];exact⟨e,e2⟩
     ·exact⟨al k (m - 1) (by omega) (by omega) (by omega) (by omega),al (m - 1) k (by omega) (by omega) (by omega) (by omega)⟩
    exact O.tr _ _ _ (low j a3 a4).2 (low i a1 a2).1
theorem Dsc.rev{p:Array Nat}{m:Nat}(h:Dsc lt p m)(hz:m<=p.size):Asc lt (kas_rev p 0 m) m:=fun i j h1 h2=>by
 rw[gt hz,gt hz,if_pos (by omega),if_pos (by omega)];exact h _ _ (by omega) (by omega)
def qC(n:Nat)(lt:Nat->Nat->Bool)(r:Nat×Array Nat):Prop:=1<=r.1/\r.1<=n/\Bas n r.2/\Asc lt r.2 r.1
theorem oB(O:Ord lt)(hn:0<n){p:Array Nat}{m:Nat}(hB:Bas n p)(hm:1<=m)(hmn:m<=n)(h:Dsc lt p m):okT n lt (kas_tail3 m n p) (qC n lt):=by
 refine fB _ (cS (fun r hr=>?_) _ (oA O hn (hB.rev 0 m) (n - m) m hm (h.rev (by rw[hB.size];exact hmn))));obtain⟨a,b,c,_⟩:=hr;exact⟨by omega,by omega,hB.rev 0 m,c⟩
theorem jX(O:Ord lt)(hn:0<n){p:Array Nat}{m:Nat}(hB:Bas n p)(hm:1<=m)(hmn:m+1<=n)(h:Dsc lt p (m+1)):okT n lt (kas_descPart m n p) (qC n lt):=by
 refine fB _ (cS (fun r hr=>?_) _ (jL O hn (n - (m+1)) p (m+1) 0 hB (by omega) (by omega) h ⟨by omega,fun i j a1 a2 a3 a4=>?_⟩))
 ·obtain⟨a,b,c,d,e⟩:=hr;split
  ·exact oB O hn (a.rev _ _) b c (d.flip O (by rw[a.size];exact c) e)
  ·exact oB O hn a b c d
 ·have e1:i=m:=by omega
  have e2:j=m:=by omega
  rw[e1,e2];exact O.rf _
theorem uG(O:Ord lt)(hn:0<n){p:Array Nat}(hB:Bas n p):okT n lt (kas_count n p) (qC n lt):=by
 refine fB _ (cS (fun r hr=>?_) _ (oA O hn hB (n - 1) 1 (Nat.le_refl _) (Asc.one O p)));obtain⟨a,b,c,d⟩:=hr
 by_cases e1:(r == n)=true
 ·rw[if_pos e1];exact⟨a,by omega,hB,c⟩
 ·rw[if_neg e1];have hne:r≠n:=fun q=>e1 (by rw[q];exact beq_self_eq_true _)
  have dn:lt (at0 p r) (at0 p (r - 1))=true:=by
   rcases d with d|d
   ·exact absurd (by omega) hne
   ·exact d
  have hz:r<=p.size:=by rw[hB.size];omega
  by_cases e2:r > 1
  ·rw[if_pos e2];refine⟨hB.lt hn 0,hB.lt hn (r - 1),?_⟩;cases e:lt (p.getD 0 0) (p.getD (r - 1) 0) with
   |true=>exact kT (show _/\_ from ⟨a,by omega,hB,c⟩)
   |false=>
    refine kU ?_;have al:∀i j,i<r->j<r->lt (at0 p i) (at0 p j)=false:=fun i j h1 h2=>by
     have x1:=c i (r - 1) (by omega) (by omega);have x2:=c 0 j (by omega) h2;have x3:=c 0 i (by omega) h1;have x4:=c j (r - 1) (by omega) (by omega)
     by_cases hle:j<=i
     ·exact c j i hle h1
     ·
      have y1:lt (at0 p i) (at0 p (r - 1))=false:=O.tr _ _ _ e (c 0 i (by omega) h1) |> fun z=>z
      exact O.tr _ _ _ x4 y1
    refine jX O hn (hB.rev 0 r) a (by omega) fun i j h1 h2=>?_
    have one:∀k,k<r+1->∃k',at0 (kas_rev p 0 r) k=at0 p k'/\((k=r/\k'=r)\/(k<r/\k'<r)):=fun k hk=>by
     rw[gt hz];split
     ·exact⟨_,rfl,.inr ⟨by omega,by omega⟩⟩
     ·exact⟨_,rfl,.inl ⟨by omega,by omega⟩⟩
    obtain⟨i',z1,c1⟩:=one i (by omega);obtain⟨j',z2,c2⟩:=one j h2;rw[z1,z2];rcases c1 with ⟨c1,c1'⟩|⟨c1,c1'⟩
    ·rcases c2 with ⟨c2,c2'⟩|⟨c2,c2'⟩
     ·rw[c1',c2'];exact O.rf _
     ·omega
    ·rcases c2 with ⟨c2,c2'⟩|⟨c2,c2'⟩
     ·rw[c2'];exact O.tr _ _ _ (O.as _ _ dn) (al i' (r - 1) c1' (by omega))
     ·exact al i' j' c1' c2'
  ·rw[if_neg e2];have e3:r=1:=by omega
   subst e3;refine jX O hn hB a (by omega) fun i j h1 h2=>?_
   by_cases hij:i=j
   ·rw[hij];exact O.rf _
   ·have x1:i=0:=by omega
    have x2:j=1:=by omega
    rw[x1,x2];exact O.as _ _ dn
theorem ke(O:Ord lt)(hn:0<n){p:Array Nat}{k:Nat}(hB:Bas n p)(hs:Asc lt p k):∀(f l r:Nat),l<=r->r<=k->r - l<=f->(∀i,i<l->lt (at0 p k) (at0 p i)=false)->(∀i,r<=i->i<k->lt (at0 p i) (at0 p k)=false)->
  okT n lt (kas_place p k f l r) (fun l=>l<=k/\(∀i,i<l->lt (at0 p k) (at0 p i)=false)/\∀i,l<=i->i<k->lt (at0 p i) (at0 p k)=false)
 |0,l,r,h1,h2,h3,h4,h5=>⟨by omega,h4,fun i a b=>h5 i (by omega) b⟩
 |f+1,l,r,h1,h2,h3,h4,h5=>by
  unfold kas_place
  by_cases hge:l ≥ r
  ·rw[if_pos hge];exact⟨by omega,h4,fun i a b=>h5 i (by omega) b⟩
  ·rw[if_neg hge];refine⟨hB.lt hn k,hB.lt hn _,?_⟩;cases e:lt (p.getD k 0) (p.getD ((l+r) / 2) 0) with
   |true=>
    refine kT ?_;refine ke O hn hB hs f l ((l+r) / 2) (by omega) (by omega) (by omega) h4 fun i a b=>?_
    exact O.tr _ _ _ (O.as _ _ e) (hs _ i a b)
   |false=>
    refine kU ?_;refine ke O hn hB hs f ((l+r) / 2+1) r (by omega) h2 (by omega) (fun i a=>?_) h5;exact O.tr _ _ _ (hs i ((l+r) / 2) (by omega) (by omega)) e
theorem sG(O:Ord lt)(hn:0<n):∀(f:Nat) (p:Array Nat) (k:Nat),Bas n p->k+f<=n->Asc lt p k->okT n lt (kas_bin f p k) (fun p'=>Bas n p'/\Asc lt p' (k+f))
 |0,p,k,hB,_,h=>⟨hB,h⟩
 |f+1,p,k,hB,hf,h=>by
  refine fB _ (cS (fun l hl=>?_) _ (ke O hn hB h k 0 k (Nat.zero_le _) (Nat.le_refl _) (by omega) (fun i z=>absurd z (Nat.not_lt_zero _)) fun i a b=>by omega));obtain⟨h1,h2,h3⟩:=hl;have hks:k<p.size:=by rw[hB.size];omega
  refine cS (fun r hr=>⟨hr.1,by rw[show k+(f+1)=k+1+f by omega];exact hr.2⟩) _ (sG O hn f _ (k+1) (hB.bub _ _) (by omega) fun i j hij hj=>?_);have one:∀x,x<k+1->(at0 (bubble p k (k - l)) x=at0 p k/\x=l)\/(at0 (bubble p k (k - l)) x=at0 p (x - 1)/\l<x)\/(at0 (bubble p k (k - l)) x=at0 p x/\x<l):=fun x hx=>by
   rw[wQ hks h1]
   by_cases q1:x=l
   ·rw[if_pos q1];exact .inl ⟨rfl,q1⟩
   ·rw[if_neg q1]
    by_cases q2:l<x/\x<=k
    ·rw[if_pos q2];exact .inr (.inl ⟨rfl,q2.1⟩)
    ·rw[if_neg q2];exact .inr (.inr ⟨rfl,by omega⟩)
  rcases one i (by omega) with ⟨e1,c1⟩|⟨e1,c1⟩|⟨e1,c1⟩
  ·rcases one j hj with ⟨e2,c2⟩|⟨e2,c2⟩|⟨e2,c2⟩
   ·rw[e1,e2];exact O.rf _
   ·rw[e1,e2];exact h3 _ (by omega) (by omega)
   ·omega
  ·rcases one j hj with ⟨e2,c2⟩|⟨e2,c2⟩|⟨e2,c2⟩
   ·omega
   ·rw[e1,e2];exact h _ _ (by omega) (by omega)
   ·omega
  ·rcases one j hj with ⟨e2,c2⟩|⟨e2,c2⟩|⟨e2,c2⟩
   ·rw[e1,e2];exact h2 _ c1
   ·rw[e1,e2];exact h _ _ (by omega) (by omega)
   ·rw[e1,e2];exact h _ _ (by omega) (by omega)
theorem lM(O:Ord lt)(hn:0<n):okT n lt (kas_sort n) (fun p=>Bas n p/\Asc lt p n):=by
 refine fB _ (cS (fun r hr=>?_) _ (uG O hn (p:=(List.range n).toArray) (Array.Perm.refl _)));obtain⟨a,b,c,d⟩:=hr
 by_cases hlt:r.1<n
 ·rw[if_pos hlt];have hm:max r.1 1=r.1:=by omega
  rw[hm];refine cS (fun p hp=>⟨hp.1,?_⟩) _ (sG O hn (n - r.1) r.2 r.1 c (by omega) d);have:=hp.2
  rwa [show r.1+(n - r.1)=n by omega] at this
 ·rw[if_neg hlt];have e:r.1=n:=by omega
  exact⟨c,by rw[←e];exact d⟩
end
end SL
namespace SL
open PySem PySem.W PyProof.Rows
def eD(h:Heap)(d:Addr)(es:Array DictEntry)(ep:Nat):Prop:=∃ob,h.get? d=some ob/\ob.ExactDict/\ob.data=.dict es ep
theorem eD.on{h h':Heap}{d:Addr}{es:Array DictEntry}{ep:Nat}(x:eD h d es ep)(k:∀ob,h.get? d=some ob->h'.get? d=some ob):eD h' d es ep:=let ⟨ob,a,r⟩:=x;⟨ob,k ob a,r⟩
theorem eD.lt{h:Heap}{d:Addr}{es:Array DictEntry}{ep:Nat}(x:eD h d es ep):d<h.objs.size:=let ⟨_,a,_⟩:=x;Heap.lt_size a
section
variable {prog:Program}{w:World}{A:Around}{E:Value->Shared->Prop}{s:Shared}{d it:Addr}{es:Array DictEntry}{ep i:Nat}
theorem eD.ty(x:eD s.heap d es ep):s.TypeIs (.ref d) "dict":=let ⟨ob,a,c,_⟩:=x;⟨ob,a,c.1⟩
theorem uH{Q:Value->Shared->Prop}(lo:(d == sysModules)=false)(x:eD s.heap d es ep)
  (q:Q (.ref s.heap.objs.size) {s with heap:=s.heap.push {cls:=.type "dict_keyiterator",data:=.fields #[.ref d,.int 0 0,.int es.size 0,.int ep 0]}}):wpAny (model prog w) A (pyIter (.ref d)) Q E s:=by
 have T:=x.ty;obtain⟨ob,e1,c,e2⟩:=id x;refine wpAny_pyIter_slot T F.slot_dict_iter (wpAny_call_entry F.slot_dict_iter T F.entry_dict_iter ?_ (F.args_dict_iter_1 _));unfold Builtin.«dict.__iter__» Builtin.Dict.dictSlotNone;refine wpAny_bind (wpAny_bind (wpAny_notOrdered_dict T ?_));change wpAny (model prog w) _ (pure (Value.ref d)) _ _ s;refine wpAny_pure ?_;change wpAny (model prog w) _ (Builtin.Dict.showsAll d >>= _) _ _ s;unfold Builtin.Dict.showsAll;rw[if_neg (by rw[lo];decide)];refine wpAny_bind (wpAny_pure (wpAny_bind (wpAny_dictEntries e1 e2 (wpAny_bind (wpAny_dictEpoch e1 e2 ?_)))));refine wpAny_bind (wpAny_newObj_type (wpAny_pure ⟨_,rfl,"dict_keyiterator",_,⟨_,aay _ rfl,rfl⟩,F.slot_dict_keyiterator_next.lookup,?_⟩));simpa [rawInt] using q
theorem uI{Q:Option Value->Shared->Prop}(hit:s.heap.IsKeyIter it d i es.size ep)(x:eD s.heap d es ep)(hi:i<es.size)
  (q:∀h',h'.IsKeyIter it d (i+1) es.size ep->Heap.SameBut it s.heap h'->Q (some es[i].key) {s with heap:=h'}):wpAny (model prog w) A (pyNext (.ref it)) Q E s:=by
 obtain⟨oi,f1,f2,f3⟩:=id hit;obtain⟨ob,e1,c,e2⟩:=id x;have T:=hit.typeIs;unfold pyNext;refine wpAny_bind (wpAny_attempt (wpAny_callSpecial?_slot (name:=Str.ofString "__next__") T F.slot_dict_keyiterator_next (wpAny_call_entry F.slot_dict_keyiterator_next T F.entry_dict_keyiterator_next ?_ (F.args_dict_keyiterator_next_1 _))));refine wpAny_bind (wpAny_pure (wpAny_bind (wpAny_bind ?_)))
 first | refine wpAny_bind (wpAny_typeNameOfWhole_keyiter T (wpAny_pure ?_)) | refine wpAny_bind (wpAny_typeNameOf_keyiter T (wpAny_pure ?_))
 refine wpAny_bind (wpAny_fieldsOf f1 f3 ?_);simp only[show Builtin.Dict_items.ownsTuple "dict_keyiterator"=false by decide,Bool.false_eq_true,if_false];change wpAny (model prog w) _ (if (Value.ref d == Value.none)=true then _ else _) _ _ s;rw[if_neg (show ¬(Value.ref d == Value.none)=true from Bool.false_ne_true)];refine wpAny_bind (wpAny_pure (wpAny_bind (wpAny_dictEntries e1 e2 ?_)));rw[if_neg (by simp)];refine wpAny_bind (wpAny_pure (wpAny_bind (wpAny_dictEpoch e1 e2 ?_)));rw[if_neg (by simp)];refine wpAny_pure ?_;simp only[show ¬(i:Int)<0 by omega,if_false,Int.toNat_natCast,Array.getElem?_eq_getElem hi];refine wpAny_bind ?_
 first | refine wpAny_bind (wpAny_typeNameOfWhole_keyiter T (wpAny_pure ?_)) | refine wpAny_bind (wpAny_typeNameOf_keyiter T (wpAny_pure ?_))
 refine wpAny_bind (wpAny_isOneOf_keyiter T ?_);change wpAny (model prog w) _ (setField (.ref it) 1 (rawInt ((i:Int)+1)) >>= _) _ _ s;refine wpAny_bind (wpAny_setField f1 f3 (by simp) ?_);generalize hh:s.heap.update it (Obj.mapFields (·.setIfInBounds 1 (rawInt ((i:Int)+1))))=h';have J:h'.IsKeyIter it d (i+1) es.size ep:=by
  rw[←hh];exact⟨_,Heap.get?_update_self _ f1 (Obj.isFreed_of_fields (Obj.data_mapFields f3 _)),(Obj.cls_mapFields ..).trans f2,by rw[Obj.data_mapFields f3];simp[rawInt]⟩
 have sb:Heap.SameBut it s.heap h':=by rw[←hh];exact Heap.SameBut.update ..
 refine wpAny_bind (wpAny_holding (wpAny_bind (wpAny_isOneOf_keyiter (s:={s with heap:=h'}) J.typeIs ?_)));change wpAny (model prog w) _ (pure es[i].key) _ _ _;exact wpAny_pure (wpAny_pure ⟨_,rfl,wpAny_pure (q h' J sb)⟩)
theorem uJ{Q:Option Value->Shared->Prop}(hn:A.handled=none)(hit:s.heap.IsKeyIter it d i es.size ep)(x:eD s.heap d es ep)(hi:es.size<=i)
  (q:∀h',Heap.ExtBut it s.heap h'->Q none {s with heap:=h'}):wpAny (model prog w) A (pyNext (.ref it)) Q E s:=by
 obtain⟨oi,f1,f2,f3⟩:=id hit;obtain⟨ob,e1,c,e2⟩:=id x;have T:=hit.typeIs;unfold pyNext;refine wpAny_bind (wpAny_attempt (wpAny_callSpecial?_slot (name:=Str.ofString "__next__") T F.slot_dict_keyiterator_next (wpAny_call_entry F.slot_dict_keyiterator_next T F.entry_dict_keyiterator_next ?_ (F.args_dict_keyiterator_next_1 _))));refine wpAny_bind (wpAny_pure (wpAny_bind (wpAny_bind ?_)))
 first | refine wpAny_bind (wpAny_typeNameOfWhole_keyiter T (wpAny_pure ?_)) | refine wpAny_bind (wpAny_typeNameOf_keyiter T (wpAny_pure ?_))
 refine wpAny_bind (wpAny_fieldsOf f1 f3 ?_);simp only[show Builtin.Dict_items.ownsTuple "dict_keyiterator"=false by decide,Bool.false_eq_true,if_false];change wpAny (model prog w) _ (if (Value.ref d == Value.none)=true then _ else _) _ _ s;rw[if_neg (show ¬(Value.ref d == Value.none)=true from Bool.false_ne_true)];refine wpAny_bind (wpAny_pure (wpAny_bind (wpAny_dictEntries e1 e2 ?_)));rw[if_neg (by simp)];refine wpAny_bind (wpAny_pure (wpAny_bind (wpAny_dictEpoch e1 e2 ?_)));rw[if_neg (by simp)];refine wpAny_pure ?_;simp only[show ¬(i:Int)<0 by omega,if_false,Int.toNat_natCast,Array.getElem?_eq_none hi];refine wpAny_bind ?_
 first | refine wpAny_bind (wpAny_typeNameOfWhole_keyiter T (wpAny_pure ?_)) | refine wpAny_bind (wpAny_typeNameOf_keyiter T (wpAny_pure ?_))
 change wpAny (model prog w) _ (setField (.ref it) 0 .none >>= _) _ _ s;refine wpAny_bind (wpAny_setField f1 f3 (by simp) ?_);change wpAny (model prog w) _ (newExc (.type "StopIteration") [] >>= _) _ _ _;refine wpAny_bind ?_;simp only[newExc,newTuple];refine wpAny_bind (wpAny_newObj_type (wpAny_bind (m:=firstArgMember _ _) (wpAny_of_eq (a:=Value.none) (by first | rfl | (simp only[firstArgMember];rfl)) (wpAny_newObj_type ?_ (by size_fits)))) (by size_fits));simp only[raiseNew];refine wpAny_bind (wpAny_handled ?_);rw[show A.in1.handled=none from hn];refine wpAny_bind (wpAny_pure (wpAny_throw ?thr));exact wpAny_bind (wpAny_isInstance (T:="StopIteration") (b:=true) ⟨_,aay _ rfl,rfl⟩ isSubtype_stop (wpAny_pure (q _ (((Heap.SameBut.update ..).extBut.push _).push _))))
end
section
variable {prog:Program}{w:World}{d:Addr}{es:Array DictEntry}{ep:Nat}
theorem uK{A:Around}(hn:A.handled=none)(it:Addr)(hne:d≠it):Walks prog w A it [it,d] [it] es.size (fun i v=>∃e,es[i]? =some e/\v=e.key) (fun i h=>h.IsKeyIter it d i es.size ep/\eD h d es ep) where
 sub:=fun b hb=>by rw[aaj.mp hb];exact aac ..
 frame:=fun _ _ _ st k=>⟨let ⟨o,a,r⟩:=st.1;⟨o,k it (aac ..) o a,r⟩,st.2.on fun o a=>k d (aad _ (aac ..)) o a⟩
 item:=fun i s Q E hi st q=>uI st.1 st.2 hi fun h' J sb=>q _ h' s.toks ⟨es[i],Array.getElem?_eq_getElem hi,rfl⟩ ⟨J,st.2.on fun o a=>(sb.2 d hne).trans a⟩ fun b o hb e=>(sb.2 b (fun z=>hb (aaj.mpr z))).trans e
 done:=fun s Q E st q=>uJ hn st.1 st.2 (Nat.le_refl _) fun h' x=>q h' s.toks fun b o hb e=>x b o (fun z=>hb (aaj.mpr z)) e
 self:=fun _ _ _ _ st q=>wpAny_pyIter_keyiter st.1 q
theorem wR(lo:(d == sysModules)=false):KdlSrc prog w "dict" d d es.size (fun i v=>∃e,es[i]? =some e/\v=e.key) (fun h=>eD h d es ep) where
 type:=fun _ x=>x.ty
 there:=fun _ x=>⟨x.lt,x.lt⟩
 keep:=fun _ _ x k=>x.on fun o e=>k d (.inl rfl) o e
 notList:=by decide
 notTuple:=by decide
 hint:=fun _ _ _ _ x q=>kdl_hint_dict x.ty q
 iter:=fun _ _ hn x=>⟨_,_,(fun _ _ q=>uH lo x q),uK hn _ (Nat.ne_of_lt x.lt),⟨⟨_,aay _ rfl,rfl,rfl⟩,x.on fun o e=>aaf _ e⟩⟩
theorem jY{A:Around}{E:Value->Shared->Prop}{s:Shared}{R:List Value->Shared->Prop}(lo:(d == sysModules)=false)(hn:A.handled=none)(x:eD s.heap d es ep)(hz:es.size<=sizeLine)
  (q:∀(h':Heap) (tk:Nat),(∀b o,s.heap.get? b=some o->h'.get? b=some o)->R (es.toList.map (·.key)) {s with heap:=h',toks:=tk}):wpAny (model prog w) A (collect (.ref d)) R E s:=by
 refine kdu_collect (wR lo) hn x hz fun h' tk acc k hI=>?_
 have e:acc.toList=es.toList.map (·.key):=by
  apply List.ext_getElem?;intro j;rw[aax,Array.getElem?_toList,Array.getElem?_toList];cases q1:acc[j]? with
  |none=>
   rw[Array.getElem?_eq_none_iff,hI.1] at q1;rw[Array.getElem?_eq_none q1];rfl
  |some v=>
   obtain⟨en,h1,h2⟩:=hI.2 j v q1;rw[h1,h2];rfl
 rw[e];exact q h' tk k
end
end SL
namespace SL
open PySem PySem.W PyProof.Rows
def kg(prog:Program)(w:World)(A:Around)(s:Shared)(ks:List Value)(lt:Nat->Nat->Bool):Prop:=
 ∃κ,(∀(Q:SortKind->Shared->Prop) (E:Value->Shared->Prop),Q κ s->wpAny (model prog w) A (keyKind' ks.toArray) Q E s)/\
  ∀i j (C:Bool->Shared->Prop),i<ks.length->j<ks.length->C (lt i j) s->kas_ask prog w A κ ks i j C s
abbrev cy(vs:List Value)(p:Array Nat):List Value:=p.toList.map fun i=>vs.getD i Value.none
theorem jn(vs:List Value):cy vs (List.range vs.length).toArray=vs:=by
 apply List.ext_getElem?;intro j;unfold cy;rw[aax]
 by_cases h:j<vs.length
 ·simp[h]
 ·have h:vs.length<=j:=Nat.le_of_not_lt h;simp[h]
theorem Asc.few(O:Ord lt){p:Array Nat}{n:Nat}(hn:n<2):Asc lt p n:=fun i j h1 h2=>by
 have e1:j=0:=by omega
 have e2:i=0:=by omega
 rw[e1,e2];exact O.rf _
theorem lN{vs:List Value}{p:Array Nat}(h:Bas vs.length p):(cy vs p).length=vs.length:=by
 unfold cy;rw[aaa,Array.length_toList,h.size]
section
variable {prog:Program}{w:World}{A:Around}{E:Value->Shared->Prop}{s:Shared}{lt:Nat->Nat->Bool}
theorem qD{a:Addr}{vs:List Value}{n:Nat}{P:PySem.Fin->Shared->Prop}(O:Ord lt)(hx:s.heap.get? a=some (seqObj "list" vs.toArray n))(h64:vs.length<64)
  (hA:∀h',(∀b o,b≠a->s.heap.get? b=some o->h'.get? b=some o)->2<=vs.length->kg prog w A {s with heap:=h'} vs lt)
  (fin:∀(p:Array Nat) (h':Heap) (e:Nat),Bas vs.length p->Asc lt p vs.length->(∀b o,b≠a->s.heap.get? b=some o->h'.get? b=some o)->h'.get? a=some (seqObj "list" (cy vs p).toArray e)->P (.done (.ret .none)) {s with heap:=h'}) :
  wpAny (model prog w) A (Builtin.«list.sort» ⟨[.ref a],[]⟩) P E s:=by
 obtain⟨e1,hx1⟩:∃e1,(s.heap.update a (Obj.mapSeq fun _=>(#[]:Array Value))).get? a=some (seqObj "list" #[] e1):=⟨_,get?_update_seq hx fun _=>#[]⟩;have hz:∀m,m<=vs.length->m<=sizeLine:=fun m hm=>by rw[sizeLine_eq];omega
 rw[list_sort_plain];refine wpAny_bind (listItems_at hx rfl (wpAny_bind (listUpdate_at hx rfl ?_ (by rw[aaq];exact hz _ (Nat.le_refl _)) (Nat.zero_le _))));refine wpAny_bind (seqEpoch_at hx1 rfl (wpAny_bind (wpAny_newTuple (wpAny_bind (wpAny_newList (wpAny_holding ?_) (Nat.zero_le _))) (hz _ (Nat.le_refl _)))));generalize hh:((s.heap.update a (Obj.mapSeq fun _=>(#[]:Array Value))).push (seqObj "tuple" vs.toArray 0)).push (seqObj "list" #[] 0)=h2;have k2:∀b o,b≠a->s.heap.get? b=some o->h2.get? b=some o:=fun b o hb e=>by
  rw[←hh];exact aaf _ (aaf _ (((Heap.SameBut.update ..).2 b hb).trans e))
 have a2:h2.get? a=some (seqObj "list" #[] e1):=by rw[←hh];exact aaf _ (aaf _ hx1)
 have tail:∀(st:SortSt) (p:Array Nat),Bas vs.length p->Asc lt p vs.length->(arrOf st).map (·.2)=(cy vs p).toArray->failedOf st=none->
   wpAny (model prog w) A (do
    let tch:=(←seqEpoch a) != e1
    Builtin.List.listUpdate (.ref a) fun _=>(arrOf st).map (·.2)
    if let some e:=failedOf st then rule "list.sort.comparison-raised";throw e
    if tch then rule "list.sort.modified";raiseError "ValueError" "list modified during sort"
    ret .none) P E {s with heap:=h2}:=by
  intro st p hB hS ho hf;rw[ho,hf];have hsz:(cy vs p).toArray.size<=sizeLine:=by rw[aaq,lN hB];exact hz _ (Nat.le_refl _)
  refine wpAny_bind (seqEpoch_at a2 rfl (wpAny_bind (listUpdate_at a2 rfl ?_ (Nat.zero_le _) (Nat.le_succ_of_le hsz))));simp only[bne_self_eq_false,Bool.false_eq_true,if_false];obtain⟨e2,a3⟩:∃e2,(h2.update a (Obj.mapSeq fun _=>(cy vs p).toArray)).get? a=some (seqObj "list" (cy vs p).toArray e2):=⟨_,get?_update_seq a2 fun _=>(cy vs p).toArray⟩;exact wpAny_pure (fin p _ e2 hB hS (fun b o hb e=>((Heap.SameBut.update ..).2 b hb).trans (k2 b o hb e)) a3)
 change wpAny (model prog w) A _ P E {s with heap:=h2};dsimp only
 by_cases h2':vs.toArray.size<2
 ·rw[if_pos h2',if_pos h2'];rw[aaq] at h2';refine wpAny_bind (wpAny_pure (wpAny_bind (wpAny_pure ?_)));refine tail _ (List.range vs.length).toArray (Array.Perm.refl _) (Asc.few O h2') ?_ rfl;rw[jn];apply Array.toList_inj.mp;simp;exact List.map_snd_zip (Nat.le_refl _)
 ·rw[if_neg h2',if_neg h2'];rw[aaq] at h2';obtain⟨κ,hk,hask⟩:=hA h2 k2 (by omega);refine wpAny_bind (hk _ _ ?_);refine wpAny_bind (wpAny_mono (kat_run (Q:=fun st' s'=>∃p:Array Nat,arrOf st'=p.map (kas_item (vs.toArray.zip vs.toArray))/\failedOf st'=none/\(Bas vs.length p/\Asc lt p vs.length)/\s'={s with heap:=h2}) (ks:=vs) rfl (by omega) h64
   (G:=fun p s'=>(Bas vs.length p/\Asc lt p vs.length)/\s'={s with heap:=h2}) (fun p st' s' _ q1 q2 q3=>⟨p,q1,q2,q3⟩) (kR (fun i j C hi hj=>hask i j C hi hj) _ (cS (fun p hp=>⟨hp,rfl⟩) _ (lM O (by omega))))) ?_ fun _ _ z=>z)
  rintro⟨⟨⟩,st'⟩ s' ⟨p,q1,q2,⟨q3,q4⟩,rfl⟩;exact tail st' p q3 q4 (kat_snds rfl q1) q2
theorem oD{x:Value}{Q:Value->Shared->Prop}(hcol:wpAny (model prog w) A.in1 (collect x) (fun vs s₁=>vs.length<64/\∃lt,Ord lt/\
   (∀h',(∀b o,s₁.heap.get? b=some o->h'.get? b=some o)->2<=vs.length->kg prog w A.in1.in1 {s₁ with heap:=h'} vs lt)/\
   ∀(p:Array Nat) (h':Heap) (e:Nat),Bas vs.length p->Asc lt p vs.length->(∀b o,s₁.heap.get? b=some o->h'.get? b=some o)->h'.get? s₁.heap.objs.size=some (seqObj "list" (cy vs p).toArray e)->Q (.ref s₁.heap.objs.size) {s₁ with heap:=h'}) E s) :
  wpAny (model prog w) A (call (.builtin "sorted") [x]) Q E s:=by
 refine Calls.call_function_entry kind_sorted plain_sorted entry_sorted (args_sorted1 _) ?_;unfold Builtin.«sorted»;refine wpAny_bind (m:=checkCount "sorted" 1 1 _) (wpAny_pure (wpAny_bind (wpAny_mono hcol (fun vs s₁ h₁=>?_) fun _ _ z=>z)));obtain⟨h64,lt,O,hA,fin⟩:=h₁;refine wpAny_bind (wpAny_newList ?_ (by rw[sizeLine_eq];omega));have hx:(s₁.heap.push (seqObj "list" vs.toArray 0)).get? s₁.heap.objs.size=some (seqObj "list" vs.toArray 0):=aay _ rfl;have up:∀b o,s₁.heap.get? b=some o->b≠s₁.heap.objs.size/\(s₁.heap.push (seqObj "list" vs.toArray 0)).get? b=some o:=fun b o e=>⟨Nat.ne_of_lt (Heap.lt_size e),aaf _ e⟩
 change wpAny (model prog w) _ _ _ _ {s₁ with heap:=s₁.heap.push (seqObj "list" vs.toArray 0)};refine wpAny_bind (wpAny_holding (wpAny_call_entry slot_list_sort ⟨_,hx,rfl⟩ entry_list_sort (qD O hx h64 (fun h' k=>hA h' fun b o e=>k b o (up b o e).1 (up b o e).2) fun p h' e hB hS k he=>?_) (args_list_sort _)));exact⟨_,rfl,wpAny_pure ⟨_,rfl,fin p h' e hB hS (fun b o z=>k b o (up b o z).1 (up b o z).2) he⟩⟩
end
def ltS(a b:Str):Bool:=decide (a.cps.toList<b.cps.toList)
def ltP(p q:Str×Str):Bool:=if p.1=q.1 then ltS p.2 q.2 else ltS p.1 q.1
theorem kW(a b:Str):ltS a b=!leS b a:=by unfold ltS leS;rw[Bool.not_not]
theorem gu{p q:Str×Str}:ltP q p=false↔(p.1=q.1/\leS p.2 q.2=true)\/(p.1≠q.1/\leS p.1 q.1=true):=by
 unfold ltP
 by_cases h:p.1=q.1
 ·rw[if_pos h.symm,kW];simp[h]
 ·rw[if_neg (fun z=>h z.symm),kW];simp[h]
theorem yg(a b c:Str×Str)(h1:ltP b a=false)(h2:ltP c b=false):ltP c a=false:=by
 rw[gu] at h1 h2 ⊢;rcases h1 with ⟨x1,y1⟩|⟨x1,y1⟩
 ·rcases h2 with ⟨x2,y2⟩|⟨x2,y2⟩
  ·exact .inl ⟨x1.trans x2,i8 _ _ _ y1 y2⟩
  ·exact .inr ⟨by rw[x1];exact x2,by rw[x1];exact y2⟩
 ·rcases h2 with ⟨x2,y2⟩|⟨x2,y2⟩
  ·exact .inr ⟨by rw[←x2];exact x1,by rw[←x2];exact y1⟩
  ·refine .inr ⟨fun z=>?_,i8 _ _ _ y1 y2⟩;rw[←z] at y2;exact x1 (iF _ _ y1 y2)
theorem yh(a b:Str×Str)(h:ltP a b=true):ltP b a=false:=by
 rw[gu];unfold ltP at h
 by_cases e:a.1=b.1
 ·rw[if_pos e,kW] at h;refine .inl ⟨e,?_⟩;have:=i7 a.2 b.2;rw[Bool.not_eq_true'] at h
  rwa [h,Bool.or_false] at this
 ·rw[if_neg e,kW] at h;refine .inr ⟨e,?_⟩;have:=i7 a.1 b.1;rw[Bool.not_eq_true'] at h
  rwa [h,Bool.or_false] at this
theorem uM(a b:Str×Str)(h1:ltP b a=false)(h2:ltP a b=false):a=b:=by
 rw[gu] at h1 h2;rcases h1 with ⟨x1,y1⟩|⟨x1,y1⟩
 ·rcases h2 with ⟨_,y2⟩|⟨x2,_⟩
  ·exact Prod.ext x1 (iF _ _ y1 y2)
  ·exact absurd x1.symm x2
 ·rcases h2 with ⟨x2,_⟩|⟨_,y2⟩
  ·exact absurd x2.symm x1
  ·exact absurd (iF _ _ y1 y2) x1
theorem yi(f:Nat->Str×Str):Ord (fun i j=>ltP (f i) (f j)):=⟨fun a b c=>yg _ _ _,fun a b=>yh _ _⟩
abbrev InP(l:List (Str×Str)):Prop:=l.Pairwise fun a b=>ltP b a=false
theorem fV{l l':List (Str×Str)}(h:InP l)(h':InP l')(p:l.Perm l'):l=l':=List.Perm.eq_of_pairwise (fun a b _ _=>uM a b) h h' p
end SL
namespace L2
open PySem PySem.W PySem.Spec PyProof.Rows
open SL (eD kg Ord Bas Asc cy ltP ltS InP yi)
def cm:List Key->Str×Str
 |[.inr x,.inr y]=>(x,y)
 |_=>(Str.empty,Str.empty)
def IsPair(k:List Key):Prop:=∃x y,k=[.inr x,.inr y]
theorem IsPair.eq{k:List Key}(h:IsPair k):k=[.inr (cm k).1,.inr (cm k).2]:=by
 obtain⟨x,y,rfl⟩:=h;rfl
theorem getD_map{α β:Type}(f:α->β)(l:List α){i:Nat}(hi:i<l.length)(d:α)(d':β):(l.map f).getD i d'=f (l.getD i d):=by
 rw[aat,aax,aat,aae hi];rfl
theorem getD_mem{α:Type}(l:List α){i:Nat}(hi:i<l.length)(d:α):l.getD i d∈l:=by
 rw[aat,aae hi];exact List.getElem_mem hi
section
variable {X:Cx}{pins:List (Addr×Obj)}{σ:St}{H:Hp}{s:Shared}
theorem Inv.yj{p:Addr}{kvs:List (List Key×V)}(I:Inv X pins σ H s)(h:H p=some (.dT kvs)):(p == sysModules)=false/\kvs.length<=sizeLine/\∃(xs:List (List Key×Addr×Value)) (es:Array DictEntry) (ep:Nat),KT H kvs xs/\eD s.heap p es ep/\
  es.toList.map (·.key)=xs.map (fun x=>Value.ref x.2.1)/\(kvs.map (·.1)).Nodup:=by
 obtain⟨z,y,xs,r,o,es,ep,h1,h2,h3,h4,h5⟩:=(show ba X.prog X.w H s.heap p (.dT kvs) from I.hok p _ h);refine⟨y,z,xs,es,ep,r,⟨o,h1,h2,h3⟩,?_,?_⟩
 ·rw[h4,List.map_map];rfl
 ·have e:∀{l:List (List Key×V)} {m:List (List Key×Addr×Value)},KT H l m->l.map (·.1)=m.map (·.1):=by
   intro l m q
   induction q with
   |nil=>rfl
   |cons a b ih=>rw[aaw,aaw,ih,a.1]
  rw[e r];exact h5
theorem KT.len{kvs:List (List Key×V)}{xs:List (List Key×Addr×Value)}(r:KT H kvs xs):kvs.length=xs.length:=Paired.length r
theorem KT.get:∀{kvs:List (List Key×V)} {xs:List (List Key×Addr×Value)},KT H kvs xs->∀(i:Nat) (x:List Key×Addr×Value),xs[i]? =some x->∃v,kvs[i]? =some (x.1,v)/\H x.2.1=some (.tup (x.1.map kV))
 |_,_,.nil,i,x,h=>by simp at h
 |_,_,.cons a r,0,x,h=>by
  simp at h;subst h;exact⟨_,by rw[List.getElem?_cons_zero,←a.1],by rw[←a.1];exact a.2.1⟩
 |_,_,.cons a r,i+1,x,h=>by
  simp only[List.getElem?_cons_succ] at h ⊢;exact KT.get r i x h
theorem wS{h:Heap}{a:Addr}{x y:Str}{P:Program}{w:World}(ok:HOk P w H h)(e:H a=some (.tup [.str x,.str y])):∃o n t u,h.get? a=some o/\o.cls=.type "tuple"/\o.data=.seq #[.str x t,.str y u] n:=by
 obtain⟨_,its,r,o,h1,h2,n,h3⟩:=(show ba P w H h a (.tup [.str x,.str y]) from ok a _ e);obtain⟨v,w',rfl,⟨t,rfl⟩,⟨u,rfl⟩⟩:=vals2 r;exact⟨o,n,t,u,h1,h2,h3⟩
theorem wT{A:Around}{E:Value->Shared->Prop}{a b:Addr}{p q:Str×Str}{Q:Bool->Shared->Prop}{prog:Program}{w:World}(ha:∃o n t u,s.heap.get? a=some o/\o.cls=.type "tuple"/\o.data=.seq #[.str p.1 t,.str p.2 u] n)
  (hb:∃o n t u,s.heap.get? b=some o/\o.cls=.type "tuple"/\o.data=.seq #[.str q.1 t,.str q.2 u] n)(h:Q (ltP p q) s):wpAny (model prog w) A (keyLt' (tuples' true) (.ref a) (.ref b)) Q E s:=by
 obtain⟨oa,na,ta,ua,a1,a2,a3⟩:=ha;obtain⟨ob,nb,tb,ub,b1,b2,b3⟩:=hb;refine kat_lt a1 a3 b1 b3 (kat_cons (wpAny_eqBool_str ?_));unfold ltP at h
 by_cases e:p.1=q.1
 ·rw[if_pos e] at h;rw[aan e];refine kat_yes (kat_cons (wpAny_eqBool_str ?_))
  by_cases e2:p.2=q.2
  ·rw[aan e2];refine kat_yes (kat_nil ?_);have z:ltS p.2 q.2=false:=by rw[e2];exact aai (List.lt_irrefl _)
   rw[z] at h;exact h
  ·rw[aai e2];exact kat_no (kat_one _ _ (lt_str h))
 ·rw[if_neg e] at h;rw[aai e];exact kat_no (oneLt_str h)
theorem pN{h:Heap}:∀{xs:List (List Key×Addr×Value)},(∀x∈xs,∃o n t u,h.get? x.2.1=some o/\o.cls=.type "tuple"/\o.data=.seq #[.str (cm x.1).1 t,.str (cm x.1).2 u] n)->
  ∃fs:List Value,KatTups h (xs.map fun x=>Value.ref x.2.1) fs/\fs.length=xs.length/\∀v∈fs,∃z t,v=Value.str z t
 |[],_=>⟨[],KatTups.nil,rfl,fun v hv=>by cases hv⟩
 |x::r,hx=>by
  obtain⟨o,n,t,u,h1,h2,h3⟩:=hx x (aac ..);obtain⟨fs,k,l,a⟩:=pN fun y hy=>hx y (aad _ hy)
  refine⟨.str (cm x.1).1 t::fs,KatTups.cons h1 h2 h3 rfl k,by rw[aau,aau,l],fun v hv=>?_⟩;rcases List.mem_cons.mp hv with rfl|hv
  ·exact⟨_,_,rfl⟩
  ·exact a v hv
theorem qE{prog:Program}{w:World}{A:Around}{xs:List (List Key×Addr×Value)}(h2:2<=xs.length)(hx:∀x∈xs,∃o n t u,s.heap.get? x.2.1=some o/\o.cls=.type "tuple"/\o.data=.seq #[.str (cm x.1).1 t,.str (cm x.1).2 u] n) :
  kg prog w A s (xs.map fun x=>Value.ref x.2.1) (fun i j=>ltP (cm ((xs.map (·.1)).getD i [])) (cm ((xs.map (·.1)).getD j []))):=by
 obtain⟨fs,kt,kl,ks⟩:=pN hx;refine⟨tuples' (Value.type "str" != Value.type "tuple"),fun Q E q=>?_,fun i j C hi hj h=>?_⟩
 ·refine kat_kind kt (by omega) (T:=Value.type "str") (fun v hv=>?_) (by decide) q;obtain⟨z,t,rfl⟩:=ks v hv;exact Looks.of_pure rfl
 ·rw[aaa] at hi hj;unfold kas_ask;have h:C (ltP (cm ((xs.map (·.1)).getD i [])) (cm ((xs.map (·.1)).getD j []))) s:=h;rw[getD_map (·.1) xs hi ([],0,Value.none),getD_map (·.1) xs hj ([],0,Value.none)] at h;rw[getD_map (fun x=>Value.ref x.2.1) xs hi ([],0,Value.none),getD_map (fun x=>Value.ref x.2.1) xs hj ([],0,Value.none)];exact wT (hx _ (getD_mem xs hi _)) (hx _ (getD_mem xs hj _)) h
theorem oE{α:Type}(l:List α)(d:α){p:Array Nat}(hB:Bas l.length p):(p.toList.map fun i=>l.getD i d).Perm l:=by
 have h1:p.toList.Perm (List.range l.length):=by
  have:=Array.perm_iff_toList_perm.mp hB;simpa using this
 have h2:=h1.map (fun i=>l.getD i d);have e:(List.range l.length).map (fun i=>l.getD i d)=l:=by
  apply List.ext_getElem?;intro j;rw[aax]
  by_cases h:j<l.length
  ·simp[h]
  ·have h:l.length<=j:=Nat.le_of_not_lt h;simp[h]
 rwa [e] at h2
theorem sI{p:Array Nat}{n:Nat}{lt:Nat->Nat->Bool}(hB:Bas n p)(hS:Asc lt p n):p.toList.Pairwise fun a b=>lt b a=false:=by
 rw[List.pairwise_iff_getElem];intro i j hi hj hij;have:=hS i j (Nat.le_of_lt hij) (by rw[Array.length_toList,hB.size] at hj;exact hj);have e:∀k (hk:k<p.toList.length),SL.at0 p k=p.toList[k]:=fun k hk=>by
  rw[SL.fU,←Array.getElem?_toList,aae hk];rfl
 rw[e i hi,e j hj] at this;exact this
end
theorem oF{X:Cx}(hc:X.calm=true):dt X (.builtin "sorted") (fun xs H Q=>∃p kvs,xs=[.ref p]/\H p=some (.dT kvs)/\kvs.length<64/\(∀kv∈kvs,IsPair kv.1)/\
  ∀q (zs:List ((Str×Str)×Addr)),H q=none->(zs.map (·.1)).Perm (kvs.map fun kv=>cm kv.1)->InP (zs.map (·.1))->(∀z∈zs,H z.2=some (.tup [.str z.1.1,.str z.1.2]))->Q (.ref q) (upd H q (.lst (zs.map fun z=>V.ref z.2)))):=by
 intro pins s σ H ys us Q I r h;obtain⟨p,kvs,rfl,hp,h64,hpr,q⟩:=h;obtain⟨u,rfl,rx⟩:=vals1 r;cases rx
 have hh:X.A.in1.handled=none:=I.ok.hd hc;obtain⟨lo,hz,xs,es,ep,kt,raw,hk,nd⟩:=I.yj hp;have hlen:=kt.len;have hes:es.size=xs.length:=by
  have:=congrArg List.length hk;rw[aaa,aaa,Array.length_toList] at this;exact this
 have hxs:∀x∈xs,IsPair x.1/\H x.2.1=some (.tup (x.1.map kV))/\∃v,(x.1,v)∈kvs:=fun x hx=>by
  obtain⟨i,hi⟩:=List.mem_iff_getElem?.mp hx;obtain⟨v,h1,h2⟩:=kt.get i x hi;exact⟨hpr _ (aah h1),h2,v,aah h1⟩
 have hxT:∀x∈xs,H x.2.1=some (.tup [.str (cm x.1).1,.str (cm x.1).2]):=fun x hx=>by
  obtain⟨h1,h2,_⟩:=hxs x hx;have e:=h1.eq;rw[e] at h2;exact h2
 refine SL.oD (SL.jY lo hh raw (by rw[hes,←hlen];exact hz) fun h1 tk k1=>?_);rw[hk];have I1:Inv X pins σ H {s with heap:=h1,toks:=tk}:=I.kept (t':=tk) k1;refine⟨by rw[aaa,←hlen];exact h64,fun i j=>ltP (cm ((xs.map (·.1)).getD i [])) (cm ((xs.map (·.1)).getD j [])),yi (fun i=>cm ((xs.map (·.1)).getD i [])),fun h' k' h2=>?_,fun pp h' e hB hS k' he=>?_⟩
 ·have I2:Inv X pins σ H {s with heap:=h',toks:=tk}:=I1.kept (t':=tk) k';rw[aaa] at h2;exact qE (s:={s with heap:=h',toks:=tk}) h2 fun x hx=>wS I2.hok (hxT x hx)
 ·rw[aaa] at hB hS
  let zs:List ((Str×Str)×Addr):=pp.toList.map fun i=>(cm (xs.getD i ([],0,Value.none)).1,(xs.getD i ([],0,Value.none)).2.1)
  have hpx:=oE xs ([],0,Value.none) hB;have e0:∀i∈pp.toList,i<xs.length:=fun i hi=>by
   have h1:pp.toList.Perm (List.range xs.length):=by
    have:=Array.perm_iff_toList_perm.mp hB;simpa using this
   exact List.mem_range.mp (h1.mem_iff.mp hi)
  have ho:cy (xs.map fun x=>Value.ref x.2.1) pp=zs.map fun z=>Value.ref z.2:=by
   show pp.toList.map _=(pp.toList.map _).map _;rw[List.map_map];exact List.map_congr_left fun i hi=>getD_map (fun x=>Value.ref x.2.1) xs (e0 i hi) ([],0,Value.none) Value.none
  have hz1:zs.map (·.1)=(pp.toList.map fun i=>xs.getD i ([],0,Value.none)).map fun x=>cm x.1:=by
   show(pp.toList.map _).map _=_;rw[List.map_map,List.map_map];rfl
  rw[ho] at he;have J:Inv X pins σ (upd H h1.objs.size (.lst (zs.map fun z=>V.ref z.2))) {s with heap:=h',toks:=tk}:=by
   refine I1.newList (tk:=tk) (its:=zs.map fun z=>Value.ref z.2) k' (Nat.le_refl _) he ?_ ?_
   ·have all:∀l:List ((Str×Str)×Addr),Vals (l.map fun z=>V.ref z.2) (l.map fun z=>Value.ref z.2):=by
     intro l
     induction l with
     |nil=>exact .nil
     |cons a l ih=>exact .cons rfl ih
    exact all zs
   ·rw[aaa];show(pp.toList.map _).length<=_;rw[aaa,Array.length_toList,hB.size,sizeLine_eq];omega
  refine⟨.ref _,_,J,rfl,q _ zs I1.fresh ?_ ?_ ?_⟩
  ·rw[hz1];have h2:=hpx.map fun x=>cm x.1
   have e:xs.map (fun x=>cm x.1)=kvs.map fun kv=>cm kv.1:=by
    have all:∀{l:List (List Key×V)} {m:List (List Key×Addr×Value)},KT H l m->m.map (fun x=>cm x.1)=l.map fun kv=>cm kv.1:=by
     intro l m z
     induction z with
     |nil=>rfl
     |cons a b ih=>rw[aaw,aaw,ih,a.1]
    exact all kt
   rw[←e];exact h2
  ·have h3:=sI hB hS;rw[hz1,List.map_map,InP,List.pairwise_map];refine h3.imp_of_mem fun{a b} ha hb z=>?_
   rw[getD_map (·.1) xs (e0 a ha) ([],0,Value.none),getD_map (·.1) xs (e0 b hb) ([],0,Value.none)] at z;exact z
  ·intro z hz';obtain⟨i,hi,rfl⟩:=aao.mp hz';exact hxT _ (getD_mem xs (e0 i hi) _)
end L2
namespace SL
open PySem PySem.W PyProof.Rows
section
variable {prog:Program}{w:World}{A:Around}{E:Value->Shared->Prop}{s:Shared}{K:Type}[DecidableEq K]{knd:KeyKind prog w K}
theorem uN{d:Addr}{ob:Obj}{es:Array DictEntry}{ep:Nat}{xs:List (List K×Addr×Value)}{x:Str}{t:Tok}{hh:Int}{Q:Option Nat->Shared->Prop}(hu:A.units<cLine)
  (e1:s.heap.get? d=some ob)(e2:ob.data=.dict es ep)(he:es.toList=xs.map (entryOfKey (tupleKind knd)))(hx:∀y∈xs,(tupleKind knd).is s.heap y.1 y.2.1)(q:Q none s) :
  wpAny (model prog w) A (dictFind d (.str x t) hh) Q E s:=by
 have mem:∀e∈es.toList,∃y∈xs,e.key=.ref y.2.1:=fun e h=>by
  rw[he] at h;obtain⟨y,hy,rfl⟩:=aao.mp h;exact⟨y,hy,rfl⟩
 have memA:∀(i:Nat) (e:DictEntry),es[i]? =some e->∃y∈xs,e.key=.ref y.2.1:=fun i e h=>mem e (by
  rw[←Array.getElem?_toList] at h;exact aah h)
 unfold dictFind
 try with_reducible refine wpAny_holding ?_
 refine wpAny_bind (wpAny_dictEntries e1 e2 ?_);dsimp only
 by_cases h0:(es.all fun e=>isExactStrKey e.key)=true
 ·rw[if_pos h0];have nil:es=#[]:=by
   apply Array.toList_inj.mp;cases hl:es.toList with
   |nil=>rfl
   |cons e r=>
    exfalso;have hm:e∈es.toList:=by rw[hl];exact aac ..
    obtain⟨y,_,z⟩:=mem e hm;rw[←Array.all_toList,List.all_eq_true] at h0;have:=h0 e hm;rw[z] at this;cases this
  subst nil
  first | exact wpAny_bind (wpAny_pure (wpAny_pure q)) | exact wpAny_pure q | (unfold foundByValue;simp;exact wpAny_pure q)
 ·rw[if_neg h0];generalize hpl:placesWithHash es.size (fun i=>es[i]?.map (·.hash)) hh=places;generalize hst:places.filterMap (fun i=>es[i]?.map (·.key))=stored;have stR:∀v∈stored,∃y∈xs,v=.ref y.2.1:=fun v hv=>by
   rw[←hst] at hv;obtain⟨i,_,hi⟩:=List.mem_filterMap.mp hv;cases ei:es[i]? with
   |none=>rw[ei] at hi;cases hi
   |some e=>
    rw[ei] at hi;have hi:some e.key=some v:=hi;injection hi with hi;obtain⟨y,hy,z⟩:=memA i e ei;exact⟨y,hy,by rw[←hi,z]⟩
  cases hs:stored with
  |nil=>
   rw[if_pos (show((Value.str x t::([]:List Value)).all carriedByValue)=true by rfl)];have pn:places=[]:=by
    cases hp:places with
    |nil=>rfl
    |cons i r=>
     exfalso;have hi:i∈placesWithHash es.size (fun i=>es[i]?.map (·.hash)) hh:=by rw[hpl,hp];exact aac ..
     unfold placesWithHash at hi;obtain⟨h1,h2⟩:=List.mem_filter.mp hi;have hlt:i<es.size:=List.mem_range.mp h1;have:es[i].key∈stored:=by
      rw[←hst];exact List.mem_filterMap.mpr ⟨i,by rw[hp];exact aac ..,by rw[Array.getElem?_eq_getElem hlt];rfl⟩
     rw[hs] at this;cases this
   rw[pn];unfold dictWalkPlain;rw[List.forIn_nil]
   first | exact wpAny_bind (wpAny_pure (wpAny_pure q)) | exact wpAny_pure q
  |cons v r=>
   obtain⟨y0,_,z0⟩:=stR v (by rw[hs];exact aac ..);rw[if_neg (by rw[z0];simp[carriedByValue])];rw[if_neg (by rw[z0];intro z;have:=eq_of_beq z;injection this with a b;cases a)];have tell:wpAny (model prog w) A (tableMayTell (.str x t) (v::r)) (fun b s'=>b=false/\s'=s) E s:=by
    unfold tableMayTell;rw[if_neg (by simp)];refine wpAny_bind (wpAny_of_eq (eqIsQuiet_byValue 8 rfl) ?_);simp only[Bool.not_true,Bool.false_eq_true,if_false];refine wpAny_bind (wpAny_forIn_list _ (fun rest rr s'=>s'=s/\rr=(none,())/\∀u∈rest,∃y∈xs,u=.ref y.2.1) _ ?_ ?_ _ _ ⟨rfl,rfl,fun u hu=>stR u (by rw[hs];exact hu)⟩)
    ·rintro u rest rr s' ⟨rfl,rfl,hr⟩;obtain⟨y,hy,rfl⟩:=hr u (aac ..);refine wpAny_bind (wpAny_eqIsQuiet_tuple (hx y hy) ?_);simp only[Bool.not_true,Bool.false_eq_true,if_false];exact wpAny_pure ⟨rfl,rfl,fun z hz=>hr z (aad _ hz)⟩
    ·rintro rr s' ⟨rfl,rfl,_⟩;exact wpAny_pure ⟨rfl,rfl⟩
   refine wpAny_bind (wpAny_mono tell (fun b s' hb=>?_) fun _ _ z=>z);obtain⟨rfl,rfl⟩:=hb;rw[if_neg (by simp)];refine wpAny_bind (wpAny_forIn_list _ (fun rest rr s''=>s''=s'/\rr=(none,none)) _ ?_ ?_ _ _ ⟨rfl,rfl⟩)
   ·rintro i rest rr s'' ⟨rfl,rfl⟩;cases ei:es[i]? with
    |none=>exact wpAny_pure ⟨rfl,rfl⟩
    |some e=>
     dsimp only;obtain⟨y,hy,z⟩:=memA i e ei
     by_cases hc:(e.hash == hh)=true
     ·rw[if_pos hc];obtain⟨o,its,n,i1,i2,i3,_⟩:=hx y hy;refine wpAny_bind (wpAny_dictEpoch e1 e2 ?_);rw[z];refine wpAny_bind (PySem.SeqAt.EqAt.tuple_str x t ⟨o,i1,i2,n,i3⟩ hu prog w _ _ ?_);refine wpAny_bind (wpAny_dictEpoch e1 e2 ?_);rw[if_neg (by simp)];simp only[Bool.false_eq_true,if_false,Bool.false_and];exact wpAny_bind (wpAny_rule (wpAny_pure ⟨rfl,rfl⟩))
     ·rw[if_neg hc];exact wpAny_pure ⟨rfl,rfl⟩
   ·rintro rr s'' ⟨rfl,rfl⟩;exact wpAny_pure q
theorem wU{d:Addr}{xs:List (List K×Addr×Value)}{x:Str}{t:Tok}{Q:Option Value->Shared->Prop}(hu:A.units<cLine)(D:s.heap.DictOfH (tupleKind knd) d xs)
  (q:Q none {s with toks:=s.toks+1}):wpAny (model prog w) A (dictGet d (.str x t)) Q E s:=by
 obtain⟨ob,es,ep,h1,_,h2,h3,h4,_⟩:=D;unfold dictGet
 try with_reducible refine wpAny_holding ?_
 exact wpAny_bind (wpAny_pyHash_str (wpAny_bind (uN (s:={s with toks:=s.toks+1}) hu h1 h2 h3 h4 (wpAny_pure q))))
end
section
variable {prog:Program}{w:World}{A:Around}{E:Value->Shared->Prop}{s:Shared}{K:Type}[DecidableEq K]{knd:HeapKind prog w K}
theorem sJ{d a:Addr}{xs:List (K×Addr×Value)}{k:K}{dv:Value}{Q:Value->Shared->Prop}(hu:knd.room A)(hk:knd.is s.heap k a)(D:s.heap.DictOfH knd d xs)(hz:xs.length<=sizeLine)
  (q1:∀p,atKey xs k=some p->Q p.2 {s with toks:=s.toks+knd.draws k})
  (q2:atKey xs k=none->∀h',h'.DictOfH knd d (storedH xs k a dv)->Heap.SameBut d s.heap h'->Q dv {s with heap:=h',toks:=s.toks+knd.draws k}):wpAny (model prog w) A (dictSetDefault d (.ref a) dv) Q E s:=by
 obtain⟨ob,es,ep,e1,ex,e2,e3,his,nd⟩:=D;unfold dictSetDefault
 try with_reducible refine wpAny_holding ?_
 refine wpAny_bind (knd.pyHash hu hk (wpAny_bind (wpAny_dictFind_heap (s:={s with toks:=s.toks+knd.draws k}) hu hk e1 e2 e3 his nd (fun no=>?_) fun j p hj=>?_)))
 ·have none':=atKey_none_of_get no;have e4:=storedH_new (a:=a) (v:=dv) none';have hsz:=size_of_entries e3;refine wpAny_bind (wpAny_rule (wpAny_bind (wpAny_updateDictKeys (hz:=by omega) (s:={s with toks:=s.toks+knd.draws k}) e1 e2 (wpAny_pure (q2 none' _ ⟨_,_,ep+1,Heap.get?_update_self _ e1 (Obj.isFreed_of_dict (Obj.data_mapDictKeys e2 _)),ex.mapDictKeys _,Obj.data_mapDictKeys e2 _,?_,?_,?_⟩ (Heap.SameBut.update ..))))))
  ·rw[e4];simp[e3,entryOfKey]
  ·rw[e4];intro y hy;rcases aak.mp hy with hy|hy
   ·exact knd.keeps (his y hy) e1 e2 (Heap.SameBut.update ..)
   ·rw[aaj.mp hy];exact knd.keeps hk e1 e2 (Heap.SameBut.update ..)
  ·rw[e4,aam,List.nodup_append];refine⟨nd,by simp,fun y hy z hz' e=>not_mem_keys_of_get no ?_⟩;rw[aaw,List.map_nil,aaj] at hz';have hz':z=k:=hz';rw[←hz',←e];exact hy
 ·refine wpAny_bind (wpAny_dictEntries (s:={s with toks:=s.toks+knd.draws k}) e1 e2 ?_);rw[entry_at e3 j,hj];exact wpAny_bind (wpAny_rule (wpAny_pure (q1 p (atKey_of_get nd hj))))
end
end SL
namespace L2
open PySem PySem.W PySem.Spec PyProof.Rows
section
variable {X:Cx}{pins:List (Addr×Obj)}{σ:St}{H:Hp}{s:Shared}{a b:Addr}{v:V}{r:Value}{kvs:List (List Key×V)}{k:List Key}{A:Around}{E:Value->Shared->Prop}
theorem yk{Q:Value->Shared->Prop}(hu:A.units+1<cLine)(I:Inv X pins σ H s)(e:H a=some (.dT kvs))(eb:H b=some (.tup (k.map kV)))(hz:kvs.length<sizeLine)(rv:RelV v r)
  (h1:∀x w' s',bc kvs k=some x->Inv X pins σ H s'->RelV x w'->Q w' s')(h2:bc kvs k=none->∀s',Inv X pins σ (upd H a (.dT (putK kvs k v))) s'->Q r s') :
  wpAny (model X.prog X.w) A (call (.builtin "dict.setdefault") [.ref a,.ref b,r]) Q E s:=by
 obtain⟨z,lo,xs,rel,dd⟩:=vJ I.hok e;have T:=dd.typeIs;refine wpAny_call_entry PySem.F.slot_dict_setdefault T PySem.F.entry_dict_setdefault ?_ (PySem.F.args_dict_setdefault_3 _ _ _);unfold Builtin.«dict.setdefault» Builtin.Dict.keyAndDefault;refine wpAny_bind (wpAny_bind (wpAny_notOrdered_dict T ?_));change wpAny (model X.prog X.w) _ (pure (a,Value.ref b,some r)) _ _ s;refine wpAny_pure ?_;change wpAny (model X.prog X.w) _ (if (a == sysModules)=true then _ else (dictSetDefault a (.ref b) r >>= _)) _ _ s;rw[if_neg (by rw[lo];decide)];have rv':=rel.val k;refine wpAny_bind (SL.sJ (tupleKind_room_in1 hu) (gy I.hok eb) dd (by rw[←Paired.length rel];exact z) (fun p hp=>?_) fun hn h' dd' sb=>?_)
 ·rw[hp] at rv';cases q:bc kvs k with
  |none=>rw[q] at rv';exact rv'.elim
  |some x=>
   rw[q] at rv';exact wpAny_pure ⟨_,rfl,h1 x _ _ q (I.tok _) rv'⟩
 ·rw[hn] at rv';have q:bc kvs k=none:=by
   cases q:bc kvs k with
   |none=>rfl
   |some x=>rw[q] at rv';exact rv'.elim
  have hl:(putK kvs k v).length<=sizeLine:=by have:=eG kvs k v;omega
  obtain⟨o',es,ep,hq,c2,c3,c4,_,c5⟩:=dd';refine wpAny_pure ⟨_,rfl,h2 q _ (jC I (by rw[e];exact True.intro) sb ⟨o',hq⟩ ⟨hl,lo,_,(rel.put k eb rv).keeps fun c ys ec=>?_,o',es,ep,hq,c2,c3,c4,c5⟩)⟩;rw[am (mD ec e (fun z=>nomatch z))];exact ec
theorem yl{x:Str}{u:Value}{Q:Value->Shared->Prop}(hu:A.units+1<cLine)(I:Inv X pins σ H s)(e:Rd H a (.dT kvs))(ru:RelV (.str x) u)(h:∀s',Inv X pins σ H s'->Q r s') :
  wpAny (model X.prog X.w) A (call (.builtin "dict.get") [.ref a,u,r]) Q E s:=by
 obtain⟨t,rfl⟩:=ru;obtain⟨z,lo,xs,rel,dd⟩:=gI I.hok e;refine wpAny_call_entry PySem.F.slot_dict_get dd.typeIs PySem.F.entry_dict_get ?_ (PySem.F.args_dict_get_3 _ _ _);change wpAny (model X.prog X.w) _ (dictGet a (.str x t) >>= _) _ _ s;refine wpAny_bind (SL.wU (tupleKind_room_in1 (prog:=X.prog) (w:=X.w) (knd:=bD X.prog X.w) hu) dd ?_);change wpAny (model X.prog X.w) _ (Builtin.Dict.missed a (.str x t) >>= _) _ _ _;exact wpAny_bind (wpAny_missed_other lo (wpAny_pure ⟨r,rfl,h _ (I.tok _)⟩))
end
def zd(td ty tx:TE):TE:=fun σ H Q=>td σ H fun x H1=>∃a,x=.ref a/\IsD H1 a/\ty σ H1 fun y H2=>tx σ H2 fun z H3=>∃kvs k b,H3 a=some (.dT kvs)/\y=.ref b/\H3 b=some (.tup (k.map kV))/\kvs.length<sizeLine/\
 (∀v,bc kvs k=some v->Q v H3)/\(bc kvs k=none->Q z (upd H3 a (.dT (putK kvs k z))))
def ze(td ty tx:TE):TE:=fun σ H Q=>td σ H fun x H1=>∃a,x=.ref a/\IsD H1 a/\ty σ H1 fun y H2=>tx σ H2 fun z H3=>(∃o,bP H3 a y o/\Q (o.getD z) H3)\/∃kvs t,Rd H3 a (.dT kvs)/\y=.str t/\Q z H3
section
variable {X:Cx}{o e f:Expr}{apos cpos:Pos}{td ty tx:TE}
theorem wV(hu:X.A.units+1<cLine)(ho:PE X o td)(he:PE X e ty)(hf:PE X f tx)(m:M2 X o "setdefault" apos e f cpos):PE X (.Call (.Attribute o "setdefault" apos) [e,f] [] cpos) (zd td ty tx):=by
 intro pins s σ H Q I h;refine wpAny_Call_method m.base m.few m.line PySem.F.plainAttrs_dict PySem.F.slot_dict_setdefault PySem.F.type_dict_setdefault (thn (ho pins s σ H _ I h) fun u s1 ⟨x,H1,I1,rx,a,ex,d,q1⟩=>?_);subst ex;obtain rfl:u=Value.ref a:=rx;obtain⟨t1,t2,_⟩:=nq I1 d;refine⟨t1,t2,?_⟩;rw[m.trees];refine Calls.callWith_builtin rfl (Calls.evalArgs_plain (Calls.spliced_cons (thn (he pins s1 σ H1 _ I1 q1) fun iv s2 ⟨y,H2,I2,ry,q2⟩=>
  Calls.spliced_cons (thn (hf pins s2 σ H2 _ I2 q2) fun fv s3 ⟨z,H3,I3,rz,kvs,k,b,ea,ey,eb,hz,q3,q4⟩=>Calls.spliced_nil ?_))))
 subst ey;cases (show iv=Value.ref b from ry)
 exact yk hu I3 ea eb hz rz (fun x w' s' hx I4 rx=>⟨x,H3,I4,rx,q3 x hx⟩) fun hn s' I4=>⟨z,_,I4,rz,q4 hn⟩
theorem wW(hu:X.A.units+1<cLine)(ho:PE X o td)(he:PE X e ty)(hf:PE X f tx)(m:M2 X o "get" apos e f cpos):PE X (.Call (.Attribute o "get" apos) [e,f] [] cpos) (ze td ty tx):=by
 intro pins s σ H Q I h;refine wpAny_Call_method m.base m.few m.line PySem.F.plainAttrs_dict PySem.F.slot_dict_get PySem.F.type_dict_get (thn (ho pins s σ H _ I h) fun u s1 ⟨x,H1,I1,rx,a,ex,d,q1⟩=>?_);subst ex;obtain rfl:u=Value.ref a:=rx;obtain⟨t1,t2,_⟩:=nq I1 d;refine⟨t1,t2,?_⟩;rw[m.trees];refine Calls.callWith_builtin rfl (Calls.evalArgs_plain (Calls.spliced_cons (thn (he pins s1 σ H1 _ I1 q1) fun iv s2 ⟨y,H2,I2,ry,q2⟩=>
  Calls.spliced_cons (thn (hf pins s2 σ H2 _ I2 q2) fun fv s3 ⟨z,H3,I3,rz,q3⟩=>Calls.spliced_nil ?_))))
 rcases q3 with ⟨ov,g,q3⟩|⟨kvs,t,hr,rfl,q3⟩
 ·exact rP hu I3 g ry rz fun w' s4 I4 rw'=>⟨_,H3,I4,rw',q3⟩
 ·exact yl hu I3 hr ry fun s4 I4=>⟨z,H3,I4,rz,q3⟩
end
end L2
namespace L2
open PySem PySem.W PySem.Spec PyProof.Rows
def df(P:Addr)(H H':Hp):Prop:=∀b o,b≠P->H b=some o->H' b=some o
theorem df.refl{P:Addr}{H:Hp}:df P H H:=fun _ _ _ e=>e
def iN(c:Addr)(q:Str):HO:=.ext fun h=>∃o vs t,h.get? c=some o/\o.data=.fields vs/\vs[1]? =some (.str q t)
theorem uO{P:Program}{w:World}{H:Hp}{h:Heap}{c:Addr}{q:Str}(x:h.CodeRec (.ref c) q):ba P w H h c (iN c q):=by
 obtain⟨c',o,vs,t,e,h1,h2,h3⟩:=x;cases e
 exact⟨⟨o,vs,t,h1,h2,h3⟩,⟨o,h1⟩,fun h1 h2 ⟨o,vs,t,a,b⟩ k=>⟨o,vs,t,k o a,b⟩⟩
theorem sK{P:Program}{w:World}{H:Hp}{h:Heap}{c:Addr}{q:Str}(ok:HOk P w H h)(e:H c=some (iN c q)):h.CodeRec (.ref c) q:=by
 obtain⟨⟨o,vs,t,a,b,d⟩,_⟩:=(show ba P w H h c (iN c q) from ok c _ e);exact⟨c,o,vs,t,rfl,a,b,d⟩
def cW(P:Addr)(pos:Pos)(q:Str)(H:Hp):Prop:=∃ps,H P=some (.tbl ps)/\TriplesOk ps.toList/\(codeAmong pos ps.toList=none\/∃c,codeAmong pos ps.toList=some (.ref c)/\H c=some (iN c q))
theorem cW.ne{P:Addr}{pos:Pos}{q:Str}{H:Hp}(T:cW P pos q H){b:Addr}{o:HO}(e:H b=some o)(h:∀ps,o≠.tbl ps):b≠P:=fun z=>by
 obtain⟨ps,h1,_⟩:=T;rw[z,h1] at e;exact h ps (Option.some.inj e).symm
theorem cW.mono{P:Addr}{pos:Pos}{q:Str}{H H':Hp}(T:cW P pos q H)(h:∀b o,H b=some o->H' b=some o):cW P pos q H':=by
 obtain⟨ps,h1,h2,h3⟩:=T;refine⟨ps,h _ _ h1,h2,?_⟩;rcases h3 with z|⟨c,z,y⟩
 ·exact .inl z
 ·exact .inr ⟨c,z,h _ _ y⟩
def Bm(mg:Str->Option Value)(base:Heap):Prop:=∃bm ob,mg "__builtins__"=some (.ref bm)/\bm≠builtinsNs/\base.get? bm=some ob/\ob.cls=.type "module"/\ob.dict=some builtinsNs/\ob.data=.plain
section
variable {X:Cx}{pins:List (Addr×Obj)}{σ:St}{H:Hp}{s:Shared}{A:Around}{E:Value->Shared->Prop}{c0 P:Addr}{params:Arguments}{body:Expr}{scope:Scope}{clos:List (Str×Addr)}{pos:Pos}
theorem uP{Q:Value->Shared->Prop}(I:Inv X pins σ H s)(hcode:X.env.code=.ref c0)(C:CodeHd X.base c0 P)(T:cW P pos (X.env.qual++"<lambda>") H)(hbm:Bm X.mg X.base)(hcl:closureFor scope X.env=pure clos)(hdef:defaultsOf params X.env=([],[]))
  (h:∀f c' pm ctv H2 s',df P H H2->cW P pos (X.env.qual++"<lambda>") H2->H2 c'=some (iN c' (X.env.qual++"<lambda>"))->H2 f=none->s.heap.objs.size<=f->Inv X pins σ H2 s'->cT X pins H2 f->
   s'.heap.get? f=some (kla_obj "<lambda>" (X.env.qual++"<lambda>") params body scope clos pm c' ctv)->s.heap.objs.size<=s'.heap.objs.size->Q (.ref f) s') :
  wpAny (model X.prog X.w) A (eval (.Lambda params body scope pos) X.env) Q E s:=by
 obtain⟨ps,hP,ht,hc⟩:=T;have oP:s.heap.get? P=some (tabObj ps):=(show ba X.prog X.w H s.heap P (.tbl ps) from I.hok P _ hP);obtain⟨bm,ob,b1,b2,b3,b4,b5,b6⟩:=hbm;have hg:s.heap.Ns mainGlobals X.mg:=I.mod.glob.keeps I.bk;have nP:∀b o,X.base.get? b=some o->b≠P:=fun b o e z=>by
  have:=(I.bs b o e).2;rw[z,hP] at this;cases this
 have hgP:mainGlobals≠P:=by
  obtain⟨o,es,ep,e,_⟩:=I.mod.glob;exact nP _ o e
 have hbG:bm≠mainGlobals:=fun z=>by
  obtain⟨o,es,ep,e,hd,_⟩:=I.mod.glob;rw[←z,b3] at e;cases e;rw[b6] at hd;cases hd
 have hB:s.heap.BuiltinsAt X.mg P:=⟨bm,ob,b1,b2,hbG,nP bm ob b3,I.bk _ _ b3,b4,b5,b6⟩;refine kla_eval hdef ?_;rcases hc with hn|⟨c',hc',hcO⟩
 ·refine kla_makeFunction (mg:=X.mg) hcl I.ok.glob hg hcode (C.keeps I.bk) oP ht hn hgP hB fun c' ctv h' tk hx hge hlt hrec htb=>?_
  have kf:∀b o,h'.get? b=some o->(h'.push (kla_obj "<lambda>" (X.env.qual++"<lambda>") params body scope clos ((X.mg "__name__").getD .none) c' ctv)).get? b=some o:=fun b o e=>aaf _ e
  have hsz:s.heap.objs.size<=h'.objs.size:=Nat.le_of_lt (Nat.lt_of_le_of_lt hge hlt);have c'n:H c'=none:=I.hok.fresh hge;have c'P:c'≠P:=fun z=>by rw[z,hP] at c'n;cases c'n
  generalize hH2:upd (upd H P (.tbl (ps++#[rawInt pos.line,rawInt pos.col,.ref c']))) c' (iN c' (X.env.qual++"<lambda>"))=H2;have at1:H2 c'=some (iN c' (X.env.qual++"<lambda>")):=by rw[←hH2,aa]
  have at2:H2 P=some (.tbl (ps++#[rawInt pos.line,rawInt pos.col,.ref c'])):=by rw[←hH2,am (Ne.symm c'P),aa]
  have at3:∀b,b≠P->b≠c'->H2 b=H b:=fun b n1 n2=>by rw[←hH2,am n2,am n1]
  have sT:df P H H2:=fun b o n e=>by rw[at3 b n (fun z=>by rw[z,c'n] at e;cases e)];exact e
  have nn:∀b,H b=none->b<s.heap.objs.size->H2 b=none:=fun b n l=>by
   rw[at3 b (fun z=>by rw[z,hP] at n;cases n) (Nat.ne_of_lt (Nat.lt_of_lt_of_le l hge))];exact n
  have fn:H2 h'.objs.size=none:=by
   have lP:=Heap.lt_size oP;rw[at3 _ (Nat.ne_of_gt (Nat.lt_of_lt_of_le lP hsz)) (Nat.ne_of_gt hlt)];exact I.hok.fresh hsz
  have hok:HOk X.prog X.w H2 (h'.push (kla_obj "<lambda>" (X.env.qual++"<lambda>") params body scope clos ((X.mg "__name__").getD .none) c' ctv)):=fun b u e=>by
   by_cases e1:b=c'
   ·rw[e1,at1] at e;cases e;rw[e1];exact uO (hrec.push _)
   ·by_cases e2:b=P
    ·rw[e2,at2] at e;cases e;rw[e2];exact kf _ _ htb
    ·rw[at3 b e2 e1] at e;refine(I.hok b u e).eO (fun d v hd q=>kf _ _ (hx d v (fun z=>?_) q)) (fun d q=>sT d _ (fun z=>?_) q) fun d xs q=>sT d _ (fun z=>?_) q
     ·rcases hd with hd|hd
      ·exact e2 (hd.symm.trans z)
      ·rw[z,hP] at hd;cases hd
     ·rw[z,hP] at q;cases q
     ·rw[z,hP] at q;cases q
  have J:Inv X pins σ H2 {s with heap:=h'.push (kla_obj "<lambda>" (X.env.qual++"<lambda>") params body scope clos ((X.mg "__name__").getD .none) c' ctv),toks:=tk}:=by
   have kp:∀b o,s.heap.get? b=some o->H b=none->(h'.push (kla_obj "<lambda>" (X.env.qual++"<lambda>") params body scope clos ((X.mg "__name__").getD .none) c' ctv)).get? b=some o:=fun b o e n=>kf _ _ (hx b o (fun z=>by rw[z,hP] at n;cases n) e)
   refine I.step (g':=s.gens) (d':=s.drawn) (t':=tk) (ch:=[]) (fun _ z=>nomatch z) (fun b o _ _ _ e n=>kp b o e n) (fun b o _ _ _ e n=>⟨o.slots,kp b o e n⟩) (fun b o _ e n=>nn b n (Heap.lt_size e)) (fun b o _ e=>?_) (fun b xs e=>sT b _ (fun z=>?_) e) (fun b o u e=>sT b _ (fun z=>?_) e) (fun b qs e=>?_) (fun m hm=>?_) hok I.bare
   ·by_cases z:b=P
    ·exact⟨_,by rw[z];exact kf _ _ htb⟩
    ·exact⟨o,kf _ _ (hx b o z e)⟩
   ·rw[z,hP] at e;cases e
   ·rw[z,hP] at e;cases e
   ·by_cases z:b=P
    ·rw[z,hP] at e;cases e;exact⟨_,by rw[z];exact at2⟩
    ·exact⟨#[],by rw[sT b _ z e];simp⟩
   ·obtain⟨o,es,ep,ho,r⟩:=hm;exact⟨o,es,ep,kp _ o ho I.free,r⟩
  have T2:cW P pos (X.env.qual++"<lambda>") H2:=by
   have el:(ps++#[rawInt pos.line,rawInt pos.col,Value.ref c']).toList=ps.toList++[rawInt pos.line,rawInt pos.col,.ref c']:=by simp
   refine⟨_,at2,by rw[el];exact TriplesOk_snoc _ _ _ _ ht,.inr ⟨c',by rw[el];exact codeAmong_snoc _ ht hn,at1⟩⟩
  exact h _ c' _ ctv H2 _ sT T2 at1 fn hsz J (I.gW hsz fn) (aay _ rfl) (by show _<=(h'.push _).objs.size;rw[Heap.size_push];omega)
 ·refine kla_makeFunctionHit (mg:=X.mg) hcl I.ok.glob hg hcode (C.keeps I.bk) oP ht hc' hB fun ctv h' tk hk hsz=>?_
  have fn:H h'.objs.size=none:=I.hok.fresh hsz;exact h _ c' _ ctv H _ df.refl ⟨ps,hP,ht,.inr ⟨c',hc',hcO⟩⟩ hcO fn hsz (I.kept (t':=tk) fun b o e=>aaf _ (hk b o e)) (I.gW hsz fn) (aay _ rfl) (by show _<=(h'.push _).objs.size;rw[Heap.size_push];omega)
end
def kX(X:Cx)(qual:Str)(scope:Scope)(cl:List (Str×Addr))(x y:Str)(f c':Addr)(A:Around)(s₃:Shared)(H₃:Hp):Cx where
 prog:=X.prog
 w:=X.w
 K:=X.K
 mg:=X.mg
 base:=X.base
 A:=A.deeper (envX qual scope s₃.heap.objs.size f (.ref c') cl)
 N:=[x,y]
 s₀:=s₃
 H₀:=H₃
 env:=envX qual scope s₃.heap.objs.size f (.ref c') cl
 outer:=X.stack
 stack:=envX qual scope s₃.heap.objs.size f (.ref c') cl::X.stack
 ex:=[]
 fn:=fun _=>false
 calm:=true
 pn:=[]
 xe:=fun _ _=>False
structure gi(X:Cx)(params:Arguments)(scope:Scope)(c:Addr)(x y:Str)(i:Nat):Prop where
 names:scope.names=[(x,.local),(y,.free)]
 ne:(y == x)=false
 kind:scope.kind=.function
 co:scope.isCoroutine=false
 gen:scope.isGenerator=false
 clos:closureFor scope X.env=pure [(y,c)]
 cell:X.env.cells.lookup y=some c
 out:X.N[i]? =some y
 loc:X.env.scope.names.lookup y=some .cell
 dflt:defaultsOf params X.env=([],[])
 bind:∀(q:Str) (body:Expr) (pm cd ct u:Value),bindArgs (kla_fn "<lambda>" q params body scope [(y,c)] pm cd ct) ⟨[u],[]⟩=pure [(x,u)]
section
variable {X:Cx}{pins:List (Addr×Obj)}{σ:St}{H:Hp}{s:Shared}{A:Around}{E:Value->Shared->Prop}{params:Arguments}{body:Expr}{scope:Scope}{c f c':Addr}{x y qual:Str}{i:Nat}
theorem gi.lx(L:gi X params scope c x y i):scope.names.lookup x=some .local:=by rw[L.names,List.lookup_cons,beq_self_eq_true]
theorem gi.ly(L:gi X params scope c x y i):scope.names.lookup y=some .free:=by
 rw[L.names,List.lookup_cons,L.ne];show List.lookup y [(y,NameKind.free)]=_;rw[List.lookup_cons,beq_self_eq_true]
theorem gi.only(L:gi X params scope c x y i){z:Str}{k:NameKind}(h:scope.names.lookup z=some k):(z=x/\k=.local)\/(z=y/\k=.free):=by
 have:=lookup_mem h;rw[L.names] at this;rcases List.mem_cons.mp this with e|e
 ·cases e;exact .inl ⟨rfl,rfl⟩
 ·rcases List.mem_cons.mp e with e|e
  ·cases e;exact .inr ⟨rfl,rfl⟩
  ·cases e
theorem sL(L:gi X params scope c x y i)(I:Inv X pins σ H s)(hA:A.frames=some X.stack)(hd:A.handled=none){v w':V}{u:Value}(rv:RelV v u)(hi:σ[i]? =some (some w')){h1:Heap}{tk:Nat}
  (hn:h1.Ns s.heap.objs.size (fun z=>[(x,u)].reverse.lookup z))(k:∀b o,s.heap.get? b=some o->h1.get? b=some o) :
  Inv (kX X qual scope [(y,c)] x y f c' A s H) [] [some v,some w'] H {s with heap:=h1,toks:=tk}:=by
 have clK:∀z d,([(y,c)]:List (Str×Addr)).lookup z=some d->z=y/\d=c:=fun z d h=>by
  have:=lookup_mem h;rw[aaj] at this;cases this
  exact⟨rfl,rfl⟩
 have cly:([(y,c)]:List (Str×Addr)).lookup y=some c:=by rw[List.lookup_cons,beq_self_eq_true]
 have noA:∀b:Addr,b ∉ (kX X qual scope [(y,c)] x y f c' A s H).ex:=fun b z=>absurd (show b∈([]:List Addr) from z) (by simp)
 obtain⟨u',r',l'⟩:∃u,RelV w' u/\s.heap.IsCell c (some u):=by
  obtain⟨m,hm,hl⟩:=I.loc;obtain⟨u,r,l⟩:=hl i y w' L.out hi (.inr (.inl L.loc));rcases l with ⟨k1,_⟩|⟨_,d,hc,hcell⟩
  ·have k1:X.env.scope.names.lookup y=some .local:=k1;rw[L.loc] at k1;cases k1
  ·rw[L.cell] at hc;cases hc;exact⟨u,r,hcell⟩
 refine⟨⟨I.ok.mod,L.kind,rfl,rfl,Nat.le_refl _,fun a b d h1 h2=>?_,fun a ha=>?_,fun a d h=>absurd (show false=true from h) (by decide),fun _=>hd,Around.frames_deeper hA,.inr ⟨rfl,rfl⟩,fun b z=>absurd z (noA b),I.bs,Nat.le_trans I.ok.bsz I.sz,fun b _ _=>noA b,fun b z=>absurd z (noA b),I.stack,I.li⟩,
  rfl,I.bare,Un.kept k,⟨_,hn,fun j z v' e1 e2 e3=>?_⟩,fun z d h=>?_,I.hok.fresh (Nat.le_refl _),fun z d h=>?_,fun p hp=>absurd (show p∈([]:List (Addr×Obj)) from hp) (by simp),I.hok.kept k,rfl⟩
 ·exact(clK a d h1).1.trans (clK b d h2).1.symm
 ·have ha:scope.names.lookup a=some .cell\/scope.names.lookup a=some .free:=ha;rcases ha with ha|ha
  ·rcases L.only ha with ⟨_,z⟩|⟨_,z⟩ <;> cases z
  ·rcases L.only ha with ⟨_,z⟩|⟨z,_⟩
   ·cases z
   ·rw[z];exact⟨c,cly⟩
 ·have e1:([x,y]:List Str)[j]? =some z:=e1;rcases j with _|_|j
  ·have e1:some x=some z:=e1;have e2:some (some v)=some (some v'):=e2;cases e1;cases e2
   exact⟨u,rv,.inl ⟨L.lx,by show([(x,u)]:List (Str×Value)).lookup x=_;rw[List.lookup_cons,beq_self_eq_true]⟩⟩
  ·have e1:some y=some z:=e1;have e2:some (some w')=some (some v'):=e2;cases e1;cases e2
   obtain⟨o,h2,h3⟩:=l';exact⟨u',r',.inr ⟨.inr L.ly,c,cly,o,k _ _ h2,h3⟩⟩
  ·simp at e1
 ·obtain⟨e1,e2⟩:=clK z d h;rw[e2];obtain⟨o,h2,h3⟩:=l';exact⟨_,o,k _ _ h2,h3⟩
 ·obtain⟨e1,e2⟩:=clK z d h;rw[e2];exact I.freeC y c L.cell
theorem uQ{pm ctv:Value}{tb:TE}{R:VK}{v w':V}{u:Value}(L:gi X params scope c x y i)(I:Inv X pins σ H s)(hA:A.frames=some X.stack)(hd:A.handled=none)(hroom:A.depth<recursionLimit)
  (ho:s.heap.get? f=some (kla_obj "<lambda>" qual params body scope [(y,c)] pm c' ctv))(hcd:s.heap.CodeRec (.ref c') qual)(rv:RelV v u)(hi:σ[i]? =some (some w'))
  (hb:PE (kX X qual scope [(y,c)] x y f c' A s H) body tb)(h:tb [some v,some w'] H R):wpAny (model X.prog X.w) A (call (.ref f) [u]) (EP X pins σ R) E s:=by
 refine wpAny_call ?_;refine kla_callFunE (o:=kla_obj "<lambda>" qual params body scope [(y,c)] pm c' ctv) (fd:=kla_fn "<lambda>" qual params body scope [(y,c)] pm (.ref c') ctv) (body:=body) hroom ho rfl L.co L.gen rfl hcd ?_;rw[L.bind qual body pm (.ref c') ctv u];refine wpAny_pure (wpAny_newFunctionEnv (fun z hz e=>?_) (fun z hz=>?_) (fun h1 hns hsb=>?_) L.kind)
 ·rw[show(kla_fn "<lambda>" qual params body scope [(y,c)] pm (.ref c') ctv).scope.names=scope.names from rfl,L.names] at hz;rcases List.mem_cons.mp hz with q|q
  ·rw[q] at e;cases e
  ·rw[aaj.mp q] at e;cases e
 ·rw[aaj.mp hz];exact L.lx
 ·have k:∀b o,s.heap.get? b=some o->h1.get? b=some o:=fun b o e=>hsb.extBut b o (Nat.ne_of_lt (Heap.lt_size e)) (aaf _ e)
  refine⟨I.nolimit.keeps k,?_⟩;change codeAny (model X.prog X.w) A (.expr body (envX qual scope s.heap.objs.size f (.ref c') [(y,c)])) _ _;have J:=sL (qual:=qual) (f:=f) (c':=c') (tk:=s.toks+[(x,u)].length) L I hA hd rv hi hns k;refine kla_codeExpr (wpAny_mono (hb [] _ _ H R J h) (fun z s' hz=>?_) fun _ _ q=>q.elim);obtain⟨r,H',J',rr,q⟩:=hz;exact I.after ⟨r,H',J'.os,J'.bare,J'.base,J'.hok,rr,q⟩
end
end L2
namespace L2
open PySem PySem.W PySem.Spec PyProof.Rows
open SL (kg Ord Bas Asc cy kR cS lM lN jn)
section
variable {X:Cx}{pins:List (Addr×Obj)}{σ:St}{H:Hp}{s:Shared}{A:Around}{E:Value->Shared->Prop}
theorem Inv.qF{more:List (Addr×Obj)}(I:Inv X (pins++more) σ H s):Inv X pins σ H s:=I.gl fun p hp=>I.pin p (aar _ (List.mem_append_left _ hp))
theorem cT.qG{b:Addr}{o:Obj}(f:cT X pins H b)(e:s.heap.get? b=some o)(hc:∀v,o.data≠.cell v):s.heap.get? (b,o).1=some (b,o).2/\H (b,o).1=none/\(b,o).1≠X.env.locals/\(b,o).1 ∉ X.fs/\∀v,(b,o).2.data≠.cell v:=⟨e,f.1,f.2.1,f.2.2.1,hc⟩
theorem Inv.mO{b:Addr}{h':Heap}{tk:Nat}(I:Inv X pins σ H s)(f:cT X pins H b)(k:∀d o,d≠b->s.heap.get? d=some o->h'.get? d=some o):Inv X pins σ H {s with heap:=h',toks:=tk}:=
 I.turned k f.1 f.2.1 f.2.2.2.1 f.2.2.2.2.1 f.2.2.2.2.2
theorem Inv.with2{a b:Addr}{oa ob:Obj}(I:Inv X pins σ H s)(fa:cT X pins H a)(fb:cT X pins H b)(ea:s.heap.get? a=some oa)(eb:s.heap.get? b=some ob)(ca:∀v,oa.data≠.cell v)(cb:∀v,ob.data≠.cell v) :
  Inv X (pins++[(a,oa),(b,ob)]) σ H s:=I.gl fun p hp=>by
 rcases aak.mp hp with hp|hp
 ·exact I.pin p (aar _ hp)
 ·rcases List.mem_cons.mp hp with rfl|hp
  ·exact fa.qG ea ca
  ·rw[aaj.mp hp];exact fb.qG eb cb
def KeysAre(cost:Nat->Int)(ks:List Value):Prop:=∀(i:Nat) (v:Value),ks[i]? =some v->∃t,v=.int (cost i) t
theorem KeysAre.snoc{cost:Nat->Int}{ks:List Value}{t:Tok}(h:KeysAre cost ks):KeysAre cost (ks++[.int (cost ks.length) t]):=fun i v e=>by
 by_cases hi:i<ks.length
 ·rw[List.getElem?_append_left hi] at e;exact h i v e
 ·rw[List.getElem?_append_right (by omega)] at e;have:i - ks.length=0:=by
   cases q:i - ks.length with
   |zero=>rfl
   |succ j=>rw[q] at e;simp at e
  have hi':i=ks.length:=by omega
  rw[this] at e;simp at e;rw[hi'];exact⟨t,e.symm⟩
theorem ym(cost:Nat->Int):Ord (fun i j=>decide (cost i<cost j)) where
 tr:=fun a b c h1 h2=>by simp only[decide_eq_false_iff_not] at *;omega
 as:=fun a b h=>by simp only[decide_eq_false_iff_not,decide_eq_true_eq] at *;omega
theorem sN{prog:Program}{w:World}{cost:Nat->Int}{ks:List Value}(h2:2<=ks.length)(h:KeysAre cost ks):kg prog w A s ks (fun i j=>decide (cost i<cost j)):=by
 refine⟨oneType',fun Q E q=>?_,fun i j C hi hj hC=>?_⟩
 ·refine kas_kind h2 (T:=Value.type "int") (fun v hv=>?_) (by decide) (by decide) q;obtain⟨i,hi⟩:=List.mem_iff_getElem?.mp hv;obtain⟨t,rfl⟩:=h i v hi;exact Looks.of_pure rfl
 ·unfold kas_ask;obtain⟨t,e⟩:=h i _ (aae hi);obtain⟨t',e'⟩:=h j _ (aae hj);rw[aat,aat,aae hi,aae hj,Option.getD_some,Option.getD_some,e,e'];exact kat_lt_int hC
theorem kY{T:String}{xs:Array Value}{n:Nat}:∀v,(seqObj T xs n).data≠.cell v:=fun v z=>by cases z
theorem qH{a:Addr}{vs:List Value}{n:Nat}{f:Value}{cost:Nat->Int}{P:PySem.Fin->Shared->Prop}(I:Inv X pins σ H s)(hx:s.heap.get? a=some (seqObj "list" vs.toArray n))(fa:cT X pins H a)(h64:vs.length<64)
  (hcall:∀more s1 i v,Inv X (pins++more) σ H s1->vs[i]? =some v->wpAny (model X.prog X.w) A (call f [v]) (EP X (pins++more) σ fun r H'=>r=.int (cost i)/\H'=H) (fun _ _=>False) s1)
  (fin:∀p s' e,Bas vs.length p->Asc (fun i j=>decide (cost i<cost j)) p vs.length->Inv X pins σ H s'->s'.heap.get? a=some (seqObj "list" (cy vs p).toArray e)->P (.done (.ret .none)) s') :
  wpAny (model X.prog X.w) A (ksk_tree a f false) P E s:=by
 obtain⟨e1,hx1⟩:∃e1,(s.heap.update a (Obj.mapSeq fun _=>(#[]:Array Value))).get? a=some (seqObj "list" #[] e1):=⟨_,get?_update_seq hx fun _=>#[]⟩;have hz:∀m,m<=vs.length->m<=sizeLine:=fun m hm=>by rw[sizeLine_eq];omega
 have la:a<s.heap.objs.size:=Heap.lt_size hx;unfold ksk_tree;refine wpAny_bind (listItems_at hx rfl (wpAny_bind (listUpdate_at hx rfl ?_ (by rw[aaq];exact hz _ (Nat.le_refl _)) (Nat.zero_le _))));refine wpAny_bind (seqEpoch_at hx1 rfl (wpAny_bind (wpAny_newTuple (wpAny_bind (wpAny_newList (wpAny_holding ?_) (Nat.zero_le _))) (hz _ (Nat.le_refl _)))));have szT:((s.heap.update a (Obj.mapSeq fun _=>(#[]:Array Value))).push (seqObj "tuple" vs.toArray 0)).objs.size=s.heap.objs.size+1:=by rw[size_push',Heap.size_update]
 generalize hh:((s.heap.update a (Obj.mapSeq fun _=>(#[]:Array Value))).push (seqObj "tuple" vs.toArray 0)).push (seqObj "list" #[] 0)=h2;have k2:∀b o,b≠a->s.heap.get? b=some o->h2.get? b=some o:=fun b o hb e=>by
  rw[←hh];exact aaf _ (aaf _ (((Heap.SameBut.update ..).2 b hb).trans e))
 have a2:h2.get? a=some (seqObj "list" #[] e1):=by rw[←hh];exact aaf _ (aaf _ hx1)
 have b2:h2.get? (s.heap.objs.size+1)=some (seqObj "list" #[] 0):=by rw[←hh,←szT];exact aay _ rfl
 have fb:cT X pins H (s.heap.objs.size+1):=I.gW (Nat.le_succ _) (I.hok.fresh (Nat.le_succ _));have hab:a≠s.heap.objs.size+1:=Nat.ne_of_lt (Nat.lt_succ_of_lt la);have I2:Inv X (pins++[(a,seqObj "list" #[] e1),(s.heap.objs.size+1,seqObj "list" #[] 0)]) σ H {s with heap:=h2}:=(I.mO (tk:=s.toks) fa k2).with2 fa fb a2 b2 kY kY;clear hh;have go:wpAny (model X.prog X.w) A (ksk_rest a f false vs.toArray e1 (.ref (s.heap.objs.size+1))) P E {s with heap:=h2}:=by
  generalize s.heap.objs.size+1=kS at I2 b2 fb hab;unfold ksk_rest;refine wpAny_bind (wpAny_rule ?_)
  first
   |rw[List.forIn_toArray]
   |(rw[←Array.forIn_toList];simp only[List.toList_toArray])
   |rw[←Array.forIn_toList]
  refine wpAny_bind (wpAny_forIn_list _ (fun rest (r:PUnit) s'=>∃ks e,rest=vs.drop ks.length/\ks.length<=vs.length/\KeysAre cost ks/\Inv X (pins++[(a,seqObj "list" #[] e1),(kS,seqObj "list" (List.toArray ks) e)]) σ H s') _ ?_ ?_ vs _ ⟨[],0,rfl,Nat.zero_le _,fun i v h=>by simp at h,I2⟩)
  ·rintro v rest r s1 ⟨ks,e,hr,hl,hk,J⟩;have hlt:ks.length<vs.length:=by
    rcases Nat.lt_or_ge ks.length vs.length with z|z
    ·exact z
    ·rw[List.drop_eq_nil_of_le z] at hr;cases hr
   have hv:vs[ks.length]? =some v/\rest=vs.drop (ks.length+1):=by
    rw[List.drop_eq_getElem_cons hlt] at hr;injection hr with h1 h2;exact⟨by rw[aae hlt,h1],h2⟩
   refine wpAny_bind (wpAny_attempt (wpAny_mono (hcall _ s1 ks.length v J hv.1) (fun kv s2 hq=>?_) fun _ _ z=>z.elim));obtain⟨r',H',J2,rr,rfl,eH⟩:=hq;rw[eH] at J2;obtain⟨t,rfl⟩:=rr;have g1:=(J2.pin (kS,seqObj "list" (List.toArray ks) e) (aar _ (aar _ (aad _ (aac ..))))).1;have g2:=(J2.pin (a,seqObj "list" #[] e1) (aar _ (aar _ (aac ..)))).1;have ep:(List.toArray ks).push (.int (cost ks.length) t)=List.toArray (ks++[.int (cost ks.length) t]):=by simp
   obtain⟨e3,g3⟩:∃e3,(s2.heap.update kS (Obj.mapSeq (·.push (.int (cost ks.length) t)))).get? kS=some (seqObj "list" (List.toArray (ks++[.int (cost ks.length) t])) e3):=⟨_,by rw[←ep];exact get?_update_seq g1 (·.push (.int (cost ks.length) t))⟩
   try dsimp only
   refine wpAny_bind (listUpdate_at g1 rfl ?_ (by rw[aaq];exact hz _ (by omega)) (by rw[Array.size_push,aaq];exact Nat.le_succ_of_le (hz _ (by omega))));have J3:Inv X pins σ H {s2 with heap:=s2.heap.update kS (Obj.mapSeq (·.push (.int (cost ks.length) t)))}:=J2.qF.mO (tk:=s2.toks) fb fun d o hd z=>((Heap.SameBut.update ..).2 d hd).trans z
   refine wpAny_pure ⟨ks++[.int (cost ks.length) t],e3,by rw[aag,aav];exact hv.2,by rw[aag,aav];omega,hk.snoc,?_⟩;exact J3.with2 fa fb (((Heap.SameBut.update ..).2 a hab).trans g2) g3 kY kY
  ·rintro r s1 ⟨ks,e,hr,hl,hk,J⟩;have hlen:ks.length=vs.length:=by
    have:=congrArg List.length hr;rw[List.length_nil,List.length_drop] at this;omega
   have g1:=(J.pin (kS,seqObj "list" (List.toArray ks) e) (aar _ (aar _ (aad _ (aac ..))))).1;have g2:=(J.pin (a,seqObj "list" #[] e1) (aar _ (aar _ (aac ..)))).1;have J0:=J.qF
   try dsimp only
   refine wpAny_bind (listItems_at g1 rfl ?_);have tail:∀(st:SortSt) (p:Array Nat),Bas vs.length p->Asc (fun i j=>decide (cost i<cost j)) p vs.length->(arrOf st).map (·.2)=(cy vs p).toArray->failedOf st=none->wpAny (model X.prog X.w) A (ksk_tail a false e1 (.ref kS) st) P E s1:=by
    intro st p hB hS ho hf;unfold ksk_tail
    try dsimp only
    rw[ho,hf];have hsz:(cy vs p).toArray.size<=sizeLine:=by rw[aaq,lN hB];exact hz _ (Nat.le_refl _)
    have g2':(s1.heap.update kS (Obj.mapSeq fun _=>(#[]:Array Value))).get? a=some (seqObj "list" #[] e1):=((Heap.SameBut.update ..).2 a hab).trans g2;refine wpAny_bind (listUpdate_at g1 rfl (wpAny_bind (wpAny_letGo (wpAny_bind (seqEpoch_at g2' rfl (wpAny_bind (listUpdate_at g2' rfl ?_ (Nat.zero_le _) (Nat.le_succ_of_le hsz))))))) (by rw[aaq];exact hz _ (by omega)) (Nat.zero_le _));simp only[bne_self_eq_false,Bool.false_eq_true,if_false];have J4:Inv X pins σ H {s1 with heap:=s1.heap.update kS (Obj.mapSeq fun _=>(#[]:Array Value))}:=J0.mO (tk:=s1.toks) fb fun d o hd z=>((Heap.SameBut.update ..).2 d hd).trans z
    have J5:Inv X pins σ H {s1 with heap:=(s1.heap.update kS (Obj.mapSeq fun _=>(#[]:Array Value))).update a (Obj.mapSeq fun _=>(cy vs p).toArray)}:=J4.mO (tk:=s1.toks) fa fun d o hd z=>((Heap.SameBut.update ..).2 d hd).trans z
    obtain⟨e4,g4⟩:∃e4,((s1.heap.update kS (Obj.mapSeq fun _=>(#[]:Array Value))).update a (Obj.mapSeq fun _=>(cy vs p).toArray)).get? a=some (seqObj "list" (cy vs p).toArray e4):=⟨_,get?_update_seq g2' fun _=>(cy vs p).toArray⟩;exact wpAny_pure (fin p _ e4 hB hS J5 g4)
   unfold ksk_end
   try dsimp only
   simp only[Bool.false_eq_true,if_false]
   by_cases h2':vs.toArray.size<2
   ·rw[if_pos h2',if_pos h2'];rw[aaq] at h2';refine wpAny_bind (wpAny_pure (wpAny_bind (wpAny_pure ?_)));refine tail _ (List.range vs.length).toArray (Array.Perm.refl _) (SL.Asc.few (ym cost) h2') ?_ rfl;rw[jn];apply Array.toList_inj.mp;simp;exact List.map_snd_zip (by omega)
   ·rw[if_neg h2',if_neg h2'];rw[aaq] at h2';obtain⟨κ,hκ,hask⟩:=sN (s:=s1) (A:=A) (prog:=X.prog) (w:=X.w) (by omega) hk;refine wpAny_bind (hκ _ _ ?_);refine wpAny_bind (wpAny_mono (kat_run (Q:=fun st' s'=>∃p:Array Nat,arrOf st'=p.map (kas_item ((List.toArray ks).zip vs.toArray))/\failedOf st'=none/\(Bas vs.length p/\Asc (fun i j=>decide (cost i<cost j)) p vs.length)/\s'=s1) (ks:=ks) hlen (by omega) h64
     (G:=fun p s'=>(Bas vs.length p/\Asc (fun i j=>decide (cost i<cost j)) p vs.length)/\s'=s1) (fun p st' s' _ q1 q2 q3=>⟨p,q1,q2,q3⟩) (kR (fun i j C hi hj=>hask i j C (by omega) (by omega)) _ (cS (fun p hp=>⟨hp,rfl⟩) _ (lM (ym cost) (by omega))))) ?_ fun _ _ z=>z)
    rintro⟨⟨⟩,st'⟩ s' ⟨p,q1,q2,⟨q3,q4⟩,rfl⟩;exact tail st' p q3 q4 (kat_snds hlen q1) q2
 rw[szT];exact go
end
end L2
namespace L2
open PySem PySem.W PySem.Spec PyProof.Rows
open SL (eD kg Ord Bas Asc cy)
section
variable {X:Cx}{pins:List (Addr×Obj)}{σ:St}{H:Hp}{s:Shared}{A:Around}{E:Value->Shared->Prop}
theorem Inv.zf{D:Addr}{o:HO}(I:Inv X pins σ H s)(f:cT X pins H D)(ok:ba X.prog X.w (upd H D o) s.heap D o):Inv X pins σ (upd H D o) s:=by
 obtain⟨f1,f2,f3,f4,f5,f6⟩:=f;have nD:∀b u,H b=some u->b≠D:=fun b u e z=>by rw[z,f1] at e;cases e
 have n0:∀b u,X.s₀.heap.get? b=some u->b ∉ X.ex->b≠D:=fun b u e hx z=>by
  rcases f4 with q|q
  ·exact hx (z▸q)
  ·exact absurd (Nat.lt_of_lt_of_le (Heap.lt_size e) (z▸q)) (Nat.lt_irrefl _)
 refine⟨I.ok,I.os,I.bare,⟨I.base.keep,I.base.slot,fun b u e n hx=>?_,I.base.there,fun b xs e=>?_,fun b u v e=>?_,fun b ps e=>?_⟩,I.loc,I.cell,?_,fun x c e=>?_,fun p hp=>?_,fun b u e=>?_,I.len⟩
 ·rw[am (n0 b u e hx)];exact I.base.free b u e n hx
 ·have:=I.base.tups b xs e;rw[am (nD _ _ this)];exact this
 ·have:=I.base.frzs b u v e;rw[am (nD _ _ this)];exact this
 ·obtain⟨m,q⟩:=I.base.tbls b ps e;exact⟨m,by rw[am (nD _ _ q)];exact q⟩
 ·rw[am (Ne.symm f2)];exact I.free
 ·rw[am (f5 x c e)];exact I.freeC x c e
 ·obtain⟨a1,a2,a3⟩:=I.pin p hp;exact⟨a1,by rw[am (f6 p hp)];exact a2,a3⟩
 ·by_cases hb:b=D
  ·rw[hb,aa] at e;cases e;rw[hb];exact ok
  ·rw[am hb] at e;exact(I.hok b u e).eO (fun _ _ _ q=>q) (fun c q=>by rw[am (nD _ _ q)];exact q) fun c xs q=>by rw[am (nD _ _ q)];exact q
theorem ml{α:Type}(g:α->Addr):∀l:List α,Vals (l.map fun z=>V.ref (g z)) (l.map fun z=>Value.ref (g z))
 |[]=>.nil
 |a::l=>.cons rfl (ml g l)
end
def yn(P:Addr)(pos:Pos)(q:Str)(i:Nat)(ta:TA)(tb:TE):TE:=fun σ H Q=>ta σ H fun x H1=>∃(p:Addr) (kvs:List (List Key×V)) (w':V) (cost:List Key->Int),x=[.ref p]/\H1 p=some (.dT kvs)/\kvs.length<64/\cW P pos q H1/\σ[i]? =some (some w')/\
 ∀H2,df P H1 H2->cW P pos q H2->(∀kv∈kvs,∀a,H2 a=some (.tup (kv.1.map kV))->tb [some (.ref a),some w'] H2 fun r H'=>r=.int (cost kv.1)/\H'=H2)/\
  ∀d (zs:List (List Key×Addr)),H1 d=none->H2 d=none->(zs.map (·.1)).Perm (kvs.map (·.1))->(zs.Pairwise fun a b=>cost a.1<=cost b.1)->(∀z∈zs,H2 z.2=some (.tup (z.1.map kV)))->Q (.ref d) (upd H2 d (.lst (zs.map fun z=>V.ref z.2)))
theorem qI{X:Cx}{c0 P c:Addr}{params:Arguments}{body e:Expr}{scope:Scope}{pos p0 kpos cpos:Pos}{x y:Str}{i:Nat}{ta:TA}{tb:TE}(hc:X.calm=true)(hr:bu 1 X.A)(hcode:X.env.code=.ref c0)(C:CodeHd X.base c0 P)(hbm:Bm X.mg X.base)
  (L:gi X params scope c x y i)(hg:Gl X "sorted")(hm:X.mg "sorted"=none)(ha:PA X [e] ta)(hb:∀f c' s₃ H₃,PE (kX X (X.env.qual++"<lambda>") scope [(y,c)] x y f c' X.A.in1.in1 s₃ H₃) body tb)
  (h1:starEach [e] X.env=(false,eval e X.env)::starEach [] X.env:=by rfl):PE X (.Call (.Name "sorted" p0) [e] [⟨some "key",.Lambda params body scope pos,kpos⟩] cpos) (yn P pos (X.env.qual++"<lambda>") i ta tb):=by
 intro pins s σ H Q I h;refine wpAny_Call_Name_kw (g6 I hg hm boot_sorted ?_);refine callWith_kw ?_ (by rw[h1];rfl) (by rw[h1];rfl);refine thn (ha cpos pins s σ H _ I h) fun us s1 hq=>?_
 obtain⟨x',H1,I1,rx,p,kvs,w',cost,rfl,hp,h64,T,hi,q⟩:=hq;obtain⟨u,rfl,ru⟩:=vals1 rx;cases ru
 refine(kws_cons (uP I1 hcode C T hbm L.clos L.dflt fun f c' pm ctv H2 s2 sT T2 hcO hf hge I2 ff hfo hsz=>kws_nil ?_));obtain⟨qb,q⟩:=q H2 sT T2;change wpAny (model X.prog X.w) X.A (call (.builtin "sorted") [.ref p] [("key",.ref f)]) _ _ s2;have hp2:H2 p=some (.dT kvs):=sT p _ (T.ne hp fun _ z=>by cases z) hp;obtain⟨lo,hz,xs,es,ep,kt,raw,hk,nd⟩:=I2.yj hp2;have hlen:=kt.len;have hes:es.size=xs.length:=by
  have:=congrArg List.length hk;rw[aaa,aaa,Array.length_toList] at this;exact this
 have hh:X.A.in1.handled=none:=I.ok.hd hc;refine call_function_entry_kw kind_sorted plain_sorted entry_sorted (ksk_s1 _ _) ?_;unfold Builtin.«sorted»;refine wpAny_bind (m:=checkCount "sorted" 1 1 _) (wpAny_pure (wpAny_bind (SL.jY lo hh raw (by rw[hes,←hlen];exact hz) fun h3 tk k3=>?_)));rw[hk];have hl64:(xs.map fun x=>Value.ref x.2.1).length<64:=by rw[aaa,←hlen];exact h64
 refine wpAny_bind (wpAny_newList ?_ (by rw[sizeLine_eq];omega));have I3:Inv X pins σ H2 {s2 with heap:=h3,toks:=tk}:=I2.kept (t':=tk) k3;have hx:(h3.push (seqObj "list" (xs.map fun x=>Value.ref x.2.1).toArray 0)).get? h3.objs.size=some (seqObj "list" (xs.map fun x=>Value.ref x.2.1).toArray 0):=aay _ rfl;have Dn:H2 h3.objs.size=none:=I3.hok.fresh (Nat.le_refl _);have Df:cT X pins H2 h3.objs.size:=I3.gW (Nat.le_refl _) Dn;have D1:H1 h3.objs.size=none:=by
  cases z:H1 h3.objs.size with
  |none=>rfl
  |some o=>
   exfalso
   by_cases zP:h3.objs.size=P
   ·obtain⟨ps,hP,_⟩:=T2;rw[←zP,Dn] at hP;cases hP
   ·rw[sT _ _ zP z] at Dn;cases Dn
 have fl:f<h3.objs.size:=Heap.lt_size (k3 f _ hfo);have kD:∀b o,h3.get? b=some o->(h3.push (seqObj "list" (xs.map fun x=>Value.ref x.2.1).toArray 0)).get? b=some o:=fun b o e=>aaf _ e
 have I4:Inv X pins σ H2 {s2 with heap:=h3.push (seqObj "list" (xs.map fun x=>Value.ref x.2.1).toArray 0),toks:=tk}:=I3.kept (t':=tk) kD;generalize hob:kla_obj "<lambda>" (X.env.qual++"<lambda>") params body scope [(y,c)] pm c' ctv=ob at hfo;have obc:∀v,ob.data≠.cell v:=fun v z=>by rw[←hob] at z;cases z
 have I5:Inv X (pins++[(f,ob)]) σ H2 {s2 with heap:=h3.push (seqObj "list" (xs.map fun x=>Value.ref x.2.1).toArray 0),toks:=tk}:=I4.gl fun z hz'=>by
  rcases aak.mp hz' with hz'|hz'
  ·exact I4.pin z (aar _ hz')
  ·rw[aaj.mp hz'];exact ff.qG (kD _ _ (k3 _ _ hfo)) obc
 have Df':cT X (pins++[(f,ob)]) H2 h3.objs.size:=by
  obtain⟨a1,a2,a3,a4,a5,a6⟩:=Df;refine⟨a1,a2,a3,a4,a5,fun z hz'=>?_⟩;rw[←List.append_assoc] at hz';rcases aak.mp hz' with hz'|hz'
  ·exact a6 z hz'
  ·rw[aaj.mp hz'];exact Nat.ne_of_lt fl
 change wpAny (model X.prog X.w) _ _ _ _ {s2 with heap:=h3.push (seqObj "list" (xs.map fun x=>Value.ref x.2.1).toArray 0),toks:=tk};refine wpAny_bind (wpAny_holding (wpAny_call_entry_kw slot_list_sort ⟨_,hx,rfl⟩ entry_list_sort ?bd (ksk_l1 _ _)));change wpAny (model X.prog X.w) X.A.in1.in1 (Builtin.«list.sort» ⟨[.ref h3.objs.size],[(Str.ofString "key",.ref f)]⟩) _ _ _;rw[ksk_t1];refine qH (cost:=fun j=>cost (xs.getD j ([],0,Value.none)).1) I5 hx Df' hl64 (fun more s4 j v J hv=>?_) fun pp s4 e4 hB hS J he4=>?_
 ·rw[aax] at hv;cases hj:xs[j]? with
  |none=>rw[hj] at hv;cases hv
  |some xx=>
   rw[hj] at hv;have hv:some (Value.ref xx.2.1)=some v:=hv;injection hv with hv;subst hv;obtain⟨vv,hkv,hH⟩:=kt.get j xx hj;have eg:xs.getD j ([],0,Value.none)=xx:=by rw[aat,hj];rfl
   have hfo4:=(J.pin (f,ob) (aar _ (List.mem_append_left _ (aar _ (aaj.mpr rfl))))).1;have hfo4:s4.heap.get? f=some (kla_obj "<lambda>" (X.env.qual++"<lambda>") params body scope [(y,c)] pm c' ctv):=by rw[hob];exact hfo4
   refine uQ (v:=.ref xx.2.1) (w':=w') L J I.ok.frames hh hr.depth hfo4 (sK J.hok hcO) rfl hi (hb f c' s4 H2) ?_;have:=qb (xx.1,vv) (aah hkv) xx.2.1 hH;show tb _ H2 fun r H'=>r=.int (cost (xs.getD j ([],0,Value.none)).1)/\H'=H2
   rw[eg];exact this
 ·rw[aaa] at hB hS;have e0:∀j∈pp.toList,j<xs.length:=fun j hj=>by
   have h1:pp.toList.Perm (List.range xs.length):=by
    have:=Array.perm_iff_toList_perm.mp hB;simpa using this
   exact List.mem_range.mp (h1.mem_iff.mp hj)
  generalize hzs:(pp.toList.map fun j=>((xs.getD j ([],0,Value.none)).1,(xs.getD j ([],0,Value.none)).2.1))=zs;have ho:cy (xs.map fun x=>Value.ref x.2.1) pp=zs.map fun z=>Value.ref z.2:=by
   rw[←hzs,List.map_map];exact List.map_congr_left fun j hj=>getD_map (fun x=>Value.ref x.2.1) xs (e0 j hj) ([],0,Value.none) Value.none
  have hzl:zs.length=xs.length:=by rw[←hzs,aaa,Array.length_toList,hB.size]
  rw[ho] at he4;have J2:Inv X pins σ (upd H2 h3.objs.size (.lst (zs.map fun z=>V.ref z.2))) s4:=by
   refine J.qF.zf Df ⟨?_,_,e4,ml (fun z:List Key×Addr=>z.2) zs,he4⟩;rw[aaa,hzl,←hlen];exact hz
  refine⟨_,rfl,wpAny_pure ⟨_,rfl,.ref h3.objs.size,_,J2,rfl,q _ zs D1 Dn ?_ ?_ fun z hz'=>?_⟩⟩
  ·have h2:=(oE xs ([],0,Value.none) hB).map (·.1);have e:zs.map (·.1)=(pp.toList.map fun j=>xs.getD j ([],0,Value.none)).map (·.1):=by rw[←hzs,List.map_map,List.map_map];rfl
   have e':xs.map (·.1)=kvs.map (·.1):=by
    have all:∀{l:List (List Key×V)} {m:List (List Key×Addr×Value)},KT H2 l m->m.map (·.1)=l.map (·.1):=by
     intro l m z
     induction z with
     |nil=>rfl
     |cons a b ih=>rw[aaw,aaw,ih,a.1]
    exact all kt
   rw[e,←e'];exact h2
  ·have h3:=sI hB hS;rw[←hzs,List.pairwise_map];refine h3.imp fun{a b} z=>?_
   have z:decide (cost (xs.getD b ([],0,Value.none)).1<cost (xs.getD a ([],0,Value.none)).1)=false:=z;rw[decide_eq_false_iff_not] at z;exact Int.not_lt.mp z
  ·rw[←hzs] at hz';obtain⟨j,hj,rfl⟩:=aao.mp hz';obtain⟨m,hm⟩:=List.mem_iff_getElem?.mp (getD_mem xs (e0 j hj) ([],0,Value.none));obtain⟨vv,_,hH⟩:=kt.get m _ hm;exact hH
end L2
namespace Nw
open PySem L2
open SL (aq srt)
theorem aX.vL{X:Cx}{scope:Scope}{cl:List (Str×Addr)}{N:List Str}{sel:List (Option Nat)}(fr:List Str)(clos:closureFor scope X.env=pure cl)(hk:scope.kind=.function)(hek:X.env.scope.kind=.function)
  (hn:∀y∈scope.names,y.2=.local\/y.2=.globalImplicit\/(y.2=.free/\y.1∈fr))(hl:∀y∈scope.names,y.2=.local->scope.names.lookup y.1=some .local)
  (hfr:∀x∈fr,X.env.kindOf x=some .cell/\scope.names.lookup x=some .free/\∃c,cl.lookup x=some c/\X.env.cells.lookup x=some c)(hcl:∀y∈cl,y.1∈fr)
  (hlen:sel.length=N.length)(hsel:∀(j i:Nat),sel[j]? =some (some i)->∃x∈fr,X.N[i]? =some x/\N[j]? =some x):aX X scope cl N sel where
 clos:=clos
 nocell:=fun y hy z=>by
  rcases hn y hy with e|e|⟨e,_⟩
  ·rw[e] at z;cases z
  ·rw[e] at z;cases z
  ·rw[e] at z;cases z
 kind:=hk
 locs:=hl
 cells:=fun x c h=>by
  obtain⟨_,_,c',h1,h2⟩:=hfr x (hcl _ (lookup_mem h));rw[h] at h1;cases h1
  exact h2
 has:=fun x ⟨v,n⟩=>by
  have key:∀kd:NameKind,(relabel scope X.env).names.lookup x=some kd->kd≠.local->kd≠.globalImplicit->∃c,cl.lookup x=some c:=fun kd h hne hng=>by
   rw[eh] at h;cases q:scope.names.lookup x with
   |none=>rw[q] at h;cases h
   |some k0=>
    rw[q] at h;rcases hn _ (lookup_mem q) with e|e|⟨_,e⟩
    ·have e:k0=.local:=e;subst e;have h:some NameKind.local=some kd:=h;injection h with h;exact absurd h.symm hne
    ·have e:k0=.globalImplicit:=e;subst e;have h:some NameKind.globalImplicit=some kd:=h;injection h with h;exact absurd h.symm hng
    ·obtain⟨_,_,c,h1,_⟩:=hfr x e;exact⟨c,h1⟩
  rcases v with z|z|z
  ·exact absurd z n
  ·exact key _ z (by decide) (by decide)
  ·exact key _ z (by decide) (by decide)
 len:=hlen
 names:=fun j i h=>by
  obtain⟨x,hx,h1,h2⟩:=hsel j i h;obtain⟨k1,k2,_⟩:=hfr x hx;have k1:X.env.scope.names.lookup x=some .cell:=k1;refine⟨x,h1,h2,⟨.inr (.inl k1),by rw[k1];decide⟩,?_⟩;rw[eh,k2];show some (if _ then _ else _)≠_;split <;> decide
theorem aX.one{X:Cx}{scope:Scope}{cl:List (Str×Addr)}{N:List Str}{sel:List (Option Nat)}(x:Str)(clos:closureFor scope X.env=pure cl)(hk:scope.kind=.function)(hek:X.env.scope.kind=.function)
  (hn:∀y∈scope.names,y.2=.local\/y.2=.globalImplicit\/(y.2=.free/\y.1∈[x]))(hl:∀y∈scope.names,y.2=.local->scope.names.lookup y.1=some .local)
  (h1:X.env.kindOf x=some .cell)(h2:scope.names.lookup x=some .free)(h3:∃c,cl=[(x,c)]/\X.env.cells.lookup x=some c)
  (hlen:sel.length=N.length)(hsel:∀(j i:Nat),sel[j]? =some (some i)->X.N[i]? =some x/\N[j]? =some x):aX X scope cl N sel:=by
 obtain⟨c,rfl,hc⟩:=h3;refine aX.vL [x] clos hk hek hn hl (fun y hy=>?_) (fun y hy=>?_) hlen fun j i h=>⟨x,aaj.mpr rfl,(hsel j i h).1,(hsel j i h).2⟩
 ·rw[aaj.mp hy];exact⟨h1,h2,c,by rw[List.lookup_cons,beq_self_eq_true],hc⟩
 ·rw[aaj.mp hy];exact aaj.mpr rfl
theorem jM{n:Nat}{M N:List Str}{x:Str}(h1:M[n]? =some x)(h2:N[1]? =some x):∀(j i:Nat),([none,some n]:List (Option Nat))[j]? =some (some i)->M[i]? =some x/\N[j]? =some x:=by
 intro j i h;rcases j with _|_|j
 ·cases h
 ·cases h;exact⟨h1,h2⟩
 ·cases h
theorem aX.none{X:Cx}{scope:Scope}{N:List Str}{sel:List (Option Nat)}(clos:closureFor scope X.env=pure [])(hk:scope.kind=.function)(hek:X.env.scope.kind=.function)
  (hn:∀y∈scope.names,y.2=.local\/y.2=.globalImplicit)(hl:∀y∈scope.names,y.2=.local->scope.names.lookup y.1=some .local)
  (hlen:sel.length=N.length)(hsel:∀o∈sel,o=Option.none):aX X scope [] N sel:=
 aX.vL [] clos hk hek (fun y hy=>(hn y hy).imp_right .inl) hl (fun y hy=>by cases hy) (fun y hy=>by cases hy) hlen fun j i h=>by
  have:=hsel _ (aah h);cases this
end Nw
namespace Nw
open PySem L2
open SL (aq srt)
abbrev Kx:=Str ⊕ (Str×Str)
structure Rec where
 key:Str×Str
 num:Nat
 keys:List Kx
def du(H:Hp)(v:V):Kx->Prop
 |.inl w=>v=.str w
 |.inr p=>∃t,v=.ref t/\H t=some (.tup [.str p.1,.str p.2])
def aQ(H:Hp)(a:Addr)(ks:List Kx):Prop:=∃vs,H a=some (.lst vs)/\Paired (du H) vs ks
def RecAt(H:Hp)(v:V)(r:Rec):Prop:=∃t kt l,v=.ref t/\H t=some (.tup [.ref kt,.int r.num,.ref l])/\H kt=some (.tup [.str r.key.1,.str r.key.2])/\aQ H l r.keys
def kZ(H:Hp)(a:Addr)(rs:List Rec):Prop:=∃vs,H a=some (.lst vs)/\Paired (RecAt H) vs rs
theorem du.mono{H H':Hp}(e:ab H H'){v:V}:∀{k:Kx},du H v k->du H' v k
 |.inl _,h=>h
 |.inr _,⟨t,h1,h2⟩=>⟨t,h1,e _ _ h2⟩
theorem aQ.mono{H H':Hp}(e:ab H H'){a:Addr}{ks:List Kx}(h:aQ H a ks):aQ H' a ks:=by
 obtain⟨vs,h1,h2⟩:=h;exact⟨vs,e _ _ h1,Paired.bJ h2 fun _ _ z=>z.mono e⟩
theorem RecAt.mono{H H':Hp}(e:ab H H'){v:V}{r:Rec}(h:RecAt H v r):RecAt H' v r:=by
 obtain⟨t,kt,l,h1,h2,h3,h4⟩:=h;exact⟨t,kt,l,h1,e _ _ h2,e _ _ h3,h4.mono e⟩
theorem du.keep{H H':Hp}(e:∀b xs,H b=some (.tup xs)->H' b=some (.tup xs)){v:V}:∀{k:Kx},du H v k->du H' v k
 |.inl _,h=>h
 |.inr _,⟨t,h1,h2⟩=>⟨t,h1,e _ _ h2⟩
def aL(sorts signs:List Str):List Kx:=signs.map fun s=>if s∈sorts then .inr ("whole",s) else .inl s
def bK(signs:List Str):List Kx:=signs.map fun s=>.inr ("empty",s)
structure Cons(mg:Str->Option Value):Prop where
 whole:∃u,mg "WHOLE"=some u/\RelV (.str "whole") u
 empty:∃u,mg "EMPTY"=some u/\RelV (.str "empty") u
 begin_:∃u,mg "BEGIN"=some u/\RelV (.str "begin") u
 hold:∃u,mg "HOLD"=some u/\RelV (.str "hold") u
 last:∃u,mg "LAST"=some u/\RelV (.str "last") u
 end_:∃u,mg "END"=some u/\RelV (.str "") u
abbrev sWk:Stmt:=top 27
abbrev sEk:Stmt:=top 28
theorem zS:aD ["signs","sorts"] ["signs","sorts"] (au sWk):=⟨rfl,rfl,rfl,by decide +kernel,rfl,by decide +kernel,by decide +kernel⟩
theorem zT:aD ["signs"] ["signs"] (au sEk):=⟨rfl,rfl,rfl,by decide +kernel,rfl,by decide +kernel,by decide +kernel⟩
def qJ:Sp:=fun vs H Q _=>∃(a b:Addr) (r ss:List Str),vs=[.ref a,.ref b]/\ak H a r/\ak H b ss/\r.length<=900/\∀q H',ab H H'->H q=none->aQ H' q (aL ss r)->Q (.ref q) H'
def oG:Sp:=fun vs H Q _=>∃(a:Addr) (r:List Str),vs=[.ref a]/\ak H a r/\r.length<=900/\∀q H',ab H H'->H q=none->aQ H' q (bK r)->Q (.ref q) H'
section
variable {P:Program}{w:World}{K:PySem.W.Frag}{mg:Str->Option Value}{base:Heap}
def eB(H:Hp)(D:Addr)(H1:Hp)(ks:List Kx):Prop:=∃vs,H1 D=some (.lst vs)/\Paired (du H1) vs ks/\ab H H1
theorem eB.zero{H:Hp}{D:Addr}(hD:H D=none):eB H D (upd H D (.lst [])) []:=⟨[],aa,.nil,ab.upd hD⟩
theorem eB.len{H H1:Hp}{D:Addr}{ks:List Kx}(h:eB H D H1 ks){vs:List V}(e:H1 D=some (.lst vs)):vs.length=ks.length:=by
 obtain⟨vs',h1,h2,_⟩:=h;rw[e] at h1;cases h1;exact Paired.length h2
theorem eB.add{H H1 H2:Hp}{D:Addr}{ks:List Kx}{k:Kx}{v:V}{vs:List V}(h:eB H D H1 ks)(hD:H D=none)(s:ab H1 H2)(e:H2 D=some (.lst vs))(hk:du H2 v k):eB H D (upd H2 D (.lst (vs++[v]))) (ks++[k]):=by
 obtain⟨vs',h1,h2,h3⟩:=h;have e':=s _ _ h1;rw[e] at e';cases e';have kp:∀b xs,H2 b=some (.tup xs)->upd H2 D (.lst (vs++[v])) b=some (.tup xs):=fun b xs z=>by
  rw[am (fun q=>by rw[q,e] at z;cases z)];exact z
 exact⟨vs++[v],aa,cG (Paired.bJ h2 fun _ _ z=>(z.mono s).keep kp) (hk.keep kp),(h3.trans s).bz hD⟩
theorem eB.fin{H H1:Hp}{D:Addr}{ks:List Kx}(h:eB H D H1 ks):ab H H1/\aQ H1 D ks:=by
 obtain⟨vs,h1,h2,h3⟩:=h;exact⟨h3,vs,h1,h2⟩
theorem zg{f:Addr}{fd:FuncData}(F:Fun K "whole_keys" "whole_keys" sWk f fd)(C:Cons mg):a0 P w K mg base CX0 1 f fd ["signs","sorts"] qJ:=by
 refine F.ok zS (fun vs H Q E h=>?_) (fun cdv A outer s H vs Q E hr h=>?_)
 ·obtain⟨a,b,r,ss,rfl,_⟩:=h;rfl
 ·obtain⟨a,b,r,ss,rfl,hA,hB,hl,k⟩:=h;obtain⟨uw,hw,rw'⟩:=C.whole;refine⟨_,ai (aI (cY (aX.one (N:=["sign","sorts"]) (sel:=[none,some 1]) "sorts" (by rfl) (by rfl) (by rfl) (by decide) (by decide) (by rfl) (by rfl) ⟨_,rfl,rfl⟩ (by rfl) (jM rfl rfl)) rfl (aB (pv 0)) (fun s₃ H₃ fp=>ap (i:=0) (show(["sign","sorts"]:List Str).Nodup by decide) rfl (Or.inl rfl)) (fun s₃ H₃ fp=>dc)
    (fun s₃ H₃ fp=>j1 (aK (r:=rIn K false) fO (pv 0) (pv 1) (by with_unfolding_all rfl)) (aP (ag (bR (X:=cC _ _ _ _ _ _ _) (by rfl) hw rw') (ag (pv 0) ac))) (pv 0)))),?_⟩
  have hA:H a=some (.lst (r.map V.str)):=hA;have hB:H b=some (.lst (ss.map V.str)):=hB;refine⟨_,rfl,a,rfl,⟨_,SqL.of hA⟩,fun D hD=>cH (K:=K) (xs:=r.map V.str) (fun j τ H4=>(∃o,τ=[o,some (.ref b)])/\eB H D H4 (aL ss (r.take j))) ⟨⟨_,rfl⟩,eB.zero hD⟩ ?_ ?_ ?_⟩
  ·rintro j τ H4 ⟨_,hs⟩;exact SqL.of (hs.fin.1 _ _ hA)
  ·rintro j x τ H4 hx ⟨⟨o,rfl⟩,hs⟩;obtain⟨y,hy,rfl⟩:=aZ hx;have hjl:j<r.length:=(aab.mp hy).1;obtain⟨vs,hv,_⟩:=id hs;have hvl:=hs.len hv;unfold aL at hvl;rw[aaa,aal] at hvl;have et:aL ss (r.take (j+1))=aL ss (r.take j)++[if y∈ss then .inr ("whole",y) else .inl y]:=by
    unfold aL;rw[aap,hy,aam];rfl
   refine⟨_,rfl,_,rfl,b,_,rfl,.inl (SqL.of (hs.fin.1 _ _ hB)),rfl,bN ss,_,rfl,?_⟩;show if inV (.str y) (ss.map V.str)=true then _ else _
   rw[bX]
   by_cases hm:y∈ss
   ·rw[aan hm];refine a9 ⟨_,rfl,(show 2<=sizeLine by decide),fun t ht=>?_⟩;have sT:=ab.upd (o:=HO.tup [.str "whole",.str y]) ht;refine⟨vs,sT _ _ hv,av (by omega),⟨_,rfl⟩,?_⟩;rw[et,if_pos hm];exact hs.add hD sT (sT _ _ hv) ⟨t,rfl,aa⟩
   ·rw[aai hm];refine aJ ⟨_,rfl,vs,hv,av (by omega),⟨_,rfl⟩,?_⟩;rw[et,if_neg hm];exact hs.add hD (ab.refl _) hv rfl
  ·rintro τ H4 ⟨_,hs⟩;rw[aaa,aas] at hs;exact k D _ hs.fin.1 hD hs.fin.2
theorem zh{f:Addr}{fd:FuncData}(F:Fun K "empty_keys" "empty_keys" sEk f fd)(C:Cons mg):a0 P w K mg base CX0 1 f fd ["signs"] oG:=by
 refine F.ok zT (fun vs H Q E h=>?_) (fun cdv A outer s H vs Q E hr h=>?_)
 ·obtain⟨a,r,rfl,_⟩:=h;rfl
 ·obtain⟨a,r,rfl,hA,hl,k⟩:=h;obtain⟨uw,hw,rw'⟩:=C.empty;refine⟨_,ai (aI (cY (aX.none (N:=["sign"]) (sel:=[none]) (by rfl) (by rfl) (by rfl) (by decide) (by decide) (by rfl) (by decide)) rfl (aB (pv 0)) (fun s₃ H₃ fp=>ap (i:=0) (show(["sign"]:List Str).Nodup by decide) rfl (Or.inl rfl)) (fun s₃ H₃ fp=>dc)
    (fun s₃ H₃ fp=>aP (ag (bR (X:=cC _ _ _ _ _ _ _) (by rfl) hw rw') (ag (pv 0) ac))))),?_⟩
  have hA:H a=some (.lst (r.map V.str)):=hA;refine⟨_,rfl,a,rfl,⟨_,SqL.of hA⟩,fun D hD=>cH (K:=K) (xs:=r.map V.str) (fun j τ H4=>(∃o,τ=[o])/\eB H D H4 (bK (r.take j))) ⟨⟨_,rfl⟩,eB.zero hD⟩ ?_ ?_ ?_⟩
  ·rintro j τ H4 ⟨_,hs⟩;exact SqL.of (hs.fin.1 _ _ hA)
  ·rintro j x τ H4 hx ⟨⟨o,rfl⟩,hs⟩;obtain⟨y,hy,rfl⟩:=aZ hx;have hjl:j<r.length:=(aab.mp hy).1;obtain⟨vs,hv,_⟩:=id hs;have hvl:=hs.len hv;unfold bK at hvl;rw[aaa,aal] at hvl;have et:bK (r.take (j+1))=bK (r.take j)++[.inr ("empty",y)]:=by
    unfold bK;rw[aap,hy,aam];rfl
   refine⟨_,rfl,(show 2<=sizeLine by decide),fun t ht=>?_⟩;have sT:=ab.upd (o:=HO.tup [.str "empty",.str y]) ht;refine⟨vs,sT _ _ hv,av (by omega),⟨_,rfl⟩,?_⟩;rw[et];exact hs.add hD sT (sT _ _ hv) ⟨t,rfl,aa⟩
  ·rintro τ H4 ⟨_,hs⟩;rw[aaa,aas] at hs;exact k D _ hs.fin.1 hD hs.fin.2
end
end Nw
namespace Nw
open PySem L2
open SL (aq srt)
def hide(w:Addr)(H:Hp):Hp:=fun b=>if b=w then none else H b
theorem hide_ne{w b:Addr}{H:Hp}(h:b≠w):hide w H b=H b:=if_neg h
theorem _root_.L2.ab.hide{H1 H2:Hp}{w:Addr}(s:ab H1 H2):ab (hide w H1) (hide w H2):=fun b o e=>by
 by_cases q:b=w
 ·unfold Nw.hide at e;rw[if_pos q] at e;cases e
 ·rw[hide_ne q] at e ⊢;exact s b o e
theorem _root_.L2.ab.fj{H:Hp}{w:Addr}:ab (Nw.hide w H) H:=fun b o e=>by
 by_cases q:b=w
 ·unfold Nw.hide at e;rw[if_pos q] at e;cases e
 ·rwa [hide_ne q] at e
theorem iO{H:Hp}{w:Addr}{o:HO}:hide w (upd H w o)=hide w H:=by
 funext b
 by_cases q:b=w
 ·unfold hide;rw[if_pos q,if_pos q]
 ·rw[hide_ne q,hide_ne q,am q]
def bh{α:Type}(F:Hp->V->α->Prop)(H:Hp)(wl:Addr)(H1:Hp)(ys:List α):Prop:=∃vs,H1 wl=some (.lst vs)/\Paired (F (hide wl H1)) vs ys/\ab H H1
def jo{α:Type}(F:Hp->V->α->Prop):Prop:=∀H H' v y,ab H H'->F H v y->F H' v y
section
variable {α:Type}{F:Hp->V->α->Prop}{H H1 H2:Hp}{wl:Addr}{ys:List α}
theorem bh.zero(h:H wl=none):bh F H wl (upd H wl (.lst [])) []:=⟨[],aa,.nil,ab.upd h⟩
theorem bh.on(M:jo F)(h:bh F H wl H1 ys)(s:ab H1 H2):bh F H wl H2 ys:=by
 obtain⟨vs,h1,h2,h3⟩:=h;exact⟨vs,s _ _ h1,Paired.bJ h2 fun _ _ z=>M _ _ _ _ s.hide z,h3.trans s⟩
theorem bh.len(h:bh F H wl H1 ys){vs:List V}(e:H1 wl=some (.lst vs)):vs.length=ys.length:=by
 obtain⟨vs',h1,h2,_⟩:=h;rw[e] at h1;cases h1;exact Paired.length h2
theorem bh.add(h:bh F H wl H1 ys)(hn:H wl=none){vs:List V}(e:H1 wl=some (.lst vs)){v:V}{y:α}(hk:F (hide wl H1) v y):bh F H wl (upd H1 wl (.lst (vs++[v]))) (ys++[y]):=by
 obtain⟨vs',h1,h2,h3⟩:=h;rw[e] at h1;cases h1;refine⟨vs++[v],aa,?_,h3.bz hn⟩;rw[iO];exact cG h2 hk
theorem bh.fin(M:jo F)(h:bh F H wl H1 ys):ab H H1/\∃vs,H1 wl=some (.lst vs)/\Paired (F H1) vs ys:=by
 obtain⟨vs,h1,h2,h3⟩:=h;exact⟨h3,vs,h1,Paired.bJ h2 fun _ _ z=>M _ _ _ _ ab.fj z⟩
end
theorem aQ.hide{H:Hp}{q wl:Addr}{ks:List Kx}{vs:List V}(h:aQ H q ks)(hq:q≠wl)(e:H wl=some (.lst vs)):aQ (Nw.hide wl H) q ks:=by
 obtain⟨us,h1,h2⟩:=h;refine⟨us,by rw[hide_ne hq];exact h1,Paired.bJ h2 fun _ _ z=>z.keep fun b xs y=>?_⟩;rw[hide_ne (fun q=>by rw[q,e] at y;cases y)];exact y
def qK(H0 H:Hp)(v:V)(ks:List Kx):Prop:=∃l,v=.ref l/\aQ H l ks/\H0 l=none
theorem c7{H0:Hp}:jo (qK H0):=fun _ _ _ _ s ⟨l,h1,h2,h3⟩=>⟨l,h1,h2.mono s,h3⟩
def yo(H0 H:Hp)(q:Addr)(L:List (List Kx)):Prop:=∃vs,H q=some (.lst vs)/\Paired (qK H0 H) vs L
def iP(z:Str)(ss r:List Str)(j:Nat):List Kx:=bK (r.take j)++(if r.getD j ""=z then .inl z else .inr ("begin",r.getD j ""))::aL ss (r.drop (j+1))
def cN(z:Str)(ss r:List Str):List (List Kx):=(List.range r.length).map (iP z ss r)
theorem oH(r:List Str)(k:Nat):dw (r.map V.str) none (some ((k:Nat):Int))=(r.take k).map V.str:=by
 unfold dw;rw[HT.j2,HT.g8,List.drop_zero,Nat.sub_zero,aaa,←List.map_take];rcases Nat.lt_or_ge r.length k with z|z
 ·rw[Nat.min_eq_right (by omega),List.take_of_length_le (Nat.le_refl _),List.take_of_length_le (by omega)]
 ·rw[Nat.min_eq_left z]
theorem d6(r:List Str):(bK r).length=r.length:=aaa ..
theorem ce(ss r:List Str):(aL ss r).length=r.length:=aaa ..
theorem oI{z:Str}{ss r:List Str}{j:Nat}(hj:j<r.length):(iP z ss r j).length=r.length:=by
 unfold iP;rw[aag,aau,d6,ce,aal,List.length_drop];omega
abbrev uR:Stmt:=top 39
theorem k5:aD ["signs","word","sorts","ways","place","sign","start"] ["signs","word","sorts"] (au uR):=⟨rfl,rfl,rfl,by decide +kernel,rfl,by decide +kernel,by decide +kernel⟩
def mP:Sp:=fun vs H Q _=>∃(a b:Addr) (z:Str) (r ss:List Str),vs=[.ref a,.str z,.ref b]/\ak H a r/\ak H b ss/\r.length<=20/\∀q H',ab H H'->H q=none->yo H H' q (cN z ss r)->Q (.ref q) H'
theorem aQ.cat{H:Hp}{a b p:Addr}{xs ys:List Kx}{us vs:List V}(h1:aQ H a xs)(h2:aQ H b ys)(e1:H a=some (.lst us))(e2:H b=some (.lst vs))(hp:H p=none):aQ (upd H p (.lst (us++vs))) p (xs++ys):=by
 obtain⟨us',h1,p1⟩:=h1;rw[e1] at h1;cases h1;obtain⟨vs',h2,p2⟩:=h2;rw[e2] at h2;cases h2;have m:=ab.upd (o:=HO.lst (us++vs)) hp;have app:∀{l1 l2:List V} {k1 k2:List Kx},Paired (du (upd H p (.lst (us++vs)))) l1 k1->Paired (du (upd H p (.lst (us++vs)))) l2 k2->Paired (du (upd H p (.lst (us++vs)))) (l1++l2) (k1++k2):=by
  intro l1 l2 k1 k2 q1 q2
  induction q1 with
  |nil=>exact q2
  |cons a _ ih=>exact .cons a ih
 exact⟨_,aa,app (Paired.bJ p1 fun _ _ z=>z.mono m) (Paired.bJ p2 fun _ _ z=>z.mono m)⟩
section
variable {P:Program}{w:World}{K:PySem.W.Frag}{mg:Str->Option Value}{base:Heap}
theorem yp{f:Addr}{fd:FuncData}(F:Fun K "keys_to_begin" "keys_to_begin" uR f fd)(C:Cons mg)(hEn:mg "enumerate"=none)(D1:Def P w K mg base "whole_keys" 1 ["signs","sorts"] qJ)(D2:Def P w K mg base "empty_keys" 1 ["signs"] oG) :
  a0 P w K mg base CX0 2 f fd ["signs","word","sorts"] mP:=by
 refine F.ok k5 (fun vs H Q E h=>?_) (fun cdv A outer s H vs Q E hr h=>?_)
 ·obtain⟨a,b,z,r,ss,rfl,_⟩:=h;rfl
 ·obtain⟨a,b,z,r,ss,rfl,hA,hB,hl,k⟩:=h;obtain⟨ub,hb,rb⟩:=C.begin_;refine⟨_,af (ao (i:=3) k5.nd rfl (Or.inl rfl) (aW ac))
   (af (aO PassesOwn.never rfl (ik (by rfl) hEn (ag (pv 0) ac)) (cJ (n:=2) rfl (aH (ap (i:=4) k5.nd rfl (Or.inl rfl)) (aH (ap (i:=5) k5.nd rfl (Or.inl rfl)) cg)))
    (aV (ao (i:=6) k5.nd rfl (Or.inl rfl) (j1 (aK km (pv 5) (pv 1) (bB _)) (pv 1) (aP (ag (bR (by rfl) hb rb) (ag (pv 5) ac)))))
    (ai (bp (bY PySem.F.plainAttrs_list PySem.F.slot_list_append PySem.F.type_list_append a8 (pv 3) (ag
     (bv cD (bv cD (aw D2 hr (by rfl) (ag (cE d9 (pv 0) c9 (cM (pv 4))) ac)) (aW (ag (pv 6) ac)))
      (aw D1 hr (by rfl) (ag (cE d9 (pv 0) (cM (bv eE (pv 4) az)) c9) (ag (pv 2) ac)))) ac))))))
   (ai (aI (pv 3)))),?_⟩
  have hA:H a=some (.lst (r.map V.str)):=hA;have hB:H b=some (.lst (ss.map V.str)):=hB;refine⟨by decide,fun wl hwl=>?_⟩;refine⟨_,rfl,a,rfl,⟨_,SqL.of (ab.upd hwl _ _ hA)⟩,gE (K:=K) (a:=a) (xs:=r.map V.str)
   (fun i σ H4=>(∃o1 o2 o3,σ=[some (.ref a),some (.str z),some (.ref b),some (.ref wl),o1,o2,o3])/\bh (qK H) H wl H4 ((List.range i).map (iP z ss r)))
   ⟨⟨_,_,_,rfl⟩,bh.zero hwl⟩ ?_ ?_ ?_⟩
  ·rintro i σ H4 _ ⟨_,hg⟩;exact SqL.of ((hg.fin c7).1 _ _ hA)
  ·rintro i x t σ H4 hx ⟨⟨o1,o2,o3,rfl⟩,hg⟩ ht;obtain⟨y,hy,rfl⟩:=aZ hx;have hil:i<r.length:=(aab.mp hy).1;have ey:r.getD i ""=y:=by rw[aat,hy];rfl
   have s1:=ab.upd (o:=HO.tup [.int i,.str y]) ht;have hg1:=hg.on c7 s1;refine⟨t,_,rfl,SqT.of aa,rfl,_,_,rfl,_,_,rfl,rfl,?_⟩;generalize upd H4 t (.tup [.int i,.str y])=H5 at hg1;clear hg s1 ht;refine⟨fun σ H6=>∃v,σ=[some (.ref a),some (.str z),some (.ref b),some (.ref wl),some (.int i),some (.str y),some v]/\ab H5 H6/\du H6 v (if y=z then .inl z else .inr ("begin",y)),?_,?_⟩
   ·refine⟨_,rfl,_,rfl,rfl,_,rfl,?_⟩
    by_cases q:y=z
    ·rw[q,aan rfl];refine a9 ⟨_,rfl,_,rfl,ab.refl _,?_⟩;rw[if_pos rfl];rfl
    ·have:decide (V.str y=V.str z)=false:=aai fun e=>q (by injection e)
     rw[this];refine aJ ⟨_,rfl,(show 2<=sizeLine by decide),fun t ht=>⟨_,rfl,ab.upd ht,?_⟩⟩;rw[if_neg q];exact⟨t,rfl,aa⟩
   rintro σ H6 ⟨v,rfl,s6,hv⟩;have hg6:=hg1.on c7 s6;obtain⟨vs,hw6,_⟩:=id hg6;have hvl:=hg6.len hw6;rw[aaa,List.length_range] at hvl;refine⟨_,rfl,.inl ⟨rfl,_,SqL.of hw6⟩,_,rfl,_,rfl,_,rfl,a,_,rfl,SqL.of ((hg6.fin c7).1 _ _ hA),fun q1 hq1=>?_⟩;rw[oH];have s7:=ab.upd (o:=HO.lst ((r.take i).map V.str)) hq1;refine⟨q1,r.take i,rfl,aa,by rw[aal];omega,fun e1 H8 s8 n8 hE=>⟨_,rfl,(show 1<=sizeLine by decide),fun q2 hq2=>?_⟩⟩;have s78:=s7.trans s8;have s9:=ab.upd (o:=HO.lst [v]) hq2;have s69:=s78.trans s9;obtain⟨us1,hu1,_⟩:=id (hE.mono s9);have hul1:us1.length=i:=by
    obtain⟨us',h1,h2⟩:=hE.mono s9;rw[hu1] at h1;cases h1;have:=Paired.length h2;rw[d6,aal] at this;omega
   have hS:aQ (upd H8 q2 (.lst [v])) q2 [if y=z then .inl z else .inr ("begin",y)]:=⟨[v],aa,.cons (hv.mono s69) .nil⟩;refine⟨e1,q2,_,_,rfl,rfl,hu1,aa,by rw[hul1];exact av (by omega),fun q3 hq3=>?_⟩;have hC:=aQ.cat (hE.mono s9) hS hu1 aa hq3;have s10:=ab.upd (o:=HO.lst (us1++[v])) hq3;have s610:=s69.trans s10;generalize hH10:upd (upd H8 q2 (.lst [v])) q3 (.lst (us1++[v]))=H10 at hC s10 s610;have hg10:=hg6.on c7 s610;refine⟨_,rfl,_,rfl,_,_,rfl,rfl,_,rfl,a,_,rfl,SqL.of ((hg10.fin c7).1 _ _ hA),fun q4 hq4=>?_⟩;have ec:dw (r.map V.str) (some ((i:Int)+1)) none=(r.drop (i+1)).map V.str:=iM r (i+1);rw[ec];have s11:=ab.upd (o:=HO.lst ((r.drop (i+1)).map V.str)) hq4;refine⟨_,rfl,q4,b,r.drop (i+1),ss,rfl,aa,(s11 _ _ ((hg10.fin c7).1 _ _ hB)),by rw[List.length_drop];omega,fun e2 H12 s12 n12 hW=>?_⟩;have s1012:=s11.trans s12;obtain⟨us2,hu2,_⟩:=id (hC.mono s1012);obtain⟨us3,hu3,_⟩:=id hW;have hul2:us2.length=i+1:=by
    obtain⟨us',h1,h2⟩:=hC.mono s1012;rw[hu2] at h1;cases h1;have:=Paired.length h2;rw[aag,d6,aal,aav] at this;omega
   have hul3:us3.length=r.length - (i+1):=by
    obtain⟨us',h1,h2⟩:=hW;rw[hu3] at h1;cases h1;have:=Paired.length h2;rw[ce,List.length_drop] at this;exact this
   refine⟨q3,e2,_,_,rfl,rfl,hu2,hu3,by rw[hul2,hul3];exact bE (by omega),fun q5 hq5=>?_⟩;have hZ:=aQ.cat (hC.mono s1012) hW hu2 hu3 hq5;have s13:=ab.upd (o:=HO.lst (us2++us3)) hq5;have hg13:=hg10.on c7 (s1012.trans s13);have hw13:upd H12 q5 (.lst (us2++us3)) wl=some (.lst vs):=s13 _ _ (s1012 _ _ (s610 _ _ hw6));have hq5w:q5≠wl:=fun e=>by rw[e] at hq5;rw[s1012 _ _ (s610 _ _ hw6)] at hq5;cases hq5
   refine⟨wl,vs,_,rfl,rfl,hw13,by rw[hvl];exact av (by omega),⟨_,_,_,rfl⟩,?_⟩;have ek:iP z ss r i=bK (r.take i)++[if y=z then .inl z else .inr ("begin",y)]++aL ss (r.drop (i+1)):=by
    unfold iP;rw[ey];simp
   rw[List.range_succ,aam,List.map_singleton,ek];exact hg13.add hwl hw13 ⟨q5,rfl,hZ.hide hq5w hw13,(hg10.on c7 s1012).fin c7 |>.1.free hq5⟩
  ·rintro σ H4 ⟨⟨_,_,_,rfl⟩,hg⟩;rw[aaa] at hg;obtain⟨h1,h2⟩:=hg.fin c7;exact⟨_,rfl,k wl _ h1 hwl h2⟩
end
end Nw
namespace Nw
open PySem L2
open SL (aq srt)
theorem bA:jo RecAt:=fun _ _ _ _ s h=>h.mono s
theorem oJ{H H5:Hp}{wl l kt t:Addr}{ys:List Rec}{vs:List V}{ks:List Kx}{kd lf:Str}{n:Nat}(hwl:H wl=none)(hg:bh RecAt H wl H5 ys)(e:H5 wl=some (.lst vs))(hk:aQ H5 l ks)(hl:l≠wl)(hkt:H5 kt=none)(ht:upd H5 kt (.tup [.str kd,.str lf]) t=none) :
  bh RecAt H wl (upd (upd (upd H5 kt (.tup [.str kd,.str lf])) t (.tup [.ref kt,.int n,.ref l])) wl (.lst (vs++[.ref t]))) (ys++[⟨(kd,lf),n,ks⟩]):=by
 have s1:=ab.upd (o:=HO.tup [.str kd,.str lf]) hkt;have s2:=ab.upd (o:=HO.tup [.ref kt,.int (n:Int),.ref l]) ht;have s12:=s1.trans s2;have e2:=s12 _ _ e;have nk:kt≠wl:=fun q=>by rw[q,e] at hkt;cases hkt
 have nt:t≠wl:=fun q=>by rw[q,s1 _ _ e] at ht;cases ht
 refine(hg.on bA s12).add hwl e2 ⟨t,kt,l,rfl,?_,?_,(hk.mono s12).hide hl e2⟩
 ·rw[hide_ne nt];exact aa
 ·rw[hide_ne nk];exact s2 _ _ aa
def eT(z:Str)(ss:List Str)(n:Nat)(p:Row):List Rec:=⟨("last",p.1),n,bK p.2⟩::(cN z ss p.2).map fun ks=>⟨("hold",p.1),n,ks⟩
def bH(z:Str)(ss:List Str)(n:Nat)(p:Row)(j:Nat):List Rec:=
 ⟨("hold",p.1),n,aL ss (p.2.take j)++.inr ("hold",p.2.getD j "")::aL ss (p.2.drop (j+1))⟩::⟨("last",p.1),n,aL ss (p.2.take j)++.inr ("last",p.2.getD j "")::bK (p.2.drop (j+1))⟩ ::
  (cN z ss (p.2.drop (j+1))).map fun ks=>⟨("hold",p.1),n,aL ss (p.2.take j)++.inr ("last",p.2.getD j "")::ks⟩
def cO(z:Str)(ss:List Str)(n:Nat)(p:Row):List Rec:=⟨("whole",p.1),n,aL ss p.2⟩::⟨("empty",p.1),n,bK p.2⟩::((cN z ss p.2).map fun ks=>⟨("begin",p.1),n,ks⟩)++(List.range p.2.length).flatMap (bH z ss n p)
theorem cL(z:Str)(ss r:List Str):(cN z ss r).length=r.length:=by unfold cN;rw[aaa,List.length_range]
abbrev uS:Stmt:=top 37
abbrev uT:Stmt:=top 38
theorem k6:aD ["rows","number","word","left","right","recipes","keys"] ["rows","number","word"] (au uS):=⟨rfl,rfl,rfl,by decide +kernel,rfl,by decide +kernel,by decide +kernel⟩
theorem fk:aD ["rows","number","word","sorts","left","right","recipes","keys","place","sign","ahead","rest"] ["rows","number","word"] (au uT):=⟨rfl,rfl,rfl,by decide +kernel,rfl,by decide +kernel,by decide +kernel⟩
def qL:Sp:=fun vs H Q _=>∃(a:Addr) (n:Nat) (z:Str) (R:List Row) (p:Row),vs=[.ref a,.int n,.str z]/\a7 H a R/\Small R/\R[n]? =some p/\∀q H',ab H H'->H q=none->kZ H' q (eT z (ad R) n p)->Q (.ref q) H'
def qM:Sp:=fun vs H Q _=>∃(a:Addr) (n:Nat) (z:Str) (R:List Row) (p:Row),vs=[.ref a,.int n,.str z]/\a7 H a R/\Small R/\R[n]? =some p/\∀q H',ab H H'->H q=none->kZ H' q (cO z (ad R) n p)->Q (.ref q) H'
section
variable {P:Program}{w:World}{K:PySem.W.Frag}{mg:Str->Option Value}{base:Heap}
theorem yq{f:Addr}{fd:FuncData}(F:Fun K "recipes_of_part" "recipes_of_part" uS f fd)(C:Cons mg)(D1:Def P w K mg base "empty_keys" 1 ["signs"] oG)(D2:Def P w K mg base "keys_to_begin" 2 ["signs","word","sorts"] mP)(D3:Def P w K mg base "sorts_of" 1 ["rows"] bZ) :
  a0 P w K mg base CX0 3 f fd ["rows","number","word"] qL:=by
 refine F.ok k6 (fun vs H Q E h=>?_) (fun cdv A outer s H vs Q E hr h=>?_)
 ·obtain⟨a,n,z,R,p,rfl,_⟩:=h;rfl
 ·obtain⟨a,n,z,R,p,rfl,hR,hsm,hn,k⟩:=h;obtain⟨ul,hl,rl⟩:=C.last;obtain⟨uh,hh,rh⟩:=C.hold;have hr1:bu 1 _:=hr.mono (by decide);refine⟨_,af (ao (i:=3) k6.nd rfl (Or.inl rfl) (aE aU (aE bb (pv 0) (pv 1) (fun _ _=>rfl)) az (fun _ _=>rfl)))
   (af (ao (i:=4) k6.nd rfl (Or.inl rfl) (aE aU (aE bb (pv 0) (pv 1) (fun _ _=>rfl)) az (fun _ _=>rfl)))
   (aV (ao (i:=5) k6.nd rfl (Or.inl rfl) (aW (ag (aP (ag (aP (ag (bR (by rfl) hl rl) (ag (pv 3) ac))) (ag (pv 1) (ag (aw D1 hr1 (by rfl) (ag (pv 4) ac)) ac)))) ac)))
   (af (aO PassesOwn.never rfl (aB (aw D2 hr (by rfl) (ag (pv 4) (ag (pv 2) (ag (aw D3 hr1 (by rfl) (ag (pv 0) ac)) ac))))) (ap (i:=6) k6.nd rfl (Or.inl rfl))
    (ai (bp (bY PySem.F.plainAttrs_list PySem.F.slot_list_append PySem.F.type_list_append a8 (pv 5) (ag (aP (ag (aP (ag (bR (by rfl) hh rh) (ag (pv 3) ac))) (ag (pv 1) (ag (pv 6) ac)))) ac)))))
   (ai (aI (pv 5)))))),?_⟩
  obtain⟨rs,hrs,hp⟩:=id hR;obtain⟨v0,hv0⟩:∃v0,rs[n]? =some v0:=⟨_,aae (by rw[Paired.length hp];exact(aab.mp hn).1)⟩;obtain⟨p',tt,c,hp',rfl,htt,hc⟩:=bO hp hv0;rw[hn] at hp';cases hp';have hpm:p∈R:=aah hn;have hw20:=hsm.wid p hpm;have hc:H c=some (.lst (p.2.map V.str)):=hc;refine⟨_,rfl,_,rfl,a,_,(n:Int),_,rfl,rfl,SqL.of hrs,aA hv0,tt,_,0,_,rfl,rfl,SqT.of htt,aA (j:=0) rfl,?_⟩;refine⟨_,rfl,_,rfl,a,_,(n:Int),_,rfl,rfl,SqL.of hrs,aA hv0,tt,_,1,_,rfl,rfl,SqT.of htt,aA (j:=1) rfl,?_⟩;refine⟨fun σ H1=>∃wl,σ=[some (.ref a),some (.int n),some (.str z),some (.str p.1),some (.ref c),some (.ref wl),none]/\H wl=none/\bh RecAt H wl H1 [⟨("last",p.1),n,bK p.2⟩],?_,?_⟩
  ·refine⟨_,rfl,(show 2<=sizeLine by decide),fun kt hkt=>?_⟩;have s1:=ab.upd (o:=HO.tup [.str "last",.str p.1]) hkt;refine⟨_,rfl,_,rfl,c,p.2,rfl,s1 _ _ hc,by omega,fun e1 H2 s2 n2 hE=>⟨(show 3<=sizeLine by decide),fun t ht=>⟨(show 1<=sizeLine by decide),fun wl hwl=>?_⟩⟩⟩;have s3:=ab.upd (o:=HO.tup [.ref kt,.int (n:Int),.ref e1]) ht;have s123:=(s1.trans s2).trans s3;have hwlH:H wl=none:=s123.free hwl;refine⟨wl,rfl,hwlH,[.ref t],aa,.cons ?_ .nil,s123.trans (ab.upd hwl)⟩;rw[iO];have nw:∀b o,upd H2 t (.tup [.ref kt,.int (n:Int),.ref e1]) b=some o->b≠wl:=fun b o e q=>by rw[q,hwl] at e;cases e
   have hr':RecAt (upd H2 t (.tup [.ref kt,.int (n:Int),.ref e1])) (.ref t) ⟨("last",p.1),n,bK p.2⟩:=⟨t,kt,e1,rfl,aa,s3 _ _ (s2 _ _ aa),hE.mono s3⟩;have sh:ab (upd H2 t (.tup [.ref kt,.int (n:Int),.ref e1])) (hide wl (upd H2 t (.tup [.ref kt,.int (n:Int),.ref e1]))):=fun b o e=>by rw[hide_ne (nw b o e)];exact e
   exact hr'.mono sh
  rintro σ H1 ⟨wl,rfl,hwl,hg⟩;have sH1:=(hg.fin bA).1;refine⟨_,rfl,_,rfl,_,rfl,a,R,rfl,hR.mono sH1,hsm,fun qs H2 s2 n2 hS=>?_⟩;have hS:ak H2 qs (ad R):=hS;refine⟨c,qs,z,p.2,ad R,rfl,(sH1.trans s2) _ _ hc,hS,hw20,fun q H3 s3 n3 hW=>?_⟩;obtain⟨ws,hws,hpw⟩:=id hW;have hg3:=hg.on bA (s2.trans s3);obtain⟨vs0,hv0',_⟩:=id hg;have hqw:q≠wl:=fun e=>by rw[e,s2 _ _ hv0'] at n3;cases n3
  refine⟨q,rfl,⟨_,SqL.of hws⟩,aM (K:=K) (a:=q) (xs:=ws)
   (fun i σ H4=>(∃o,σ=[some (.ref a),some (.int n),some (.str z),some (.str p.1),some (.ref c),some (.ref wl),o])/\ab (hide wl H3) H4/\bh RecAt H wl H4 (⟨("last",p.1),n,bK p.2⟩::((cN z (ad R) p.2).take i).map fun ks=>⟨("hold",p.1),n,ks⟩))
   ⟨⟨_,rfl⟩,ab.fj,hg3⟩ ?_ ?_ ?_⟩
  ·rintro i σ H4 _ ⟨_,s4,_⟩;exact SqL.of (s4 _ _ (by rw[hide_ne hqw];exact hws))
  ·rintro i x σ H4 hx ⟨⟨o,rfl⟩,s4,hg4⟩;obtain⟨ks,hki,l,rfl,hkl,hln⟩:=aT hpw i x hx;have hil:i<(cN z (ad R) p.2).length:=(aab.mp hki).1;rw[cL] at hil;obtain⟨vs4,hv4,_⟩:=id hg4;have hlen4:=hg4.len hv4;rw[aau,aaa,aal] at hlen4;have hlw:l≠wl:=fun e=>by rw[e,s2 _ _ hv0'] at hln;cases hln
   have hkl4:aQ H4 l ks:=(hkl.hide hlw (s3 _ _ (s2 _ _ hv0'))).mono s4;refine⟨_,rfl,.inl ⟨rfl,_,SqL.of hv4⟩,_,rfl,(show 2<=sizeLine by decide),fun kt hkt=>⟨_,rfl,_,rfl,(show 3<=sizeLine by decide),fun t ht=>?_⟩⟩;refine⟨wl,vs4,_,rfl,rfl,ab.upd ht _ _ (ab.upd hkt _ _ hv4),av (by omega),⟨_,rfl⟩,?_,?_⟩
   ·exact((s4.trans (ab.upd hkt)).trans (ab.upd ht)).bz (if_pos rfl)
   ·rw[aap,hki,aam,←List.cons_append];exact oJ hwl hg4 hv4 hkl4 hlw hkt ht
  ·rintro σ H4 ⟨⟨o,rfl⟩,_,hg4⟩;rw[Paired.length hpw,aas] at hg4;obtain⟨h1,h2⟩:=hg4.fin bA;exact⟨_,rfl,k wl _ h1 hwl h2⟩
end
end Nw
namespace Nw
open PySem L2
open SL (aq srt)
theorem jp{H H2:Hp}{wl l kt t:Addr}{ys:List Rec}{vs:List V}{ks:List Kx}{kd lf:Str}{n:Nat}(hwl:H wl=none)(hg:bh RecAt H wl H2 ys)(e:H2 wl=some (.lst vs))(hkt:H2 kt=some (.tup [.str kd,.str lf]))(hk:aQ H2 l ks)(hl:l≠wl)(ht:H2 t=none) :
  bh RecAt H wl (upd (upd H2 t (.tup [.ref kt,.int n,.ref l])) wl (.lst (vs++[.ref t]))) (ys++[⟨(kd,lf),n,ks⟩]):=by
 have s2:=ab.upd (o:=HO.tup [.ref kt,.int (n:Int),.ref l]) ht;have e2:=s2 _ _ e;have nk:kt≠wl:=fun q=>by rw[q,e] at hkt;cases hkt
 have nt:t≠wl:=fun q=>by rw[q,e] at ht;cases ht
 refine(hg.on bA s2).add hwl e2 ⟨t,kt,l,rfl,?_,?_,(hk.mono s2).hide hl e2⟩
 ·rw[hide_ne nt];exact aa
 ·rw[hide_ne nk];exact s2 _ _ hkt
theorem aQ.len{H:Hp}{a:Addr}{ks:List Kx}{us:List V}(h:aQ H a ks)(e:H a=some (.lst us)):us.length=ks.length:=by
 obtain⟨us',h1,h2⟩:=h;rw[e] at h1;cases h1;exact Paired.length h2
theorem lO{kd:Str}{i j:Nat}{t3:TE}{σ:St}{H:Hp}{Q:VK}{a:Addr}{g:Str}{xs:List Kx}(h0:σ[i]? =some (some (.ref a)))(h1:σ[j]? =some (some (.str g)))(hk:aQ H a xs)(hl:xs.length<=100)
  (h3:∀m H3,ab H H3->H m=none->aQ H3 m (xs++[.inr (kd,g)])->t3 σ H3 fun v3 H4=>nc (.ref m) v3 H4 Q) :
  tOp nc (tOp nc (mV i) (tL (jB (tK (jB (tC (.str kd)) (jB (mV j) p6))) p6))) t3 σ H Q:=by
 refine⟨_,h0,_,h1,(show 2<=sizeLine by decide),fun tt htt=>⟨(show 1<=sizeLine by decide),fun q2 hq2=>?_⟩⟩;have s1:=ab.upd (o:=HO.tup [.str kd,.str g]) htt;have s2:=ab.upd (o:=HO.lst [.ref tt]) hq2;have s12:=s1.trans s2;obtain⟨us,hu,_⟩:=id (hk.mono s12);have hul:=(hk.mono s12).len hu;have hS:aQ (upd (upd H tt (.tup [.str kd,.str g])) q2 (.lst [.ref tt])) q2 [.inr (kd,g)]:=⟨[.ref tt],aa,.cons ⟨tt,rfl,s2 _ _ aa⟩ .nil⟩;refine⟨a,q2,_,_,rfl,rfl,hu,aa,by rw[hul];exact av (by omega),fun q3 hq3=>?_⟩;exact h3 q3 _ (s12.trans (ab.upd hq3)) (s12.free hq3) (aQ.cat (hk.mono s12) hS hu aa hq3)
theorem oK{H:Hp}{Q:VK}{m b:Addr}{A B:List Kx}(h1:aQ H m A)(h2:aQ H b B)(hl:A.length+B.length<=900)(h:∀q H',ab H H'->H q=none->aQ H' q (A++B)->Q (.ref q) H'):nc (.ref m) (.ref b) H Q:=by
 obtain⟨us,hu,_⟩:=id h1;obtain⟨vs,hv,_⟩:=id h2;refine⟨m,b,us,vs,rfl,rfl,hu,hv,by rw[h1.len hu,h2.len hv];exact bE (by omega),fun q hq=>?_⟩;exact h q _ (ab.upd hq) hq (aQ.cat h1 h2 hu hv hq)
theorem gP{α:Type}(A:List α)(x:α)(B:List α):A++x::B=A++[x]++B:=by simp
section
variable {P:Program}{w:World}{K:PySem.W.Frag}{mg:Str->Option Value}{base:Heap}
theorem yr{f:Addr}{fd:FuncData}(F:Fun K "recipes_of_row" "recipes_of_row" uT f fd)(C:Cons mg)(hEn:mg "enumerate"=none)(D0:Def P w K mg base "whole_keys" 1 ["signs","sorts"] qJ)(D1:Def P w K mg base "empty_keys" 1 ["signs"] oG)
  (D2:Def P w K mg base "keys_to_begin" 2 ["signs","word","sorts"] mP)(D3:Def P w K mg base "sorts_of" 1 ["rows"] bZ):a0 P w K mg base CX0 3 f fd ["rows","number","word"] qM:=by
 refine F.ok fk (fun vs H Q E h=>?_) (fun cdv A outer s H vs Q E hr h=>?_)
 ·obtain⟨a,n,z,R,p,rfl,_⟩:=h;rfl
 ·obtain⟨a,n,z,R,p,rfl,hR,hsm,hn,k⟩:=h;obtain⟨ul,hl,rl⟩:=C.last;obtain⟨uh,hh,rh⟩:=C.hold;obtain⟨ub,hb,rb⟩:=C.begin_;obtain⟨uw,hw,rw'⟩:=C.whole;obtain⟨ue,he,re⟩:=C.empty;have hr1:bu 1 _:=hr.mono (by decide);refine⟨_,af (ao (i:=3) fk.nd rfl (Or.inl rfl) (aw D3 hr1 (by rfl) (ag (pv 0) ac)))
   (af (ao (i:=4) fk.nd rfl (Or.inl rfl) (aE aU (aE bb (pv 0) (pv 1) (fun _ _=>rfl)) az (fun _ _=>rfl)))
   (af (ao (i:=5) fk.nd rfl (Or.inl rfl) (aE aU (aE bb (pv 0) (pv 1) (fun _ _=>rfl)) az (fun _ _=>rfl)))
   (aV (ao (i:=6) fk.nd rfl (Or.inl rfl) (aW (ag (aP (ag (aP (ag (bR (by rfl) hw rw') (ag (pv 4) ac))) (ag (pv 1) (ag (aw D0 hr1 (by rfl) (ag (pv 5) (ag (pv 3) ac))) ac))))
     (ag (aP (ag (aP (ag (bR (by rfl) he re) (ag (pv 4) ac))) (ag (pv 1) (ag (aw D1 hr1 (by rfl) (ag (pv 5) ac)) ac)))) ac))))
   (aV (aO PassesOwn.never rfl (aB (aw D2 hr (by rfl) (ag (pv 5) (ag (pv 2) (ag (pv 3) ac))))) (ap (i:=7) fk.nd rfl (Or.inl rfl))
    (ai (bp (bY PySem.F.plainAttrs_list PySem.F.slot_list_append PySem.F.type_list_append a8 (pv 6) (ag (aP (ag (aP (ag (bR (by rfl) hb rb) (ag (pv 4) ac))) (ag (pv 1) (ag (pv 7) ac)))) ac)))))
   (af (aO PassesOwn.never rfl (ik (by rfl) hEn (ag (pv 5) ac)) (cJ (n:=2) rfl (aH (ap (i:=8) fk.nd rfl (Or.inl rfl)) (aH (ap (i:=9) fk.nd rfl (Or.inl rfl)) cg)))
    (aV (ao (i:=10) fk.nd rfl (Or.inl rfl) (aw D0 hr1 (by rfl) (ag (cE d9 (pv 5) c9 (cM (pv 8))) (ag (pv 3) ac))))
    (aV (ao (i:=11) fk.nd rfl (Or.inl rfl) (cE d9 (pv 5) (cM (bv eE (pv 8) az)) c9))
    (aV (bp (bY PySem.F.plainAttrs_list PySem.F.slot_list_append PySem.F.type_list_append a8 (pv 6) (ag (aP (ag (aP (ag (bR (by rfl) hh rh) (ag (pv 4) ac))) (ag (pv 1) (ag
      (bv cD (bv cD (pv 10) (aW (ag (aP (ag (bR (by rfl) hh rh) (ag (pv 9) ac))) ac))) (aw D0 hr1 (by rfl) (ag (pv 11) (ag (pv 3) ac)))) ac)))) ac)))
    (aV (bp (bY PySem.F.plainAttrs_list PySem.F.slot_list_append PySem.F.type_list_append a8 (pv 6) (ag (aP (ag (aP (ag (bR (by rfl) hl rl) (ag (pv 4) ac))) (ag (pv 1) (ag
      (bv cD (bv cD (pv 10) (aW (ag (aP (ag (bR (by rfl) hl rl) (ag (pv 9) ac))) ac))) (aw D1 hr1 (by rfl) (ag (pv 11) ac))) ac)))) ac)))
    (ai (aO PassesOwn.never rfl (aB (aw D2 hr (by rfl) (ag (pv 11) (ag (pv 2) (ag (pv 3) ac))))) (ap (i:=7) fk.nd rfl (Or.inl rfl))
     (ai (bp (bY PySem.F.plainAttrs_list PySem.F.slot_list_append PySem.F.type_list_append a8 (pv 6) (ag (aP (ag (aP (ag (bR (by rfl) hh rh) (ag (pv 4) ac))) (ag (pv 1) (ag
      (bv cD (bv cD (pv 10) (aW (ag (aP (ag (bR (by rfl) hl rl) (ag (pv 9) ac))) ac))) (pv 7)) ac)))) ac)))))))))))
   (ai (aI (pv 6)))))))),?_⟩
  obtain⟨rs,hrs,hp⟩:=id hR;obtain⟨v0,hv0⟩:∃v0,rs[n]? =some v0:=⟨_,aae (by rw[Paired.length hp];exact(aab.mp hn).1)⟩;obtain⟨p',tt,c,hp',rfl,htt,hc⟩:=bO hp hv0;rw[hn] at hp';cases hp';have hpm:p∈R:=aah hn;have hw20:=hsm.wid p hpm;have hc:H c=some (.lst (p.2.map V.str)):=hc;refine⟨_,rfl,a,R,rfl,hR,hsm,fun qs H0 s0 n0 hS=>?_⟩;have hS:H0 qs=some (.lst ((ad R).map V.str)):=hS;generalize hss:ad R=ss at hS;refine⟨_,rfl,_,rfl,a,_,(n:Int),_,rfl,rfl,SqL.of (s0 _ _ hrs),aA hv0,tt,_,0,_,rfl,rfl,SqT.of (s0 _ _ htt),aA (j:=0) rfl,?_⟩;refine⟨_,rfl,_,rfl,a,_,(n:Int),_,rfl,rfl,SqL.of (s0 _ _ hrs),aA hv0,tt,_,1,_,rfl,rfl,SqT.of (s0 _ _ htt),aA (j:=1) rfl,?_⟩;have hc0:H0 c=some (.lst (p.2.map V.str)):=s0 _ _ hc;refine⟨fun σ H1=>∃wl,σ=[some (.ref a),some (.int n),some (.str z),some (.ref qs),some (.str p.1),some (.ref c),some (.ref wl),none,none,none,none,none]/\H0 wl=none/\bh RecAt H0 wl H1 [⟨("whole",p.1),n,aL ss p.2⟩,⟨("empty",p.1),n,bK p.2⟩],?_,?_⟩
  ·refine⟨_,rfl,(show 2<=sizeLine by decide),fun kt hkt=>?_⟩;have s1:=ab.upd (o:=HO.tup [.str "whole",.str p.1]) hkt;refine⟨_,rfl,_,rfl,_,rfl,c,qs,p.2,ss,rfl,s1 _ _ hc0,s1 _ _ hS,by omega,fun e1 H2 s2 n2 hE=>⟨(show 3<=sizeLine by decide),fun t ht=>?_⟩⟩;have s3:=ab.upd (o:=HO.tup [.ref kt,.int (n:Int),.ref e1]) ht;have s123:=(s1.trans s2).trans s3;have r1:RecAt (upd H2 t (.tup [.ref kt,.int (n:Int),.ref e1])) (.ref t) ⟨("whole",p.1),n,aL ss p.2⟩:=⟨t,kt,e1,rfl,aa,s3 _ _ (s2 _ _ aa),hE.mono s3⟩;refine⟨_,rfl,(show 2<=sizeLine by decide),fun kt2 hkt2=>?_⟩;have s4:=ab.upd (o:=HO.tup [.str "empty",.str p.1]) hkt2;refine⟨_,rfl,_,rfl,c,p.2,rfl,s4 _ _ (s123 _ _ hc0),by omega,fun e2 H3 s5 n5 hE2=>⟨(show 3<=sizeLine by decide),fun t2 ht2=>⟨(show 2<=sizeLine by decide),fun wl hwl=>?_⟩⟩⟩;have s6:=ab.upd (o:=HO.tup [.ref kt2,.int (n:Int),.ref e2]) ht2;have iJ:=(s123.trans (s4.trans s5)).trans s6;have r2:RecAt (upd H3 t2 (.tup [.ref kt2,.int (n:Int),.ref e2])) (.ref t2) ⟨("empty",p.1),n,bK p.2⟩:=⟨t2,kt2,e2,rfl,aa,s6 _ _ (s5 _ _ aa),hE2.mono s6⟩;refine⟨wl,rfl,iJ.free hwl,[.ref t,.ref t2],aa,?_,iJ.trans (ab.upd hwl)⟩;rw[iO];have sh:ab (upd H3 t2 (.tup [.ref kt2,.int (n:Int),.ref e2])) (hide wl (upd H3 t2 (.tup [.ref kt2,.int (n:Int),.ref e2]))):=fun b o e=>by rw[hide_ne (fun q=>by rw[q,hwl] at e;cases e)];exact e
   exact .cons (r1.mono ((s4.trans s5).trans (s6.trans sh))) (.cons (r2.mono sh) .nil)
  rintro σ H1 ⟨wl,rfl,hwl,hg⟩;have fin0:∀{H4:Hp} {ys:List Rec},bh RecAt H0 wl H4 ys->H4 c=some (.lst (p.2.map V.str))/\H4 qs=some (.lst (ss.map V.str)):=fun hg=>⟨(hg.fin bA).1 _ _ hc0,(hg.fin bA).1 _ _ hS⟩
  refine⟨fun σ H4=>(∃o,σ=[some (.ref a),some (.int n),some (.str z),some (.ref qs),some (.str p.1),some (.ref c),some (.ref wl),o,none,none,none,none])/\bh RecAt H0 wl H4 (⟨("whole",p.1),n,aL ss p.2⟩::⟨("empty",p.1),n,bK p.2⟩::(cN z ss p.2).map fun ks=>⟨("begin",p.1),n,ks⟩),?_,?_⟩
  ·refine⟨_,rfl,_,rfl,_,rfl,c,qs,z,p.2,ss,rfl,(fin0 hg).1,(fin0 hg).2,hw20,fun q H3 s3 n3 hW=>?_⟩;obtain⟨ws,hws,hpw⟩:=id hW;have hg3:=hg.on bA s3;obtain⟨vs0,hv0',_⟩:=id hg;have hqw:q≠wl:=fun e=>by rw[e,hv0'] at n3;cases n3
   refine⟨q,rfl,⟨_,SqL.of hws⟩,aM (K:=K) (a:=q) (xs:=ws)
    (fun i σ H4=>(∃o,σ=[some (.ref a),some (.int n),some (.str z),some (.ref qs),some (.str p.1),some (.ref c),some (.ref wl),o,none,none,none,none])/\ab (hide wl H3) H4/\bh RecAt H0 wl H4 (⟨("whole",p.1),n,aL ss p.2⟩::⟨("empty",p.1),n,bK p.2⟩::((cN z ss p.2).take i).map fun ks=>⟨("begin",p.1),n,ks⟩))
    ⟨⟨_,rfl⟩,ab.fj,hg3⟩ ?_ ?_ ?_⟩
   ·rintro i σ H4 _ ⟨_,s4,_⟩;exact SqL.of (s4 _ _ (by rw[hide_ne hqw];exact hws))
   ·rintro i x σ H4 hx ⟨⟨o,rfl⟩,s4,hg4⟩;obtain⟨ks,hki,l,rfl,hkl,hln⟩:=aT hpw i x hx;have hil:i<(cN z ss p.2).length:=(aab.mp hki).1;rw[cL] at hil;obtain⟨vs4,hv4,_⟩:=id hg4;have hlen4:=hg4.len hv4;rw[aau,aau,aaa,aal] at hlen4;have hlw:l≠wl:=fun e=>by rw[e,hv0'] at hln;cases hln
    have hkl4:aQ H4 l ks:=(hkl.hide hlw (s3 _ _ hv0')).mono s4;refine⟨_,rfl,.inl ⟨rfl,_,SqL.of hv4⟩,_,rfl,(show 2<=sizeLine by decide),fun kt hkt=>⟨_,rfl,_,rfl,(show 3<=sizeLine by decide),fun t ht=>?_⟩⟩;refine⟨wl,vs4,_,rfl,rfl,ab.upd ht _ _ (ab.upd hkt _ _ hv4),av (by omega),⟨_,rfl⟩,((s4.trans (ab.upd hkt)).trans (ab.upd ht)).bz (if_pos rfl),?_⟩;rw[aap,hki,aam,←List.cons_append,←List.cons_append];exact oJ hwl hg4 hv4 hkl4 hlw hkt ht
   ·rintro σ H4 ⟨⟨o,rfl⟩,_,hg4⟩;rw[Paired.length hpw,aas] at hg4;exact⟨⟨_,rfl⟩,hg4⟩
  clear hg;rintro σ H2 ⟨⟨o7,rfl⟩,hg⟩;generalize hY0:(⟨("whole",p.1),n,aL ss p.2⟩::⟨("empty",p.1),n,bK p.2⟩::(cN z ss p.2).map fun ks=>(⟨("begin",p.1),n,ks⟩:Rec))=Y0 at hg;have hY0l:Y0.length<=22:=by
   rw[←hY0,aau,aau,aaa,cL];omega
  have plen:∀i,((List.range i).flatMap (bH z ss n p)).length<=22*i:=fun i=>by
   induction i with
   |zero=>simp
   |succ i ih=>
    rw[List.range_succ,List.flatMap_append,aag];have:([i].flatMap (bH z ss n p)).length<=22:=by
     rw[List.flatMap_cons,List.flatMap_nil,List.append_nil];unfold bH;rw[aau,aau,aaa,cL,List.length_drop];omega
    omega
  refine⟨_,rfl,c,rfl,⟨_,SqL.of (fin0 hg).1⟩,gE (K:=K) (a:=c) (xs:=p.2.map V.str)
   (fun i σ H4=>(∃o1 o2 o3 o4 o5,σ=[some (.ref a),some (.int n),some (.str z),some (.ref qs),some (.str p.1),some (.ref c),some (.ref wl),o1,o2,o3,o4,o5])/\bh RecAt H0 wl H4 (Y0++(List.range i).flatMap (bH z ss n p)))
   ⟨⟨_,_,_,_,_,rfl⟩,by simpa using hg⟩ ?_ ?_ ?_⟩
  ·rintro i σ H4 _ ⟨_,hg⟩;exact SqL.of (fin0 hg).1
  ·clear hg;rintro i x t0 σ H4 hx ⟨⟨o1,o2,o3,o4,o5,rfl⟩,hg⟩ ht0;obtain⟨y,hy,rfl⟩:=aZ hx;have hil:i<p.2.length:=(aab.mp hy).1;have ey:p.2.getD i ""=y:=by rw[aat,hy];rfl
   have s1:=ab.upd (o:=HO.tup [.int i,.str y]) ht0;have hg1:=hg.on bA s1;refine⟨t0,_,rfl,SqT.of aa,rfl,_,_,rfl,_,_,rfl,rfl,?_⟩;generalize upd H4 t0 (.tup [.int i,.str y])=H5 at hg1;clear hg s1 ht0;have hY1l:(Y0++(List.range i).flatMap (bH z ss n p)).length<=22+22*i:=by
    rw[aag];have:=plen i;omega
   generalize hY1:Y0++(List.range i).flatMap (bH z ss n p)=Y1 at hg1 hY1l;refine⟨fun σ H6=>∃ah,σ=[some (.ref a),some (.int n),some (.str z),some (.ref qs),some (.str p.1),some (.ref c),some (.ref wl),o1,some (.int i),some (.str y),some (.ref ah),o5]/\bh RecAt H0 wl H6 Y1/\ah≠wl/\aQ (hide wl H6) ah (aL ss (p.2.take i)),?_,?_⟩
   ·refine⟨_,rfl,_,rfl,_,rfl,c,_,rfl,SqL.of (fin0 hg1).1,fun q1 hq1=>?_⟩;rw[oH];have s7:=ab.upd (o:=HO.lst ((p.2.take i).map V.str)) hq1;refine⟨_,rfl,q1,qs,p.2.take i,ss,rfl,aa,s7 _ _ (fin0 hg1).2,by rw[aal];omega,fun ah H8 s8 n8 hE=>?_⟩;have hg8:=hg1.on bA (s7.trans s8);obtain⟨vs1,hv1,_⟩:=id (hg1.on bA s7);have haw:ah≠wl:=fun e=>by rw[e,hv1] at n8;cases n8
    exact⟨ah,rfl,hg8,haw,hE.hide haw (s8 _ _ hv1)⟩
   clear hg1;rintro σ H6 ⟨ah,rfl,hg6,haw,hE6⟩;refine⟨fun σ H7=>∃re,σ=[some (.ref a),some (.int n),some (.str z),some (.ref qs),some (.str p.1),some (.ref c),some (.ref wl),o1,some (.int i),some (.str y),some (.ref ah),some (.ref re)]/\bh RecAt H0 wl H7 Y1/\aQ (hide wl H7) ah (aL ss (p.2.take i))/\hide wl H7 re=some (.lst ((p.2.drop (i+1)).map V.str)),?_,?_⟩
   ·refine⟨_,rfl,_,rfl,_,_,rfl,rfl,_,rfl,c,_,rfl,SqL.of (fin0 hg6).1,fun q1 hq1=>?_⟩;have ec:dw (p.2.map V.str) (some ((i:Int)+1)) none=(p.2.drop (i+1)).map V.str:=iM p.2 (i+1);rw[ec];have s7:=ab.upd (o:=HO.lst ((p.2.drop (i+1)).map V.str)) hq1;obtain⟨vs1,hv1,_⟩:=id hg6;have hqw:q1≠wl:=fun e=>by rw[e,hv1] at hq1;cases hq1
    exact⟨q1,rfl,hg6.on bA s7,hE6.mono s7.hide,by rw[hide_ne hqw];exact aa⟩
   clear hg6 hE6;rintro σ H7 ⟨re,rfl,hg7,hE7,hre7⟩;have tl:(p.2.take i).length=i:=by rw[aal];omega
   have dl:(p.2.drop (i+1)).length=p.2.length - (i+1):=List.length_drop ..;refine⟨fun σ H8=>σ=[some (.ref a),some (.int n),some (.str z),some (.ref qs),some (.str p.1),some (.ref c),some (.ref wl),o1,some (.int i),some (.str y),some (.ref ah),some (.ref re)]/\bh RecAt H0 wl H8 (Y1++[⟨("hold",p.1),n,aL ss (p.2.take i)++.inr ("hold",y)::aL ss (p.2.drop (i+1))⟩])/\ab (hide wl H7) H8,?_,?_⟩
   ·obtain⟨vs7,hv7,_⟩:=id hg7;have hvl:=hg7.len hv7;refine⟨_,rfl,.inl ⟨rfl,_,SqL.of hv7⟩,_,rfl,(show 2<=sizeLine by decide),fun kt hkt=>⟨_,rfl,?_⟩⟩;have s8:=ab.upd (o:=HO.tup [.str "hold",.str p.1]) hkt;refine lO (xs:=aL ss (p.2.take i)) rfl rfl ((hE7.mono ab.fj).mono s8) (by rw[ce,tl];omega) fun m H9 s9 n9 hM=>?_
    have s89:=s8.trans s9;refine⟨_,rfl,_,rfl,re,qs,p.2.drop (i+1),ss,rfl,s89 _ _ (ab.fj _ _ hre7),s89 _ _ (fin0 hg7).2,by rw[dl];omega,fun e2 H10 s10 n10 hW=>?_⟩;refine oK (hM.mono s10) hW (by rw[aag,ce,ce,tl,dl,aav];omega) fun q H11 s11 n11 hZ=>⟨(show 3<=sizeLine by decide),fun t ht=>?_⟩
    have sA:=(s89.trans s10).trans s11;have hgA:=hg7.on bA sA;have hvA:=sA _ _ hv7;have hqw:q≠wl:=fun e=>by rw[e,(s89.trans s10) _ _ hv7] at n11;cases n11
    refine⟨wl,vs7,_,rfl,rfl,ab.upd ht _ _ hvA,by rw[hvl];exact av (by omega),rfl,?_,?_⟩
    ·rw[gP (aL ss (p.2.take i))];exact jp hwl hgA hvA (((s9.trans s10).trans s11) _ _ aa) hZ hqw ht
    ·exact((ab.fj.trans sA).trans (ab.upd ht)).bz (if_pos rfl)
   rintro σ H8 ⟨rfl,hg8,s8⟩;have hE8:aQ H8 ah (aL ss (p.2.take i)):=hE7.mono s8;have hre8:H8 re=some (.lst ((p.2.drop (i+1)).map V.str)):=s8 _ _ hre7;refine⟨fun σ H9=>σ=[some (.ref a),some (.int n),some (.str z),some (.ref qs),some (.str p.1),some (.ref c),some (.ref wl),o1,some (.int i),some (.str y),some (.ref ah),some (.ref re)]/\bh RecAt H0 wl H9 (Y1++[⟨("hold",p.1),n,aL ss (p.2.take i)++.inr ("hold",y)::aL ss (p.2.drop (i+1))⟩,⟨("last",p.1),n,aL ss (p.2.take i)++.inr ("last",y)::bK (p.2.drop (i+1))⟩])/\ab (hide wl H7) H9,?_,?_⟩
   ·obtain⟨vs7,hv7,_⟩:=id hg8;have hvl:=hg8.len hv7;rw[aag,aav] at hvl;refine⟨_,rfl,.inl ⟨rfl,_,SqL.of hv7⟩,_,rfl,(show 2<=sizeLine by decide),fun kt hkt=>⟨_,rfl,?_⟩⟩;have s8':=ab.upd (o:=HO.tup [.str "last",.str p.1]) hkt;refine lO (xs:=aL ss (p.2.take i)) rfl rfl (hE8.mono s8') (by rw[ce,tl];omega) fun m H9 s9 n9 hM=>?_
    have s89:=s8'.trans s9;refine⟨_,rfl,re,p.2.drop (i+1),rfl,s89 _ _ hre8,by rw[dl];omega,fun e2 H10 s10 n10 hW=>?_⟩;refine oK (hM.mono s10) hW (by rw[aag,ce,d6,tl,dl,aav];omega) fun q H11 s11 n11 hZ=>⟨(show 3<=sizeLine by decide),fun t ht=>?_⟩
    have sA:=(s89.trans s10).trans s11;have hgA:=hg8.on bA sA;have hvA:=sA _ _ hv7;have hqw:q≠wl:=fun e=>by rw[e,(s89.trans s10) _ _ hv7] at n11;cases n11
    refine⟨wl,vs7,_,rfl,rfl,ab.upd ht _ _ hvA,by rw[hvl];exact av (by omega),rfl,?_,?_⟩
    ·rw[gP (aL ss (p.2.take i)) (Sum.inr ("last",y)),gP Y1 _ [_]];exact jp hwl hgA hvA (((s9.trans s10).trans s11) _ _ aa) hZ hqw ht
    ·exact((s8.trans sA).trans (ab.upd ht)).bz (if_pos rfl)
   clear hg8 s8 hE8 hre8;rintro σ H9 ⟨rfl,hg9,s9⟩;have hre9:H9 re=some (.lst ((p.2.drop (i+1)).map V.str)):=s9 _ _ hre7;generalize hY2:Y1++[(⟨("hold",p.1),n,aL ss (p.2.take i)++.inr ("hold",y)::aL ss (p.2.drop (i+1))⟩:Rec),⟨("last",p.1),n,aL ss (p.2.take i)++.inr ("last",y)::bK (p.2.drop (i+1))⟩]=Y2 at hg9;have hY2l:Y2.length<=24+22*i:=by
    rw[←hY2,aag];simp only[aau,List.length_nil];omega
   refine⟨_,rfl,_,rfl,_,rfl,re,qs,z,p.2.drop (i+1),ss,rfl,hre9,(fin0 hg9).2,by rw[dl];omega,fun q HB sB nB hW=>?_⟩;obtain⟨ws,hws,hpw⟩:=id hW;have hgB:=hg9.on bA sB;obtain⟨vs9,hv9,_⟩:=id hg9;have hqw:q≠wl:=fun e=>by rw[e,hv9] at nB;cases nB
   have ekeys:∀(m:Nat),((cN z ss (p.2.drop (i+1))).take m).length<=20:=fun m=>by
    rw[aal,cL,dl];omega
   refine⟨q,rfl,⟨_,SqL.of hws⟩,aM (K:=K) (a:=q) (xs:=ws)
    (fun m σ H4=>(∃o,σ=[some (.ref a),some (.int n),some (.str z),some (.ref qs),some (.str p.1),some (.ref c),some (.ref wl),o,some (.int i),some (.str y),some (.ref ah),some (.ref re)])/\ab (hide wl HB) H4/\
     bh RecAt H0 wl H4 (Y2++((cN z ss (p.2.drop (i+1))).take m).map fun ks=>⟨("hold",p.1),n,aL ss (p.2.take i)++.inr ("last",y)::ks⟩))
    ⟨⟨_,rfl⟩,ab.fj,by simpa using hgB⟩ ?_ ?_ ?_⟩
   ·rintro m σ H4 _ ⟨_,s4,_⟩;exact SqL.of (s4 _ _ (by rw[hide_ne hqw];exact hws))
   ·rintro m x σ H4 hx ⟨⟨o,rfl⟩,s4,hg4⟩;obtain⟨ks,hki,l,rfl,hkl,hln⟩:=aT hpw m x hx;have hksl:ks.length<=20:=by
     unfold cN at hki;rw[aax] at hki;cases hq:(List.range (p.2.drop (i+1)).length)[m]? with
     |none=>rw[hq] at hki;cases hki
     |some j=>
      rw[hq] at hki;have hki:some (iP z ss (p.2.drop (i+1)) j)=some ks:=hki;injection hki with hki;have hj:j<(p.2.drop (i+1)).length:=List.mem_range.mp (aah hq);rw[←hki,oI hj,dl];omega
    obtain⟨vs4,hv4,_⟩:=id hg4;have hlen4:=hg4.len hv4;rw[aag,aaa] at hlen4;have:=ekeys m;have hlw:l≠wl:=fun e=>by rw[e,hv9] at hln;cases hln
    have hkl4:aQ H4 l ks:=(hkl.hide hlw (sB _ _ hv9)).mono s4;have hE4:aQ H4 ah (aL ss (p.2.take i)):=by
     have h1:aQ H9 ah (aL ss (p.2.take i)):=hE7.mono s9;exact((h1.mono sB).hide haw (sB _ _ hv9)).mono s4
    refine⟨_,rfl,.inl ⟨rfl,_,SqL.of hv4⟩,_,rfl,(show 2<=sizeLine by decide),fun kt hkt=>⟨_,rfl,?_⟩⟩;have s8':=ab.upd (o:=HO.tup [.str "hold",.str p.1]) hkt;refine lO (xs:=aL ss (p.2.take i)) rfl rfl (hE4.mono s8') (by rw[ce,tl];omega) fun mm H10 s10 n10 hM=>⟨_,rfl,?_⟩
    refine oK hM ((hkl4.mono s8').mono s10) (by rw[aag,ce,tl,aav];omega) fun q5 H11 s11 n11 hZ=>⟨(show 3<=sizeLine by decide),fun t ht=>?_⟩
    have sA:=(s8'.trans s10).trans s11;have hgA:=hg4.on bA sA;have hvA:=sA _ _ hv4;have hq5w:q5≠wl:=fun e=>by rw[e,(s8'.trans s10) _ _ hv4] at n11;cases n11
    refine⟨wl,vs4,_,rfl,rfl,ab.upd ht _ _ hvA,by rw[hlen4];exact av (by omega),⟨_,rfl⟩,((s4.trans sA).trans (ab.upd ht)).bz (if_pos rfl),?_⟩;rw[aap,hki,aam,←List.append_assoc];show bh RecAt H0 wl _ (_++[⟨("hold",p.1),n,aL ss (p.2.take i)++.inr ("last",y)::ks⟩]);rw[gP (aL ss (p.2.take i)) (Sum.inr ("last",y))];exact jp hwl hgA hvA ((s10.trans s11) _ _ aa) hZ hq5w ht
   ·rintro σ H4 ⟨⟨o,rfl⟩,_,hg4⟩;rw[Paired.length hpw,aas] at hg4;refine⟨⟨_,_,_,_,_,rfl⟩,?_⟩;have e:Y0++(List.range (i+1)).flatMap (bH z ss n p)=Y2++(cN z ss (p.2.drop (i+1))).map fun ks=>(⟨("hold",p.1),n,aL ss (p.2.take i)++.inr ("last",y)::ks⟩:Rec):=by
     rw[List.range_succ,List.flatMap_append,←List.append_assoc,hY1,←hY2,List.flatMap_cons,List.flatMap_nil,List.append_nil];unfold bH;rw[ey];simp
    rw[e];exact hg4
  ·rintro σ H4 ⟨⟨_,_,_,_,_,rfl⟩,hg4⟩;rw[aaa] at hg4;obtain⟨h1,h2⟩:=hg4.fin bA;refine⟨_,rfl,k wl _ (s0.trans h1) (s0.free hwl) ?_⟩;rw[hss];unfold cO;rw[hY0];exact h2
end
end Nw
namespace Nw
open PySem L2
open SL (aq srt)
abbrev Bst:=Str×Str->Option (Nat×Rec)
def bG(k:Str×Str):List Key:=[.inr k.1,.inr k.2]
theorem oM{a b:Str×Str}(h:bG a=bG b):a=b:=by
 unfold bG at h;injection h with h1 h2;injection h1 with h1;injection h2 with h2 _;injection h2 with h2;exact Prod.ext h1 h2
structure bQ(H:Hp)(d:Addr)(ks:List (Str×Str))(g:Bst):Prop where
 ex:∃kvs,H d=some (.dT kvs)/\kvs.map (·.1)=ks.map bG/\∀k,match g k with
  |some (c,r)=>∃t v,bc kvs (bG k)=some (.ref t)/\H t=some (.tup [.int (c:Nat),v])/\RecAt H v r
  |none=>bc kvs (bG k)=none
 mem:∀k,k∈ks↔∃c r,g k=some (c,r)
theorem bQ.mono{H H':Hp}{d:Addr}{ks:List (Str×Str)}{g:Bst}(h:bQ H d ks g)(s:ab H H'):bQ H' d ks g:=by
 obtain⟨⟨kvs,h1,h2,h3⟩,h4⟩:=h;refine⟨⟨kvs,s _ _ h1,h2,fun k=>?_⟩,h4⟩;have:=h3 k;cases e:g k with
 |none=>rw[e] at this;exact this
 |some cr=>
  rw[e] at this;obtain⟨t,v,a,b,c⟩:=this;exact⟨t,v,a,s _ _ b,c.mono s⟩
theorem bQ.get{H:Hp}{d b:Addr}{ks:List (Str×Str)}{g:Bst}(h:bQ H d ks g){k:Str×Str}(hb:H b=some (.tup [.str k.1,.str k.2])) :
  (∃c r t v,g k=some (c,r)/\bP H d (.ref b) (some (.ref t))/\H t=some (.tup [.int (c:Nat),v])/\RecAt H v r)\/(g k=none/\bP H d (.ref b) none):=by
 obtain⟨⟨kvs,h1,h2,h3⟩,_⟩:=h;have h:=h3 k;cases e:g k with
 |none=>
  rw[e] at h;refine .inr ⟨rfl,?_⟩;have h:bc kvs (bG k)=none:=h;rw[←h];exact bP.t h1 hb
 |some cr=>
  obtain⟨c,r⟩:=cr;rw[e] at h;obtain⟨t,v,a,b',c'⟩:=h;refine .inl ⟨c,r,t,v,rfl,?_,b',c'⟩;rw[←a];exact bP.t h1 hb
def aS(g:Bst):List Kx->Option Nat
 |[]=>some 0
 |.inl _::r=>(aS g r).map (1 + ·)
 |.inr p::r=>(g p).bind fun cr=>(aS g r).map (cr.1 + ·)
theorem eZ(g:Bst):∀a b,aS g (a++b)=(aS g a).bind fun x=>(aS g b).map (x + ·)
 |[],b=>by
  show aS g b=(aS g b).map (0 + ·);cases aS g b <;> simp
 |.inl w::a,b=>by
  show(aS g (a++b)).map (1 + ·)=((aS g a).map (1 + ·)).bind _;rw[eZ g a b];cases aS g a with
  |none=>rfl
  |some x=>cases aS g b <;> simp[Nat.add_assoc]
 |.inr p::a,b=>by
  show((g p).bind fun cr=>(aS g (a++b)).map (cr.1 + ·))=((g p).bind fun cr=>(aS g a).map (cr.1 + ·)).bind _;rw[eZ g a b];cases g p with
  |none=>rfl
  |some cr=>
   cases aS g a with
   |none=>rfl
   |some x=>cases aS g b <;> simp[Nat.add_assoc]
theorem qN{g:Bst}{l:List Kx}{i:Nat}{k:Kx}(hk:l[i]? =some k)(h:aS g (l.take i++[k])=none):aS g l=none:=by
 have e:l=(l.take i++[k])++l.drop (i+1):=by
  have hi:=(aab.mp hk);have:l.take (i+1)=l.take i++[k]:=by rw[aap,hk];rfl
  rw[←this,List.take_append_drop]
 rw[e,eZ,h];rfl
abbrev uU:Stmt:=top 30
theorem k7:aD ["keys","best","cost","key"] ["keys","best"] (au uU):=⟨rfl,rfl,rfl,by decide +kernel,rfl,by decide +kernel,by decide +kernel⟩
def zi:Option Nat->V
 |some c=>.int (c:Nat)
 |none=>.non
def qO:Sp:=fun vs H Q _=>∃(l d:Addr) (ks:List Kx) (kk:List (Str×Str)) (g:Bst),vs=[.ref l,.ref d]/\aQ H l ks/\bQ H d kk g/\Q (zi (aS g ks)) H
section
variable {P:Program}{w:World}{K:PySem.W.Frag}{mg:Str->Option Value}{base:Heap}
theorem yt:PySem.W.kitOne K (.type "str") (.type "tuple")=some false:=by rfl
theorem yu{f:Addr}{fd:FuncData}(F:Fun K "cost_of_keys" "cost_of_keys" uU f fd)(T:Txt mg):a0 P w K mg base CX0 1 f fd ["keys","best"] qO:=by
 refine F.ok k7 (fun vs H Q E h=>?_) (fun cdv A outer s H vs Q E hr h=>?_)
 ·obtain⟨l,d,ks,kk,g,rfl,_⟩:=h;rfl
 ·obtain⟨l,d,ks,kk,g,rfl,hK,hB,k⟩:=h;have hu:=cv hr;refine⟨_,af (ao (i:=2) k7.nd rfl (Or.inl rfl) az)
   (af (aO PassesOwn.never rfl (aB (pv 0)) (ap (i:=3) k7.nd rfl (Or.inl rfl))
    (ai (bi (gw (ci (aC cx (by rfl) T.isi boot_isinstance (ag (pv 3) (ag (cB (v:=.ty "tuple") (by rfl) T.tup d3 rfl) ac)))))
     (ai (ao (i:=2) k7.nd rfl (Or.inl rfl) (bv eE (pv 2) az)))
     (ai (bi (fM (hG hu (pv 3) (pv 1)))
      (ai (ao (i:=2) k7.nd rfl (Or.inl rfl) (bv eE (pv 2) (aE aU (bI hu (pv 1) (pv 3) (fun _ _=>rfl)) az (fun _ _=>rfl)))))
      (ai (aI e7)))))))
   (ai (aI (pv 2)))),?_⟩
  obtain⟨us,hus,hp⟩:=id hK;refine⟨_,rfl,l,rfl,⟨_,SqL.of hus⟩,aM (K:=K) (a:=l) (xs:=us)
   (fun i σ H4=>H4=H/\∃c o,aS g (ks.take i)=some c/\σ=[some (.ref l),some (.ref d),some (.int (c:Nat)),o]) ⟨rfl,0,_,rfl,rfl⟩ ?_ ?_ ?_⟩
  ·rintro i σ H4 _ ⟨rfl,_⟩;exact SqL.of hus
  ·rintro i x σ H4 hx ⟨rfl,c,o,hc,rfl⟩;obtain⟨kx,hki,hkx⟩:=aT hp i x hx;have et:ks.take (i+1)=ks.take i++[kx]:=by rw[aap,hki];rfl
   cases kx with
   |inl w=>
    have hkx:x=.str w:=hkx;subst hkx;refine⟨_,rfl,_,_,_,_,rfl,.str _,yt,_,rfl,?_⟩;refine a9 ⟨_,rfl,_,_,rfl,rfl,rfl,c+1,_,?_,rfl⟩;rw[et,eZ,hc];rfl
   |inr p=>
    obtain⟨t,rfl,ht⟩:=hkx;refine⟨_,rfl,_,_,_,_,rfl,.tup ht,om,_,rfl,?_⟩;refine aJ ?_;rcases hB.get ht with ⟨cc,r,tt,v,hg,hd,htt,_⟩|⟨hg,hd⟩
    ·refine⟨_,rfl,_,rfl,d,_,rfl,hd,_,rfl,a9 ⟨_,rfl,_,rfl,_,rfl,d,_,rfl,hd,tt,_,0,_,rfl,rfl,SqT.of htt,aA (j:=0) rfl,_,_,rfl,rfl,rfl,c+cc,some (.ref t),?_,?_⟩⟩
     ·rw[et,eZ,hc];simp[aS,hg]
     ·show [_,_,some (V.int ((c:Int)+(cc:Int))),_]=_;push_cast;rfl
    ·refine⟨_,rfl,_,rfl,d,_,rfl,hd,_,rfl,aJ ?_⟩;have hn:aS g ks=none:=qN hki (by
      rw[eZ,hc];simp[aS,hg])
     rw[hn] at k;exact k
  ·rintro σ H4 ⟨rfl,c,o,hc,rfl⟩;have hl:us.length=ks.length:=Paired.length hp;rw[hl,aas] at hc;rw[hc] at k;exact⟨_,rfl,k⟩
end
end Nw
namespace Nw
open PySem L2
open SL (aq srt)
def setB(g:Bst)(k:Str×Str)(v:Nat×Rec):Bst:=fun j=>if j=k then some v else g j
theorem dB(g:Bst)(k:Str×Str)(v:Nat×Rec):setB g k v k=some v:=if_pos rfl
theorem dP{g:Bst}{k j:Str×Str}{v:Nat×Rec}(h:j≠k):setB g k v j=g j:=if_neg h
def LeB(g g':Bst):Prop:=∀k c r,g k=some (c,r)->∃c' r',g' k=some (c',r')/\c'<=c
theorem iQ{g g':Bst}(h:LeB g g'):∀{l:List Kx} {c:Nat},aS g l=some c->∃c',aS g' l=some c'/\c'<=c
 |[],c,e=>⟨0,rfl,Nat.zero_le _⟩
 |.inl w::l,c,e=>by
  have e:(aS g l).map (1 + ·)=some c:=e;cases q:aS g l with
  |none=>rw[q] at e;cases e
  |some x=>
   rw[q] at e;have e:some (1+x)=some c:=e;injection e with e;obtain⟨x',e',l'⟩:=iQ h q;exact⟨1+x',by show(aS g' l).map (1 + ·)=_;rw[e'];rfl,by omega⟩
 |.inr p::l,c,e=>by
  have e:((g p).bind fun cr=>(aS g l).map (cr.1 + ·))=some c:=e;cases qp:g p with
  |none=>rw[qp] at e;cases e
  |some cr=>
   obtain⟨y,r⟩:=cr;rw[qp] at e;cases q:aS g l with
   |none=>rw[q] at e;cases e
   |some x=>
    rw[q] at e;have e:some (y+x)=some c:=e;injection e with e;obtain⟨x',e',l'⟩:=iQ h q;obtain⟨y',r',ey,ly⟩:=h p y r qp;exact⟨y'+x',by show((g' p).bind fun cr=>(aS g' l).map (cr.1 + ·))=_;rw[ey,e'];rfl,by omega⟩
theorem gZ{g:Bst}{B:Nat}(hB:1<=B)(h:∀k c r,g k=some (c,r)->c<=B):∀{l:List Kx} {c:Nat},aS g l=some c->c<=l.length*B
 |[],c,e=>by
  have e:some 0=some c:=e;injection e with e;omega
 |.inl w::l,c,e=>by
  have e:(aS g l).map (1 + ·)=some c:=e;cases q:aS g l with
  |none=>rw[q] at e;cases e
  |some x=>
   rw[q] at e;have e:some (1+x)=some c:=e;injection e with e;have:=gZ hB h q;rw[aau,Nat.succ_mul];omega
 |.inr p::l,c,e=>by
  have e:((g p).bind fun cr=>(aS g l).map (cr.1 + ·))=some c:=e;cases qp:g p with
  |none=>rw[qp] at e;cases e
  |some cr=>
   obtain⟨y,r⟩:=cr;rw[qp] at e;cases q:aS g l with
   |none=>rw[q] at e;cases e
   |some x=>
    rw[q] at e;have e:some (y+x)=some c:=e;injection e with e;have:=gZ hB h q;have:=h p y r qp;rw[aau,Nat.succ_mul];omega
def fD(M π:Nat):Nat->Nat
 |0=>1
 |n+1=>fD M π n+(M*fD M π n + π)
theorem oN(M π:Nat):∀n,1<=fD M π n
 |0=>Nat.le_refl _
 |n+1=>Nat.le_trans (oN M π n) (Nat.le_add_right _ _)
theorem mn(M π:Nat):∀{m n:Nat},m<=n->fD M π m<=fD M π n:=by
 intro m n h
 induction h with
 |refl=>exact Nat.le_refl _
 |step _ ih=>exact Nat.le_trans ih (Nat.le_add_right _ _)
def fm(g:Bst)(ks:List (Str×Str)):Nat:=(ks.map fun k=>((g k).map (·.1)).getD 0).sum
theorem sO(g:Bst)(ks:List (Str×Str))(k:Str×Str):fm g (ks++[k])=fm g ks+((g k).map (·.1)).getD 0:=by
 unfold fm;rw[aam,List.sum_append];simp
theorem k8{g g':Bst}{ks:List (Str×Str)}(h:∀k∈ks,g k=g' k):fm g ks=fm g' ks:=by
 unfold fm;rw[List.map_congr_left fun k hk=>by rw[h k hk]]
theorem oO{g:Bst}{k:Str×Str}{c c':Nat}{r r':Rec}(hg:g k=some (c,r)):∀{ks:List (Str×Str)},ks.Nodup->k∈ks->fm (setB g k (c',r')) ks+c=fm g ks+c'
 |[],_,hk=>by cases hk
 |j::ks,nd,hk=>by
  have nd':=List.nodup_cons.mp nd;show((setB g k (c',r') j).map (·.1)).getD 0+fm (setB g k (c',r')) ks+c=((g j).map (·.1)).getD 0+fm g ks+c'
  by_cases q:j=k
  ·subst q;have e:fm (setB g j (c',r')) ks=fm g ks:=k8 fun x hx=>dP (fun z=>nd'.1 (z▸hx))
   rw[dB,hg,e];show c'+_+c=c+_+c';omega
  ·have hk':k∈ks:=by
    rcases List.mem_cons.mp hk with z|z
    ·exact absurd z.symm q
    ·exact z
   have:=oO (c':=c') (r':=r') hg nd'.2 hk';rw[dP q];omega
structure io(π:Nat)(RS:List Rec)(g:Bst):Prop where
 own:∀k c r,g k=some (c,r)->r∈RS/\r.key=k/\∃cc,aS g r.keys=some cc/\cc + π<=c
theorem io.set{π:Nat}{RS:List Rec}{g:Bst}(h:io π RS g){r:Rec}(hr:r∈RS){cc:Nat}(hc:aS g r.keys=some cc)(hl:LeB g (setB g r.key (cc + π,r))):io π RS (setB g r.key (cc + π,r)):=by
 refine⟨fun k c r' e=>?_⟩
 by_cases q:k=r.key
 ·rw[q,dB] at e;injection e with e;injection e with e1 e2;subst e2;obtain⟨c',h1,h2⟩:=iQ hl hc;exact⟨hr,q.symm,c',h1,by omega⟩
 ·rw[dP q] at e;obtain⟨a,b,c1,h1,h2⟩:=h.own k c r' e;obtain⟨c',h3,h4⟩:=iQ hl h1;exact⟨a,b,c',h3,by omega⟩
def cP(π:Nat)(RS:List Rec)(g:Bst):Prop:=∀r∈RS,∀cc,aS g r.keys=some cc->∃c r',g r.key=some (c,r')/\c<=cc + π
structure gG(π M N:Nat)(RS:List Rec)(ks:List (Str×Str))(g:Bst):Prop where
 nd:ks.Nodup
 len:ks.length<=N
 ok:io π RS g
 cap:∀k c r,g k=some (c,r)->c<=fD M π ks.length
def phi(π M N:Nat)(ks:List (Str×Str))(g:Bst):Nat:=fm g ks+(N - ks.length)*(fD M π N+1)
section
variable {π M N:Nat}{RS:List Rec}{ks:List (Str×Str)}{g:Bst}{r:Rec}{cc:Nat}{H:Hp}{d:Addr}
theorem gG.new{KS:List (Str×Str)}(I:gG π M N RS ks g)(hN:KS.length=N)(hKS:∀r∈RS,r.key∈KS)(hm:∀k,k∈ks↔∃c r,g k=some (c,r))(hr:r∈RS)(hM:r.keys.length<=M)(hc:aS g r.keys=some cc)(hn:g r.key=none) :
  gG π M N RS (ks++[r.key]) (setB g r.key (cc + π,r))/\phi π M N (ks++[r.key]) (setB g r.key (cc + π,r))<phi π M N ks g/\LeB g (setB g r.key (cc + π,r)):=by
 have hnk:¬r.key∈ks:=fun z=>by
  obtain⟨c,r',e⟩:=(hm _).mp z;rw[hn] at e;cases e
 have nd':(ks++[r.key]).Nodup:=dL I.nd hnk;have hl:LeB g (setB g r.key (cc + π,r)):=fun k c r' e=>⟨c,r',by rw[dP (fun z=>by rw[z,hn] at e;cases e)];exact e,Nat.le_refl _⟩
 have hsub:∀k∈ks++[r.key],k∈KS:=fun k hk=>by
  rcases aak.mp hk with hk|hk
  ·obtain⟨c,r',e⟩:=(hm k).mp hk;obtain⟨a,b,_⟩:=I.ok.own k c r' e;rw[←b];exact hKS r' a
  ·rw[aaj.mp hk];exact hKS r hr
 have hlen:ks.length+1<=N:=by
  have:=Gram.bT nd' hsub;rw[aag,aav] at this;omega
 have hcc:=gZ (oN M π ks.length) I.cap hc;have hcc':cc<=M*fD M π ks.length:=Nat.le_trans hcc (Nat.mul_le_mul_right _ hM);have e1:fD M π (ks.length+1)=fD M π ks.length+(M*fD M π ks.length + π):=rfl;have hcap:cc + π<=fD M π (ks.length+1):=by rw[e1];omega
 refine⟨⟨nd',by rw[aag,aav];exact hlen,I.ok.set hr hc hl,fun k c r' e=>?_⟩,?_,hl⟩
 ·rw[aag,aav]
  by_cases q:k=r.key
  ·rw[q,dB] at e;injection e with e;injection e with e _;omega
  ·rw[dP q] at e;exact Nat.le_trans (I.cap k c r' e) (mn M π (Nat.le_succ _))
 ·unfold phi;rw[sO,aag,aav,dB,k8 (g:=setB g r.key (cc + π,r)) (g':=g) fun k hk=>dP (fun z=>hnk (z▸hk))];have hb:cc + π<=fD M π N:=Nat.le_trans hcap (mn M π hlen);have e2:N - ks.length=(N - (ks.length+1))+1:=by omega
  rw[e2,Nat.succ_mul];show fm g ks+(cc + π)+_<_;omega
theorem gG.wX{c:Nat}{r0:Rec}(I:gG π M N RS ks g)(hm:∀k,k∈ks↔∃c r,g k=some (c,r))(hr:r∈RS)(hc:aS g r.keys=some cc)(hg:g r.key=some (c,r0))(hlt:cc + π < c) :
  gG π M N RS ks (setB g r.key (cc + π,r))/\phi π M N ks (setB g r.key (cc + π,r))<phi π M N ks g/\LeB g (setB g r.key (cc + π,r)):=by
 have hl:LeB g (setB g r.key (cc + π,r)):=fun k c' r' e=>by
  by_cases q:k=r.key
  ·rw[q,hg] at e;injection e with e;injection e with e _;exact⟨cc + π,r,by rw[q];exact dB _ _ _,by omega⟩
  ·exact⟨c',r',by rw[dP q];exact e,Nat.le_refl _⟩
 refine⟨⟨I.nd,I.len,I.ok.set hr hc hl,fun k c' r' e=>?_⟩,?_,hl⟩
 ·by_cases q:k=r.key
  ·rw[q,dB] at e;injection e with e;injection e with e _;have:=I.cap r.key c r0 hg;omega
  ·rw[dP q] at e;exact I.cap k c' r' e
 ·unfold phi;have:=oO (c':=cc + π) (r':=r) hg I.nd ((hm _).mpr ⟨c,r0,hg⟩);omega
theorem bQ.put{kvs:List (List Key×V)}{b t:Addr}{v:V}{k:Str×Str}{c:Nat}(hB:bQ H d ks g)(hd:H d=some (.dT kvs))(ht:H t=some (.tup [.int (c:Nat),v]))(hr:RecAt H v r)(ks':List (Str×Str))
  (hks:(g k=none/\ks'=ks++[k])\/(g k≠none/\ks'=ks)):bQ (upd H d (.dT (putK kvs (bG k) (.ref t)))) d ks' (setB g k (c,r)):=by
 obtain⟨⟨kvs',h1,h2,h3⟩,h4⟩:=hB;rw[hd] at h1;cases h1;have kp:∀b xs,H b=some (.tup xs)->upd H d (.dT (putK kvs (bG k) (.ref t))) b=some (.tup xs):=fun b xs z=>by
  rw[am (fun q=>by rw[q,hd] at z;cases z)];exact z
 have kl:∀b xs,H b=some (.lst xs)->upd H d (.dT (putK kvs (bG k) (.ref t))) b=some (.lst xs):=fun b xs z=>by
  rw[am (fun q=>by rw[q,hd] at z;cases z)];exact z
 have kr:∀{v:V} {r:Rec},RecAt H v r->RecAt (upd H d (.dT (putK kvs (bG k) (.ref t)))) v r:=fun⟨a,b,l,e1,e2,e3,vs,e4,e5⟩=>⟨a,b,l,e1,kp _ _ e2,kp _ _ e3,vs,kl _ _ e4,Paired.bJ e5 fun _ _ z=>z.keep kp⟩
 have vk:(bc kvs (bG k)).isSome=(g k).isSome:=by
  have:=h3 k;cases e:g k with
  |none=>rw[e] at this;rw[show bc kvs (bG k)=none from this];rfl
  |some cr=>
   rw[e] at this;obtain⟨a,b,e1,_⟩:=this;rw[e1];rfl
 refine⟨⟨_,aa,?_,fun j=>?_⟩,fun j=>?_⟩
 ·unfold putK;rw[dX,vk];rcases hks with ⟨e,rfl⟩|⟨e,rfl⟩
  ·rw[e,if_neg (by decide),aam,aam,h2];rfl
  ·have:(g k).isSome=true:=by
    cases q:g k with
    |none=>exact absurd q e
    |some _=>rfl
   rw[this,if_pos rfl,List.map_map,←h2];refine List.map_congr_left fun kv _=>?_
   show(if kv.1=bG k then (kv.1,V.ref t) else kv).1=kv.1;split <;> rfl
 ·rw[ni]
  by_cases q:j=k
  ·rw[q,dB,if_pos rfl];exact⟨t,v,rfl,kp _ _ ht,kr hr⟩
  ·rw[dP q,if_neg (fun z=>q (oM z))];have:=h3 j;cases e:g j with
   |none=>rw[e] at this;exact this
   |some cr=>
    rw[e] at this;obtain⟨a,b,e1,e2,e3⟩:=this;exact⟨a,b,e1,kp _ _ e2,kr e3⟩
 ·by_cases q:j=k
  ·rw[q,dB];refine⟨fun _=>⟨_,_,rfl⟩,fun _=>?_⟩;rcases hks with ⟨e,rfl⟩|⟨e,rfl⟩
   ·exact aar _ (aaj.mpr rfl)
   ·refine(h4 k).mpr ?_;cases z:g k with
    |none=>exact absurd z e
    |some cr=>exact⟨cr.1,cr.2,rfl⟩
  ·rw[dP q];rcases hks with ⟨e,rfl⟩|⟨e,rfl⟩
   ·rw[aak,aaj,←h4 j];exact⟨fun z=>z.elim id fun z=>absurd z q,.inl⟩
   ·exact h4 j
end
end Nw
namespace Nw
open PySem L2
open SL (aq srt)
abbrev uV:Stmt:=top 29
theorem iR:aD ["recipes","price","best","grown","recipe","cost"] ["recipes","price"] (au uV):=⟨rfl,rfl,rfl,by decide +kernel,rfl,by decide +kernel,by decide +kernel⟩
def qP:Sp:=fun vs H Q _=>∃(a:Addr) (π M:Nat) (RS:List Rec) (KS:List (Str×Str)),vs=[.ref a,.int (π:Nat)]/\kZ H a RS/\(∀r∈RS,r.keys.length<=M)/\(∀r∈RS,r.key∈KS)/\KS.length<64/\
 ∀d ks g H',ab H H'->H d=none->bQ H' d ks g->ks.Nodup->ks.length<64->io π RS g->cP π RS g->Q (.ref d) H'
theorem sP{H:Hp}{d:Addr}:bQ (upd H d (.dT [])) d [] (fun _=>none):=⟨⟨[],aa,rfl,fun _=>rfl⟩,fun k=>⟨fun h=>(by cases h),fun⟨_,_,h⟩=>(by cases h)⟩⟩
def pO(π:Nat)(g:Bst)(r:Rec):Prop:=∀cc,aS g r.keys=some cc->∃c r',g r.key=some (c,r')/\c<=cc + π
section
variable {P:Program}{w:World}{K:PySem.W.Frag}{mg:Str->Option Value}{base:Heap}
theorem yw{f:Addr}{fd:FuncData}(F:Fun K "cheapest_recipes" "cheapest_recipes" uV f fd)(D1:Def P w K mg base "cost_of_keys" 1 ["keys","best"] qO):a0 P w K mg base CX0 2 f fd ["recipes","price"] qP:=by
 refine F.ok iR (fun vs H Q E h=>?_) (fun cdv A outer s H vs Q E hr h=>?_)
 ·obtain⟨a,π,M,RS,KS,rfl,_⟩:=h;rfl
 ·obtain⟨a,π,M,RS,KS,rfl,hRS,hM,hKS,hKl,k⟩:=h;have hu:=cv hr;refine⟨_,af (ao (i:=2) iR.nd rfl (Or.inl rfl) j5)
   (af (ao (i:=3) iR.nd rfl (Or.inl rfl) dC)
   (af (dU PassesOwn.never (ci (pv 3))
    (af (ao (i:=3) iR.nd rfl (Or.inl rfl) dC)
    (ai (aO PassesOwn.never rfl (aB (pv 0)) (ap (i:=4) iR.nd rfl (Or.inl rfl))
     (af (ao (i:=5) iR.nd rfl (Or.inl rfl) (aw D1 hr (by rfl) (ag (aE aU (pv 4) az (fun _ _=>rfl)) (ag (pv 2) ac))))
     (ai (bi (PW.pt (g7 (aK lj (pv 5) e7 (bB _)) (gm (PW.pt (iw (fM (i4 hu (aE aU (pv 4) az (fun _ _=>rfl)) (pv 2)))
       (iY (aK pX (bv eE (pv 5) (pv 1)) (aE aU (bI hu (pv 2) (aE aU (pv 4) az (fun _ _=>rfl)) (fun _ _=>rfl)) az (fun _ _=>rfl)) (bB _))))))))
      (af (da hu (pv 2) (aE aU (pv 4) az (fun _ _=>rfl)) (aP (ag (bv eE (pv 5) (pv 1)) (ag (pv 4) ac))) rfl)
      (ai (ao (i:=3) iR.nd rfl (Or.inl rfl) dC)))
      aY)))))))
   (ai (aI (pv 2))))),?_⟩
  intro d hd;obtain⟨vs,hvs,hp⟩:=id hRS;have hlen:vs.length=RS.length:=Paired.length hp;refine⟨fun m σ H2=>∃ks g gr o1 o2,σ=[some (.ref a),some (.int (π:Nat)),some (.ref d),some (.bl gr),o1,o2]/\ab H H2/\bQ H2 d ks g/\gG π M KS.length RS ks g/\(gr=false->cP π RS g)/\m=(if gr=true then 1+phi π M KS.length ks g else 0),
   ⟨_,[],fun _=>none,true,_,_,rfl,ab.upd hd,sP,⟨List.nodup_nil,Nat.zero_le _,⟨fun k c r h=>by cases h⟩,fun k c r h=>by cases h⟩,fun z=>(by cases z),rfl⟩,?_⟩
  rintro m σ H2 ⟨ks,g,gr,o1,o2,rfl,s2,hB,I,clo,rfl⟩;refine⟨_,rfl,_,rfl,?_⟩;cases gr with
  |false=>exact aJ ⟨_,rfl,k d ks g H2 s2 hd hB I.nd (Nat.lt_of_le_of_lt I.len hKl) I.ok (clo rfl)⟩
  |true=>
   refine a9 ⟨fun σ H3=>∃ks' g' gr o1 o2,σ=[some (.ref a),some (.int (π:Nat)),some (.ref d),some (.bl gr),o1,o2]/\ab H H3/\bQ H3 d ks' g'/\gG π M KS.length RS ks' g'/\(gr=false->cP π RS g')/\(gr=true->phi π M KS.length ks' g'<phi π M KS.length ks g),?_,?_⟩
   ·rintro σ' H3 ⟨ks',g',gr,p1,p2,rfl,q1,q2,q3,q4,q5⟩;refine⟨_,?_,ks',g',gr,p1,p2,rfl,q1,q2,q3,q4,rfl⟩;cases gr with
    |false=>simp only[if_true];rw[if_neg (by decide)];omega
    |true=>
     have:=q5 rfl;simp only[if_true];omega
   ·refine⟨_,rfl,a,rfl,⟨_,SqL.of (s2 _ _ hvs)⟩,aM (K:=K) (a:=a) (xs:=vs)
     (fun i σ H3=>∃ks' g' gr o1 o2,σ=[some (.ref a),some (.int (π:Nat)),some (.ref d),some (.bl gr),o1,o2]/\ab H H3/\bQ H3 d ks' g'/\gG π M KS.length RS ks' g'/\(gr=false->(g'=g/\ks'=ks)/\∀r∈RS.take i,pO π g r)/\(gr=true->phi π M KS.length ks' g'<phi π M KS.length ks g))
     ⟨ks,g,false,_,_,rfl,s2,hB,I,fun _=>⟨⟨rfl,rfl⟩,fun r hr=>by cases hr⟩,fun z=>(by cases z)⟩ ?_ ?_ ?_⟩
    ·rintro i σ H3 _ ⟨_,_,_,_,_,_,s3,_⟩;exact SqL.of (s3 _ _ hvs)
    ·rintro i x σ H3 hx ⟨ks1,g1,gr1,p1,p2,rfl,s3,hB3,I3,alt,inc⟩;obtain⟨r,hri,hr0⟩:=aT hp i x hx;have hrm:r∈RS:=aah hri;have hr3:RecAt H3 x r:=hr0.mono s3;obtain⟨t,kt,l,rfl,ht,hkt,hkl⟩:=id hr3;have tk:RS.take (i+1)=RS.take i++[r]:=by rw[aap,hri];rfl
     refine⟨_,rfl,t,_,2,_,rfl,rfl,SqT.of ht,aA (j:=2) rfl,_,rfl,l,d,r.keys,ks1,g1,rfl,hkl,hB3,?_⟩;refine⟨_,rfl,rfl,_,rfl,?_⟩;cases hc:aS g1 r.keys with
     |none=>
      refine aJ (aJ ⟨ks1,g1,gr1,_,_,rfl,s3,hB3,I3,fun z=>?_,inc⟩);refine⟨(alt z).1,fun r' hr'=>?_⟩;rw[tk] at hr';rcases aak.mp hr' with hr'|hr'
      ·exact(alt z).2 r' hr'
      ·rw[aaj.mp hr'];intro cc e;rw[←(alt z).1.1,hc] at e;cases e
     |some cc=>
      refine a9 ?_;have put:∀(ks':List (Str×Str)),((g1 r.key=none/\ks'=ks1++[r.key])\/(g1 r.key≠none/\ks'=ks1))->gG π M KS.length RS ks' (setB g1 r.key (cc + π,r))/\phi π M KS.length ks' (setB g1 r.key (cc + π,r))<phi π M KS.length ks1 g1/\LeB g1 (setB g1 r.key (cc + π,r))->
        ∀t',H3 t'=none->∃kvs,H3 d=some (.dT kvs)/\kvs.length<sizeLine/\∃ks' g' gr o1 o2,[some (V.ref a),some (.int (π:Nat)),some (.ref d),some (.bl true),some (.ref t),some (.int (cc:Nat))]=[some (.ref a),some (.int (π:Nat)),some (.ref d),some (.bl gr),o1,o2]/\
         ab H (upd (upd H3 t' (.tup [.int ((cc:Int)+(π:Int)),.ref t])) d (.dT (putK kvs (bG r.key) (.ref t'))))/\bQ (upd (upd H3 t' (.tup [.int ((cc:Int)+(π:Int)),.ref t])) d (.dT (putK kvs (bG r.key) (.ref t')))) d ks' g'/\gG π M KS.length RS ks' g'/\
         (gr=false->(g'=g/\ks'=ks)/\∀r∈RS.take (i+1),pO π g r)/\(gr=true->phi π M KS.length ks' g'<phi π M KS.length ks g):=by
       intro ks' hks ⟨hI',hphi,_⟩ t' ht';obtain⟨⟨kvs,hkv,hkk,_⟩,_⟩:=id hB3;have s4:=ab.upd (o:=HO.tup [.int ((cc:Int)+(π:Int)),.ref t]) ht';have hB4:=hB3.mono s4;have hlk:kvs.length=ks1.length:=by
        have:=congrArg List.length hkk;rw[aaa,aaa] at this;exact this
       refine⟨kvs,hkv,by rw[hlk];have:=I3.len;exact av (by omega),ks',_,true,_,_,rfl,(s3.trans s4).bz hd,bQ.put (b:=kt) (k:=r.key) (c:=cc + π) hB4 (s4 _ _ hkv) (by rw[aa];push_cast;rfl) (hr3.mono s4) ks' hks,hI',fun z=>(by cases z),fun _=>?_⟩;cases gr1 with
       |true=>exact Nat.lt_trans hphi (inc rfl)
       |false=>
        obtain⟨e1,e2⟩:=(alt rfl).1;rw[←e1,←e2];exact hphi
      refine⟨_,rfl,t,_,0,_,rfl,rfl,SqT.of ht,aA (j:=0) rfl,_,rfl,?_⟩;rcases hB3.get hkt with ⟨c0,r0,tt,v,hg,hdg,htt,_⟩|⟨hg,hdg⟩
      ·refine⟨d,_,rfl,hdg,_,rfl,aJ ?_⟩;refine⟨_,rfl,_,rfl,_,_,rfl,rfl,_,rfl,_,rfl,t,_,0,_,rfl,rfl,SqT.of ht,aA (j:=0) rfl,d,_,rfl,hdg,tt,_,0,_,rfl,rfl,SqT.of htt,aA (j:=0) rfl,_,_,rfl,rfl,_,rfl,?_⟩
       by_cases hlt:cc + π < c0
       ·have hd':decide (((cc:Int)+(π:Int))<(c0:Int))=true:=aan (by omega);refine(show if decide (((cc:Int)+(π:Int))<(c0:Int))=true then _ else _ from ?_);rw[hd'];refine a9 ⟨_,rfl,_,rfl,_,_,rfl,rfl,_,rfl,(show 2<=sizeLine by decide),fun t' ht'=>?_⟩;have s4:=ab.upd (o:=HO.tup [.int ((cc:Int)+(π:Int)),.ref t]) ht';obtain⟨kvs,hkv,hkl',rest⟩:=put ks1 (.inr ⟨by rw[hg];exact fun z=>(by cases z),rfl⟩) (I3.wX hB3.mem hrm hc hg hlt) t' ht';exact⟨_,rfl,_,rfl,t,_,0,_,rfl,rfl,SqT.of (s4 _ _ ht),aA (j:=0) rfl,d,_,rfl,dD.t (k:=bG r.key) (s4 _ _ hkv) (s4 _ _ hkt) hkl',rest⟩
       ·have hd':decide (((cc:Int)+(π:Int))<(c0:Int))=false:=aai (by omega);refine(show if decide (((cc:Int)+(π:Int))<(c0:Int))=true then _ else _ from ?_);rw[hd'];refine aJ ⟨ks1,g1,gr1,_,_,rfl,s3,hB3,I3,fun z=>?_,inc⟩;refine⟨(alt z).1,fun r' hr'=>?_⟩;rw[tk] at hr';rcases aak.mp hr' with hr'|hr'
        ·exact(alt z).2 r' hr'
        ·rw[aaj.mp hr'];intro cc' e;rw[←(alt z).1.1,hc] at e;injection e with e;exact⟨c0,r0,by rw[←(alt z).1.1];exact hg,by omega⟩
      ·refine⟨d,_,rfl,hdg,_,rfl,a9 (a9 ?_)⟩;refine⟨_,rfl,_,rfl,_,_,rfl,rfl,_,rfl,(show 2<=sizeLine by decide),fun t' ht'=>?_⟩;have s4:=ab.upd (o:=HO.tup [.int ((cc:Int)+(π:Int)),.ref t]) ht';obtain⟨kvs,hkv,hkl',rest⟩:=put (ks1++[r.key]) (.inl ⟨hg,rfl⟩) (I3.new rfl hKS hB3.mem hrm (hM r hrm) hc hg) t' ht';exact⟨_,rfl,_,rfl,t,_,0,_,rfl,rfl,SqT.of (s4 _ _ ht),aA (j:=0) rfl,d,_,rfl,dD.t (k:=bG r.key) (s4 _ _ hkv) (s4 _ _ hkt) hkl',rest⟩
    ·rintro σ H3 ⟨ks1,g1,gr1,p1,p2,rfl,s3,hB3,I3,alt,inc⟩;refine⟨ks1,g1,gr1,_,_,rfl,s3,hB3,I3,fun z=>?_,inc⟩;rw[hlen,aas] at alt;rw[(alt z).1.1];exact fun r hr=>(alt z).2 r hr
end
end Nw
namespace Nw
open PySem L2
open SL (aq srt)
theorem _root_.L2.df.same{T:Addr}{H H':Hp}(s:df T H H'):ab (Nw.hide T H) H':=fun b o e=>by
 by_cases q:b=T
 ·unfold Nw.hide at e;rw[if_pos q] at e;cases e
 ·rw[hide_ne q] at e;exact s b o q e
theorem _root_.L2.ab.zj{T:Addr}{H H':Hp}(s:ab H H'):df T H H':=fun b o _ e=>s b o e
theorem dg{H:Hp}{T:Addr}{ps:Array Value}(h:H T=some (.tbl ps)){b:Addr}{o:HO}(e:H b=some o)(ho:∀qs,o≠.tbl qs):hide T H b=some o:=by
 rw[hide_ne (fun z=>by rw[z,h] at e;exact ho ps (Option.some.inj e).symm)];exact e
theorem du.gQ{H:Hp}{T:Addr}{ps:Array Value}(h:H T=some (.tbl ps)){v:V}:∀{k:Kx},du H v k->du (hide T H) v k
 |.inl _,z=>z
 |.inr _,⟨t,a,b⟩=>⟨t,a,dg h b fun _ q=>by cases q⟩
theorem aQ.gQ{H:Hp}{T:Addr}{ps:Array Value}(h:H T=some (.tbl ps)){a:Addr}{ks:List Kx}(z:aQ H a ks):aQ (Nw.hide T H) a ks:=by
 obtain⟨vs,h1,h2⟩:=z;exact⟨vs,dg h h1 (fun _ q=>by cases q),Paired.bJ h2 fun _ _ y=>y.gQ h⟩
theorem RecAt.gQ{H:Hp}{T:Addr}{ps:Array Value}(h:H T=some (.tbl ps)){v:V}{r:Rec}(z:RecAt H v r):RecAt (Nw.hide T H) v r:=by
 obtain⟨t,kt,l,h1,h2,h3,h4⟩:=z;exact⟨t,kt,l,h1,dg h h2 (fun _ q=>by cases q),dg h h3 (fun _ q=>by cases q),h4.gQ h⟩
theorem bQ.gQ{H:Hp}{T:Addr}{ps:Array Value}(h:H T=some (.tbl ps)){d:Addr}{ks:List (Str×Str)}{g:Bst}(z:bQ H d ks g):bQ (Nw.hide T H) d ks g:=by
 obtain⟨⟨kvs,h1,h2,h3⟩,h4⟩:=z;refine⟨⟨kvs,dg h h1 fun _ q=>(by cases q),h2,fun k=>?_⟩,h4⟩;have:=h3 k;cases e:g k with
 |none=>rw[e] at this;exact this
 |some cr=>
  rw[e] at this;obtain⟨t,v,a,b,c⟩:=this;exact⟨t,v,a,dg h b fun _ q=>(by cases q),c.gQ h⟩
theorem bQ.onT{H H':Hp}{T:Addr}{pos:Pos}{q:Str}(h:cW T pos q H)(s:df T H H'){d:Addr}{ks:List (Str×Str)}{g:Bst}(z:bQ H d ks g):bQ H' d ks g:=by
 obtain⟨ps,h1,_⟩:=h;exact(z.gQ h1).mono s.same
theorem kh{H H':Hp}{T:Addr}{pos:Pos}{q:Str}(h:cW T pos q H)(s:df T H H'){a:Addr}{R:List Row}(z:a7 H a R):a7 H' a R:=by
 obtain⟨ps,h1,_⟩:=h;obtain⟨vs,e1,e2⟩:=z;refine⟨vs,s.same _ _ (dg h1 e1 fun _ q=>by cases q),Paired.bJ e2 fun _ _ y=>?_⟩;obtain⟨t,b,y1,y2,y3⟩:=y;exact⟨t,b,y1,s.same _ _ (dg h1 y2 fun _ q=>by cases q),s.same _ _ (dg h1 y3 fun _ q=>by cases q)⟩
section
variable {P:Program}{w:World}{K:PySem.W.Frag}{mg:Str->Option Value}{base:Heap}
theorem _root_.L2.Fun.okC{x qual:Str}{st:Stmt}{f c0:Addr}{fd:FuncData}{N ps:List Str}{k:Nat}{sp:Sp}(F:Fun K x qual st f fd)(hc:fd.code=.ref c0)(S:aD N ps (au st))(len:∀vs H Q E,sp vs H Q E->vs.length=ps.length)
  (hbody:∀(A:Around) (outer:List Env) (s:Shared) (H:Hp) (vs:List V) (Q:VK) (E:XK),bu k (A.deeper (PyProof.Rows.envOfC qual (au st) s.heap.objs.size f (.ref c0)))->sp vs H Q E->
   ∃t,PSs (iA CX0 P w K mg base N qual (au st) f (.ref c0) A outer s H E).nox (eX st) t/\t {nx:=fun _ H'=>Q .non H',rt:=Q} (start N vs) H):a0 P w K mg base CX0 (k+1) f fd ps sp:=by
 obtain⟨oc,od,kV,doc,pm,an,cdv,ct,osl,rfl,lk,hcd⟩:=F.ex;have hc:cdv=.ref c0:=hc;subst hc;refine vH lk hcd S len fun A outer s H vs Q E hr hsp=>?_
 obtain⟨t,h,q⟩:=hbody A outer s H vs Q E hr hsp;exact⟨t,h.nox,q⟩
end
abbrev sTm:Stmt:=top 31
theorem qQ:aD ["best","trees","key","recipe"] ["best"] (au sTm):=⟨rfl,rfl,rfl,by decide +kernel,rfl,by decide +kernel,by decide +kernel⟩
abbrev iS:Pos:=⟨152,32,152,58⟩
abbrev tmQ:Str:=("trees_made":Str)++Str.ofString ".<locals>."++"<lambda>"
def zk:Scope:={kind:=ScopeKind.function,names:=[("made",NameKind.local),("best",NameKind.free)],isGenerator:=false,isCoroutine:=false}
def zl:List Key->Str×Str
 |[.inr a,.inr b]=>(a,b)
 |_=>("","")
def vM(g:Bst)(l:List Key):Int:=match g (zl l) with
 |some (c,_)=>(c:Int)
 |none=>0
def uW(TP:Addr):Sp:=fun vs H Q _=>∃(d:Addr) (ks:List (Str×Str)) (g:Bst),vs=[.ref d]/\bQ H d ks g/\ks.length<64/\(∀k c r,g k=some (c,r)->r.keys.length<=900)/\cW TP iS tmQ H/\
 ∀t H' kvs,df TP H H'->cW TP iS tmQ H'->H' t=some (.dT kvs)->(∀k∈ks,∃v,bc kvs (bG k)=some v)->Q (.ref t) H'
section
variable {P:Program}{w:World}{K:PySem.W.Frag}{mg:Str->Option Value}{base:Heap}
theorem zm{f0 c0 TP:Addr}{fd:FuncData}(F:Fun K "trees_made" "trees_made" sTm f0 fd)(hcode:fd.code=.ref c0)(C:PySem.W.CodeHd base c0 TP)(hbm:Bm mg base)(T:Txt mg):a0 P w K mg base CX0 2 f0 fd ["best"] (uW TP):=by
 refine F.okC hcode qQ (fun vs H Q E h=>?_) (fun A outer s H vs Q E hr h=>?_)
 ·obtain⟨d,ks,g,rfl,_⟩:=h;rfl
 ·obtain⟨d,ks,g,rfl,hB,h64,hkl,hT,k⟩:=h;have hu:=cv hr;have lu:∀f c' s₃ H₃,(kX (iA CX0 P w K mg base ["best","trees","key","recipe"] "trees_made" (au sTm) f0 (Value.ref c0) A outer s H E).nox tmQ zk [("best",s.heap.objs.size+1)] "made" "best" f c' (iA CX0 P w K mg base ["best","trees","key","recipe"] "trees_made" (au sTm) f0 (Value.ref c0) A outer s H E).nox.A.in1.in1 s₃ H₃).A.units+1<cLine:=fun f c' s₃ H₃=>by
   have:=hr.un;show(A.deeper (PyProof.Rows.envOfC "trees_made" (au sTm) s.heap.objs.size f0 (.ref c0))).units+1+1+3+1<cLine;omega
  refine⟨_,af (ao (i:=1) qQ.nd rfl (Or.inr rfl) j5)
   (af (aO PassesOwn.never rfl (aB (qI (x:="made") (y:="best") (i:=0) rfl hr rfl C hbm ⟨rfl,by decide,rfl,rfl,rfl,rfl,rfl,rfl,rfl,rfl,fun _ _ _ _ _ _=>rfl⟩ (by rfl) T.srt (ag (pv 0) ac)
     (fun f c' s₃ H₃=>aE (r:=gX K) aU (bI (lu f c' s₃ H₃) (pv 1) (pv 0) (fun _ _=>rfl)) az (fun _ _=>rfl))))
    (ap (i:=2) qQ.nd rfl (Or.inl rfl))
    (af (ao (i:=3) qQ.nd rfl (Or.inl rfl) (aE aU (bI hu (pv 0) (pv 2) (fun _ _=>rfl)) az (fun _ _=>rfl)))
    (ai (da hu (pv 1) (pv 2) (aP (ag (aE aU (pv 2) az (fun _ _=>rfl)) (ag (aE aU (pv 3) az (fun _ _=>rfl)) (ag
     (cY (aX.one (N:=["inner","trees"]) (sel:=[none,some 1]) "trees" (by rfl) (by rfl) (by rfl) (by decide) (by decide) (by rfl) (by rfl) ⟨_,rfl,rfl⟩ (by rfl) (jM rfl rfl)) rfl (aB (aE aU (pv 3) az (fun _ _=>rfl)))
      (fun s₃ H₃ fp=>ap (i:=0) (show(["inner","trees"]:List Str).Nodup by decide) rfl (Or.inl rfl)) (fun s₃ H₃ fp=>dc)
      (fun s₃ H₃ fp=>wW (X:=cC _ _ _ _ _ _ _) hu (pv 1) (pv 0) (pv 0) ⟨rfl,rfl,rfl,rfl⟩)) ac)))) rfl))))
   (ai (aI (pv 1)))),?_⟩
  intro tr htr;have s1:=ab.upd (o:=HO.dT []) htr;obtain⟨ps,hps,_⟩:=id hT;have nTr:tr≠TP:=fun z=>by rw[z,hps] at htr;cases htr
  obtain⟨⟨kvs,hkv,hkk,_⟩,hmem⟩:=id hB;have hlk:kvs.length=ks.length:=by
   have:=congrArg List.length hkk;rw[aaa,aaa] at this;exact this
  have isK:∀l,l∈kvs.map (·.1)->∃k∈ks,bG k=l:=fun l hl=>by
   rw[hkk] at hl;exact aao.mp hl
  refine⟨_,rfl,d,kvs,.ref d,vM g,rfl,s1 _ _ hkv,by omega,hT.mono s1,rfl,fun H2 sT T2=>⟨fun kv hkv' a ha=>?_,fun l zs hl1 hl2 hpm _ hat=>?_⟩⟩
  ·have hB2:=(hB.mono s1).onT (hT.mono s1) sT;obtain⟨k',hk',ek⟩:=isK kv.1 (aao.mpr ⟨kv,hkv',rfl⟩);rw[←ek] at ha ⊢;have ha:H2 a=some (.tup [.str k'.1,.str k'.2]):=ha;rcases hB2.get ha with ⟨c,r,t,v,hg,hdg,htt,_⟩|⟨hg,_⟩
   ·refine⟨_,rfl,_,rfl,d,_,rfl,hdg,t,_,0,_,rfl,rfl,SqT.of htt,aA (j:=0) rfl,?_,rfl⟩;have:vM g (bG k')=(c:Int):=by
     show(match g k' with | some (c,_)=>(c:Int) | none=>0)=_;rw[hg]
    rw[this]
   ·obtain⟨c,r,e⟩:=(hmem k').mp hk';rw[hg] at e;cases e
  ·generalize hH3:upd H2 l (.lst (zs.map fun z=>V.ref z.2))=H3;have s23:ab H2 H3:=by rw[←hH3];exact ab.upd hl2
   have tr2:H2 tr=some (.dT []):=sT _ _ nTr aa;have tr3:H3 tr=some (.dT []):=s23 _ _ tr2;have nl:l≠tr:=fun z=>by rw[z,tr2] at hl2;cases hl2
   have hl3:H3 l=some (.lst (zs.map fun z=>V.ref z.2)):=by rw[←hH3];exact aa
   have sX:∀{H4:Hp},df tr H3 H4->ab (hide TP H) H4:=fun{H4} s4 b o e=>by
    by_cases q:b=TP
    ·unfold hide at e;rw[if_pos q] at e;cases e
    ·rw[hide_ne q] at e;exact s4 b o (fun z=>by rw[z,htr] at e;cases e) (s23 _ _ (sT b o q (s1 _ _ e)))
   have hBX:=hB.gQ hps;refine⟨l,rfl,⟨_,SqL.of hl3⟩,aM (K:=K) (a:=l) (xs:=zs.map fun z=>V.ref z.2)
    (fun i σ H4=>∃kt o1 o2,σ=[some (.ref d),some (.ref tr),o1,o2]/\df tr H3 H4/\H4 tr=some (.dT kt)/\kt.length<=i/\∀z∈zs.take i,∃v,bc kt z.1=some v)
    ⟨[],_,_,rfl,df.refl,tr3,Nat.le_refl _,fun z hz=>by cases hz⟩ ?_ ?_ ?_⟩
   ·rintro i σ H4 _ ⟨_,_,_,_,s4,_⟩;exact SqL.of (s4 _ _ nl hl3)
   ·rintro i x σ H4 hx ⟨kt,o1,o2,rfl,s4,htr4,hkl4,hall⟩;rw[aax] at hx;cases hz:zs[i]? with
    |none=>rw[hz] at hx;cases hx
    |some z=>
     rw[hz] at hx;have hx:some (V.ref z.2)=some x:=hx;injection hx with hx;subst hx;have hzm:z∈zs:=aah hz;have hil:i<zs.length:=(aab.mp hz).1;have hzl:zs.length<64:=by
      have:=hpm.length_eq;rw[aaa,aaa] at this;omega
     obtain⟨k',hk',ek⟩:=isK z.1 (hpm.mem_iff.mp (aao.mpr ⟨z,hzm,rfl⟩));have hz2:H2 z.2=some (.tup (z.1.map kV)):=hat z hzm;have hz4:H4 z.2=some (.tup ((bG k').map kV)):=by
      rw[ek];exact s4 _ _ (fun q=>by rw[q,tr2] at hz2;cases hz2) (s23 _ _ hz2)
     have hB4:=hBX.mono (sX s4);rcases hB4.get (k:=k') hz4 with ⟨c,r,tt,v,hg,hdg,htt,hrec⟩|⟨hg,_⟩
     ·obtain⟨t,kr,lk,rfl,ht,hkr,us,hus,hup⟩:=hrec;have hul:us.length<=900:=by rw[Paired.length hup];exact hkl k' c r hg
      refine⟨_,rfl,_,rfl,d,_,rfl,hdg,tt,_,1,_,rfl,rfl,SqT.of htt,aA (j:=1) rfl,?_⟩;refine⟨_,rfl,z.2,_,1,_,rfl,rfl,SqT.of (xs:=[.str k'.1,.str k'.2]) hz4,aA (j:=1) rfl,_,rfl,t,_,1,_,rfl,rfl,SqT.of ht,aA (j:=1) rfl,_,rfl,t,_,2,_,rfl,rfl,SqT.of ht,aA (j:=2) rfl,lk,rfl,⟨_,SqL.of hus⟩,fun D hD=>
       cH (K:=K) (xs:=us) (fun j τ H5=>(∃o,τ=[o,some (.ref tr)])/\∃ws,H5=upd H4 D (.lst ws)/\ws.length=j) ⟨⟨_,rfl⟩,[],rfl,rfl⟩ ?_ ?_ ?_⟩
      ·rintro j τ H5 ⟨_,ws,rfl,_⟩;exact SqL.of (ab.upd hD _ _ hus)
      ·rintro j x τ H5 hx ⟨⟨o,rfl⟩,ws,rfl,hw⟩;have s5:=ab.upd (o:=HO.lst ws) hD;have htr5:=s5 _ _ htr4;have hj:j<us.length:=(aab.mp hx).1;obtain⟨kx,_,hkx⟩:=aT hup j x hx;have fin:∀v:V,∃ys,upd H4 D (.lst ws) D=some (.lst ys)/\ys.length<sizeLine/\(∃o,[some x,some (V.ref tr)]=[o,some (.ref tr)])/\∃ws',upd (upd H4 D (.lst ws)) D (.lst (ys++[v]))=upd H4 D (.lst ws')/\ws'.length=j+1:=fun v=>
        ⟨ws,aa,av (by omega),⟨_,rfl⟩,ws++[v],cA,by rw[aag,aav,hw]⟩
       cases kx with
       |inl wd=>
        have hkx:x=.str wd:=hkx;subst hkx;exact⟨_,rfl,tr,rfl,.inr ⟨_,.inl htr5⟩,_,rfl,_,rfl,.inr ⟨_,_,.inl htr5,rfl,fin _⟩⟩
       |inr p=>
        obtain⟨b,rfl,hb⟩:=hkx;exact⟨_,rfl,tr,rfl,.inr ⟨_,.inl htr5⟩,_,rfl,_,rfl,.inl ⟨_,bP.t (k:=bG p) htr5 (s5 _ _ hb),fin _⟩⟩
      ·rintro τ H5 ⟨_,ws,rfl,_⟩;have s5:=ab.upd (o:=HO.lst ws) hD;refine⟨(show 3<=sizeLine by decide),fun t' ht'=>?_⟩;generalize hH6:upd (upd H4 D (.lst ws)) t' _=H6;have s46:ab H4 H6:=by rw[←hH6];exact s5.trans (ab.upd ht')
       refine⟨_,rfl,_,rfl,tr,_,rfl,dD.t (k:=bG k') (s46 _ _ htr4) (s46 _ _ hz4) (av (by omega)),putK kt (bG k') (.ref t'),_,_,rfl,fun b o n e=>?_,aa,?_,fun z' hz'=>?_⟩
       ·rw[am n];exact s46 _ _ (s4 b o n e)
       ·have:=eG kt (bG k') (V.ref t');omega
       ·rw[ni]
        by_cases q:z'.1=bG k'
        ·rw[if_pos q];exact⟨_,rfl⟩
        ·rw[if_neg q];rw[aap,hz] at hz';rcases aak.mp hz' with hz'|hz'
         ·exact hall z' hz'
         ·have:z'=z:=by simpa using hz'
          rw[this,ek] at q;exact absurd rfl q
     ·obtain⟨c,r,e⟩:=(hmem k').mp hk';rw[hg] at e;cases e
   ·rintro σ H4 ⟨kt,o1,o2,rfl,s4,htr4,hkl4,hall⟩;rw[aaa,aas] at hall;refine⟨_,rfl,k tr H4 kt (fun b o n e=>sX s4 b o (by rw[hide_ne n];exact e)) ?_ htr4 fun k' hk'=>?_⟩
    ·obtain⟨qs,g1,g2,g3⟩:=T2;have q4:∀b o,H2 b=some o->b≠tr->H4 b=some o:=fun b o e n=>s4 b o n (s23 _ _ e)
     refine⟨qs,q4 _ _ g1 (Ne.symm nTr),g2,?_⟩;rcases g3 with g3|⟨c,g3,g4⟩
     ·exact .inl g3
     ·exact .inr ⟨c,g3,q4 _ _ g4 fun z=>by rw[z,tr2] at g4;cases g4⟩
    ·have hm:bG k'∈zs.map (·.1):=hpm.mem_iff.mpr (by rw[hkk];exact aao.mpr ⟨k',hk',rfl⟩);obtain⟨z,hz,ez⟩:=aao.mp hm;rw[←ez];exact hall z hz
end
end Nw
namespace Nw
open PySem L2
open SL (aq srt)
def Kn(g:Bst)(k:Str×Str):Prop:=∃c r,g k=some (c,r)
def KnK(g:Bst):Kx->Prop
 |.inl _=>True
 |.inr p=>Kn g p
theorem iT{g:Bst}:∀{l:List Kx},(∀k∈l,KnK g k)->∃c,aS g l=some c
 |[],_=>⟨0,rfl⟩
 |.inl w::r,h=>by
  obtain⟨c,e⟩:=iT (l:=r) fun k hk=>h k (aad _ hk)
  exact⟨1+c,by show(aS g r).map (1 + ·)=_;rw[e];rfl⟩
 |.inr p::r,h=>by
  obtain⟨c,e⟩:=iT (l:=r) fun k hk=>h k (aad _ hk)
  obtain⟨c',r',e'⟩:Kn g p:=h _ (aac ..);exact⟨c'+c,by show((g p).bind fun cr=>(aS g r).map (cr.1 + ·))=_;rw[e',e];rfl⟩
theorem jq{g:Bst}:∀{l:List Kx} {c:Nat},aS g l=some c->∀p,.inr p∈l->∃c' r',g p=some (c',r')/\c'<=c
 |[],c,_,p,hp=>by cases hp
 |.inl w::r,c,e,p,hp=>by
  have e:(aS g r).map (1 + ·)=some c:=e;cases q:aS g r with
  |none=>rw[q] at e;cases e
  |some x=>
   rw[q] at e;have e:some (1+x)=some c:=e;injection e with e;rcases List.mem_cons.mp hp with z|z
   ·cases z
   ·obtain⟨c',r',h1,h2⟩:=jq q p z;exact⟨c',r',h1,by omega⟩
 |.inr p'::r,c,e,p,hp=>by
  have e:((g p').bind fun cr=>(aS g r).map (cr.1 + ·))=some c:=e;cases qp:g p' with
  |none=>rw[qp] at e;cases e
  |some cr=>
   obtain⟨y,r0⟩:=cr;rw[qp] at e;cases q:aS g r with
   |none=>rw[q] at e;cases e
   |some x=>
    rw[q] at e;have e:some (y+x)=some c:=e;injection e with e;rcases List.mem_cons.mp hp with z|z
    ·cases z
     exact⟨y,r0,qp,by omega⟩
    ·obtain⟨c',r',h1,h2⟩:=jq q p z;exact⟨c',r',h1,by omega⟩
theorem di{π:Nat}{RS:List Rec}{g:Bst}(h:cP π RS g){r:Rec}(hr:r∈RS)(hk:∀k∈r.keys,KnK g k):Kn g r.key:=by
 obtain⟨cc,e⟩:=iT hk;obtain⟨c,r',e',_⟩:=h r hr cc e;exact⟨c,r',e'⟩
def br(R:List Row)(j:Nat):Row:=R.getD j ("",[])
def d7(z:Str)(R:List Row)(m:Nat):List Rec:=(List.range m).flatMap fun j=>cO z (ad R) j (br R j)
def cQ(z:Str)(R:List Row)(i:Nat)(p:Row):List Rec:=eT z (ad R) i p++d7 z R R.length
theorem mC(z:Str)(R:List Row)(m:Nat):d7 z R (m+1)=d7 z R m++cO z (ad R) m (br R m):=by
 unfold d7;rw[List.range_succ,List.flatMap_append];simp
theorem fE{z:Str}{R:List Row}{i:Nat}{p q:Row}(h:q∈R):∃j,∀x∈cO z (ad R) j q,x∈cQ z R i p:=by
 obtain⟨j,hj⟩:=List.mem_iff_getElem?.mp h;refine⟨j,fun x hx=>aar _ (List.mem_flatMap.mpr ⟨j,List.mem_range.mpr (aab.mp hj).1,?_⟩)⟩;have:br R j=q:=by unfold br;rw[aat,hj];rfl
 rw[this];exact hx
theorem pP{es:List Str}:∀{r:List Str} {s:Str},s∈Gram.lead es r->∃j,r[j]? =some s/\∀x∈r.take j,x∈es
 |[],s,h=>by cases h
 |x::r,s,h=>by
  unfold Gram.lead at h;rcases List.mem_cons.mp h with e|h
  ·exact⟨0,by rw[e];rfl,fun y hy=>by cases hy⟩
  ·split at h
   ·rename_i hx;obtain⟨j,h1,h2⟩:=pP h;refine⟨j+1,h1,fun y hy=>?_⟩;rw[List.take_succ_cons] at hy;rcases List.mem_cons.mp hy with e|hy
    ·rw[e];exact hx
    ·exact h2 y hy
   ·cases h
theorem mo{z:Str}{ss:List Str}{n:Nat}{p:Row}{ks:List Kx}(h:ks∈cN z ss p.2):⟨("begin",p.1),n,ks⟩∈cO z ss n p:=by
 unfold cO;exact List.mem_append_left _ (aad _ (aad _ (aao.mpr ⟨ks,h,rfl⟩)))
theorem jr{z:Str}{ss:List Str}{n j:Nat}{p:Row}{x:Rec}(hj:j<p.2.length)(h:x∈bH z ss n p j):x∈cO z ss n p:=by
 unfold cO;exact aar _ (List.mem_flatMap.mpr ⟨j,List.mem_range.mpr hj,h⟩)
section
variable {z:Str}{R:List Row}{i:Nat}{p:Row}{g:Bst}{es:List Str}
theorem uX(hC:cP 1 (cQ z R i p) g){x:Str}(h:Gram.Made R (eQ R) x):Kn g ("whole",x):=by
 induction h with
 |@mk l r hm _ ih=>
  obtain⟨j,hj⟩:=fE (z:=z) (i:=i) (p:=p) hm;refine di (r:=⟨("whole",l),j,aL (ad R) r⟩) hC (hj _ (aac ..)) fun k hk=>?_
  obtain⟨s,hs,rfl⟩:=aao.mp hk
  by_cases q:s∈ad R
  ·rw[if_pos q];exact ih s hs fun w=>w.2 (aF.mp q)
  ·rw[if_neg q];exact True.intro
theorem k9(hC:cP 1 (cQ z R i p) g)(G:Good R)(r:List Str):∀k∈aL (ad R) r,KnK g k:=fun k hk=>by
 obtain⟨s,hs,rfl⟩:=aao.mp hk
 by_cases q:s∈ad R
 ·rw[if_pos q];exact uX hC (G.made s (aF.mp q))
 ·rw[if_neg q];exact True.intro
theorem uY(hC:cP 1 (cQ z R i p) g){x:Str}(h:Gram.Made R (fun _=>False) x):Kn g ("empty",x):=by
 induction h with
 |@mk l r hm _ ih=>
  obtain⟨j,hj⟩:=fE (z:=z) (i:=i) (p:=p) hm;refine di (r:=⟨("empty",l),j,bK r⟩) hC (hj _ (aad _ (aac ..))) fun k hk=>?_
  obtain⟨s,hs,rfl⟩:=aao.mp hk;exact ih s hs id
theorem qR(hC:cP 1 (cQ z R i p) g)(hes:∀y,y∈es↔Gram.Made R (fun _=>False) y){r:List Str}(h:∀s∈r,s∈es):∀k∈bK r,KnK g k:=fun k hk=>by
 obtain⟨s,hs,rfl⟩:=aao.mp hk;exact uY hC ((hes s).mp (h s hs))
theorem mQ(hC:cP 1 (cQ z R i p) g)(G:Good R)(hes:∀y,y∈es↔Gram.Made R (fun _=>False) y){r:List Str}{s:Str}(h:s∈Gram.lead es r)(hs:s=z\/Kn g ("begin",s)):∃ks∈cN z (ad R) r,∀k∈ks,KnK g k:=by
 obtain⟨j,h1,h2⟩:=pP h;refine⟨iP z (ad R) r j,aao.mpr ⟨j,List.mem_range.mpr (aab.mp h1).1,rfl⟩,fun k hk=>?_⟩;have e:r.getD j ""=s:=by rw[aat,h1];rfl
 unfold iP at hk;rw[e] at hk;rcases aak.mp hk with hk|hk
 ·exact qR hC hes h2 k hk
 ·rcases List.mem_cons.mp hk with hk|hk
  ·by_cases q:s=z
   ·rw[if_pos q] at hk;rw[hk];exact True.intro
   ·rw[if_neg q] at hk;rw[hk];exact hs.resolve_left q
  ·exact k9 hC G _ k hk
theorem uZ(hC:cP 1 (cQ z R i p) g)(G:Good R)(hes:∀y,y∈es↔Gram.Made R (fun _=>False) y):∀{x w:Str},Gram.Beg R es x w->w=z->Kn g ("begin",x):=by
 intro x w h
 induction h with
 |@word l w r hm hl hn=>
  intro e;obtain⟨ks,h1,h2⟩:=mQ hC G hes hl (.inl e);obtain⟨j,hj⟩:=fE (z:=z) (i:=i) (p:=p) hm;exact di (r:=⟨("begin",l),j,ks⟩) hC (hj _ (mo (p:=(l,r)) h1)) h2
 |@sort l b w r hm hl hn _ ih=>
  intro e;obtain⟨ks,h1,h2⟩:=mQ hC G hes hl (.inr (ih e));obtain⟨j,hj⟩:=fE (z:=z) (i:=i) (p:=p) hm;exact di (r:=⟨("begin",l),j,ks⟩) hC (hj _ (mo (p:=(l,r)) h1)) h2
theorem vN(hC:cP 1 (cQ z R i p) g)(G:Good R)(hes:∀y,y∈es↔Gram.Made R (fun _=>False) y){r:List Str}(h:Wd R es r z):∃ks∈cN z (ad R) r,∀k∈ks,KnK g k:=by
 obtain⟨s,h1,⟨_,es',hes',hb⟩|⟨_,e⟩⟩:=h
 ·exact mQ hC G hes h1 (.inr (uZ hC G hes' hb rfl))
 ·exact mQ hC G hes h1 (.inl e.symm)
theorem vO(hC:cP 1 (cQ z R i p) g)(G:Good R){a x:Str}(h:Gram.Reach (rl R) a x):Kn g ("hold",x)->Kn g ("hold",a):=by
 induction h with
 |refl=>exact id
 |@step b c _ hc ih=>
  intro hk;refine ih ?_;unfold rl at hc;obtain⟨⟨l,r⟩,hm,hc2⟩:=List.mem_flatMap.mp hc;split at hc2
  ·rename_i e;have e:l=b:=e;subst e;obtain⟨hcr,_⟩:=List.mem_filter.mp hc2;obtain⟨j,hj⟩:=List.mem_iff_getElem?.mp hcr;obtain⟨n,hn⟩:=fE (z:=z) (i:=i) (p:=p) hm;have eg:r.getD j ""=c:=by rw[aat,hj];rfl
   refine di (r:=⟨("hold",l),n,aL (ad R) (r.take j)++.inr ("hold",c)::aL (ad R) (r.drop (j+1))⟩) hC (hn _ (jr (j:=j) (aab.mp hj).1 ?_)) fun k hk'=>?_
   ·show _∈bH z (ad R) n (l,r) j;unfold bH;show _∈(⟨("hold",l),n,aL (ad R) (r.take j)++.inr ("hold",r.getD j "")::aL (ad R) (r.drop (j+1))⟩::_:List Rec);rw[eg];exact aac ..
   ·rcases aak.mp hk' with q|q
    ·exact k9 hC G _ k q
    ·rcases List.mem_cons.mp q with q|q
     ·rw[q];exact hk
     ·exact k9 hC G _ k q
  ·cases hc2
theorem wY(hC:cP 1 (cQ z R i p) g)(G:Good R)(hes:∀y,y∈es↔Gram.Made R (fun _=>False) y)(hne:∀p∈R,¬("":Str)∈p.2):∀{x w:Str},Beh R es x w->w=z->Kn g ("last",x)->Kn g (if z="" then "last" else "hold",b7 R):=by
 intro x w h
 induction h with
 |fin=>
  intro e hk;rw[if_pos e.symm];exact hk
 |@word l x w rest ho hx hw=>
  intro e hk;subst e;obtain⟨r',hm',hs'⟩:=ho.row;have nz:¬w="":=fun q=>by
   obtain⟨p',hp',hz'⟩:=hw.sign hm' hs';exact hne p' hp' (q▸hz')
  rw[if_neg nz];obtain⟨r,j,hm,hj,rfl⟩:=ho;obtain⟨ks,h1,h2⟩:=vN hC G hes hw;obtain⟨n,hn⟩:=fE (z:=w) (i:=i) (p:=p) hm;have eg:r.getD j ""=x:=by rw[aat,hj];rfl
  refine vO hC G (G.reach l (aao.mpr ⟨_,hm,rfl⟩)) (di (r:=⟨("hold",l),n,aL (ad R) (r.take j)++.inr ("last",x)::ks⟩) hC (hn _ (jr (j:=j) (aab.mp hj).1 ?_)) fun k hk'=>?_)
  ·unfold bH;refine aad _ (aad _ (aao.mpr ⟨ks,h1,?_⟩));show(⟨("hold",l),n,aL (ad R) (r.take j)++.inr ("last",r.getD j "")::ks⟩:Rec)=_;rw[eg]
  ·rcases aak.mp hk' with q|q
   ·exact k9 hC G _ k q
   ·rcases List.mem_cons.mp q with q|q
    ·rw[q];exact hk
    ·exact h2 k q
 |@up l x w rest ho hx he _ ih=>
  intro e hk;subst e;obtain⟨r,j,hm,hj,rfl⟩:=ho;obtain⟨n,hn⟩:=fE (z:=w) (i:=i) (p:=p) hm;have eg:r.getD j ""=x:=by rw[aat,hj];rfl
  refine ih rfl (di (r:=⟨("last",l),n,aL (ad R) (r.take j)++.inr ("last",x)::bK (r.drop (j+1))⟩) hC (hn _ (jr (j:=j) (aab.mp hj).1 ?_)) fun k hk'=>?_)
  ·unfold bH;refine aad _ (List.mem_cons.mpr (.inl ?_));show(⟨("last",l),n,aL (ad R) (r.take j)++.inr ("last",x)::bK (r.drop (j+1))⟩:Rec)=⟨("last",l),n,aL (ad R) (r.take j)++.inr ("last",r.getD j "")::bK (r.drop (j+1))⟩;rw[eg]
  ·rcases aak.mp hk' with q|q
   ·exact k9 hC G _ k q
   ·rcases List.mem_cons.mp q with q|q
    ·rw[q];exact hk
    ·exact qR hC hes he k q
def Use(R:List Row)(p:Row)(z:Str):Prop:=∃es,(∀y,y∈es↔Gram.Made R (fun _=>False) y)/\(Wd R es p.2 z\/((∀s∈p.2,s∈es)/\Beh R es p.1 z))
theorem pQ(hes:∀y,y∈es↔Gram.Made R (fun _=>False) y):Use R p z↔Wd R es p.2 z\/((∀s∈p.2,s∈es)/\Beh R es p.1 z):=by
 constructor
 ·rintro⟨es',h',h|⟨h1,h2⟩⟩
  ·exact .inl (h.congr fun y=>(h' y).trans (hes y).symm)
  ·exact .inr ⟨fun s hs=>(hes s).mpr ((h' s).mp (h1 s hs)),mi (fun y=>(h' y).trans (hes y).symm) h2⟩
 ·exact fun h=>⟨es,hes,h⟩
theorem yx(hC:cP 1 (cQ z R i p) g)(G:Good R)(hp:p∈R)(hne:∀p∈R,¬("":Str)∈p.2)(h:Use R p z):Kn g (if z="" then "last" else "hold",b7 R):=by
 obtain⟨es,hes,hw|⟨he,hb⟩⟩:=h
 ·have nz:¬z="":=fun q=>by
   obtain⟨p',hp',hz'⟩:=hw.sign (l:=p.1) (r:=p.2) hp fun _ h=>h
   exact hne p' hp' (q▸hz')
  rw[if_neg nz];obtain⟨ks,h1,h2⟩:=vN hC G hes hw;refine vO hC G (G.reach p.1 (aao.mpr ⟨_,hp,rfl⟩)) (di (r:=⟨("hold",p.1),i,ks⟩) hC (List.mem_append_left _ ?_) h2);exact aad _ (aao.mpr ⟨ks,h1,rfl⟩)
 ·refine wY hC G hes hne hb rfl (di (r:=⟨("last",p.1),i,bK p.2⟩) hC (List.mem_append_left _ (aac ..)) (qR hC hes he))
end
end Nw
namespace Nw
open PySem L2
open SL (aq srt)
def dI(g:Bst)(k:Str×Str):Nat:=((g k).map (·.1)).getD 0
def rk(g:Bst)(ks:List (Str×Str))(c:Nat):Nat:=(ks.map fun j=>if dI g j<c then 1 else 0).sum
theorem vP(g:Bst){c c':Nat}(h:c'<=c):∀ks,rk g ks c'<=rk g ks c
 |[]=>Nat.le_refl _
 |j::ks=>by
  have ih:=vP g h ks;show(if dI g j<c' then 1 else 0)+rk g ks c'<=(if dI g j<c then 1 else 0)+rk g ks c
  by_cases q:dI g j<c'
  ·rw[if_pos q,if_pos (by omega)];omega
  ·rw[if_neg q];omega
theorem vQ(g:Bst){k:Str×Str}{c:Nat}(h:dI g k<c):∀{ks},k∈ks->rk g ks (dI g k)<rk g ks c
 |[],hk=>by cases hk
 |j::ks,hk=>by
  show(if dI g j<dI g k then 1 else 0)+rk g ks (dI g k)<(if dI g j<c then 1 else 0)+rk g ks c;rcases List.mem_cons.mp hk with q|q
  ·subst q;have:=vP g (Nat.le_of_lt h) ks;rw[if_neg (Nat.lt_irrefl _),if_pos h];omega
  ·have ih:=vQ g h q
   by_cases q:dI g j<dI g k
   ·rw[if_pos q,if_pos (by omega)];omega
   ·rw[if_neg q];omega
theorem sQ(g:Bst)(c:Nat):∀ks,rk g ks c<=ks.length
 |[]=>Nat.le_refl _
 |j::ks=>by
  have ih:=sQ g c ks;show(if dI g j<c then 1 else 0)+rk g ks c<=ks.length+1;split <;> omega
theorem _root_.L2.bP.on{H H':Hp}{d:Addr}{y:V}{o:Option V}(h:bP H d y o)(s:ab H H'):bP H' d y o:=by
 have rd:∀{a:Addr} {u:HO},Rd H a u->Rd H' a u:=fun{a u} h=>h.imp (s _ _) fun⟨o,e⟩=>⟨o,s _ _ e⟩
 rcases h with ⟨kvs,k,h1,h2,h3⟩|⟨kvs,k,b,h1,h2,h3,h4⟩
 ·exact .inl ⟨kvs,k,rd h1,h2,h3⟩
 ·exact .inr ⟨kvs,k,b,rd h1,h2,s _ _ h3,h4⟩
abbrev u6:Stmt:=top 40
theorem gR:aD ["best","goal","path","key","keys","place","inner"] ["best","goal"] (au u6):=⟨rfl,rfl,rfl,by decide +kernel,rfl,by decide +kernel,by decide +kernel⟩
def qS:Sp:=fun vs H Q _=>∃(d t:Addr) (ks:List (Str×Str)) (g:Bst) (RS:List Rec) (k0:Str×Str),vs=[.ref d,.ref t]/\bQ H d ks g/\ks.length<64/\(∀k c r,g k=some (c,r)->r.keys.length<=900)/\io 1 RS g/\H t=some (.tup [.str k0.1,.str k0.2])/\Kn g k0/\
 ∀q H' vs,ab H H'->H q=none->H' q=some (.lst vs)->Q (.ref q) H'
section
variable {P:Program}{w:World}{K:PySem.W.Frag}{mg:Str->Option Value}{base:Heap}
theorem yy{f:Addr}{fd:FuncData}(F:Fun K "path_to_part" "path_to_part" u6 f fd)(T:Txt mg)(C:Cons mg)(hEn:mg "enumerate"=none):a0 P w K mg base CX0 1 f fd ["best","goal"] qS:=by
 refine F.ok gR (fun vs H Q E h=>?_) (fun cdv A outer s H vs Q E hr h=>?_)
 ·obtain⟨d,t,ks,g,RS,k0,rfl,_⟩:=h;rfl
 ·obtain⟨d,t0,ks,g,RS,k0,rfl,hB,h64,hkl,hok,ht0,hkn,k⟩:=h;have hu:=cv hr;obtain⟨ul,hl,rl⟩:=C.last;obtain⟨uh,hh,rh⟩:=C.hold;refine⟨_,af (ao (i:=2) gR.nd rfl (Or.inl rfl) (aW ac))
   (af (ao (i:=3) gR.nd rfl (Or.inl rfl) (pv 1))
   (af (dU PassesOwn.never (aK lj (pv 3) e7 (bB _))
    (af (ao (i:=4) gR.nd rfl (Or.inl rfl) (aE aU (aE aU (bI hu (pv 0) (pv 3) (fun _ _=>rfl)) az (fun _ _=>rfl)) az (fun _ _=>rfl)))
    (af (ao (i:=3) gR.nd rfl (Or.inl rfl) e7)
    (ai (aO PassesOwn.never rfl (ik (by rfl) hEn (ag (pv 4) ac)) (cJ (n:=2) rfl (aH (ap (i:=5) gR.nd rfl (Or.inl rfl)) (aH (ap (i:=6) gR.nd rfl (Or.inl rfl)) cg)))
     (ai (bi (PW.pt (g7 (ci (aC cx (by rfl) T.isi boot_isinstance (ag (pv 6) (ag (cB (v:=.ty "tuple") (by rfl) T.tup d3 rfl) ac))))
       (gm (aK (r:=rIn K false) fO (aE aU (pv 6) az (fun _ _=>rfl)) (aP (ag (bR (by rfl) hh rh) (ag (bR (by rfl) hl rl) ac))) (by with_unfolding_all rfl)))))
      (af (bp (bY PySem.F.plainAttrs_list PySem.F.slot_list_append PySem.F.type_list_append a8 (pv 2) (ag (pv 5) ac)))
      (ai (ao (i:=3) gR.nd rfl (Or.inl rfl) (pv 6))))
      aY)))))))
   (ai (aI (pv 2))))),?_⟩
  refine⟨by decide,fun q hq=>⟨_,rfl,?_⟩⟩;obtain⟨c0,r0,hg0⟩:=hkn;have costOf:∀{k:Str×Str} {c:Nat} {r:Rec},g k=some (c,r)->dI g k=c:=fun{k c r} e=>by unfold dI;rw[e];rfl
  refine(⟨fun m σ H1=>∃vs kv o1 o2 o3,σ=[some (.ref d),some (.ref t0),some (.ref q),some kv,o1,o2,o3]/\ab H H1/\H1 q=some (.lst vs)/\vs.length+900*m<=60000/\
    ((kv=.non/\m=0)\/∃t k c r,kv=.ref t/\H t=some (.tup [.str k.1,.str k.2])/\g k=some (c,r)/\m=rk g ks c+1),
   ⟨_,[],_,_,_,_,rfl,ab.upd hq,aa,?_,.inr ⟨t0,k0,c0,r0,rfl,ht0,hg0,rfl⟩⟩,?_⟩)
  ·have:=sQ g c0 ks;show 0+_<=_;omega
  rintro m σ H1 ⟨vs,kv,o1,o2,o3,rfl,s1,hq1,hlen,hkv⟩;refine⟨_,rfl,rfl,_,rfl,?_⟩;rcases hkv with ⟨rfl,rfl⟩|⟨t,kk,c,r,rfl,ht,hg,rfl⟩
  ·exact aJ ⟨_,rfl,k q H1 vs s1 hq hq1⟩
  ·refine a9 ⟨fun σ H3=>∃vs' kv o1 o2 o3,σ=[some (.ref d),some (.ref t0),some (.ref q),some kv,o1,o2,o3]/\ab H H3/\H3 q=some (.lst vs')/\vs'.length<=vs.length+900/\
     (kv=.non\/∃t k c' r,kv=.ref t/\H t=some (.tup [.str k.1,.str k.2])/\g k=some (c',r)/\c'<c),?_,?_⟩
   ·rintro σ' H3 ⟨vs',kv,o1,o2,o3,rfl,s3,hq3,hl3,hkv⟩;rcases hkv with rfl|⟨t',k',c',r',rfl,ht',hg',hc'⟩
    ·exact⟨0,by omega,vs',_,_,_,_,rfl,s3,hq3,by omega,.inl ⟨rfl,rfl⟩⟩
    ·have hlt:rk g ks c'<rk g ks c:=by
      have:=vQ g (k:=k') (c:=c) (by rw[costOf hg'];exact hc') (ks:=ks) ((hB.mem k').mpr ⟨c',r',hg'⟩);rw[costOf hg'] at this;exact this
     exact⟨rk g ks c'+1,by omega,vs',_,_,_,_,rfl,s3,hq3,by omega,.inr ⟨t',k',c',r',rfl,ht',hg',rfl⟩⟩
   ·obtain⟨c2,r2,tt,v,hg2,hdg,htt,hrec⟩:∃c2 r2 tt v,g kk=some (c2,r2)/\bP H d (.ref t) (some (.ref tt))/\H tt=some (.tup [.int (c2:Nat),v])/\RecAt H v r2:=by
     rcases hB.get (k:=kk) ht with h|⟨h,_⟩
     ·exact h
     ·rw[h] at hg;cases hg
    rw[hg2] at hg;cases hg;obtain⟨tr,kr,lk,rfl,htr,hkr,us,hus,hup⟩:=hrec;have hul:us.length<=900:=by rw[Paired.length hup];exact hkl kk c r hg2
    obtain⟨_,_,cc,hcc,hle⟩:=hok.own kk c r hg2;refine⟨_,rfl,_,rfl,d,_,rfl,hdg.on s1,tt,_,1,_,rfl,rfl,SqT.of (s1 _ _ htt),aA (j:=1) rfl,tr,_,2,_,rfl,rfl,SqT.of (s1 _ _ htr),aA (j:=2) rfl,?_⟩;refine⟨_,rfl,lk,rfl,⟨_,SqL.of (s1 _ _ hus)⟩,gE (K:=K) (a:=lk) (xs:=us)
     (fun i σ H4=>∃vs' kv o2 o3,σ=[some (.ref d),some (.ref t0),some (.ref q),some kv,some (.ref lk),o2,o3]/\ab H H4/\H4 q=some (.lst vs')/\vs'.length<=vs.length+i/\(kv=.non\/∃t k c' r,kv=.ref t/\H t=some (.tup [.str k.1,.str k.2])/\g k=some (c',r)/\c'<c))
     ⟨vs,_,_,_,rfl,s1,hq1,Nat.le_refl _,.inl rfl⟩ ?_ ?_ ?_⟩
    ·rintro i σ H4 _ ⟨_,_,_,_,_,s4,_⟩;exact SqL.of (s4 _ _ hus)
    ·rintro i x t2 σ H4 hx ⟨vs',kv,p2,p3,rfl,s4,hq4,hl4,hkv⟩ ht2;have hi:i<us.length:=(aab.mp hx).1;obtain⟨kx,hki,hkx⟩:=aT hup i x hx;have s5:=ab.upd (o:=HO.tup [.int i,x]) ht2;have hq5:=s5 _ _ hq4;have s45:=s4.trans s5;refine⟨t2,_,rfl,SqT.of aa,rfl,_,_,rfl,_,_,rfl,rfl,?_⟩;generalize upd H4 t2 (.tup [.int i,x])=H5 at hq5 s45;cases kx with
     |inl wd=>
      have hkx:x=.str wd:=hkx;subst hkx;exact⟨_,rfl,_,_,_,_,rfl,.str _,yt,_,rfl,aJ (aJ ⟨vs',_,_,_,rfl,s45,hq5,by omega,hkv⟩)⟩
     |inr p=>
      obtain⟨b,rfl,hb⟩:=hkx;refine⟨_,rfl,_,_,_,_,rfl,.tup (s45 _ _ hb),om,_,rfl,a9 ?_⟩;refine⟨_,rfl,b,_,0,_,rfl,rfl,SqT.of (s45 _ _ hb),aA (j:=0) rfl,(show 2<=sizeLine by decide),fun tp htp=>?_⟩;have s6:=ab.upd (o:=HO.tup [.str "hold",.str "last"]) htp;refine⟨tp,_,rfl,.inr (SqT.of aa),rfl,rfl,_,rfl,?_⟩;show if (inV (V.str p.1) [V.str "hold",V.str "last"])=true then _ else _
      cases inV (V.str p.1) [V.str "hold",V.str "last"] with
      |false=>exact aJ ⟨vs',_,_,_,rfl,s45.trans s6,s6 _ _ hq5,by omega,hkv⟩
      |true=>
       obtain⟨c',r',hg',hc'⟩:=jq hcc p (aah hki);refine a9 ⟨_,rfl,.inl ⟨rfl,_,SqL.of (s6 _ _ hq5)⟩,_,rfl,q,vs',_,rfl,rfl,s6 _ _ hq5,Nat.lt_of_le_of_lt (m:=60000) (by omega) (by rw[PySem.sizeLine_eq];decide),_,rfl,vs'++[.int i],_,_,_,rfl,(s45.trans s6).bz hq,aa,?_,.inr ⟨b,p,c',r',rfl,hb,hg',by omega⟩⟩;rw[aag,aav];omega
    ·rintro σ H4 ⟨vs',kv,p2,p3,rfl,s4,hq4,hl4,hkv⟩;exact⟨vs',kv,_,_,_,rfl,s4,hq4,by omega,hkv⟩
end
end Nw
namespace Nw
open PySem L2
open SL (aq srt)
theorem js{z:Str}{ss r:List Str}{ks:List Kx}(h:ks∈cN z ss r):ks.length=r.length:=by
 obtain⟨j,hj,rfl⟩:=aao.mp h;exact oI (List.mem_range.mp hj)
theorem wZ{z:Str}{ss:List Str}{n:Nat}{p:Row}(hp:p.2.length<=20){r:Rec}(h:r∈eT z ss n p):r.keys.length<=20/\r.key.2=p.1/\r.key.1∈(["whole","empty","begin","hold","last"]:List Str):=by
 unfold eT at h;rcases List.mem_cons.mp h with rfl|h
 ·exact⟨by show(bK p.2).length<=20;rw[d6];exact hp,rfl,(by decide:("last":Str)∈(["whole","empty","begin","hold","last"]:List Str))⟩
 ·obtain⟨ks,hk,rfl⟩:=aao.mp h;exact⟨by show ks.length<=20;rw[js hk];exact hp,rfl,(by decide:("hold":Str)∈(["whole","empty","begin","hold","last"]:List Str))⟩
theorem yz{z:Str}{ss:List Str}{n:Nat}{p:Row}(hp:p.2.length<=20){r:Rec}(h:r∈cO z ss n p):r.keys.length<=20/\r.key.2=p.1/\r.key.1∈(["whole","empty","begin","hold","last"]:List Str):=by
 unfold cO at h;rcases aak.mp h with h|h
 ·rcases List.mem_cons.mp h with rfl|h
  ·exact⟨by show(aL ss p.2).length<=20;rw[ce];exact hp,rfl,(by decide:("whole":Str)∈(["whole","empty","begin","hold","last"]:List Str))⟩
  ·rcases List.mem_cons.mp h with rfl|h
   ·exact⟨by show(bK p.2).length<=20;rw[d6];exact hp,rfl,(by decide:("empty":Str)∈(["whole","empty","begin","hold","last"]:List Str))⟩
   ·obtain⟨ks,hk,rfl⟩:=aao.mp h;exact⟨by show ks.length<=20;rw[js hk];exact hp,rfl,(by decide:("begin":Str)∈(["whole","empty","begin","hold","last"]:List Str))⟩
 ·obtain⟨j,hj,h⟩:=List.mem_flatMap.mp h;have hj:=List.mem_range.mp hj;unfold bH at h;rcases List.mem_cons.mp h with rfl|h
  ·refine⟨?_,rfl,(by decide:("hold":Str)∈(["whole","empty","begin","hold","last"]:List Str))⟩;show(aL ss (p.2.take j)++_::aL ss (p.2.drop (j+1))).length<=20;rw[aag,aau,ce,ce,aal,List.length_drop];omega
  ·rcases List.mem_cons.mp h with rfl|h
   ·refine⟨?_,rfl,(by decide:("last":Str)∈(["whole","empty","begin","hold","last"]:List Str))⟩;show(aL ss (p.2.take j)++_::bK (p.2.drop (j+1))).length<=20;rw[aag,aau,ce,d6,aal,List.length_drop];omega
   ·obtain⟨ks,hk,rfl⟩:=aao.mp h;refine⟨?_,rfl,(by decide:("hold":Str)∈(["whole","empty","begin","hold","last"]:List Str))⟩;show(aL ss (p.2.take j)++_::ks).length<=20;rw[aag,aau,ce,js hk,aal,List.length_drop];omega
theorem fF{α β:Type}(f:α->List β)(n:Nat):∀l:List α,(∀a∈l,(f a).length<=n)->(l.flatMap f).length<=n*l.length
 |[],_=>by simp
 |a::l,h=>by
  rw[List.flatMap_cons,aag,aau,Nat.mul_succ];have h1:=h a (aac ..);have h2:=fF f n l fun b hb=>h b (aad _ hb)
  omega
theorem jZ{z:Str}{ss:List Str}{n:Nat}{p:Row}(hp:p.2.length<=20):(cO z ss n p).length<=500:=by
 unfold cO;rw[aag,aau,aau,aaa,cL];have:=fF (bH z ss n p) 22 (List.range p.2.length) fun j _=>by
  unfold bH;rw[aau,aau,aaa,cL,List.length_drop];omega
 rw[List.length_range] at this;omega
theorem oQ{z:Str}{R:List Row}(hw:∀p∈R,p.2.length<=20)(m:Nat):(d7 z R m).length<=500*m:=by
 unfold d7;have:=fF (fun j=>cO z (ad R) j (br R j)) 500 (List.range m) fun j _=>jZ (by
  unfold br;rw[aat];cases e:R[j]? with
  |none=>exact Nat.zero_le _
  |some q=>exact hw q (aah e))
 rw[List.length_range] at this;exact this
def keysOf(R:List Row):List (Str×Str):=(["whole","empty","begin","hold","last"]:List Str).flatMap fun k=>R.map fun p=>(k,p.1)
theorem oR{z:Str}{R:List Row}{i:Nat}{p:Row}(hp:p∈R)(hw:∀p∈R,p.2.length<=20){r:Rec}(h:r∈cQ z R i p):r.keys.length<=20/\r.key∈keysOf R:=by
 have key:∀q∈R,r.keys.length<=20/\r.key.2=q.1/\r.key.1∈(["whole","empty","begin","hold","last"]:List Str)->r.keys.length<=20/\r.key∈keysOf R:=fun q hq ⟨h1,h2,h3⟩=>
  ⟨h1,List.mem_flatMap.mpr ⟨_,h3,aao.mpr ⟨q,hq,by rw[←h2]⟩⟩⟩
 rcases aak.mp h with h|h
 ·exact key p hp (wZ (hw p hp) h)
 ·obtain⟨j,hj,h⟩:=List.mem_flatMap.mp h;have hj:=List.mem_range.mp hj;have e:br R j=R[j]:=by unfold br;rw[aat,aae hj];rfl
  rw[e] at h;have hm:=List.getElem_mem hj;exact key _ hm (yz (hw _ hm) h)
theorem qT(R:List Row):(keysOf R).length=5*R.length:=by
 unfold keysOf;simp;omega
theorem yA{H:Hp}{l q:Addr}{ks:List Kx}{vs:List V}{rs:List Rec}(hl:aQ H l ks)(hq:H q=some (.lst vs))(hp:Paired (RecAt H) vs rs)(hne:vs≠[]):l≠q:=fun z=>by
 subst z;obtain⟨us,h1,h2⟩:=hl;rw[hq] at h1;cases h1;cases hp with
 |nil=>exact hne rfl
 |@cons v r _ _ a b=>
  cases h2 with
  |@cons _ k _ _ c d=>
   obtain⟨t,kt,l',e1,e2,_⟩:=a;cases k with
   |inl w=>rw[show v=.str w from c] at e1;cases e1
   |inr p=>
    obtain⟨t',e3,e4⟩:=c;rw[e1] at e3;cases e3;rw[e2] at e4;cases e4
theorem RecAt.vR{H:Hp}{q:Addr}{vs:List V}{rs:List Rec}(hq:H q=some (.lst vs))(hp:Paired (RecAt H) vs rs)(hne:vs≠[]){v:V}{r:Rec}(h:RecAt H v r):RecAt (hide q H) v r:=by
 obtain⟨t,kt,l,h1,h2,h3,h4⟩:=h;refine⟨t,kt,l,h1,?_,?_,h4.hide (yA h4 hq hp hne) hq⟩
 ·rw[hide_ne (fun z=>by rw[z,hq] at h2;cases h2)];exact h2
 ·rw[hide_ne (fun z=>by rw[z,hq] at h3;cases h3)];exact h3
theorem w4{H H':Hp}{q:Addr}{rs:List Rec}(h:kZ H' q rs)(s:ab H H'):bh RecAt H q H' rs:=by
 obtain⟨vs,h1,h2⟩:=h;refine⟨vs,h1,?_,s⟩
 by_cases e:vs=[]
 ·subst e;cases h2
  exact .nil
 ·exact Paired.bJ h2 fun _ _ z=>z.vR h1 h2 e
theorem lb{α β:Type}{F:α->β->Prop}:∀{l1:List α} {k1:List β} {l2:List α} {k2:List β},Paired F l1 k1->Paired F l2 k2->Paired F (l1++l2) (k1++k2)
 |_,_,_,_,.nil,q=>q
 |_,_,_,_,.cons a r,q=>.cons a (lb r q)
theorem bh.app{H H1:Hp}{wl m:Addr}{ys rs:List Rec}{vs us:List V}(h:bh RecAt H wl H1 ys)(hn:H wl=none)(e:H1 wl=some (.lst vs))(hne:vs≠[])(em:H1 m=some (.lst us))(hm:Paired (RecAt H1) us rs):bh RecAt H wl (upd H1 wl (.lst (vs++us))) (ys++rs):=by
 obtain⟨_,⟨vs2,e2,hp2⟩⟩:=h.fin bA;rw[e] at e2;cases e2;obtain⟨vs',h1,h2,h3⟩:=h;rw[e] at h1;cases h1;refine⟨vs++us,aa,?_,h3.bz hn⟩;rw[iO];exact lb h2 (Paired.bJ hm fun _ _ z=>z.vR e hp2 hne)
abbrev sUs:Stmt:=top 36
theorem oS:aD ["rows","number","word","recipes","other","best","goal"] ["rows","number","word"] (au sUs):=⟨rfl,rfl,rfl,by decide +kernel,rfl,by decide +kernel,by decide +kernel⟩
def u7(TP:Addr):Sp:=fun vs H Q _=>∃(a:Addr) (n:Nat) (z:Str) (R:List Row) (p:Row),vs=[.ref a,.int n,.str z]/\a7 H a R/\Good R/\Tight R/\R[n]? =some p/\(∀p∈R,¬("":Str)∈p.2)/\Use R p z/\cW TP iS tmQ H/\
 ∀t x y H',df TP H H'->cW TP iS tmQ H'->H' t=some (.tup [.int n,x,y])->Q (.ref t) H'
section
variable {P:Program}{w:World}{K:PySem.W.Frag}{mg:Str->Option Value}{base:Heap}
theorem zn{TP f:Addr}{fd:FuncData}(F:Fun K "use_shown" "use_shown" sUs f fd)(T:Txt mg)(C:Cons mg)(D1:Def P w K mg base "recipes_of_part" 3 ["rows","number","word"] qL)(D2:Def P w K mg base "recipes_of_row" 3 ["rows","number","word"] qM)
  (D3:Def P w K mg base "cheapest_recipes" 2 ["recipes","price"] qP)(D4:Def P w K mg base "first_sort" 1 ["rows"] h8)(D5:Def P w K mg base "trees_made" 2 ["best"] (uW TP))(D6:Def P w K mg base "path_to_part" 1 ["best","goal"] qS) :
  a0 P w K mg base CX0 4 f fd ["rows","number","word"] (u7 TP):=by
 refine F.ok oS (fun vs H Q E h=>?_) (fun cdv A outer s H vs Q E hr h=>?_)
 ·obtain⟨a,n,z,R,p,rfl,_⟩:=h;rfl
 ·obtain⟨a,n,z,R,p,rfl,hR,hgood,htight,hn,hne,huse,hT,k⟩:=h;have hu:=cv hr;have hr1:bu 1 _:=hr.mono (by decide);have hr2:bu 2 _:=hr.mono (by decide);obtain⟨ul,hl,rl⟩:=C.last;obtain⟨uh,hh,rh⟩:=C.hold;obtain⟨ue,he,re⟩:=C.end_;refine⟨_,af (ao (i:=3) oS.nd rfl (Or.inl rfl) (aw D1 hr (by rfl) (ag (pv 0) (ag (pv 1) (ag (pv 2) ac)))))
   (aV (aO PassesOwn.never rfl (eV (by rfl) T.rng (ag (aC bq (by rfl) T.len PySem.boot_len (ag (pv 0) ac)) ac)) (ap (i:=4) oS.nd rfl (Or.inl rfl))
    (ai (bp (bY PySem.F.plainAttrs_list PySem.F.slot_list_extend PySem.F.type_list_extend dW (pv 3) (ag (aw D2 hr (by rfl) (ag (pv 0) (ag (pv 4) (ag (pv 2) ac)))) ac)))))
   (af (ao (i:=5) oS.nd rfl (Or.inl rfl) (aw D3 hr2 (by rfl) (ag (pv 3) (ag az ac))))
   (aV (ao (i:=6) oS.nd rfl (Or.inl rfl) (aP (ag (j1 (aK km (pv 2) (bR (by rfl) he re) (bB _)) (bR (by rfl) hl rl) (bR (by rfl) hh rh)) (ag (aw D4 hr1 (by rfl) (ag (pv 0) ac)) ac))))
   (ai (aI (aP (ag (pv 1) (ag (bI hu (aw D5 hr2 (by rfl) (ag (pv 5) ac)) (pv 6) (fun _ _=>rfl)) (ag (aw D6 hr1 (by rfl) (ag (pv 5) (ag (pv 6) ac))) ac))))))))),?_⟩
  have hsm:=hgood.small;have hpm:p∈R:=aah hn;obtain⟨rs,hrs,hp⟩:=id hR;have hlen:rs.length=R.length:=Paired.length hp;have hl7:=htight.len;refine⟨_,rfl,_,rfl,_,rfl,a,n,z,R,p,rfl,hR,hsm,hn,fun wl H1 s1 n1 hq1=>?_⟩;have hg1:=w4 hq1 s1;refine⟨fun σ H4=>∃o,σ=[some (.ref a),some (.int n),some (.str z),some (.ref wl),o,none,none]/\bh RecAt H wl H4 (cQ z R n p),?_,?_⟩
  ·refine⟨_,rfl,a,_,rfl,.inl (SqL.of (s1 _ _ hrs)),_,rfl,by omega,by omega,eW (n:=(rs.length:Int).toNat) (fun i σ H4=>∃o,σ=[some (.ref a),some (.int n),some (.str z),some (.ref wl),o,none,none]/\bh RecAt H wl H4 (eT z (ad R) n p++d7 z R i))
    ⟨_,rfl,by rw[show d7 z R 0=[] from rfl,List.append_nil];exact hg1⟩ ?_ ?_⟩
   ·rintro i σ H4 hi ⟨o,rfl,hg⟩;have hi':i<R.length:=by rw[Int.toNat_natCast] at hi;omega
    have hRi:R[i]? =some R[i]:=aae hi';have eN:br R i=R[i]:=by unfold br;rw[aat,hRi];rfl
    have s4:=(hg.fin bA).1;obtain⟨vs,hv,_⟩:=id hg;have hvl:=hg.len hv;have hpl:(eT z (ad R) n p).length=p.2.length+1:=by unfold eT;rw[aau,aaa,cL]
    refine⟨_,rfl,.inl ⟨rfl,_,SqL.of hv⟩,_,rfl,_,rfl,_,rfl,a,i,z,R,R[i],by rw[Int.zero_add];rfl,hR.mono s4,hsm,hRi,fun m H5 s5 n5 hm=>?_⟩;obtain⟨us,hus,hup⟩:=hm;have hv5:=s5 _ _ hv;have hul:us.length<=500:=by rw[Paired.length hup];exact jZ (hsm.wid _ (List.getElem_mem hi'))
    have hml:=oQ (z:=z) hsm.wid i;have hw20:=hsm.wid p hpm;rw[aag,hpl] at hvl;refine⟨wl,m,vs,us,rfl,rfl,hv5,hus,Nat.le_trans (m:=10000) (by omega) (by rw[PySem.sizeLine_eq];decide),_,rfl,?_⟩;rw[mC,eN,←List.append_assoc];exact(hg.on bA s5).app n1 hv5 (fun e=>by rw[e,List.length_nil] at hvl;omega) hus hup
   ·rintro σ H4 ⟨o,rfl,hg⟩;rw[Int.toNat_natCast,hlen] at hg;exact⟨o,rfl,hg⟩
  rintro σ H4 ⟨o,rfl,hg⟩;obtain⟨s4,hrecs⟩:=hg.fin bA;refine⟨_,rfl,wl,1,20,cQ z R n p,keysOf R,rfl,hrecs,fun r hr=>(oR hpm hsm.wid hr).1,fun r hr=>(oR hpm hsm.wid hr).2,by rw[qT];omega,fun d ks g H5 s5 n5 hB hnd h64 hok hcl=>?_⟩;have hkl:∀k c r,g k=some (c,r)->r.keys.length<=900:=fun k c r e=>Nat.le_trans (oR hpm hsm.wid (hok.own k c r e).1).1 (by decide)
  have hkn:=yx hcl hgood hpm hne huse;have s45:=s4.trans s5;obtain⟨p0,R0,rfl⟩:∃p0 R0,R=p0::R0:=by
   cases R with
   |nil=>cases hpm
   |cons p0 R0=>exact⟨p0,R0,rfl⟩
  refine⟨fun σ H6=>∃tg,σ=[some (.ref a),some (.int n),some (.str z),some (.ref wl),o,some (.ref d),some (.ref tg)]/\ab H5 H6/\H6 tg=some (.tup [.str (if z="" then "last" else "hold"),.str (b7 (p0::R0))]),?_,?_⟩
  ·refine⟨_,rfl,rfl,_,rfl,?_⟩
   by_cases q:z=""
   ·rw[if_pos q,q,aan rfl];refine a9 ⟨_,rfl,a,p0,R0,rfl,hR.mono s45,(show 2<=sizeLine by decide),fun tg htg=>⟨tg,rfl,ab.upd htg,aa⟩⟩
   ·have:decide (V.str z=V.str "")=false:=aai fun e=>q (by injection e)
    rw[if_neg q,this];refine aJ ⟨_,rfl,a,p0,R0,rfl,hR.mono s45,(show 2<=sizeLine by decide),fun tg htg=>⟨tg,rfl,ab.upd htg,aa⟩⟩
  rintro σ H6 ⟨tg,rfl,s6,htg⟩;have s46:=s45.trans s6;have hB6:=hB.mono s6;have hT6:=hT.mono s46;refine⟨_,rfl,_,rfl,d,ks,g,rfl,hB6,h64,hkl,hT6,fun t H7 kvs s7 hT7 ht7 hall=>?_⟩;have ntg:tg≠TP:=hT6.ne htg fun _ z=>by cases z
  have htg7:=s7 _ _ ntg htg;have hB7:=hB6.onT hT6 s7;obtain⟨v,hv⟩:=hall _ ((hB.mem _).mpr hkn);refine⟨_,rfl,t,v,rfl,by rw[←hv];exact bP.t (k:=bG _) ht7 htg7,_,rfl,_,rfl,d,tg,ks,g,_,_,rfl,hB7,h64,hkl,hok,htg7,hkn,fun q H8 ws s8 n8 hq8=>?_⟩;refine⟨(show 3<=sizeLine by decide),fun tr htr=>?_⟩;refine k tr v (.ref q) _ (fun b o n e=>ab.upd htr _ _ (s8 _ _ (s7 b o n (s46 _ _ e)))) (hT7.mono fun b o e=>ab.upd htr _ _ (s8 _ _ e)) aa
end
end Nw
namespace Nw
open PySem L2
open SL (aq srt)
def u8(H:Hp)(v:V)(ss:List Str):Prop:=∃b,v=.ref b/\ak H b ss
theorem ip:jo u8:=fun _ _ _ _ s ⟨b,h1,h2⟩=>⟨b,h1,s _ _ h2⟩
def zU(H:Hp)(q:Addr)(L:List (List Str)):Prop:=∃vs,H q=some (.lst vs)/\Paired (u8 H) vs L
def uL(es:List Str)(fb fh:Tab)(p:Row):List Str:=srt (aq (srt (aq (cb es fb p.2))++if p.2.all (fun s=>decide (s∈es))=true then getL fh p.1 else []))
theorem Tight.yB{R:List Row}(S:Tight R){D:List Str}(nd:D.Nodup)(h:∀z∈D,z=""\/∃p∈R,z∈p.2):D.length<=12:=by
 obtain⟨U,hU,hm⟩:=S.few;have:=Gram.bT (m:=("":Str)::U) nd fun z hz=>by
  rcases h z hz with e|⟨p,hp,hz'⟩
  ·rw[e];exact aac ..
  ·exact aad _ (hm p hp z hz')
 rw[aau] at this;omega
theorem gH{f:Tab}{x:Str}{ys:List Str}(h:f.lookup x=some ys):getL f x=ys:=by unfold getL;rw[h];rfl
section
variable {R:List Row}{es:List Str}{fb fh:Tab}{p:Row}
theorem u9(hes:∀y,y∈es↔Gram.Made R (fun _=>False) y)(hkB:fb.map (·.1)=ad R)(hcB:∀e∈fb,Canon (dF R e.1) e.2)(hkH:fh.map (·.1)=ad R)(hcH:∀e∈fh,Canon (Behind R e.1) e.2)(hp:p∈R):Canon (Use R p) (uL es fb fh p):=by
 refine⟨_,rfl,SL.bF _,fun z=>?_⟩;rw[SL.bt,aak,SL.bM,SL.bt,im hkB (fun e he z=>(hcB e he).mem z),pQ hes];obtain⟨ys,h1,h2⟩:=cj (f:=fh) (x:=p.1) (by rw[hkH];exact aF.mpr (aao.mpr ⟨p,hp,rfl⟩));have hb:z∈getL fh p.1↔Beh R es p.1 z:=by
  rw[gH h1,(hcH _ h2).mem z];exact gh hes
 by_cases q:p.2.all (fun s=>decide (s∈es))=true
 ·rw[if_pos q,hb];have:∀s∈p.2,s∈es:=fun s hs=>of_decide_eq_true (List.all_eq_true.mp q s hs)
  exact⟨fun h=>h.imp id fun h=>⟨this,h⟩,fun h=>h.imp id fun h=>h.2⟩
 ·rw[if_neg q];have:¬∀s∈p.2,s∈es:=fun h=>q (List.all_eq_true.mpr fun s hs=>aan (h s hs))
  exact⟨fun h=>h.elim .inl fun h=>(by cases h),fun h=>h.elim .inl fun h=>absurd h.1 this⟩
end
abbrev va:Stmt:=top 23
theorem gj:aD ["rows","empties","begins","behind","found","left","right","words"] ["rows"] (au va):=⟨rfl,rfl,rfl,by decide +kernel,rfl,by decide +kernel,by decide +kernel⟩
def qU:Sp:=fun vs H Q _=>∃(a:Addr) (R:List Row),vs=[.ref a]/\a7 H a R/\Good R/\Tight R/\∀q (u:Row->List Str) H',ab H H'->H q=none->zU H' q (R.map u)->(∀p∈R,Canon (Use R p) (u p))->Q (.ref q) H'
section
variable {P:Program}{w:World}{K:PySem.W.Frag}{mg:Str->Option Value}{base:Heap}
theorem yC{f:Addr}{fd:FuncData}(F:Fun K "words_to_use_rows" "words_to_use_rows" va f fd)(T:Txt mg)
  (D1:Def P w K mg base "empty_sorts" 4 ["rows"] ie)(D2:Def P w K mg base "words_to_begin" 5 ["rows"] mI)(D3:Def P w K mg base "words_behind" 6 ["rows"] qB)
  (D5:Def P w K mg base "words_to_begin_signs" 2 ["signs","empties","begins"] mM)(D6:Def P w K mg base "can_be_empty" 1 ["signs","empties"] mL):a0 P w K mg base CX0 7 f fd ["rows"] qU:=by
 refine F.ok gj (fun vs H Q E h=>?_) (fun cdv A outer s H vs Q E hr h=>?_)
 ·obtain⟨a,R,rfl,_⟩:=h;rfl
 ·obtain⟨a,R,rfl,hR,hg,ht,k⟩:=h;have hu:=cv hr;have hr5:bu 5 _:=hr.mono (by decide);have hr4:bu 4 _:=hr.mono (by decide);have hr2:bu 2 _:=hr.mono (by decide);have hr1:bu 1 _:=hr.mono (by decide);refine⟨_,af (ao (i:=1) gj.nd rfl (Or.inl rfl) (aw D1 hr4 (by rfl) (ag (pv 0) ac)))
   (af (ao (i:=2) gj.nd rfl (Or.inl rfl) (aw D2 hr5 (by rfl) (ag (pv 0) ac)))
   (af (ao (i:=3) gj.nd rfl (Or.inl rfl) (aw D3 hr (by rfl) (ag (pv 0) ac)))
   (af (ao (i:=4) gj.nd rfl (Or.inl rfl) (aW ac))
   (af (aO PassesOwn.never rfl (aB (pv 0)) (cJ (n:=2) rfl (aH (ap (i:=5) gj.nd rfl (Or.inl rfl)) (aH (ap (i:=6) gj.nd rfl (Or.inl rfl)) cg)))
    (aV (ao (i:=7) gj.nd rfl (Or.inl rfl) (aw D5 hr2 (by rfl) (ag (pv 6) (ag (pv 1) (ag (pv 2) ac)))))
    (aV (bi (ci (aw D6 hr1 (by rfl) (ag (pv 6) (ag (pv 1) ac))))
     (ai (ao (i:=7) gj.nd rfl (Or.inl rfl) (bv cD (pv 7) (bI hu (pv 3) (pv 5) (fun _ _=>rfl)))))
     aY)
    (ai (bp (bY PySem.F.plainAttrs_list PySem.F.slot_list_append PySem.F.type_list_append a8 (pv 4) (ag
     (aC (cq rfl) (by rfl) T.srt PyProof.Rows.boot_sorted (ag (cX (dZ rfl) (by rfl) T.set (by decide +kernel) (ag (pv 7) ac)) ac)) ac)))))))
   (ai (aI (pv 4))))))),?_⟩
  refine⟨_,rfl,a,R,rfl,hR,hg,fun qe ms H1 s1 n1 nd1 hm1 hS1=>?_⟩;generalize hes:srt ms=es at hS1;have hem:∀y,y∈es↔Gram.Made R (fun _=>False) y:=fun y=>by rw[←hes,SL.bM];exact hm1 y
  refine⟨_,rfl,a,R,rfl,hR.mono s1,hg,fun db fb Hb s2 nb hB hkB hcB=>?_⟩;have s12:=s1.trans s2;refine⟨_,rfl,a,R,rfl,hR.mono s12,hg,ht,fun dh fh Hh s3 nh hH hkH hcH=>?_⟩;have s13:=s12.trans s3;have hcB':∀e∈fb,∀z,z∈e.2↔dF R e.1 z:=fun e he z=>(hcB e he).mem z
  have fb11:∀e∈fb,e.2.length<=11:=fun e he=>by
   obtain⟨D,h1,h2,h3⟩:=hcB e he;rw[h1,SL.dz];exact ht.gB h2 fun z hz=>by
    obtain⟨_,_,hb⟩:=(h3 z).mp hz;exact hb.sign.2
  have fh12:∀e∈fh,e.2.length<=12:=fun e he=>by
   obtain⟨D,h1,h2,h3⟩:=hcH e he;rw[h1,SL.dz];exact ht.yB h2 fun z hz=>by
    obtain⟨_,_,hb⟩:=(h3 z).mp hz;exact hb.sign
  refine⟨by decide,fun wl hwl=>?_⟩;have hwlH:H wl=none:=s13.free hwl;have hRh:=hR.mono s13;obtain⟨vs,hv,hp⟩:=id hRh;have hlen:vs.length=R.length:=Paired.length hp;have hEh:ak Hh qe es:=s3 _ _ (s2 _ _ hS1);have hBh:bg Hh db fb:=hB.mono s3;have l7:=ht.len;refine⟨_,rfl,a,rfl,⟨_,SqL.of (ab.upd hwl _ _ hv)⟩,aM (K:=K) (a:=a) (xs:=vs)
   (fun i σ H4=>∃o1 o2 o3,σ=[some (.ref a),some (.ref qe),some (.ref db),some (.ref dh),some (.ref wl),o1,o2,o3]/\bh u8 Hh wl H4 ((R.take i).map (uL es fb fh)))
   ⟨_,_,_,rfl,bh.zero hwl⟩ ?_ ?_ ?_⟩
  ·rintro i σ H4 _ ⟨_,_,_,_,hg4⟩;exact SqL.of ((hg4.fin ip).1 _ _ hv)
  ·rintro i x σ H4 hx ⟨o1,o2,o3,rfl,hg4⟩;obtain⟨p,t,c,hpi,rfl,htp,hc⟩:=bO hp hx;have hpm:p∈R:=aah hpi;have hil:i<R.length:=(aab.mp hpi).1;have s4:=(hg4.fin ip).1;have hc:Hh c=some (.lst (p.2.map V.str)):=hc;refine⟨t,_,rfl,SqT.of (s4 _ _ htp),rfl,_,_,rfl,_,_,rfl,rfl,?_⟩;have wd:∀{z:Str},z∈cb es fb p.2↔Wd R es p.2 z:=fun{z}=>im hkB hcB'
   have cl11:(aq (cb es fb p.2)).length<=11:=ht.gB (SL.bF _) fun z hz=>by
    have:=wd.mp (SL.bt.mp hz);exact this.sign (l:=p.1) (r:=p.2) hpm fun _ h=>h
   refine⟨fun σ H5=>∃wq,σ=[some (.ref a),some (.ref qe),some (.ref db),some (.ref dh),some (.ref wl),some (.str p.1),some (.ref c),some (.ref wq)]/\ab H4 H5/\ak H5 wq (srt (aq (cb es fb p.2))),?_,?_⟩
   ·refine⟨_,rfl,_,rfl,_,rfl,c,qe,db,p.2,es,fb,rfl,s4 _ _ hc,s4 _ _ hEh,?_,by have:=ht.wid p hpm;omega,fun e he=>Nat.le_trans (fb11 e he) (by decide),?_,fun q H5 s5 n5 hq5=>⟨q,rfl,s5,hq5⟩⟩
    ·obtain⟨kvs,h1,h2⟩:=hBh.mono s4;exact⟨kvs,.inl h1,h2⟩
    ·exact⟨aq (cb es fb p.2),by omega,fun z hz=>SL.bt.mpr hz⟩
   rintro σ H5 ⟨wq,rfl,s5,hwq⟩;have s45:=s4.trans s5;refine⟨fun σ H6=>∃wq,σ=[some (.ref a),some (.ref qe),some (.ref db),some (.ref dh),some (.ref wl),some (.str p.1),some (.ref c),some (.ref wq)]/\ab H4 H6/\ak H6 wq (srt (aq (cb es fb p.2))++if p.2.all (fun s=>decide (s∈es))=true then getL fh p.1 else []),?_,?_⟩
   ·refine⟨_,rfl,_,rfl,c,qe,p.2,es,rfl,s45 _ _ hc,s45 _ _ hEh,by have:=ht.wid p hpm;omega,fun H6 s6=>?_⟩;refine⟨_,rfl,?_⟩;have hwq6:H6 wq=some (.lst ((srt (aq (cb es fb p.2))).map V.str)):=s6 _ _ hwq;cases p.2.all (fun s=>decide (s∈es)) with
    |false=>
     refine aJ ⟨wq,rfl,s5.trans s6,?_⟩;rw[if_neg (by decide),List.append_nil];exact hwq6
    |true=>
     obtain⟨kvs,h1,h2⟩:=hH.mono (s45.trans s6);obtain⟨ys,e1,e2⟩:=cj (f:=fh) (x:=p.1) (by rw[hkH];exact aF.mpr (aao.mpr ⟨p,hpm,rfl⟩));rcases ej h2 p.1 with ⟨z1,_⟩|⟨ys',l,z1,z2,z3⟩
     ·rw[z1] at e1;cases e1
     ·rw[z1] at e1;cases e1;have z3:H6 l=some (.lst (ys.map V.str)):=z3;have hy12:=fh12 _ e2;refine a9 ⟨_,rfl,_,rfl,_,rfl,dh,_,rfl,.inl ⟨kvs,Sum.inr p.1,.inl h1,rfl,z2.symm⟩,wq,l,_,_,rfl,rfl,hwq6,z3,?_,fun q hq=>⟨q,rfl,(s5.trans s6).trans (ab.upd hq),?_⟩⟩
      ·rw[aaa,aaa,SL.dz];have hy12:ys.length<=12:=hy12;exact bE (by omega)
      ·unfold ak;rw[aa,if_pos rfl,gH z1,aam]
   rintro σ H6 ⟨wq,rfl,s6,hwq⟩;generalize hL:(srt (aq (cb es fb p.2))++if p.2.all (fun s=>decide (s∈es))=true then getL fh p.1 else [])=L at hwq;have hLl:L.length<=23:=by
    rw[←hL,aag,SL.dz];have:(if p.2.all (fun s=>decide (s∈es))=true then getL fh p.1 else []).length<=12:=by
     split
     ·obtain⟨ys,e1,e2⟩:=cj (f:=fh) (x:=p.1) (by rw[hkH];exact aF.mpr (aao.mpr ⟨p,hpm,rfl⟩));rw[gH e1];exact fh12 _ e2
     ·exact Nat.zero_le _
    omega
   have hg6:=hg4.on ip s6;obtain⟨ws,hw6,_⟩:=id hg6;have hwsl:=hg6.len hw6;rw[aaa,aal] at hwsl;have hwq:H6 wq=some (.lst (L.map V.str)):=hwq;have hol:=SL.eY L;refine⟨_,rfl,.inl ⟨rfl,_,SqL.of hw6⟩,_,rfl,wq,L,rfl,SqL.of hwq,by unfold scanBound;omega,fun q1 hq1=>⟨q1,aq L,rfl,.inr (.inl aa),by omega,fun q2 hq2=>?_⟩⟩;have s7:=(ab.upd (o:=dm w q1 (aq L)) hq1).trans (ab.upd (o:=HO.lst ((srt (aq L)).map V.str)) hq2);have hg7:=hg6.on ip s7;have hw7:=s7 _ _ hw6;refine⟨wl,ws,_,rfl,rfl,hw7,av (by omega),_,_,_,rfl,?_⟩;rw[aap,hpi,aam];refine hg7.add hwl hw7 ⟨q2,rfl,?_⟩;have n2:q2≠wl:=fun z=>by
    have:=ab.upd (o:=dm w q1 (aq L)) hq1 _ _ hw6;have hq2:upd H6 q1 (dm w q1 (aq L)) q2=none:=hq2;rw[←z,hq2] at this;cases this
   unfold ak uL;rw[hide_ne n2,aa,hL]
  ·rintro σ H4 ⟨o1,o2,o3,rfl,hg4⟩;rw[hlen,aas] at hg4;obtain⟨s4,hls⟩:=hg4.fin ip;exact⟨_,rfl,k wl _ H4 (s13.trans s4) hwlH hls fun p hp=>u9 hem hkB hcB hkH hcH hp⟩
end
end Nw
namespace Nw
open PySem L2
open SL (aq srt InP fV)
def c8(R:List Row)(u:Row->List Str)(i:Nat)(k:Str×Str):List Nat:=(List.range i).filter fun n=>decide ((br R n).1=k.1/\k.2∈u (br R n))
def d8(R:List Row)(u:Row->List Str)(i j:Nat)(k:Str×Str):List Nat:=c8 R u i k++if (br R i).1=k.1/\k.2∈(u (br R i)).take j then [i] else []
theorem sR(R:List Row)(u:Row->List Str)(k:Str×Str):c8 R u 0 k=[]:=rfl
theorem sS(R:List Row)(u:Row->List Str)(i:Nat):d8 R u i 0=c8 R u i:=by
 funext k
 unfold d8;rw[List.take_zero,if_neg (fun h=>by cases h.2),List.append_nil]
theorem vc(R:List Row)(u:Row->List Str)(i:Nat):d8 R u i (u (br R i)).length=c8 R u (i+1):=by
 funext k
 unfold d8 c8;rw[aas,List.range_succ,List.filter_append]
 congr 1
 by_cases q:(br R i).1=k.1/\k.2∈u (br R i)
 ·rw[if_pos q,List.filter_cons_of_pos (by exact aan q),List.filter_nil]
 ·rw[if_neg q,List.filter_cons_of_neg (by rw[aai q];exact Bool.false_ne_true),List.filter_nil]
theorem w6{l:List Str}(nd:l.Nodup){j:Nat}{z:Str}(h:l[j]? =some z):¬z∈l.take j:=fun hz=>by
 obtain⟨i,hi⟩:=List.mem_iff_getElem?.mp hz;have hlt:i<j:=by
  have:=(aab.mp hi).1;rw[aal] at this;omega
 rw[List.getElem?_take_of_lt hlt] at hi;obtain⟨h1,e1⟩:=aab.mp hi;obtain⟨h2,e2⟩:=aab.mp h;have:=(List.getElem_inj nd).mp (e1.trans e2.symm);omega
theorem sU{R:List Row}{u:Row->List Str}{i j:Nat}{z:Str}(nd:(u (br R i)).Nodup)(h:(u (br R i))[j]? =some z):d8 R u i (j+1) ((br R i).1,z)=d8 R u i j ((br R i).1,z)++[i]:=by
 unfold d8;rw[if_pos ⟨rfl,by rw[aap,h];exact aar _ (aaj.mpr rfl)⟩,if_neg (fun q=>w6 nd h q.2),List.append_nil]
theorem w8{R:List Row}{u:Row->List Str}{i j:Nat}{z:Str}(h:(u (br R i))[j]? =some z){k:Str×Str}(hk:k≠((br R i).1,z)):d8 R u i (j+1) k=d8 R u i j k:=by
 unfold d8;have:((br R i).1=k.1/\k.2∈(u (br R i)).take (j+1))↔((br R i).1=k.1/\k.2∈(u (br R i)).take j):=by
  rw[aap,h];refine⟨fun⟨h1,h2⟩=>⟨h1,?_⟩,fun⟨h1,h2⟩=>⟨h1,List.mem_append_left _ h2⟩⟩;rcases aak.mp h2 with h2|h2
  ·exact h2
  ·have:k.2=z:=by simpa using h2
   exact absurd (Prod.ext h1.symm this) hk
 by_cases q:(br R i).1=k.1/\k.2∈(u (br R i)).take j
 ·rw[if_pos q,if_pos (this.mpr q)]
 ·rw[if_neg q,if_neg fun z=>q (this.mp z)]
def nV(ns:List Nat):List V:=ns.map fun n=>V.int (n:Nat)
def kvN(ks:List (Str×Str))(la:Str×Str->Addr):List (List Key×V):=ks.map fun k=>(bG k,V.ref (la k))
theorem iq(la:Str×Str->Addr)(k:Str×Str):∀ks,bc (kvN ks la) (bG k)=if k∈ks then some (.ref (la k)) else none
 |[]=>rfl
 |j::ks=>by
  show bc ((bG j,V.ref (la j))::kvN ks la) (bG k)=_
  by_cases q:j=k
  ·subst q;rw[bV rfl,if_pos (aac ..)]
  ·rw[bW (fun z=>q (oM z)),iq la k ks]
   by_cases m:k∈ks
   ·rw[if_pos m,if_pos (aad _ m)]
   ·rw[if_neg m,if_neg (fun z=>(List.mem_cons.mp z).elim (fun e=>q e.symm) m)]
structure dj(H0 H:Hp)(d:Addr)(ks:List (Str×Str))(acc:Str×Str->List Nat)(la:Str×Str->Addr):Prop where
 at_:H d=some (.dT (kvN ks la))
 ls:∀k∈ks,H (la k)=some (.lst (nV (acc k)))
 inj:∀k∈ks,∀k'∈ks,la k=la k'->k=k'
 nd:ks.Nodup
 fd:H0 d=none
 fl:∀k∈ks,H0 (la k)=none
 sm:ab H0 H
 mem:∀k,k∈ks↔acc k≠[]
section
variable {H0 H H1:Hp}{d:Addr}{ks:List (Str×Str)}{acc acc':Str×Str->List Nat}{la:Str×Str->Addr}{k:Str×Str}{n:Nat}
theorem dj.on(N:dj H0 H d ks acc la)(s:ab H H1):dj H0 H1 d ks acc la:=⟨s _ _ N.at_,fun k hk=>s _ _ (N.ls k hk),N.inj,N.nd,N.fd,N.fl,N.sm.trans s,N.mem⟩
theorem dj.zero(h:H0 d=none)(e:H d=some (.dT []))(s:ab H0 H)(ha:∀k,acc k=[]):dj H0 H d [] acc la:=⟨e,fun k hk=>(by cases hk),fun k hk=>(by cases hk),List.nodup_nil,h,fun k hk=>(by cases hk),s,fun k=>⟨fun z=>(by cases z),fun z=>absurd (ha k) z⟩⟩
theorem dj.vS(N:dj H0 H d ks acc la)(hk:k∈ks):la k≠d:=fun z=>by
 have:=N.ls k hk;rw[z,N.at_] at this;cases this
theorem dj.old(N:dj H0 H d ks acc la)(hk:k∈ks)(h1:acc' k=acc k++[n])(h2:∀j,j≠k->acc' j=acc j):dj H0 (upd H (la k) (.lst (nV (acc k)++[.int (n:Nat)]))) d ks acc' la:=by
 refine⟨by rw[am (Ne.symm (N.vS hk))];exact N.at_,fun j hj=>?_,N.inj,N.nd,N.fd,N.fl,N.sm.bz (N.fl k hk),fun j=>?_⟩
 ·by_cases q:j=k
  ·subst q;rw[aa,h1];unfold nV;rw[aam];rfl
  ·rw[am (fun z=>q (N.inj j hj k hk z)),h2 j q];exact N.ls j hj
 ·by_cases q:j=k
  ·subst q;rw[h1];exact⟨fun _ z=>by simp at z,fun _=>hk⟩
  ·rw[h2 j q];exact N.mem j
theorem dj.new{q:Addr}(N:dj H0 H d ks acc la)(hk:¬k∈ks)(hq:H q=none){H1:Hp}(s:ab H H1)(hq1:H1 q=some (.lst []))(h1:acc' k=acc k++[n])(h2:∀j,j≠k->acc' j=acc j) :
  dj H0 (upd (upd H1 d (.dT (putK (kvN ks la) (bG k) (.ref q)))) q (.lst ([]++[.int (n:Nat)]))) d (ks++[k]) acc' (fun j=>if j=k then q else la j):=by
 have hqd:q≠d:=fun z=>by rw[z,N.at_] at hq;cases hq
 have hq0:H0 q=none:=N.sm.free hq;have hak:acc k=[]:=by
  cases e:acc k with
  |nil=>rfl
  |cons a b=>exact absurd ((N.mem k).mpr (by rw[e];exact fun z=>by cases z)) hk
 have ne:∀j∈ks,la j≠q:=fun j hj z=>by
  have:=N.ls j hj;rw[z,hq] at this;cases this
 have nk:∀j∈ks,j≠k:=fun j hj z=>hk (z▸hj)
 refine⟨?_,fun j hj=>?_,fun i hi j hj (e:(if i=k then q else la i)=(if j=k then q else la j))=>?_,dL N.nd hk,N.fd,fun j hj=>?_,?_,fun j=>?_⟩
 ·rw[am (Ne.symm hqd),aa,fw _ (by rw[iq,if_neg hk])];unfold kvN;rw[aam,List.map_singleton];show some (HO.dT (_++[(bG k,V.ref q)]))=some (HO.dT (_++[(bG k,V.ref (if k=k then q else la k))]));rw[if_pos rfl];have:ks.map (fun j=>(bG j,V.ref (la j)))=ks.map fun j=>(bG j,V.ref (if j=k then q else la j)):=List.map_congr_left fun j hj=>by rw[if_neg (nk j hj)]
  rw[this]
 ·rcases aak.mp hj with hj|hj
  ·show upd _ _ _ (if j=k then q else la j)=_;rw[if_neg (nk j hj),am (ne j hj),am (N.vS hj),h2 j (nk j hj)];exact s _ _ (N.ls j hj)
  ·show upd _ _ _ (if j=k then q else la j)=_;rw[aaj.mp hj,if_pos rfl,aa,h1,hak];rfl
 ·rcases aak.mp hi with hi|hi <;> rcases aak.mp hj with hj|hj
  ·rw[if_neg (nk i hi),if_neg (nk j hj)] at e;exact N.inj i hi j hj e
  ·rw[if_neg (nk i hi),aaj.mp hj,if_pos rfl] at e;exact absurd e (ne i hi)
  ·rw[if_neg (nk j hj),aaj.mp hi,if_pos rfl] at e;exact absurd e.symm (ne j hj)
  ·rw[aaj.mp hi,aaj.mp hj]
 ·rcases aak.mp hj with hj|hj
  ·show H0 (if j=k then q else la j)=_;rw[if_neg (nk j hj)];exact N.fl j hj
  ·show H0 (if j=k then q else la j)=_;rw[aaj.mp hj,if_pos rfl];exact hq0
 ·exact((N.sm.trans s).bz N.fd).bz hq0
 ·by_cases q':j=k
  ·subst q';rw[h1];exact⟨fun _ z=>by simp at z,fun _=>aar _ (aaj.mpr rfl)⟩
  ·rw[h2 j q',aak,aaj];exact⟨fun z=>(N.mem j).mp (z.elim id fun z=>absurd z q'),fun z=>.inl ((N.mem j).mpr z)⟩
end
abbrev Us:=(Str×Str)×List Nat
def fL(H:Hp)(v:V)(e:Us):Prop:=∃t l,v=.ref t/\H t=some (.tup [.str e.1.1,.str e.1.2,.ref l])/\H l=some (.lst (nV e.2))
theorem cz:jo fL:=fun _ _ _ _ s ⟨t,l,h1,h2,h3⟩=>⟨t,l,h1,s _ _ h2,s _ _ h3⟩
def oT(H:Hp)(q:Addr)(U:List Us):Prop:=∃vs,H q=some (.lst vs)/\Paired (fL H) vs U
structure eK(R:List Row)(U:List Us):Prop where
 inp:InP (U.map (·.1))
 nd:(U.map (·.1)).Nodup
 mem:∀s z,(s,z)∈U.map (·.1)↔∃p∈R,p.1=s/\Use R p z
 asc:∀e∈U,e.2.Pairwise (· < ·)
 num:∀e∈U,∀n,n∈e.2↔∃p,R[n]? =some p/\p.1=e.1.1/\Use R p e.1.2
theorem nat_eq:∀{l l':List Nat},l.Pairwise (· < ·)->l'.Pairwise (· < ·)->(∀n,n∈l↔n∈l')->l=l':=fun{l l'} h h' e=>by
 have nd:∀{l:List Nat},l.Pairwise (· < ·)->l.Nodup:=fun h=>h.imp fun z=>Nat.ne_of_lt z
 refine List.Perm.eq_of_pairwise (le:=(· < ·)) (fun a b _ _ x y=>absurd x (Nat.lt_asymm y)) h h' ((List.perm_ext_iff_of_nodup (nd h) (nd h')).mpr e)
theorem eK.eq{R:List Row}{U U':List Us}(h:eK R U)(h':eK R U'):U=U':=by
 have hk:U.map (·.1)=U'.map (·.1):=fV h.inp h'.inp ((List.perm_ext_iff_of_nodup h.nd h'.nd).mpr fun⟨s,z⟩=>(h.mem s z).trans (h'.mem s z).symm);have key:∀{U U':List Us},U.map (·.1)=U'.map (·.1)->(∀e∈U,∀e'∈U',e.1=e'.1->e.2=e'.2)->U=U':=by
  intro U
  induction U with
  |nil=>
   intro U' e _;cases U' with
   |nil=>rfl
   |cons a b=>cases e
  |cons a b ih=>
   intro U' e hh;cases U' with
   |nil=>cases e
   |cons a' b'=>
    rw[aaw,aaw] at e;injection e with e1 e2;rw[ih e2 fun x hx y hy=>hh x (aad _ hx) y (aad _ hy)];rw[Prod.ext e1 (hh a (aac ..) a' (aac ..) e1)]
 refine key hk fun e he e' he' q=>nat_eq (h.asc e he) (h'.asc e' he') fun n=>?_
 rw[h.num e he,h'.num e' he',q]
theorem sV{R:List Row}{u:Row->List Str}(hu:∀p∈R,Canon (Use R p) (u p)){ks zs:List (Str×Str)}(hmem:∀k,k∈ks↔c8 R u R.length k≠[])(hnd:ks.Nodup)(hp:zs.Perm ks)(hin:InP zs):eK R (zs.map fun k=>(k,c8 R u R.length k)):=by
 have em:(zs.map fun k=>((k,c8 R u R.length k):Us)).map (·.1)=zs:=by rw[List.map_map];exact List.map_id _
 have rn:∀n p,R[n]? =some p->br R n=p:=fun n p h=>by unfold br;rw[aat,h];rfl
 have key:∀k n,n∈c8 R u R.length k↔∃p,R[n]? =some p/\p.1=k.1/\Use R p k.2:=fun k n=>by
  unfold c8;rw[List.mem_filter,List.mem_range];constructor
  ·rintro⟨hn,hd⟩;have hd:=of_decide_eq_true hd;have e:=rn n _ (aae hn);rw[e] at hd;exact⟨_,aae hn,hd.1,((hu _ (List.getElem_mem hn)).mem _).mp hd.2⟩
  ·rintro⟨p,hp,h1,h2⟩;refine⟨(aab.mp hp).1,aan ?_⟩;rw[rn n p hp];exact⟨h1,((hu _ (aah hp)).mem _).mpr h2⟩
 refine⟨by rw[em];exact hin,by rw[em];exact hp.nodup_iff.mpr hnd,fun s z=>?_,fun e he=>?_,fun e he n=>?_⟩
 ·rw[em,hp.mem_iff,hmem];constructor
  ·intro h;cases q:c8 R u R.length (s,z) with
   |nil=>exact absurd q h
   |cons n l=>
    obtain⟨p,h1,h2,h3⟩:=(key (s,z) n).mp (by rw[q];exact aac ..);exact⟨p,aah h1,h2,h3⟩
  ·rintro⟨p,hp,h1,h2⟩ q;obtain⟨n,hn⟩:=List.mem_iff_getElem?.mp hp;have:=(key (s,z) n).mpr ⟨p,hn,h1,h2⟩;rw[q] at this;cases this
 ·obtain⟨k,_,rfl⟩:=aao.mp he;exact List.Pairwise.filter _ List.pairwise_lt_range
 ·obtain⟨k,_,rfl⟩:=aao.mp he;exact key k n
end Nw
namespace Nw
open PySem L2
open SL (aq srt InP fV)
theorem Use.sign{R:List Row}{p:Row}{z:Str}(h:Use R p z)(hp:p∈R):z=""\/∃p∈R,z∈p.2:=by
 obtain⟨es,_,h|⟨_,h⟩⟩:=h
 ·exact .inr (h.sign (l:=p.1) (r:=p.2) hp fun _ h=>h)
 ·exact h.sign
def jt(R:List Row):Prop:=∃S:List Str,S.length<=3/\∀p∈R,p.1∈S
theorem oU{R:List Row}(h3:jt R)(ht:Tight R){ks:List (Str×Str)}(nd:ks.Nodup)(h:∀k∈ks,∃p∈R,p.1=k.1/\Use R p k.2):ks.length<=36:=by
 obtain⟨S,hS,hm⟩:=h3;obtain⟨U,hU,hu⟩:=ht.few;have h1:=Gram.bT (m:=S.flatMap fun s=>(("":Str)::U).map fun z=>(s,z)) nd fun k hk=>by
  obtain⟨p,hp,e,hz⟩:=h k hk;refine List.mem_flatMap.mpr ⟨k.1,e▸hm p hp,aao.mpr ⟨k.2,?_,rfl⟩⟩;rcases hz.sign hp with e|⟨q,hq,hz⟩
  ·rw[e];exact aac ..
  ·exact aad _ (hu q hq _ hz)
 have h2:=fF (fun s:Str=>(("":Str)::U).map fun z=>(s,z)) 12 S fun s _=>by rw[aaa,aau];omega
 omega
theorem ir{R:List Row}{n:Nat}{p:Row}(h:R[n]? =some p):br R n=p:=by unfold br;rw[aat,h];rfl
theorem oV{R:List Row}{u:Row->List Str}(hu:∀p∈R,Canon (Use R p) (u p)){i:Nat}(hi:i<=R.length){k:Str×Str}(h:c8 R u i k≠[]):∃p∈R,p.1=k.1/\Use R p k.2:=by
 cases q:c8 R u i k with
 |nil=>exact absurd q h
 |cons n l=>
  have hn:n∈c8 R u i k:=by rw[q];exact aac ..
  unfold c8 at hn;obtain⟨h1,h2⟩:=List.mem_filter.mp hn;have h1:=List.mem_range.mp h1;have h2:=of_decide_eq_true h2;have hl:n<R.length:=by omega
  have e:=ir (aae hl);rw[e] at h2;exact⟨R[n],List.getElem_mem hl,h2.1,((hu _ (List.getElem_mem hl)).mem _).mp h2.2⟩
theorem vd{R:List Row}{u:Row->List Str}(hu:∀p∈R,Canon (Use R p) (u p)){i j:Nat}(hi:i<R.length){k:Str×Str}(h:d8 R u i j k≠[]):∃p∈R,p.1=k.1/\Use R p k.2:=by
 by_cases q:(br R i).1=k.1/\k.2∈(u (br R i)).take j
 ·have e:=ir (aae hi);rw[e] at q;exact⟨R[i],List.getElem_mem hi,q.1,((hu _ (List.getElem_mem hi)).mem _).mp (List.mem_of_mem_take q.2)⟩
 ·unfold d8 at h;rw[if_neg q,List.append_nil] at h;exact oV hu (Nat.le_of_lt hi) h
theorem oW(R:List Row)(u:Row->List Str)(i:Nat)(k:Str×Str):(c8 R u i k).length<=i:=by
 unfold c8;have:=List.length_filter_le (fun n=>decide ((br R n).1=k.1/\k.2∈u (br R n))) (List.range i);rw[List.length_range] at this;exact this
theorem ve(R:List Row)(u:Row->List Str)(i j:Nat)(k:Str×Str):(d8 R u i j k).length<=i+1:=by
 unfold d8;have:=oW R u i k;rw[aag];split
 ·rw[aav];omega
 ·rw[List.length_nil];omega
theorem iu(ns:List Nat):(nV ns).length=ns.length:=aaa ..
theorem vf(ks:List (Str×Str))(la:Str×Str->Addr):(kvN ks la).map (fun kv=>cm kv.1)=ks:=by
 unfold kvN;rw[List.map_map];exact List.map_id _
theorem xa{n:Nat}{M N:List Str}{x:Str}(h1:M[n]? =some x)(h2:N[2]? =some x):∀(j i:Nat),([none,none,some n]:List (Option Nat))[j]? =some (some i)->M[i]? =some x/\N[j]? =some x:=by
 intro j i h;rcases j with _|_|_|j
 ·cases h
 ·cases h
 ·cases h;exact⟨h1,h2⟩
 ·cases h
theorem ju{H H1:Hp}{wl:Addr}(h:H wl=none)(s:ab H H1):ab H (hide wl H1):=fun b o e=>by
 rw[hide_ne (fun z=>by rw[z,h] at e;cases e)];exact s b o e
theorem _root_.L2.pR{X:Cx}{K:PySem.W.Frag}{pos:Pos}{es:List Expr}{k:Nat}{t:TGs}{n:Nat}(hK:X.K=K)(hc:X.calm=true)(h:PGs X es t)
  (hn:(assignEach es X.env).length=n:=by rfl)(hst:(assignEach es X.env).findIdx? (·.1)=none:=by rfl):PG X (.Tuple es k pos) (xt K n t):=hK▸cJ hc h hn hst
abbrev vg:Stmt:=top 43
theorem lc:aD ["rows","numbers","number","words","word"] ["rows"] (au vg):=⟨rfl,rfl,rfl,by decide +kernel,rfl,by decide +kernel,by decide +kernel⟩
def qV:Sp:=fun vs H Q _=>∃(a:Addr) (R:List Row),vs=[.ref a]/\a7 H a R/\Good R/\Tight R/\jt R/\∀q U H',ab H H'->oT H' q U->eK R U->U.length<=36->(∀e∈U,e.2.length<=7)->Q (.ref q) H'
section
variable {P:Program}{w:World}{K:PySem.W.Frag}{mg:Str->Option Value}{base:Heap}
theorem yD{f:Addr}{fd:FuncData}(F:Fun K "uses_in_order" "uses_in_order" vg f fd)(T:Txt mg)(hEn:mg "enumerate"=none)(D1:Def P w K mg base "words_to_use_rows" 7 ["rows"] qU):a0 P w K mg base CX0 8 f fd ["rows"] qV:=by
 refine F.ok lc (fun vs H Q E h=>?_) (fun cdv A outer s H vs Q E hr h=>?_)
 ·obtain⟨a,R,rfl,_⟩:=h;rfl
 ·obtain⟨a,R,rfl,hR,hg,ht,h3,k⟩:=h;have hu:=cv hr;refine⟨_,af (ao (i:=1) lc.nd rfl (Or.inr rfl) j5)
   (aV (aO PassesOwn.never rfl (ik (by rfl) hEn (ag (aw D1 hr (by rfl) (ag (pv 0) ac)) ac)) (cJ (n:=2) rfl (aH (ap (i:=2) lc.nd rfl (Or.inl rfl)) (aH (ap (i:=3) lc.nd rfl (Or.inl rfl)) cg)))
    (ai (aO PassesOwn.never rfl (aB (pv 3)) (ap (i:=4) lc.nd rfl (Or.inl rfl))
     (ai (bp (bY PySem.F.plainAttrs_list PySem.F.slot_list_append PySem.F.type_list_append a8
      (wV hu (pv 1) (aP (ag (aE aU (aE bb (pv 0) (pv 2) (fun _ _=>rfl)) az (fun _ _=>rfl)) (ag (pv 4) ac))) (aW ac) ⟨rfl,rfl,rfl,rfl⟩) (ag (pv 2) ac)))))))
   (ai (aI (cY (aX.one (N:=["sort","word","numbers"]) (sel:=[none,none,some 1]) "numbers" (by rfl) (by rfl) (by rfl) (by decide) (by decide) (by rfl) (by rfl) ⟨_,rfl,rfl⟩ (by rfl) (xa rfl rfl)) rfl
    (aB (aC (oF rfl) (by rfl) T.srt PyProof.Rows.boot_sorted (ag (pv 1) ac)))
    (fun s₃ H₃ fp=>pR (K:=K) (n:=2) rfl rfl (aH (ap (i:=0) (show(["sort","word","numbers"]:List Str).Nodup by decide) rfl (Or.inl rfl)) (aH (ap (i:=1) (show(["sort","word","numbers"]:List Str).Nodup by decide) rfl (Or.inl rfl)) cg)))
    (fun s₃ H₃ fp=>dc)
    (fun s₃ H₃ fp=>aP (ag (pv 0) (ag (pv 1) (ag (bI (X:=cC _ _ _ _ _ _ _) hu (pv 2) (aP (ag (pv 0) (ag (pv 1) ac))) (fun _ _=>rfl)) ac)))))))),?_⟩
  intro d hd;have s0:=ab.upd (o:=HO.dT []) hd;have hR1:=hR.mono s0;refine⟨fun σ H4=>∃ks la u o1 o2 o3 H0,σ=[some (.ref a),some (.ref d),o1,o2,o3]/\(∀p∈R,Canon (Use R p) (u p))/\dj H0 H4 d ks (c8 R u R.length) la/\ab H H0,?_,?_⟩
  ·refine⟨_,rfl,a,R,rfl,hR1,hg,ht,fun q u H1 s1 n1 hls hcan=>?_⟩;obtain⟨vs,hv,hp⟩:=hls;have hd1:H1 d=some (.dT []):=s1 _ _ aa;have hqd:q≠d:=fun z=>by rw[z,aa] at n1;cases n1
   have hlen:vs.length=R.length:=by rw[Paired.length hp,aaa]
   have sB:ab (hide d H1) H1:=ab.fj;have sHB:ab H (hide d H1):=ju hd (s0.trans s1);have hvB:hide d H1 q=some (.lst vs):=by rw[hide_ne hqd];exact hv
   have l7:=ht.len;refine⟨q,rfl,⟨_,SqL.of hv⟩,gE (K:=K) (a:=q) (xs:=vs)
    (fun i σ H4=>∃ks la o1 o2 o3,σ=[some (.ref a),some (.ref d),o1,o2,o3]/\dj (hide d H1) H4 d ks (c8 R u i) la)
    ⟨[],fun _=>0,_,_,_,rfl,dj.zero (by unfold hide;rw[if_pos rfl]) hd1 sB fun k=>sR R u k⟩ ?_ ?_ ?_⟩
   ·rintro i σ H4 _ ⟨_,_,_,_,_,_,N⟩;exact SqL.of (N.sm _ _ hvB)
   ·rintro i x t σ H4 hx ⟨ks,la,o1,o2,o3,rfl,N⟩ htt;obtain⟨ss,hss,b,rfl,hb⟩:=aT hp i x hx;rw[aax] at hss;obtain⟨p,hpi,rfl⟩:∃p,R[i]? =some p/\u p=ss:=by
     cases e:R[i]? with
     |none=>rw[e] at hss;cases hss
     |some p=>
      rw[e] at hss;exact⟨p,rfl,Option.some.inj hss⟩
    have hpm:p∈R:=aah hpi;have hil:i<R.length:=(aab.mp hpi).1;have eN:=ir hpi;have hb:H1 b=some (.lst ((u p).map V.str)):=hb;have hbB:hide d H1 b=some (.lst ((u p).map V.str)):=by rw[hide_ne (fun z=>by rw[z,hd1] at hb;cases hb)];exact hb
    have und:(u p).Nodup:=by
     obtain⟨D,e1,e2,_⟩:=hcan p hpm;rw[e1];exact SL.fQ e2
    have N1:=N.on (ab.upd (o:=HO.tup [.int i,.ref b]) htt);refine⟨t,_,rfl,SqT.of aa,rfl,_,_,rfl,_,_,rfl,rfl,?_⟩;generalize upd H4 t (.tup [.int i,.ref b])=H5 at N1;refine⟨_,rfl,b,rfl,⟨_,SqL.of (N1.sm _ _ hbB)⟩,aM (K:=K) (a:=b) (xs:=(u p).map V.str)
     (fun j σ H6=>∃ks la o3,σ=[some (.ref a),some (.ref d),some (.int i),some (.ref b),o3]/\dj (hide d H1) H6 d ks (d8 R u i j) la)
     ⟨ks,la,_,rfl,by rw[sS];exact N1⟩ ?_ ?_ ?_⟩
    ·rintro j σ H6 _ ⟨_,_,_,_,N6⟩;exact SqL.of (N6.sm _ _ hbB)
    ·rintro j x σ H6 hx ⟨ks,la,o3,rfl,N6⟩;obtain⟨z,hz,rfl⟩:=aZ hx;have hz':(u (br R i))[j]? =some z:=by rw[eN];exact hz
     have hkl:ks.length<=36:=oU h3 ht N6.nd fun k hk=>vd hcan hil ((N6.mem k).mp hk)
     have e1:=sU (R:=R) (u:=u) (i:=i) (j:=j) (z:=z) (by rw[eN];exact und) hz';rw[eN] at e1;have e2:∀k,k≠(p.1,z)->d8 R u i (j+1) k=d8 R u i j k:=fun k hk=>w8 hz' (by rw[eN];exact hk)
     obtain⟨rs,hrs,hrp⟩:=id (hR.mono sHB);obtain⟨v0,hv0⟩:∃v0,rs[i]? =some v0:=⟨_,aae (by rw[Paired.length hrp];exact hil)⟩;obtain⟨p',tt,c,hp',rfl,htt,hc⟩:=bO hrp hv0;rw[hpi] at hp';cases hp';refine⟨_,rfl,d,rfl,.inr ⟨_,.inl N6.at_⟩,_,rfl,_,rfl,a,_,(i:Int),_,rfl,rfl,SqL.of (N6.sm _ _ hrs),aA hv0,tt,_,0,_,rfl,rfl,SqT.of (N6.sm _ _ htt),aA (j:=0) rfl,_,rfl,(show 2<=sizeLine by decide),fun t2 ht2=>⟨by decide,fun q2 hq2=>?_⟩⟩;have s7:=ab.upd (o:=HO.tup [.str p.1,.str z]) ht2;have s8:=ab.upd (o:=HO.lst []) hq2;have N7:=N6.on s7;have N8:=N7.on s8;have hl8:=ve R u i j (p.1,z);refine⟨_,bG (p.1,z),t2,N8.at_,rfl,s8 _ _ aa,by unfold kvN;rw[aaa];exact av (by omega),fun v hv=>?_,fun hn=>?_⟩
     ·rw[iq] at hv
      by_cases m:(p.1,z)∈ks
      ·rw[if_pos m] at hv;cases hv
       exact⟨.inl ⟨rfl,_,SqL.of (N8.ls _ m)⟩,_,rfl,la (p.1,z),_,_,rfl,rfl,N8.ls _ m,by rw[iu];exact av (by omega),ks,la,_,rfl,N8.old m e1 e2⟩
      ·rw[if_neg m] at hv;cases hv
     ·rw[iq] at hn
      by_cases m:(p.1,z)∈ks
      ·rw[if_pos m] at hn;cases hn
      ·have hq2':q2≠d:=fun q=>by rw[q,N7.at_] at hq2;cases hq2
       have at9:∀o,upd (upd (upd H6 t2 (.tup [.str p.1,.str z])) q2 (.lst [])) d o q2=some (.lst []):=fun o=>by rw[am hq2',aa]
       exact⟨.inl ⟨rfl,_,SqL.of (at9 _)⟩,_,rfl,q2,_,_,rfl,rfl,at9 _,by decide,ks++[(p.1,z)],_,_,rfl,N7.new m hq2 s8 aa e1 e2⟩
    ·rintro σ H6 ⟨ks,la,o3,rfl,N6⟩;have e:=vc R u i;rw[eN] at e;rw[aaa,e] at N6;exact⟨ks,la,_,_,_,rfl,N6⟩
   ·rintro σ H4 ⟨ks,la,o1,o2,o3,rfl,N⟩;rw[hlen] at N;exact⟨ks,la,u,_,_,_,_,rfl,hcan,N,sHB⟩
  rintro σ H4 ⟨ks,la,u,o1,o2,o3,H0,rfl,hcan,N,sH⟩;have hkl:ks.length<=36:=oU h3 ht N.nd fun k hk=>oV hcan (Nat.le_refl _) ((N.mem k).mp hk)
  have hkvl:(kvN ks la).length=ks.length:=aaa ..;refine⟨_,rfl,d,kvN ks la,rfl,N.at_,by omega,fun kv hkv=>?_,fun q zs hq hperm hin hat=>?_⟩
  ·obtain⟨k',_,rfl⟩:=aao.mp hkv;exact⟨k'.1,k'.2,rfl⟩
  rw[vf] at hperm;have sq:=ab.upd (o:=HO.lst (zs.map fun z=>V.ref z.2)) hq;have N5:=N.on sq;have hzl:zs.length=ks.length:=by
   have:=hperm.length_eq;rw[aaa] at this;exact this
  generalize hH5:upd H4 q (.lst (zs.map fun z=>V.ref z.2))=H5 at sq N5;have hq5:H5 q=some (.lst (zs.map fun z=>V.ref z.2)):=by rw[←hH5];exact aa
  refine⟨q,rfl,⟨_,SqL.of hq5⟩,fun D hD=>gJ (K:=K) (xs:=zs.map fun z=>V.ref z.2) (fun j τ H6=>(∃o1 o2,τ=[o1,o2,some (.ref d)])/\bh fL H5 D H6 ((zs.take j).map fun z=>(z.1,c8 R u R.length z.1))) ⟨⟨_,_,rfl⟩,bh.zero hD⟩ ?_ ?_ ?_⟩
  ·rintro j τ H6 ⟨_,hg6⟩;exact SqL.of ((hg6.fin cz).1 _ _ hq5)
  ·rintro j x τ H6 hx ⟨⟨o1,o2,rfl⟩,hg6⟩;rw[aax] at hx;cases hz:zs[j]? with
   |none=>rw[hz] at hx;cases hx
   |some z=>
    rw[hz] at hx;have hx:some (V.ref z.2)=some x:=hx;injection hx with hx;subst hx;have hzm:z∈zs:=aah hz;have hjl:j<zs.length:=(aab.mp hz).1;have s6:=(hg6.fin cz).1;have hzk:z.1∈ks:=hperm.mem_iff.mp (aao.mpr ⟨z,hzm,rfl⟩);have hz6:H6 z.2=some (.tup [.str z.1.1,.str z.1.2]):=s6 _ _ (sq _ _ (hat z hzm));refine⟨z.2,_,rfl,SqT.of hz6,rfl,_,_,rfl,_,_,rfl,rfl,?_⟩;dsimp only[mG];rw[if_pos rfl];refine⟨_,rfl,_,rfl,_,rfl,_,rfl,_,rfl,(show 2<=sizeLine by decide),fun t1 ht1=>?_⟩;have s7:=ab.upd (o:=HO.tup [.str z.1.1,.str z.1.2]) ht1;have N7:=(N5.on s6).on s7;refine⟨d,.ref (la z.1),rfl,?_,(show 3<=sizeLine by decide),fun t2 ht2=>?_⟩
    ·have:=bP.t (k:=bG z.1) N7.at_ aa;rw[iq,if_pos hzk] at this;exact this
    ·have s8:=ab.upd (o:=HO.tup [.str z.1.1,.str z.1.2,.ref (la z.1)]) ht2;have hg8:=hg6.on cz (s7.trans s8);obtain⟨ys,hy,_⟩:=id hg8;have hyl:=hg8.len hy;rw[aaa,aal] at hyl;refine⟨ys,hy,av (by omega),⟨_,_,rfl⟩,?_⟩;rw[aap,hz,aam];refine hg8.add hD hy ⟨t2,la z.1,rfl,?_,?_⟩
     ·have:t2≠D:=fun e=>by
       obtain⟨y6,hy6,_⟩:=id hg6;rw[e,s7 _ _ hy6] at ht2;cases ht2
      rw[hide_ne this];exact aa
     ·exact ju hD ((s6.trans s7).trans s8) _ _ (N5.ls _ hzk)
  ·rintro τ H6 ⟨_,hg6⟩;rw[aaa,aas] at hg6;obtain⟨s6,hus⟩:=hg6.fin cz;have eU:(zs.map fun z=>((z.1,c8 R u R.length z.1):Us))=(zs.map (·.1)).map fun k=>(k,c8 R u R.length k):=by rw[List.map_map];rfl
   refine k D _ H6 (((sH.trans N.sm).trans sq).trans s6) hus ?_ (by rw[aaa];omega) fun e he=>?_
   ·rw[eU];exact sV hcan N.mem N.nd hperm hin
   ·obtain⟨z,_,rfl⟩:=aao.mp he;have:=oW R u R.length z.1;have:=ht.len;show(c8 R u R.length z.1).length<=7;omega
end
end Nw
namespace Nw
open PySem L2
open SL (aq srt InP fV)
def e6(U:List Us):Option Us:=U.find? fun e=>decide (1<e.2.length)
abbrev sFc:Stmt:=top 44
theorem yE:aD ["uses","use"] ["uses"] (au sFc):=⟨rfl,rfl,rfl,by decide +kernel,rfl,by decide +kernel,by decide +kernel⟩
def vh:Sp:=fun vs H Q _=>∃(a:Addr) (U:List Us),vs=[.ref a]/\oT H a U/\(e6 U=none->Q .non H)/\∀e v,e6 U=some e->fL H v e->Q v H
theorem jv{α:Type}{q:α->Bool}:∀{l:List α} {i:Nat} {x:α},(∀y∈l.take i,q y=false)->l[i]? =some x->q x=true->l.find? q=some x
 |[],i,x,_,h,_=>by simp at h
 |y::l,0,x,_,h,hx=>by
  simp at h;subst h;rw[List.find?_cons_of_pos hx]
 |y::l,i+1,x,hn,h,hx=>by
  have hy:q y=false:=hn y (by simp);rw[List.find?_cons_of_neg (by rw[hy];exact Bool.false_ne_true)];exact jv (i:=i) (fun z hz=>hn z (by rw[List.take_succ_cons];exact aad _ hz)) (by simpa using h) hx
section
variable {P:Program}{w:World}{K:PySem.W.Frag}{mg:Str->Option Value}{base:Heap}
theorem zo{f:Addr}{fd:FuncData}(F:Fun K "first_clash" "first_clash" sFc f fd)(T:Txt mg):a0 P w K mg base CX0 1 f fd ["uses"] vh:=by
 refine F.ok yE (fun vs H Q E h=>?_) (fun cdv A outer s H vs Q E hr h=>?_)
 ·obtain⟨a,U,rfl,_⟩:=h;rfl
 ·obtain⟨a,U,rfl,hU,k1,k2⟩:=h;refine⟨_,af (aO PassesOwn.never rfl (aB (pv 0)) (ap (i:=1) yE.nd rfl (Or.inl rfl))
    (ai (bi (aK pY (aC bq (by rfl) T.len PySem.boot_len (ag (aE aU (pv 1) az (fun _ _=>rfl)) ac)) az (bB _)) (ai (aI (pv 1))) aY)))
   (ai (aI e7)),?_⟩
  obtain⟨vs,hv,hp⟩:=hU;have hlen:vs.length=U.length:=Paired.length hp;refine⟨_,rfl,a,rfl,⟨_,SqL.of hv⟩,aM (K:=K) (a:=a) (xs:=vs)
   (fun i σ H1=>H1=H/\(∃o,σ=[some (.ref a),o])/\∀e∈U.take i,decide (1<e.2.length)=false) ⟨rfl,⟨_,rfl⟩,fun e he=>by cases he⟩ ?_ ?_ ?_⟩
  ·rintro i σ H1 _ ⟨rfl,_⟩;exact SqL.of hv
  ·rintro i x σ H1 hx ⟨rfl,⟨o,rfl⟩,hall⟩;obtain⟨e,he,hu⟩:=aT hp i x hx;obtain⟨t,l,rfl,ht,hl⟩:=id hu;refine⟨_,rfl,t,_,2,_,rfl,rfl,SqT.of ht,aA (j:=2) rfl,l,_,rfl,.inl (SqL.of hl),_,_,rfl,rfl,_,rfl,?_⟩
   by_cases q:1<e.2.length
   ·have:decide ((1:Int)<((nV e.2).length:Int))=true:=aan (by rw[iu];omega);show if decide ((1:Int)<((nV e.2).length:Int))=true then _ else _
    rw[this];exact a9 ⟨_,rfl,k2 e _ (jv hall he (aan q)) hu⟩
   ·have:decide ((1:Int)<((nV e.2).length:Int))=false:=aai (by rw[iu];omega);show if decide ((1:Int)<((nV e.2).length:Int))=true then _ else _
    rw[this];refine aJ ⟨rfl,⟨_,rfl⟩,fun y hy=>?_⟩;rw[aap,he] at hy;rcases aak.mp hy with hy|hy
    ·exact hall y hy
    ·have:y=e:=by simpa using hy
     rw[this];exact aai q
  ·rintro σ H1 ⟨rfl,⟨o,rfl⟩,hall⟩;rw[hlen,aas] at hall;refine k1 (List.find?_eq_none.mpr fun e he=>?_);rw[hall e he];exact Bool.false_ne_true
end
abbrev vm:Stmt:=top 42
theorem lg:aD ["rows","uses","clash","word","numbers"] ["rows"] (au vm):=⟨rfl,rfl,rfl,by decide +kernel,rfl,by decide +kernel,by decide +kernel⟩
def ki(e:Us):D:=.tup [.str e.1.1,.str e.1.2,.int ((e.2.headD 0:Nat):Int)]
def oX(U:List Us):D:=.tup [.str "table",.lst (U.map ki)]
def Told(H:Hp)(U:List Us)(v:V):Prop:=(e6 U=none/\Rep H v (oX U))\/∃(e:Us) (n1 n2:Nat) (rest:List Nat) (t x y:Addr) (x1 x2 y1 y2:V),e6 U=some e/\e.2=n1::n2::rest/\v=.ref t/\
 H t=some (.tup [.str "clash",.str e.1.1,.str e.1.2,.ref x,.ref y])/\H x=some (.tup [.int (n1:Nat),x1,x2])/\H y=some (.tup [.int (n2:Nat),y1,y2])
def qW(TP:Addr):Sp:=fun vs H Q _=>∃(a:Addr) (R:List Row),vs=[.ref a]/\a7 H a R/\Good R/\Tight R/\jt R/\(∀p∈R,¬("":Str)∈p.2)/\cW TP iS tmQ H/\
 ∀v U H',eK R U->U.length<=36->(∀e∈U,e.2.length<=7)->df TP H H'->cW TP iS tmQ H'->Told H' U v->Q v H'
def oY(H:Hp)(v:V)(e:Us):Prop:=∃t,v=.ref t/\H t=some (.tup [.str e.1.1,.str e.1.2,.int ((e.2.headD 0:Nat):Int)])
theorem dQ:jo oY:=fun _ _ _ _ s ⟨t,h1,h2⟩=>⟨t,h1,s _ _ h2⟩
theorem sW{H:Hp}{v:V}{e:Us}(h:oY H v e):Rep H v (ki e):=by
 obtain⟨t,rfl,ht⟩:=h;refine .tup ht rfl fun i x d e1 e2=>?_
 rcases i with _|_|_|i
 ·cases e1;cases e2;exact .str _
 ·cases e1;cases e2;exact .str _
 ·cases e1;cases e2;exact .int _
 ·cases e1
section
variable {P:Program}{w:World}{K:PySem.W.Frag}{mg:Str->Option Value}{base:Heap}
theorem yF{TP f:Addr}{fd:FuncData}(F:Fun K "table_of" "table_of" vm f fd)(D1:Def P w K mg base "uses_in_order" 8 ["rows"] qV)(D2:Def P w K mg base "first_clash" 1 ["uses"] vh)(D3:Def P w K mg base "use_shown" 4 ["rows","number","word"] (u7 TP)) :
  a0 P w K mg base CX0 9 f fd ["rows"] (qW TP):=by
 refine F.ok lg (fun vs H Q E h=>?_) (fun cdv A outer s H vs Q E hr h=>?_)
 ·obtain⟨a,R,rfl,_⟩:=h;rfl
 ·obtain⟨a,R,rfl,hR,hg,ht,h3,hne,hT,k⟩:=h;have hr4:bu 4 _:=hr.mono (by decide);have hr1:bu 1 _:=hr.mono (by decide);refine⟨_,af (ao (i:=1) lg.nd rfl (Or.inl rfl) (aw D1 hr (by rfl) (ag (pv 0) ac)))
   (af (ao (i:=2) lg.nd rfl (Or.inl rfl) (aw D2 hr1 (by rfl) (ag (pv 1) ac)))
   (af (bi (aK rB (pv 2) e7 (bB _))
    (ai (aI (aP (ag e8 (ag (cY (aX.none (N:=["sort","word","numbers"]) (sel:=[none,none,none]) (by rfl) (by rfl) (by rfl) (by decide) (by decide) (by rfl) (by decide)) rfl (aB (pv 1))
     (fun s₃ H₃ fp=>pR (K:=K) (n:=3) rfl rfl (aH (ap (i:=0) (show(["sort","word","numbers"]:List Str).Nodup by decide) rfl (Or.inl rfl)) (aH (ap (i:=1) (show(["sort","word","numbers"]:List Str).Nodup by decide) rfl (Or.inl rfl)) (aH (ap (i:=2) (show(["sort","word","numbers"]:List Str).Nodup by decide) rfl (Or.inl rfl)) cg))))
     (fun s₃ H₃ fp=>dc)
     (fun s₃ H₃ fp=>aP (ag (pv 0) (ag (pv 1) (ag (aE (r:=e9 K) bb (pv 2) az (fun _ _=>rfl)) ac))))) ac)))))
    aY)
   (af (ao (i:=3) lg.nd rfl (Or.inl rfl) (aE aU (pv 2) az (fun _ _=>rfl)))
   (af (ao (i:=4) lg.nd rfl (Or.inl rfl) (aE aU (pv 2) az (fun _ _=>rfl)))
   (ai (aI (aP (ag e8 (ag (aE aU (pv 2) az (fun _ _=>rfl)) (ag (pv 3) (ag (aw D3 hr4 (by rfl) (ag (pv 0) (ag (aE bb (pv 4) az (fun _ _=>rfl)) (ag (pv 3) ac))))
    (ag (aw D3 hr4 (by rfl) (ag (pv 0) (ag (aE bb (pv 4) az (fun _ _=>rfl)) (ag (pv 3) ac)))) ac)))))))))))),?_⟩
  refine⟨_,rfl,a,R,rfl,hR,hg,ht,h3,fun q U H1 s1 hU hUI hU36 hU7=>?_⟩;obtain⟨vs,hv,hp⟩:=id hU;have hlen:vs.length=U.length:=Paired.length hp;refine⟨_,rfl,q,U,rfl,hU,fun hn=>?_,fun e v hs hu=>?_⟩
  ·refine⟨_,rfl,rfl,_,rfl,a9 ?_⟩;refine⟨_,rfl,q,rfl,⟨_,SqL.of hv⟩,fun D hD=>gJ (K:=K) (xs:=vs) (fun j τ H6=>(∃o1 o2 o3,τ=[o1,o2,o3])/\bh oY H1 D H6 (U.take j)) ⟨⟨_,_,_,rfl⟩,bh.zero hD⟩ ?_ ?_ ?_⟩
   ·rintro j τ H6 ⟨_,hg6⟩;exact SqL.of ((hg6.fin dQ).1 _ _ hv)
   ·rintro j x τ H6 hx ⟨⟨o1,o2,o3,rfl⟩,hg6⟩;obtain⟨e,he,t,l,rfl,ht',hl⟩:=aT hp j x hx;have hem:e∈U:=aah he;have s6:=(hg6.fin dQ).1;have hjl:j<U.length:=(aab.mp he).1;obtain⟨n0,ns,hns⟩:∃n0 ns,e.2=n0::ns:=by
     cases q:e.2 with
     |nil=>
      exfalso;obtain⟨p,hp',h1,h2⟩:=(hUI.mem e.1.1 e.1.2).mp (aao.mpr ⟨e,hem,rfl⟩);obtain⟨n,hn'⟩:=List.mem_iff_getElem?.mp hp';have:=(hUI.num e hem n).mpr ⟨p,hn',h1,h2⟩;rw[q] at this;cases this
     |cons a b=>exact⟨a,b,rfl⟩
    refine⟨t,_,rfl,SqT.of (s6 _ _ ht'),rfl,_,_,rfl,_,_,rfl,_,_,rfl,rfl,?_⟩;dsimp only[mG];rw[if_pos rfl];have hl0:(nV e.2)[0]? =some (.int (n0:Nat)):=by rw[hns];rfl
    refine⟨_,rfl,_,rfl,_,rfl,l,_,0,_,rfl,rfl,SqL.of (s6 _ _ hl),aA (j:=0) hl0,(show 3<=sizeLine by decide),fun t2 ht2=>?_⟩;have s8:=ab.upd (o:=HO.tup [.str e.1.1,.str e.1.2,.int (n0:Nat)]) ht2;have hg8:=hg6.on dQ s8;obtain⟨ys,hy,_⟩:=id hg8;have hyl:=hg8.len hy;rw[aal] at hyl;refine⟨ys,hy,av (by omega),⟨_,_,_,rfl⟩,?_⟩;rw[aap,he];refine hg8.add hD hy ⟨t2,rfl,?_⟩;have:t2≠D:=fun e=>by
     obtain⟨y6,hy6,_⟩:=id hg6;rw[e,hy6] at ht2;cases ht2
    rw[hide_ne this,aa,hns];rfl
   ·rintro τ H6 ⟨_,hg6⟩;rw[hlen,aas] at hg6;obtain⟨s6,ws,hw,hwp⟩:=hg6.fin dQ;refine⟨(show 2<=sizeLine by decide),fun t2 ht2=>?_⟩;have s8:=ab.upd (o:=HO.tup [.str "table",.ref D]) ht2;have iJ:=(s1.trans s6).trans s8;refine k _ U _ hUI hU36 hU7 iJ.zj (hT.mono iJ) (.inl ⟨hn,.tup aa rfl fun i x d e1 e2=>?_⟩);rcases i with _|_|i
    ·cases e1;cases e2;exact .str _
    ·cases e1;cases e2
     refine .lst (s8 _ _ hw) (by rw[aaa];exact Paired.length hwp) fun i x d e1 e2=>?_
     obtain⟨e,he,hr⟩:=aT hwp i x e1;rw[aax,he] at e2;cases e2
     exact sW (dQ _ _ _ _ s8 hr)
    ·cases e1
  ·obtain⟨t,l,rfl,ht',hl⟩:=id hu;have hem:e∈U:=List.mem_of_find?_eq_some hs;have hlt:1<e.2.length:=of_decide_eq_true (List.find?_some (p:=fun e:Us=>decide (1<e.2.length)) hs);obtain⟨n1,n2,rest,hns⟩:∃n1 n2 rest,e.2=n1::n2::rest:=by
    match q:e.2 with
    |[]=>rw[q] at hlt;simp at hlt
    |[a]=>rw[q] at hlt;simp at hlt
    |a::b::r=>exact⟨a,b,r,rfl⟩
   have hl1:(nV e.2)[0]? =some (.int (n1:Nat)):=by rw[hns];rfl
   have hl2:(nV e.2)[1]? =some (.int (n2:Nat)):=by rw[hns];rfl
   obtain⟨p1,hp1,e1,u1⟩:=(hUI.num e hem n1).mp (by rw[hns];exact aac ..);obtain⟨p2,hp2,e2,u2⟩:=(hUI.num e hem n2).mp (by rw[hns];exact aad _ (aac ..));refine⟨_,rfl,rfl,_,rfl,aJ ?_⟩;refine⟨_,rfl,t,_,1,_,rfl,rfl,SqT.of ht',aA (j:=1) rfl,?_⟩;refine⟨_,rfl,t,_,2,_,rfl,rfl,SqT.of ht',aA (j:=2) rfl,?_⟩;have hT1:=hT.mono s1;refine⟨_,rfl,t,_,0,_,rfl,rfl,SqT.of ht',aA (j:=0) rfl,_,rfl,_,rfl,_,rfl,l,_,0,_,rfl,rfl,SqL.of hl,aA (j:=0) hl1,_,rfl,a,n1,e.1.2,R,p1,rfl,hR.mono s1,hg,ht,hp1,hne,u1,hT1,fun t1 x1 x2 H7 s7 hT7 ht1=>?_⟩;have hl7:=s7 _ _ (hT1.ne hl fun _ z=>by cases z) hl;have hR7:=kh hT1 s7 (hR.mono s1);refine⟨_,rfl,_,rfl,l,_,1,_,rfl,rfl,SqL.of hl7,aA (j:=1) hl2,_,rfl,a,n2,e.1.2,R,p2,rfl,hR7,hg,ht,hp2,hne,u2,hT7,fun t2 y1 y2 H8 s8 hT8 ht2=>?_⟩;refine⟨(show 5<=sizeLine by decide),fun t3 ht3=>?_⟩;have s9:=ab.upd (o:=HO.tup [.str "clash",.str e.1.1,.str e.1.2,.ref t1,.ref t2]) ht3;refine k _ U _ hUI hU36 hU7 (fun b o n z=>s9 _ _ (s8 b o n (s7 b o n (s1 _ _ z)))) (hT8.mono s9) (.inr ⟨e,n1,n2,rest,t3,t1,t2,x1,x2,y1,y2,hs,hns,rfl,aa,s9 _ _ (s8 _ _ (hT7.ne ht1 fun _ z=>by cases z) ht1),s9 _ _ ht2⟩)
end
end Nw
namespace Nw
open PySem L2
open SL (aq srt InP fV)
abbrev sAt:Stmt:=top 46
theorem zV:aD ["_law_script","_law_k"] ["_law_script","_law_k"] (au sAt):=⟨rfl,rfl,rfl,by decide +kernel,rfl,by decide +kernel,by decide +kernel⟩
def vn(K:PySem.W.Frag):Sp:=fun vs H Q _=>∃(a:Addr) (ns:List Int) (k:Nat),vs=[.ref a,.int (k:Nat)]/\SqL K H a (ns.map V.int)/\∀c,Q (.int c) H
section
variable {P:Program}{w:World}{K:PySem.W.Frag}{mg:Str->Option Value}{base:Heap}
theorem zp{f:Addr}{fd:FuncData}(F:Fun K "_law_at" "_law_at" sAt f fd)(T:Txt mg):a0 P w K mg base CX0 1 f fd ["_law_script","_law_k"] (vn K):=by
 refine F.ok zV (fun vs H Q E h=>?_) (fun cdv A outer s H vs Q E hr h=>?_)
 ·obtain⟨a,ns,k,rfl,_⟩:=h;rfl
 ·obtain⟨a,ns,n,rfl,hS,k⟩:=h;refine⟨_,af (bi (aK pX (pv 1) (aC bq (by rfl) T.len PySem.boot_len (ag (pv 0) ac)) (bB _)) (ai (aI (aE bb (pv 0) (pv 1) (fun _ _=>rfl)))) aY)
   (ai (aI az)),?_⟩
  refine⟨_,rfl,_,rfl,a,_,rfl,.inl hS,_,_,rfl,rfl,_,rfl,?_⟩;show if decide (((n:Nat):Int)<((ns.map V.int).length:Int))=true then _ else _
  by_cases q:n<ns.length
  ·rw[aan (by rw[aaa];omega)];exact a9 ⟨_,rfl,_,rfl,a,_,(n:Int),_,rfl,rfl,hS,aA (ints_get q),k _⟩
  ·rw[aai (by rw[aaa];omega)];exact aJ (k 0)
end
end Nw
namespace Nw
open PySem L2
open SL (aq srt InP fV)
abbrev sAw:Stmt:=top 49
theorem lQ:aD ["_law_rows","_law_sorts","_law_words","_law_left","_law_right"] ["_law_rows"] (au sAw):=⟨rfl,rfl,rfl,by decide +kernel,rfl,by decide +kernel,by decide +kernel⟩
def vo:Sp:=fun vs H Q _=>∃(a:Addr) (R:List Row),vs=[.ref a]/\a7 H a R/\Small R/\∀q L H',ab H H'->H q=none->Canon (eQ R) L->ak H' q L->Q (.ref q) H'
def cF(R:List Row)(n:Nat):List Str:=(R.take n).flatMap fun p=>p.2.filter fun s=>!decide (s∈ad R)
theorem jw{R:List Row}(hw:∀p∈R,p.2.length<=20)(n:Nat):(cF R n).length<=20*n:=by
 unfold cF;have:=fF (fun p:Row=>p.2.filter fun s=>!decide (s∈ad R)) 20 (R.take n) fun p hp=>Nat.le_trans (List.length_filter_le _ _) (hw p (List.mem_of_mem_take hp))
 rw[aal] at this;omega
theorem fq{R:List Row}{z:Str}:z∈cF R R.length↔eQ R z:=by
 unfold cF eQ;rw[aas,List.mem_flatMap];constructor
 ·rintro⟨p,hp,hz⟩;obtain⟨h1,h2⟩:=List.mem_filter.mp hz;refine⟨⟨p,hp,h1⟩,fun q=>?_⟩;rw[aan (aF.mpr q)] at h2;exact absurd h2 (by decide)
 ·rintro⟨⟨p,hp,h1⟩,h2⟩;refine⟨p,hp,List.mem_filter.mpr ⟨h1,?_⟩⟩;rw[aai fun q=>h2 (aF.mp q)];rfl
section
variable {P:Program}{w:World}{K:PySem.W.Frag}{mg:Str->Option Value}{base:Heap}
theorem zq{f:Addr}{fd:FuncData}(F:Fun K "_law_all_words" "_law_all_words" sAw f fd)(T:Txt mg)(D1:Def P w K mg base "_law_all_sorts" 1 ["_law_rows"] bZ):a0 P w K mg base CX0 2 f fd ["_law_rows"] vo:=by
 refine F.ok lQ (fun vs H Q E h=>?_) (fun cdv A outer s H vs Q E hr h=>?_)
 ·obtain⟨a,R,rfl,_⟩:=h;rfl
 ·obtain⟨a,R,rfl,hR,hsm,k⟩:=h;refine⟨_,af (ao (i:=1) lQ.nd rfl (Or.inr rfl) (aw D1 hr (by rfl) (ag (pv 0) ac)))
   (af (ao (i:=2) lQ.nd rfl (Or.inl rfl) (aW ac))
   (af (aO PassesOwn.never rfl (aB (pv 0)) (cJ (n:=2) rfl (aH (ap (i:=3) lQ.nd rfl (Or.inl rfl)) (aH (ap (i:=4) lQ.nd rfl (Or.inl rfl)) cg)))
    (ai (ao (i:=2) lQ.nd rfl (Or.inl rfl) (bv cD (pv 2) (cY (aX.one (N:=["_law_sign","_law_sorts"]) (sel:=[none,some 1]) "_law_sorts" (by rfl) (by rfl) (by rfl) (by decide) (by decide) (by rfl) (by rfl) ⟨_,rfl,rfl⟩ (by rfl) (jM rfl rfl)) rfl (aB (pv 4))
     (fun s₃ H₃ fp=>ap (i:=0) (show(["_law_sign","_law_sorts"]:List Str).Nodup by decide) rfl (Or.inl rfl))
     (fun s₃ H₃ fp=>gp (aK (r:=rIn K true) bS (pv 0) (pv 1) (by with_unfolding_all rfl))) (fun s₃ H₃ fp=>pv 0))))))
   (ai (aI (aC (cq rfl) (by rfl) T.srt PyProof.Rows.boot_sorted (ag (cX (dZ rfl) (by rfl) T.set (by decide +kernel) (ag (pv 2) ac)) ac)))))),?_⟩
  refine⟨_,rfl,a,R,rfl,hR,hsm,fun qs H1 s1 n1 hS1=>?_⟩;have hS1:H1 qs=some (.lst ((ad R).map V.str)):=hS1;refine⟨by decide,fun w0 hw0=>?_⟩;have hR1:=hR.mono s1;obtain⟨vs,hv,hp⟩:=id hR1;have hlen:vs.length=R.length:=Paired.length hp;have l14:=hsm.len;refine⟨_,rfl,a,rfl,⟨_,SqL.of (ab.upd hw0 _ _ hv)⟩,aM (K:=K) (a:=a) (xs:=vs)
   (fun i σ H4=>∃wq o1 o2,σ=[some (.ref a),some (.ref qs),some (.ref wq),o1,o2]/\ab H1 H4/\ak H4 wq (cF R i)) ⟨w0,_,_,rfl,ab.upd hw0,aa⟩ ?_ ?_ ?_⟩
  ·rintro i σ H4 _ ⟨_,_,_,_,s4,_⟩;exact SqL.of (s4 _ _ hv)
  ·rintro i x σ H4 hx ⟨wq,o1,o2,rfl,s4,hwq⟩;obtain⟨p,t,c,hpi,rfl,htp,hc⟩:=bO hp hx;have hpm:p∈R:=aah hpi;have hil:i<R.length:=(aab.mp hpi).1;have hpw:=hsm.wid p hpm;have hc:H1 c=some (.lst (p.2.map V.str)):=hc;have hc4:=s4 _ _ hc;have hS4:=s4 _ _ hS1;refine⟨t,_,rfl,SqT.of (s4 _ _ htp),rfl,_,_,rfl,_,_,rfl,rfl,?_⟩;refine⟨_,rfl,_,rfl,c,rfl,⟨_,SqL.of hc4⟩,fun D hD=>fg (K:=K) (xs:=p.2.map V.str)
    (fun j τ H7=>(∃o,τ=[o,some (.ref qs)])/\H7=upd H4 D (.lst (((p.2.take j).filter (fun s=>!decide (s∈ad R))).map V.str))) ⟨⟨_,rfl⟩,rfl⟩ ?_ ?_ ?_⟩
   ·rintro j τ H7 ⟨_,rfl⟩;exact(ab.upd hD).seq (SqL.of hc4)
   ·rintro j x τ H7 hx ⟨⟨o,rfl⟩,rfl⟩;obtain⟨y,hy,rfl⟩:=aZ hx;have sD:=ab.upd (o:=HO.lst (((p.2.take j).filter (fun s=>!decide (s∈ad R))).map V.str)) hD;have hle:((p.2.take j).filter (fun s=>!decide (s∈ad R))).length<=p.2.length:=Nat.le_trans (List.length_filter_le _ _) (by rw[aal];omega);refine⟨_,rfl,_,rfl,qs,_,rfl,.inl (SqL.of (sD _ _ hS4)),rfl,bN (ad R),_,rfl,?_⟩;show if (!inV (.str y) ((ad R).map V.str))=true then _ else _
    rw[bX]
    by_cases hyk:y∈ad R
    ·rw[aan hyk];refine aJ ⟨⟨_,rfl⟩,?_⟩;rw[aap,hy,List.filter_append];have:List.filter (fun s=>!decide (s∈ad R)) (some y).toList=[]:=by
      show List.filter (fun s=>!decide (s∈ad R)) [y]=[];rw[List.filter_cons,if_neg (by rw[aan hyk];decide)];rfl
     rw[this,List.append_nil]
    ·rw[aai hyk];refine a9 ⟨_,rfl,_,aa,by rw[aaa];exact av (by omega),⟨_,rfl⟩,?_⟩;rw[cA,aap,hy,List.filter_append,aam];have:List.filter (fun s=>!decide (s∈ad R)) (some y).toList=[y]:=by
      show List.filter (fun s=>!decide (s∈ad R)) [y]=[y];rw[List.filter_cons,if_pos (by rw[aai hyk];rfl)];rfl
     rw[this];rfl
   ·rintro τ H7 ⟨_,rfl⟩;rw[aaa,aas];have sD:=ab.upd (o:=HO.lst ((p.2.filter (fun s=>!decide (s∈ad R))).map V.str)) hD;have hwq7:=sD _ _ (show H4 wq=some (.lst ((cF R i).map V.str)) from hwq);have hwl:=jw hsm.wid i;have hfl:=List.length_filter_le (fun s=>!decide (s∈ad R)) p.2;refine⟨wq,D,_,_,rfl,rfl,hwq7,aa,by rw[aaa,aaa];exact bE (by omega),fun q hq=>⟨q,_,_,rfl,(s4.trans sD).trans (ab.upd hq),?_⟩⟩;unfold ak;rw[aa];unfold cF;rw[aap,hpi,List.flatMap_append,aam];simp
  ·rintro σ H4 ⟨wq,o1,o2,rfl,s4,hwq⟩;rw[hlen] at hwq;have hwl:=jw hsm.wid R.length;have hol:(aq (cF R R.length)).length<=40:=hsm.gB (SL.bF _) fun z hz=>(fq.mp (SL.bt.mp hz)).1
   refine⟨_,rfl,wq,cF R R.length,rfl,SqL.of hwq,by unfold scanBound;omega,fun q1 hq1=>⟨q1,aq (cF R R.length),rfl,.inr (.inl aa),by omega,fun q2 hq2=>?_⟩⟩;have s7:=ab.upd (o:=dm w q1 (aq (cF R R.length))) hq1;have s8:=(s1.trans s4).trans s7;refine k q2 _ _ (s8.trans (ab.upd hq2)) (s8.free hq2) ⟨aq (cF R R.length),rfl,SL.bF _,fun z=>SL.bt.trans fq⟩ aa
end
end Nw
namespace Nw
open PySem L2
open SL (aq srt InP fV leS ltP gu)
def cR(R:List Row)(W:Row->Str->List Str)(s z:Str)(n:Nat):List Nat:=(List.range n).filter fun i=>decide ((br R i).1=s/\z∈W (br R i) s)
def g5(R:List Row)(W:Row->Str->List Str)(s z:Str):List Us:=if cR R W s z R.length=[] then [] else [((s,z),cR R W s z R.length)]
def f7(R:List Row)(W:Row->Str->List Str)(ws:List Str)(s:Str):List Us:=ws.flatMap (g5 R W s)
def f8(R:List Row)(W:Row->Str->List Str)(ws ss:List Str):List Us:=ss.flatMap (f7 R W ws)
theorem iU(R:List Row)(W:Row->Str->List Str)(s z:Str)(n:Nat):cR R W s z (n+1)=cR R W s z n++if (br R n).1=s/\z∈W (br R n) s then [n] else []:=by
 unfold cR;rw[List.range_succ,List.filter_append]
 congr 1
 by_cases q:(br R n).1=s/\z∈W (br R n) s
 ·rw[if_pos q,List.filter_cons_of_pos (by exact aan q),List.filter_nil]
 ·rw[if_neg q,List.filter_cons_of_neg (by rw[aai q];exact Bool.false_ne_true),List.filter_nil]
theorem sZ(R:List Row)(W:Row->Str->List Str)(s z:Str)(n:Nat):(cR R W s z n).length<=n:=by
 unfold cR;have:=List.length_filter_le (fun i=>decide ((br R i).1=s/\z∈W (br R i) s)) (List.range n);rw[List.length_range] at this;exact this
theorem vp(R:List Row)(W:Row->Str->List Str)(s z:Str):(g5 R W s z).length<=1:=by
 unfold g5;split
 ·exact Nat.zero_le _
 ·exact Nat.le_refl _
theorem oZ(R:List Row)(W:Row->Str->List Str)(ws:List Str)(s:Str):(f7 R W ws s).length<=ws.length:=by
 have:=fF (g5 R W s) 1 ws fun z _=>vp R W s z
 unfold f7;omega
theorem vq(R:List Row)(W:Row->Str->List Str)(ws ss:List Str):(f8 R W ws ss).length<=ws.length*ss.length:=fF (f7 R W ws) ws.length ss fun s _=>oZ R W ws s
theorem kj{α β:Type}{f g:α->List β}:∀{l:List α},(∀a,(f a).Sublist (g a))->(l.flatMap f).Sublist (l.flatMap g)
 |[],_=>.slnil
 |a::l,h=>by
  rw[List.flatMap_cons,List.flatMap_cons];exact(h a).append (kj h)
def mR(ss ws:List Str):List (Str×Str):=ss.flatMap fun s=>ws.map fun z=>(s,z)
theorem xb(R:List Row)(W:Row->Str->List Str)(ws ss:List Str):((f8 R W ws ss).map (·.1)).Sublist (mR ss ws):=by
 unfold f8 mR;rw[List.map_flatMap];refine kj fun s=>?_
 unfold f7;rw[List.map_flatMap,show(ws.map fun z=>(s,z))=ws.flatMap fun z=>[(s,z)] from by induction ws with | nil=>rfl | cons a b ih=>rw[aaw,List.flatMap_cons,ih];rfl];refine kj fun z=>?_
 unfold g5;split
 ·exact List.nil_sublist _
 ·exact List.Sublist.refl _
theorem pS{ws:List Str}(hw:ws.Pairwise fun a b=>leS a b=true)(nw:ws.Nodup):∀{ss:List Str},(ss.Pairwise fun a b=>leS a b=true)->ss.Nodup->(mR ss ws).Pairwise fun a b=>ltP b a=false/\a≠b
 |[],_,_=>List.Pairwise.nil
 |s::ss,h,nd=>by
  obtain⟨h1,h2⟩:=List.pairwise_cons.mp h;obtain⟨n1,n2⟩:=List.nodup_cons.mp nd;unfold mR;rw[List.flatMap_cons,List.pairwise_append];refine⟨?_,pS hw nw h2 n2,fun a ha b hb=>?_⟩
  ·rw[List.pairwise_map];have both:=List.Pairwise.and hw nw;exact both.imp fun{a b} ⟨x,y⟩=>⟨gu.mpr (.inl ⟨rfl,x⟩),fun e=>y (Prod.mk.inj e).2⟩
  ·obtain⟨z,hz,rfl⟩:=aao.mp ha;obtain⟨s',hs',hb⟩:=List.mem_flatMap.mp hb;obtain⟨z',hz',rfl⟩:=aao.mp hb;have ne:s≠s':=fun e=>n1 (e▸hs')
   exact⟨gu.mpr (.inr ⟨ne,h1 s' hs'⟩),fun e=>ne (Prod.mk.inj e).1⟩
theorem xc(x:Str):leS "" x=true:=by
 unfold leS;have:¬x.cps.toList<(Str.ofString "").cps.toList:=by
  have e:(Str.ofString "").cps.toList=[]:=by decide +kernel
  rw[e];exact List.not_lt_nil _
 rw[aai this];rfl
theorem Beh.isWord{R:List Row}{es:List Str}{x z:Str}(h:Beh R es x z):z=""\/eQ R z:=by
 induction h with
 |fin=>exact .inl rfl
 |word h1 _ h3=>
  obtain⟨r,hm,hs⟩:=h1.row;refine .inr ⟨h3.sign hm hs,?_⟩;obtain⟨s,_,⟨_,es',_,hb⟩|⟨hn,rfl⟩⟩:=h3
  ·exact hb.sign.1
  ·exact hn
 |up _ _ _ _ ih=>exact ih
theorem Use.word{R:List Row}{p:Row}{z:Str}(h:Use R p z)(hp:p∈R):z=""\/eQ R z:=by
 obtain⟨es,_,h|⟨_,h⟩⟩:=h
 ·refine .inr ⟨h.sign (l:=p.1) (r:=p.2) hp fun _ h=>h,?_⟩;obtain⟨s,_,⟨_,es',_,hb⟩|⟨hn,rfl⟩⟩:=h
  ·exact hb.sign.1
  ·exact hn
 ·exact h.isWord
theorem yG{R:List Row}{W:Row->Str->List Str}{ws:List Str}(hws:Canon (eQ R) ws)(hne:¬eQ R "")(hW:∀p∈R,∀z,z∈W p p.1↔Use R p z):eK R (f8 R W ("" :: ws) (ad R)):=by
 obtain⟨Dw,rfl,ndw,hmw⟩:=hws;have nd1:(("":Str)::srt Dw).Nodup:=List.nodup_cons.mpr ⟨fun z=>hne ((hmw _).mp (SL.bM.mp z)),SL.fQ ndw⟩;have pw1:(("":Str)::srt Dw).Pairwise fun a b=>leS a b=true:=List.pairwise_cons.mpr ⟨fun x _=>xc x,SL.kC Dw⟩
 have pp:=pS pw1 nd1 (ss:=ad R) (SL.kC _) (cI R);have sub:=xb R W ("" :: srt Dw) (ad R);have pp:=pp.sublist sub;have rn:∀n p,R[n]? =some p->br R n=p:=fun n p h=>ir h
 have key:∀s z n,n∈cR R W s z R.length↔∃p,R[n]? =some p/\p.1=s/\Use R p z:=fun s z n=>by
  unfold cR;rw[List.mem_filter,List.mem_range];constructor
  ·rintro⟨hn,hd⟩;have hd:=of_decide_eq_true hd;rw[rn n _ (aae hn)] at hd;obtain⟨h1,h2⟩:=hd;subst h1;exact⟨_,aae hn,rfl,(hW _ (List.getElem_mem hn) z).mp h2⟩
  ·rintro⟨p,hp,h1,h2⟩;subst h1;refine⟨(aab.mp hp).1,aan ?_⟩;rw[rn n p hp];exact⟨rfl,(hW _ (aah hp) z).mpr h2⟩
 have mem:∀e:Us,e∈f8 R W ("" :: srt Dw) (ad R)↔e.1.1∈ad R/\e.1.2∈("":Str)::srt Dw/\cR R W e.1.1 e.1.2 R.length≠[]/\e.2=cR R W e.1.1 e.1.2 R.length:=fun e=>by
  unfold f8 f7;rw[List.mem_flatMap];constructor
  ·rintro⟨s,hs,he⟩;obtain⟨z,hz,he⟩:=List.mem_flatMap.mp he;unfold g5 at he;split at he
   ·cases he
   ·rename_i hn;rw[aaj.mp he];exact⟨hs,hz,hn,rfl⟩
  ·rintro⟨h1,h2,h3,h4⟩;refine⟨_,h1,List.mem_flatMap.mpr ⟨_,h2,?_⟩⟩;unfold g5;rw[if_neg h3];exact aaj.mpr (Prod.ext rfl h4)
 refine⟨pp.imp fun h=>h.1,pp.imp fun h=>h.2,fun s z=>?_,fun e he=>?_,fun e he n=>?_⟩
 ·constructor
  ·intro h;obtain⟨e,he,q⟩:=aao.mp h;obtain⟨_,_,h3,_⟩:=(mem e).mp he;have q:e.1=(s,z):=q;rw[q] at h3;cases w:cR R W s z R.length with
   |nil=>exact absurd w h3
   |cons n l=>
    obtain⟨p,h1,h2,h3⟩:=(key s z n).mp (by rw[w];exact aac ..);exact⟨p,aah h1,h2,h3⟩
  ·rintro⟨p,hp,h1,h2⟩;subst h1;obtain⟨n,hn⟩:=List.mem_iff_getElem?.mp hp;have hnn:=(key p.1 z n).mpr ⟨p,hn,rfl,h2⟩;refine aao.mpr ⟨((p.1,z),cR R W p.1 z R.length),(mem _).mpr ⟨aF.mpr (aao.mpr ⟨p,hp,rfl⟩),?_,fun q=>?_,rfl⟩,rfl⟩
   ·rcases h2.word hp with e|e
    ·exact List.mem_cons.mpr (.inl e)
    ·exact aad _ (SL.bM.mpr ((hmw z).mpr e))
   ·have q:cR R W p.1 z R.length=[]:=q;rw[q] at hnn;cases hnn
 ·obtain⟨_,_,_,h4⟩:=(mem e).mp he;rw[h4];exact List.Pairwise.filter _ List.pairwise_lt_range
 ·obtain⟨_,_,_,h4⟩:=(mem e).mp he;rw[h4];exact key _ _ n
end Nw
namespace Nw
open PySem L2
open SL (aq srt InP fV)
def wE(es:List Str)(fs fh:Tab)(p:Row)(s:Str):List Str:=cb es fs p.2++if p.2.all (fun x=>decide (x∈es))=true then getL fh s else []
theorem yH{R:List Row}{es:List Str}{fs fh:Tab}(hes:∀y,y∈es↔Gram.Made R (fun _=>False) y)(hk:fs.map (·.1)=ad R)(hc:∀e∈fs,∀z,z∈e.2↔dF R e.1 z)(hkH:fh.map (·.1)=ad R)(hcH:∀e∈fh,∀z,z∈e.2↔Behind R e.1 z) :
  ∀p∈R,∀z,z∈wE es fs fh p p.1↔Use R p z:=fun p hp z=>by
 unfold wE;rw[aak,im hk hc,pQ hes];obtain⟨ys,h1,h2⟩:=cj (f:=fh) (x:=p.1) (by rw[hkH];exact aF.mpr (aao.mpr ⟨p,hp,rfl⟩));have hb:z∈getL fh p.1↔Beh R es p.1 z:=by
  rw[gH h1,hcH _ h2 z];exact gh hes
 by_cases q:p.2.all (fun s=>decide (s∈es))=true
 ·rw[if_pos q,hb];have:∀s∈p.2,s∈es:=fun s hs=>of_decide_eq_true (List.all_eq_true.mp q s hs)
  exact⟨fun h=>h.imp id fun h=>⟨this,h⟩,fun h=>h.imp id fun h=>h.2⟩
 ·rw[if_neg q];have:¬∀s∈p.2,s∈es:=fun h=>q (List.all_eq_true.mpr fun s hs=>aan (h s hs))
  exact⟨fun h=>h.elim .inl fun h=>(by cases h),fun h=>h.elim .inl fun h=>absurd h.1 this⟩
abbrev sEn:Stmt:=top 54
theorem f9:aD ["_law_rows","_law_empty","_law_starts","_law_behind","_law_made","_law_left","_law_word","_law_numbers","_law_number","_law_right","_law_words"] ["_law_rows"] (au sEn):=⟨rfl,rfl,rfl,by decide +kernel,rfl,by decide +kernel,by decide +kernel⟩
def qX:Sp:=fun vs H Q _=>∃(a:Addr) (R:List Row),vs=[.ref a]/\a7 H a R/\Small R/\Tight R/\(∀p∈R,¬("":Str)∈p.2)/\∀q U H',ab H H'->oT H' q U->eK R U->Q (.ref q) H'
section
variable {P:Program}{w:World}{K:PySem.W.Frag}{mg:Str->Option Value}{base:Heap}
theorem zr{f:Addr}{fd:FuncData}(F:Fun K "_law_entries" "_law_entries" sEn f fd)(T:Txt mg)(D1:Def P w K mg base "_law_wordless" 1 ["_law_rows"] ig)(D2:Def P w K mg base "_law_begun_by" 2 ["_law_rows"] jJ)(D3:Def P w K mg base "_law_come_behind" 3 ["_law_rows"] oz)
  (D4:Def P w K mg base "_law_all_sorts" 1 ["_law_rows"] bZ)(D5:Def P w K mg base "_law_all_words" 2 ["_law_rows"] vo)(D6:Def P w K mg base "_law_can_begin" 1 ["_law_rows","_law_signs","_law_empty","_law_found"] kL):a0 P w K mg base CX0 4 f fd ["_law_rows"] qX:=by
 refine F.ok f9 (fun vs H Q E h=>?_) (fun cdv A outer s H vs Q E hr h=>?_)
 ·obtain⟨a,R,rfl,_⟩:=h;rfl
 ·obtain⟨a,R,rfl,hR,hsm,ht,hne,k⟩:=h;have hu:=cv hr;have hu0:(A.deeper (PyProof.Rows.envOfC "_law_entries" (au sEn) s.heap.objs.size f cdv)).units<cLine:=Nat.lt_of_succ_lt hu;have hr2:bu 2 _:=hr.mono (by decide);have hr1:bu 1 _:=hr.mono (by decide);refine⟨_,aV (ao (i:=1) f9.nd rfl (Or.inr rfl) (aw D1 hr1 (by rfl) (ag (pv 0) ac)))
   (aV (ao (i:=2) f9.nd rfl (Or.inl rfl) (aw D2 hr2 (by rfl) (ag (pv 0) ac)))
   (aV (ao (i:=3) f9.nd rfl (Or.inl rfl) (aw D3 hr (by rfl) (ag (pv 0) ac)))
   (af (ao (i:=4) f9.nd rfl (Or.inl rfl) (aW ac))
   (af (aO PassesOwn.never rfl (aB (aw D4 hr1 (by rfl) (ag (pv 0) ac))) (ap (i:=5) f9.nd rfl (Or.inl rfl))
    (ai (aO PassesOwn.never rfl (aB (bv cD (aW (ag e8 ac)) (aw D5 hr2 (by rfl) (ag (pv 0) ac)))) (ap (i:=6) f9.nd rfl (Or.inl rfl))
     (af (ao (i:=7) f9.nd rfl (Or.inl rfl) (aW ac))
     (aV (aO PassesOwn.never rfl (eV (by rfl) T.rng (ag (aC bq (by rfl) T.len PySem.boot_len (ag (pv 0) ac)) ac)) (ap (i:=8) f9.nd rfl (Or.inl rfl))
      (af (ao (i:=9) f9.nd rfl (Or.inl rfl) (aE aU (aE bb (pv 0) (pv 8) (fun _ _=>rfl)) az (fun _ _=>rfl)))
      (aV (ao (i:=10) f9.nd rfl (Or.inl rfl) (aw D6 hr1 (by rfl) (ag (pv 0) (ag (pv 9) (ag (pv 1) (ag (pv 2) ac))))))
      (aV (bi (aK (j7 hu0) (cY (aX.one (N:=["_law_sign","_law_empty"]) (sel:=[none,some 1]) "_law_empty" (by rfl) (by rfl) (by rfl) (by decide) (by decide) (by rfl) (by rfl) ⟨_,rfl,rfl⟩ (by rfl) (jM rfl rfl)) rfl (aB (pv 9))
        (fun s₃ H₃ fp=>ap (i:=0) (show(["_law_sign","_law_empty"]:List Str).Nodup by decide) rfl (Or.inl rfl))
        (fun s₃ H₃ fp=>gp (aK (r:=rIn K true) bS (pv 0) (pv 1) (by with_unfolding_all rfl))) (fun s₃ H₃ fp=>pv 0)) (aW ac) (bB _))
       (ai (ao (i:=10) f9.nd rfl (Or.inl rfl) (bv cD (pv 10) (bI hu (pv 3) (pv 5) (fun _ _=>rfl))))) aY)
      (ai (bi (PW.pt (g7 (aK km (aE aU (aE bb (pv 0) (pv 8) (fun _ _=>rfl)) az (fun _ _=>rfl)) (pv 5) (bB _)) (gm (aK (r:=rIn K false) fO (pv 6) (pv 10) (by with_unfolding_all rfl)))))
       (ai (bp (bY PySem.F.plainAttrs_list PySem.F.slot_list_append PySem.F.type_list_append a8 (pv 7) (ag (pv 8) ac)))) aY))))))
     (ai (bi (aK (nN hu0) (pv 7) (aW ac) (bB _))
      (ai (bp (bY PySem.F.plainAttrs_list PySem.F.slot_list_append PySem.F.type_list_append a8 (pv 4) (ag (aP (ag (pv 5) (ag (pv 6) (ag (pv 7) ac)))) ac)))) aY)))))))
   (ai (aI (pv 4))))))),?_⟩
  have hl7:=ht.len;refine⟨fun σ H1=>∃qe es,σ=[some (.ref a),some (.ref qe),none,none,none,none,none,none,none,none,none]/\ab H H1/\(∀y,y∈es↔Gram.Made R (fun _=>False) y)/\ak H1 qe es,?_,?_⟩
  ·exact⟨_,rfl,a,R,rfl,hR,hsm,fun qe ms H1 s1 _ _ hm hS=>⟨qe,srt ms,rfl,s1,fun y=>SL.bM.trans (hm y),hS⟩⟩
  rintro σ H1 ⟨qe,es,rfl,s1,hem,hE1⟩;refine⟨fun σ HA=>∃st fs,σ=[some (.ref a),some (.ref qe),some (.ref st),none,none,none,none,none,none,none,none]/\ab H1 HA/\bg HA st fs/\fs.map (·.1)=ad R/\∀e∈fs,e.2.Nodup/\∀z,z∈e.2↔dF R e.1 z,?_,?_⟩
  ·exact⟨_,rfl,a,R,rfl,hR.mono s1,hsm,fun d res H7 s7 _ hd hk hc=>⟨d,res,rfl,s7,hd,hk,hc⟩⟩
  rintro σ HA ⟨st,fs,rfl,s2,hF,hkF,hcF⟩;have s12:=s1.trans s2;refine⟨fun σ HB=>∃dh fh,σ=[some (.ref a),some (.ref qe),some (.ref st),some (.ref dh),none,none,none,none,none,none,none]/\ab HA HB/\bg HB dh fh/\fh.map (·.1)=ad R/\∀e∈fh,e.2.Nodup/\∀z,z∈e.2↔Behind R e.1 z,?_,?_⟩
  ·exact⟨_,rfl,a,R,rfl,hR.mono s12,hsm,fun d res H7 s7 _ hd hk hc=>⟨d,res,rfl,s7,hd,hk,hc⟩⟩
  rintro σ HB ⟨dh,fh,rfl,s3,hH,hkH,hcH⟩;have s13:=s12.trans s3;have hcF':∀e∈fs,∀z,z∈e.2↔dF R e.1 z:=fun e he=>(hcF e he).2
  have hcH':∀e∈fh,∀z,z∈e.2↔Behind R e.1 z:=fun e he=>(hcH e he).2
  have fs40:∀e∈fs,e.2.length<=40:=fun e he=>hsm.gB (hcF e he).1 fun z hz=>by
   obtain⟨_,_,hb⟩:=((hcF e he).2 z).mp hz;exact hb.sign.2
  have fh12:∀e∈fh,e.2.length<=12:=fun e he=>ht.yB (hcH e he).1 fun z hz=>by
   obtain⟨_,_,hb⟩:=((hcH e he).2 z).mp hz;exact hb.sign
  have hEB:HB qe=some (.lst (es.map V.str)):=s3 _ _ (s2 _ _ hE1);have hFB:bg HB st fs:=hF.mono s3;have hRB:=hR.mono s13;obtain⟨vs,hv,hp⟩:=id hRB;have hlen:vs.length=R.length:=Paired.length hp;have hlk:(ad R).length<=7:=by
   unfold ad;rw[SL.dz];have:=SL.eY (R.map (·.1));rw[aaa] at this;omega
  have hnw:¬eQ R "":=fun q=>by
   obtain⟨⟨p,hp,hz⟩,_⟩:=q;exact hne p hp hz
  generalize hWd:wE es fs fh=W;have hW:∀p∈R,∀z,z∈W p p.1↔Use R p z:=by rw[←hWd];exact yH hem hkF hcF' hkH hcH'
  refine⟨by decide,fun md hmd=>?_⟩;have hmdH:H md=none:=s13.free hmd;have sM:=ab.upd (o:=HO.lst []) hmd;refine⟨_,rfl,a,R,rfl,hRB.mono sM,hsm,fun qs HC s4 n4 hSC=>?_⟩;have hSC:HC qs=some (.lst ((ad R).map V.str)):=hSC;have hqm:qs≠md:=fun z=>by rw[z,aa] at n4;cases n4
  have gC:bh fL (hide md HC) md HC []:=⟨[],s4 _ _ aa,.nil,ab.fj⟩;have sBC:ab HB (hide md HC):=ju hmd (sM.trans s4);have hmC:hide md HC md=none:=by unfold hide;rw[if_pos rfl]
  have hSh:hide md HC qs=some (.lst ((ad R).map V.str)):=by rw[hide_ne hqm];exact hSC
  generalize hide md HC=H0 at gC sBC hmC hSh;obtain⟨Dw,hDw⟩:∃Dw:List Str,Dw=aq (cF R R.length):=⟨_,rfl⟩;have canW:Canon (eQ R) (srt Dw):=⟨Dw,rfl,by rw[hDw];exact SL.bF _,fun z=>by rw[hDw];exact SL.bt.trans fq⟩;have hws11:(srt Dw).length<=11:=by
   rw[SL.dz,hDw];exact ht.gB (SL.bF _) fun z hz=>(fq.mp (SL.bt.mp hz)).1
  generalize srt Dw=ws at canW hws11;refine⟨qs,rfl,⟨_,SqL.of hSC⟩,aM (K:=K) (a:=qs) (xs:=(ad R).map V.str)
   (fun i σ H4=>∃o1 o2 o3 o4 o5 o6,σ=[some (.ref a),some (.ref qe),some (.ref st),some (.ref dh),some (.ref md),o1,o2,o3,o4,o5,o6]/\bh fL H0 md H4 (f8 R W ("" :: ws) ((ad R).take i)))
   ⟨_,_,_,_,_,_,rfl,gC⟩ ?_ ?_ ?_⟩
  ·rintro i σ H4 _ ⟨_,_,_,_,_,_,_,hg4⟩;exact SqL.of ((hg4.fin cz).1 _ _ hSh)
  ·rintro i x σ H4 hx ⟨o1,o2,o3,o4,o5,o6,rfl,hg4⟩;obtain⟨y,hy,rfl⟩:=aZ hx;have hyR:y∈R.map (·.1):=aF.mp (aah hy);have s5:=(hg4.fin cz).1;have sB4:=sBC.trans s5;refine⟨(show 1<=sizeLine by decide),fun q1 hq1=>?_⟩;have t1:=ab.upd (o:=HO.lst [.str ""]) hq1;refine⟨_,rfl,a,R,rfl,hRB.mono (sB4.trans t1),hsm,fun q2 L H5 t2 n2 hcan hq2=>?_⟩;have eL:L=ws:=hcan.eq canW fun _=>Iff.rfl
   subst eL;have hq2:H5 q2=some (.lst (L.map V.str)):=hq2;refine⟨q1,q2,_,_,rfl,rfl,t2 _ _ aa,hq2,by rw[aaa];exact bE (by show 1+_<=_;omega),fun q3 hq3=>?_⟩;have t3:=ab.upd (o:=HO.lst ([V.str ""]++L.map V.str)) hq3;have t123:=(t1.trans t2).trans t3;have hg6:=hg4.on cz t123;generalize hH6:upd H5 q3 (.lst ([V.str ""]++L.map V.str))=H6 at t123 hg6;have hq6:H6 q3=some (.lst ((("":Str)::L).map V.str)):=by rw[←hH6,aa];rfl
   have hqm3:q3≠md:=fun z=>by
    obtain⟨vs4,h4,_⟩:=id hg4;rw[z,(t1.trans t2) _ _ h4] at hq3;cases hq3
   have l12:(("":Str)::L).length<=12:=by rw[aau];omega
   have lE:(f8 R W ("" :: L) ((ad R).take i)).length<=84:=by
    refine Nat.le_trans (vq R W ("" :: L) ((ad R).take i)) (Nat.le_trans (Nat.mul_le_mul l12 (show((ad R).take i).length<=7 by rw[aal];omega)) (by decide))
   refine⟨q3,rfl,⟨_,SqL.of hq6⟩,aM (K:=K) (a:=q3) (xs:=(("":Str)::L).map V.str)
    (fun j σ H7=>∃o2 o3 o4 o5 o6,σ=[some (.ref a),some (.ref qe),some (.ref st),some (.ref dh),some (.ref md),some (.str y),o2,o3,o4,o5,o6]/\bh fL H0 md H7 (f8 R W ("" :: L) ((ad R).take i)++f7 R W ((("":Str)::L).take j) y)/\H7 q3=some (.lst ((("":Str)::L).map V.str)))
    ⟨_,_,_,_,_,rfl,by show bh fL H0 md H6 (_++[]);rw[List.append_nil];exact hg6,hq6⟩ ?_ ?_ ?_⟩
   ·rintro j σ H7 _ ⟨_,_,_,_,_,_,_,h⟩;exact SqL.of h
   ·rintro j x σ H7 hx ⟨o2,o3,o4,o5,o6,rfl,hg7,hq7⟩;obtain⟨z,hz,rfl⟩:=aZ hx;have s7:=(hg7.fin cz).1;have sB7:=sBC.trans s7;have lS:(f7 R W ((("":Str)::L).take j) y).length<=12:=Nat.le_trans (oZ R W _ y) (by rw[aal];omega);refine⟨by decide,fun ql hql=>?_⟩;refine⟨fun σ H9=>∃o4 o5 o6,σ=[some (.ref a),some (.ref qe),some (.ref st),some (.ref dh),some (.ref md),some (.str y),some (.str z),some (.ref ql),o4,o5,o6]/\ab H7 H9/\H9 ql=some (.lst (nV (cR R W y z R.length))),?_,?_⟩
    ·refine⟨_,rfl,a,_,rfl,.inl (SqL.of (ab.upd hql _ _ (sB7 _ _ hv))),_,rfl,by omega,by omega,eW (n:=(vs.length:Int).toNat)
      (fun n σ H9=>∃o4 o5 o6,σ=[some (.ref a),some (.ref qe),some (.ref st),some (.ref dh),some (.ref md),some (.str y),some (.str z),some (.ref ql),o4,o5,o6]/\ab H7 H9/\H9 ql=some (.lst (nV (cR R W y z n))))
      ⟨_,_,_,rfl,ab.upd hql,aa⟩ ?_ ?_⟩
     ·rintro n σ H9 hn ⟨o4,o5,o6,rfl,s9,hl9⟩;have hn':n<R.length:=by rw[Int.toNat_natCast] at hn;omega
      rw[Int.zero_add];obtain⟨v0,hv0⟩:∃v0,vs[n]? =some v0:=⟨_,aae (by omega)⟩;obtain⟨p,tt,c,hpn,rfl,htt,hc⟩:=bO hp hv0;have hpm:p∈R:=aah hpn;have hp20:=hsm.wid p hpm;have eN:=ir hpn;have hc:HB c=some (.lst (p.2.map V.str)):=hc;have sB9:=sB7.trans s9;refine⟨_,rfl,_,rfl,a,_,(n:Int),_,rfl,rfl,SqL.of (sB9 _ _ hv),aA hv0,tt,_,1,_,rfl,rfl,SqT.of (sB9 _ _ htt),aA (j:=1) rfl,?_⟩;refine⟨fun σ HX=>∃qw,σ=[some (.ref a),some (.ref qe),some (.ref st),some (.ref dh),some (.ref md),some (.str y),some (.str z),some (.ref ql),some (.int n),some (.ref c),some (.ref qw)]/\ab H9 HX/\ak HX qw (cb es fs p.2),?_,?_⟩
      ·exact⟨_,rfl,_,rfl,_,rfl,_,rfl,_,c,qe,st,p.2,es,fs,rfl,sB9 _ _ hc,sB9 _ _ hEB,(hFB.mono sB9).l,hp20,fs40,fun q H' s' n' hq'=>⟨q,rfl,s',hq'⟩⟩
      rintro σ HX ⟨qw,rfl,sX,hqw⟩;have sBX:=sB9.trans sX;have cbl:(cb es fs p.2).length<=40*20:=Nat.le_trans (fR (es:=es) fs40 (Gram.lead es p.2)) (Nat.mul_le_mul_left _ (Nat.le_trans (Gram.eP es p.2) hp20));refine⟨fun σ HY=>∃qw,σ=[some (.ref a),some (.ref qe),some (.ref st),some (.ref dh),some (.ref md),some (.str y),some (.str z),some (.ref ql),some (.int n),some (.ref c),some (.ref qw)]/\ab H9 HY/\ak HY qw (W p y),?_,?_⟩
      ·have hcX:=sBX _ _ hc;have hEX:=sBX _ _ hEB;refine⟨_,rfl,c,rfl,⟨_,SqL.of hcX⟩,fun D hD=>fg (K:=K) (xs:=p.2.map V.str)
        (fun j τ H7=>(∃o,τ=[o,some (.ref qe)])/\H7=upd HX D (.lst (((p.2.take j).filter (fun s=>!decide (s∈es))).map V.str))) ⟨⟨_,rfl⟩,rfl⟩ ?_ ?_ ?_⟩
       ·rintro j τ H7 ⟨_,rfl⟩;exact(ab.upd hD).seq (SqL.of hcX)
       ·rintro j x τ H7 hx ⟨⟨o,rfl⟩,rfl⟩;obtain⟨y,hy,rfl⟩:=aZ hx;have sD:=ab.upd (o:=HO.lst (((p.2.take j).filter (fun s=>!decide (s∈es))).map V.str)) hD;have hle:((p.2.take j).filter (fun s=>!decide (s∈es))).length<=p.2.length:=Nat.le_trans (List.length_filter_le _ _) (by rw[aal];omega);refine⟨_,rfl,_,rfl,qe,_,rfl,.inl (SqL.of (sD _ _ hEX)),rfl,bN es,_,rfl,?_⟩;show if (!inV (.str y) (es.map V.str))=true then _ else _
        rw[bX]
        by_cases hyk:y∈es
        ·rw[aan hyk];refine aJ ⟨⟨_,rfl⟩,?_⟩;rw[aap,hy,List.filter_append];have:List.filter (fun s=>!decide (s∈es)) (some y).toList=[]:=by
          show List.filter (fun s=>!decide (s∈es)) [y]=[];rw[List.filter_cons,if_neg (by rw[aan hyk];decide)];rfl
         rw[this,List.append_nil]
        ·rw[aai hyk];refine a9 ⟨_,rfl,_,aa,by rw[aaa];exact av (by omega),⟨_,rfl⟩,?_⟩;rw[cA,aap,hy,List.filter_append,aam];have:List.filter (fun s=>!decide (s∈es)) (some y).toList=[y]:=by
          show List.filter (fun s=>!decide (s∈es)) [y]=[y];rw[List.filter_cons,if_pos (by rw[aai hyk];rfl)];rfl
         rw[this];rfl
       ·rintro τ H7 ⟨_,rfl⟩;rw[aaa,aas];have sD:=ab.upd (o:=HO.lst ((p.2.filter (fun s=>!decide (s∈es))).map V.str)) hD;refine⟨by decide,fun qn hqn=>?_⟩;have sn:=ab.upd (o:=HO.lst []) hqn;have sDn:=sD.trans sn;have hqwN:=sDn _ _ (show HX qw=some (.lst ((cb es fs p.2).map V.str)) from hqw);refine⟨D,qn,_,rfl,rfl,SqL.of (sn _ _ aa),SqL.of aa,_,rfl,?_⟩
        by_cases hall:∀s∈p.2,s∈es
        ·have e:p.2.filter (fun s=>!decide (s∈es))=[]:=by
          rw[List.filter_eq_nil_iff];intro s hs;rw[aan (hall s hs)];decide
         have e2:((p.2.filter (fun s=>!decide (s∈es))).map V.str).isEmpty=true:=by rw[e];rfl
         have e3:p.2.all (fun x=>decide (x∈es))=true:=List.all_eq_true.mpr fun s hs=>aan (hall s hs)
         rw[e2];refine a9 ?_;obtain⟨kvs,h1,h2⟩:=hH.mono ((sBX.trans sDn));obtain⟨ys,e4,e5⟩:=cj (f:=fh) (x:=y) (by rw[hkH];exact aF.mpr hyR);rcases ej h2 y with ⟨z1,_⟩|⟨ys',l,z1,z2,z3⟩
         ·rw[z1] at e4;cases e4
         ·rw[z1] at e4;cases e4;have y12:ys.length<=12:=fh12 _ e5;refine⟨_,rfl,_,rfl,_,rfl,dh,_,rfl,.inl ⟨kvs,Sum.inr y,.inl h1,rfl,z2.symm⟩,qw,l,_,_,rfl,rfl,hqwN,z3,by rw[aaa,aaa];exact bE (by omega),fun q hq=>⟨q,rfl,(sX.trans sDn).trans (ab.upd hq),?_⟩⟩;unfold ak;rw[aa,←hWd];unfold wE;rw[if_pos e3,gH z1,aam]
        ·have e2:((p.2.filter (fun s=>!decide (s∈es))).map V.str).isEmpty=false:=by
          cases e:p.2.filter (fun s=>!decide (s∈es)) with
          |nil=>
           exfalso;refine hall fun s hs=>?_
           have:=List.filter_eq_nil_iff.mp e s hs
           by_cases m:s∈es
           ·exact m
           ·rw[aai m] at this;exact absurd rfl this
          |cons a b=>rfl
         have e3:¬p.2.all (fun x=>decide (x∈es))=true:=fun q=>hall fun s hs=>of_decide_eq_true (List.all_eq_true.mp q s hs)
         rw[e2];refine aJ ⟨qw,rfl,sX.trans sDn,?_⟩;unfold ak;rw[hqwN,←hWd];unfold wE;rw[if_neg e3,List.append_nil]
      rintro σ HY ⟨qw,rfl,sY,hqw⟩;have sBY:=sB9.trans sY;have hqw:HY qw=some (.lst ((W p y).map V.str)):=hqw;have hlY:=sY _ _ hl9;have hnl:=sZ R W y z n;refine⟨_,rfl,_,rfl,a,_,(n:Int),_,rfl,rfl,SqL.of (sBY _ _ hv),aA hv0,tt,_,0,_,rfl,rfl,SqT.of (sBY _ _ htt),aA (j:=0) rfl,_,rfl,rfl,_,rfl,?_⟩
      by_cases q1:p.1=y
      ·rw[q1,aan rfl];refine a9 ⟨_,rfl,_,rfl,qw,_,rfl,.inl (SqL.of hqw),rfl,bN _,_,rfl,?_⟩;show if inV (.str z) ((W p y).map V.str)=true then _ else _
       rw[bX]
       by_cases q2:z∈W p y
       ·rw[aan q2];refine a9 ⟨_,rfl,.inl ⟨rfl,_,SqL.of hlY⟩,_,rfl,ql,_,_,rfl,rfl,hlY,by rw[iu];exact av (by omega),_,_,_,rfl,(s9.trans sY).bz hql,?_⟩;rw[aa,iU,eN,if_pos ⟨q1,q2⟩];unfold nV;rw[aam];rfl
       ·rw[aai q2];refine aJ ⟨_,_,_,rfl,s9.trans sY,?_⟩;rw[hlY,iU,eN,if_neg fun q=>q2 q.2,List.append_nil]
      ·have:decide (V.str p.1=V.str y)=false:=aai fun e=>q1 (by injection e)
       rw[this];refine aJ (aJ ⟨_,_,_,rfl,s9.trans sY,?_⟩);rw[hlY,iU,eN,if_neg fun q=>q1 q.1,List.append_nil]
     ·rintro σ H9 ⟨o4,o5,o6,rfl,s9,hl9⟩;rw[Int.toNat_natCast,hlen] at hl9;exact⟨_,_,_,rfl,s9,hl9⟩
    rintro σ H9 ⟨o4,o5,o6,rfl,s9,hl9⟩;have et:f7 R W ((("":Str)::L).take (j+1)) y=f7 R W ((("":Str)::L).take j) y++g5 R W y z:=by
     unfold f7;rw[aap,hz,List.flatMap_append];simp
    refine⟨_,rfl,by decide,fun qn hqn=>?_⟩;have sn:=ab.upd (o:=HO.lst []) hqn;have s9n:=s9.trans sn;have hg10:=hg7.on cz s9n;have hl10:=sn _ _ hl9;refine⟨ql,qn,_,rfl,rfl,SqL.of hl10,SqL.of aa,_,rfl,?_⟩
    by_cases q:cR R W y z R.length=[]
    ·have e:(!(nV (cR R W y z R.length)).isEmpty)=false:=by rw[q];rfl
     rw[e];refine aJ ⟨_,_,_,_,_,rfl,?_,s9n _ _ hq7⟩;rw[et];unfold g5;rw[if_pos q,List.append_nil];exact hg10
    ·have e:(!(nV (cR R W y z R.length)).isEmpty)=true:=by
      cases w:cR R W y z R.length with
      |nil=>exact absurd w q
      |cons a b=>rfl
     rw[e];obtain⟨us,hus,_⟩:=id hg10;have hul:=hg10.len hus;rw[aag] at hul;refine a9 ⟨_,rfl,.inl ⟨rfl,_,SqL.of hus⟩,_,rfl,_,rfl,_,rfl,(show 3<=sizeLine by decide),fun t ht=>?_⟩;have st:=ab.upd (o:=HO.tup [.str y,.str z,.ref ql]) ht;have hg11:=hg10.on cz st;have hus11:=st _ _ hus;refine⟨md,us,_,rfl,rfl,hus11,av (by omega),_,_,_,_,_,rfl,?_,?_⟩
     ·rw[et,←List.append_assoc];unfold g5;rw[if_neg q];refine hg11.add hmC hus11 ⟨t,ql,rfl,?_,?_⟩
      ·rw[hide_ne (fun e=>by rw[e,hus] at ht;cases ht)];exact aa
      ·rw[hide_ne (fun e=>by
        obtain⟨v7,hv7,_⟩:=id hg7;rw[e,hv7] at hql;cases hql)]
       exact st _ _ hl10
     ·rw[am hqm3];exact st _ _ (s9n _ _ hq7)
   ·rintro σ H7 ⟨o2,o3,o4,o5,o6,rfl,hg7,_⟩;rw[aaa,aas] at hg7;refine⟨_,_,_,_,_,_,rfl,?_⟩;have:f8 R W ("" :: L) ((ad R).take (i+1))=f8 R W ("" :: L) ((ad R).take i)++f7 R W ("" :: L) y:=by
     unfold f8;rw[aap,hy,List.flatMap_append];simp
    rw[this];exact hg7
  ·rintro σ H4 ⟨o1,o2,o3,o4,o5,o6,rfl,hg4⟩;rw[aaa,aas] at hg4;obtain⟨s5,hus⟩:=hg4.fin cz;exact⟨_,rfl,k md _ H4 ((s13.trans sBC).trans s5) hus (yG canW hnw hW)⟩
end
end Nw
namespace L2
open PySem PySem.W PySem.Spec PyProof.Rows
def pT(K:PySem.W.Frag):List V->Hp->VK->Prop:=fun xs H Q=>∃p ys,xs=[.ref p]/\(SqL K H p ys\/SqT K H p ys)/\∀l,H l=none->Q (.ref l) (upd H l (.lst ys))
theorem ph{X:Cx}:dt X (.type "list") (pT X.K):=m8
def yI(K:PySem.W.Frag):List V->Hp->VK->Prop:=fun xs H Q=>∃x c t b,xs=[x,V.ty c]/\cu K H x t/\PySem.W.kitOne K t (Value.type c)=some b/\Q (.bl b) H
theorem tj{X:Cx}:dt X (.builtin "isinstance") (yI X.K):=cx
section
variable {sel:List (Option Nat)}{g:TG}{tc:TT}{te:TE}{σ:St}{H:Hp}{Q:VK}
theorem vt{K:PySem.W.Frag}{a D:Addr}{xs:List V}(Pv:Nat->St->Hp->Prop)(h0:Pv 0 (fG sel σ) (upd H D (.lst [])))
  (hl:∀i τ H1,Pv i τ H1->SqT K H1 a xs)
  (hs:∀i x τ H1,xs[i]? =some x->Pv i τ H1->g x τ H1 fun τ2 H4=>tc τ2 H4 fun b H5=>if b=true then te τ2 H5 fun y H6=>∃ys,H6 D=some (.lst ys)/\ys.length<sizeLine/\Pv (i+1) τ2 (upd H6 D (.lst (ys++[y]))) else Pv (i+1) τ2 H5)
  (hd:∀τ H1,Pv xs.length τ H1->Q (.ref D) H1):ky sel (Itt K a) D g tc te σ H Q:=by
 refine⟨fun i m τ H1=>Pv i τ H1/\i<=xs.length/\m=xs.length - i,⟨_,h0,Nat.zero_le _,rfl⟩,?_⟩;rintro i m τ H2 ⟨p,hi,hm⟩;have sq:=hl i τ H2 p;rcases Nat.lt_or_ge i xs.length with hlt|hge
 ·refine .inr ⟨⟨xs,xs[i],sq,aae hlt⟩,Pv (i+1),fun τ' H' n=>⟨xs.length - (i+1),by omega,n,hlt,rfl⟩,?_⟩;rintro x H3 ⟨rfl,hx⟩;exact hs i x τ _ (hx xs sq) p
 ·have e:i=xs.length:=by omega
  subst e;exact .inl ⟨⟨xs,sq,Nat.le_refl _⟩,hd τ H2 p⟩
end
end L2
namespace Nw
open PySem L2
open SL (aq srt)
structure eM(H:Hp)(D:Addr)(us:List V)(R:List Row):Prop where
 at_:H D=some (.lst us)
 pr:Paired (dE H) us R
 ne:∀v∈us,∃t b l,v=.ref t/\H t=some (.tup [.str l,.ref b])/\b≠D
theorem eM.nil{H:Hp}{D:Addr}:eM (upd H D (.lst [])) D [] []:=⟨aa,.nil,fun v hv=>(by cases hv)⟩
theorem eM.mono{H H':Hp}{D:Addr}{us:List V}{R:List Row}(h:eM H D us R)(s:ab H H'):eM H' D us R:=
 ⟨s _ _ h.at_,Paired.bJ h.pr fun _ _ q=>q.mono s,fun v hv=>let ⟨t,b,l,e1,e2,e3⟩:=h.ne v hv;⟨t,b,l,e1,s _ _ e2,e3⟩⟩
theorem eM.snoc{H:Hp}{D t b:Addr}{us:List V}{R:List Row}{l:Str}{ss:List Str}(h:eM H D us R)(ht:H t=some (.tup [.str l,.ref b]))(hb:ak H b ss)(hn:b≠D):eM (upd H D (.lst (us++[.ref t]))) D (us++[.ref t]) (R++[(l,ss)]):=by
 have nt:∀{t':Addr} {xs:List V},H t'=some (.tup xs)->t'≠D:=fun{t' xs} e z=>by rw[z,h.at_] at e;cases e
 refine⟨aa,cG (qy h.pr fun v r hm ⟨t',b',q1,q2,q3⟩=>⟨t',b',q1,?_,?_⟩) ⟨t,b,rfl,?_,?_⟩,fun v hv=>?_⟩
 ·rw[am (nt ht)];exact ht
 ·unfold ak;rw[am hn];exact hb
 ·rcases aak.mp hv with z|z
  ·obtain⟨t',b',l',e1,e2,e3⟩:=h.ne v z;exact⟨t',b',l',e1,by rw[am (nt e2)];exact e2,e3⟩
  ·rw[aaj.mp z];exact⟨t,b,l,rfl,by rw[am (nt ht)];exact ht,hn⟩
 ·rw[am (nt q2)];exact q2
 ·obtain⟨t2,b2,l2,e1,e2,e3⟩:=h.ne v hm;rw[q1] at e1;cases e1;rw[q2] at e2;cases e2;unfold ak;rw[am e3];exact q3
theorem eM.rows{H:Hp}{D:Addr}{us:List V}{R:List Row}(h:eM H D us R):a7 H D R:=⟨us,h.at_,h.pr⟩
theorem vw(ns:List Int)(j k:Nat):∃ms:List Int,dw (ns.map V.int) (some (j:Int)) (some (k:Int))=ms.map V.int/\ms.length<=k - j:=by
 refine⟨(ns.drop (min j ns.length)).take (min k ns.length - min j ns.length),?_,?_⟩
 ·unfold dw;rw[HT.g8,HT.g8,aaa,List.map_take,List.map_drop]
 ·rw[aal];omega
theorem vx(ns:List Int)(k:Nat):∃ms:List Int,dw (ns.map V.int) none (some (k:Int))=ms.map V.int/\ms.length<=k:=by
 refine⟨ns.take (min k ns.length),?_,?_⟩
 ·unfold dw;rw[HT.j2,HT.g8,aaa,List.drop_zero,Nat.sub_zero,List.map_take]
 ·rw[aal];omega
theorem vy{R:List Row}(h:Drawn 4 R)(f:Ren):Tight (R.map (bL f)):=by
 obtain⟨more,rfl,hm⟩:=h.sh;obtain⟨U,hU,hUm⟩:=h.sg;refine⟨?_,fun p' hp'=>?_,(U++dJ).map (gOf f),?_,fun p' hp' x hx=>?_⟩
 ·rw[aaa,aag];show 3+more.length<=7;omega
 ·obtain⟨p,hp,rfl⟩:=aao.mp hp';have:=h.wd p hp;show(p.2.map (gOf f)).length<=14;rw[aaa];exact this
 ·rw[aaa,aag];show U.length+7<=11;omega
 ·obtain⟨p,hp,rfl⟩:=aao.mp hp';obtain⟨y,hy,rfl⟩:=aao.mp (show x∈p.2.map (gOf f) from hx);exact aao.mpr ⟨y,hUm p hp y hy,rfl⟩
theorem tm{R:List Row}(h:Drawn 4 R)(f:Ren):jt (R.map (bL f)):=by
 refine⟨ji.map (gOf f),by rw[aaa];decide,fun p' hp'=>?_⟩;obtain⟨p,hp,rfl⟩:=aao.mp hp';exact aao.mpr ⟨p.1,h.lf p hp,rfl⟩
theorem yJ{f:Ren}(hf:f=[]\/f=fY\/f=fZ){x:Str}(h:x≠""):gOf f x≠"":=by
 unfold gOf;cases e:f.lookup x with
 |none=>exact h
 |some y=>
  have hm:(x,y)∈f:=lookup_mem e;have all:∀p∈f,p.2≠"":=by
   rcases hf with rfl|rfl|rfl
   ·intro p hp;cases hp
   ·decide +kernel
   ·decide +kernel
  exact all _ hm
theorem mD{R:List Row}(h:Drawn 4 R){f:Ren}(hf:f=[]\/f=fY\/f=fZ):∀p∈R.map (bL f),¬("":Str)∈p.2:=fun p' hp' hz=>by
 obtain⟨p,hp,rfl⟩:=aao.mp hp';obtain⟨x,hx,e⟩:=aao.mp (show("":Str)∈p.2.map (gOf f) from hz);exact yJ hf (fun q=>h.ne p hp (q▸hx)) e
end Nw
namespace Nw
open PySem L2
open SL (aq srt)
abbrev vz:Stmt:=top 55
theorem vT:aD ["_law_rows","_law_entry"] ["_law_rows"] (au vz):=⟨rfl,rfl,rfl,by decide +kernel,rfl,by decide +kernel,by decide +kernel⟩
def qY:Sp:=fun vs H Q _=>∃(a:Addr) (R:List Row),vs=[.ref a]/\a7 H a R/\Small R/\Tight R/\(∀p∈R,¬("":Str)∈p.2)/\∀v U H',ab H H'->eK R U->((e6 U=none/\v=.non)\/∃e,e6 U=some e/\fL H' v e)->Q v H'
section
variable {P:Program}{w:World}{K:PySem.W.Frag}{mg:Str->Option Value}{base:Heap}
theorem yK{f:Addr}{fd:FuncData}(F:Fun K "_law_first_clash" "_law_first_clash" vz f fd)(T:Txt mg)(D1:Def P w K mg base "_law_entries" 4 ["_law_rows"] qX):a0 P w K mg base CX0 5 f fd ["_law_rows"] qY:=by
 refine F.ok vT (fun vs H Q E h=>?_) (fun cdv A outer s H vs Q E hr h=>?_)
 ·obtain⟨a,R,rfl,_⟩:=h;rfl
 ·obtain⟨a,R,rfl,hR,hsm,ht,hne,k⟩:=h;refine⟨_,af (aO PassesOwn.never rfl (aB (aw D1 hr (by rfl) (ag (pv 0) ac))) (ap (i:=1) vT.nd rfl (Or.inl rfl))
    (ai (bi (aK pY (aC bq (by rfl) T.len PySem.boot_len (ag (aE aU (pv 1) az (fun _ _=>rfl)) ac)) az (bB _)) (ai (aI (pv 1))) aY)))
   (ai (aI e7)),?_⟩
  refine⟨_,rfl,a,R,rfl,hR,hsm,ht,hne,fun q U H2 s2 hU hUI=>?_⟩;obtain⟨vs,hv,hp⟩:=hU;have hlen:vs.length=U.length:=Paired.length hp;refine⟨q,rfl,⟨_,SqL.of hv⟩,aM (K:=K) (a:=q) (xs:=vs)
   (fun i σ H1=>H1=H2/\(∃o,σ=[some (.ref a),o])/\∀e∈U.take i,decide (1<e.2.length)=false) ⟨rfl,⟨_,rfl⟩,fun e he=>by cases he⟩ ?_ ?_ ?_⟩
  ·rintro i σ H1 _ ⟨rfl,_⟩;exact SqL.of hv
  ·rintro i x σ H1 hx ⟨rfl,⟨o,rfl⟩,hall⟩;obtain⟨e,he,hu⟩:=aT hp i x hx;obtain⟨t,l,rfl,ht,hl⟩:=id hu;refine⟨_,rfl,t,_,2,_,rfl,rfl,SqT.of ht,aA (j:=2) rfl,l,_,rfl,.inl (SqL.of hl),_,_,rfl,rfl,_,rfl,?_⟩
   by_cases q:1<e.2.length
   ·have:decide ((1:Int)<((nV e.2).length:Int))=true:=aan (by rw[iu];omega);show if decide ((1:Int)<((nV e.2).length:Int))=true then _ else _
    rw[this];exact a9 ⟨_,rfl,k _ U _ s2 hUI (.inr ⟨e,jv hall he (aan q),hu⟩)⟩
   ·have:decide ((1:Int)<((nV e.2).length:Int))=false:=aai (by rw[iu];omega);show if decide ((1:Int)<((nV e.2).length:Int))=true then _ else _
    rw[this];refine aJ ⟨rfl,⟨_,rfl⟩,fun y hy=>?_⟩;rw[aap,he] at hy;rcases aak.mp hy with hy|hy
    ·exact hall y hy
    ·have:y=e:=by simpa using hy
     rw[this];exact aai q
  ·rintro σ H1 ⟨rfl,⟨o,rfl⟩,hall⟩;rw[hlen,aas] at hall;refine k _ U _ s2 hUI (.inl ⟨List.find?_eq_none.mpr fun e he=>?_,rfl⟩);rw[hall e he];exact Bool.false_ne_true
end
end Nw
namespace Nw
open PySem L2
open SL (aq srt)
theorem vA{H:Hp}{U:List Us}{v:V}(h:Told H U v):∃t c x xs,v=.ref t/\H t=some (.tup (.str c::x::xs)):=by
 rcases h with ⟨_,h⟩|⟨e,n1,n2,rest,t,x,y,x1,x2,y1,y2,_,_,rfl,ht,_⟩
 ·unfold oX at h;cases h with
  |@tup a xs ds h1 h2 h3=>
   match xs,h2,h1,h3 with
   |[x0,x1],_,h1,h3=>
    have:=h3 0 x0 (.str "table") rfl rfl;cases this
    exact⟨_,_,_,_,rfl,h1⟩
 ·exact⟨_,_,_,_,rfl,ht⟩
theorem tq:∀(U:List Us),D.szs (U.map ki)=4*U.length
 |[]=>rfl
 |e::r=>by
  show(ki e).sz+D.szs (r.map ki)=4*(r.length+1);rw[tq r,show(ki e).sz=4 from rfl];omega
def lh(H:Hp)(v:V)(n:Nat):Prop:=∃t,v=.ref t/\H t=some (.tup [.int (n:Nat)])
theorem iV:jo lh:=fun _ _ _ _ s ⟨t,h1,h2⟩=>⟨t,h1,s _ _ h2⟩
theorem xf{H:Hp}{v:V}{n:Nat}(h:lh H v n):Rep H v (.tup [.int (n:Nat)]):=by
 obtain⟨t,rfl,ht⟩:=h;refine .tup ht rfl fun i x d e1 e2=>?_
 rcases i with _|i
 ·cases e1;cases e2;exact .int _
 ·cases e1
theorem o0{H:Hp}{a:Addr}{vs:List V}{ns:List Nat}(ha:H a=some (.lst vs))(hp:Paired (lh H) vs ns):Rep H (.ref a) (.lst (ns.map fun n=>D.tup [.int ((n:Nat):Int)])):=by
 refine .lst ha (by rw[aaa];exact Paired.length hp) fun i x d e1 e2=>?_
 obtain⟨n,hn,hr⟩:=aT hp i x e1;rw[aax,hn] at e2;cases e2
 exact xf hr
abbrev vB:Stmt:=top 60
theorem gS:aD ["_law_script","_law_rows","_law_handed","_law_found","_law_bad","_law_heads","_law_due"] ["_law_script"] (au vB):=⟨rfl,rfl,rfl,by decide +kernel,rfl,by decide +kernel,by decide +kernel⟩
def mT(K:PySem.W.Frag)(TP:Addr):Sp:=fun vs H Q _=>∃(a:Addr) (ns:List Int),vs=[.ref a]/\SqL K H a (ns.map V.int)/\ns.length<=63/\cW TP iS tmQ H/\∀H',Q (.bl true) H'
theorem boot_sum:bootBuiltins "sum"=some (.builtin "sum"):=by decide +kernel
section
variable {P:Program}{w:World}{K:PySem.W.Frag}{mg:Str->Option Value}{base:Heap}
theorem yL{TP f:Addr}{fd:FuncData}(F:Fun K "law" "law" vB f fd)(T:Txt mg)(dDrawn:Def P w K mg base "_law_drawn_rows" 2 ["_law_cells","_law_wild"] lJ)(dRoom:Def P w K mg base "_law_room" 1 ["_law_script","_law_most","_law_bound"] (ou K))
  (dAt:Def P w K mg base "_law_at" 1 ["_law_script","_law_k"] (vn K))(dRen:Def P w K mg base "_law_renamed" 1 ["_law_rows","_law_cell"] qz)(dSo:Def P w K mg base "_law_so" 1 ["_law_found","_law_due"] ug)
  (dTof:Def P w K mg base "table_of" 9 ["rows"] (qW TP))(dFc:Def P w K mg base "_law_first_clash" 5 ["_law_rows"] qY)(dEn:Def P w K mg base "_law_entries" 4 ["_law_rows"] qX):a0 P w K mg base CX0 10 f fd ["_law_script"] (mT K TP):=by
 refine F.ok gS (fun vs H Q E h=>?_) (fun cdv A outer s H vs Q E hr h=>?_)
 ·obtain⟨a,ns,rfl,_⟩:=h;rfl
 ·obtain⟨a,ns,rfl,hS,hl63,hT,k⟩:=h;have hr5:bu 5 _:=hr.mono (by decide);have hr4:bu 4 _:=hr.mono (by decide);have hr2:bu 2 _:=hr.mono (by decide);have hr1:bu 1 _:=hr.mono (by decide);refine⟨_,aV (ao (i:=1) gS.nd rfl (Or.inl rfl) (aw dDrawn hr2 (by rfl) (ag (cE d9 (pv 0) (cM az) (cM (bv eE az (aw dRoom hr1 (by rfl) (ag (pv 0) (ag az (ag az ac)))))))
     (ag (ll km (bv eF (aw dAt hr1 (by rfl) (ag (pv 0) (ag az ac))) az) az (bB _)) ac))))
   (aV (ao (i:=1) gS.nd rfl (Or.inl rfl) (aw dRen hr1 (by rfl) (ag (pv 1) (ag (aC (tW rfl) (by rfl) T.sum boot_sum (ag (cE d9 (pv 0) c9 (cM az)) ac)) ac))))
   (aV (fe (k:=2) (aX.none (N:=["_law_row"]) (sel:=[none]) (by rfl) (by rfl) (by rfl) (by decide) (by decide) (by rfl) (by decide)) rfl gS.nd rfl (Or.inl rfl) (aB (pv 1)) (fun s₃ H₃ fp=>ap (i:=0) (show(["_law_row"]:List Str).Nodup by decide) rfl (Or.inl rfl)) (fun s₃ H₃ fp=>dc)
    (fun s₃ H₃ fp=>aP (ag (aE (r:=gX K) aU (pv 0) az (fun _ _=>rfl)) (ag (cX (X:=cC _ _ _ _ _ _ _) (T:="list") (r:=pT K) ph (by rfl) T.lst (by decide +kernel) (ag (aE (r:=gX K) aU (pv 0) az (fun _ _=>rfl)) ac)) ac))))
   (aV (ao (i:=3) gS.nd rfl (Or.inl rfl) (aw dTof hr (by rfl) (ag (pv 2) ac)))
   (af (bi (PW.pt (iw (gw (ci (aC cx (by rfl) T.isi boot_isinstance (ag (pv 3) (ag (cB (v:=.ty "tuple") (by rfl) T.tup d3 rfl) ac)))))
     (iw (aK pX (aC bq (by rfl) T.len PySem.boot_len (ag (pv 3) ac)) az (bB _))
     (iY (gw (ci (aC cx (by rfl) T.isi boot_isinstance (ag (aE aU (pv 3) az (fun _ _=>rfl)) (ag (cB (v:=.ty "str") (by rfl) T.str oj rfl) ac))))))))) cn aY)
   (af (bi (gw (ci (aw dSo hr1 (by rfl) (ag (pv 2) (ag (pv 1) ac))))) cn aY)
   (aV (ao (i:=4) gS.nd rfl (Or.inl rfl) (aw dFc hr5 (by rfl) (ag (pv 1) ac)))
   (af (bi (aK lj (pv 4) e7 (bB _))
    (aV (bi (PW.pt (iw (aK jA (aC bq (by rfl) T.len PySem.boot_len (ag (pv 3) ac)) az (bB _))
      (iY (gw (ci (aw dSo hr1 (by rfl) (ag (cE kq (pv 3) c9 (cM az)) (ag (bv vY (aP (ag e8 ac)) (cX mr (by rfl) T.tup d3 (ag (cE kq (pv 4) c9 (cM az)) ac))) ac)))))))) cn aY)
    (aV (fe (k:=5) (aX.none (N:=["_law_part"]) (sel:=[none]) (by rfl) (by rfl) (by rfl) (by decide) (by decide) (by rfl) (by decide)) rfl gS.nd rfl (Or.inl rfl) (xw (cE kq (pv 3) (cM az) c9))
     (fun s₃ H₃ fp=>ap (i:=0) (show(["_law_part"]:List Str).Nodup by decide) rfl (Or.inl rfl))
     (fun s₃ H₃ fp=>gp (ci (aC (X:=cC _ _ _ _ _ _ _) (r:=yI K) tj (by rfl) T.isi boot_isinstance (ag (pv 0) (ag (cB (X:=cC _ _ _ _ _ _ _) (v:=.ty "tuple") (by rfl) T.tup d3 rfl) ac)))))
     (fun s₃ H₃ fp=>cE (r:=xH K) kq (pv 0) c9 (cM az)))
    (ai (aI (aw dSo hr1 (by rfl) (ag (pv 5) (ag (aW (ag (aP (ag (aE bb (aE aU (pv 4) az (fun _ _=>rfl)) az (fun _ _=>rfl)) ac))
     (ag (aP (ag (aE bb (aE aU (pv 4) az (fun _ _=>rfl)) az (fun _ _=>rfl)) ac)) ac))) ac)))))))
    aY)
   (aV (fe (k:=6) (aX.none (N:=["_law_entry"]) (sel:=[none]) (by rfl) (by rfl) (by rfl) (by decide) (by decide) (by rfl) (by decide)) rfl gS.nd rfl (Or.inl rfl) (aB (aw dEn hr4 (by rfl) (ag (pv 1) ac)))
    (fun s₃ H₃ fp=>ap (i:=0) (show(["_law_entry"]:List Str).Nodup by decide) rfl (Or.inl rfl)) (fun s₃ H₃ fp=>dc)
    (fun s₃ H₃ fp=>aP (ag (aE (r:=gX K) aU (pv 0) az (fun _ _=>rfl)) (ag (aE (r:=gX K) aU (pv 0) az (fun _ _=>rfl)) (ag (aE (r:=e9 K) bb (aE (r:=gX K) aU (pv 0) az (fun _ _=>rfl)) az (fun _ _=>rfl)) ac)))))
   (ai (aI (aw dSo hr1 (by rfl) (ag (pv 3) (ag (aP (ag e8 (ag (pv 6) ac))) ac))))))))))))),?_⟩
  refine⟨fun σ H1=>∃q R,σ=[some (.ref a),some (.ref q),none,none,none,none,none]/\ab H H1/\a7 H1 q R/\Drawn 4 R,?_,?_⟩
  ·refine⟨_,rfl,1,rfl,_,rfl,a,_,.int 4,.int 7,rfl,hS,by rw[aaa];exact hl63,_,_,rfl,rfl,5,rfl,a,_,rfl,hS,fun p hp=>?_⟩;obtain⟨ms,e,hm⟩:=vw ns 1 5;have e:dw (ns.map V.int) (some 1) (some 5)=ms.map V.int:=e;rw[e];have sp:=ab.upd (o:=HO.lst (ms.map V.int)) hp;refine⟨_,rfl,a,ns,0,rfl,sp.seq hS,fun c=>⟨_,_,rfl,rfl,(show(0:Int)<2 by decide),rfl,?_⟩⟩;exact⟨p,ms,_,rfl,aa,by omega,fun q R H' s' _ hR dr=>⟨q,R,rfl,sp.trans s',hR,dr.toK (by omega)⟩⟩
  rintro σ H1 ⟨q0,R0,rfl,s1,hR0,dr⟩;refine⟨fun σ H2=>∃q R,σ=[some (.ref a),some (.ref q),none,none,none,none,none]/\ab H H2/\a7 H2 q R/\Good R/\Tight R/\jt R/\∀p∈R,¬("":Str)∈p.2,?_,?_⟩
  ·obtain⟨ms,e,hm⟩:=vx ns 2;have e:dw (ns.map V.int) none (some 2)=ms.map V.int:=e;have hS1:=s1.seq hS;refine⟨_,rfl,_,rfl,2,rfl,a,_,rfl,hS1,fun p hp=>?_⟩;rw[e];have sp:=ab.upd (o:=HO.lst (ms.map V.int)) hp;have hlR:R0.length<=20:=by
    obtain⟨m,e,hm⟩:=dr.sh;rw[e,aag];show 3+m.length<=20;omega
   refine⟨p,ms,rfl,SqL.of aa,q0,_,R0,rfl,hR0.mono sp,hlR,fun p hp=>Nat.le_trans (dr.wd p hp) (by decide),fun q f H' s' hf hR=>?_⟩;exact⟨q,_,rfl,(s1.trans sp).trans s',hR,wJ dr hf,vy dr f,tm dr f,mD dr hf⟩
  clear dr hR0 s1 R0 q0 H1;rintro σ H2 ⟨q,R,rfl,s2,hR,gd,tg,s3R,hne⟩;have sm:=gd.small;have hR14:=sm.len;obtain⟨vs,hv,hp⟩:=id hR;have hlen:vs.length=R.length:=Paired.length hp;refine⟨fun σ H3=>∃h,σ=[some (.ref a),some (.ref q),some (.ref h),none,none,none,none]/\ab H2 H3/\a7 H3 h R,?_,?_⟩
  ·refine⟨_,rfl,q,rfl,⟨_,SqL.of hv⟩,fun D hD=>cH (K:=K) (xs:=vs) (fun i τ H3=>(∃o,τ=[o])/\ab H2 H3/\∃us,eM H3 D us (R.take i)) ⟨⟨_,rfl⟩,ab.upd hD,[],eM.nil⟩ ?_ ?_ ?_⟩
   ·rintro i τ H3 ⟨_,s3,_⟩;exact SqL.of (s3 _ _ hv)
   ·rintro i x τ H3 hx ⟨⟨o,rfl⟩,s3,us,rb⟩;obtain⟨p,t,b,hpi,rfl,ht,hb⟩:=bO hp hx;have ht3:=s3 _ _ ht;have hb3:H3 b=some (.lst (p.2.map V.str)):=s3 _ _ hb;have hil:i<R.length:=(aab.mp hpi).1;refine⟨_,rfl,t,_,0,_,rfl,rfl,SqT.of ht3,aA (j:=0) rfl,_,rfl,t,_,1,_,rfl,rfl,SqT.of ht3,aA (j:=1) rfl,b,_,rfl,.inl (SqL.of hb3),fun l hl=>⟨(show 2<=sizeLine by decide),fun t' ht'=>?_⟩⟩;have sl:=ab.upd (o:=HO.lst (p.2.map V.str)) hl;have st:=ab.upd (o:=HO.tup [V.str p.1,V.ref l]) ht';have rb':=rb.mono (sl.trans st);have hlD:l≠D:=Ne.symm (aR rb.at_ hl);have hus:us.length<=20:=by
     have:=Paired.length rb.pr;rw[aal] at this;omega
    refine⟨us,rb'.at_,av (by omega),⟨_,rfl⟩,(s3.trans (sl.trans st)).bz hD,us++[.ref t'],?_⟩;rw[aap,hpi];exact rb'.snoc aa (st _ _ aa) hlD
   ·rintro τ H3 ⟨_,s3,us,rb⟩;rw[hlen,aas] at rb;exact⟨D,rfl,s3,rb.rows⟩
  rintro σ H3 ⟨h,rfl,s3,hH⟩;have hT3:=hT.mono (s2.trans s3);refine⟨fun σ H6=>∃v U,σ=[some (.ref a),some (.ref q),some (.ref h),some v,none,none,none]/\a7 H6 h R/\a7 H6 q R/\eK R U/\U.length<=36/\Told H6 U v,?_,?_⟩
  ·exact⟨_,rfl,h,R,rfl,hH,gd,tg,s3R,hne,hT3,fun v U H6 hUI h36 _ sT hT6 told=>⟨v,U,rfl,kh hT3 sT hH,kh hT3 sT (hR.mono s3),hUI,h36,told⟩⟩
  rintro σ H6 ⟨v,U,rfl,hH6,hR6,hUI,h36,told⟩;obtain⟨t,c,x0,xs0,rfl,ht⟩:=vA told;refine⟨_,rfl,_,_,_,_,rfl,.tup ht,om,_,rfl,aJ ?_⟩;refine⟨_,rfl,t,_,rfl,.inr (SqT.of ht),_,_,rfl,rfl,_,rfl,?_⟩;have e2:decide ((((V.str c::x0::xs0).length:Nat):Int)<2)=false:=aai (by rw[aau,aau];omega);show if decide ((((V.str c::x0::xs0).length:Nat):Int)<2)=true then _ else _
  rw[e2];refine aJ ?_;refine⟨_,rfl,t,_,0,_,rfl,rfl,SqT.of ht,aA (j:=0) rfl,_,_,_,_,rfl,.str _,um,_,rfl,aJ ?_⟩;have z2:=pK sm.wid;have m2:(20+3)*R.length<=23*14:=Nat.mul_le_mul_left _ hR14;refine⟨_,rfl,_,rfl,_,_,jK R,rfl,ox hH6,ox hR6,by omega,fun H7 s7=>⟨_,rfl,aJ ?_⟩⟩;have hR7:=hR6.mono s7;refine⟨fun σ H8=>∃vb,σ=[some (.ref a),some (.ref q),some (.ref h),some (.ref t),some vb,none,none]/\ab H7 H8/\((e6 U=none/\vb=.non)\/∃e,e6 U=some e/\fL H8 vb e),?_,?_⟩
  ·refine⟨_,rfl,q,R,rfl,hR7,sm,tg,hne,fun vb U' H8 s8 hUI' hc=>?_⟩;have eU:=hUI'.eq hUI;subst eU;exact⟨vb,rfl,s8,hc⟩
  rintro σ H8 ⟨vb,rfl,s8,hc⟩;have s68:=s7.trans s8;rcases told with ⟨hn,hrep⟩|⟨e,n1,n2,rest,t',x,y,x1,x2,y1,y2,hs,hns,et,ht',hx,hy⟩
  ·
   have hvb:vb=.non:=by
    rcases hc with ⟨_,z⟩|⟨e,hs,_⟩
    ·exact z
    ·rw[hn] at hs;cases hs
   subst hvb;refine⟨_,rfl,rfl,_,rfl,aJ ?_⟩;refine⟨fun σ H9=>∃D,σ=[some (.ref a),some (.ref q),some (.ref h),some (.ref t),some .non,none,some (.ref D)]/\ab H8 H9/\∃ws,H9 D=some (.lst ws)/\Paired (oY H9) ws U,?_,?_⟩
   ·refine⟨_,rfl,q,R,rfl,hR7.mono s8,sm,tg,hne,fun qe U' H9 s9 hus hUI'=>?_⟩;have eU:=hUI'.eq hUI;subst eU;obtain⟨ves,hve,hpe⟩:=hus;have hle:ves.length=U'.length:=Paired.length hpe;refine⟨qe,rfl,⟨_,SqL.of hve⟩,fun D hD=>cH (K:=K) (xs:=ves) (fun j τ H10=>(∃o,τ=[o])/\bh oY H9 D H10 (U'.take j)) ⟨⟨_,rfl⟩,bh.zero hD⟩ ?_ ?_ ?_⟩
    ·rintro j τ H10 ⟨_,hg⟩;exact SqL.of ((hg.fin dQ).1 _ _ hve)
    ·rintro j x τ H10 hx ⟨⟨o,rfl⟩,hg⟩;obtain⟨e,he,tt,l,rfl,htt,hl⟩:=aT hpe j x hx;have hem:e∈U':=aah he;have s10:=(hg.fin dQ).1;have hjl:j<U'.length:=(aab.mp he).1;obtain⟨n0,ns',hns⟩:∃n0 ns',e.2=n0::ns':=by
      cases q:e.2 with
      |nil=>
       exfalso;obtain⟨p,hp',h1,h2⟩:=(hUI.mem e.1.1 e.1.2).mp (aao.mpr ⟨e,hem,rfl⟩);obtain⟨n,hn'⟩:=List.mem_iff_getElem?.mp hp';have:=(hUI.num e hem n).mpr ⟨p,hn',h1,h2⟩;rw[q] at this;cases this
      |cons a b=>exact⟨a,b,rfl⟩
     have hl0:(nV e.2)[0]? =some (.int (n0:Nat)):=by rw[hns];rfl
     refine⟨_,rfl,tt,_,0,_,rfl,rfl,SqT.of (s10 _ _ htt),aA (j:=0) rfl,_,rfl,tt,_,1,_,rfl,rfl,SqT.of (s10 _ _ htt),aA (j:=1) rfl,_,rfl,tt,_,2,_,rfl,rfl,SqT.of (s10 _ _ htt),aA (j:=2) rfl,l,_,0,_,rfl,rfl,SqL.of (s10 _ _ hl),aA (j:=0) hl0,(show 3<=sizeLine by decide),fun t2 ht2=>?_⟩;have s11:=ab.upd (o:=HO.tup [.str e.1.1,.str e.1.2,.int (n0:Nat)]) ht2;have hg8:=hg.on dQ s11;obtain⟨ys,hy,_⟩:=id hg8;have hyl:=hg8.len hy;rw[aal] at hyl;refine⟨ys,hy,av (by omega),⟨_,rfl⟩,?_⟩;rw[aap,he];refine hg8.add hD hy ⟨t2,rfl,?_⟩;have:t2≠D:=fun e=>by
      obtain⟨y6,hy6,_⟩:=id hg;rw[e,hy6] at ht2;cases ht2
     rw[hide_ne this,aa,hns];rfl
    ·rintro τ H10 ⟨_,hg⟩;rw[hle,aas] at hg;obtain⟨s10,ws,hw,hwp⟩:=hg.fin dQ;exact⟨D,rfl,s9.trans s10,ws,hw,hwp⟩
   rintro σ H9 ⟨D,rfl,s9,ws,hw,hwp⟩;refine⟨_,rfl,_,rfl,(show 2<=sizeLine by decide),fun t2 ht2=>?_⟩;have s10:=ab.upd (o:=HO.tup [.str "table",.ref D]) ht2;refine⟨_,_,oX U,rfl,hrep.mono ((s68.trans s9).trans s10),.tup aa rfl fun i x d e1 e2=>?_,?_,fun H' _=>k H'⟩
   ·rcases i with _|_|i
    ·cases e1;cases e2;exact .str _
    ·cases e1;cases e2
     refine .lst (s10 _ _ hw) (by rw[aaa];exact Paired.length hwp) fun i x d e1 e2=>?_
     obtain⟨e,he,hr⟩:=aT hwp i x e1;rw[aax,he] at e2;cases e2
     exact sW (dQ _ _ _ _ s10 hr)
    ·cases e1
   ·show 1+(1+((1+Nw.D.szs (U.map ki))+0))<=10000;rw[tq];omega
  ·
   injection et with et;subst et;rcases hc with ⟨hn,_⟩|⟨e',hs',hub⟩
   ·rw[hs] at hn;cases hn
   rw[hs] at hs';cases hs'
   obtain⟨tb,l,rfl,htb,hl⟩:=hub;refine⟨_,rfl,rfl,_,rfl,a9 ?_⟩;have ht8:=s68 _ _ ht';have hl1:(nV e.2)[0]? =some (.int (n1:Nat)):=by rw[hns];rfl
   have hl2:(nV e.2)[1]? =some (.int (n2:Nat)):=by rw[hns];rfl
   refine⟨fun σ H9=>σ=[some (.ref a),some (.ref q),some (.ref h),some (.ref t),some (.ref tb),none,none]/\ab H8 H9,?_,?_⟩
   ·refine⟨_,rfl,t,_,rfl,.inr (SqT.of ht8),rfl,_,rfl,jD rfl ?_⟩;refine⟨_,rfl,3,rfl,t,_,rfl,SqT.of ht8,(show ¬(HT.sIx 5 0 none=0/\HT.sIx 5 5 (some 3)=5) by decide),fun p1 hp1=>?_⟩;have u1:=ab.upd (o:=HO.tup [.str "clash",.str e.1.1,.str e.1.2]) hp1;refine⟨(show 1<=sizeLine by decide),fun p2 hp2=>?_⟩;have u2:=ab.upd (o:=HO.tup [.str "clash"]) hp2;have u12:=u1.trans u2;refine⟨_,rfl,2,rfl,tb,_,rfl,SqT.of (u12 _ _ htb),(show ¬(HT.sIx 3 0 none=0/\HT.sIx 3 3 (some 2)=3) by decide),fun p3 hp3=>?_⟩;have u3:=ab.upd (o:=HO.tup [.str e.1.1,.str e.1.2]) hp3;refine⟨p3,_,rfl,.inr ⟨SqT.of aa,?_⟩⟩;refine⟨p2,p3,_,_,rfl,rfl,SqT.of (u3 _ _ aa),SqT.of aa,(fun z=>by cases z),(show 1+2<=sizeLine by decide),(fun z=>by cases z),fun _ p4 hp4=>?_⟩;have u4:=ab.upd (o:=HO.tup [.str "clash",.str e.1.1,.str e.1.2]) hp4;have rep3:∀{H':Hp} {b:Addr},H' b=some (.tup [.str "clash",.str e.1.1,.str e.1.2])->Rep H' (.ref b) (.tup [.str "clash",.str e.1.1,.str e.1.2]):=fun{H' b} hb=>by
     refine .tup hb rfl fun i x d e1 e2=>?_
     rcases i with _|_|_|i
     ·cases e1;cases e2;exact .str _
     ·cases e1;cases e2;exact .str _
     ·cases e1;cases e2;exact .str _
     ·cases e1
    have u24:=(u2.trans u3).trans u4;exact⟨_,_,.tup [.str "clash",.str e.1.1,.str e.1.2],rfl,rep3 (u24 _ _ aa),rep3 aa,(show 4<=10000 by decide),fun H' s'=>⟨_,rfl,aJ ⟨rfl,(u1.trans u24).trans s'⟩⟩⟩
   rintro σ H9 ⟨rfl,s9⟩;have ht9:=s9 _ _ ht8;have s69:=s68.trans s9;refine⟨fun σ H10=>∃D,σ=[some (.ref a),some (.ref q),some (.ref h),some (.ref t),some (.ref tb),some (.ref D),none]/\ab H9 H10/\∃ws,H10 D=some (.lst ws)/\Paired (lh H10) ws [n1,n2],?_,?_⟩
   ·refine⟨_,rfl,3,rfl,t,_,rfl,SqT.of ht9,(show ¬(HT.sIx 5 0 (some 3)=0/\HT.sIx 5 5 none=5) by decide),fun p5 hp5=>?_⟩;have u5:=ab.upd (o:=HO.tup [.ref x,.ref y]) hp5;have u95:=s69.trans u5;refine⟨p5,rfl,⟨_,SqT.of aa⟩,fun D hD=>vt (K:=K) (xs:=[.ref x,.ref y]) (fun j τ H10=>(∃o,τ=[o])/\bh lh (upd H9 p5 (.tup [.ref x,.ref y])) D H10 ([n1,n2].take j)) ⟨⟨_,rfl⟩,bh.zero hD⟩ ?_ ?_ ?_⟩
    ·rintro j τ H10 ⟨_,hg⟩;exact SqT.of ((hg.fin iV).1 _ _ aa)
    ·rintro j v τ H10 hv' ⟨⟨o,rfl⟩,hg⟩;have s10:=(hg.fin iV).1;obtain⟨b,n,w1,w2,rfl,hb,hnj⟩:∃(b:Addr) (n:Nat) (w1 w2:V),v=.ref b/\H10 b=some (.tup [.int (n:Nat),w1,w2])/\[n1,n2][j]? =some n:=by
      rcases j with _|_|j
      ·cases hv';exact⟨x,n1,x1,x2,rfl,s10 _ _ (u95 _ _ hx),rfl⟩
      ·cases hv';exact⟨y,n2,y1,y2,rfl,s10 _ _ (u95 _ _ hy),rfl⟩
      ·simp at hv'
     refine⟨_,rfl,_,_,_,_,rfl,.tup hb,om,_,rfl,a9 ?_⟩;refine⟨_,rfl,1,rfl,b,_,rfl,SqT.of hb,(show ¬(HT.sIx 3 0 none=0/\HT.sIx 3 3 (some 1)=3) by decide),fun t2 ht2=>?_⟩;have s11:=ab.upd (o:=HO.tup [.int (n:Nat)]) ht2;have hg8:=hg.on iV s11;obtain⟨ys,hys,_⟩:=id hg8;have hyl:=hg8.len hys;rw[aal] at hyl;refine⟨ys,hys,av (by simp at hyl;omega),⟨_,rfl⟩,?_⟩;rw[aap,hnj];refine hg8.add hD hys ⟨t2,rfl,?_⟩;have:t2≠D:=fun e=>by
      obtain⟨y6,hy6,_⟩:=id hg;rw[e,hy6] at ht2;cases ht2
     rw[hide_ne this];exact aa
    ·rintro τ H10 ⟨_,hg⟩;obtain⟨s10,ws,hw,hwp⟩:=hg.fin iV;exact⟨D,rfl,u5.trans s10,ws,hw,hwp⟩
   rintro σ H10 ⟨D,rfl,s10,ws,hw,hwp⟩;have s8a:=s9.trans s10;have htb10:=s8a _ _ htb;have hl10:=s8a _ _ hl;refine⟨_,rfl,_,rfl,tb,_,2,_,rfl,rfl,SqT.of htb10,aA (j:=2) rfl,l,_,0,_,rfl,rfl,SqL.of hl10,aA (j:=0) hl1,(show 1<=sizeLine by decide),fun a1 ha1=>?_⟩;have v1:=ab.upd (o:=HO.tup [.int (n1:Nat)]) ha1;refine⟨_,rfl,tb,_,2,_,rfl,rfl,SqT.of (v1 _ _ htb10),aA (j:=2) rfl,l,_,1,_,rfl,rfl,SqL.of (v1 _ _ hl10),aA (j:=1) hl2,(show 1<=sizeLine by decide),fun a2 ha2=>⟨(show 2<=sizeLine by decide),fun a3 ha3=>?_⟩⟩;have v2:=ab.upd (o:=HO.tup [.int (n2:Nat)]) ha2;have v3:=ab.upd (o:=HO.lst [.ref a1,.ref a2]) ha3;have v23:=v2.trans v3;refine⟨_,_,Nw.D.lst ([n1,n2].map fun n=>Nw.D.tup [.int ((n:Nat):Int)]),rfl,(o0 hw hwp).mono (v1.trans v23),o0 aa (.cons ⟨a1,rfl,v23 _ _ aa⟩ (.cons ⟨a2,rfl,v3 _ _ aa⟩ .nil)),(show 5<=10000 by decide),fun H' _=>k H'⟩
end
end Nw
namespace L2
open PySem PySem.W PySem.Spec PyProof.Rows
theorem tu{P:Program}{w:World}{K:Frag}{mg mb:Str->Option Value}{k:Nat}{fa a c0 TP:Addr}{fd:FuncData}{x:Str}{sp:Sp}{s₁:Shared}{vs:List Value}{ns:List Int}
  (KX:K.In s₁.heap)(hns:s₁.heap.Ns mainGlobals mg)(hb:s₁.heap.Ns builtinsNs mb)(hbb:∀x:Str,x≠"__name__"->mb x=bootBuiltins x)(hlim:s₁.heap.NoLimit)(hg:s₁.gens=#[])
  (ha:s₁.heap.get? a=some {cls:=.type "list",data:=.seq vs.toArray})(hi:IntsAre vs ns)(hl:ns.length<=sizeLine)(hr:bu k callerA)
  (hP:s₁.heap.get? TP=some (tabObj #[]))(hPK:K.lookup TP=none)(hcd:codeHdIn K c0 TP=true)(hbm:Bm mg s₁.heap)
  (F:∀base:Heap,K.In base->base.Ns mainGlobals mg->CodeHd base c0 TP->Bm mg base->a0 P w K mg base CX0 k fa fd [x] sp)(hbind:∀(s:Shared) (u:Value),BindsTo s fd ⟨[u],[]⟩ [(x,u)])
  (hsp:∀H:Hp,H TP=some (.tbl #[])->SqL K H a (ns.map V.int)->sp [.ref a] H (fun v _=>v=.bl true) fun _ _ _=>False) :
  codeAny (model P w) callerA (.call (.ref fa) ⟨[.ref a],[]⟩) (fun r s'=>r=.ok (.ret (.bool true))/\OldK s₁.heap s'.heap/\s'.os=s₁.os/\AllBare s'.gens) s₁:=by
 have rv:=lZ hi;have lenV:=hi.length;have naP:a≠TP:=fun z=>by
  rw[z,hP] at ha;cases ha
 have isT:isCodeTable s₁.heap TP:=by
  obtain⟨o,us,_,_,_,_,_,_,_,h1,h2,h3,h4,_⟩:=codeHd_of_K KX hcd;exact⟨c0,o,us,h1,h2,h3,h4⟩
 have core:∀H:Hp,(∀b,H b=none\/(∃o xs,H b=some (.frz o (.lst xs)))\/b=TP)->SqL K H a (ns.map V.int)->HOk P w H s₁.heap->(∀b,H b≠none->b=a\/b=TP)->(H a≠none->K.lookup a=none)->H TP=some (.tbl #[])->
   codeAny (model P w) callerA (.call (.ref fa) ⟨[.ref a],[]⟩) (fun r s'=>r=.ok (.ret (.bool true))/\OldK s₁.heap s'.heap/\s'.os=s₁.os/\AllBare s'.gens) s₁:=by
  intro H hO hS hok hA hK hTP;have base_of:∀{b:Addr} {o:Obj},s₁.heap.get? b=some o->H b=none->(gT s₁.heap H).get? b=some o:=fun e n=>tw e n
  have noB:∀{b:Addr} {o:Obj},s₁.heap.get? b=some o->(∀us n,o.data≠.seq us n)->(∀us,o.data≠.fields us)->H b=none:=fun{b o} e d1 d2=>by
   cases q:H b with
   |none=>rfl
   |some u=>
    rcases hA b (by rw[q];simp) with e'|e'
    ·subst e';rw[ha] at e;cases e;exact absurd rfl (d1 _ _)
    ·subst e';rw[hP] at e;cases e;exact absurd rfl (d2 _)
  have nsK:∀{b:Addr} {m:Str->Option Value},s₁.heap.Ns b m->(gT s₁.heap H).Ns b m:=fun{b m} ⟨o,es,ep,e,d,r⟩=>⟨o,es,ep,base_of e (noB e (fun _ _ z=>by rw[d] at z;cases z) fun _ z=>by rw[d] at z;cases z),d,r⟩
  have hKb:K.In (gT s₁.heap H):=fun b o e=>base_of (KX b o e) (by
   cases q:H b with
   |none=>rfl
   |some u=>
    rcases hA b (by rw[q];simp) with e'|e'
    ·subst e';rw[hK (by rw[q];simp)] at e;cases e
    ·subst e';rw[hPK] at e;cases e)
  have hBm:Bm mg (gT s₁.heap H):=by
   obtain⟨bm,ob,b1,b2,b3,b4,b5,b6⟩:=hbm;exact⟨bm,ob,b1,b2,base_of b3 (noB b3 (fun _ _ z=>by rw[b6] at z;cases z) fun _ z=>by rw[b6] at z;cases z),b4,b5,b6⟩
  have hM:Mod K mg (gT s₁.heap H):=⟨hKb,nsK hns,⟨mb,nsK hb,hbb⟩,let ⟨mc,h1,h2⟩:=hlim;⟨mc,nsK h1,h2⟩⟩;have e0:p7 P w K mg (gT s₁.heap H) callerA [] s₁ H:=⟨rfl,hM,fun b o e=>vU e,Nat.le_of_eq (ri _ _),trivial,fun b hb=>absurd (show b∈([]:List Addr) from hb) (by simp),hok,.of_eq hg⟩;refine codeAny_mono ((F _ hKb (nsK hns) (codeHd_of_K hKb hcd) hBm).run callerA [] s₁ H ⟨[.ref a],[]⟩ [.ref a] [.ref a] _ _ hr e0 (hbind s₁ (.ref a)) (.cons rfl .nil) (hsp H hTP hS)) fun r s' h=>?_
  cases r with
  |error e=>exact False.elim h
  |ok fl=>
   cases fl with
   |next=>exact False.elim h
   |brk=>exact False.elim h
   |cont=>exact False.elim h
   |ret u=>
    obtain⟨v,H',os,bare,un,hok',r',q⟩:=h;have q':v=.bl true:=q;subst q';obtain rfl:u=Value.bool true:=r';have all:∀b o,s₁.heap.get? b=some o->b≠TP->s'.heap.get? b=some o:=fun b o e nb=>by
     cases q:H b with
     |none=>exact un.keep b o e q (by intro z;exact absurd (show b∈([]:List Addr) from z) (by simp)) (by simp)
     |some u=>
      rcases hO b with z|⟨ob,xs,z⟩|z
      ·rw[q] at z;cases z
      ·have z2:=un.frzs b ob _ z;obtain⟨e1,_⟩:=hok b _ z;obtain⟨e2,_⟩:=hok' b _ z2;rw[e] at e1;cases e1;exact e2
      ·exact absurd z nb
    obtain⟨more,hT'⟩:=un.tbls TP _ hTP;have hT2:s'.heap.get? TP=some {cls:=.none,data:=.fields (#[]++more)}:=hok' TP _ hT';refine⟨rfl,⟨fun b o e=>?_,fun b o e=>?_⟩,os,bare⟩
    ·by_cases nb:b=TP
     ·subst nb;rw[hP] at e;cases e;exact .inr (.inl ⟨isT,rfl,#[],more,rfl,hT2⟩)
     ·exact .inl (all b o e nb)
    ·by_cases nb:b=TP
     ·subst nb;exact⟨_,hT2⟩
     ·exact⟨o,all b o e nb⟩
 have tOk:∀{H:Hp},ba P w H s₁.heap TP (.tbl #[]):=fun{H}=>hP
 cases hk:K.lookup a with
 |some o=>
  have e:=KX a o hk;rw[ha] at e;cases e
  refine core (fun b=>if b=TP then some (.tbl #[]) else none) (fun b=>?_) (.inr ⟨_,vs.toArray,_,hk,rfl,rfl,rfl,by rw[aaq,lenV];exact hl,by simpa using rv⟩) (fun b u z=>?_) (fun b z=>?_) (fun z=>absurd (if_neg naP) z) (if_pos rfl)
  ·by_cases hb:b=TP
   ·exact .inr (.inr hb)
   ·exact .inl (if_neg hb)
  ·by_cases hb:b=TP
   ·have z':=(if_pos hb).symm.trans z;cases z'
    subst hb;exact tOk
   ·have z':=(if_neg hb).symm.trans z;cases z'
  ·by_cases hb:b=TP
   ·exact .inr hb
   ·exact absurd (if_neg hb) z
 |none=>
  refine core (fun b=>if b=TP then some (.tbl #[]) else if b=a then some (.frz {cls:=.type "list",data:=.seq vs.toArray} (.lst (ns.map V.int))) else none) (fun b=>?_) (.inl (.inr ⟨{cls:=.type "list",data:=.seq vs.toArray},by show(if a=TP then _ else if a=a then _ else _)=_;rw[if_neg naP,if_pos rfl]⟩)) (fun b u z=>?_) (fun b z=>?_) (fun _=>hk) (if_pos rfl)
  ·by_cases hb:b=TP
   ·exact .inr (.inr hb)
   ·by_cases hb':b=a
    ·exact .inr (.inl ⟨_,_,by show(if b=TP then _ else if b=a then _ else _)=_;rw[if_neg hb,if_pos hb']⟩)
    ·exact .inl (by show(if b=TP then _ else if b=a then _ else _)=_;rw[if_neg hb,if_neg hb'])
  ·have z:(if b=TP then some (HO.tbl #[]) else if b=a then some (.frz {cls:=.type "list",data:=.seq vs.toArray} (.lst (ns.map V.int))) else none)=some u:=z
   by_cases hb:b=TP
   ·rw[if_pos hb] at z;cases z
    subst hb;exact tOk
   ·rw[if_neg hb] at z
    by_cases hb':b=a
    ·rw[if_pos hb'] at z;cases z
     subst hb';exact⟨ha,by rw[aaa];exact hl,vs,_,rv,ha⟩
    ·rw[if_neg hb'] at z;cases z
  ·by_cases hb:b=TP
   ·exact .inr hb
   ·by_cases hb':b=a
    ·exact .inl hb'
    ·exact absurd (show(if b=TP then some (HO.tbl #[]) else if b=a then _ else none)=none by rw[if_neg hb,if_neg hb']) z
theorem vC{l:OpenLaw}{n k:Nat}{q:Program}{loose:List Str}{XP:(Str->Option Value)->Heap->Prop}{YP:World->Heap->Prop}{d:DefRec}{K:Params->Frag}{sp:World->Sp}{x:Str}{TP:Addr}
  (hn:l.most=some n)(hn2:n<=sizeLine)(hdf:d.params.defaults=[])(hr:bu k callerA)
  (hY:∀(w:World) (h:Heap),YP w h->(K w.params).In h)(hYT:∀(w:World) (h:Heap),YP w h->h.get? TP=some (tabObj #[]))
  (F:∀(w:World) (mg:Str->Option Value) (fa:Addr) (h:Heap),(K w.params).In h->h.Ns mainGlobals mg->mg d.name=some (.ref fa)->
   ∃(fd:FuncData) (c0:Addr),(∀(s:Shared) (u:Value),BindsTo s fd ⟨[u],[]⟩ [(x,u)])/\(K w.params).lookup TP=none/\codeHdIn (K w.params) c0 TP=true/\
    ∀base:Heap,(K w.params).In base->base.Ns mainGlobals mg->CodeHd base c0 TP->Bm mg base->a0 l.prog w (K w.params) mg base CX0 k fa fd [x] (sp w))
  (hsp:∀(w:World) (H:Hp) (a:Addr) (ns:List Int),ns.length<=n->H TP=some (.tbl #[])->SqL (K w.params) H a (ns.map V.int)->sp w [.ref a] H (fun v _=>v=.bl true) fun _ _ _=>False) :
  WalkO q loose XP YP l.row.toRowW d [] (fun f vs=>PySem.call f vs):=by
 refine Att.pd hn hdf fun w s₀ s₁ mg mb fa o pm cd doc a vs ns G Y ho hd hcd hmg hobj hints hlen hg=>?_
 have KX:=hY w _ Y;obtain⟨fd,c0,hb,hPK,hcd',hF⟩:=F w mg fa _ KX G.T.g hmg;have hbm:Bm mg s₁.heap:=by
  have:=G.T.bmain;exact this
 exact tu KX G.T.g G.T.b G.T.builtins G.T.nolimit hg hobj hints (Nat.le_trans hlen hn2) hr (hYT w _ Y) hPK hcd' hbm hF hb fun H hO hS=>hsp w H a ns hlen hO hS
end L2
namespace Nw
open PySem L2
structure Got(K:PySem.W.Frag)(x:Str)(st:Stmt):Prop where
 ex:∃f fd,PySem.W.nsIn K mainGlobals x=some (some (.ref f))/\Fun K x x st f fd
theorem yM{K:PySem.W.Frag}{x:Str}{st:Stmt}{f:Addr}{oc:Value}{od an:Option Addr}{osl:Array (Option Value)}{kV doc pm cdv ct:Value}(a:PySem.W.nsIn K mainGlobals x=some (some (.ref f)))
  (l:K.lookup f=some ⟨oc,od,.func (PySem.W.fnOf x x (gn st) (eX st) (au st) .none kV doc pm an cdv ct),osl⟩)(c:PySem.W.codeIn K cdv x=true)(k:PySem.W.keepIn K (.ref f)=true):Got K x st:=⟨_,_,a,rS l c k⟩
theorem Got.def{P:Program}{w:World}{K:PySem.W.Frag}{mg:Str->Option Value}{base h:Heap}{x:Str}{st:Stmt}{k:Nat}{ps:List Str}{sp:Sp}(g:Got K x st)(X:K.In h)(G:h.Ns mainGlobals mg)
  (b:∀{f fd},Fun K x x st f fd->Binds K fd ps [])(ok:∀{f fd},Fun K x x st f fd->a0 P w K mg base CX0 k f fd ps sp):Def P w K mg base x k ps sp:=by
 obtain⟨f,fd,a,F⟩:=g.ex;exact⟨f,fd,PySem.W.mg_of X G a,F.kp,ok F,b F⟩
structure qZ(K:PySem.W.Frag)(x:Str)(st:Stmt)(c0 TP:Addr):Prop where
 ex:∃f fd,PySem.W.nsIn K mainGlobals x=some (some (.ref f))/\Fun K x x st f fd/\fd.code=.ref c0
 hd:PySem.W.codeHdIn K c0 TP=true
 no:K.lookup TP=none
theorem xg{K:PySem.W.Frag}{x:Str}{st:Stmt}{f c0 TP:Addr}{oc:Value}{od an:Option Addr}{osl:Array (Option Value)}{kV doc pm ct:Value}(a:PySem.W.nsIn K mainGlobals x=some (some (.ref f)))
  (l:K.lookup f=some ⟨oc,od,.func (PySem.W.fnOf x x (gn st) (eX st) (au st) .none kV doc pm an (.ref c0) ct),osl⟩)(c:PySem.W.codeIn K (.ref c0) x=true)(k:PySem.W.keepIn K (.ref f)=true)
  (hd:PySem.W.codeHdIn K c0 TP=true)(no:K.lookup TP=none):qZ K x st c0 TP:=⟨⟨_,_,a,rS l c k,rfl⟩,hd,no⟩
theorem qZ.def{P:Program}{w:World}{K:PySem.W.Frag}{mg:Str->Option Value}{base h:Heap}{x:Str}{st:Stmt}{c0 TP:Addr}{k:Nat}{ps:List Str}{sp:Sp}(g:qZ K x st c0 TP)(X:K.In h)(G:h.Ns mainGlobals mg)
  (b:∀{f fd},Fun K x x st f fd->Binds K fd ps [])(ok:∀{f fd},Fun K x x st f fd->fd.code=.ref c0->a0 P w K mg base CX0 k f fd ps sp):Def P w K mg base x k ps sp:=by
 obtain⟨f,fd,a,F,e⟩:=g.ex;exact⟨f,fd,PySem.W.mg_of X G a,F.kp,ok F e,b F⟩
structure vD(K:PySem.W.Frag):Prop where
 srt:PySem.W.nsIn K mainGlobals "sorted"=some none
 set:PySem.W.nsIn K mainGlobals "set"=some none
 all:PySem.W.nsIn K mainGlobals "all"=some none
 lst:PySem.W.nsIn K mainGlobals "list"=some none
 tup:PySem.W.nsIn K mainGlobals "tuple"=some none
 str:PySem.W.nsIn K mainGlobals "str"=some none
 bl:PySem.W.nsIn K mainGlobals "bool"=some none
 int:PySem.W.nsIn K mainGlobals "int"=some none
 len:PySem.W.nsIn K mainGlobals "len"=some none
 rng:PySem.W.nsIn K mainGlobals "range"=some none
 isi:PySem.W.nsIn K mainGlobals "isinstance"=some none
 abs:PySem.W.nsIn K mainGlobals "abs"=some none
 sum:PySem.W.nsIn K mainGlobals "sum"=some none
theorem vD.txt{K:PySem.W.Frag}{h:Heap}{mg:Str->Option Value}(b:vD K)(X:K.In h)(G:h.Ns mainGlobals mg):Txt mg where
 srt:=PySem.W.mg_none_of X G b.srt
 set:=PySem.W.mg_none_of X G b.set
 all:=PySem.W.mg_none_of X G b.all
 lst:=PySem.W.mg_none_of X G b.lst
 tup:=PySem.W.mg_none_of X G b.tup
 str:=PySem.W.mg_none_of X G b.str
 bl:=PySem.W.mg_none_of X G b.bl
 int:=PySem.W.mg_none_of X G b.int
 len:=PySem.W.mg_none_of X G b.len
 rng:=PySem.W.mg_none_of X G b.rng
 isi:=PySem.W.mg_none_of X G b.isi
 abs:=PySem.W.mg_none_of X G b.abs
 sum:=PySem.W.mg_none_of X G b.sum
structure ra(K:PySem.W.Frag)(t0 t1 t2 t3 t4 t5:Nat):Prop where
 whole:PySem.W.nsIn K mainGlobals "WHOLE"=some (some (.str "whole" t0))
 empty:PySem.W.nsIn K mainGlobals "EMPTY"=some (some (.str "empty" t1))
 begin_:PySem.W.nsIn K mainGlobals "BEGIN"=some (some (.str "begin" t2))
 hold:PySem.W.nsIn K mainGlobals "HOLD"=some (some (.str "hold" t3))
 last:PySem.W.nsIn K mainGlobals "LAST"=some (some (.str "last" t4))
 end_:PySem.W.nsIn K mainGlobals "END"=some (some (.str "" t5))
theorem ra.cons{K:PySem.W.Frag}{h:Heap}{mg:Str->Option Value}{t0 t1 t2 t3 t4 t5:Nat}(b:ra K t0 t1 t2 t3 t4 t5)(X:K.In h)(G:h.Ns mainGlobals mg):Cons mg where
 whole:=⟨_,PySem.W.mg_of X G b.whole,⟨_,rfl⟩⟩
 empty:=⟨_,PySem.W.mg_of X G b.empty,⟨_,rfl⟩⟩
 begin_:=⟨_,PySem.W.mg_of X G b.begin_,⟨_,rfl⟩⟩
 hold:=⟨_,PySem.W.mg_of X G b.hold,⟨_,rfl⟩⟩
 last:=⟨_,PySem.W.mg_of X G b.last,⟨_,rfl⟩⟩
 end_:=⟨_,PySem.W.mg_of X G b.end_,⟨_,rfl⟩⟩
theorem all_mk{l:PySem.W.OpenLaw}{w:World}{K:PySem.W.Frag}{h:Heap}{mg:Str->Option Value}{fa c0 TP:Addr}(X:K.In h)(G:h.Ns mainGlobals mg)(hfa:mg "law"=some (.ref fa))(B:vD K)(B5:PySem.W.nsIn K mainGlobals "enumerate"=some none){t0 t1 t2 t3 t4 t5:Nat}(B3:ra K t0 t1 t2 t3 t4 t5)
  (g_sorts_of:Got K "sorts_of" j8)
  (g_words_of:Got K "words_of" kb)
  (g_first_sort:Got K "first_sort" nQ)
  (g_sorts_made_of:Got K "sorts_made_of" qq)
  (g_sorts_reached:Got K "sorts_reached" nS)
  (g_sorts_in_trees_of_lines:Got K "sorts_in_trees_of_lines" nX)
  (g_check_rows:Got K "check_rows" nY)
  (g_empty_sorts:Got K "empty_sorts" nZ)
  (g_lists_by_sort:Got K "lists_by_sort" nW)
  (g_leading_signs:Got K "leading_signs" qr)
  (g_gathered:Got K "gathered" qt)
  (g_words_to_begin:Got K "words_to_begin" uf)
  (g_can_be_empty:Got K "can_be_empty" uC)
  (g_words_to_begin_signs:Got K "words_to_begin_signs" uD)
  (g_words_behind:Got K "words_behind" uF)
  (g_words_to_use_rows:Got K "words_to_use_rows" va)
  (g_whole_keys:Got K "whole_keys" sWk)
  (g_empty_keys:Got K "empty_keys" sEk)
  (g_cost_of_keys:Got K "cost_of_keys" uU)
  (g_cheapest_recipes:Got K "cheapest_recipes" uV)
  (g_trees_made:qZ K "trees_made" sTm c0 TP)
  (g_uses_in_order:Got K "uses_in_order" vg)
  (g_first_clash:Got K "first_clash" sFc)
  (g_keys_to_begin:Got K "keys_to_begin" uR)
  (g_recipes_of_part:Got K "recipes_of_part" uS)
  (g_recipes_of_row:Got K "recipes_of_row" uT)
  (g_path_to_part:Got K "path_to_part" u6)
  (g_use_shown:Got K "use_shown" sUs)
  (g_table_of:Got K "table_of" vm)
  (g__law_any_word:Got K "_law_any_word" uv)
  (g__law_drawn_rows:Got K "_law_drawn_rows" jh)
  (g__law_renamed:Got K "_law_renamed" uA)
  (g__law_all_sorts:Got K "_law_all_sorts" iJ)
  (g__law_all_words:Got K "_law_all_words" sAw)
  (g__law_wordless:Got K "_law_wordless" kK)
  (g__law_can_begin:Got K "_law_can_begin" uo)
  (g__law_begun_by:Got K "_law_begun_by" ot)
  (g__law_come_behind:Got K "_law_come_behind" mN)
  (g__law_entries:Got K "_law_entries" sEn)
  (g__law_first_clash:Got K "_law_first_clash" vz)
  (g__law_at:Got K "_law_at" sAt)
  (g__law_room:Got K "_law_room" qv)
  (g__law_so:Got K "_law_so" sSo)
  (g_law:Got K "law" vB):∃(fd:FuncData) (c0:Addr),(∀(s:Shared) (v:Value),BindsTo s fd ⟨[v],[]⟩ [("_law_script",v)])/\K.lookup TP=none/\PySem.W.codeHdIn K c0 TP=true/\∀base:Heap,K.In base->base.Ns mainGlobals mg->PySem.W.CodeHd base c0 TP->Bm mg base->a0 l.prog w K mg base CX0 10 fa fd ["_law_script"] (mT K TP):=by
 obtain⟨f,fd,a4,F⟩:=g_law.ex;have e:=hfa.symm.trans (PySem.W.mg_of X G a4);cases e
 have T:=B.txt X G;have CC:=B3.cons X G;have hEn:=PySem.W.mg_none_of X G B5;obtain⟨uE,hE,rE⟩:=CC.end_;refine⟨fd,c0,?_,g_trees_made.no,g_trees_made.hd,fun base _ _ hCd hBm=>?_⟩
 ·obtain⟨oc,od,kV,doc,pm,an,cdv,ct,osl,rfl,lk,hcd⟩:=F.ex;exact fun s v=>.of_eq rfl
 have d_sorts_of:Def l.prog w K mg base "sorts_of" 1 ["rows"] bZ:=g_sorts_of.def X G (fun F=>F.binds fun _ _ _ _ _ _ us hl=>match us,hl with | [_],_=>rfl) (fun F=>qm F T);have d_words_of:Def l.prog w K mg base "words_of" 2 ["rows"] jc:=g_words_of.def X G (fun F=>F.binds fun _ _ _ _ _ _ us hl=>match us,hl with | [_],_=>rfl) (fun F=>qo F T d_sorts_of);have d_first_sort:Def l.prog w K mg base "first_sort" 1 ["rows"] h8:=g_first_sort.def X G (fun F=>F.binds fun _ _ _ _ _ _ us hl=>match us,hl with | [_],_=>rfl) (fun F=>t6 F);have d_sorts_made_of:Def l.prog w K mg base "sorts_made_of" 1 ["rows","words"] kE:=g_sorts_made_of.def X G (fun F=>F.binds fun _ _ _ _ _ _ us hl=>match us,hl with | [_,_],_=>rfl) (fun F=>wA F T);have d_sorts_reached:Def l.prog w K mg base "sorts_reached" 1 ["links","sort"] jG:=g_sorts_reached.def X G (fun F=>F.binds fun _ _ _ _ _ _ us hl=>match us,hl with | [_,_],_=>rfl) (fun F=>t7 F T);have d_sorts_in_trees_of_lines:Def l.prog w K mg base "sorts_in_trees_of_lines" 2 ["rows"] lC:=g_sorts_in_trees_of_lines.def X G (fun F=>F.binds fun _ _ _ _ _ _ us hl=>match us,hl with | [_],_=>rfl) (fun F=>t9 F T d_sorts_of d_sorts_reached d_first_sort);have d_check_rows:Def l.prog w K mg base "check_rows" 3 ["rows"] lD:=g_check_rows.def X G (fun F=>F.binds fun _ _ _ _ _ _ us hl=>match us,hl with | [_],_=>rfl) (fun F=>uc F d_sorts_of d_words_of d_sorts_made_of d_sorts_in_trees_of_lines);have d_empty_sorts:Def l.prog w K mg base "empty_sorts" 4 ["rows"] ie:=g_empty_sorts.def X G (fun F=>F.binds fun _ _ _ _ _ _ us hl=>match us,hl with | [_],_=>rfl) (fun F=>ud F d_check_rows d_sorts_made_of);have d_lists_by_sort:Def l.prog w K mg base "lists_by_sort" 2 ["rows"] jH:=g_lists_by_sort.def X G (fun F=>F.binds fun _ _ _ _ _ _ us hl=>match us,hl with | [_],_=>rfl) (fun F=>t8 F T d_sorts_of);have d_leading_signs:Def l.prog w K mg base "leading_signs" 1 ["signs","empties"] kG:=g_leading_signs.def X G (fun F=>F.binds fun _ _ _ _ _ _ us hl=>match us,hl with | [_,_],_=>rfl) (fun F=>wD F);have d_gathered:Def l.prog w K mg base "gathered" 2 ["own","links"] kH:=g_gathered.def X G (fun F=>F.binds fun _ _ _ _ _ _ us hl=>match us,hl with | [_,_],_=>rfl) (fun F=>wF F T d_sorts_reached);have d_words_to_begin:Def l.prog w K mg base "words_to_begin" 5 ["rows"] mI:=g_words_to_begin.def X G (fun F=>F.binds fun _ _ _ _ _ _ us hl=>match us,hl with | [_],_=>rfl) (fun F=>xR F d_empty_sorts d_lists_by_sort d_leading_signs d_gathered);have d_can_be_empty:Def l.prog w K mg base "can_be_empty" 1 ["signs","empties"] mL:=g_can_be_empty.def X G (fun F=>F.binds fun _ _ _ _ _ _ us hl=>match us,hl with | [_,_],_=>rfl) (fun F=>yd F T);have d_words_to_begin_signs:Def l.prog w K mg base "words_to_begin_signs" 2 ["signs","empties","begins"] mM:=g_words_to_begin_signs.def X G (fun F=>F.binds fun _ _ _ _ _ _ us hl=>match us,hl with | [_,_,_],_=>rfl) (fun F=>ye F T d_leading_signs);have d_words_behind:Def l.prog w K mg base "words_behind" 6 ["rows"] qB:=g_words_behind.def X G (fun F=>F.binds fun _ _ _ _ _ _ us hl=>match us,hl with | [_],_=>rfl) (fun F=>yf F T hEn hE rE d_empty_sorts d_words_to_begin d_lists_by_sort d_first_sort d_words_to_begin_signs d_can_be_empty d_gathered);have d_words_to_use_rows:Def l.prog w K mg base "words_to_use_rows" 7 ["rows"] qU:=g_words_to_use_rows.def X G (fun F=>F.binds fun _ _ _ _ _ _ us hl=>match us,hl with | [_],_=>rfl) (fun F=>yC F T d_empty_sorts d_words_to_begin d_words_behind d_words_to_begin_signs d_can_be_empty);have d_whole_keys:Def l.prog w K mg base "whole_keys" 1 ["signs","sorts"] qJ:=g_whole_keys.def X G (fun F=>F.binds fun _ _ _ _ _ _ us hl=>match us,hl with | [_,_],_=>rfl) (fun F=>zg F CC);have d_empty_keys:Def l.prog w K mg base "empty_keys" 1 ["signs"] oG:=g_empty_keys.def X G (fun F=>F.binds fun _ _ _ _ _ _ us hl=>match us,hl with | [_],_=>rfl) (fun F=>zh F CC);have d_cost_of_keys:Def l.prog w K mg base "cost_of_keys" 1 ["keys","best"] qO:=g_cost_of_keys.def X G (fun F=>F.binds fun _ _ _ _ _ _ us hl=>match us,hl with | [_,_],_=>rfl) (fun F=>yu F T);have d_cheapest_recipes:Def l.prog w K mg base "cheapest_recipes" 2 ["recipes","price"] qP:=g_cheapest_recipes.def X G (fun F=>F.binds fun _ _ _ _ _ _ us hl=>match us,hl with | [_,_],_=>rfl) (fun F=>yw F d_cost_of_keys)
 have d_trees_made:Def l.prog w K mg base "trees_made" 2 ["best"] (uW TP):=g_trees_made.def X G (fun F=>F.binds fun _ _ _ _ _ _ us hl=>match us,hl with | [_],_=>rfl) (fun F e=>zm F e hCd hBm T);have d_uses_in_order:Def l.prog w K mg base "uses_in_order" 8 ["rows"] qV:=g_uses_in_order.def X G (fun F=>F.binds fun _ _ _ _ _ _ us hl=>match us,hl with | [_],_=>rfl) (fun F=>yD F T hEn d_words_to_use_rows);have d_first_clash:Def l.prog w K mg base "first_clash" 1 ["uses"] vh:=g_first_clash.def X G (fun F=>F.binds fun _ _ _ _ _ _ us hl=>match us,hl with | [_],_=>rfl) (fun F=>zo F T);have d_keys_to_begin:Def l.prog w K mg base "keys_to_begin" 2 ["signs","word","sorts"] mP:=g_keys_to_begin.def X G (fun F=>F.binds fun _ _ _ _ _ _ us hl=>match us,hl with | [_,_,_],_=>rfl) (fun F=>yp F CC hEn d_whole_keys d_empty_keys);have d_recipes_of_part:Def l.prog w K mg base "recipes_of_part" 3 ["rows","number","word"] qL:=g_recipes_of_part.def X G (fun F=>F.binds fun _ _ _ _ _ _ us hl=>match us,hl with | [_,_,_],_=>rfl) (fun F=>yq F CC d_empty_keys d_keys_to_begin d_sorts_of);have d_recipes_of_row:Def l.prog w K mg base "recipes_of_row" 3 ["rows","number","word"] qM:=g_recipes_of_row.def X G (fun F=>F.binds fun _ _ _ _ _ _ us hl=>match us,hl with | [_,_,_],_=>rfl) (fun F=>yr F CC hEn d_whole_keys d_empty_keys d_keys_to_begin d_sorts_of);have d_path_to_part:Def l.prog w K mg base "path_to_part" 1 ["best","goal"] qS:=g_path_to_part.def X G (fun F=>F.binds fun _ _ _ _ _ _ us hl=>match us,hl with | [_,_],_=>rfl) (fun F=>yy F T CC hEn);have d_use_shown:Def l.prog w K mg base "use_shown" 4 ["rows","number","word"] (u7 TP):=g_use_shown.def X G (fun F=>F.binds fun _ _ _ _ _ _ us hl=>match us,hl with | [_,_,_],_=>rfl) (fun F=>zn F T CC d_recipes_of_part d_recipes_of_row d_cheapest_recipes d_first_sort d_trees_made d_path_to_part);have d_table_of:Def l.prog w K mg base "table_of" 9 ["rows"] (qW TP):=g_table_of.def X G (fun F=>F.binds fun _ _ _ _ _ _ us hl=>match us,hl with | [_],_=>rfl) (fun F=>yF F d_uses_in_order d_first_clash d_use_shown);have d__law_any_word:Def l.prog w K mg base "_law_any_word" 1 ["_law_cell"] qu:=g__law_any_word.def X G (fun F=>F.binds fun _ _ _ _ _ _ us hl=>match us,hl with | [_],_=>rfl) (fun F=>x6 F T);have d__law_drawn_rows:Def l.prog w K mg base "_law_drawn_rows" 2 ["_law_cells","_law_wild"] lJ:=g__law_drawn_rows.def X G (fun F=>F.binds fun _ _ _ _ _ _ us hl=>match us,hl with | [_,_],_=>rfl) (fun F=>uz F T d__law_any_word);have d__law_renamed:Def l.prog w K mg base "_law_renamed" 1 ["_law_rows","_law_cell"] qz:=g__law_renamed.def X G (fun F=>F.binds fun _ _ _ _ _ _ us hl=>match us,hl with | [_,_],_=>rfl) (fun F=>yc F);have d__law_all_sorts:Def l.prog w K mg base "_law_all_sorts" 1 ["_law_rows"] bZ:=g__law_all_sorts.def X G (fun F=>F.binds fun _ _ _ _ _ _ us hl=>match us,hl with | [_],_=>rfl) (fun F=>xV F T);have d__law_all_words:Def l.prog w K mg base "_law_all_words" 2 ["_law_rows"] vo:=g__law_all_words.def X G (fun F=>F.binds fun _ _ _ _ _ _ us hl=>match us,hl with | [_],_=>rfl) (fun F=>zq F T d__law_all_sorts);have d__law_wordless:Def l.prog w K mg base "_law_wordless" 1 ["_law_rows"] ig:=g__law_wordless.def X G (fun F=>F.binds fun _ _ _ _ _ _ us hl=>match us,hl with | [_],_=>rfl) (fun F=>uq F T);have d__law_can_begin:Def l.prog w K mg base "_law_can_begin" 1 ["_law_rows","_law_signs","_law_empty","_law_found"] kL:=g__law_can_begin.def X G (fun F=>F.binds fun _ _ _ _ _ _ us hl=>match us,hl with | [_,_,_,_],_=>rfl) (fun F=>xW F);have d__law_begun_by:Def l.prog w K mg base "_law_begun_by" 2 ["_law_rows"] jJ:=g__law_begun_by.def X G (fun F=>F.binds fun _ _ _ _ _ _ us hl=>match us,hl with | [_],_=>rfl) (fun F=>uu F d__law_wordless d__law_all_sorts d__law_can_begin);have d__law_come_behind:Def l.prog w K mg base "_law_come_behind" 3 ["_law_rows"] oz:=g__law_come_behind.def X G (fun F=>F.binds fun _ _ _ _ _ _ us hl=>match us,hl with | [_],_=>rfl) (fun F=>wP F T d__law_wordless d__law_begun_by d__law_all_sorts d__law_can_begin);have d__law_entries:Def l.prog w K mg base "_law_entries" 4 ["_law_rows"] qX:=g__law_entries.def X G (fun F=>F.binds fun _ _ _ _ _ _ us hl=>match us,hl with | [_],_=>rfl) (fun F=>zr F T d__law_wordless d__law_begun_by d__law_come_behind d__law_all_sorts d__law_all_words d__law_can_begin)
 have d__law_first_clash:Def l.prog w K mg base "_law_first_clash" 5 ["_law_rows"] qY:=g__law_first_clash.def X G (fun F=>F.binds fun _ _ _ _ _ _ us hl=>match us,hl with | [_],_=>rfl) (fun F=>yK F T d__law_entries);have d__law_at:Def l.prog w K mg base "_law_at" 1 ["_law_script","_law_k"] (vn K):=g__law_at.def X G (fun F=>F.binds fun _ _ _ _ _ _ us hl=>match us,hl with | [_,_],_=>rfl) (fun F=>zp F T);have d__law_room:Def l.prog w K mg base "_law_room" 1 ["_law_script","_law_most","_law_bound"] (ou K):=g__law_room.def X G (fun F=>F.binds fun _ _ _ _ _ _ us hl=>match us,hl with | [_,_,_],_=>rfl) (fun F=>wH F T);have d__law_so:Def l.prog w K mg base "_law_so" 1 ["_law_found","_law_due"] ug:=g__law_so.def X G (fun F=>F.binds fun _ _ _ _ _ _ us hl=>match us,hl with | [_,_],_=>rfl) (fun F=>y8 F T);exact yL F T d__law_drawn_rows d__law_room d__law_at d__law_renamed d__law_so d_table_of d__law_first_clash d__law_entries
theorem walk{l:PySem.W.OpenLaw}{q:Program}{loose:List Str}{XP:(Str->Option Value)->Heap->Prop}{YP:World->Heap->Prop}{d:DefRec}{K:Params->PySem.W.Frag}{TP:Addr}(hn:l.most=some 63)(hdf:d.params.defaults=[])
  (hY:∀(w:World) (h:Heap),YP w h->(K w.params).In h)(hYT:∀(w:World) (h:Heap),YP w h->h.get? TP=some (PySem.W.tabObj #[]))
  (F:∀(w:World) (mg:Str->Option Value) (fa:Addr) (h:Heap),(K w.params).In h->h.Ns mainGlobals mg->mg d.name=some (.ref fa)->
   ∃(fd:FuncData) (c0:Addr),(∀(s:Shared) (u:Value),BindsTo s fd ⟨[u],[]⟩ [("_law_script",u)])/\(K w.params).lookup TP=none/\PySem.W.codeHdIn (K w.params) c0 TP=true/\∀base:Heap,(K w.params).In base->base.Ns mainGlobals mg->PySem.W.CodeHd base c0 TP->Bm mg base->a0 l.prog w (K w.params) mg base CX0 10 fa fd ["_law_script"] (mT (K w.params) TP)) :
  PySem.W.WalkO q loose XP YP l.row.toRowW d [] (fun f vs=>PySem.call f vs):=
 L2.vC (n:=63) (k:=10) (x:="_law_script") (sp:=fun w=>mT (K w.params) TP) hn (by decide) hdf ⟨rfl,by decide,by decide⟩ hY hYT F (fun _ _ a ns hl hT hS=>⟨a,ns,rfl,hS,hl,⟨#[],hT,True.intro,.inl rfl⟩,fun _=>rfl⟩)
end Nw
open PySem PySem.W PyProof.Rows
namespace PySem.W.Fast
def tw5697590033316129575:=0
def tw7135141003596594500:=0
def tw3937063894581030018:=0
def tw9600506337012402544:=0
def tw11207815507664688998:=0
def tw5067007012020642186:=0
def tw12362508825542188822:=0
def tw9683468457327449086:=0
def tw16096847906219575419:=0
def tw8653431483702110385:=0
def tw3273572434461735143:=0
def tw14407276752058916957:=0
def tw12890078569231043399:=0
def tw13030451333551647177:=0
def tw17125050392736335814:=0
def tw16598571142757826332:=0
def tw5563163286064982100:=0
def tw12171045151647304921:=0
def tw7016227374351647299:=0
def tw13527111728479896621:=0
def tw3277600159002360560:=0
def tw10735542518584536397:=0
def tw16137613787201332413:=0
def tw1753393439066406532:=0
def tw12833901140352683054:=0
def tw14424073833353938854:=0
def tw4478934564743859904:=0
def tw4555886953527776311:=0
def tw14319505806286131314:=0
def tw2091906725982920849:=0
def tw12484413868462044776:=0
def tw13976265751210798403:=0
def tw2751395018867632475:=0
def tw6476024770830114180:=0
def tw10277975617342200630:=0
def tw14149487778198394264:=0
def tw15816173118771063684:=0
def tw2790340354092098271:=0
def tw13192395242165105231:=0
def tw16709070704973851205:=0
def tw10803989724214323773:=0
def tw3789341933949022619:=0
def tw8923648133135384338:=0
def tw4292821731136899448:=0
def tw12575977102122661682:=0
def tw5097025617149799709:=0
def tw12948543120174401435:=0
def tw11561654261105930064:=0
def tw6214700870468042693:=0
def tw607314111860635123:=0
def tw3597955821175104740:=0
def tw14705846009128371983:=0
def tw11337743653755681997:=0
def tw17578893087722693001:=0
def tw8659396059848716178:=0
def tw13636617471998566898:=0
end PySem.W.Fast
set_option maxRecDepth 100000 in
set_option maxHeartbeats 0 in
theorem PySem.Challenge.cw_nextword_k04_table_holds : PySem.Challenge.rw_nextword_k04_table.Holds := by
 w_on;o_law;k_head;(case hw=>w_witness2)
 k_fill
 refine Nw.walk (l:=PySem.Challenge.rw_nextword_k04_table) (TP:=181) rfl rfl (fun w h Y=>PySem.W.km_in_of Y) (fun w h Y=>PySem.W.km_tabs_of Y _ (List.Mem.head _)) ?F
 case F=>
  intro w mg fa h KX G hmg;refine' Nw.all_mk KX G hmg ?hbare ?hx0 ?hbare3 ?_ ?_ ?_ ?_ ?_ ?_ ?_ ?_ ?_ ?_ ?_ ?_ ?_ ?_ ?_ ?_ ?_ ?_ ?_ ?_ ?hgotC ?_ ?_ ?_ ?_ ?_ ?_ ?_ ?_ ?_ ?_ ?_ ?_ ?_ ?_ ?_ ?_ ?_ ?_ ?_ ?_ ?_ ?_ ?_
  (case hbare=>exact⟨by k_is,by k_is,by k_is,by k_is,by k_is,by k_is,by k_is,by k_is,by k_is,by k_is,by k_is,by k_is,by k_is⟩)
  (case hx0=>k_is)
  (case hbare3=>refine' ⟨?y0,?y1,?y2,?y3,?y4,?y5⟩;(case y0=>k_is);(case y1=>k_is);(case y2=>k_is);(case y3=>k_is);(case y4=>k_is);(case y5=>k_is))
  (case hgotC=>refine' Nw.xg ?a ?l ?c ?k ?hd ?no;(case a=>k_is);(case l=>k_is);(case c=>k_is);(case k=>k_is);(case hd=>rfl);(case no=>rfl))
  all_goals (refine' Nw.yM ?a ?l ?c ?k;(case a=>k_is);(case l=>k_is);(case c=>k_is);(case k=>k_is))
