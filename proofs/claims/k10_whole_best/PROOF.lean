import PyProof.Rows.All
import Wide.All
import OpenK.AllK
import Wide.FinOn
import Lean
import PyProof.EqAt
import PyProof.EqKinds
import PyProof.TupleCall
import PySem.Challenge.RW_printwell_k10_whole_best
set_option Elab.async false
set_option linter.all false
set_option maxRecDepth 100000
set_option maxHeartbeats 4000000
namespace L2
open PySem PySem.Spec PyProof.Rows
abbrev Key:=Sum Int Str
def keyIs:Key→Value→Bool
 |.inl k,v=>Value.isInt k v
 |.inr x,v=>Value.isStrOf x v
def keyH(w:World):Key→Int
 |.inl k=>hashInt k
 |.inr x=>hashStr w x
theorem zg4:∀ {k:Key} {v:Value},keyIs k v=true→(∃i t,k=Sum.inl i∧v=Value.int i t)∨(∃x t,k=Sum.inr x∧v=Value.str x t)
 |.inl i,v,h=>by
  obtain⟨t,e⟩:=Value.isInt_shape (k:=i) (v:=v) h
  exact .inl ⟨i,t,rfl,e⟩
 |.inr x,v,h=>by
  obtain⟨t,e⟩:=Value.isStrOf_shape (x:=x) (v:=v) h
  exact .inr ⟨x,t,rfl,e⟩
theorem keyIs_int(i:Int)(t:Tok):keyIs (.inl i) (.int i t)=true:=by simp[keyIs,Value.isInt]
theorem zs3(x:Str)(t:Tok):keyIs (.inr x) (.str x t)=true:=by simp[keyIs,Value.isStrOf]
theorem key_ll(a b:Int):decide ((Sum.inl a:Key)=Sum.inl b)=(a==b):=by
 by_cases e:a=b
 ·subst e;simp
 ·have h:¬(Sum.inl a:Key)=Sum.inl b:=fun q=>e (Sum.inl.inj q)
  rw[decide_eq_false h]
  exact(beq_eq_false_iff_ne.mpr e).symm
theorem key_rr(a b:Str):decide ((Sum.inr a:Key)=Sum.inr b)=decide (a=b):=by
 by_cases e:a=b
 ·subst e;simp
 ·have h:¬(Sum.inr a:Key)=Sum.inr b:=fun q=>e (Sum.inr.inj q)
  rw[decide_eq_false h,decide_eq_false e]
theorem key_lr(a:Int)(b:Str):decide ((Sum.inl a:Key)=Sum.inr b)=false:=decide_eq_false (fun q=>nomatch q)
theorem key_rl(a:Str)(b:Int):decide ((Sum.inr a:Key)=Sum.inl b)=false:=decide_eq_false (fun q=>nomatch q)
def ze2 (prog : Program) (w : World) : PySem.KeyKind prog w Key where
  is := keyIs
  hash := keyH w
  inj := fun v a b ha hb => by
    rcases zg4 ha with ⟨i, t, rfl, rfl⟩ | ⟨x, t, rfl, rfl⟩
    · rcases zg4 hb with ⟨j, u, rfl, e⟩ | ⟨y, u, rfl, e⟩
      · injection e with e1 _; rw [e1]
      · exact nomatch e
    · rcases zg4 hb with ⟨j, u, rfl, e⟩ | ⟨y, u, rfl, e⟩
      · exact nomatch e
      · injection e with e1 _; rw [e1]
  byValue := fun k v h => by
    rcases zg4 h with ⟨i, t, rfl, rfl⟩ | ⟨x, t, rfl, rfl⟩ <;> rfl
  pyHash := fun hv h => by
    rcases zg4 hv with ⟨i, t, rfl, rfl⟩ | ⟨x, t, rfl, rfl⟩
    · exact wpAny_pyHash_int h
    · exact wpAny_pyHash_str h
  eqBool := fun hu hv h => by
    rcases zg4 hu with ⟨i, t, rfl, rfl⟩ | ⟨x, t, rfl, rfl⟩
    · rcases zg4 hv with ⟨j, u, rfl, rfl⟩ | ⟨y, u, rfl, rfl⟩
      · rw [key_ll] at h; exact wpAny_eqBool_int h
      · rw [key_lr] at h; exact SeqAt.EqAt.int_str i t y u _ _ _ _ h
    · rcases zg4 hv with ⟨j, u, rfl, rfl⟩ | ⟨y, u, rfl, rfl⟩
      · rw [key_rl] at h; exact SeqAt.EqAt.str_int x t j u _ _ _ _ h
      · rw [key_rr] at h; exact wpAny_eqBool_str h
  «strs» := fun k x t v h => by
    rcases zg4 h with ⟨i, u, rfl, e⟩ | ⟨y, u, rfl, e⟩
    · exact nomatch e
    · injection e with e1 _
      subst e1
      cases v <;> rfl
theorem mixKind_int(prog:Program)(w:World)(i:Int)(t:Tok):(ze2 prog w).is (.inl i) (.int i t)=true:=keyIs_int i t
theorem zu9(prog:Program)(w:World)(x:Str)(t:Tok):(ze2 prog w).is (.inr x) (.str x t)=true:=zs3 x t
inductive V where
 |non|bl (b:Bool)|int (i:Int)|str (x:Str)|byt (b:Array UInt8)|flt (b:UInt64)|ref (a:Addr)|ty (n:String)
 deriving DecidableEq
def RelV:V→Value→Prop
 |.non,u=>u=Value.none
 |.bl b,u=>u=Value.bool b
 |.int i,u=>∃t,u=Value.int i t
 |.str x,u=>∃t,u=Value.str x t
 |.byt b,u=>∃t,u=Value.bytes b t
 |.flt b,u=>∃t,u=Value.float b t
 |.ref a,u=>u=Value.ref a
 |.ty n,u=>u=Value.type n
abbrev Vals:List V→List Value→Prop:=Paired RelV
theorem Vals.length{xs:List V}{us:List Value}(r:Vals xs us):xs.length=us.length:=Paired.length r
theorem Vals.get:∀ {xs:List V} {us:List Value} {i:Nat} {x:V},Vals xs us→xs[i]? = some x→∃u,us[i]? = some u∧RelV x u
 |_,_,_,_,.nil,e=>by simp at e
 |_,_,0,_,.cons r _,e=>by simp at e;subst e;exact⟨_,rfl,r⟩
 |_,_,i+1,x,.cons _ t,e=>by
  obtain⟨u,h1,h2⟩:=Vals.get (i:=i) (x:=x) t (by simpa using e)
  exact⟨u,by simpa using h1,h2⟩
theorem Vals.set{x:V}{u:Value}(r:RelV x u):∀ {xs:List V} {us:List Value} (i:Nat),Vals xs us→Vals (xs.set i x) (us.set i u)
 |_,_,_,.nil=>.nil
 |_,_,0,.cons _ t=>.cons r t
 |_,_,i+1,.cons q t=>.cons q (Vals.set r i t)
theorem Vals.append:∀ {xs ys:List V} {us ws:List Value},Vals xs us→Vals ys ws→Vals (xs++ys) (us++ws)
 |_,_,_,_,.nil,s=>s
 |_,_,_,_,.cons r t,s=>.cons r (Vals.append t s)
theorem Vals.take:∀ {xs:List V} {us:List Value} (n:Nat),Vals xs us→Vals (xs.take n) (us.take n)
 |_,_,0,_=>.nil
 |_,_,_+1,.nil=>.nil
 |_,_,n+1,.cons r t=>.cons r (Vals.take n t)
theorem Vals.drop:∀ {xs:List V} {us:List Value} (n:Nat),Vals xs us→Vals (xs.drop n) (us.drop n)
 |_,_,0,r=>r
 |_,_,_+1,.nil=>.nil
 |_,_,n+1,.cons _ t=>Vals.drop n t
theorem Vals.none_of:∀ {xs:List V} {us:List Value} {i:Nat},Vals xs us→xs[i]? = none→us[i]? = none:=fun {xs us i} r e=>by
 have h1:=r.length
 have h2:xs.length≤i:=List.getElem?_eq_none_iff.mp e
 exact List.getElem?_eq_none_iff.mpr (by omega)
def RelO:Option V→Option Value→Prop
 |some v,some u=>RelV v u
 |none,none=>True
 |_,_=>False
def KV{κ:Type}:List (κ×V)→List (κ×Value)→Prop:=Paired fun(p:κ×V) (q:κ×Value)=>p.1=q.1∧RelV p.2 q.2
def kV:Key→V
 |.inl i=>.int i
 |.inr x=>.str x
inductive HO where
 |lst (xs:List V)
 |tup (xs:List V)
 |dK (kvs:List (Key×V))|dT (kvs:List (List Key×V))
 |set (S:Int→Bool) (n:Nat)
 |ins (C dx:Addr) (fs:List (Str×V))
 |own (x:Addr)
 |xd (fs:List (Str×V))
 |met (f x:Addr)
 |rng (lo hi:Int)
 |frz (o:Obj) (u:HO)
 |tbl (ps:Array Value)
 |ext (φ:Heap→Prop)
abbrev Hp:=Addr→Option HO
def upd(H:Hp)(a:Addr)(o:HO):Hp:=fun b=>if b=a then some o else H b
theorem za0{H:Hp}{a:Addr}{o:HO}:upd H a o a=some o:=by unfold upd;rw[if_pos rfl]
theorem za9{H:Hp}{a b:Addr}{o:HO}(h:b≠a):upd H a o b=H b:=by unfold upd;rw[if_neg h]
theorem ze5{H:Hp}{a b:Addr}{o u:HO}(h:H a=some o)(h':H b=some u)(d:o≠u):a≠b:=by
 intro e;subst e;rw[h] at h';exact d (Option.some.inj h')
theorem za8{H:Hp}{a b:Addr}{o:HO}(h:H a=some o)(h':H b=none):a≠b:=by
 intro e;subst e;rw[h] at h';cases h'
section
variable (P:Program)(w:World)
def ObjOk(H:Hp)(h:Heap)(a:Addr):HO→Prop
 |.lst xs=>xs.length≤sizeLine∧∃(its:List Value) (n:Nat),Vals xs its∧h.get? a=some { cls:=.type "list",data:=.seq its.toArray n }
 |.tup xs=>xs.length≤sizeLine∧∃its:List Value,Vals xs its∧IsTup h a its.toArray
 |.dK kvs=>kvs.length≤sizeLine∧(a==sysModules)=false∧∃vs,KV kvs vs∧h.DictOf (ze2 P w) a vs
 |.dT kvs=>kvs.length≤sizeLine∧(a==sysModules)=false∧∃xs:List (List Key×Addr×Value),
   Paired (fun(p:List Key×V) (q:List Key×Addr×Value)=>p.1=q.1∧H q.2.1=some (.tup (p.1.map kV))∧RelV p.2 q.2.2) kvs xs∧
   ∃o es ep,h.get? a=some o∧o.ExactDict∧o.data=.dict es ep∧es.toList=xs.map (entryOfKey (tupleKind (ze2 P w)))∧(xs.map (·.1)).Nodup
 |.set S n=>h.SetOf (intKind P w) a S n
 |.ins C dx fs=>H dx=some (.own a)∧fs.length≤1000∧dx≠a∧h.get? a=some (PySem.W.instObj C dx)∧
   ∃mA,h.Ns1 dx mA∧(∀f,RelO (fs.lookup f) (mA f))∧PySem.Within mA (fs.map (·.1))
 |.own _=>∃o,h.get? a=some o
 |.xd fs=>∃mA,h.Ns1 a mA∧∀f,RelO (fs.lookup f) (mA f)
 |.rng lo hi=>∃t u v,h.get? a=some { cls:=.type "range",data:=.fields #[.int lo t,.int hi u,.int 1 v] }
 |.frz o u=>h.get? a=some o∧ObjOk H h a u
 |.tbl ps=>h.get? a=some { cls:=.none,data:=.fields ps }
 |.met f x=>h.get? a=some (PySem.W.methodObj (.ref f) (.ref x))
 |.ext φ=>φ h∧(∃o,h.get? a=some o)∧∀h1 h2:Heap,φ h1→(∀o,h1.get? a=some o→h2.get? a=some o)→φ h2
def HOk(H:Hp)(h:Heap):Prop:=∀a o,H a=some o→ObjOk P w H h a o
end
section
variable {P:Program}{w:World}{H H':Hp}{h h':Heap}{a:Addr}{o:HO}
theorem ObjOk.lt(x:ObjOk P w H h a o):a<h.objs.size:=by
 cases o with
 |lst xs=>obtain⟨_,_,_,_,e⟩:=x;exact Heap.lt_size e
 |tup xs=>obtain⟨_,_,_,p⟩:=x;exact p.lt
 |dK kvs=>obtain⟨_,_,_,_,o,_,_,e,_⟩:=x;exact Heap.lt_size e
 |dT kvs=>obtain⟨_,_,_,_,o,_,_,e,_⟩:=x;exact Heap.lt_size e
 |set S n=>obtain⟨o,_,_,_,e,_⟩:=x;exact Heap.lt_size e
 |ins C dx fs=>obtain⟨_,_,_,e,_⟩:=x;exact Heap.lt_size e
 |own y=>obtain⟨_,e⟩:=x;exact Heap.lt_size e
 |xd fs=>obtain⟨_,⟨_,_,_,e,_⟩,_⟩:=x;exact Heap.lt_size e
 |rng lo hi=>obtain⟨_,_,_,e⟩:=x;exact Heap.lt_size e
 |frz ob u=>obtain⟨e,_⟩:=x;exact Heap.lt_size e
 |tbl ps=>exact Heap.lt_size (show h.get? a=some _ from x)
 |met f y=>exact Heap.lt_size (show h.get? a=some _ from x)
 |ext φ=>obtain⟨_,⟨_,e⟩,_⟩:=x;exact Heap.lt_size e
theorem Paired.mapP{α β:Type}{F G:α→β→Prop}:∀ {l₁:List α} {l₂:List β},Paired F l₁ l₂→(∀a b,F a b→G a b)→Paired G l₁ l₂
 |_,_,.nil,_=>.nil
 |_,_,.cons r t,f=>.cons (f _ _ r) (Paired.mapP t f)
theorem ObjOk.stay(x:ObjOk P w H h a o)(k:∀b u,(b=a∨H b=some (.own a))→h.get? b=some u→h'.get? b=some u)
  (ho:∀b,H b=some (.own a)→H' b=some (.own a)) (ht:∀b xs,H b=some (.tup xs)→H' b=some (.tup xs)):ObjOk P w H' h' a o:=by
 induction o with
 |lst xs=>obtain⟨z,its,n,r,e⟩:=x;exact⟨z,its,n,r,k _ _ (.inl rfl) e⟩
 |tup xs=>obtain⟨z,its,r,ob,e,c⟩:=x;exact⟨z,its,r,ob,k _ _ (.inl rfl) e,c⟩
 |dK kvs=>obtain⟨z,y,vs,r,ob,es,ep,e,c⟩:=x;exact⟨z,y,vs,r,ob,es,ep,k _ _ (.inl rfl) e,c⟩
 |dT kvs=>
  obtain⟨z,y,xs,r,ob,es,ep,e,c⟩:=x
  exact⟨z,y,xs,Paired.mapP r fun p q z=>⟨z.1,ht _ _ z.2.1,z.2.2⟩,ob,es,ep,k _ _ (.inl rfl) e,c⟩
 |set S n=>obtain⟨ob,es,ep,t,e,c⟩:=x;exact⟨ob,es,ep,t,k _ _ (.inl rfl) e,c⟩
 |ins C dx fs=>
  obtain⟨d,z,ne,e,mA,⟨od,es,ep,e2,c⟩,r⟩:=x
  exact⟨ho _ d,z,ne,k _ _ (.inl rfl) e,mA,⟨od,es,ep,k _ _ (.inr d) e2,c⟩,r⟩
 |own y=>obtain⟨ob,e⟩:=x;exact⟨ob,k _ _ (.inl rfl) e⟩
 |xd fs=>obtain⟨mA,⟨od,es,ep,e,c⟩,r⟩:=x;exact⟨mA,⟨od,es,ep,k _ _ (.inl rfl) e,c⟩,r⟩
 |rng lo hi=>obtain⟨t,u,v,e⟩:=x;exact⟨t,u,v,k _ _ (.inl rfl) e⟩
 |frz ob u ih=>obtain⟨e,q⟩:=x;exact⟨k _ _ (.inl rfl) e,ih q⟩
 |tbl ps=>
  have e:h.get? a=some { cls:=.none,data:=.fields ps }:=x
  show h'.get? a=some { cls:=.none,data:=.fields ps }
  exact k a _ (.inl rfl) e
 |met f y=>
  have e:h.get? a=some (PySem.W.methodObj (.ref f) (.ref y)):=x
  show h'.get? a=some (PySem.W.methodObj (.ref f) (.ref y))
  exact k a _ (.inl rfl) e
 |ext φ=>obtain⟨p,⟨o,e⟩,st⟩:=x;exact⟨st _ _ p fun o q=>k _ _ (.inl rfl) q,⟨o,k _ _ (.inl rfl) e⟩,st⟩
theorem HOk.lt(x:HOk P w H h)(e:H a=some o):a<h.objs.size:=(x a o e).lt
theorem HOk.fresh(x:HOk P w H h)(e:h.objs.size≤a):H a=none:=by
 cases q:H a with
 |none=>rfl
 |some u=>exact absurd (Nat.lt_of_lt_of_le (x.lt q) e) (Nat.lt_irrefl _)
theorem HOk.kept(x:HOk P w H h)(k:∀b u,h.get? b=some u→h'.get? b=some u):HOk P w H h':=fun a o e=>
 (x a o e).stay (fun b u _ q=>k b u q) (fun _ q=>q) fun _ _ q=>q
theorem HOk.laid(x:HOk P w H h)(k:∀b u,h.get? b=some u→h'.get? b=some u)(hp:h.objs.size≤a)(new:ObjOk P w (upd H a o) h' a o):HOk P w (upd H a o) h':=fun b u e=>by
 have hn:=x.fresh hp
 by_cases hb:b=a
 ·subst hb;rw[za0] at e;cases e;exact new
 ·rw[za9 hb] at e
  exact(x b u e).stay (fun c v _ q=>k c v q) (fun c q=>by rw[za9 (za8 q hn)];exact q) fun c xs q=>by rw[za9 (za8 q hn)];exact q
end
def Rd(H:Hp)(a:Addr)(u:HO):Prop:=H a=some u∨∃o,H a=some (.frz o u)
theorem Rd.of{H:Hp}{a:Addr}{u:HO}(h:H a=some u):Rd H a u:=.inl h
theorem Rd.ok{P:Program}{w:World}{H:Hp}{h:Heap}{a:Addr}{u:HO}(r:Rd H a u)(x:HOk P w H h):ObjOk P w H h a u:=by
 rcases r with r|⟨o,r⟩
 ·exact x a u r
 ·obtain⟨_,q⟩:=x a _ r
  exact q
def Mut:Option HO→Prop
 |some (.lst _)=>True
 |some (.dK _)=>True
 |some (.dT _)=>True
 |some (.set _ _)=>True
 |some (.ins _ _ _)=>True
 |some (.ext _)=>True
 |_=>False
section
variable {P:Program}{w:World}{H:Hp}{h h':Heap}{x e:Addr}{o':HO}
theorem HOk.write(ok:HOk P w H h)(mu:Mut (H x))(he:e=x∨H e=some (.own x))(k:∀b u,b≠e→h.get? b=some u→h'.get? b=some u)(heo:∃u,h'.get? e=some u)
  (new:ObjOk P w (upd H x o') h' x o'):HOk P w (upd H x o') h':=fun b u q=>by
 have nown:∀c y,H c=some (.own y)→c≠x:=fun c y r z=>by subst z;rw[r] at mu;exact mu
 have ntup:∀c xs,H c=some (.tup xs)→c≠x:=fun c xs r z=>by subst z;rw[r] at mu;exact mu
 by_cases hb:b=x
 ·subst hb;rw[za0] at q;cases q;exact new
 ·rw[za9 hb] at q
  by_cases hbe:b=e
  ·have q':H b=some (.own x):=by
    rcases he with z|z
    ·exact absurd (hbe.trans z) hb
    ·rw[hbe];exact z
   rw[q] at q';cases q'
   obtain⟨v,hv⟩:=heo
   exact⟨v,by rw[hbe];exact hv⟩
  ·refine(ok b u q).stay (fun c v hc r=>k c v ?_ r) (fun c r=>by rw[za9 (nown c b r)];exact r) fun c xs r=>by rw[za9 (ntup c xs r)];exact r
   rcases hc with rfl|hc
   ·exact hbe
   ·rintro rfl
    rcases he with z|z
    ·exact nown c b hc z
    ·rw[hc] at z;cases z;exact hb rfl
end
structure Un(fs ex:List Addr)(H H':Hp)(h h':Heap):Prop where
 keep:∀b o,h.get? b=some o→H b=none→b∉fs→b∉ex→h'.get? b=some o
 slot:∀b o,h.get? b=some o→H b=none→b∈fs→b∉ex→∃sl,h'.get? b=some { o with slots:=sl }
 free:∀b o,h.get? b=some o→H b=none→b∉ex→H' b=none
 there:∀b o,h.get? b=some o→b∉ex→∃o',h'.get? b=some o'
 tups:∀b xs,H b=some (.tup xs)→H' b=some (.tup xs)
 frzs:∀b o u,H b=some (.frz o u)→H' b=some (.frz o u)
 tbls:∀b ps,H b=some (.tbl ps)→∃more,H' b=some (.tbl (ps++more))
section
variable {fs fs' ex ex':List Addr}{H H1 H2:Hp}{h h1 h2 h':Heap}{a x e:Addr}{o:HO}
theorem Un.any(u:Un fs ex H H1 h h1){b:Addr}{ob:Obj}(q:h.get? b=some ob)(n:H b=none)(hx:b∉ex):∃sl,h1.get? b=some { ob with slots:=sl }:=by
 by_cases hb:b∈fs
 ·exact u.slot b ob q n hb hx
 ·exact⟨ob.slots,u.keep b ob q n hb hx⟩
theorem Un.trans(a:Un fs ex H H1 h h1)(b:Un fs ex H1 H2 h1 h2):Un fs ex H H2 h h2 where
 keep:=fun c ob q n hc hx=>b.keep c ob (a.keep c ob q n hc hx) (a.free c ob q n hx) hc hx
 slot:=fun c ob q n hc hx=>by
  obtain⟨sl,e1⟩:=a.slot c ob q n hc hx
  obtain⟨sl',e2⟩:=b.slot c _ e1 (a.free c ob q n hx) hc hx
  exact⟨sl',e2⟩
 free:=fun c ob q n hx=>by
  obtain⟨o',e1⟩:=a.there c ob q hx
  exact b.free c o' e1 (a.free c ob q n hx) hx
 there:=fun c ob q hx=>by
  obtain⟨o',e1⟩:=a.there c ob q hx
  exact b.there c o' e1 hx
 tups:=fun c xs q=>b.tups c xs (a.tups c xs q)
 frzs:=fun c ob xs q=>b.frzs c ob xs (a.frzs c ob xs q)
 tbls:=fun c ps q=>by
  obtain⟨m1,e1⟩:=a.tbls c ps q
  obtain⟨m2,e2⟩:=b.tbls c _ e1
  exact⟨m1++m2,by rw[e2,Array.append_assoc]⟩
theorem Un.kept(k:∀b u,h.get? b=some u→h'.get? b=some u):Un fs ex H H h h':=
 ⟨fun b ob q _ _ _=>k b ob q,fun b ob q _ _ _=>⟨ob.slots,k b ob q⟩,fun _ _ _ n _=>n,fun b ob q _=>⟨ob,k b ob q⟩,fun _ _ q=>q,fun _ _ _ q=>q,fun _ ps q=>⟨#[],by rw[q];simp⟩⟩
theorem Un.refl:Un fs ex H H h h:=Un.kept fun _ _ q=>q
theorem Un.laid(k:∀b u,h.get? b=some u→h'.get? b=some u)(hp:h.objs.size≤a)(hn:H a=none):Un fs ex H (upd H a o) h h' where
 keep:=fun b u q _ _ _=>k b u q
 slot:=fun b u q _ _ _=>⟨u.slots,k b u q⟩
 free:=fun b u q n _=>by rw[za9 (Nat.ne_of_lt (Nat.lt_of_lt_of_le (Heap.lt_size q) hp))];exact n
 there:=fun b u q _=>⟨u,k b u q⟩
 tups:=fun b xs q=>by rw[za9 (za8 q hn)];exact q
 frzs:=fun b u xs q=>by rw[za9 (za8 q hn)];exact q
 tbls:=fun b ps q=>⟨#[],by rw[za9 (za8 q hn),q];simp⟩
theorem Un.write(mu:Mut (H x))(he:e=x∨H e=some (.own x))(k:∀b u,b≠e→h.get? b=some u→h'.get? b=some u)(heo:∃u,h'.get? e=some u):Un fs ex H (upd H x o) h h':=by
 have hx:∀b,H b=none→b≠x:=fun b n z=>by subst z;rw[n] at mu;exact mu
 have hb:∀b,H b=none→b≠e:=fun b n z=>by
  subst z
  rcases he with r|r
  ·exact hx b n r
  ·rw[n] at r;cases r
 have hm:∀b u,H b=some u→¬Mut (some u)→b≠x:=fun b u q nm z=>by subst z;rw[q] at mu;exact nm mu
 refine⟨fun b u q n _ _=>k b u (hb b n) q,fun b u q n _ _=>⟨u.slots,k b u (hb b n) q⟩,fun b u q n _=>by rw[za9 (hx b n)];exact n,fun b u q _=>?_,
  fun b xs q=>by rw[za9 (hm b _ q fun z=>z)];exact q,fun b u xs q=>by rw[za9 (hm b _ q fun z=>z)];exact q,fun b ps q=>⟨#[],by rw[za9 (hm b _ q fun z=>z),q];simp⟩⟩
 by_cases hbe:b=e
 ·subst hbe;exact heo
 ·exact⟨u,k b u hbe q⟩
theorem Un.mono(u:Un fs ex H H1 h h1)(hs:∀b∈fs,b∈fs')(hx:∀b∈ex,b∈ex'):Un fs' ex' H H1 h h1:=
 ⟨fun b ob q n hb he=>u.keep b ob q n (fun z=>hb (hs b z)) fun z=>he (hx b z),fun _ _ q n _ he=>u.any q n fun z=>he (hx _ z),fun b ob q n he=>u.free b ob q n fun z=>he (hx b z),fun b ob q he=>u.there b ob q fun z=>he (hx b z),u.tups,u.frzs,u.tbls⟩
end
def trk(h:Heap)(H:Hp):List Addr:=(List.range h.objs.size).filter fun a=>(H a).isSome
def hidT(h:Heap)(H:Hp):Heap:=PySem.W.hideAll h (trk h H)
theorem hidT_size(h:Heap)(H:Hp):(hidT h H).objs.size=h.objs.size:=PySem.W.hideAll_size _ _
theorem hidT_get{h:Heap}{H:Hp}{b:Addr}{o:Obj}(e:h.get? b=some o)(n:H b=none):(hidT h H).get? b=some o:=
 PySem.W.hideAll_get _ e fun hm=>by
  have q:(H b).isSome=true:=(List.mem_filter.mp hm).2
  rw[n] at q;simp at q
theorem of_hidT{h:Heap}{H:Hp}{b:Addr}{o:Obj}(e:(hidT h H).get? b=some o):h.get? b=some o∧H b=none:=by
 have e':h.get? b=some o:=PySem.W.of_hideAll (trk h H) e
 refine⟨e',?_⟩
 cases q:H b with
 |none=>rfl
 |some x=>
  have hm:b∈trk h H:=List.mem_filter.mpr ⟨List.mem_range.mpr (Heap.lt_size e'),by simp[q]⟩
  have z:(hidT h H).get? b=none:=PySem.W.hideAll_none (trk h H) hm
  rw[z] at e;cases e
def allNews(g h:Heap)(L:Addr):List (Addr×Obj):=(List.range h.objs.size).filterMap fun a=>if a=L∨(g.get? a).isSome=true then none else(h.get? a).map fun o=>(a,o)
def rest(g h:Heap)(L d:Addr):List (Addr×Obj):=(allNews g h L).filter fun p=>decide (p.1≠d)
structure Mod(K:PySem.W.Frag)(mg:Str→Option Value)(base:Heap):Prop where
 kin:K.In base
 glob:base.Ns mainGlobals mg
 blt:∃mb,base.Ns builtinsNs mb∧∀x:Str,x≠"__name__"→mb x=bootBuiltins x
 nolimit:base.NoLimit
structure Cx where
 prog:Program
 w:World
 K:PySem.W.Frag
 mg:Str→Option Value
 base:Heap
 A:Around
 N:List Str
 s₀:Shared
 H₀:Hp
 env:Env
 outer:List Env
 stack:List Env
 ex:List Addr
 fn:Str→Bool
 calm:Bool
 pn:List (Addr×Obj)
 xe:Value→Shared→Prop
def frs(l:List Env):List Addr:=l.filterMap (·.frame)
abbrev Cx.fs(X:Cx):List Addr:=frs X.outer
def Vis(sc:Scope)(x:Str):Prop:=sc.names.lookup x=some .local∨sc.names.lookup x=some .cell∨sc.names.lookup x=some .free
def Loc(sc:Scope)(x:Str):Prop:=sc.names.lookup x=some .local∨sc.names.lookup x=some .cell
def Look(env:Env)(h:Heap)(m:Str→Option Value)(x:Str)(u:Value):Prop:=
 (env.kindOf x=some .local∧m x=some u)∨((env.kindOf x=some .cell∨env.kindOf x=some .free)∧∃c,env.cells.lookup x=some c∧h.IsCell c (some u))
structure Cx.Ok(X:Cx):Prop where
 mod:Mod X.K X.mg X.base
 kind:X.env.scope.kind=.function
 glob:X.env.globals=mainGlobals
 blt:X.env.builtins=builtinsNs
 above:X.s₀.heap.objs.size≤X.env.locals
 inj:∀x y c,X.env.cells.lookup x=some c→X.env.cells.lookup y=some c→x=y
 has:∀x,(X.env.kindOf x=some .cell∨X.env.kindOf x=some .free)→∃c,X.env.cells.lookup x=some c
 cab:∀x c,X.fn x=true→X.env.cells.lookup x=some c→X.s₀.heap.objs.size≤c
 hd:X.calm=true→X.A.handled=none
 frames:X.A.frames=some X.stack
 stk:X.stack=X.outer∨(X.stack=X.env::X.outer∧X.env.frame=some X.env.locals)
 exf:∀b∈X.ex,b≠X.env.locals∧∀x c,X.env.cells.lookup x=some c→c≠b
 bs:∀b o,X.base.get? b=some o→X.s₀.heap.get? b=some o∧X.H₀ b=none
 bsz:X.base.objs.size≤X.s₀.heap.objs.size
 noex:∀b o,X.base.get? b=some o→b∉X.ex
 exfs:∀b∈X.ex,b∉X.fs
 funs:X.s₀.heap.FunFrames X.base X.outer
 frf:∀b∈X.fs,X.H₀ b=none
structure Inv(X:Cx)(pins:List (Addr×Obj))(σ:List (Option V))(H:Hp)(s:Shared):Prop where
 ok:X.Ok
 os:s.os=X.s₀.os
 bare:AllBare s.gens
 base:Un X.fs X.ex X.H₀ H X.s₀.heap s.heap
 loc:∃m,s.heap.Ns X.env.locals m∧∀(i:Nat) (x:Str) (v:V),X.N[i]? = some x→σ[i]? = some (some v)→Vis X.env.scope x→∃u,RelV v u∧Look X.env s.heap m x u
 cell:∀x c,X.env.cells.lookup x=some c→∃v,s.heap.IsCell c v
 free:H X.env.locals=none
 freeC:∀x c,X.env.cells.lookup x=some c→H c=none
 pin:∀p∈X.pn++pins,s.heap.get? p.1=some p.2∧H p.1=none∧p.1≠X.env.locals∧p.1∉X.fs∧∀v,p.2.data≠.cell v
 hok:HOk X.prog X.w H s.heap
 len:σ.length=X.N.length
section
variable {X:Cx}{pins:List (Addr×Obj)}{σ:List (Option V)}{H H':Hp}{s:Shared}{h':Heap}
theorem Cx.Ok.nofr(ok:X.Ok){b:Addr}{o:Obj}(e:X.base.get? b=some o):b∉X.fs:=fun hb=>by
 have:=(ok.funs.mem hb).1
 rw[e] at this;cases this
theorem Inv.bs(I:Inv X pins σ H s):∀b o,X.base.get? b=some o→s.heap.get? b=some o∧H b=none:=fun b o e=>
 ⟨I.base.keep b o (I.ok.bs b o e).1 (I.ok.bs b o e).2 (I.ok.nofr e) (I.ok.noex b o e),I.base.free b o (I.ok.bs b o e).1 (I.ok.bs b o e).2 (I.ok.noex b o e)⟩
theorem Inv.bk(I:Inv X pins σ H s):∀b o,X.base.get? b=some o→s.heap.get? b=some o:=fun b o e=>(I.bs b o e).1
theorem Inv.mod(I:Inv X pins σ H s):Mod X.K X.mg X.base:=I.ok.mod
theorem Inv.kIn(I:Inv X pins σ H s):X.K.In s.heap:=I.ok.mod.kin.keeps I.bk
theorem Inv.nolimit(I:Inv X pins σ H s):s.heap.NoLimit:=I.ok.mod.nolimit.keeps I.bk
theorem Inv.fr(I:Inv X pins σ H s):∃m,Fr X.base X.env.locals s.heap m:=
 let ⟨m,hn,_⟩:=I.loc
 ⟨m,hn,I.bk,Nat.le_trans I.ok.bsz I.ok.above⟩
theorem Inv.lt(I:Inv X pins σ H s):X.env.locals<s.heap.objs.size:=let ⟨_,hn,_⟩:=I.loc;hn.lt
theorem Inv.sz(I:Inv X pins σ H s):X.s₀.heap.objs.size≤s.heap.objs.size:=Nat.le_trans I.ok.above (Nat.le_of_lt I.lt)
theorem Inv.nofs(I:Inv X pins σ H s){a:Addr}(h:s.heap.objs.size≤a):a∉X.fs:=fun hb=>by
 obtain⟨_,o,ho,_⟩:=I.ok.funs.mem hb
 exact absurd (Nat.lt_of_lt_of_le (Heap.lt_size ho) (Nat.le_trans I.sz h)) (Nat.lt_irrefl _)
theorem Inv.cne(I:Inv X pins σ H s):∀x c,X.env.cells.lookup x=some c→c≠X.env.locals:=fun x c e z=>by
 obtain⟨v,o,ho,hd⟩:=I.cell x c e
 obtain⟨m,⟨o',es,ep,ho',hd',_⟩,_⟩:=I.loc
 rw[z,ho'] at ho;cases ho;rw[hd'] at hd;cases hd
theorem Inv.funs(I:Inv X pins σ H s):s.heap.FunFrames X.base X.outer:=by
 have all:∀(l:List Env),(∀b∈frs l,b∈X.fs)→X.s₀.heap.FunFrames X.base l→s.heap.FunFrames X.base l:=by
  intro l
  induction l with
  |nil=>intro _ _;trivial
  |cons env r ih=>
   intro hs hl
   obtain⟨hk,⟨L,o,hf,hn,ho,hd⟩,hr⟩:=hl
   have hL:L∈X.fs:=hs L (by unfold frs;rw[List.filterMap_cons,hf];exact List.mem_cons_self)
   obtain⟨sl,e⟩:=I.base.slot L o ho (I.ok.frf L hL) hL fun z=>I.ok.exfs L z hL
   exact⟨hk,⟨L,_,hf,hn,e,hd⟩,ih (fun b hb=>hs b (by unfold frs;rw[List.filterMap_cons,hf];exact List.mem_cons_of_mem _ hb)) hr⟩
 exact all X.outer (fun _ hb=>hb) I.ok.funs
theorem Inv.stack(I:Inv X pins σ H s):s.heap.FunFrames X.base X.stack:=by
 rcases I.ok.stk with e|⟨e,hf⟩
 ·rw[e];exact I.funs
 ·rw[e]
  obtain⟨m,hn,_⟩:=I.loc
  refine .cons (by rw[I.ok.kind];decide) hf hn ?_ I.funs
  exact Heap.get?_none_of_le (Nat.le_trans I.ok.bsz I.ok.above)
theorem Inv.stkSub(I:Inv X pins σ H s):∀b∈frs X.stack,b∈X.env.locals::X.fs:=fun b hb=>by
 rcases I.ok.stk with e|⟨e,hf⟩
 ·rw[e] at hb;exact List.mem_cons_of_mem _ hb
 ·rw[e] at hb
  unfold frs at hb
  rw[List.filterMap_cons,hf] at hb
  exact hb
theorem Inv.stkFree(I:Inv X pins σ H s):∀b∈frs X.stack,H b=none:=fun b hb=>by
 rcases List.mem_cons.mp (I.stkSub b hb) with e|hb
 ·rw[e];exact I.free
 ·obtain⟨_,o,ho,_⟩:=I.ok.funs.mem hb
  exact I.base.free b o ho (I.ok.frf b hb) fun z=>I.ok.exfs b z hb
theorem Inv.step{g':Array GenState}{t':Nat}{d':Drawn}{ch:List Addr}(I:Inv X pins σ H s)
  (hch:∀b∈ch,(b∈X.ex∨X.s₀.heap.objs.size≤b)∧b≠X.env.locals∧(∀x c,X.env.cells.lookup x=some c→c≠b)∧∀p∈X.pn++pins,p.1≠b)
  (keep:∀b o,b≠X.env.locals→b∉X.fs→b∉ch→s.heap.get? b=some o→H b=none→h'.get? b=some o)
  (slot:∀b o,b≠X.env.locals→b∈X.fs→b∉ch→s.heap.get? b=some o→H b=none→∃sl,h'.get? b=some { o with slots:=sl }) (free:∀b o,b∉ch→s.heap.get? b=some o→H b=none→H' b=none)
  (there:∀b o,b∉ch→s.heap.get? b=some o→∃o',h'.get? b=some o')
  (tups:∀b xs,H b=some (.tup xs)→H' b=some (.tup xs)) (frzs:∀b o u,H b=some (.frz o u)→H' b=some (.frz o u)) (tbls:∀b ps,H b=some (.tbl ps)→∃more,H' b=some (.tbl (ps++more)))
  (ns:∀m,s.heap.Ns X.env.locals m→h'.Ns X.env.locals m) (hok:HOk X.prog X.w H' h') (hg:AllBare g'):
  Inv X pins σ H' { s with heap:=h',gens:=g',drawn:=d',toks:=t' }:=by
 have neL:∀b o,X.s₀.heap.get? b=some o→b≠X.env.locals:=fun b o e=>Nat.ne_of_lt (Nat.lt_of_lt_of_le (Heap.lt_size e) I.ok.above)
 have neC:∀b o,X.s₀.heap.get? b=some o→b∉X.ex→b∉ch:=fun b o e hx hb=>by
  rcases(hch b hb).1 with z|z
  ·exact hx z
  ·exact absurd (Nat.lt_of_lt_of_le (Heap.lt_size e) z) (Nat.lt_irrefl _)
 have cellK:∀x c,X.env.cells.lookup x=some c→∀v,s.heap.IsCell c v→h'.IsCell c v:=fun x c e v ⟨o,ho,hd⟩=>by
  have nch:c∉ch:=fun z=>(hch c z).2.2.1 x c e rfl
  by_cases hc:c∈X.fs
  ·obtain⟨sl,q⟩:=slot c o (I.cne x c e) hc nch ho (I.freeC x c e)
   exact⟨_,q,hd⟩
  ·exact⟨o,keep c o (I.cne x c e) hc nch ho (I.freeC x c e),hd⟩
 refine⟨I.ok,I.os,hg,⟨fun b o e n hb hx=>?_,fun b o e n hb hx=>?_,fun b o e n hx=>?_,fun b o e hx=>?_,fun b xs e=>tups b xs (I.base.tups b xs e),fun b o xs e=>frzs b o xs (I.base.frzs b o xs e),fun b ps e=>?_⟩,?_,fun x c e=>?_,?_,fun x c e=>?_,fun p hp=>?_,hok,I.len⟩
 ·exact keep b o (neL b o e) hb (neC b o e hx) (I.base.keep b o e n hb hx) (I.base.free b o e n hx)
 ·obtain⟨sl,e1⟩:=I.base.slot b o e n hb hx
  obtain⟨sl',e2⟩:=slot b _ (neL b o e) hb (neC b o e hx) e1 (I.base.free b o e n hx)
  exact⟨sl',e2⟩
 ·obtain⟨o',e1⟩:=I.base.there b o e hx
  exact free b o' (neC b o e hx) e1 (I.base.free b o e n hx)
 ·obtain⟨o',e1⟩:=I.base.there b o e hx
  exact there b o' (neC b o e hx) e1
 ·obtain⟨m1,e1⟩:=I.base.tbls b ps e
  obtain⟨m2,e2⟩:=tbls b _ e1
  exact⟨m1++m2,by rw[e2,Array.append_assoc]⟩
 ·obtain⟨m,hn,hl⟩:=I.loc
  refine⟨m,ns m hn,fun i x v e1 e2 e3=>?_⟩
  obtain⟨u,r,l⟩:=hl i x v e1 e2 e3
  refine⟨u,r,?_⟩
  rcases l with l|⟨k,c,e,z⟩
  ·exact .inl l
  ·exact .inr ⟨k,c,e,cellK x c e _ z⟩
 ·obtain⟨v,z⟩:=I.cell x c e
  exact⟨v,cellK x c e v z⟩
 ·obtain⟨m,⟨o,_,_,ho,_⟩,_⟩:=I.loc
  exact free _ o (fun z=>(hch _ z).2.1 rfl) ho I.free
 ·obtain⟨v,o,ho,hd⟩:=I.cell x c e
  exact free c o (fun z=>(hch c z).2.2.1 x c e rfl) ho (I.freeC x c e)
 ·obtain⟨e,n,ne,nf,d⟩:=I.pin p hp
  have nch:p.1∉ch:=fun z=>(hch p.1 z).2.2.2 p hp rfl
  exact⟨keep p.1 p.2 ne nf nch e n,free p.1 p.2 nch e n,ne,nf,d⟩
theorem Inv.un{t':Nat}(I:Inv X pins σ H s)(u:Un X.fs [] H H' s.heap h')(hok:HOk X.prog X.w H' h'):Inv X pins σ H' { s with heap:=h',toks:=t' }:=by
 obtain⟨m,⟨o,es,ep,ho,r⟩,_⟩:=id I.loc
 obtain⟨sl,hL⟩:=u.any ho I.free (by simp)
 exact I.step (g':=s.gens) (d':=s.drawn) (ch:=[]) (fun _ z=>nomatch z) (fun b o _ hb _ e n=>u.keep b o e n hb (by simp)) (fun b o _ hb _ e n=>u.slot b o e n hb (by simp)) (fun b o _ e n=>u.free b o e n (by simp)) (fun b o _ e=>u.there b o e (by simp)) u.tups u.frzs u.tbls (fun m' hm=>by
  obtain⟨o',es',ep',ho',r'⟩:=hm
  rw[ho] at ho';cases ho'
  exact⟨_,es',ep',hL,r'⟩) hok I.bare
theorem Inv.call{g':Array GenState}{t':Nat}{d':Drawn}{ch:List Addr}(I:Inv X pins σ H s)(u:Un (frs X.stack) ch H H' s.heap h')(hok:HOk X.prog X.w H' h')(hg:AllBare g')
  (hch:∀b∈ch,(b∈X.ex∨X.s₀.heap.objs.size≤b)∧b≠X.env.locals∧(∀x c,X.env.cells.lookup x=some c→c≠b)∧∀p∈X.pn++pins,p.1≠b):
  Inv X pins σ H' { s with heap:=h',gens:=g',drawn:=d',toks:=t' }:=by
 obtain⟨m,⟨o,es,ep,ho,r⟩,_⟩:=id I.loc
 obtain⟨sl,hL⟩:=u.any ho I.free fun z=>(hch _ z).2.1 rfl
 exact I.step (ch:=ch) hch (fun b o hL hb hc e n=>u.keep b o e n (fun z=>(List.mem_cons.mp (I.stkSub b z)).elim hL hb) hc) (fun b o _ _ hc e n=>u.any e n hc) (fun b o hc e n=>u.free b o e n hc) (fun b o hc e=>u.there b o e hc) u.tups u.frzs u.tbls (fun m' hm=>by
  obtain⟨o',es',ep',ho',r'⟩:=hm
  rw[ho] at ho';cases ho'
  exact⟨_,es',ep',hL,r'⟩) hok hg
theorem Inv.turned{t':Nat}{it:Addr}(I:Inv X pins σ H s)(k:∀b o,b≠it→s.heap.get? b=some o→h'.get? b=some o)(hn:H it=none)(hL:it≠X.env.locals)
  (h1:it∈X.ex∨X.s₀.heap.objs.size≤it) (h2:∀x c,X.env.cells.lookup x=some c→c≠it) (h3:∀p∈X.pn++pins,p.1≠it):Inv X pins σ H { s with heap:=h',toks:=t' }:=by
 have nit:∀b u,H b=some u→b≠it:=fun b u e z=>by rw[z,hn] at e;cases e
 refine I.step (g':=s.gens) (d':=s.drawn) (ch:=[it]) (fun b hb=>?_) (fun b o _ _ hc e _=>k b o (fun z=>hc (by simp[z])) e) (fun b o _ _ hc e _=>⟨o.slots,k b o (fun z=>hc (by simp[z])) e⟩) (fun _ _ _ _ n=>n)
  (fun b o hc e=>⟨o,k b o (fun z=>hc (by simp[z])) e⟩) (fun _ _ e=>e) (fun _ _ _ e=>e) (fun b ps e=>⟨#[],by rw[e];simp⟩) (fun m hm=>?_) (fun b u e=>?_) I.bare
 ·have e:b=it:=by simpa using hb
  subst e
  exact⟨h1,hL,h2,h3⟩
 ·obtain⟨o,es,ep,ho,r⟩:=hm
  exact⟨o,es,ep,k _ o (Ne.symm hL) ho,r⟩
 ·refine(I.hok b u e).stay (fun c v hc q=>k c v ?_ q) (fun _ q=>q) fun _ _ q=>q
  rcases hc with z|z
  ·rw[z];exact nit b u e
  ·exact nit c _ z
theorem Inv.tok(I:Inv X pins σ H s)(t:Nat):Inv X pins σ H { s with toks:=t }:=I.un (h':=s.heap) (t':=t) Un.refl I.hok
theorem Inv.kept{t':Nat}(I:Inv X pins σ H s)(k:∀b u,s.heap.get? b=some u→h'.get? b=some u):Inv X pins σ H { s with heap:=h',toks:=t' }:=I.un (Un.kept k) (I.hok.kept k)
theorem Inv.laid{a:Addr}{o:HO}{t':Nat}(I:Inv X pins σ H s)(k:∀b u,s.heap.get? b=some u→h'.get? b=some u)(hp:s.heap.objs.size≤a)(new:ObjOk X.prog X.w (upd H a o) h' a o):
  Inv X pins σ (upd H a o) { s with heap:=h',toks:=t' }:=I.un (Un.laid k hp (I.hok.fresh hp)) (I.hok.laid k hp new)
theorem Inv.write{x e:Addr}{o:HO}{t':Nat}(I:Inv X pins σ H s)(mu:Mut (H x))(he:e=x∨H e=some (.own x))(k:∀b u,b≠e→s.heap.get? b=some u→h'.get? b=some u)(heo:∃u,h'.get? e=some u)
  (new:ObjOk X.prog X.w (upd H x o) h' x o):Inv X pins σ (upd H x o) { s with heap:=h',toks:=t' }:=I.un (Un.write mu he k heo) (I.hok.write mu he k heo new)
theorem Inv.weak{σ':List (Option V)}(I:Inv X pins σ H s)(hl:σ'.length=σ.length)(w:∀(i:Nat) v,σ'[i]? = some (some v)→σ[i]? = some (some v)):Inv X pins σ' H s:=
 ⟨I.ok,I.os,I.bare,I.base,let ⟨m,hn,hl'⟩:=I.loc;⟨m,hn,fun i x v e1 e2 e3=>hl' i x v e1 (w i v e2) e3⟩,I.cell,I.free,I.freeC,I.pin,I.hok,hl.trans I.len⟩
theorem Inv.pins_of{pins':List (Addr×Obj)}(I:Inv X pins σ H s)(h:∀p∈pins',s.heap.get? p.1=some p.2∧H p.1=none∧p.1≠X.env.locals∧p.1∉X.fs∧∀v,p.2.data≠.cell v):Inv X pins' σ H s:=
 ⟨I.ok,I.os,I.bare,I.base,I.loc,I.cell,I.free,I.freeC,fun p hp=>(List.mem_append.mp hp).elim (fun z=>I.pin p (List.mem_append_left _ z)) (h p),I.hok,I.len⟩
theorem nodup_ix{N:List Str}(hN:N.Nodup){i j:Nat}{x:Str}(a:N[i]? = some x)(b:N[j]? = some x):i=j:=by
 obtain⟨h1,e1⟩:=List.getElem?_eq_some_iff.mp a
 obtain⟨h2,e2⟩:=List.getElem?_eq_some_iff.mp b
 exact(List.getElem_inj hN).mp (e1.trans e2.symm)
theorem store_ok2{M:Model}{A:Around}{E:Value→Shared→Prop}{i:Nat}{x:Str}{v:V}{u:Value}{Q:Unit→Shared→Prop}(I:Inv X pins σ H s)(hN:X.N.Nodup)(hi:X.N[i]? = some x)(hx:Loc X.env.scope x)(r:RelV v u)
  (h:∀s',Inv X pins (σ.set i (some v)) H s'→(∃a,Heap.SameBut a s.heap s'.heap∧(a=X.env.locals∨X.env.cells.lookup x=some a))→Q () s') (hf:X.fn x=true∨X.env.scope.names.lookup x=some .local:=by first|exact .inl rfl|exact .inr rfl|assumption):wpAny M A (storeName X.env x u) Q E s:=by
 obtain⟨m,hn,hl⟩:=id I.loc
 have hcls:(X.env.scope.kind==.class||(X.env.scope.kind==.module&&X.env.locals != X.env.globals))=false:=by rw[I.ok.kind];rfl
 have hiσ:i<σ.length:=by rw[I.len];exact(List.getElem?_eq_some_iff.mp hi).1
 have cne:=I.cne
 have tracked:∀ {a:Addr} {h':Heap},(∃o,s.heap.get? a=some o∧H a=none)→Heap.SameBut a s.heap h'→HOk X.prog X.w H h':=fun {a h'} ha hs b ob e=>by
  obtain⟨_,_,hfree⟩:=ha
  refine(I.hok b ob e).stay (fun c w' hc q=>(hs.2 c ?_).trans q) (fun _ q=>q) fun _ _ q=>q
  rintro rfl
  rcases hc with rfl|hc
  ·rw[hfree] at e;cases e
  ·rw[hfree] at hc;cases hc
 rcases hx with hk|hk
 ·refine wpAny_storeName_local hk hn (fun h' hn' hs=>?_) hcls
  obtain⟨oL,_,_,hoL,_⟩:=id hn
  refine h _ ⟨I.ok,I.os,I.bare,⟨fun b o e n hb hx=>?_,fun b o e n hb hx=>?_,I.base.free,fun b o e hx=>?_,I.base.tups,I.base.frzs,I.base.tbls⟩,⟨_,hn',fun j y v' e1 e2 e3=>?_⟩,fun y c e=>?_,I.free,I.freeC,fun p hp=>?_,tracked ⟨oL,hoL,I.free⟩ hs,by simpa using I.len⟩ ⟨_,hs,.inl rfl⟩
  ·exact(hs.2 b (Nat.ne_of_lt (Nat.lt_of_lt_of_le (Heap.lt_size e) I.ok.above))).trans (I.base.keep b o e n hb hx)
  ·obtain⟨sl,e1⟩:=I.base.slot b o e n hb hx
   exact⟨sl,(hs.2 b (Nat.ne_of_lt (Nat.lt_of_lt_of_le (Heap.lt_size e) I.ok.above))).trans e1⟩
  ·obtain⟨o',e1⟩:=I.base.there b o e hx
   exact⟨o',(hs.2 b (Nat.ne_of_lt (Nat.lt_of_lt_of_le (Heap.lt_size e) I.ok.above))).trans e1⟩
  ·by_cases hj:j=i
   ·subst hj
    rw[hi] at e1;cases e1
    rw[List.getElem?_set_self hiσ] at e2
    cases e2
    exact⟨u,r,.inl ⟨hk,by simp⟩⟩
   ·rw[List.getElem?_set_ne (Ne.symm hj)] at e2
    obtain⟨u',r',q⟩:=hl j y v' e1 e2 e3
    refine⟨u',r',?_⟩
    rcases q with⟨k,e⟩|⟨k,c,e,z⟩
    ·refine .inl ⟨k,?_⟩
     have:y≠x:=fun e=>hj (nodup_ix hN e1 (e▸hi))
     simp[this,e]
    ·exact .inr ⟨k,c,e,z.sameBut hs (cne y c e)⟩
  ·obtain⟨w',z⟩:=I.cell y c e
   exact⟨w',z.sameBut hs (cne y c e)⟩
  ·obtain⟨e,n,ne,nf,d⟩:=I.pin p hp
   exact⟨(hs.2 p.1 ne).trans e,n,ne,nf,d⟩
 ·have hfn:X.fn x=true:=by
   rcases hf with z|z
   ·exact z
   ·rw[z] at hk;cases hk
  obtain⟨c,hc⟩:=I.ok.has x (.inl hk)
  obtain⟨w',z⟩:=I.cell x c hc
  refine wpAny_storeName_cell I.ok.kind hk hc z (fun h' hc' hs=>?_)
  obtain⟨oc,hoc,hocd⟩:=id z
  refine h { s with heap:=h' } ⟨I.ok,I.os,I.bare,⟨fun b o e n hb hx=>?_,fun b o e n hb hx=>?_,I.base.free,fun b o e hx=>?_,I.base.tups,I.base.frzs,I.base.tbls⟩,⟨m,hn.sameBut hs (Ne.symm (cne x c hc)),fun j y v' e1 e2 e3=>?_⟩,fun y c' e=>?_,I.free,I.freeC,fun p hp=>?_,tracked ⟨oc,hoc,I.freeC x c hc⟩ hs,by simpa using I.len⟩ ⟨c,hs,.inr hc⟩
  ·exact(hs.2 b (Nat.ne_of_lt (Nat.lt_of_lt_of_le (Heap.lt_size e) (I.ok.cab x c hfn hc)))).trans (I.base.keep b o e n hb hx)
  ·obtain⟨sl,e1⟩:=I.base.slot b o e n hb hx
   exact⟨sl,(hs.2 b (Nat.ne_of_lt (Nat.lt_of_lt_of_le (Heap.lt_size e) (I.ok.cab x c hfn hc)))).trans e1⟩
  ·obtain⟨o',e1⟩:=I.base.there b o e hx
   exact⟨o',(hs.2 b (Nat.ne_of_lt (Nat.lt_of_lt_of_le (Heap.lt_size e) (I.ok.cab x c hfn hc)))).trans e1⟩
  ·by_cases hj:j=i
   ·subst hj
    rw[hi] at e1;cases e1
    rw[List.getElem?_set_self hiσ] at e2
    cases e2
    exact⟨u,r,.inr ⟨.inl hk,c,hc,hc'⟩⟩
   ·rw[List.getElem?_set_ne (Ne.symm hj)] at e2
    obtain⟨u',r',q⟩:=hl j y v' e1 e2 e3
    refine⟨u',r',?_⟩
    rcases q with q|⟨k,c',e,z'⟩
    ·exact .inl q
    ·refine .inr ⟨k,c',e,z'.sameBut hs ?_⟩
     rintro rfl
     exact hj (nodup_ix hN e1 (I.ok.inj _ _ _ e hc▸hi))
  ·by_cases hcc:c'=c
   ·subst hcc;exact⟨_,hc'⟩
   ·obtain⟨w2,z2⟩:=I.cell y c' e
    exact⟨w2,z2.sameBut hs hcc⟩
  ·obtain⟨e,n,ne,nf,d⟩:=I.pin p hp
   refine⟨(hs.2 p.1 ?_).trans e,n,ne,nf,d⟩
   intro q
   rw[q,hoc] at e
   have q':oc=p.2:=Option.some.inj e
   exact d w' (by rw[←q'];exact hocd)
theorem yl2{M:Model}{A:Around}{E:Value→Shared→Prop}{i:Nat}{x:Str}{v:V}{u:Value}{Q:Unit→Shared→Prop}(I:Inv X pins σ H s)(hN:X.N.Nodup)(hi:X.N[i]? = some x)(hx:Loc X.env.scope x)(r:RelV v u)
  (h:∀s',Inv X pins (σ.set i (some v)) H s'→Q () s') (hf:X.fn x=true∨X.env.scope.names.lookup x=some .local:=by first|exact .inl rfl|exact .inr rfl|assumption):wpAny M A (storeName X.env x u) Q E s:=
 store_ok2 I hN hi hx r (fun s' I' _=>h s' I') hf
theorem Inv.call'{s':Shared}{ch:List Addr}(I:Inv X pins σ H s)(ho:s'.os=s.os)(u:Un (frs X.stack) ch H H' s.heap s'.heap)(hok:HOk X.prog X.w H' s'.heap)(hg:AllBare s'.gens)
  (hch:∀b∈ch,(b∈X.ex∨X.s₀.heap.objs.size≤b)∧b≠X.env.locals∧(∀x c,X.env.cells.lookup x=some c→c≠b)∧∀p∈X.pn++pins,p.1≠b):Inv X pins σ H' s':=by
 obtain⟨h',g',d',t',o'⟩:=s'
 have e:o'=s.os:=ho
 subst e
 exact I.call (g':=g') (t':=t') (d':=d') u hok hg hch
end
abbrev XK:=Value→Option Addr→Hp→Prop
abbrev St:=List (Option V)
abbrev VK:=V→Hp→Prop
abbrev TE:=St→Hp→VK→Prop
abbrev TT:=St→Hp→(Bool→Hp→Prop)→Prop
abbrev TA:=St→Hp→(List V→Hp→Prop)→Prop
structure Ends where
 nx:St→Hp→Prop
 rt:VK
 bk:St→Hp→Prop:=fun _ _=>False
 ct:St→Hp→Prop:=fun _ _=>False
abbrev TS:=Ends→St→Hp→Prop
def EP(X:Cx)(pins:List (Addr×Obj))(σ:St)(Q:VK)(u:Value)(s':Shared):Prop:=∃v H',Inv X pins σ H' s'∧RelV v u∧Q v H'
def TP(X:Cx)(pins:List (Addr×Obj))(σ:St)(Q:Bool→Hp→Prop)(b:Bool)(s':Shared):Prop:=∃H',Inv X pins σ H' s'∧Q b H'
def AP(X:Cx)(pins:List (Addr×Obj))(σ:St)(Q:List V→Hp→Prop)(us:List Value)(s':Shared):Prop:=∃vs H',Inv X pins σ H' s'∧Vals vs us∧Q vs H'
def SP(X:Cx)(pins:List (Addr×Obj))(D:Ends)(f:Flow)(s':Shared):Prop:=
 match f with
 |.next=>∃σ' H',Inv X pins σ' H' s'∧D.nx σ' H'
 |.brk=>∃σ' H',Inv X pins σ' H' s'∧D.bk σ' H'
 |.cont=>∃σ' H',Inv X pins σ' H' s'∧D.ct σ' H'
 |.ret u=>∃v σ' H',Inv X pins σ' H' s'∧RelV v u∧D.rt v H'
def PE(X:Cx)(e:Expr)(t:TE):Prop:=
 ∀(pins:List (Addr×Obj)) (s:Shared) (σ:St) (H:Hp) (Q:VK),Inv X pins σ H s→t σ H Q→wpAny (model X.prog X.w) X.A (eval e X.env) (EP X pins σ Q) X.xe s
def PT(X:Cx)(e:Expr)(t:TT):Prop:=
 ∀(pins:List (Addr×Obj)) (s:Shared) (σ:St) (H:Hp) (Q:Bool→Hp→Prop),Inv X pins σ H s→t σ H Q→wpAny (model X.prog X.w) X.A (isTrue e X.env (eval e X.env)) (TP X pins σ Q) X.xe s
def PW(X:Cx)(e:Expr)(t:TT):Prop:=
 ∀(whole:Sem Value) (pins:List (Addr×Obj)) (s:Shared) (σ:St) (H:Hp) (Q:Bool→Hp→Prop),Inv X pins σ H s→t σ H Q→wpAny (model X.prog X.w) X.A (isTrue e X.env whole) (TP X pins σ Q) X.xe s
theorem PW.pt{X:Cx}{e:Expr}{t:TT}(h:PW X e t):PT X e t:=h _
def PA(X:Cx)(es:List Expr)(t:TA):Prop:=
 ∀(pos:Pos) (pins:List (Addr×Obj)) (s:Shared) (σ:St) (H:Hp) (Q:List V→Hp→Prop),Inv X pins σ H s→t σ H Q→wpAny (model X.prog X.w) X.A (spliced (backTo pos (starEach es X.env))) (AP X pins σ Q) X.xe s
def PS(X:Cx)(st:Stmt)(t:TS):Prop:=
 ∀(pins:List (Addr×Obj)) (s:Shared) (σ:St) (H:Hp) (D:Ends),Inv X pins σ H s→t D σ H→wpAny (model X.prog X.w) X.A (exec st X.env) (SP X pins D) X.xe s
def PSs(X:Cx)(st:List Stmt)(t:TS):Prop:=
 ∀(pins:List (Addr×Obj)) (s:Shared) (σ:St) (H:Hp) (D:Ends),Inv X pins σ H s→t D σ H→wpAny (model X.prog X.w) X.A (execs st X.env) (SP X pins D) X.xe s
theorem thn{α:Type}{t:Sem α}{Q Q':α→Shared→Prop}{M:Model}{A:Around}{E:Value→Shared→Prop}{s:Shared}(h:wpAny M A t Q E s)(hQ:∀a s,Q a s→Q' a s):wpAny M A t Q' E s:=wpAny_mono h hQ fun _ _ x=>x
section
variable {X:Cx}
def tVar(i:Nat):TE:=fun σ H Q=>∃v,σ[i]? = some (some v)∧Q v H
def tC(v:V):TE:=fun _ H Q=>Q v H
theorem pe_var{i:Nat}{x:Str}{pos:Pos}(hN:X.N[i]? = some x)(hv:Vis X.env.scope x)(hd:(x==("__debug__":Str))=false:=by decide)(hcd:(x==("__classdict__":Str))=false:=by decide):PE X (.Name x pos) (tVar i):=by
 intro pins s σ H Q I h
 obtain⟨v,e,h⟩:=h
 obtain⟨m,hn,hl⟩:=I.loc
 obtain⟨u,r,l⟩:=hl i x v hN e hv
 have fin:EP X pins σ Q u s:=⟨v,H,I,r,h⟩
 rcases l with⟨hk,hm⟩|⟨hk,c,hc,hcell⟩
 ·exact wpAny_Name (wpAny_loadName_local I.ok.kind hk hn hm fin) hd
 ·rcases hk with hk|hk
  ·exact wpAny_Name (wpAny_loadName_cell I.ok.kind hk hc hcell fin) hd
  ·exact wpAny_Name (wpAny_loadName_free I.ok.kind hk hc hcell fin hcd) hd
theorem pe_int{i j pos}:PE X (.Constant (.int i) j pos) (tC (.int i)):=fun _ _ _ H _ I h=>wpAny_Constant_int ⟨.int i,H,I.tok _,⟨_,rfl⟩,h⟩
theorem pe_bl{b j pos}:PE X (.Constant (.bool b) j pos) (tC (.bl b)):=fun _ _ _ H _ I h=>Constant_bool ⟨.bl b,H,I,rfl,h⟩
theorem pe_non{j pos}:PE X (.Constant .none j pos) (tC .non):=fun _ _ _ H _ I h=>Constant_none ⟨.non,H,I,rfl,h⟩
theorem pe_str{x j pos}:PE X (.Constant (.str x) j pos) (tC (.str x)):=fun _ _ _ H _ I h=>Calls.Constant_str ⟨.str x,H,I.tok _,⟨_,rfl⟩,h⟩
def Gl(X:Cx)(x:Str):Prop:=X.env.kindOf x=some .globalImplicit
theorem yf1{E:Value→Shared→Prop}{pins:List (Addr×Obj)}{s:Shared}{σ:St}{H:Hp}{x:Str}{u:Value}{pos:Pos}{Q:Value→Shared→Prop}(I:Inv X pins σ H s)(hg:Gl X x)(hm:X.mg x=some u)(h:Q u s)
  (hd:(x==("__debug__":Str))=false:=by decide):wpAny (model X.prog X.w) X.A (eval (.Name x pos) X.env) Q E s:=
 Calls.Name_function_global I.ok.kind hg (Calls.loadGlobal_global (by rw[I.ok.glob];exact I.mod.glob.keeps I.bk) hm h) hd
theorem ld_blt{E:Value→Shared→Prop}{pins:List (Addr×Obj)}{s:Shared}{σ:St}{H:Hp}{x:Str}{u:Value}{pos:Pos}{Q:Value→Shared→Prop}(I:Inv X pins σ H s)(hg:Gl X x)(hm:X.mg x=none)(hv:bootBuiltins x=some u)(h:Q u s)
  (hn:x≠"__name__":=by decide) (hd:(x==("__debug__":Str))=false:=by decide):wpAny (model X.prog X.w) X.A (eval (.Name x pos) X.env) Q E s:=by
 obtain⟨mb,h1,h2⟩:=I.mod.blt
 exact Calls.Name_function_global I.ok.kind hg (Calls.loadGlobal_builtin (by rw[I.ok.glob];exact I.mod.glob.keeps I.bk) hm (by rw[I.ok.blt];exact h1.keeps I.bk) ((h2 x hn).trans hv) h) hd
theorem pe_glob{x:Str}{v:V}{u:Value}{pos:Pos}(hg:Gl X x)(hm:X.mg x=some u)(r:RelV v u)(hd:(x==("__debug__":Str))=false:=by decide):PE X (.Name x pos) (tC v):=
 fun _ _ _ H _ I h=>yf1 I hg hm ⟨v,H,I,r,h⟩ hd
theorem pe_bltn{x:Str}{v:V}{u:Value}{pos:Pos}(hg:Gl X x)(hm:X.mg x=none)(hv:bootBuiltins x=some u)(r:RelV v u)(hn:x≠"__name__":=by decide)(hd:(x==("__debug__":Str))=false:=by decide):PE X (.Name x pos) (tC v):=
 fun _ _ _ H _ I h=>ld_blt I hg hm hv ⟨v,H,I,r,h⟩ hn hd
variable {a b:Expr}{ta tb:TE}{pos:Pos}
def PC(X:Cx)(op:CmpOp)(a b:Expr)(t:TE):Prop:=
 ∀(pins:List (Addr×Obj)) (s:Shared) (σ:St) (H:Hp) (Q:VK),Inv X pins σ H s→t σ H Q→
  wpAny (model X.prog X.w) X.A (eval a X.env) (fun v s₁=>wpAny (model X.prog X.w) X.A (eval b X.env) (fun u s₂=>wpAny (model X.prog X.w) X.A (compareOp op v u) (EP X pins σ Q) X.xe s₂) X.xe s₁) X.xe s
theorem nobehind(b:Expr){op:CmpOp}(h:op≠.In)(h2:op≠.NotIn):behindInMarks op b=false:=by
 have e1:(op==CmpOp.In)=false:=by cases op<;>first|rfl|exact absurd rfl h
 have e2:(op==CmpOp.NotIn)=false:=by cases op<;>first|rfl|exact absurd rfl h2
 cases b<;>simp[behindInMarks,e1,e2]
def tIsN(ta:TE):TE:=fun σ H Q=>ta σ H fun x H1=>Q (.bl (decide (x=.non))) H1
def tNotN(ta:TE):TE:=fun σ H Q=>ta σ H fun x H1=>Q (.bl (!decide (x=.non))) H1
theorem RelV.none_iff{x:V}{v:Value}(r:RelV x v):(v==Value.none)=decide (x=.non):=by
 cases x with
 |non=>cases r;rfl
 |bl _=>cases r;rfl
 |int _=>obtain⟨t,rfl⟩:=r;rfl
 |str _=>obtain⟨t,rfl⟩:=r;rfl
 |byt _=>obtain⟨t,rfl⟩:=r;rfl
 |flt _=>obtain⟨t,rfl⟩:=r;rfl
 |ref _=>cases r;rfl
 |ty _=>cases r;rfl
theorem pc_isN{j pos'}(ha:PE X a ta):PC X .Is a (.Constant .none j pos') (tIsN ta):=by
 intro pins s σ H Q I h
 refine thn (ha pins s σ H _ I h) fun v s1 ⟨x,H1,I1,r1,q1⟩=>?_
 exact Constant_none (is_none_gen ⟨.bl _,H1,I1,by rw[r1.none_iff];rfl,q1⟩)
theorem pc_notN{j pos'}(ha:PE X a ta):PC X .IsNot a (.Constant .none j pos') (tNotN ta):=by
 intro pins s σ H Q I h
 refine thn (ha pins s σ H _ I h) fun v s1 ⟨x,H1,I1,r1,q1⟩=>?_
 exact Constant_none (isnot_none_gen ⟨.bl _,H1,I1,by rw[r1.none_iff];rfl,q1⟩)
def tB(t:TE):TT:=fun σ H Q=>t σ H fun x H1=>∃c,x=.bl c∧Q c H1
theorem pt_cmp{op:CmpOp}{t:TE}(h:PC X op a b t)(h1:behindInMarks op b=false:=by first|exact nobehind _ (by decide) (by decide)|rfl):PT X (.Compare a [op] [b] pos) (tB t):=by
 intro pins s σ H Q I hw
 refine wpAny_isTrue_Compare1 (thn (h pins s σ H _ I hw) fun v s1 h1=>thn h1 fun u s2 h2=>thn h2 fun c s3 ⟨x,H1,I1,r1,q1⟩=>?_) h1
 obtain⟨d,rfl,q⟩:=q1
 cases r1
 exact wpAny_truthy_bool ⟨H1,I1,q⟩
theorem pt_val{e:Expr}{t:TE}(h:PE X e t)(he:∀whole,isTrue e X.env whole=(do let v ←whole;standAt e.pos;holding [v] (truthy v)):=by intro _;rfl):PT X e (tB t):=by
 intro pins s σ H Q I hw
 refine isTrue_plain (thn (h pins s σ H _ I hw) fun v s1 ⟨x,H1,I1,r1,q1⟩=>?_) (he _)
 obtain⟨d,rfl,q⟩:=q1
 cases r1
 exact wpAny_truthy_bool ⟨H1,I1,q⟩
variable {tA tB':TT}{rest:List Expr}
def tOr(t u:TT):TT:=fun σ H Q=>t σ H fun c H1=>if c=true then Q true H1 else u σ H1 Q
def tNot(t:TT):TT:=fun σ H Q=>t σ H fun c H1=>Q (!c) H1
theorem pw_or1(ha:PT X a tA):PW X (.BoolOp .Or [a] pos) tA:=by
 intro wh pins s σ H Q I h
 refine isTrue_or (thn (ha pins s σ H Q I h) fun c s1 e=>?_)
 cases c with
 |false=>exact isTrue_or_nil e
 |true=>exact e
theorem pw_or(ha:PT X a tA)(hb:PW X (.BoolOp .Or (b::rest) pos) tB'):PW X (.BoolOp .Or (a::b::rest) pos) (tOr tA tB'):=by
 intro wh pins s σ H Q I h
 refine isTrue_or (thn (ha pins s σ H _ I h) fun c s1 ⟨H1,I1,q1⟩=>?_)
 cases c with
 |true=>exact⟨H1,I1,q1⟩
 |false=>exact hb wh pins s1 σ H1 Q I1 q1
theorem pt_not(ha:PT X a tA):PT X (.UnaryOp .Not a pos) (tNot tA):=by
 intro pins s σ H Q I h
 exact isTrue_not (ha pins s σ H (fun c H1=>Q (!c) H1) I h)
def tAndV(ta tb:TE):TE:=fun σ H Q=>ta σ H fun x H1=>∃c,x=.bl c∧if c=true then tb σ H1 Q else Q (.bl false) H1
def tOrV(ta tb:TE):TE:=fun σ H Q=>ta σ H fun x H1=>∃c,x=.bl c∧if c=true then Q (.bl true) H1 else tb σ H1 Q
def tNotV(ta:TE):TE:=fun σ H Q=>ta σ H fun x H1=>∃c,x=.bl c∧Q (.bl (!c)) H1
theorem pe_one{op}{t:TE}(h:PE X a t):PE X (.BoolOp op [a] pos) t:=fun pins s σ H Q I hw=>BoolOp_one (h pins s σ H Q I hw)
theorem pe_and(ha:PE X a ta)(hb:PE X (.BoolOp .And (b::rest) pos) tb):PE X (.BoolOp .And (a::b::rest) pos) (tAndV ta tb):=by
 intro pins s σ H Q I h
 refine BoolOp_and (thn (ha pins s σ H _ I h) fun v s1 ⟨x,H1,I1,r1,q1⟩=>?_)
 obtain⟨c,rfl,q1⟩:=q1
 cases r1
 refine wpAny_truthy_bool ?_
 cases c with
 |true=>exact hb pins s1 σ H1 Q I1 q1
 |false=>exact⟨.bl false,H1,I1,rfl,q1⟩
theorem pe_or(ha:PE X a ta)(hb:PE X (.BoolOp .Or (b::rest) pos) tb):PE X (.BoolOp .Or (a::b::rest) pos) (tOrV ta tb):=by
 intro pins s σ H Q I h
 refine BoolOp_or (thn (ha pins s σ H _ I h) fun v s1 ⟨x,H1,I1,r1,q1⟩=>?_)
 obtain⟨c,rfl,q1⟩:=q1
 cases r1
 refine wpAny_truthy_bool ?_
 cases c with
 |false=>exact hb pins s1 σ H1 Q I1 q1
 |true=>exact⟨.bl true,H1,I1,rfl,q1⟩
theorem pe_not(ha:PE X a ta):PE X (.UnaryOp .Not a pos) (tNotV ta):=by
 intro pins s σ H Q I h
 refine UnaryOp_ (thn (ha pins s σ H _ I h) fun v s1 ⟨x,H1,I1,r1,q1⟩=>?_)
 obtain⟨c,rfl,q1⟩:=q1
 cases r1
 exact not_of (wpAny_truthy_bool ⟨.bl (!c),H1,I1,rfl,q1⟩)
def tIf(t:TT)(ta tb:TE):TE:=fun σ H Q=>t σ H fun c H1=>if c=true then ta σ H1 Q else tb σ H1 Q
theorem pe_ifExp{c:Expr}(hc:PT X c tA)(ha:PE X a ta)(hb:PE X b tb):PE X (.IfExp c a b pos) (tIf tA ta tb):=by
 intro pins s σ H Q I h
 refine wpAny_IfExp (thn (hc pins s σ H _ I h) fun d s1 ⟨H1,I1,q1⟩=>?_)
 cases d with
 |true=>exact ha pins s1 σ H1 Q I1 q1
 |false=>exact hb pins s1 σ H1 Q I1 q1
end
def SqL(K:PySem.W.Frag)(H:Hp)(a:Addr)(xs:List V):Prop:=
 Rd H a (.lst xs)∨
  ∃(o:Obj) (its:Array Value) (n:Nat),K.lookup a=some o∧o.cls=.type "list"∧o.dict=none∧o.data=.seq its n∧its.size≤sizeLine∧Vals xs its.toList
def SqT(K:PySem.W.Frag)(H:Hp)(a:Addr)(xs:List V):Prop:=
 Rd H a (.tup xs)∨
  ∃(o:Obj) (its:Array Value) (n:Nat),K.lookup a=some o∧o.cls=.type "tuple"∧o.data=.seq its n∧its.size≤sizeLine∧Vals xs its.toList
def absV:Value→Option V
 |.none=>some .non
 |.bool b=>some (.bl b)
 |.int i _=>some (.int i)
 |.str x _=>some (.str x)
 |.bytes b _=>some (.byt b)
 |.float b _=>some (.flt b)
 |.ref a=>some (.ref a)
 |.type n=>some (.ty n)
 |_=>none
theorem RelV.abs{x:V}{u:Value}(r:RelV x u):absV u=some x:=by
 cases x with
 |non=>cases r;rfl
 |bl _=>cases r;rfl
 |int _=>obtain⟨t,rfl⟩:=r;rfl
 |str _=>obtain⟨t,rfl⟩:=r;rfl
 |byt _=>obtain⟨t,rfl⟩:=r;rfl
 |flt _=>obtain⟨t,rfl⟩:=r;rfl
 |ref _=>cases r;rfl
 |ty _=>cases r;rfl
theorem RelV.inj{x y:V}{u:Value}(r:RelV x u)(q:RelV y u):x=y:=Option.some.inj (r.abs.symm.trans q.abs)
theorem Vals.inj:∀ {xs ys:List V} {us:List Value},Vals xs us→Vals ys us→xs=ys
 |_,_,_,.nil,.nil=>rfl
 |_,_,_,.cons r t,.cons r' t'=>by rw[r.inj r',Vals.inj t t']
section
variable {X:Cx}{pins:List (Addr×Obj)}{σ:St}{H:Hp}{s:Shared}{a:Addr}{xs ys:List V}
theorem SqL.of{K:PySem.W.Frag}(h:H a=some (.lst xs)):SqL K H a xs:=.inl (.inl h)
theorem SqT.of{K:PySem.W.Frag}(h:H a=some (.tup xs)):SqT K H a xs:=.inl (.inl h)
theorem Inv.list(I:Inv X pins σ H s)(h:SqL X.K H a xs):∃its:List Value,Vals xs its∧PlainL s.heap a its.toArray∧xs.length≤sizeLine:=by
 rcases h with h|⟨o,its,n,hk,hc,hd,hs,hz,r⟩
 ·obtain⟨z,its,n,r,e⟩:=h.ok I.hok
  exact⟨its,r,⟨_,n,e,rfl,rfl,rfl⟩,z⟩
 ·refine⟨its.toList,r,⟨o,n,I.kIn a o hk,hc,hd,by simpa using hs⟩,?_⟩
  have e:=r.length
  simp only[Array.length_toList] at e
  omega
theorem Inv.tuple(I:Inv X pins σ H s)(h:SqT X.K H a xs):∃its:List Value,Vals xs its∧IsTup s.heap a its.toArray∧xs.length≤sizeLine:=by
 rcases h with h|⟨o,its,n,hk,hc,hs,hz,r⟩
 ·obtain⟨z,its,r,p⟩:=h.ok I.hok
  exact⟨its,r,p,z⟩
 ·refine⟨its.toList,r,⟨o,I.kIn a o hk,hc,n,by simpa using hs⟩,?_⟩
  have e:=r.length
  simp only[Array.length_toList] at e
  omega
theorem Inv.list_inj(I:Inv X pins σ H s)(h:SqL X.K H a xs)(h':SqL X.K H a ys):xs=ys:=by
 obtain⟨its,r,⟨o,n,e,_,_,d⟩,_⟩:=I.list h
 obtain⟨its',r',⟨o',n',e',_,_,d'⟩,_⟩:=I.list h'
 rw[e] at e';cases e'
 rw[d] at d'
 injection d' with d1 _
 have:its=its':=by simpa using congrArg Array.toList d1
 subst this
 exact r.inj r'
end
abbrev Cx.wish(X:Cx)(E:Value→Shared→Prop):Cx:={ X with xe:=E }
abbrev Cx.nox(X:Cx):Cx:=X.wish fun _ _=>False
theorem Cx.Ok.wish{X:Cx}(ok:X.Ok)(E:Value→Shared→Prop):(X.wish E).Ok:=
 ⟨ok.mod,ok.kind,ok.glob,ok.blt,ok.above,ok.inj,ok.has,ok.cab,ok.hd,ok.frames,ok.stk,ok.exf,ok.bs,ok.bsz,ok.noex,ok.exfs,ok.funs,ok.frf⟩
theorem Cx.Ok.unwish{X:Cx}{E:Value→Shared→Prop}(ok:(X.wish E).Ok):X.Ok:=
 ⟨ok.mod,ok.kind,ok.glob,ok.blt,ok.above,ok.inj,ok.has,ok.cab,ok.hd,ok.frames,ok.stk,ok.exf,ok.bs,ok.bsz,ok.noex,ok.exfs,ok.funs,ok.frf⟩
section
variable {X:Cx}{pins:List (Addr×Obj)}{σ:St}{H:Hp}{s:Shared}{E:Value→Shared→Prop}
theorem Inv.wish(I:Inv X pins σ H s)(E:Value→Shared→Prop):Inv (X.wish E) pins σ H s:=⟨I.ok.wish E,I.os,I.bare,I.base,I.loc,I.cell,I.free,I.freeC,I.pin,I.hok,I.len⟩
theorem Inv.unwish(I:Inv (X.wish E) pins σ H s):Inv X pins σ H s:=⟨I.ok.unwish,I.os,I.bare,I.base,I.loc,I.cell,I.free,I.freeC,I.pin,I.hok,I.len⟩
theorem SP.unwish{D:Ends}{f:Flow}{s':Shared}(h:SP (X.wish E) pins D f s'):SP X pins D f s':=by
 cases f with
 |next=>obtain⟨σ',H',I,q⟩:=h;exact⟨σ',H',I.unwish,q⟩
 |brk=>obtain⟨σ',H',I,q⟩:=h;exact⟨σ',H',I.unwish,q⟩
 |cont=>obtain⟨σ',H',I,q⟩:=h;exact⟨σ',H',I.unwish,q⟩
 |ret u=>obtain⟨v,σ',H',I,r,q⟩:=h;exact⟨v,σ',H',I.unwish,r,q⟩
theorem PE.nox{e:Expr}{t:TE}(h:PE X.nox e t):PE X e t:=fun pins s σ H Q I hw=>
 wpAny_mono (h pins s σ H Q (I.wish _) hw) (fun _ _ ⟨v,H',I',r,q⟩=>⟨v,H',I'.unwish,r,q⟩) fun _ _ z=>False.elim z
theorem PT.nox{e:Expr}{t:TT}(h:PT X.nox e t):PT X e t:=fun pins s σ H Q I hw=>
 wpAny_mono (h pins s σ H Q (I.wish _) hw) (fun _ _ ⟨H',I',q⟩=>⟨H',I'.unwish,q⟩) fun _ _ z=>False.elim z
theorem PSs.nox{st:List Stmt}{t:TS}(h:PSs X.nox st t):PSs X st t:=fun pins s σ H D I hw=>
 wpAny_mono (h pins s σ H D (I.wish _) hw) (fun _ _ q=>q.unwish) fun _ _ z=>False.elim z
end
section
variable {X:Cx}{st:Stmt}{rest:List Stmt}{t u:TS}{e:Expr}{te:TE}{pos:Pos}
def tNext:TS:=fun D σ H=>D.nx σ H
def tSeq(t u:TS):TS:=fun D σ H=>t { D with nx:=u D } σ H
theorem pss_nil:PSs X [] tNext:=fun _ _ σ H _ I h=>wpAny_execs_nil ⟨σ,H,I,h⟩
theorem pss_cons(h1:PS X st t)(h2:PSs X rest u):PSs X (st::rest) (tSeq t u):=by
 intro pins s σ H D I h
 refine wpAny_execs_cons (thn (h1 pins s σ H { D with nx:=u D } I h) fun f s1 q=>?_)
 cases f with
 |next=>
  obtain⟨σ',H',I',q⟩:=q
  exact h2 pins s1 σ' H' D I' q
 |ret v=>exact q
 |brk=>exact q
 |cont=>exact q
theorem pss_one(h1:PS X st t):PSs X [st] t:=by
 intro pins s σ H D I h
 refine wpAny_execs_cons (thn (h1 pins s σ H D I h) fun f s1 q=>?_)
 cases f with
 |next=>exact wpAny_execs_nil q
 |ret v=>exact q
 |brk=>exact q
 |cont=>exact q
def tCont:TS:=fun D σ H=>D.ct σ H
theorem ps_continue:PS X (.Continue pos) tCont:=fun _ _ σ H _ I h=>wpAny_Continue ⟨σ,H,I,h⟩
theorem Inv.quiet{pins:List (Addr×Obj)}{σ:St}{H:Hp}{s:Shared}(I:Inv X pins σ H s):interactive X.env=false:=by simp[interactive,I.ok.kind]
def tDrop(te:TE):TS:=fun D σ H=>te σ H fun _ H1=>D.nx σ H1
theorem ps_expr(he:PE X e te)(hs:swapsWith e none pos.line X.env=pure false:=by rfl):PS X (.Expr e pos) (tDrop te):=by
 intro pins s σ H D I h
 exact wpAny_Expr_any (thn (he pins s σ H _ I h) fun v s1 ⟨x,H1,I1,r1,q1⟩=>⟨σ,H1,I1,q1⟩) I.quiet hs
def tRet(te:TE):TS:=fun D σ H=>te σ H D.rt
theorem ps_ret(he:PE X e te):PS X (.Return (some e) pos) (tRet te):=by
 intro pins s σ H D I h
 exact wpAny_Return_some (thn (he pins s σ H _ I h) fun v s1 ⟨x,H1,I1,r1,q1⟩=>⟨x,σ,H1,I1,r1,q1⟩)
def tIfS(c:TT)(t u:TS):TS:=fun D σ H=>c σ H fun b H1=>if b=true then t D σ H1 else u D σ H1
theorem ps_if{c:Expr}{a b:List Stmt}{tc:TT}(hc:PT X c tc)(ha:PSs X a t)(hb:PSs X b u):PS X (.If c a b pos) (tIfS tc t u):=by
 intro pins s σ H D I h
 refine wpAny_If (thn (hc pins s σ H _ I h) fun d s1 ⟨H1,I1,q1⟩=>?_)
 cases d with
 |true=>exact ha pins s1 σ H1 D I1 q1
 |false=>exact hb pins s1 σ H1 D I1 q1
end
abbrev TG:=V→St→Hp→(St→Hp→Prop)→Prop
def PG(X:Cx)(target:Expr)(t:TG):Prop:=
 ∀(pins:List (Addr×Obj)) (s:Shared) (σ:St) (H:Hp) (v:V) (u:Value) (Q:St→Hp→Prop),Inv X pins σ H s→RelV v u→t v σ H Q→
  wpAny (model X.prog X.w) X.A (assign target X.env u) (fun _ s'=>∃σ' H',Inv X pins σ' H' s'∧Q σ' H') X.xe s
abbrev TIp:=V→V→Hp→VK→Prop
def PIp(X:Cx)(op:Operator)(t:TIp):Prop:=
 ∀(pins:List (Addr×Obj)) (s:Shared) (σ:St) (H:Hp) (x y:V) (v u:Value) (Q:VK),Inv X pins σ H s→RelV x v→RelV y u→t x y H Q→
  wpAny (model X.prog X.w) X.A (inplaceOp op v u) (EP X pins σ Q) X.xe s
section
variable {X:Cx}{pos:Pos}
def gName(i:Nat):TG:=fun v σ H Q=>Q (σ.set i (some v)) H
theorem zn8{i:Nat}{x:Str}(hN:X.N.Nodup)(hi:X.N[i]? = some x)(hx:Loc X.env.scope x)(hf:X.fn x=true∨X.env.scope.names.lookup x=some .local:=by first|exact .inl rfl|exact .inr rfl|assumption):PG X (.Name x pos) (gName i):=by
 intro pins s σ H v u Q I r h
 exact wpAny_assign_Name (yl2 I hN hi hx r (fun s' I'=>⟨_,H,I',h⟩) hf)
def tAsg(te:TE)(g:TG):TS:=fun D σ H=>te σ H fun x H1=>g x σ H1 D.nx
theorem ps_set{i:Nat}{x:Str}{e:Expr}{te:TE}{pos':Pos}(hN:X.N.Nodup)(hi:X.N[i]? = some x)(hx:Loc X.env.scope x)(he:PE X e te)(hs:swapsWith e (some (.Name x pos')) pos.line X.env=pure false:=by rfl)(hf:X.fn x=true∨X.env.scope.names.lookup x=some .local:=by first|exact .inl rfl|exact .inr rfl|assumption):
  PS X (.Assign [.Name x pos'] e pos) (tAsg te (gName i)):=by
 intro pins s σ H D I h
 refine wpAny_Assign_Name (thn (he pins s σ H _ I h) fun v s1 ⟨y,H1,I1,r1,q1⟩=>?_) hs
 exact yl2 I1 hN hi hx r1 (fun s2 I2=>⟨_,H1,I2,q1⟩) hf
def tAug(i:Nat)(te:TE)(ti:TIp):TS:=fun D σ H=>∃x,σ[i]? = some (some x)∧te σ H fun y H1=>ti x y H1 fun z H2=>D.nx (σ.set i (some z)) H2
theorem ps_aug{i:Nat}{x:Str}{e:Expr}{te:TE}{op:Operator}{ti:TIp}{pos':Pos}(hN:X.N.Nodup)(hi:X.N[i]? = some x)(hx:Loc X.env.scope x)(he:PE X e te)(ho:PIp X op ti)(hf:X.fn x=true∨X.env.scope.names.lookup x=some .local:=by first|exact .inl rfl|exact .inr rfl|assumption):
  PS X (.AugAssign (.Name x pos') op e pos) (tAug i te ti):=by
 intro pins s σ H D I h
 obtain⟨v,e1,h⟩:=h
 obtain⟨m,hn,hl⟩:=I.loc
 have vis:Vis X.env.scope x:=by rcases hx with k|k;exact .inl k;exact .inr (.inl k)
 obtain⟨u,r,l⟩:=hl i x v hi e1 vis
 refine wpAny_AugAssign_Name ?_
 have go:wpAny (model X.prog X.w) X.A (eval e X.env) (fun w s₂=>wpAny (model X.prog X.w) X.A (inplaceOp op u w) (fun r s₃=>wpAny (model X.prog X.w) X.A (storeName X.env x r) (fun _=>SP X pins D .next) X.xe s₃) X.xe s₂) X.xe s:=by
  refine thn (he pins s σ H _ I h) fun w s1 ⟨y,H1,I1,r1,q1⟩=>?_
  refine thn (ho pins s1 σ H1 v y u w _ I1 r r1 q1) fun z s2 ⟨zv,H2,I2,r2,q2⟩=>?_
  exact yl2 I2 hN hi hx r2 (fun s3 I3=>⟨_,H2,I3,q2⟩) hf
 rcases l with⟨hk,hm⟩|⟨hk,c,hc,hcell⟩
 ·exact wpAny_loadName_local I.ok.kind hk hn hm go
 ·rcases hk with hk|hk
  ·exact wpAny_loadName_cell I.ok.kind hk hc hcell go
  ·rcases hx with k|k
   ·have:X.env.scope.names.lookup x=some .free:=hk
    rw[k] at this;cases this
   ·have:X.env.scope.names.lookup x=some .free:=hk
    rw[k] at this;cases this
def ipI(f:Int→Int→Int):TIp:=fun x y H Q=>∃i j,x=.int i∧y=.int j∧Q (.int (f i j)) H
theorem ip_add:PIp X .Add (ipI fun i j=>i+j):=by
 intro pins s σ H x y v u Q I r1 r2 h
 obtain⟨i,j,e1,e2,q⟩:=h
 subst e1;subst e2
 obtain⟨t,rfl⟩:=r1
 obtain⟨t',rfl⟩:=r2
 exact iadd_int ⟨.int _,H,I.tok _,⟨_,rfl⟩,q⟩
theorem ip_sub:PIp X .Sub (ipI fun i j=>i - j):=by
 intro pins s σ H x y v u Q I r1 r2 h
 obtain⟨i,j,e1,e2,q⟩:=h
 subst e1;subst e2
 obtain⟨t,rfl⟩:=r1
 obtain⟨t',rfl⟩:=r2
 exact isub_int ⟨.int _,H,I.tok _,⟨_,rfl⟩,q⟩
end
section
variable {X:Cx}{pos:Pos}
def tWhile(c:TT)(tb:TS):TS:=fun D σ H=>∃W:Nat→St→Hp→Prop,(∃m,W m σ H)∧∀m σ H,W m σ H→
 c σ H fun b H1=>if b=true then ∃N:St→Hp→Prop,(∀σ' H',N σ' H'→∃m',m'<m∧W m' σ' H')∧tb { D with nx:=N,ct:=N,bk:=D.nx } σ H1 else D.nx σ H1
theorem ps_while{c:Expr}{body:List Stmt}{tc:TT}{tb:TS}(hp:PassesOwn (model X.prog X.w) X.A X.env X.xe)(hc:PT X c tc)(hb:PSs X body tb):PS X (.While c body [] pos) (tWhile tc tb):=by
 intro pins s σ H D I h
 obtain⟨W,⟨m0,w0⟩,turn⟩:=h
 refine wpAny_While (codeAny_whileLoop (fun n s'=>∃σ' H',Inv X pins σ' H' s'∧W n σ' H') ?_ m0 ⟨σ,H,I,w0⟩)
 rintro n s1 ⟨σ1,H1,I1,w1⟩
 refine wpAny_passesOwn hp (thn (hc pins s1 σ1 H1 _ I1 (turn n σ1 H1 w1)) fun b s2 ⟨H2,I2,q2⟩=>?_)
 cases b with
 |true=>
  obtain⟨N,hN,q2⟩:=q2
  rw[if_pos rfl]
  refine wpAny_passesOwn hp (thn (hb pins s2 σ1 H2 _ I2 q2) fun f s3 q3=>?_)
  cases f with
  |next=>
   obtain⟨σ3,H3,I3,n3⟩:=q3
   obtain⟨m',hm,w3⟩:=hN σ3 H3 n3
   exact⟨m',hm,σ3,H3,I3,w3⟩
  |cont=>
   obtain⟨σ3,H3,I3,n3⟩:=q3
   obtain⟨m',hm,w3⟩:=hN σ3 H3 n3
   exact⟨m',hm,σ3,H3,I3,w3⟩
  |brk=>exact q3
  |ret v=>exact q3
 |false=>
  rw[if_neg Bool.false_ne_true]
  exact wpAny_execs_nil ⟨σ1,H2,I2,q2⟩
end
structure It where
 go:Nat→Hp→Prop
 yld:Nat→Hp→V→Hp→Prop
 stop:Nat→Hp→Prop
def FpOk(X:Cx)(pins:List (Addr×Obj))(H:Hp)(b:Addr):Prop:=
 H b=none∧b≠X.env.locals∧b∉X.fs∧(b∈X.ex∨X.s₀.heap.objs.size≤b)∧(∀x c,X.env.cells.lookup x=some c→c≠b)∧∀p∈X.pn++pins,p.1≠b
theorem Inv.fpOk{X:Cx}{pins:List (Addr×Obj)}{σ:St}{H H':Hp}{s:Shared}{b:Addr}(I:Inv X pins σ H s)(hb:s.heap.objs.size≤b)(hn:H' b=none):FpOk X pins H' b:=by
 refine⟨hn,Nat.ne_of_gt (Nat.lt_of_lt_of_le I.lt hb),I.nofs hb,.inr (Nat.le_trans I.sz hb),fun x c e z=>?_,fun p hp z=>?_⟩
 ·obtain⟨v,q⟩:=I.cell x c e
  exact absurd (Nat.lt_of_lt_of_le q.lt (by rw[z];exact hb)) (Nat.lt_irrefl _)
 ·exact absurd (Nat.lt_of_lt_of_le (Heap.lt_size (I.pin p hp).1) (by rw[z];exact hb)) (Nat.lt_irrefl _)
structure Turn (P : Program) (w : World) (K : PySem.W.Frag) (tg : Expr) (J : It) (fp : List Addr) (it : Addr) (tn : Nat → Heap → Prop) : Prop where
  mem : it ∈ fp
  obj : ∀ i h, tn i h → ∀ b ∈ fp, ∃ o, h.get? b = some o ∧ ∀ v, o.data ≠ .cell v
  keep : ∀ i h h', tn i h → (∀ b ∈ fp, ∀ o, h.get? b = some o → h'.get? b = some o) → tn i h'
  item : ∀ (X : Cx), X.prog = P → X.w = w → X.K = K → X.calm = true → ∀ (i : Nat) (pins : List (Addr × Obj)) (s : Shared) (σ : St) (H : Hp) (E : Value → Shared → Prop), Inv X pins σ H s → (∀ b ∈ fp, FpOk X pins H b) → tn i s.heap → J.go i H →
    wpAny (model P w) X.A (pyNext (.ref it)) (fun r s1 => ∃ u, r = some u ∧
      wpAny (model P w) X.A (letOwnedTupleGo tg (.ref it) u) (fun _ s2 => ∃ x H', Inv X pins σ H' s2 ∧ RelV x u ∧ J.yld i H x H' ∧ tn (i + 1) s2.heap ∧ ∀ b ∈ fp, H' b = none) E s1) E s
  done : ∀ (X : Cx), X.prog = P → X.w = w → X.K = K → X.calm = true → ∀ (i : Nat) (pins : List (Addr × Obj)) (s : Shared) (σ : St) (H : Hp) (E : Value → Shared → Prop), Inv X pins σ H s → (∀ b ∈ fp, FpOk X pins H b) → tn i s.heap → J.stop i H →
    wpAny (model P w) X.A (pyNext (.ref it)) (fun r s1 => r = none ∧ Inv X pins σ H s1) E s
  self : ∀ (A : Around) (i : Nat) (s : Shared) (Q : Value → Shared → Prop) (E : Value → Shared → Prop), tn i s.heap → Q (.ref it) s → wpAny (model P w) A (pyIter (.ref it)) Q E s
abbrev TI:=St→Hp→(It→Hp→Prop)→Prop
def PIE(X:Cx)(pins:List (Addr×Obj))(σ:St)(tg:Expr)(R:It→Hp→Prop)(itv:Value)(s2:Shared):Prop:=
 ∃(it:Addr) (fp:List Addr) (tn:Nat→Heap→Prop) (J:It) (H':Hp),itv=.ref it∧Inv X pins σ H' s2∧Turn X.prog X.w X.K tg J fp it tn∧tn 0 s2.heap∧(∀b∈fp,FpOk X pins H' b)∧R J H'
def PI(X:Cx)(tg iter:Expr)(wi:TI):Prop:=
 ∀(pins:List (Addr×Obj)) (s:Shared) (σ:St) (H:Hp) (R:It→Hp→Prop),Inv X pins σ H s→wi σ H R→
  wpAny (model X.prog X.w) X.A (eval iter X.env) (fun v s1=>wpAny (model X.prog X.w) X.A (pyIter v) (PIE X pins σ tg R) X.xe s1) X.xe s
theorem go_of {M : Model} {A : Around} {E : Value → Shared → Prop} {s : Shared} {tg : Expr} {it : Addr} {u : Value} {o : Obj} {n : String} {vs : Array Value} {Q : Unit → Shared → Prop} (ho : s.heap.get? it = some o) (hc : o.cls = .type n) (hd : o.data = .fields vs)
    (hn : ["enumerate", "zip", "dict_itemiterator", "dict_reverseitemiterator", "odict_iterator", "itertools.zip_longest", "itertools.pairwise"].contains n = false) (hQ : Q () s) : wpAny M A (letOwnedTupleGo tg (.ref it) u) Q E s := by
  unfold letOwnedTupleGo
  cases tg <;> first
    | exact wpAny_pure hQ
    | (cases u <;> first
        | exact wpAny_pure hQ
        | (refine wpAny_bind (wpAny_load ho ?_)
           rw [hc, hd]
           show wpAny M A (if (["enumerate", "zip", "dict_itemiterator", "dict_reverseitemiterator", "odict_iterator", "itertools.zip_longest", "itertools.pairwise"].contains n && vs[0]? == some (rawInt _)) = true then _ else _) Q E s
           rw [if_neg (by intro h; rw [hn, Bool.false_and] at h; cases h)]
           exact wpAny_pure hQ))
def Itl(K:PySem.W.Frag)(a:Addr):It:=
 ⟨fun i H=>∃xs x,SqL K H a xs∧xs[i]? = some x,fun i H x H'=>H'=H∧∀xs,SqL K H a xs→xs[i]? = some x,fun i H=>∃xs,SqL K H a xs∧xs.length≤i⟩
theorem turn_list {P : Program} {w : World} {K : PySem.W.Frag} {tg : Expr} (a it : Addr) : Turn P w K tg (Itl K a) [it] it (fun i h => h.IsListIter it a i) where
  mem := by simp
  obj := fun i h st b hb => by
    have e : b = it := by simpa using hb
    subst e
    obtain ⟨o, e, c, d⟩ := st
    exact ⟨o, e, fun v z => by rw [d] at z; cases z⟩
  keep := fun i h h' st k => st.at fun o e => k it (by simp) o e
  item := by
    intro X hP hw hK hc i pins s σ H E I hf st hg
    subst hP hw hK
    obtain ⟨xs, x, hq, hx⟩ := hg
    obtain ⟨its, rv, p, hz⟩ := I.list hq
    obtain ⟨u, hu, ru⟩ := rv.get hx
    obtain ⟨f0, f1, f2, f3, f4, f5⟩ := hf it (by simp)
    refine wpAny_pyNext_list_item st p.isList (x := u) (by simpa using hu) fun h' st' sb => ?_
    have I1 : Inv X pins σ H { s with heap := h' } := I.turned (t' := s.toks) (fun b o hb e => (sb.2 b hb).trans e) f0 f1 f3 f4 f5
    obtain ⟨o, e, c, d⟩ := id st'
    exact ⟨u, rfl, go_of (s := { s with heap := h' }) e c d (by decide) ⟨x, H, I1, ru, ⟨rfl, fun ys hy => by rw [I.list_inj hy hq]; exact hx⟩, st', fun b hb => (hf b hb).1⟩⟩
  done := by
    intro X hP hw hK hc i pins s σ H E I hf st hg
    subst hP hw hK
    obtain ⟨xs, hq, hx⟩ := hg
    obtain ⟨its, rv, p, hz⟩ := I.list hq
    obtain ⟨f0, f1, f2, f3, f4, f5⟩ := hf it (by simp)
    have hl := rv.length
    exact wpAny_pyNext_list_end (I.ok.hd hc) st p.isList (by simp; omega) fun h' eb => ⟨rfl, I.turned (t' := s.toks) (fun b o hb e => eb b o hb e) f0 f1 f3 f4 f5⟩
  self := fun _ _ _ _ _ st h => wpAny_pyIter_listiter st h
section
variable {X:Cx}{tg:Expr}
def iList(K:PySem.W.Frag)(tl:TE):TI:=fun σ H R=>tl σ H fun x H1=>∃a,x=.ref a∧(∃xs,SqL K H1 a xs)∧R (Itl K a) H1
theorem pi_list{l:Expr}{tl:TE}(hl:PE X l tl):PI X tg l (iList X.K tl):=by
 intro pins s σ H R I h
 refine thn (hl pins s σ H _ I h) fun v s1 ⟨x,H1,I1,r1,q1⟩=>?_
 obtain⟨a,e,⟨xs,hq⟩,q⟩:=q1
 subst e
 cases r1
 obtain⟨its,rv,p,hz⟩:=I1.list hq
 refine wpAny_pyIter_list p.isList ?_
 refine⟨s1.heap.objs.size,[s1.heap.objs.size],_,_,H1,rfl,I1.kept (t':=s1.toks) fun b o e=>Heap.get?_push_of_some _ e,turn_list a _,⟨_,Heap.get?_push_size _ rfl,rfl,rfl⟩,fun b hb=>?_,q⟩
 have e:b=s1.heap.objs.size:=by simpa using hb
 subst e
 exact I1.fpOk (Nat.le_refl _) (I1.hok.fresh (Nat.le_refl _))
def tFor(wi:TI)(g:TG)(tb:TS):TS:=fun D σ H=>wi σ H fun J H1=>∃W:Nat→Nat→St→Hp→Prop,(∃m,W 0 m σ H1)∧∀i m σ H,W i m σ H→
 (J.stop i H∧D.nx σ H)∨(J.go i H∧∃N:St→Hp→Prop,(∀σ' H',N σ' H'→∃m',m'<m∧W (i+1) m' σ' H')∧∀x H',J.yld i H x H'→g x σ H' fun σ2 H2=>tb { D with nx:=N,ct:=N,bk:=D.nx } σ2 H2)
def pinsAt(fp:List Addr)(h:Heap):List (Addr×Obj):=fp.filterMap fun b=>(h.get? b).map fun o=>(b,o)
theorem zt9{fp:List Addr}{h:Heap}{b:Addr}{o:Obj}(hb:b∈fp)(e:h.get? b=some o):(b,o)∈pinsAt fp h:=List.mem_filterMap.mpr ⟨b,hb,by rw[e];rfl⟩
theorem of_pinsAt{fp:List Addr}{h:Heap}{p:Addr×Obj}(hp:p∈pinsAt fp h):p.1∈fp∧h.get? p.1=some p.2:=by
 obtain⟨b,hb,e⟩:=List.mem_filterMap.mp hp
 cases q:h.get? b with
 |none=>rw[q] at e;cases e
 |some o=>
  rw[q] at e
  have e':(b,o)=p:=Option.some.inj e
  subst e'
  exact⟨hb,q⟩
theorem Inv.pinned{pins:List (Addr×Obj)}{σ:St}{H:Hp}{s:Shared}{fp:List Addr}(I:Inv X pins σ H s)(hf:∀b∈fp,FpOk X pins H b)(ho:∀b∈fp,∃o,s.heap.get? b=some o∧∀v,o.data≠.cell v):Inv X (pins++pinsAt fp s.heap) σ H s:=
 I.pins_of fun p hp=>(List.mem_append.mp hp).elim (fun z=>I.pin p (List.mem_append_right _ z)) fun z=>by
  obtain⟨hb,e⟩:=of_pinsAt z
  obtain⟨f0,f1,f2,_⟩:=hf p.1 hb
  obtain⟨o,e',d⟩:=ho p.1 hb
  rw[e] at e';cases e'
  exact⟨e,f0,f1,f2,d⟩
theorem Inv.unpinned{pins pl:List (Addr×Obj)}{σ:St}{H:Hp}{s:Shared}(I:Inv X (pins++pl) σ H s):Inv X pins σ H s:=I.pins_of fun p hp=>I.pin p (List.mem_append_right _ (List.mem_append_left _ hp))
theorem ps_for{iter:Expr}{body:List Stmt}{wi:TI}{g:TG}{tb:TS}{pos:Pos}(hp:PassesOwn (model X.prog X.w) X.A X.env X.xe)(hc:X.calm=true)(hi:PI X tg iter wi)(hg:PG X tg g)(hb:PSs X body tb)
  (hs:∀x,foldedSetIterable iter X.env x=pure x:=by intro _;rfl):PS X (.For tg iter body [] pos) (tFor wi g tb):=by
 intro pins s σ H D I h
 refine wpAny_For (thn (hi pins s σ H _ I h) fun v s1 h1=>thn h1 fun itv s2 h2=>?_) hs
 obtain⟨it,fp,tn,J,H2,e,I2,T,st2,f2,W,⟨m0,w0⟩,turn⟩:=h2
 subst e
 have stat:∀ {H':Hp},(∀b∈fp,H' b=none)→∀b∈fp,FpOk X pins H' b:=fun hn b hb=>⟨hn b hb,(f2 b hb).2⟩
 refine codeAny_forLoop_any (fun n s'=>∃i σ' H',Inv X pins σ' H' s'∧tn i s'.heap∧(∀b∈fp,H' b=none)∧W i n σ' H') ?_ m0 ⟨0,σ,H2,I2,st2,fun b hb=>(f2 b hb).1,w0⟩
 rintro n s3 ⟨i,σ3,H3,I3,st3,fr3,w3⟩
 rcases turn i n σ3 H3 w3 with⟨stop,qn⟩|⟨go,N,hN,step⟩
 ·refine wpAny_passesOwn hp (thn (T.done X rfl rfl rfl hc i pins s3 σ3 H3 X.xe I3 (stat fr3) st3 stop) fun r s4 ⟨hr,I4⟩=>?_)
  subst hr
  exact wpAny_execs_nil ⟨σ3,H3,I4,qn⟩
 ·refine wpAny_passesOwn hp (thn (T.item X rfl rfl rfl hc i pins s3 σ3 H3 X.xe I3 (stat fr3) st3 go) fun r s4 ⟨u,hr,h4⟩=>?_)
  subst hr
  refine wpAny_passesOwn hp (thn h4 fun _ s5 ⟨x,H5,I5,r5,y5,st5,fr5⟩=>?_)
  have I5':=I5.pinned (stat fr5) (T.obj _ _ st5)
  refine wpAny_passesOwn hp (thn (hg _ s5 σ3 H5 x u _ I5' r5 (step x H5 y5)) fun _ s6 ⟨σ6,H6,I6,q6⟩=>?_)
  refine wpAny_passesOwn hp (thn (hb _ s6 σ6 H6 _ I6 q6) fun f s7 q7=>?_)
  have again:∀ {σ7:St} {H7:Hp},Inv X (pins++pinsAt fp s5.heap) σ7 H7 s7→N σ7 H7→∃m,m<n∧∃i σ' H',Inv X pins σ' H' s7∧tn i s7.heap∧(∀b∈fp,H' b=none)∧W i m σ' H':=fun {σ7 H7} I7 n7=>by
   obtain⟨m',hm,w7⟩:=hN σ7 H7 n7
   refine⟨m',hm,i+1,σ7,H7,I7.unpinned,T.keep _ _ _ st5 fun b hb o e=>(I7.pin (b,o) (List.mem_append_right _ (List.mem_append_right _ (zt9 hb e)))).1,fun b hb=>?_,w7⟩
   obtain⟨o,e,d⟩:=T.obj _ _ st5 b hb
   exact(I7.pin (b,o) (List.mem_append_right _ (List.mem_append_right _ (zt9 hb e)))).2.1
  cases f with
  |next=>obtain⟨σ7,H7,I7,n7⟩:=q7;exact again I7 n7
  |cont=>obtain⟨σ7,H7,I7,n7⟩:=q7;exact again I7 n7
  |brk=>obtain⟨σ7,H7,I7,q7⟩:=q7;exact⟨σ7,H7,I7.unpinned,q7⟩
  |ret v=>obtain⟨x7,σ7,H7,I7,r7,q7⟩:=q7;exact⟨x7,σ7,H7,I7.unpinned,r7,q7⟩
end
theorem yc2{K:PySem.W.Frag}{a:Addr}{xs:List V}{g:TG}{tb:TS}{D:Ends}{σ:St}{H:Hp}(Pv:Nat→St→Hp→Prop)(h0:Pv 0 σ H)(hl:∀i σ H,i≤xs.length→Pv i σ H→SqL K H a xs)
  (hs:∀i x σ H,xs[i]? = some x→Pv i σ H→g x σ H fun σ2 H2=>tb { D with nx:=Pv (i+1),ct:=Pv (i+1),bk:=D.nx } σ2 H2) (hd:∀σ H,Pv xs.length σ H→D.nx σ H):
  ∃W:Nat→Nat→St→Hp→Prop,(∃m,W 0 m σ H)∧∀i m σ H,W i m σ H→
   ((Itl K a).stop i H∧D.nx σ H)∨((Itl K a).go i H∧∃N:St→Hp→Prop,(∀σ' H',N σ' H'→∃m',m'<m∧W (i+1) m' σ' H')∧∀x H',(Itl K a).yld i H x H'→g x σ H' fun σ2 H2=>tb { D with nx:=N,ct:=N,bk:=D.nx } σ2 H2):=by
 refine⟨fun i m σ H=>m=xs.length - i∧i≤xs.length∧Pv i σ H,⟨xs.length,by simp,Nat.zero_le _,h0⟩,?_⟩
 rintro i m σ H ⟨rfl,hi,p⟩
 have q:=hl i σ H hi p
 by_cases hlt:i<xs.length
 ·refine .inr ⟨⟨xs,xs[i],q,by simp[hlt]⟩,Pv (i+1),fun σ' H' p'=>⟨xs.length - (i+1),by omega,rfl,hlt,p'⟩,fun x H' y=>?_⟩
  obtain⟨e,y⟩:=y
  subst e
  exact hs i x σ _ (y xs q) p
 ·have e:i=xs.length:=by omega
  subst e
  exact .inl ⟨⟨xs,q,Nat.le_refl _⟩,hd σ H p⟩
abbrev R2:=V→V→Hp→VK→Prop
def OpR(X:Cx)(f:Value→Value→Sem Value)(r:R2):Prop:=
 ∀(pins:List (Addr×Obj)) (s:Shared) (σ:St) (H:Hp) (x y:V) (v u:Value) (Q:VK),Inv X pins σ H s→RelV x v→RelV y u→r x y H Q→
  wpAny (model X.prog X.w) X.A (f v u) (EP X pins σ Q) X.xe s
def UnR(X:Cx)(f:Value→Sem Value)(r:V→Hp→VK→Prop):Prop:=
 ∀(pins:List (Addr×Obj)) (s:Shared) (σ:St) (H:Hp) (x:V) (v:Value) (Q:VK),Inv X pins σ H s→RelV x v→r x H Q→
  wpAny (model X.prog X.w) X.A (f v) (EP X pins σ Q) X.xe s
def CallR(X:Cx)(f:Value)(r:List V→Hp→VK→Prop):Prop:=
 ∀(pins:List (Addr×Obj)) (s:Shared) (σ:St) (H:Hp) (xs:List V) (us:List Value) (Q:VK),Inv X pins σ H s→Vals xs us→r xs H Q→
  wpAny (model X.prog X.w) X.A (call f us) (EP X pins σ Q) X.xe s
def TruR(X:Cx)(r:V→Hp→(Bool→Hp→Prop)→Prop):Prop:=
 ∀(pins:List (Addr×Obj)) (s:Shared) (σ:St) (H:Hp) (x:V) (v:Value) (Q:Bool→Hp→Prop),Inv X pins σ H s→RelV x v→r x H Q→
  wpAny (model X.prog X.w) X.A (truthy v) (TP X pins σ Q) X.xe s
def tOp(r:R2)(ta tb:TE):TE:=fun σ H Q=>ta σ H fun x H1=>tb σ H1 fun y H2=>r x y H2 Q
def tUn(r:V→Hp→VK→Prop)(ta:TE):TE:=fun σ H Q=>ta σ H fun x H1=>r x H1 Q
def rI(C:Int→Int→Prop)(g:Int→Int→V):R2:=fun x y H Q=>∃i j,x=.int i∧y=.int j∧C i j∧Q (g i j) H
def rI0(g:Int→Int→V):R2:=fun x y H Q=>∃i j,x=.int i∧y=.int j∧Q (g i j) H
def rU(g:Int→V):V→Hp→VK→Prop:=fun x H Q=>∃i,x=.int i∧Q (g i) H
section
variable {X:Cx}{a b c:Expr}{ta tb tc:TE}{pos:Pos}
theorem binT(ha:PE X a ta)(hb:PE X b tb){pins:List (Addr×Obj)}{s:Shared}{σ:St}{H:Hp}{R:V→V→Hp→Prop}(I:Inv X pins σ H s)
  (h:ta σ H fun x H1=>tb σ H1 fun y H2=>R x y H2) {Q:Value→Shared→Prop} {f:Value→Value→Sem Value}
  (hf:∀v u s2 x y H2,Inv X pins σ H2 s2→RelV x v→RelV y u→R x y H2→wpAny (model X.prog X.w) X.A (f v u) Q X.xe s2):
  wpAny (model X.prog X.w) X.A (eval a X.env) (fun v s₁=>wpAny (model X.prog X.w) X.A (eval b X.env) (fun u s₂=>wpAny (model X.prog X.w) X.A (f v u) Q X.xe s₂) X.xe s₁) X.xe s:=by
 refine thn (ha pins s σ H _ I h) fun v s1 ⟨x,H1,I1,r1,q1⟩=>?_
 refine thn (hb pins s1 σ H1 _ I1 q1) fun u s2 ⟨y,H2,I2,r2,q2⟩=>?_
 exact hf v u s2 x y H2 I2 r1 r2 q2
theorem pe_op{op:Operator}{r:R2}(ho:OpR X (binaryOp op) r)(ha:PE X a ta)(hb:PE X b tb):PE X (.BinOp a op b pos) (tOp r ta tb):=by
 intro pins s σ H Q I h
 exact wpAny_BinOp (binT ha hb I h fun v u s2 x y H2 I2 rx ry q=>ho pins s2 σ H2 x y v u Q I2 rx ry q)
theorem pe_un{op:UnaryOp}{r:V→Hp→VK→Prop}(ho:UnR X (unaryOp op) r)(ha:PE X a ta):PE X (.UnaryOp op a pos) (tUn r ta):=by
 intro pins s σ H Q I h
 exact UnaryOp_ (thn (ha pins s σ H _ I h) fun v s1 ⟨x,H1,I1,r1,q1⟩=>ho pins s1 σ H1 x v Q I1 r1 q1)
theorem opI{f:Value→Value→Sem Value}{C:Int→Int→Prop}{g:Int→Int→Int}
  (rule:∀(i j:Int) (t u:Tok) (s:Shared) (Q:Value→Shared→Prop) (E:Value→Shared→Prop),C i j→Q (.int (g i j) s.toks) { s with toks:=s.toks+1 }→wpAny (model X.prog X.w) X.A (f (.int i t) (.int j u)) Q E s):
  OpR X f (rI C fun i j=>.int (g i j)):=by
 intro pins s σ H x y v u Q I rx ry h
 obtain⟨i,j,rfl,rfl,hc,q⟩:=h
 obtain⟨t,rfl⟩:=rx
 obtain⟨t',rfl⟩:=ry
 exact rule i j t t' s _ _ hc ⟨.int (g i j),H,I.tok _,⟨_,rfl⟩,q⟩
theorem opI0{f:Value→Value→Sem Value}{g:Int→Int→Int}
  (rule:∀(i j:Int) (t u:Tok) (s:Shared) (Q:Value→Shared→Prop) (E:Value→Shared→Prop),Q (.int (g i j) s.toks) { s with toks:=s.toks+1 }→wpAny (model X.prog X.w) X.A (f (.int i t) (.int j u)) Q E s):
  OpR X f (rI0 fun i j=>.int (g i j)):=by
 intro pins s σ H x y v u Q I rx ry h
 obtain⟨i,j,rfl,rfl,q⟩:=h
 obtain⟨t,rfl⟩:=rx
 obtain⟨t',rfl⟩:=ry
 exact rule i j t t' s _ _ ⟨.int (g i j),H,I.tok _,⟨_,rfl⟩,q⟩
theorem opB0{f:Value→Value→Sem Value}{g:Int→Int→Bool}
  (rule:∀(i j:Int) (t u:Tok) (s:Shared) (Q:Value→Shared→Prop) (E:Value→Shared→Prop),Q (.bool (g i j)) s→wpAny (model X.prog X.w) X.A (f (.int i t) (.int j u)) Q E s):
  OpR X f (rI0 fun i j=>.bl (g i j)):=by
 intro pins s σ H x y v u Q I rx ry h
 obtain⟨i,j,rfl,rfl,q⟩:=h
 obtain⟨t,rfl⟩:=rx
 obtain⟨t',rfl⟩:=ry
 exact rule i j t t' s _ _ ⟨.bl (g i j),H,I,rfl,q⟩
def CDiv(i j:Int):Prop:=0<j∧j<1073741824
def CMul(i j:Int):Prop:=(-(2 ^ 64)<i∧i<2 ^ 64)∨(-(2 ^ 64)<j∧j<2 ^ 64)
theorem CMul.ok{i j:Int}(h:CMul i j):IntMulOk i j:=by
 rcases h with⟨h1,h2⟩|⟨h1,h2⟩
 ·exact .of_left (intBits_le_64 h1 h2)
 ·exact .of_right (intBits_le_64 h1 h2)
theorem zk6:OpR X (binaryOp .Add) (rI0 fun i j=>.int (i+j)):=opI0 fun _ _ _ _ _ _ _ q=>add_int q
theorem yj5:OpR X (binaryOp .Sub) (rI0 fun i j=>.int (i - j)):=opI0 fun _ _ _ _ _ _ _ q=>sub_int q
theorem yj6:OpR X (binaryOp .Mult) (rI CMul fun i j=>.int (i*j)):=opI fun _ _ _ _ _ _ _ hc q=>mul_int q hc.ok
theorem zu7:OpR X (binaryOp .FloorDiv) (rI CDiv fun i j=>.int (i / j)):=opI fun i j _ _ _ _ _ hc q=>by
 have h1:(0:Int)<j:=hc.1
 have h2:j<1073741824:=hc.2
 exact floordiv_int (by omega) (by rw[Int.fdiv_eq_ediv_of_nonneg i (by omega)];exact q) (.inl (PyProof.noPylong_small (by omega)))
theorem zo8:OpR X (binaryOp .Mod) (rI (fun _ j=>0<j) fun i j=>.int (i % j)):=opI fun i j _ _ _ _ _ hc q=>by
 have h1:(0:Int)<j:=hc
 exact mod_int' (by omega) (by rw[Int.fmod_eq_emod_of_nonneg i (by omega)];exact q)
theorem unI{f:Value→Sem Value}{g:Int→Int}
  (rule:∀(i:Int) (t:Tok) (s:Shared) (Q:Value→Shared→Prop) (E:Value→Shared→Prop),Q (.int (g i) s.toks) { s with toks:=s.toks+1 }→wpAny (model X.prog X.w) X.A (f (.int i t)) Q E s):
  UnR X f (rU fun i=>.int (g i)):=by
 intro pins s σ H x v Q I rx h
 obtain⟨i,rfl,q⟩:=h
 obtain⟨t,rfl⟩:=rx
 exact rule i t s _ _ ⟨.int (g i),H,I.tok _,⟨_,rfl⟩,q⟩
theorem yc6:UnR X (unaryOp .USub) (rU fun i=>.int (-i)):=unI fun _ _ _ _ _ q=>neg_int q
end
def scal:V→V→Bool
 |.non,.non=>true|.non,.int _=>true|.int _,.non=>true|.non,.bl _=>true|.bl _,.non=>true|.non,.str _=>true|.str _,.non=>true
 |.int _,.int _=>true|.bl _,.bl _=>true|.str _,.str _=>true|.byt _,.byt _=>true
 |.int _,.str _=>true|.str _,.int _=>true|.bl _,.str _=>true|.str _,.bl _=>true
 |_,_=>false
def rEq:R2:=fun x y H Q=>scal x y=true∧Q (.bl (decide (x=y))) H
def rNe:R2:=fun x y H Q=>scal x y=true∧Q (.bl (!decide (x=y))) H
theorem dec_int{i j:Int}:decide (V.int i=V.int j)=(i==j):=by
 rw[Bool.eq_iff_iff]
 simp
theorem dec_bl{i j:Bool}:decide (V.bl i=V.bl j)=(i==j):=by
 rw[Bool.eq_iff_iff]
 simp
theorem dec_str{i j:Str}:decide (V.str i=V.str j)=(i==j):=by
 rw[Bool.eq_iff_iff]
 simp
theorem dec_byt{i j:Array UInt8}:decide (V.byt i=V.byt j)=(i.toList==j.toList):=by
 rw[Bool.eq_iff_iff]
 cases i
 cases j
 simp
section
variable {X:Cx}{a b c:Expr}{ta tb tc:TE}{pos:Pos}
theorem zg0{pins:List (Addr×Obj)}{σ:St}{H:Hp}{s:Shared}{Q:VK}{k k':Bool}(I:Inv X pins σ H s)(q:Q (.bl k) H)(e:k=k'):EP X pins σ Q (.bool k') s:=by
 subst e
 exact⟨.bl k,H,I,rfl,q⟩
theorem zh1:OpR X (compareOp .Eq) rEq:=by
 intro pins s σ H x y v u Q I rx ry h
 obtain⟨hs,q⟩:=h
 cases x with
 |non=>
  cases rx
  cases y with
  |non=>cases ry;exact PySem.EqNone.eq_none_none (zg0 I q (by simp))
  |bl j=>cases ry;exact PySem.EqNone.eq_none_bool (zg0 I q (by simp))
  |int j=>obtain⟨t',rfl⟩:=ry;exact PySem.EqNone.eq_none_int (zg0 I q (by simp))
  |str j=>obtain⟨t',rfl⟩:=ry;exact PySem.EqNone.eq_none_str (zg0 I q (by simp))
  |_=>exact absurd (show false=true from hs) Bool.false_ne_true
 |bl i=>
  cases rx
  cases y with
  |non=>cases ry;exact PySem.EqNone.eq_bool_none (zg0 I q (by simp))
  |bl j=>cases ry;exact eq_bool (zg0 I q dec_bl)
  |str j=>obtain⟨t',rfl⟩:=ry;exact PySem.EqMixed.eq_bool_str (zg0 I q (by simp))
  |_=>exact absurd (show false=true from hs) Bool.false_ne_true
 |int i=>
  obtain⟨t,rfl⟩:=rx
  cases y with
  |non=>cases ry;exact PySem.EqNone.eq_int_none (zg0 I q (by simp))
  |int j=>obtain⟨t',rfl⟩:=ry;exact eq_int (zg0 I q dec_int)
  |str j=>obtain⟨t',rfl⟩:=ry;exact PySem.EqMixed.eq_int_str (zg0 I q (by simp))
  |_=>exact absurd (show false=true from hs) Bool.false_ne_true
 |str i=>
  obtain⟨t,rfl⟩:=rx
  cases y with
  |non=>cases ry;exact PySem.EqNone.eq_str_none (zg0 I q (by simp))
  |bl j=>cases ry;exact PySem.EqMixed.eq_str_bool (zg0 I q (by simp))
  |int j=>obtain⟨t',rfl⟩:=ry;exact PySem.EqMixed.eq_str_int (zg0 I q (by simp))
  |str j=>obtain⟨t',rfl⟩:=ry;exact eq_str (zg0 I q dec_str)
  |_=>exact absurd (show false=true from hs) Bool.false_ne_true
 |byt i=>
  obtain⟨t,rfl⟩:=rx
  cases y with
  |byt j=>obtain⟨t',rfl⟩:=ry;exact PySem.W.eq_bytes (zg0 I q dec_byt)
  |_=>exact absurd (show false=true from hs) Bool.false_ne_true
 |_=>cases y<;>exact absurd (show false=true from hs) Bool.false_ne_true
theorem op_ne:OpR X (compareOp .NotEq) rNe:=by
 intro pins s σ H x y v u Q I rx ry h
 obtain⟨hs,q⟩:=h
 cases x with
 |non=>
  cases rx
  cases y with
  |non=>cases ry;exact PySem.EqNone.ne_none_none (zg0 I q (by simp))
  |bl j=>cases ry;exact PySem.EqNone.ne_none_bool (zg0 I q (by simp))
  |int j=>obtain⟨t',rfl⟩:=ry;exact PySem.EqNone.ne_none_int (zg0 I q (by simp))
  |str j=>obtain⟨t',rfl⟩:=ry;exact PySem.EqNone.ne_none_str (zg0 I q (by simp))
  |_=>exact absurd (show false=true from hs) Bool.false_ne_true
 |bl i=>
  cases rx
  cases y with
  |non=>cases ry;exact PySem.EqNone.ne_bool_none (zg0 I q (by simp))
  |bl j=>cases ry;exact ne_bool (zg0 I q (congrArg not dec_bl))
  |str j=>obtain⟨t',rfl⟩:=ry;exact PySem.EqMixed.ne_bool_str (zg0 I q (by simp))
  |_=>exact absurd (show false=true from hs) Bool.false_ne_true
 |int i=>
  obtain⟨t,rfl⟩:=rx
  cases y with
  |non=>cases ry;exact PySem.EqNone.ne_int_none (zg0 I q (by simp))
  |int j=>obtain⟨t',rfl⟩:=ry;exact ne_int (zg0 I q (congrArg not dec_int))
  |str j=>obtain⟨t',rfl⟩:=ry;exact PySem.EqMixed.ne_int_str (zg0 I q (by simp))
  |_=>exact absurd (show false=true from hs) Bool.false_ne_true
 |str i=>
  obtain⟨t,rfl⟩:=rx
  cases y with
  |non=>cases ry;exact PySem.EqNone.ne_str_none (zg0 I q (by simp))
  |bl j=>cases ry;exact PySem.EqMixed.ne_str_bool (zg0 I q (by simp))
  |int j=>obtain⟨t',rfl⟩:=ry;exact PySem.EqMixed.ne_str_int (zg0 I q (by simp))
  |str j=>obtain⟨t',rfl⟩:=ry;exact ne_str (zg0 I q (congrArg not dec_str))
  |_=>exact absurd (show false=true from hs) Bool.false_ne_true
 |byt i=>
  obtain⟨t,rfl⟩:=rx
  cases y with
  |byt j=>obtain⟨t',rfl⟩:=ry;exact PySem.W.ne_bytes (zg0 I q (congrArg not dec_byt))
  |_=>exact absurd (show false=true from hs) Bool.false_ne_true
 |_=>cases y<;>exact absurd (show false=true from hs) Bool.false_ne_true
theorem op_lt:OpR X (compareOp .Lt) (rI0 fun i j=>.bl (decide (i<j))):=opB0 fun _ _ _ _ _ _ _ q=>lt_int q
theorem op_ge:OpR X (compareOp .GtE) (rI0 fun i j=>.bl (decide (j≤i))):=opB0 fun _ _ _ _ _ _ _ q=>ge_int q
theorem zd7(b:Expr){op:CmpOp}(h:op≠.In:=by decide)(h2:op≠.NotIn:=by decide):behindInMarks op b=false:=by
 have e1:(op==CmpOp.In)=false:=by cases op<;>first|rfl|exact absurd rfl h
 have e2:(op==CmpOp.NotIn)=false:=by cases op<;>first|rfl|exact absurd rfl h2
 cases b<;>simp[behindInMarks,e1,e2]
theorem pe_cmpR{op:CmpOp}{r:R2}(ho:OpR X (compareOp op) r)(ha:PE X a ta)(hb:PE X b tb)(hm:behindInMarks op b=false):PE X (.Compare a [op] [b] pos) (tOp r ta tb):=by
 intro pins s σ H Q I h
 exact wpAny_Compare1 (binT ha hb I h fun v u s2 x y H2 I2 rx ry q=>ho pins s2 σ H2 x y v u Q I2 rx ry q) hm
def tTest(t:TE):TT:=fun σ H Q=>t σ H fun x H'=>∃k,x=.bl k∧Q k H'
theorem pt_cmpR{op:CmpOp}{r:R2}(ho:OpR X (compareOp op) r)(ha:PE X a ta)(hb:PE X b tb)(hm:behindInMarks op b=false):PT X (.Compare a [op] [b] pos) (tTest (tOp r ta tb)):=by
 intro pins s σ H Q I h
 refine wpAny_isTrue_Compare1 (thn (ha pins s σ H _ I h) fun v s1 ⟨x,H1,I1,r1,q1⟩=>thn (hb pins s1 σ H1 _ I1 q1) fun u s2 ⟨y,H2,I2,r2,q2⟩=>
  thn (ho pins s2 σ H2 x y v u _ I2 r1 r2 q2) fun c s3 ⟨z,H3,I3,r3,k,e,q3⟩=>?_) hm
 subst e
 cases r3
 exact wpAny_truthy_bool ⟨H3,I3,q3⟩
def TruV(K:PySem.W.Frag)(x:V)(H:Hp)(k:Bool):Prop:=
 match x with
 |.non=>k=false
 |.bl b=>k=b
 |.int i=>k=(i != 0)
 |.str y=>y.length≤sizeLine∧k=((y.length:Int) != 0)
 |.byt y=>y.size≤sizeLine∧k=((y.size:Int) != 0)
 |.ref p=>(∃xs,SqL K H p xs∧k = !xs.isEmpty)∨(∃xs,SqT K H p xs∧k = !xs.isEmpty)∨∃kvs,H p=some (.dK kvs)∧k = !kvs.isEmpty
 |_=>False
theorem isEmpty_kv{κ:Type}{kvs:List (κ×V)}{vs:List (κ×Value)}(r:KV kvs vs):(!vs.isEmpty) = !kvs.isEmpty:=by
 cases r<;>rfl
theorem yk2{xs:List V}{its:List Value}(r:Vals xs its):(!its.toArray.isEmpty) = !xs.isEmpty:=by
 cases r<;>simp
theorem yk0:(sizeLine:Nat)<2 ^ 63:=by rw[sizeLine_eq];decide
theorem tru_ok:TruR X (fun x H Q=>∃k,TruV X.K x H k∧Q k H):=by
 intro pins s σ H x v Q I rx h
 obtain⟨k,e,q⟩:=h
 have hl:=yk0
 have hs:sizeLine=16777216:=sizeLine_eq
 cases x with
 |non=>
  cases rx
  have e':k=false:=e
  subst e'
  exact truthy_none ⟨H,I,q⟩
 |bl b=>
  cases rx
  have e':k=b:=e
  subst e'
  exact wpAny_truthy_bool ⟨H,I,q⟩
 |int i=>
  obtain⟨t,rfl⟩:=rx
  have e':k=(i != 0):=e
  subst e'
  exact PySem.P.truthy_int ⟨H,I,q⟩
 |str y=>
  obtain⟨t,rfl⟩:=rx
  obtain⟨hy,e'⟩:y.length≤sizeLine∧k=((y.length:Int) != 0):=e
  subst e'
  exact PySem.P.truthy_str (by omega) ⟨H,I.tok _,q⟩
 |byt y=>
  obtain⟨t,rfl⟩:=rx
  obtain⟨hy,e'⟩:y.size≤sizeLine∧k=((y.size:Int) != 0):=e
  subst e'
  exact PySem.W.truthy_bytes (by omega) ⟨H,I.tok _,q⟩
 |ref p=>
  cases rx
  have e':(∃xs,SqL X.K H p xs∧k = !xs.isEmpty)∨(∃xs,SqT X.K H p xs∧k = !xs.isEmpty)∨∃kvs,H p=some (.dK kvs)∧k = !kvs.isEmpty:=e
  rcases e' with⟨xs,hx,e'⟩|⟨xs,hx,e'⟩|⟨kvs,hx,e'⟩
  ·subst e'
   obtain⟨its,r,pl,hz⟩:=I.list hx
   have hlen:=r.length
   exact wpAny_truthy_list pl.isList (by simp only[List.size_toArray];omega) ⟨H,I.tok _,by rw[yk2 r];exact q⟩
  ·subst e'
   obtain⟨its,r,pl,hz⟩:=I.tuple hx
   have hlen:=r.length
   exact truthy_tuple pl (by simp only[List.size_toArray];omega) ⟨H,I.tok _,by rw[yk2 r];exact q⟩
  ·subst e'
   obtain⟨hz,hS,vs,r,m⟩:kvs.length≤sizeLine∧(p==sysModules)=false∧∃vs,KV kvs vs∧s.heap.DictOf (ze2 X.prog X.w) p vs:=I.hok p _ hx
   have hlen:kvs.length=vs.length:=Paired.length r
   exact wpAny_truthy_dict hS m (by omega) ⟨H,I.tok _,by rw[isEmpty_kv r];exact q⟩
 |_=>exact(show False from e).elim
theorem pt_truth(ha:PE X a ta)(he:∀whole,isTrue a X.env whole=(do let v ←whole;standAt a.pos;holding [v] (truthy v))):
  PT X a (fun σ H Q=>ta σ H fun x H'=>∃k,TruV X.K x H' k∧Q k H'):=by
 intro pins s σ H Q I h
 exact isTrue_plain (thn (ha pins s σ H _ I h) fun v s1 ⟨x,H1,I1,r1,q1⟩=>tru_ok pins s1 σ H1 x v Q I1 r1 q1) (he _)
theorem zt7:OpR X (binaryOp .Add) (fun x y H Q=>∃i j,x=.str i∧y=.str j∧i.length+j.length≤sizeLine∧Q (.str (i++j)) H):=by
 intro pins s σ H x y v u Q I rx ry h
 obtain⟨i,j,rfl,rfl,hz,q⟩:=h
 obtain⟨t,rfl⟩:=rx
 obtain⟨t',rfl⟩:=ry
 exact add_str (fun t' tk=>⟨.str (i++j),H,I.tok _,⟨_,rfl⟩,q⟩) hz
theorem zv6{x:V}{us:List Value}(r:Vals [x] us):∃u,us=[u]∧RelV x u:=by
 cases r with
 |cons r1 r2=>cases r2;exact⟨_,rfl,r1⟩
theorem vals2{x y:V}{us:List Value}(r:Vals [x,y] us):∃u w',us=[u,w']∧RelV x u∧RelV y w':=by
 cases r with
 |cons r1 r2=>
  cases r2 with
  |cons r3 r4=>cases r4;exact⟨_,_,rfl,r1,r3⟩
theorem call_max2(hc:X.calm=true):CallR X (.builtin "max") (fun xs H Q=>∃i j,xs=[.int i,.int j]∧Q (.int (if j > i then j else i)) H):=by
 intro pins s σ H xs us Q I r h
 obtain⟨i,j,rfl,q⟩:=h
 obtain⟨u,w',rfl,⟨t,rfl⟩,⟨t',rfl⟩⟩:=vals2 r
 refine max_two_ints (I.ok.hd hc) fun h' tk k=>⟨_,H,I.kept k,?_,q⟩
 by_cases hj:j > i
 ·rw[if_pos hj,if_pos hj];exact⟨_,rfl⟩
 ·rw[if_neg hj,if_neg hj];exact⟨_,rfl⟩
theorem call_min2(hc:X.calm=true):CallR X (.builtin "min") (fun xs H Q=>∃i j,xs=[.int i,.int j]∧Q (.int (if j<i then j else i)) H):=by
 intro pins s σ H xs us Q I r h
 obtain⟨i,j,rfl,q⟩:=h
 obtain⟨u,w',rfl,⟨t,rfl⟩,⟨t',rfl⟩⟩:=vals2 r
 refine min_two_ints (I.ok.hd hc) fun h' tk k=>⟨_,H,I.kept k,?_,q⟩
 by_cases hj:j<i
 ·rw[if_pos hj,if_pos hj];exact⟨_,rfl⟩
 ·rw[if_neg hj,if_neg hj];exact⟨_,rfl⟩
theorem call_int1:CallR X (.type "int") (fun xs H Q=>(∃i,xs=[.int i]∧Q (.int i) H)∨∃k,xs=[.bl k]∧Q (.int (if k then 1 else 0)) H):=by
 intro pins s σ H xs us Q I r h
 rcases h with⟨i,rfl,q⟩|⟨k,rfl,q⟩
 ·obtain⟨u,rfl,t,rfl⟩:=zv6 r
  exact call_int_int ⟨.int i,H,I,⟨_,rfl⟩,q⟩
 ·obtain⟨u,rfl,r1⟩:=zv6 r
  cases r1
  exact call_int_bool ⟨.int (if k then 1 else 0),H,I.tok _,⟨_,rfl⟩,q⟩
end
structure ObjM(h:Heap)(x dx C:Addr)(mA:Str→Option Value):Prop where
 obj:h.get? x=some (PySem.W.instObj C dx)
 ns:h.Ns1 dx mA
 ne:dx≠x
theorem lookIn_ns{h:Heap}{dx:Addr}{mA:Str→Option Value}(n:h.Ns1 dx mA):∃od,h.get? dx=some od∧∀name,PySem.W.lookIn name od=some (mA name):=by
 obtain⟨o,es,ep,ho,hd,hk,_,hm⟩:=n
 refine⟨o,ho,fun name=>?_⟩
 have e:=hm name
 unfold nsFind findBy at e
 rw[←Array.find?_toList] at e
 unfold PySem.W.lookIn
 rw[hd]
 dsimp only
 split
 ·rename_i y q
  rw[q] at e
  exact congrArg some e
 ·rename_i q
  rw[q] at e
  have a:es.toList.any (·.refKey)=false:=by
   rw[List.any_eq_false]
   intro y hy
   obtain⟨z,t,hkey⟩:=hk y (Array.mem_toList_iff.mp hy)
   simp[DictEntry.refKey,hkey]
  have a':¬es.toList.any (·.refKey)=true:=by rw[a];exact Bool.false_ne_true
  rw[if_neg a']
  exact congrArg some e
theorem ObjM.look{h:Heap}{x dx C:Addr}{mA:Str→Option Value}(I:ObjM h x dx C mA):∃od,PySem.W.InstAt h x (PySem.W.instObj C dx) C (some od)∧∀name,PySem.W.lookIn name od=some (mA name):=
 let ⟨od,ho,hl⟩:=lookIn_ns I.ns
 ⟨od,⟨I.obj,rfl,rfl,ho⟩,hl⟩
section
variable {prog:Program}{w:World}{A:Around}{E:Value→Shared→Prop}{s:Shared}{K:PySem.W.Frag}{x dx C f:Addr}{mA:Str→Option Value}{name:Str}{v:Value}
theorem get_map{expr:Bool}{Q:Value→Shared→Prop}(X:K.In s.heap)(I:ObjM s.heap x dx C mA)(hg:PySem.W.plainGet K C name=true)(hh:PySem.W.hasDictIn K C=true)
  (ha:PySem.W.findIn K (.ref C) name=some none) (hv:mA name=some v) (hv':PySem.W.handedIn v=true) (h:Q v { s with toks:=s.toks+1 }):
  wpAny (model prog w) A (getAttr (.ref x) name expr) Q E s:=by
 obtain⟨od,J,hl⟩:=I.look
 exact PySem.W.get_value X J (PySem.W.plainGet_of hg).1 (PySem.W.findObj_own hh ha rfl (by rw[hl,hv])) hv' h
theorem get_meth{pl:Sem Bool}{Q:Value×List Value→Shared→Prop}(X:K.In s.heap)(I:ObjM s.heap x dx C mA)(hg:PySem.W.plainGet K C name=true)
  (hf:PySem.W.findIn K (.ref C) name=some (some (.ref f))) (ht:PySem.W.isFn K (.ref f)=true) (hv:mA name=none) (h:Q (.ref f,[.ref x]) s):
  wpAny (model prog w) A (getMethod (.ref x) name pl) Q E s:=by
 obtain⟨od,J,hl⟩:=I.look
 exact PySem.W.method_fn X J (PySem.W.plainGet_of hg).1 (PySem.W.plainGet_of hg).2 hf (beq_iff_eq.mp ht) (by show(PySem.W.lookIn name od).map (·.isSome)=some false;rw[hl,hv];rfl) h
theorem set_map{ns:List Str}{Q:Unit→Shared→Prop}(X:K.In s.heap)(I:ObjM s.heap x dx C mA)
  (hs:PySem.W.findIn K (.ref C) "__setattr__"=some (some (.builtin "object.__setattr__"))) (hp:PySem.W.plainOver K C=true) (ht:PySem.W.takerIn K C name=some none) (hh:PySem.W.hasDictIn K C=true)
  (hw:PySem.Within mA ns) (hsz:ns.length≤sizeLine)
  (h:∀h',ObjM h' x dx C (fun y=>if y=name then some v else mA y)→Heap.SameBut dx s.heap h'→Q () { s with heap:=h',toks:=s.toks+2 }):
  wpAny (model prog w) A (setAttr (.ref x) name v) Q E s:=by
 obtain⟨od,J,hl⟩:=I.look
 refine PySem.W.set_plain X J hs (PySem.W.osa_open (s:={ s with toks:=s.toks+1 }) (r:=none) X J hp ht fun b=>?_)
 obtain⟨cd,hc,hd'⟩:=PySem.W.any_some hh
 have hx:s.heap.get? x=some ⟨.ref C,some dx,.plain, #[]⟩:=I.obj
 refine wpAny_bind (wpAny_pure (wpAny_bind (wpAny_bind (wpAny_loadPart hx (wpAny_bind (PySem.W.Looks.here (s:={ s with toks:=s.toks+1 }) (PySem.W.looks_clsIn X hc) ?_))))))
 rw[hd']
 refine wpAny_pure (a:=some dx) (wpAny_bind (wpAny_pure (wpAny_bind ?_)))
 refine wpAny_nsSet1 (s:={ s with toks:=s.toks+1 }) I.ns fun h' hn2 hs2=>?_
 obtain⟨oD,esD,epD,hoD,hdD,hcD⟩:=hn2.count (PySem.Within.cons name v hw)
 refine wpAny_bind (wpAny_lookBehind hoD (by rw[hdD];exact pastItsLine_dict (Nat.le_trans hcD (by rw[List.length_cons];omega))) ?_)
 exact wpAny_pure (h _ ⟨(hs2.2 _ (Ne.symm I.ne)).trans I.obj,hn2,I.ne⟩ hs2)
theorem make_map{R:Result→Shared→Prop}{vs:List Value}{kw:List (Str×Value)}(X:K.In s.heap)(hm:PySem.W.makesIn K C=true)
  (hi:PySem.W.findIn K (.ref C) "__init__"=some (some (.ref f))) (hf:PySem.W.typeIn K (.ref f)=some (.type "function"))
  (h:codeAny (model prog w) (A.under (.builtin "type.__call__" ⟨.ref C::vs,kw⟩)) (.call (.ref f) ⟨.ref (s.heap.objs.size+1)::vs,kw⟩) (PySem.W.InitBack (s.heap.objs.size+1) R)
   { s with heap:=(s.heap.push PySem.W.emptyDict).push (PySem.W.instObj C s.heap.objs.size) }):
  codeAny (model prog w) A (.call (.ref C) ⟨vs,kw⟩) R s:=by
 obtain⟨hh,g,d,t,os⟩:=s
 exact PySem.W.make_core (PySem.W.makes_of X hm) (PySem.W.looks_findIn X hi) (fun self=>PySem.W.bind_fn X self hf) (.inl rfl) h
end
def zr8(f:Str)(v:V):List (Str×V)→List (Str×V)
 |[]=>[(f,v)]
 |(g,x)::r=>if g=f then(g,v)::r else(g,x)::zr8 f v r
theorem zj1(f g:Str)(v:V):∀fs:List (Str×V),(zr8 f v fs).lookup g=if g=f then some v else fs.lookup g
 |[]=>by
  show List.lookup g [(f,v)]=_
  by_cases h:g=f
  ·have hb:(g==f)=true:=beq_iff_eq.mpr h
   simp only[List.lookup,hb,if_pos h]
  ·have hb:(g==f)=false:=beq_eq_false_iff_ne.mpr h
   simp only[List.lookup,hb,if_neg h]
 |(k,x)::r=>by
  have ih:=zj1 f g v r
  rw[show zr8 f v ((k,x)::r)=(if k=f then(k,v)::r else(k,x)::zr8 f v r) from rfl]
  by_cases hk:k=f
  ·rw[if_pos hk]
   by_cases h:g=k
   ·have hb:(g==k)=true:=beq_iff_eq.mpr h
    simp only[List.lookup,hb,if_pos (h.trans hk)]
   ·have hb:(g==k)=false:=beq_eq_false_iff_ne.mpr h
    simp only[List.lookup,hb,if_neg (fun e:g=f=>h (e.trans hk.symm))]
  ·rw[if_neg hk]
   by_cases h:g=k
   ·have hb:(g==k)=true:=beq_iff_eq.mpr h
    simp only[List.lookup,hb,if_neg (fun e:g=f=>hk (h.symm.trans e))]
   ·have hb:(g==k)=false:=beq_eq_false_iff_ne.mpr h
    simp only[List.lookup,hb]
    exact ih
theorem yf3(f:Str)(v:V):∀fs:List (Str×V),f∈(zr8 f v fs).map (·.1)∧∀g,g∈fs.map (·.1)→g∈(zr8 f v fs).map (·.1)
 |[]=>⟨by simp[zr8],fun g h=>by simp at h⟩
 |(k,x)::r=>by
  obtain⟨i1,i2⟩:=yf3 f v r
  rw[show zr8 f v ((k,x)::r)=(if k=f then(k,v)::r else(k,x)::zr8 f v r) from rfl]
  by_cases hk:k=f
  ·rw[if_pos hk]
   subst hk
   exact⟨by simp,fun g h=>by simpa using h⟩
  ·rw[if_neg hk]
   refine⟨?_,fun g h=>?_⟩
   ·rw[List.map_cons]
    exact List.mem_cons_of_mem _ i1
   ·rw[List.map_cons] at h ⊢
    rcases List.mem_cons.mp h with e|e
    ·exact List.mem_cons.mpr (.inl e)
    ·exact List.mem_cons_of_mem _ (i2 g e)
theorem ye8(f:Str)(v:V):∀fs:List (Str×V),(zr8 f v fs).length≤fs.length+1
 |[]=>by simp[zr8]
 |(k,x)::r=>by
  have ih:=ye8 f v r
  rw[show zr8 f v ((k,x)::r)=(if k=f then(k,v)::r else(k,x)::zr8 f v r) from rfl]
  by_cases hk:k=f
  ·rw[if_pos hk,List.length_cons,List.length_cons];omega
  ·rw[if_neg hk,List.length_cons,List.length_cons];omega
theorem RelO.some_of{v:V}{o:Option Value}(r:RelO (some v) o):∃u,o=some u∧RelV v u:=by
 cases o with
 |none=>exact(show False from r).elim
 |some u=>exact⟨u,rfl,r⟩
theorem RelO.none_of{o:Option Value}(r:RelO none o):o=none:=by
 cases o with
 |none=>rfl
 |some u=>exact(show False from r).elim
theorem handed_of{v:V}{u:Value}(r:RelV v u):PySem.W.handedIn u=true:=by
 cases v with
 |non=>cases(show u=Value.none from r);rfl
 |bl b=>cases(show u=Value.bool b from r);rfl
 |int i=>obtain⟨t,e⟩:=(show ∃t,u=Value.int i t from r);cases e;rfl
 |str x=>obtain⟨t,e⟩:=(show ∃t,u=Value.str x t from r);cases e;rfl
 |byt b=>obtain⟨t,e⟩:=(show ∃t,u=Value.bytes b t from r);cases e;rfl
 |flt b=>obtain⟨t,e⟩:=(show ∃t,u=Value.float b t from r);cases e;rfl
 |ref a=>cases(show u=Value.ref a from r);rfl
 |ty n=>cases(show u=Value.type n from r);rfl
section
variable {P:Program}{w:World}{H H':Hp}{h h':Heap}{a C dx:Addr}{fs fs':List (Str×V)}
theorem yn8(hok:HOk P w H h)(e:H a=some (.ins C dx fs)):∃mA,ObjM h a dx C mA∧(∀f,RelO (fs.lookup f) (mA f))∧PySem.Within mA (fs.map (·.1))∧fs.length≤1000∧H dx=some (.own a):=by
 obtain⟨d,z,ne,ob,mA,n,r,q⟩:=(show ObjOk P w H h a (.ins C dx fs) from hok a _ e)
 exact⟨mA,⟨ob,n,ne⟩,r,q,z,d⟩
end
structure Cls(K:PySem.W.Frag)(C:Addr):Prop where
 pg:PySem.W.plainGet K C Str.empty=true
 hd:PySem.W.hasDictIn K C=true
 po:PySem.W.plainOver K C=true
 sa:PySem.W.findIn K (.ref C) "__setattr__"=some (some (.builtin "object.__setattr__"))
theorem Cls.get{K:PySem.W.Frag}{C:Addr}(c:Cls K C)(f:Str):PySem.W.plainGet K C f=true:=c.pg
def NoAttr(K:PySem.W.Frag)(C:Addr)(f:Str):Prop:=PySem.W.findIn K (.ref C) f=some none
theorem NoAttr.taker{K:PySem.W.Frag}{C:Addr}{f:Str}(n:NoAttr K C f):PySem.W.takerIn K C f=some none:=by
 unfold PySem.W.takerIn
 rw[show PySem.W.findIn K (.ref C) f=some none from n]
 rfl
structure Meth(K:PySem.W.Frag)(C:Addr)(m:Str)(f:Addr):Prop where
 at_:PySem.W.findIn K (.ref C) m=some (some (.ref f))
 fn:PySem.W.isFn K (.ref f)=true
 kp:PySem.W.keepIn K (.ref f)=true
section
variable {X:Cx}{pins:List (Addr×Obj)}{σ:St}{H:Hp}{s:Shared}{a C dx:Addr}{fs:List (Str×V)}{f:Str}{v:V}{A:Around}{E:Value→Shared→Prop}
theorem yk4{b:Bool}{Q:Value→Shared→Prop}(I:Inv X pins σ H s)(e:H a=some (.ins C dx fs))(c:Cls X.K C)(n:NoAttr X.K C f)(l:fs.lookup f=some v)
  (h:∀u s',Inv X pins σ H s'→RelV v u→Q u s'):wpAny (model X.prog X.w) A (getAttr (.ref a) f b) Q E s:=by
 obtain⟨mA,O,r,_,_,_⟩:=yn8 I.hok e
 obtain⟨u,hu,ru⟩:=RelO.some_of (v:=v) (o:=mA f) (by rw[←l];exact r f)
 exact get_map I.kIn O (c.get f) c.hd n hu (handed_of ru) (h u _ (I.tok _) ru)
theorem getmeth_ok{m:Str}{g:Addr}{pl:Sem Bool}{Q:Value×List Value→Shared→Prop}(I:Inv X pins σ H s)(e:H a=some (.ins C dx fs))(c:Cls X.K C)(k:Meth X.K C m g)(l:fs.lookup m=none)
  (h:Q (.ref g,[.ref a]) s):wpAny (model X.prog X.w) A (getMethod (.ref a) m pl) Q E s:=by
 obtain⟨mA,O,r,_,_,_⟩:=yn8 I.hok e
 have hn:mA m=none:=RelO.none_of (by rw[←l];exact r m)
 exact get_meth I.kIn O (c.get m) k.at_ k.fn hn h
theorem yi0{y:V}{u:Value}{Q:Unit→Shared→Prop}(I:Inv X pins σ H s)(e:H a=some (.ins C dx fs))(c:Cls X.K C)(n:NoAttr X.K C f)(hl:fs.length<1000)(ry:RelV y u)
  (h:∀s',Inv X pins σ (upd H a (.ins C dx (zr8 f y fs))) s'→Q () s'):wpAny (model X.prog X.w) A (setAttr (.ref a) f u) Q E s:=by
 obtain⟨mA,O,r,wi,_,ho⟩:=yn8 I.hok e
 have hz:(fs.map (·.1)).length≤sizeLine:=by rw[List.length_map,sizeLine_eq];omega
 refine set_map I.kIn O c.sa c.po n.taker c.hd wi hz fun h' O' sb=>h _ ?_
 have hd:∃o,h'.get? dx=some o:=let ⟨o,_,_,e',_⟩:=O'.ns;⟨o,e'⟩
 refine I.write (x:=a) (e:=dx) (by rw[e];exact True.intro) (.inr ho) (fun b q hb z=>(sb.2 b hb).trans z) hd ?_
 refine⟨by rw[za9 O.ne];exact ho,?_,O.ne,O'.obj,_,O'.ns,fun g=>?_,fun g hg=>?_⟩
 ·have:=ye8 f y fs;omega
 ·show RelO ((zr8 f y fs).lookup g) (if g=f then some u else mA g)
  rw[zj1]
  by_cases q:g=f
  ·rw[if_pos q,if_pos q];exact ry
  ·rw[if_neg q,if_neg q];exact r g
 ·by_cases q:g=f
  ·rw[q];exact(yf3 f y fs).1
  ·refine(yf3 f y fs).2 g (wi g fun z=>hg ?_)
   show(if g=f then some u else mA g)=none
   rw[if_neg q];exact z
theorem Inv.made(I:Inv X pins σ H s):Inv X pins σ (upd (upd H s.heap.objs.size (.own (s.heap.objs.size+1))) (s.heap.objs.size+1) (.ins C s.heap.objs.size []))
  { s with heap:=(s.heap.push PySem.W.emptyDict).push (PySem.W.instObj C s.heap.objs.size) }:=by
 have e1:(s.heap.push PySem.W.emptyDict).get? s.heap.objs.size=some PySem.W.emptyDict:=Heap.get?_push_size s.heap rfl
 have e2:((s.heap.push PySem.W.emptyDict).push (PySem.W.instObj C s.heap.objs.size)).get? (s.heap.objs.size+1)=some (PySem.W.instObj C s.heap.objs.size):=by
  have:=Heap.get?_push_size (s.heap.push PySem.W.emptyDict) (o:=PySem.W.instObj C s.heap.objs.size) rfl
  rwa [Heap.size_push] at this
 have e3:(s.heap.push PySem.W.emptyDict).Ns s.heap.objs.size (fun _=>none):=⟨PySem.W.emptyDict, #[],_,e1,rfl,(fun e he=>absurd he (by simp)),fun _=>rfl⟩
 have I1:=I.laid (a:=s.heap.objs.size) (o:=.own (s.heap.objs.size+1)) (h':=s.heap.push PySem.W.emptyDict) (t':=s.toks) (fun b u q=>Heap.get?_push_of_some _ q) (Nat.le_refl _) ⟨_,e1⟩
 refine I1.laid (a:=s.heap.objs.size+1) (o:=.ins C s.heap.objs.size []) (t':=s.toks) (fun b u q=>Heap.get?_push_of_some _ q) (Nat.le_of_eq (Heap.size_push _ _)) ?_
 have ne:s.heap.objs.size≠s.heap.objs.size+1:=Nat.ne_of_lt (Nat.lt_succ_self _)
 refine⟨by rw[za9 ne,za0],Nat.zero_le _,ne,e2,fun _=>none,(Heap.Ns1.of_empty e3).at fun o q=>Heap.get?_push_of_some _ q,fun _=>True.intro,fun y hy=>absurd rfl hy⟩
theorem attr_of{prog:Program}{w:World}{env:Env}{e:Expr}{f:Str}{pos:Pos}{s:Shared}{Q:Value→Shared→Prop}(hb:attributeBase e f env (eval e env)=eval e env)
  (h:wpAny (model prog w) A (eval e env) (fun o s₁=>wpAny (model prog w) A (getAttr o f true) Q E s₁) E s):wpAny (model prog w) A (eval (.Attribute e f pos) env) Q E s:=
 Attribute_any_ h (by rw[arm_eval_Attribute,hb])
end
def tFld(K:PySem.W.Frag)(ta:TE)(f:Str):TE:=fun σ H Q=>ta σ H fun x H1=>∃a C dx fs v,x=.ref a∧H1 a=some (.ins C dx fs)∧Cls K C∧NoAttr K C f∧fs.lookup f=some v∧Q v H1
def sFld(K:PySem.W.Frag)(ta tv:TE)(f:Str):TS:=fun D σ H=>tv σ H fun y H1=>ta σ H1 fun x H2=>∃a C dx fs,x=.ref a∧H2 a=some (.ins C dx fs)∧Cls K C∧NoAttr K C f∧fs.length<1000∧
 D.nx σ (upd H2 a (.ins C dx (zr8 f y fs)))
def InOp(X:Cx)(op:Operator)(rd:V→V→Hp→VK→Prop):Prop:=
 ∀(pins:List (Addr×Obj)) (s:Shared) (σ:St) (H:Hp) (x y:V) (u v:Value) (Q:VK),Inv X pins σ H s→RelV x u→RelV y v→rd x y H Q→wpAny (model X.prog X.w) X.A (inplaceOp op u v) (EP X pins σ Q) X.xe s
def sFldAug(K:PySem.W.Frag)(ta tv:TE)(rd:V→V→Hp→VK→Prop)(f:Str):TS:=fun D σ H=>ta σ H fun x H1=>∃a C dx fs v,x=.ref a∧H1 a=some (.ins C dx fs)∧Cls K C∧NoAttr K C f∧fs.lookup f=some v∧
 tv σ H1 fun y H2=>rd v y H2 fun z H3=>∃dx' fs',H3 a=some (.ins C dx' fs')∧fs'.length<1000∧D.nx σ (upd H3 a (.ins C dx' (zr8 f z fs')))
section
variable {X:Cx}{o e value:Expr}{f:Str}{pos pos' tpos:Pos}{ta tv:TE}
theorem pe_fld(he:PE X e ta)(hb:attributeBase e f X.env (eval e X.env)=eval e X.env):PE X (.Attribute e f pos) (tFld X.K ta f):=by
 intro pins s σ H Q I h
 refine attr_of hb (thn (he pins s σ H _ I h) fun u s1 ⟨x,H1,I1,rx,a,C,dx,fs,v,ex,ea,c,n,l,q⟩=>?_)
 subst ex
 obtain rfl:u=Value.ref a:=rx
 exact yk4 I1 ea c n l fun u' s2 I2 ru=>⟨v,H1,I2,ru,q⟩
theorem ps_fld(ha:PE X o ta)(hv:PE X value tv)(hs:swapsWith value (some (.Attribute o f pos')) pos.line X.env=pure false):PS X (.Assign [.Attribute o f pos'] value pos) (sFld X.K ta tv f):=by
 intro pins s σ H D I h
 refine plainObj_wpAny_Assign_Attribute (thn (hv pins s σ H _ I h) fun u s1 ⟨y,H1,I1,ry,q⟩=>thn (ha pins s1 σ H1 _ I1 q) fun ov s2 ⟨x,H2,I2,rx,a,C,dx,fs,ex,ea,c,n,l,q2⟩=>?_) hs
 subst ex
 obtain rfl:ov=Value.ref a:=rx
 exact yi0 I2 ea c n l ry fun s3 I3=>⟨σ,_,I3,q2⟩
theorem ps_fldaug{op:Operator}{rd:V→V→Hp→VK→Prop}(ha:PE X o ta)(hv:PE X value tv)(hop:InOp X op rd):PS X (.AugAssign (.Attribute o f tpos) op value pos) (sFldAug X.K ta tv rd f):=by
 intro pins s σ H D I h
 refine wpAny_AugAssign_AttributeAny (thn (ha pins s σ H _ I h) fun ov s1 ⟨x,H1,I1,rx,a,C,dx,fs,v,ex,ea,c,n,l,q⟩=>?_)
 subst ex
 obtain rfl:ov=Value.ref a:=rx
 refine yk4 I1 ea c n l fun u s2 I2 ru=>thn (hv pins s2 σ H1 _ I2 q) fun w3 s3 ⟨y,H2,I3,ry,q3⟩=>thn (hop pins s3 σ H2 v y u w3 _ I3 ru ry q3) fun w4 s4 ⟨z,H3,I4,rz,dx',fs',ea',l',q4⟩=>?_
 exact yi0 I4 ea' c n l' rz fun s5 I5=>⟨σ,_,I5,q4⟩
def rAdd:V→V→Hp→VK→Prop:=fun x y H Q=>∃i j,x=.int i∧y=.int j∧Q (.int (i+j)) H
theorem in_add:InOp X .Add rAdd:=by
 rintro pins s σ H x y u v Q I rx ry ⟨i,j,rfl,rfl,q⟩
 obtain⟨t,rfl⟩:=(show ∃t,u=Value.int i t from rx)
 obtain⟨t',rfl⟩:=(show ∃t',v=Value.int j t' from ry)
 exact PyProof.Rows.iadd_int ⟨.int (i+j),H,I.tok _,⟨_,rfl⟩,q⟩
end
section
variable {X:Cx}{pins:List (Addr×Obj)}{σ:St}{H:Hp}{s:Shared}{A:Around}{E:Value→Shared→Prop}{Q:Value→Shared→Prop}{c:Value}{b:Bool}
inductive TyOf(K:PySem.W.Frag)(H:Hp):V→Value→Prop where
 |non:TyOf K H .non (.type "NoneType")
 |bl (x:Bool):TyOf K H (.bl x) (.type "bool")
 |int (i:Int):TyOf K H (.int i) (.type "int")
 |str (x:Str):TyOf K H (.str x) (.type "str")
 |flt (x:UInt64):TyOf K H (.flt x) (.type "float")
 |lst {a:Addr} {xs:List V} (e:H a=some (.lst xs)):TyOf K H (.ref a) (.type "list")
 |frz {a:Addr} {o:Obj} {xs:List V} (e:H a=some (.frz o (.lst xs))):TyOf K H (.ref a) (.type "list")
 |tup {a:Addr} {xs:List V} (e:H a=some (.tup xs)):TyOf K H (.ref a) (.type "tuple")
 |dK {a:Addr} {kvs:List (Key×V)} (e:H a=some (.dK kvs)):TyOf K H (.ref a) (.type "dict")
 |dT {a:Addr} {kvs:List (List Key×V)} (e:H a=some (.dT kvs)):TyOf K H (.ref a) (.type "dict")
 |ins {a C dx:Addr} {fs:List (Str×V)} (e:H a=some (.ins C dx fs)) (cl:Cls K C) (ha:PySem.W.findIn K (.ref C) "__class__"=some (some (.builtin "object.__class__")))
   (hn:PySem.W.specialIn K (.builtin "object.__class__") "__get__"=some (some (.builtin "getset_descriptor.__get__"))) (htk:PySem.W.takesIn K (.builtin "object.__class__")=some true)
   (hm:PySem.W.mroIn K C (.type "object")=some true):TyOf K H (.ref a) (.ref C)
theorem isinst_ok{x:V}{u t:Value}(I:Inv X pins σ H s)(rx:RelV x u)(ty:TyOf X.K H x t)(e:PySem.W.kitOne X.K t c=some b)(h:∀tk,Q (.bool b) { s with toks:=tk }):
  wpAny (model X.prog X.w) A (call (.builtin "isinstance") [u,c]) Q E s:=by
 cases ty with
 |non=>cases(show u=Value.none from rx);exact PySem.W.kia_one PySem.W.kitx_none I.kIn True.intro e (fun z=>nomatch z) h
 |bl y=>cases(show u=Value.bool y from rx);exact PySem.W.kia_one PySem.W.kitx_bool I.kIn True.intro e (fun z=>nomatch z) h
 |int i=>obtain⟨t,q⟩:=(show ∃t,u=Value.int i t from rx);cases q;exact PySem.W.kia_one PySem.W.kitx_int I.kIn True.intro e (fun z=>nomatch z) h
 |str y=>obtain⟨t,q⟩:=(show ∃t,u=Value.str y t from rx);cases q;exact PySem.W.kia_one PySem.W.kitx_str I.kIn True.intro e (fun z=>nomatch z) h
 |flt y=>obtain⟨t,q⟩:=(show ∃t,u=Value.float y t from rx);cases q;exact PySem.W.kia_one PySem.W.kitx_float I.kIn True.intro e (fun z=>nomatch z) h
 |@lst a xs ea=>
  cases(show u=Value.ref a from rx)
  obtain⟨_,_,n,_,h1⟩:=(show ObjOk X.prog X.w H s.heap a (.lst xs) from I.hok a _ ea)
  exact PySem.W.kia_one PySem.W.kitx_list I.kIn ⟨_,h1,rfl⟩ e (fun z=>nomatch z) h
 |@frz a ob xs ea=>
  cases(show u=Value.ref a from rx)
  obtain⟨_,_,_,n,_,h1⟩:=(show ObjOk X.prog X.w H s.heap a (.frz ob (.lst xs)) from I.hok a _ ea)
  exact PySem.W.kia_one PySem.W.kitx_list I.kIn ⟨_,h1,rfl⟩ e (fun z=>nomatch z) h
 |@tup a xs ea=>
  cases(show u=Value.ref a from rx)
  obtain⟨_,_,_,p⟩:=(show ObjOk X.prog X.w H s.heap a (.tup xs) from I.hok a _ ea)
  obtain⟨o,h1,h2,_⟩:=p
  exact PySem.W.kia_one PySem.W.kitx_tuple I.kIn ⟨o,h1,h2⟩ e (fun z=>nomatch z) h
 |@dK a kvs ea=>
  cases(show u=Value.ref a from rx)
  obtain⟨_,_,vs,_,p⟩:=(show ObjOk X.prog X.w H s.heap a (.dK kvs) from I.hok a _ ea)
  obtain⟨o,es,ep,h1,h2,_⟩:=p
  exact PySem.W.kia_one PySem.W.kitx_dict I.kIn ⟨o,h1,h2.1⟩ e (fun z=>nomatch z) h
 |@dT a kvs ea=>
  cases(show u=Value.ref a from rx)
  obtain⟨_,_,xs,_,o,es,ep,h1,h2,_⟩:=(show ObjOk X.prog X.w H s.heap a (.dT kvs) from I.hok a _ ea)
  exact PySem.W.kia_one PySem.W.kitx_dict I.kIn ⟨o,h1,h2.1⟩ e (fun z=>nomatch z) h
 |@ins a C dx fs ea cl ha hn htk hm=>
  cases(show u=Value.ref a from rx)
  obtain⟨mA,O,_⟩:=yn8 I.hok ea
  obtain⟨od,J,_⟩:=O.look
  exact PySem.W.kia_one (PySem.W.kitx_own (cl.get _) cl.hd ha hn htk hm) I.kIn J e (fun z=>nomatch z) h
end
structure Room(k:Nat)(A:Around):Prop where
 hd:A.handled=none
 dp:A.depth+3*k+5<recursionLimit
 un:A.units+16*k+200<cLine
theorem Room.mono{j k:Nat}{A:Around}(r:Room k A)(h:j≤k):Room j A:=⟨r.hd,by have:=r.dp;omega,by have:=r.un;omega⟩
theorem Room.deeper{k:Nat}{A:Around}(r:Room (k+1) A)(env:Env):Room k (A.deeper env):=
 ⟨r.hd,by have:=r.dp;show A.depth+1+3*k+5<_;omega,by have:=r.un;show A.units+3+16*k+200<_;omega⟩
theorem Room.in1{k:Nat}{A:Around}(r:Room (k+1) A):Room k A.in1:=
 ⟨r.hd,by have:=r.dp;show A.depth+3*k+5<_;omega,by have:=r.un;show A.units+1+16*k+200<_;omega⟩
theorem make_depth{A:Around}{C:Addr}{us:List Value}{kw:List (Str×Value)}:(A.under (.builtin "type.__call__" ⟨.ref C::us,kw⟩)).depth=A.depth+1:=by
 first|rfl|simp[Around.under,Code.weight,Code.isCreation,Code.isGuard,Code.isCaller,Code.frames,Code.isFrame,guardIds]
theorem make_units{A:Around}{C:Addr}{us:List Value}{kw:List (Str×Value)}:(A.under (.builtin "type.__call__" ⟨.ref C::us,kw⟩)).units=A.units+1:=by
 first|rfl|simp[Around.under,Code.cUnits,Code.frames,Code.isFrame]
theorem Room.make{k:Nat}{A:Around}(r:Room (k+1) A)(C:Addr)(us:List Value)(kw:List (Str×Value)):Room k (A.under (.builtin "type.__call__" ⟨.ref C::us,kw⟩)):=
 ⟨r.hd,by have:=r.dp;rw[make_depth];omega,by have:=r.un;rw[make_units];omega⟩
theorem Room.depth{k:Nat}{A:Around}(r:Room k A):A.depth<recursionLimit:=by have:=r.dp;omega
theorem Room.units{k:Nat}{A:Around}(r:Room k A):A.units+64<cLine:=by have:=r.un;omega
def tNil:TA:=fun _ H Q=>Q [] H
def zp5(ta:TE)(tr:TA):TA:=fun σ H Q=>ta σ H fun x H1=>tr σ H1 fun xs H2=>Q (x::xs) H2
section
variable {X:Cx}{e:Expr}{es:List Expr}{te:TE}{t:TA}{pos:Pos}
theorem pa_nil:PA X [] tNil:=fun _ _ _ _ H Q I h=>Calls.spliced_nil ⟨[],H,I,.nil,h⟩
theorem zq4(ha:PE X e te)(hr:PA X es t)(hs:starEach (e::es) X.env=(false,eval e X.env)::starEach es X.env:=by rfl):PA X (e::es) (zp5 te t):=by
 intro pos pins s σ H Q I h
 rw[hs]
 show wpAny _ _ (spliced ((false,eval e X.env)::backTo pos (starEach es X.env))) _ _ s
 refine Calls.spliced_cons (thn (ha pins s σ H _ I h) fun u s1 ⟨x,H1,I1,r1,q1⟩=>?_)
 exact thn (hr pos pins s1 σ H1 _ I1 q1) fun us s2 ⟨xs,H2,I2,r2,q2⟩=>⟨x::xs,H2,I2,.cons r1 r2,q2⟩
def tTup(t:TA):TE:=fun σ H Q=>t σ H fun xs H1=>xs.length≤sizeLine∧∀p,H1 p=none→Q (.ref p) (upd H1 p (.tup xs))
def tLst(t:TA):TE:=fun σ H Q=>t σ H fun xs H1=>xs.length≤sizeLine∧∀p,H1 p=none→Q (.ref p) (upd H1 p (.lst xs))
theorem pe_tup{x1}(h:PA X es t):PE X (.Tuple es x1 pos) (tTup t):=by
 intro pins s σ H Q I hq
 refine wpAny_Tuple_spliced (thn (h pos pins s σ H _ I hq) fun us s1 ⟨xs,H1,I1,r,z,q⟩=>⟨by rw[←r.length];exact z,?_⟩)
 have hf:H1 s1.heap.objs.size=none:=I1.hok.fresh (Nat.le_refl _)
 refine⟨.ref s1.heap.objs.size,upd H1 s1.heap.objs.size (.tup xs),I1.laid (t':=s1.toks) (fun b u e=>Heap.get?_push_of_some _ e) (Nat.le_refl _) ?_,rfl,q _ hf⟩
 exact⟨z,us,r,⟨_,Heap.get?_push_size _ rfl,rfl,_,rfl⟩⟩
theorem pe_lst(h:PA X es t):PE X (.List es pos) (tLst t):=by
 intro pins s σ H Q I hq
 refine wpAny_List_spliced (thn (h pos pins s σ H _ I hq) fun us s1 ⟨xs,H1,I1,r,z,q⟩=>⟨by rw[←r.length];exact z,?_⟩)
 have hf:H1 s1.heap.objs.size=none:=I1.hok.fresh (Nat.le_refl _)
 refine⟨.ref s1.heap.objs.size,upd H1 s1.heap.objs.size (.lst xs),I1.laid (t':=s1.toks) (fun b u e=>Heap.get?_push_of_some _ e) (Nat.le_refl _) ?_,rfl,q _ hf⟩
 exact⟨z,us,0,r,Heap.get?_push_size _ rfl⟩
end
abbrev Sp:=List V→Hp→VK→XK→Prop
abbrev CXT:=List Env→Hp→Shared→XK→Value→Shared→Prop
structure Env0(P:Program)(w:World)(K:PySem.W.Frag)(mg:Str→Option Value)(base:Heap)(A:Around)(outer:List Env)(s:Shared)(H:Hp):Prop where
 frames:A.frames=some outer
 mod:Mod K mg base
 bs:∀b o,base.get? b=some o→s.heap.get? b=some o∧H b=none
 bsz:base.objs.size≤s.heap.objs.size
 funs:s.heap.FunFrames base outer
 frf:∀b∈frs outer,H b=none
 hok:HOk P w H s.heap
 bare:AllBare s.gens
def CE(outer:List Env)(P:Program)(w:World)(H:Hp)(s:Shared)(Q:VK)(u:Value)(s':Shared):Prop:=
 ∃v H',s'.os=s.os∧AllBare s'.gens∧Un (frs outer) [] H H' s.heap s'.heap∧HOk P w H' s'.heap∧RelV v u∧Q v H'
def CR(CX:CXT)(outer:List Env)(P:Program)(w:World)(H:Hp)(s:Shared)(Q:VK)(E:XK)(r:Result)(s':Shared):Prop:=
 match r with
 |.ok (.ret u)=>CE outer P w H s Q u s'
 |.ok _=>False
 |.error e=>CX outer H s E e s'
structure FnOk(P:Program)(w:World)(K:PySem.W.Frag)(mg:Str→Option Value)(base:Heap)(CX:CXT)(k:Nat)(f:Addr)(fd:FuncData)(ps:List Str)(sp:Sp):Prop where
 len:∀vs H Q E,sp vs H Q E→vs.length=ps.length
 run:∀(A:Around) (outer:List Env) (s:Shared) (H:Hp) (args:Args) (us:List Value) (vs:List V) (Q:VK) (E:XK),Room k A→Env0 P w K mg base A outer s H→BindsTo s fd args (ps.zip us)→Vals vs us→sp vs H Q E→
  codeAny (model P w) A (.call (.ref f) args) (CR CX outer P w H s Q E) s
theorem FnOk.mono{P:Program}{w:World}{K:PySem.W.Frag}{mg:Str→Option Value}{base:Heap}{CX:CXT}{j k:Nat}{f:Addr}{fd:FuncData}{ps:List Str}{sp:Sp}(F:FnOk P w K mg base CX j f fd ps sp)(h:j≤k):
  FnOk P w K mg base CX k f fd ps sp:=⟨F.len,fun A outer s H args us vs Q E hr=>F.run A outer s H args us vs Q E (hr.mono h)⟩
theorem FnOk.imp{P:Program}{w:World}{K:PySem.W.Frag}{mg:Str→Option Value}{base:Heap}{CX:CXT}{k:Nat}{f:Addr}{fd:FuncData}{ps:List Str}{sp sp':Sp}(F:FnOk P w K mg base CX k f fd ps sp)
  (h:∀vs H Q E,sp' vs H Q E→sp vs H Q E):FnOk P w K mg base CX k f fd ps sp':=
 ⟨fun vs H Q E q=>F.len vs H Q E (h _ _ _ _ q),fun A outer s H args us vs Q E hr he hb hv hs=>F.run A outer s H args us vs Q E hr he hb hv (h _ _ _ _ hs)⟩
theorem Env0.make{P:Program}{w:World}{K:PySem.W.Frag}{mg:Str→Option Value}{base:Heap}{A:Around}{outer:List Env}{s:Shared}{H:Hp}(e:Env0 P w K mg base A outer s H)(C:Addr)(us:List Value)(kw:List (Str×Value)):
  Env0 P w K mg base (A.under (.builtin "type.__call__" ⟨.ref C::us,kw⟩)) outer s H:=⟨by first|exact e.frames|(simpa [Around.under,Code.envs,Code.isFrame,pushEnvs] using e.frames),e.mod,e.bs,e.bsz,e.funs,e.frf,e.hok,e.bare⟩
theorem Env0.in1{P:Program}{w:World}{K:PySem.W.Frag}{mg:Str→Option Value}{base:Heap}{A:Around}{outer:List Env}{s:Shared}{H:Hp}(e:Env0 P w K mg base A outer s H):
  Env0 P w K mg base A.in1 outer s H:=⟨e.frames,e.mod,e.bs,e.bsz,e.funs,e.frf,e.hok,e.bare⟩
section
variable {X:Cx}{pins:List (Addr×Obj)}{σ:St}{H:Hp}{s s':Shared}
theorem Inv.env0(I:Inv X pins σ H s):Env0 X.prog X.w X.K X.mg X.base X.A X.stack s H:=
 ⟨I.ok.frames,I.ok.mod,I.bs,Nat.le_trans I.ok.bsz I.sz,I.stack,I.stkFree,I.hok,I.bare⟩
theorem Inv.after{Q:VK}{u:Value}(I:Inv X pins σ H s)(h:CE X.stack X.prog X.w H s Q u s'):EP X pins σ Q u s':=by
 obtain⟨v,H',os,bare,un,hok,r,q⟩:=h
 obtain⟨hh,g,d,t,os'⟩:=s'
 obtain rfl:os'=s.os:=os
 exact⟨v,H',I.call (h':=hh) (g':=g) (d':=d) (t':=t) (ch:=[]) un hok bare (fun b z=>absurd z (by simp)),r,q⟩
end
def tCall(sp:Sp)(dvs:List V)(E:XK)(t:TA):TE:=fun σ H Q=>t σ H fun vs H1=>sp (vs++dvs) H1 Q E
def tMeth(C:Addr)(m:Str)(sp:Sp)(dvs:List V)(E:XK)(ta:TE)(t:TA):TE:=fun σ H Q=>ta σ H fun x H1=>∃a dx fs,x=.ref a∧H1 a=some (.ins C dx fs)∧fs.lookup m=none∧
 t σ H1 fun vs H2=>sp (x::(vs++dvs)) H2 Q E
def tMake(C:Addr)(sp:Sp)(dvs:List V)(E:XK)(t:TA):TE:=fun σ H Q=>t σ H fun vs H1=>∀x dx,H1 x=none→H1 dx=none→dx≠x→
 sp (.ref x::(vs++dvs)) (upd (upd H1 dx (.own x)) x (.ins C dx [])) (fun v H2=>v=.non∧Q (.ref x) H2) E
def Binds(K:PySem.W.Frag)(fd:FuncData)(ps:List Str)(ds:List Value):Prop:=
 ∀(s:Shared) (us:List Value),K.In s.heap→(us++ds).length=ps.length→BindsTo s fd ⟨us,[]⟩ (ps.zip (us++ds))
theorem Binds.all{K:PySem.W.Frag}{fd:FuncData}{ps:List Str}(h:∀us:List Value,us.length=ps.length→bindArgs fd ⟨us,[]⟩=pure (ps.zip us)):Binds K fd ps []:=fun s us _ hl=>by
 rw[List.append_nil] at hl ⊢
 exact .of_eq (h us hl)
def Passes(CX:CXT)(X:Cx)(E:XK):Prop:=∀(pins:List (Addr×Obj)) (σ:St) (H:Hp) (s:Shared) (e:Value) (s':Shared),Inv X pins σ H s→CX X.stack H s E e s'→X.xe e s'
section
variable {X:Cx}{CX:CXT}{k:Nat}{f C:Addr}{fd:FuncData}{ps:List Str}{sp:Sp}{dvs:List V}{ds:List Value}{E:XK}{x m:Str}{p pos apos:Pos}{e o:Expr}{es:List Expr}{ta:TE}{t:TA}
theorem run_fn{pins:List (Addr×Obj)}{σ:St}{H:Hp}{s:Shared}{Q:VK}{us:List Value}{vs:List V}(F:FnOk X.prog X.w X.K X.mg X.base CX k f fd ps sp)(hr:Room k X.A)(hb:Binds X.K fd ps ds)(hd:Vals dvs ds)(hx:Passes CX X E)
  (I:Inv X pins σ H s) (r:Vals vs us) (h:sp (vs++dvs) H Q E):wpAny (model X.prog X.w) X.A (call (.ref f) us) (EP X pins σ Q) X.xe s:=by
 have r2:Vals (vs++dvs) (us++ds):=r.append hd
 have hl:(us++ds).length=ps.length:=by rw[←r2.length];exact F.len _ _ _ _ h
 refine wpAny_call (codeAny_mono (F.run X.A X.stack s H ⟨us,[]⟩ (us++ds) (vs++dvs) Q E hr I.env0 (hb s us I.kIn hl) r2 h) fun r s' hq=>?_)
 cases r with
 |error e=>exact hx pins σ H s e s' I hq
 |ok fl=>
  cases fl with
  |ret u=>exact I.after hq
  |next=>exact False.elim hq
  |brk=>exact False.elim hq
  |cont=>exact False.elim hq
theorem pe_call(F:FnOk X.prog X.w X.K X.mg X.base CX k f fd ps sp)(hr:Room k X.A)(hg:Gl X x)(hm:X.mg x=some (.ref f))(hk:PySem.W.keepIn X.K (.ref f)=true)(hb:Binds X.K fd ps ds)(hd:Vals dvs ds)(hx:Passes CX X E)
  (ha:PA X (e::es) t) (hdb:(x==("__debug__":Str))=false:=by decide) (he:starEach (e::es) X.env=(false,eval e X.env)::starEach es X.env:=by rfl) (hpl:(backTo pos (starEach es X.env)).any (·.1)=false:=by rfl):
  PE X (.Call (.Name x p) (e::es) [] pos) (tCall sp dvs E t):=by
 intro pins s σ H Q I h
 refine wpAny_Call_Name_kw (yf1 I hg hm ?_ hdb)
 refine PySem.W.callWith_K (h₀:=X.base) I.ok.mod.kin hk (thn (ha pos pins s σ H _ I h) fun us s1 ⟨vs,H1,I1,r,q⟩=>⟨I1.kIn,?_⟩) he hpl
 exact run_fn F hr hb hd hx I1 r q
theorem pe_meth{pl:Sem Bool}(he:PE X o ta)(c:Cls X.K C)(hm:Meth X.K C m f)(F:FnOk X.prog X.w X.K X.mg X.base CX k f fd ps sp)(hr:Room k X.A)(hb:Binds X.K fd ps ds)(hd:Vals dvs ds)(hx:Passes CX X E)(ha:PA X (e::es) t)
  (hst:starEach (e::es) X.env=(false,eval e X.env)::starEach es X.env:=by rfl) (hpl:(backTo pos (starEach es X.env)).any (·.1)=false:=by rfl)
  (ht:eval (.Call (.Attribute o m apos) (e::es) [] pos) X.env=(do
   let ov ←eval o X.env
   standAt apos.atName
   let (f,first) ←holding [ov] (getMethod ov m pl)
   callWith pos f first (backTo pos (starEach (e::es) X.env)) (backToKw pos (keywordEach [] X.env))):=by rfl):
  PE X (.Call (.Attribute o m apos) (e::es) [] pos) (tMeth C m sp dvs E ta t):=by
 intro pins s σ H Q I h
 refine PySem.W.methodCall_KW (pl:=pl) (thn (he pins s σ H _ I h) fun u s1 ⟨x,H1,I1,rx,a,dx,fs,ex,ea,l,q⟩=>?_) ht
 subst ex
 obtain rfl:u=Value.ref a:=rx
 refine getmeth_ok I1 ea c hm l ?_
 refine PySem.W.callWith_K (first:=[.ref a]) (h₀:=X.base) I.ok.mod.kin hm.kp (thn (ha pos pins s1 σ H1 _ I1 q) fun us s2 ⟨vs,H2,I2,r,q2⟩=>⟨I2.kIn,?_⟩) hst hpl
 exact run_fn (us:=.ref a::us) (vs:=.ref a::vs) F hr hb hd hx I2 (.cons rfl r) q2
structure Mk(K:PySem.W.Frag)(C f:Addr):Prop where
 makes:PySem.W.makesIn K C=true
 init:PySem.W.findIn K (.ref C) "__init__"=some (some (.ref f))
 fn:PySem.W.isFn K (.ref f)=true
 kp:PySem.W.keepIn K (.ref C)=true
theorem run_make{pins:List (Addr×Obj)}{σ:St}{H:Hp}{s:Shared}{Q:VK}{us:List Value}{vs:List V}(M:Mk X.K C f)(F:FnOk X.prog X.w X.K X.mg X.base CX k f fd ps sp)(hr:Room (k+1) X.A)(hb:Binds X.K fd ps ds)(hd:Vals dvs ds)
  (hx:Passes CX X E) (I:Inv X pins σ H s) (r:Vals vs us)
  (h:∀x dx,H x=none→H dx=none→dx≠x→sp (.ref x::(vs++dvs)) (upd (upd H dx (.own x)) x (.ins C dx [])) (fun v H2=>v=.non∧Q (.ref x) H2) E):
  wpAny (model X.prog X.w) X.A (call (.ref C) us) (EP X pins σ Q) X.xe s:=by
 have hq:=h (s.heap.objs.size+1) s.heap.objs.size (I.hok.fresh (Nat.le_succ _)) (I.hok.fresh (Nat.le_refl _)) (Nat.ne_of_lt (Nat.lt_succ_self _))
 have I2:=Inv.made (C:=C) I
 have r2:Vals (V.ref (s.heap.objs.size+1)::(vs++dvs)) (Value.ref (s.heap.objs.size+1)::(us++ds)):=.cons rfl (r.append hd)
 have hl:(Value.ref (s.heap.objs.size+1)::us++ds).length=ps.length:=by
  have e:=r2.length
  rw[F.len _ _ _ _ hq] at e
  exact e.symm
 refine wpAny_call (make_map (f:=f) I.kIn M.makes M.init (beq_iff_eq.mp M.fn) (codeAny_mono (F.run _ X.stack _ _ ⟨Value.ref (s.heap.objs.size+1)::us,[]⟩ (Value.ref (s.heap.objs.size+1)::(us++ds)) _ _ E (hr.make C us [])
  (I2.env0.make C us []) (hb _ (Value.ref (s.heap.objs.size+1)::us) I2.kIn hl) r2 hq) fun r s' hq'=>?_))
 cases r with
 |error e=>exact hx pins σ _ _ e s' I2 hq'
 |ok fl=>
  cases fl with
  |ret u=>
   obtain⟨v,H',I3,rv,ev,q3⟩:=I2.after hq'
   subst ev
   exact⟨rv,⟨V.ref (s.heap.objs.size+1),H',I3,rfl,q3⟩⟩
  |next=>exact False.elim hq'
  |brk=>exact False.elim hq'
  |cont=>exact False.elim hq'
theorem pe_make(M:Mk X.K C f)(F:FnOk X.prog X.w X.K X.mg X.base CX k f fd ps sp)(hr:Room (k+1) X.A)(hg:Gl X x)(hm:X.mg x=some (.ref C))(hb:Binds X.K fd ps ds)(hd:Vals dvs ds)(hx:Passes CX X E)
  (ha:PA X (e::es) t) (hdb:(x==("__debug__":Str))=false:=by decide) (he:starEach (e::es) X.env=(false,eval e X.env)::starEach es X.env:=by rfl) (hpl:(backTo pos (starEach es X.env)).any (·.1)=false:=by rfl):
  PE X (.Call (.Name x p) (e::es) [] pos) (tMake C sp dvs E t):=by
 intro pins s σ H Q I h
 refine wpAny_Call_Name_kw (yf1 I hg hm ?_ hdb)
 refine PySem.W.callWith_K (h₀:=X.base) I.ok.mod.kin M.kp (thn (ha pos pins s σ H _ I h) fun us s1 ⟨vs,H1,I1,r,q⟩=>⟨I1.kIn,?_⟩) he hpl
 exact run_make M F hr hb hd hx I1 r q
theorem pe_make0(M:Mk X.K C f)(F:FnOk X.prog X.w X.K X.mg X.base CX k f fd ps sp)(hr:Room (k+1) X.A)(hg:Gl X x)(hm:X.mg x=some (.ref C))(hb:Binds X.K fd ps ds)(hd:Vals dvs ds)(hx:Passes CX X E)
  (hdb:(x==("__debug__":Str))=false:=by decide):PE X (.Call (.Name x p) [] [] pos) (tMake C sp dvs E tNil):=by
 intro pins s σ H Q I h
 refine wpAny_Call_Name_kw (yf1 I hg hm ?_ hdb)
 exact PySem.W.callWith_K0 I.kIn M.kp (run_make (us:=[]) M F hr hb hd hx I .nil h)
end
structure FnScope(N P:List Str)(sc:Scope):Prop where
 kind:sc.kind=.function
 co:sc.isCoroutine=false
 gen:sc.isGenerator=false
 nd:N.Nodup
 pre:N.take P.length=P
 par:∀x∈P,sc.names.lookup x=some .local∨sc.names.lookup x=some .cell
 nofree:∀y∈sc.names,y.2≠.free
theorem bindL_out{kindOf:Str→Option NameKind}{x:Str}:∀ {binds:List (Str×Value)} {m:Str→Option Value},(∀v,(x,v)∉binds)→bindL kindOf binds m x=m x
 |[],_,_=>rfl
 |(n,v)::r,m,h=>by
  unfold bindL
  rw[bindL_out fun w hw=>h w (List.mem_cons_of_mem _ hw)]
  split
  ·have:x≠n:=by rintro rfl;exact h v List.mem_cons_self
   simp[this]
  ·rfl
theorem bindC_out{kindOf:Str→Option NameKind}{x:Str}:∀ {binds:List (Str×Value)} {m:Str→Option Value},(∀v,(x,v)∉binds)→bindC kindOf binds m x=m x
 |[],_,_=>rfl
 |(n,v)::r,m,h=>by
  unfold bindC
  rw[bindC_out fun w hw=>h w (List.mem_cons_of_mem _ hw)]
  split
  ·rfl
  ·have:x≠n:=by rintro rfl;exact h v List.mem_cons_self
   simp[this]
theorem bindL_get{kindOf:Str→Option NameKind}{x:Str}{v:Value}:∀ {P:List Str} {vs:List Value} {i:Nat} {m:Str→Option Value},P.Nodup→P[i]? = some x→vs[i]? = some v→kindOf x=some .local→
  bindL kindOf (P.zip vs) m x=some v
 |[],_,_,_,_,h,_,_=>by simp at h
 |_::_,[],_,_,_,_,h,_=>by simp at h
 |p::P,w::vs,0,m,nd,h1,h2,hk=>by
  simp at h1 h2;subst h1;subst h2
  show bindL kindOf ((p,w)::P.zip vs) m p=_
  unfold bindL
  rw[bindL_out fun v hv=>(List.nodup_cons.mp nd).1 (List.of_mem_zip hv).1,if_pos hk]
  simp
 |p::P,w::vs,i+1,m,nd,h1,h2,hk=>by
  show bindL kindOf ((p,w)::P.zip vs) m x=_
  unfold bindL
  exact bindL_get (i:=i) (List.nodup_cons.mp nd).2 (by simpa using h1) (by simpa using h2) hk
theorem bindC_get{kindOf:Str→Option NameKind}{x:Str}{v:Value}:∀ {P:List Str} {vs:List Value} {i:Nat} {m:Str→Option Value},P.Nodup→P[i]? = some x→vs[i]? = some v→kindOf x≠some .local→
  bindC kindOf (P.zip vs) m x=some v
 |[],_,_,_,_,h,_,_=>by simp at h
 |_::_,[],_,_,_,_,h,_=>by simp at h
 |p::P,w::vs,0,m,nd,h1,h2,hk=>by
  simp at h1 h2;subst h1;subst h2
  show bindC kindOf ((p,w)::P.zip vs) m p=_
  unfold bindC
  rw[bindC_out fun v hv=>(List.nodup_cons.mp nd).1 (List.of_mem_zip hv).1,if_neg hk]
  simp
 |p::P,w::vs,i+1,m,nd,h1,h2,hk=>by
  show bindC kindOf ((p,w)::P.zip vs) m x=_
  unfold bindC
  exact bindC_get (i:=i) (List.nodup_cons.mp nd).2 (by simpa using h1) (by simpa using h2) hk
def start(N:List Str)(vs:List V):St:=vs.map some++List.replicate (N.length - vs.length) none
def cxOf(CX:CXT)(P:Program)(w:World)(K:PySem.W.Frag)(mg:Str→Option Value)(base:Heap)(N:List Str)(qual:Str)(scope:Scope)(f:Addr)(cd:Value)(A:Around)(outer:List Env)(s:Shared)(H:Hp)(E:XK):Cx where
 prog:=P
 w:=w
 K:=K
 mg:=mg
 base:=base
 A:=A.deeper (envOfC qual scope s.heap.objs.size f cd)
 N:=N
 s₀:=s
 H₀:=H
 env:=envOfC qual scope s.heap.objs.size f cd
 outer:=outer
 stack:=envOfC qual scope s.heap.objs.size f cd::outer
 ex:=[]
 calm:=true
 fn:=fun _=>true
 pn:=[]
 xe:=fun e s'=>wpAny (model P w) (A.deeper (envOfC qual scope s.heap.objs.size f cd)) (leaving (envOfC qual scope s.heap.objs.size f cd) e) (fun _ s''=>CX outer H s E e s'') (fun e' s''=>CX outer H s E e' s'') s'
theorem cell_has{sc:Scope}{n:Nat}{x:Str}(h:sc.names.lookup x=some .cell):∃c,(cellsFrom n sc.names []).lookup x=some c:=by
 have q:=PySem.W.cellsFrom_some sc.names n [] (.inl h)
 exact Option.isSome_iff_exists.mp q
theorem inv_start{CX:CXT}{P:Program}{w:World}{K:PySem.W.Frag}{mg:Str→Option Value}{base:Heap}{N ps:List Str}{qual:Str}{scope:Scope}{f:Addr}{cd:Value}{A:Around}{outer:List Env}{s s1:Shared}{H:Hp}{E:XK}{us:List Value}{vs:List V}
  (S:FnScope N ps scope) (hd:A.handled=none) (e0:Env0 P w K mg base A outer s H) (hl:vs.length=ps.length) (r:Vals vs us)
  (x:InCallC s s.heap.objs.size (bindL (envOfC qual scope s.heap.objs.size f cd).kindOf (ps.zip us) fun _=>none) (cellsFrom (s.heap.objs.size+1) scope.names []) (bindC (envOfC qual scope s.heap.objs.size f cd).kindOf (ps.zip us) fun _=>none) s1):
  Inv (cxOf CX P w K mg base N qual scope f cd A outer s H E) [] (start N vs) H s1:=by
 have hpl:ps.length≤N.length:=by have:=congrArg List.length S.pre;rw[List.length_take] at this;omega
 obtain⟨h1,tk,rfl,hk⟩:=x.done
 have noA:∀b:Addr,b∉(cxOf CX P w K mg base N qual scope f cd A outer s H E).ex:=fun b z=>absurd (show b∈([]:List Addr) from z) (by simp)
 refine⟨⟨e0.mod,S.kind,rfl,rfl,Nat.le_refl _,fun y z c h1 h2=>?_,fun y hy=>?_,fun y c _ h=>?_,fun _=>hd,Around.frames_deeper e0.frames,.inr ⟨rfl,rfl⟩,fun b z=>absurd z (noA b),e0.bs,e0.bsz,fun b _ _=>noA b,fun b z=>absurd z (noA b),e0.funs,e0.frf⟩,
  rfl,e0.bare,Un.kept hk,⟨_,x.toInCall.ns,fun i y v h1 h2 h3=>?_⟩,fun y c h=>⟨_,x.cell y c h⟩,e0.hok.fresh (Nat.le_refl _),fun y c h=>?_,fun p hp=>absurd (show p∈([]:List (Addr×Obj)) from hp) (by simp),e0.hok.kept hk,?_⟩
 ·exact name_of_addr x.apart (PySem.mem_of_lookup h1) (PySem.mem_of_lookup h2)
 ·have hy:scope.names.lookup y=some .cell∨scope.names.lookup y=some .free:=hy
  rcases hy with hy|hy
  ·exact cell_has hy
  ·exact absurd rfl (S.nofree _ (PySem.mem_of_lookup hy))
 ·exact Nat.le_of_lt (x.above y c (PySem.mem_of_lookup h))
 ·have hi:i<vs.length:=by
   unfold start at h2
   by_cases hi:i<vs.length
   ·exact hi
   ·rw[List.getElem?_append_right (by simpa using hi)] at h2
    rw[List.getElem?_replicate] at h2
    split at h2<;>cases h2
  have ha:vs[i]? = some v:=by
   unfold start at h2
   rw[List.getElem?_append_left (by simpa using hi),List.getElem?_map] at h2
   cases e:vs[i]? with
   |none=>rw[e] at h2;cases h2
   |some a=>rw[e] at h2;cases h2;rfl
  obtain⟨u,hu,rv⟩:=r.get ha
  have hp:ps[i]? = some y:=by
   rw[←S.pre,List.getElem?_take_of_lt (by omega)];exact h1
  have ndP:ps.Nodup:=by rw[←S.pre];exact S.nd.sublist (List.take_sublist _ _)
  refine⟨u,rv,?_⟩
  rcases S.par y (List.mem_of_getElem? hp) with k|k
  ·exact .inl ⟨k,bindL_get ndP hp hu k⟩
  ·obtain⟨c,e⟩:=cell_has (n:=s.heap.objs.size+1) k
   refine .inr ⟨.inl k,c,e,?_⟩
   have q:=x.cell y c e
   rw[bindC_get ndP hp hu (by show scope.names.lookup y≠_;rw[k];decide)] at q
   exact q
 ·exact e0.hok.fresh (Nat.le_of_lt (x.above y c (PySem.mem_of_lookup h)))
 ·unfold start
  show _=N.length
  rw[List.length_append,List.length_map,List.length_replicate]
  omega
theorem fn_of{CX:CXT}{P:Program}{w:World}{K:PySem.W.Frag}{mg:Str→Option Value}{base:Heap}{k:Nat}{f:Addr}{name qual:Str}{params:Arguments}{body:List Stmt}{scope:Scope}{dV kV doc pm cdv ct oc:Value}{an od:Option Addr}
  {osl:Array (Option Value)} {N ps:List Str} {sp:Sp} (lk:K.lookup f=some ⟨oc,od,.func (PySem.W.fnOf name qual params body scope dV kV doc pm an cdv ct),osl⟩) (hcd:PySem.W.codeIn K cdv qual=true) (S:FnScope N ps scope)
  (len:∀vs H Q E,sp vs H Q E→vs.length=ps.length)
  (hbody:∀(A:Around) (outer:List Env) (s:Shared) (H:Hp) (vs:List V) (Q:VK) (E:XK),Room k (A.deeper (envOfC qual scope s.heap.objs.size f cdv))→sp vs H Q E→
   ∃t,PSs (cxOf CX P w K mg base N qual scope f cdv A outer s H E) body t∧t { nx:=fun _ H'=>Q .non H',rt:=Q } (start N vs) H):
  FnOk P w K mg base CX (k+1) f (PySem.W.fnOf name qual params body scope dV kV doc pm an cdv ct) ps sp:=by
 refine⟨len,fun A outer s H args us vs Q E hr e0 hb r hsp=>?_⟩
 have hl:=len _ _ _ _ hsp
 have KX:K.In s.heap:=e0.mod.kin.keeps fun b o e=>(e0.bs b o e).1
 have lim:s.heap.NoLimit:=e0.mod.nolimit.keeps fun b o e=>(e0.bs b o e).1
 have hkind:∀y∈ps.zip us,scope.names.lookup y.1=some .local∨(scope.names.lookup y.1=some .cell∧((cellsFrom (s.heap.objs.size+1) scope.names []).lookup y.1).isSome=true):=fun⟨n,v⟩ hy=>by
  rcases S.par n (List.of_mem_zip hy).1 with q|q
  ·exact .inl q
  ·exact .inr ⟨q,PySem.W.cellsFrom_some _ _ _ (.inl q)⟩
 refine codeAny_call_function hr.depth (KX _ _ lk) rfl S.co S.gen rfl (PySem.W.codeRec_of KX hcd) (hb _ _ _ _ ?_)
 refine wpAny_newFunctionEnv_cells S.kind hkind fun env he s1 x=>?_
 subst he
 refine⟨lim.keeps x.toInCall.keep,codeAny_func ?_⟩
 obtain⟨t,ht,hq⟩:=hbody A outer s H vs Q E (hr.deeper _) hsp
 have I:Inv (cxOf CX P w K mg base N qual scope f cdv A outer s H E) [] (start N vs) H s1:=inv_start S hr.hd e0 hl r x
 refine wpAny_mono (ht [] s1 (start N vs) H _ I hq) (fun fl s' hs=>?_) fun e s' hs=>hs
 have fin:∀ {σ':St} {H':Hp} {v:V} {u:Value},Inv (cxOf CX P w K mg base N qual scope f cdv A outer s H E) [] σ' H' s'→RelV v u→Q v H'→CE outer P w H s Q u s':=
  fun {σ' H' v u} J rv q=>⟨v,H',J.os,J.bare,J.base,J.hok,rv,q⟩
 cases fl with
 |ret u=>
  obtain⟨v,σ',H',J,rv,q⟩:=hs
  exact fin J rv q
 |next=>
  obtain⟨σ',H',J,q⟩:=hs
  exact fin (v:=V.non) (u:=Value.none) J rfl q
 |brk=>
  obtain⟨_,_,_,q⟩:=hs
  exact False.elim q
 |cont=>
  obtain⟨_,_,_,q⟩:=hs
  exact False.elim q
section
variable {X:Cx}{x:Str}{p pos:Pos}{e:Expr}{es:List Expr}{t:TA}{id T:String}{r:List V→Hp→VK→Prop}
def tCB(r:List V→Hp→VK→Prop)(t:TA):TE:=fun σ H Q=>t σ H fun vs H1=>r vs H1 Q
theorem pe_callB(hc:CallR X (.builtin id) r)(hg:Gl X x)(hm:X.mg x=none)(hv:bootBuiltins x=some (.builtin id))(ha:PA X (e::es) t)(hn:x≠"__name__":=by decide)(hdb:(x==("__debug__":Str))=false:=by decide)
  (he:starEach (e::es) X.env=(false,eval e X.env)::starEach es X.env:=by rfl) (hpl:(backTo pos (starEach es X.env)).any (·.1)=false:=by rfl):PE X (.Call (.Name x p) (e::es) [] pos) (tCB r t):=by
 intro pins s σ H Q I h
 refine wpAny_Call_Name_kw (ld_blt I hg hm hv ?_ hn hdb)
 exact PyProof.Rows.callWith_builtin1 (thn (ha pos pins s σ H _ I h) fun us s1 ⟨vs,H1,I1,r1,q1⟩=>hc pins s1 σ H1 vs us Q I1 r1 q1) he hpl
theorem pe_callTy(hc:CallR X (.type T) r)(hg:Gl X x)(hm:X.mg x=none)(hv:bootBuiltins x=some (.type T))(ha:PA X (e::es) t)(hn:x≠"__name__":=by decide)(hdb:(x==("__debug__":Str))=false:=by decide)
  (he:starEach (e::es) X.env=(false,eval e X.env)::starEach es X.env:=by rfl) (hpl:(backTo pos (starEach es X.env)).any (·.1)=false:=by rfl):PE X (.Call (.Name x p) (e::es) [] pos) (tCB r t):=by
 intro pins s σ H Q I h
 refine wpAny_Call_Name_kw (ld_blt I hg hm hv ?_ hn hdb)
 exact PyProof.Rows.callWith_type1 (thn (ha pos pins s σ H _ I h) fun us s1 ⟨vs,H1,I1,r1,q1⟩=>hc pins s1 σ H1 vs us Q I1 r1 q1) he hpl
end
end L2
namespace HT
open PySem PyProof.Rows
def lexLt:List Int→List Int→Bool
 |[],[]=>false
 |[],_::_=>true
 |_::_,[]=>false
 |x::xs,y::ys=>if x=y then lexLt xs ys else decide (x<y)
theorem lexLt_cons(x y:Int)(xs ys:List Int):lexLt (x::xs) (y::ys)=if x=y then lexLt xs ys else decide (x<y):=rfl
theorem lexLt_nil_cons(y:Int)(ys:List Int):lexLt [] (y::ys)=true:=rfl
theorem eqAt_int(A:Around)(s:Shared)(a:Int)(t:Tok)(c:Int)(u:Tok):∃e,SeqAt.EqAt A s (.int a t) (.int c u) e∧(e=true↔a=c):=
 ⟨(a==c),SeqAt.EqAt.int_int a t c u,by simp⟩
theorem rcLt_int(A:Around)(s:Shared)(a:Int)(t:Tok)(c:Int)(u:Tok)(prog:Program)(w:World)(E:Value→Shared→Prop)(Q:Value→Shared→Prop)(h:Q (.bool (decide (a<c))) s):
  wpAny (model prog w) A (richCompare .Lt (.int a t) (.int c u)) Q E s:=
 (PyProof.Rows.lt_int h:wpAny (model prog w) A (compareOp .Lt (.int a t) (.int c u)) Q E s)
section
open PySem.SeqAt
open PySem.AutoSeq1 (wpAny_loadPart')
open PySem.MeetsSeq PySem.MeetsSeq2 PySem.MeetsSeq3
end
section
variable {prog:Program}{w:World}{A:Around}{E:Value→Shared→Prop}{s:Shared}
theorem cat_tup{t b:Addr}{vs ws:List Value}{Q:Value→Shared→Prop}(ht:IsTup s.heap t vs.toArray)(hb:IsTup s.heap b ws.toArray)(hv:vs≠[])
  (h1:ws=[]→Q (.ref t) s) (h2:ws≠[]→Q (.ref s.heap.objs.size) { s with heap:=s.heap.push { cls:=.type "tuple",data:=.seq (vs++ws).toArray } })
  (hsz:vs.length+ws.length≤sizeLine):wpAny (model prog w) A (binaryOp .Add (.ref t) (.ref b)) Q E s:=by
 obtain⟨⟨cls,dd,data,sl⟩,ho,hc,n,hd⟩:=id ht
 obtain⟨⟨cls2,dd2,data2,sl2⟩,ho2,hc2,n2,hd2⟩:=id hb
 simp only at hc hd hc2 hd2
 subst hc hd hc2 hd2
 have e:vs.toArray++ws.toArray=(vs++ws).toArray:=by simp
 by_cases hw:ws=[]
 ·exact concat_meets ⟨_,ho,rfl⟩ ⟨_,ho2,rfl⟩ noFill_tuple_add seq_tuple_add PySem.F.slot_tuple_add PySem.F.entry_tuple_add (PySem.F.args_tuple_add_2 _ _)
   (tuple_addW1 t b vs.toArray ws.toArray n n2 dd dd2 sl sl2 (by simpa using hv) (by simp[hw])) ⟨ho,ho2,h1 hw⟩
 ·refine concat_meets ⟨_,ho,rfl⟩ ⟨_,ho2,rfl⟩ noFill_tuple_add seq_tuple_add PySem.F.slot_tuple_add PySem.F.entry_tuple_add (PySem.F.args_tuple_add_2 _ _)
   (tuple_addW2 t b vs.toArray ws.toArray n n2 dd dd2 sl sl2 (by simpa using hv) (by simpa using hw) (by rw[List.size_toArray,List.size_toArray];exact hsz)) ⟨ho,ho2,?_⟩
  rw[e]
  exact h2 hw
def sIx(n d:Nat):Option Int→Nat
 |none=>d
 |some v=>if v<0 then(v+(n:Int)).toNat else min v.toNat n
theorem sIx_none(n d:Nat):sIx n d none=d:=rfl
theorem sIx_nat(n d k:Nat):sIx n d (some (k:Int))=min k n:=by
 show(if(k:Int)<0 then((k:Int)+(n:Int)).toNat else min (k:Int).toNat n)=min k n
 rw[if_neg (by omega),Int.toNat_natCast]
theorem sIx_le(n d:Nat)(hd:d≤n)(o:Option Int):sIx n d o≤n:=by
 cases o with
 |none=>exact hd
 |some v=>
  show(if v<0 then(v+(n:Int)).toNat else min v.toNat n)≤n
  by_cases hv:v<0
  ·rw[if_pos hv];omega
  ·rw[if_neg hv];exact Nat.min_le_right _ _
theorem clip_eq(v:Int)(n d:Nat):(if v<0 then max (v+(n:Int)) 0 else min v (n:Int))=((sIx n d (some v):Nat):Int):=by
 show(if v<0 then max (v+(n:Int)) 0 else min v (n:Int))=(((if v<0 then(v+(n:Int)).toNat else min v.toNat n):Nat):Int)
 by_cases hv:v<0
 ·simp only[if_pos hv];omega
 ·simp only[if_neg hv];omega
theorem adjust_gen(lo hi:Option Int)(n:Nat):Builtin.Slice.sliceAdjust lo hi 1 (n:Int)=(((sIx n 0 lo:Nat):Int),((sIx n n hi:Nat):Int)):=by
 have h1:¬((1:Int)<0):=by omega
 unfold Builtin.Slice.sliceAdjust
 simp only[h1,if_false]
 refine Prod.ext ?_ ?_
 ·cases lo with
  |none=>rfl
  |some v=>exact clip_eq v n 0
 ·cases hi with
  |none=>rfl
  |some v=>exact clip_eq v n n
theorem places_gen(i j:Nat):Builtin.Slice.slicePlaces (i:Int) (j:Int) 1=j - i:=by
 unfold Builtin.Slice.slicePlaces
 have h1:(1:Int) > 0:=by omega
 simp only[h1,if_true,Int.ediv_one]
 split<;>omega
theorem yh9{v:Value}{o:Option Int}{Q:Option Int→Shared→Prop}(p:IsPart v o)(h:Q o s):wpAny (model prog w) A (Builtin.Slice.slicePartIndex v) Q E s:=by
 cases p with
 |none=>exact slicePart_none h
 |int i t=>exact slicePart_int h
theorem yb5{sl:Addr}{vl vu:Value}{lo hi:Option Int}{n:Nat}{Q:Int×Int×Nat→Shared→Prop}(hs:s.heap.IsSliceOf sl vl vu .none)(pl:IsPart vl lo)(pu:IsPart vu hi)
  (h:Q (((sIx n 0 lo:Nat):Int),1,sIx n n hi - sIx n 0 lo) s):wpAny (model prog w) A (Builtin.Slice.sliceApplied (.ref sl) (pure (n:Int))) Q E s:=by
 obtain⟨os,hos,hcs,hds⟩:=id hs
 unfold Builtin.Slice.sliceApplied Builtin.Slice.sliceFields
 refine wpAny_bind (wpAny_bind (wpAny_field hos hds (x:=vl) rfl (wpAny_bind (wpAny_field hos hds (x:=vu) rfl (wpAny_bind (wpAny_field hos hds (x:=.none) rfl (wpAny_pure ?_)))))))
 refine wpAny_bind (slicePart_none ?_)
 show wpAny _ _ (if((1:Int)==0)=true then _ else _) _ _ s
 rw[if_neg (by decide)]
 refine wpAny_bind (yh9 pl (wpAny_bind (yh9 pu (wpAny_bind (wpAny_pure ?_)))))
 show wpAny _ _ (match Builtin.Slice.sliceAdjust lo hi 1 (n:Int) with|(lo,hi)=>pure (lo,(1:Int),Builtin.Slice.slicePlaces lo hi 1)) _ _ s
 rw[adjust_gen lo hi n]
 show wpAny _ _ (pure (((sIx n 0 lo:Nat):Int),(1:Int),Builtin.Slice.slicePlaces ((sIx n 0 lo:Nat):Int) ((sIx n n hi:Nat):Int) 1)) _ _ s
 rw[places_gen]
 exact wpAny_pure h
theorem pick_gen(xs:Array Value)(i k:Nat):((List.range k).filterMap fun(m:Nat)=>xs[((i:Int)+(m:Int)*1).toNat]?).toArray=((xs.toList.drop i).take k).toArray:=by
 have e:(fun(m:Nat)=>xs[((i:Int)+(m:Int)*1).toNat]?)=fun m=>xs[i+m]? :=by
  funext m
  have:((i:Int)+(m:Int)*1).toNat=i+m:=by omega
  rw[this]
 rw[e]
 have:=pick_run xs i k
 rw[List.filterMap_map] at this
 have e2:((fun x=>xs[x]?)∘fun x=>i+x)=fun m=>xs[i+m]? :=rfl
 rw[e2] at this
 rw[this]
theorem getItem_tuple_cut{t sl:Addr}{items:Array Value}{vl vu:Value}{lo hi:Option Int}{Q:Value→Shared→Prop}(ht:IsTup s.heap t items)(hs:s.heap.IsSliceOf sl vl vu .none)(pl:IsPart vl lo)(pu:IsPart vu hi)
  (hw:¬(sIx items.size 0 lo=0∧sIx items.size items.size hi=items.size))
  (h:Q (.ref s.heap.objs.size) { s with heap:=s.heap.push { cls:=.type "tuple",data:=.seq ((items.toList.drop (sIx items.size 0 lo)).take (sIx items.size items.size hi - sIx items.size 0 lo)).toArray } })
  (hsz:items.size≤sizeLine):wpAny (model prog w) A (getItem (.ref t) (.ref sl)) Q E s:=by
 have htake:sizeOk (.seq ((items.toList.drop (sIx items.size 0 lo)).take (sIx items.size items.size hi - sIx items.size 0 lo)).toArray):=by
  show((items.toList.drop (sIx items.size 0 lo)).take (sIx items.size items.size hi - sIx items.size 0 lo)).toArray.size≤sizeLine
  rw[List.size_toArray,List.length_take,List.length_drop,Array.length_toList]
  omega
 have hj:sIx items.size items.size hi≤items.size:=sIx_le _ _ (Nat.le_refl _) hi
 obtain⟨os,hos,hcs,hds⟩:=id hs
 have hTs:s.TypeIs (.ref sl) "slice":=⟨os,hos,hcs⟩
 unfold getItem
 try with_reducible refine wpAny_holding ?_
 first|refine wpAny_bind (wpAny_pure ?_)|skip
 refine wpAny_bind (wpAny_sequenceKey ht.typeIs (by decide) ?_)
 refine wpAny_bind (wpAny_callSpecial?_slot (name:=Str.ofString "__getitem__") ht.typeIs PyProof.Rows.slot_tuple_getitem
  (wpAny_call_entry PyProof.Rows.slot_tuple_getitem ht.typeIs entry_tuple_getitem ?_ (args_tuple_getitem _ _)))
 show wpAny _ _ (Builtin.Tuple.tupleItemsOf (.ref t) >>= _) _ _ s
 refine wpAny_bind (tupleItemsOf_ ht ?_)
 refine wpAny_bind (wpAny_typeOf hTs ?_)
 rw[if_pos (by decide)]
 refine wpAny_bind (yb5 hs pl pu ?_)
 have hno:¬((((sIx items.size 0 lo:Nat):Int)==0&&(1:Int)==1&&(sIx items.size items.size hi - sIx items.size 0 lo)==items.size)=true):=by
  intro q
  rw[Bool.and_eq_true,Bool.and_eq_true] at q
  have q1:((sIx items.size 0 lo:Nat):Int)=0:=eq_of_beq q.1.1
  have q2:sIx items.size items.size hi - sIx items.size 0 lo=items.size:=eq_of_beq q.2
  exact hw ⟨by omega,by omega⟩
 show wpAny _ _ (if(((sIx items.size 0 lo:Nat):Int)==0&&(1:Int)==1&&(sIx items.size items.size hi - sIx items.size 0 lo)==items.size)=true then _ else _) _ _ s
 rw[if_neg hno,pick_gen]
 first
  |exact wpAny_bind (m:=Builtin.Tuple.tupleExact _) (wpAny_newObj_type (wpAny_pure ⟨_,rfl,wpAny_pure h⟩) htake)
  |exact wpAny_bind (m:=Builtin.Tuple.tupleExact _) (wpAny_newObj_type (wpAny_bind (wpAny_pure (wpAny_pure ⟨_,rfl,wpAny_pure h⟩))) htake)
  |exact wpAny_bind (wpAny_bind (m:=Builtin.Tuple.tupleExact _) (wpAny_newObj_type (wpAny_pure (wpAny_pure ⟨_,rfl,wpAny_pure h⟩)) htake))
  |exact wpAny_bind (wpAny_bind (m:=Builtin.Tuple.tupleExact _) (wpAny_newObj_type (wpAny_pure ⟨_,rfl,wpAny_pure h⟩) htake))
end
end HT
namespace L2
open PySem PySem.Spec PyProof.Rows
abbrev TO:=St→Hp→(Option Int→Hp→Prop)→Prop
def PO(X:Cx)(e:Option Expr)(t:TO):Prop:=
 ∀(pins:List (Addr×Obj)) (s:Shared) (σ:St) (H:Hp) (Q:Option Int→Hp→Prop),Inv X pins σ H s→t σ H Q→
  wpAny (model X.prog X.w) X.A (evalPart e X.env) (fun u s'=>∃o H',Inv X pins σ H' s'∧IsPart u o∧Q o H') X.xe s
def tNoPart:TO:=fun _ H Q=>Q none H
def tPart(t:TE):TO:=fun σ H Q=>t σ H fun x H1=>∃i,x=.int i∧Q (some i) H1
theorem ya2{ns:List Int}:∀ {us:List Value},Vals (ns.map V.int) us→IntsAre us ns:=by
 induction ns with
 |nil=>intro us r;rw[List.map_nil] at r;cases r;exact .nil
 |cons n ns ih=>
  intro us r
  rw[List.map_cons] at r
  cases r with
  |cons r1 r2=>
   obtain⟨t,e⟩:=r1
   subst e
   exact .cons n t (ih r2)
section
variable {X:Cx}{e:Expr}{te:TE}{lo hi:Option Expr}{tl th:TO}{pos p2:Pos}
theorem po_none:PO X none tNoPart:=by
 intro pins s σ H Q I h
 rw[evalPart_none]
 exact wpAny_pure ⟨none,H,I,.none,h⟩
theorem po_some(h:PE X e te):PO X (some e) (tPart te):=by
 intro pins s σ H Q I hw
 rw[evalPart_some]
 refine thn (h pins s σ H _ I hw) fun u s1 ⟨x,H1,I1,r1,q1⟩=>?_
 obtain⟨i,rfl,q⟩:=q1
 obtain⟨t,rfl⟩:=r1
 exact⟨some i,H1,I1,.int i t,q⟩
def SlR(X:Cx)(r:V→Option Int→Option Int→Hp→VK→Prop):Prop:=
 ∀(pins:List (Addr×Obj)) (s:Shared) (σ:St) (H:Hp) (x:V) (v vl vu:Value) (lo hi:Option Int) (sl:Addr) (Q:VK),Inv X pins σ H s→RelV x v→s.heap.IsSliceOf sl vl vu .none→IsPart vl lo→IsPart vu hi→r x lo hi H Q→
  ∃T id,typeLookup (.type T) "__getitem__"=pure (some (.builtin id))∧s.TypeIs v T∧wpAny (model X.prog X.w) X.A (getItem v (.ref sl)) (EP X pins σ Q) X.xe s
def tSl(r:V→Option Int→Option Int→Hp→VK→Prop)(te:TE)(tl th:TO):TE:=fun σ H Q=>te σ H fun x H1=>tl σ H1 fun l H2=>th σ H2 fun u H3=>r x l u H3 Q
theorem pe_slice{r:V→Option Int→Option Int→Hp→VK→Prop}(hr:SlR X r)(he:PE X e te)(hl:PO X lo tl)(hu:PO X hi th):PE X (.Subscript e (.Slice lo hi none p2) pos) (tSl r te tl th):=by
 intro pins s σ H Q I h
 refine Subscript_ (thn (he pins s σ H _ I h) fun v s1 ⟨x,H1,I1,r1,q1⟩=>?_)
 refine wpAny_Slice (thn (hl pins s1 σ H1 _ I1 q1) fun vl s2 ⟨l,H2,I2,pl,q2⟩=>thn (hu pins s2 σ H2 _ I2 q2) fun vu s3 ⟨u,H3,I3,pu,q3⟩=>?_)
 rw[evalPart_none]
 refine wpAny_pure ?_
 have I4:Inv X pins σ H3 { s3 with heap:=s3.heap.push { cls:=.type "slice",data:=.fields #[vl,vu,.none] } }:=I3.kept (t':=s3.toks) fun b ob q=>Heap.get?_push_of_some _ q
 obtain⟨T,id,hT,ht,hg⟩:=hr pins { s3 with heap:=s3.heap.push { cls:=.type "slice",data:=.fields #[vl,vu,.none] } } σ H3 x v vl vu l u s3.heap.objs.size Q I4 r1 (Heap.IsSliceOf.new ..) pl pu q3
 show wpAny (model X.prog X.w) X.A (subscriptTail e (.Slice lo hi none p2) v (.ref s3.heap.objs.size)) (EP X pins σ Q) X.xe { s3 with heap:=s3.heap.push { cls:=.type "slice",data:=.fields #[vl,vu,.none] } }
 exact tail_any (ops:=[.ref s3.heap.objs.size,v]) ht hT hg (by with_unfolding_all rfl)
def cutV(xs:List V)(lo hi:Option Int):List V:=(xs.drop (HT.sIx xs.length 0 lo)).take (HT.sIx xs.length xs.length hi - HT.sIx xs.length 0 lo)
theorem yg3(xs:List V)(lo hi:Option Int):(cutV xs lo hi).length≤xs.length:=by
 unfold cutV
 rw[List.length_take,List.length_drop]
 omega
def rSlT(K:PySem.W.Frag):V→Option Int→Option Int→Hp→VK→Prop:=fun x lo hi H Q=>∃a xs,x=.ref a∧SqT K H a xs∧
 ¬(HT.sIx xs.length 0 lo=0∧HT.sIx xs.length xs.length hi=xs.length)∧∀p,H p=none→Q (.ref p) (upd H p (.tup (cutV xs lo hi)))
theorem sl_tup:SlR X (rSlT X.K):=by
 intro pins s σ H x v vl vu lo hi sl Q I rx hs pl pu h
 obtain⟨a,xs,rfl,hx,hw,q⟩:=h
 cases rx
 obtain⟨its,r,ht,hz⟩:=I.tuple hx
 have hlen:its.toArray.size=xs.length:=by rw[List.size_toArray];exact r.length.symm
 refine⟨"tuple",_,PyProof.Rows.slot_tuple_getitem.lookup,ht.typeIs,?_⟩
 refine HT.getItem_tuple_cut ht hs pl pu (by rw[hlen];exact hw) ?_ (by rw[hlen];exact hz)
 rw[hlen]
 refine⟨.ref s.heap.objs.size,_,I.laid (t':=s.toks) (o:=.tup (cutV xs lo hi)) (fun b ob q=>Heap.get?_push_of_some _ q) (Nat.le_refl _) ?_,rfl,q _ (I.hok.fresh (Nat.le_refl _))⟩
 exact⟨Nat.le_trans (yg3 xs lo hi) hz,_,(r.drop (HT.sIx xs.length 0 lo)).take (HT.sIx xs.length xs.length hi - HT.sIx xs.length 0 lo),IsTup.new _ _⟩
def rCatT(K:PySem.W.Frag):R2:=fun x y H Q=>∃a b xs ys,x=.ref a∧y=.ref b∧SqT K H a xs∧SqT K H b ys∧xs≠[]∧xs.length+ys.length≤sizeLine∧
 (ys=[]→Q (.ref a) H)∧(ys≠[]→∀p,H p=none→Q (.ref p) (upd H p (.tup (xs++ys))))
theorem Vals.nil_iff{xs:List V}{us:List Value}(r:Vals xs us):us=[]↔xs=[]:=by
 cases r with
 |nil=>simp
 |cons _ _=>simp
theorem op_catT:OpR X (binaryOp .Add) (rCatT X.K):=by
 intro pins s σ H x y v u Q I rx ry h
 obtain⟨a,b,xs,ys,rfl,rfl,ha,hb,hx,hz,q1,q2⟩:=h
 cases rx
 cases ry
 obtain⟨its,r1,p1,_⟩:=I.tuple ha
 obtain⟨its2,r2,p2,_⟩:=I.tuple hb
 refine HT.cat_tup p1 p2 (fun z=>hx (r1.nil_iff.mp z)) (fun z=>⟨.ref a,H,I,rfl,q1 (r2.nil_iff.mp z)⟩) (fun z=>?_) (by rw[←r1.length,←r2.length];exact hz)
 refine⟨.ref s.heap.objs.size,_,I.laid (t':=s.toks) (o:=.tup (xs++ys)) (fun b ob q=>Heap.get?_push_of_some _ q) (Nat.le_refl _) ?_,rfl,q2 (fun w=>z (r2.nil_iff.mpr w)) _ (I.hok.fresh (Nat.le_refl _))⟩
 exact⟨by rw[List.length_append];exact hz,_,r1.append r2,IsTup.new _ _⟩
end
def ixN(n:Nat)(i:Int):Option Nat:=if 0≤i then(if i<n then some i.toNat else none) else if -(n:Int)≤i then some (i+n).toNat else none
def atI{α:Type}(xs:List α)(i:Int):Option α:=(ixN xs.length i).bind fun j=>xs[j]?
theorem ixN_seq{n:Nat}{i:Int}{j:Nat}(h:ixN n i=some j):seqIndex? i n=some j∧j<n ∧ -(n:Int)≤i∧i<n:=by
 unfold ixN at h
 by_cases h0:0≤i
 ·rw[if_pos h0] at h
  by_cases h1:i<n
  ·rw[if_pos h1] at h
   have e:i.toNat=j:=Option.some.inj h
   exact⟨by rw[seqIndex_of h0 h1,e],by omega,by omega,h1⟩
  ·rw[if_neg h1] at h;cases h
 ·rw[if_neg h0] at h
  by_cases h1 : -(n:Int)≤i
  ·rw[if_pos h1] at h
   have e:(i+n).toNat=j:=Option.some.inj h
   exact⟨by rw[seqIndex_neg (by omega) h1,e],by omega,h1,by omega⟩
  ·rw[if_neg h1] at h;cases h
theorem atI_get{α:Type}{xs:List α}{i:Int}{v:α}(h:atI xs i=some v):∃j,seqIndex? i xs.length=some j∧xs[j]? = some v∧j<xs.length ∧ -(xs.length:Int)≤i∧i<xs.length:=by
 unfold atI at h
 cases e:ixN xs.length i with
 |none=>rw[e] at h;cases h
 |some j=>
  rw[e] at h
  obtain⟨h1,h2,h3,h4⟩:=ixN_seq e
  exact⟨j,h1,h,h2,h3,h4⟩
theorem zh0{α:Type}{xs:List α}{j:Nat}{v:α}(h:xs[j]? = some v):atI xs (j:Int)=some v:=by
 have hj:j<xs.length:=(List.getElem?_eq_some_iff.mp h).1
 have e:ixN xs.length (j:Int)=some j:=by
  unfold ixN
  rw[if_pos (by omega),if_pos (by omega)];simp
 unfold atI;rw[e];exact h
theorem atI_last{α:Type}(xs:List α)(v:α):atI (xs++[v]) (-1)=some v:=by
 have hl:(xs++[v]).length=xs.length+1:=by simp
 have e:ixN (xs++[v]).length (-1)=some xs.length:=by
  unfold ixN
  rw[hl,if_neg (by decide),if_pos (by omega)]
  congr 1
  omega
 unfold atI
 rw[e]
 show(xs++[v])[xs.length]? = some v
 simp
def PlainIx(b:Expr):Prop:=∀o i,subscripted b false o i=operate [o,i] (getItem o i)
def IxR(X:Cx)(r:R2):Prop:=
 ∀(value slice:Expr) (pins:List (Addr×Obj)) (s:Shared) (σ:St) (H:Hp) (x y:V) (v u:Value) (Q:VK),Inv X pins σ H s→RelV x v→RelV y u→r x y H Q→
  subscripted slice false v u=operate [v,u] (getItem v u)→wpAny (model X.prog X.w) X.A (subscriptTail value slice v u) (EP X pins σ Q) X.xe s
def MtR(X:Cx)(id:String)(r:V→List V→Hp→VK→Prop):Prop:=
 ∀(pins:List (Addr×Obj)) (s:Shared) (σ:St) (H:Hp) (x:V) (xs:List V) (v:Value) (us:List Value) (Q:VK),Inv X pins σ H s→RelV x v→Vals xs us→r x xs H Q→
  wpAny (model X.prog X.w) X.A (call (.builtin id) (v::us)) (EP X pins σ Q) X.xe s
section
variable {X:Cx}{a b:Expr}{ta tb:TE}{pos:Pos}
theorem pe_ix{r:R2}(hr:IxR X r)(ha:PE X a ta)(hb:PE X b tb)(hs:PlainIx b):PE X (.Subscript a b pos) (tOp r ta tb):=by
 intro pins s σ H Q I h
 exact Subscript_ (binT ha hb I h fun v u s2 x y H2 I2 rx ry q=>hr a b pins s2 σ H2 x y v u Q I2 rx ry q (hs _ _))
def rIxL(K:PySem.W.Frag):R2:=fun x y H Q=>∃p xs i v,x=.ref p∧y=.int i∧SqL K H p xs∧atI xs i=some v∧Q v H
def rIxT(K:PySem.W.Frag):R2:=fun x y H Q=>∃p xs i v,x=.ref p∧y=.int i∧SqT K H p xs∧atI xs i=some v∧Q v H
def rIxS:R2:=fun x y H Q=>∃z i c,x=.str z∧y=.int i∧z.length≤sizeLine∧atI z.cps.toList i=some c∧Q (.str ⟨#[c]⟩) H
theorem zf8:IxR X (rIxL X.K):=by
 intro value slice pins s σ H x y v u Q I rx ry h hs
 obtain⟨p,xs,i,z,rfl,rfl,hq,he,q⟩:=h
 cases rx
 obtain⟨t,rfl⟩:=ry
 obtain⟨its,r,pl,hz⟩:=I.list hq
 obtain⟨j,h1,h2,h3,h4,h5⟩:=atI_get he
 obtain⟨w,ew,rw'⟩:=r.get h2
 have hl:=r.length
 have hn:=yk0
 have fin:EP X pins σ Q w s:=⟨z,H,I,rw',q⟩
 by_cases h0:0≤i
 ·have hj:i.toNat=j:=by
   rw[seqIndex_of h0 h5] at h1
   exact Option.some.inj h1
  exact item_listR pl.isList h0 (by omega) (by rw[hj];simpa using ew) fin hs
 ·have hj:(i+(its.toArray.size:Int)).toNat=j:=by
   rw[seqIndex_neg (by omega) h4] at h1
   rw[List.size_toArray,←hl]
   exact Option.some.inj h1
  exact subscriptTail_builtinR (x:=w) pl.isList.typeIs slot_list_getitem.lookup
   (wpAny_getItem_list_neg (Q:=fun r s'=>r=w∧EP X pins σ Q r s') pl.isList (by omega) (by rw[List.size_toArray]<;>omega) (by omega) (by rw[hj];simpa using ew) ⟨rfl,fin⟩) hs
theorem zb3:IxR X (rIxT X.K):=by
 intro value slice pins s σ H x y v u Q I rx ry h hs
 obtain⟨p,xs,i,z,rfl,rfl,hq,he,q⟩:=h
 cases rx
 obtain⟨t,rfl⟩:=ry
 obtain⟨its,r,pl,hz⟩:=I.tuple hq
 obtain⟨j,h1,h2,h3,h4,h5⟩:=atI_get he
 obtain⟨w,ew,rw'⟩:=r.get h2
 have hl:=r.length
 have hn:=yk0
 have fin:EP X pins σ Q w s:=⟨z,H,I,rw',q⟩
 exact subscriptTail_builtinR (x:=w) pl.typeIs slot_tuple_getitem.lookup
  (getItem_tuple (j:=j) (Q:=fun r s'=>r=w∧EP X pins σ Q r s') pl (by omega) (by omega) (by rw[List.size_toArray,←hl];exact h1) (by simpa using ew) ⟨rfl,fin⟩) hs
theorem ix_str:IxR X rIxS:=by
 intro value slice pins s σ H x y v u Q I rx ry h hs
 obtain⟨z,i,c,rfl,rfl,hz,he,q⟩:=h
 obtain⟨t,rfl⟩:=rx
 obtain⟨t',rfl⟩:=ry
 obtain⟨j,h1,h2,h3,h4,h5⟩:=atI_get he
 have hl:z.cps.toList.length=z.length:=by simp[Str.length]
 rw[hl] at h1 h4 h5
 have hn:=yk0
 exact tail_any (typeIs_str s z t) slot_str_getitem.lookup (getItem_str (c:=c) (by
  have e1:decide (i < -(2 ^ 63:Int))=false:=decide_eq_false (by omega)
  have e2:decide (i≥2 ^ 63)=false:=decide_eq_false (by omega)
  rw[e1,e2,Bool.or_false]) (by rw[h1];simpa using h2) ⟨.str ⟨#[c]⟩,H,I.tok _,⟨_,rfl⟩,q⟩) hs
theorem Inv.lst{pins:List (Addr×Obj)}{σ:St}{H:Hp}{s:Shared}{p:Addr}{xs:List V}(I:Inv X pins σ H s)(h:H p=some (.lst xs)):
  ∃(its:List Value) (n:Nat),Vals xs its∧s.heap.get? p=some { cls:=.type "list",data:=.seq its.toArray n }∧xs.length≤sizeLine:=by
 obtain⟨z,its,n,r,e⟩:=I.hok p _ h
 exact⟨its,n,r,e,z⟩
theorem slice_bounds(lo hi:Option Int)(n:Nat):(sliceBounds lo hi none n).1=((HT.sIx n 0 lo:Nat):Int)∧(sliceBounds lo hi none n).2.1=((HT.sIx n n hi:Nat):Int)∧(sliceBounds lo hi none n).2.2=1:=by
 refine⟨?_,?_,rfl⟩
 ·cases lo with
  |none=>simp[sliceBounds,HT.sIx]
  |some i=>
   simp only[sliceBounds,HT.sIx,Option.getD_none,show(1:Int) > 0 by decide,if_true]
   by_cases h:i<0
   ·simp only[h,if_true]<;>omega
   ·simp only[h,if_false]<;>omega
 ·cases hi with
  |none=>simp[sliceBounds,HT.sIx]
  |some i=>
   simp only[sliceBounds,HT.sIx,Option.getD_none,show(1:Int) > 0 by decide,if_true]
   by_cases h:i<0
   ·simp only[h,if_true]<;>omega
   ·simp only[h,if_false]<;>omega
theorem yl8(its:List Value)(lo hi:Option Int):slicePick its.toArray lo hi none=((its.drop (HT.sIx its.length 0 lo)).take (HT.sIx its.length its.length hi - HT.sIx its.length 0 lo)).toArray:=by
 obtain⟨h1,h2,h3⟩:=slice_bounds lo hi its.toArray.size
 unfold slicePick
 rw[h1,h2,h3]
 simp only[sliceRange_one,pick_run,List.size_toArray]<;>rfl
def rSlL(K:PySem.W.Frag):V→Option Int→Option Int→Hp→VK→Prop:=fun x lo hi H Q=>∃a xs,x=.ref a∧SqL K H a xs∧∀p,H p=none→Q (.ref p) (upd H p (.lst (cutV xs lo hi)))
theorem sl_list:SlR X (rSlL X.K):=by
 intro pins s σ H x v vl vu lo hi sl Q I rx hs pl pu h
 obtain⟨a,xs,rfl,hx,q⟩:=h
 cases rx
 obtain⟨its,r,ht,hz⟩:=I.list hx
 have hlen:=r.length
 refine⟨"list",_,slot_list_getitem.lookup,ht.isList.typeIs,?_⟩
 refine wpAny_getItem_list_slice ht.isList hs pl pu .none (by simp) ?_ (by rw[List.size_toArray]<;>omega)
 rw[yl8,←hlen]
 refine⟨.ref s.heap.objs.size,_,I.laid (t':=s.toks) (o:=.lst (cutV xs lo hi)) (fun b ob q=>Heap.get?_push_of_some _ q) (Nat.le_refl _) ?_,rfl,q _ (I.hok.fresh (Nat.le_refl _))⟩
 exact⟨Nat.le_trans (yg3 xs lo hi) hz,_,0,(r.drop (HT.sIx xs.length 0 lo)).take (HT.sIx xs.length xs.length hi - HT.sIx xs.length 0 lo),Heap.get?_push_size _ rfl⟩
def flatV:V→Bool
 |.non=>true
 |.bl _=>true
 |.int _=>true
 |.str _=>true
 |_=>false
def eqV:V→V→Bool
 |.non,.non=>true
 |.bl a,.bl b=>a==b
 |.bl a,.int b=>(if a then 1 else 0)==b
 |.int a,.bl b=>a==(if b then 1 else 0)
 |.int a,.int b=>a==b
 |.str a,.str b=>a==b
 |_,_=>false
theorem eqAt_V{A:Around}{s:Shared}{y x:V}{u v:Value}(ry:RelV y u)(rx:RelV x v)(fy:flatV y=true)(fx:flatV x=true):SeqAt.EqAt A s u v (eqV y x):=by
 cases y with
 |non=>
  cases ry
  cases x with
  |non=>cases rx;exact SeqAt.EqAt.same _
  |bl b=>cases rx;exact SeqAt.EqAt.none_bool b
  |int b=>obtain⟨t,rfl⟩:=rx;exact SeqAt.EqAt.none_int b t
  |str b=>obtain⟨t,rfl⟩:=rx;exact SeqAt.EqAt.none_str b t
  |_=>exact absurd (show false=true from fx) Bool.false_ne_true
 |bl a=>
  cases ry
  cases x with
  |non=>cases rx;exact SeqAt.EqAt.bool_none a
  |bl b=>cases rx;exact SeqAt.EqAt.bool_bool a b
  |int b=>obtain⟨t,rfl⟩:=rx;exact SeqAt.EqAt.bool_int a b t
  |str b=>obtain⟨t,rfl⟩:=rx;exact SeqAt.EqAt.bool_str a b t
  |_=>exact absurd (show false=true from fx) Bool.false_ne_true
 |int a=>
  obtain⟨t',rfl⟩:=ry
  cases x with
  |non=>cases rx;exact SeqAt.EqAt.int_none a t'
  |bl b=>cases rx;exact SeqAt.EqAt.int_bool a t' b
  |int b=>obtain⟨t,rfl⟩:=rx;exact SeqAt.EqAt.int_int a t' b t
  |str b=>obtain⟨t,rfl⟩:=rx;exact SeqAt.EqAt.int_str a t' b t
  |_=>exact absurd (show false=true from fx) Bool.false_ne_true
 |str a=>
  obtain⟨t',rfl⟩:=ry
  cases x with
  |non=>cases rx;exact SeqAt.EqAt.str_none a t'
  |bl b=>cases rx;exact SeqAt.EqAt.str_bool a t' b
  |int b=>obtain⟨t,rfl⟩:=rx;exact SeqAt.EqAt.str_int a t' b t
  |str b=>obtain⟨t,rfl⟩:=rx;exact SeqAt.EqAt.str_str a t' b t
  |_=>exact absurd (show false=true from fx) Bool.false_ne_true
 |_=>exact absurd (show false=true from fy) Bool.false_ne_true
def eqU(x:V)(u:Value):Bool:=match u with
 |.none=>eqV .non x
 |.bool b=>eqV (.bl b) x
 |.int i _=>eqV (.int i) x
 |.str z _=>eqV (.str z) x
 |_=>false
theorem eqU_of{x y:V}{u:Value}(r:RelV y u)(f:flatV y=true):eqU x u=eqV y x:=by
 cases y with
 |non=>cases r;rfl
 |bl b=>cases r;rfl
 |int i=>obtain⟨t,rfl⟩:=r;rfl
 |str z=>obtain⟨t,rfl⟩:=r;rfl
 |_=>exact absurd (show false=true from f) Bool.false_ne_true
theorem yg6{x:V}:∀ {xs:List V} {us:List Value},Vals xs us→xs.all flatV=true→us.any (eqU x)=xs.any fun y=>eqV y x
 |_,_,.nil,_=>rfl
 |y::xs,u::us,.cons r t,f=>by
  rw[List.all_cons,Bool.and_eq_true] at f
  rw[List.any_cons,List.any_cons,eqU_of r f.1,yg6 t f.2]
theorem zx1{A:Around}{s:Shared}{x:V}{v:Value}(rx:RelV x v)(fx:flatV x=true):∀ {xs:List V} {us:List Value},Vals xs us→xs.all flatV=true→∀u∈us,SeqAt.EqAt A s u v (eqU x u)
 |_,_,.nil,_=>fun u hu=>by cases hu
 |y::xs,u::us,.cons r t,f=>fun u' hu=>by
  rw[List.all_cons,Bool.and_eq_true] at f
  rcases List.mem_cons.mp hu with rfl|hu
  ·rw[eqU_of r f.1];exact eqAt_V r rx f.1 fx
  ·exact zx1 rx fx t f.2 u' hu
def inV(x:V)(xs:List V):Bool:=xs.any fun y=>eqV y x
def rIn(K:PySem.W.Frag)(neg:Bool):R2:=fun x y H Q=>∃p xs,y=.ref p∧(SqL K H p xs∨SqT K H p xs)∧flatV x=true∧xs.all flatV=true∧Q (.bl (if neg then !inV x xs else inV x xs)) H
theorem zs1:OpR X (compareOp .In) (rIn X.K false):=by
 intro pins s σ H x y v u Q I rx ry h
 obtain⟨p,xs,rfl,hq,fx,fs,q⟩:=h
 cases ry
 rcases hq with hq|hq
 ·obtain⟨its,r,pl,hz⟩:=I.list hq
  refine SeqAt.in_listAt (eqU x) pl.isList (fun w hw=>zx1 rx fx r fs w (by simpa using hw)) ⟨.bl _,H,I,rfl,?_⟩
  rw[show its.toArray.any (eqU x)=its.any (eqU x) by simp,yg6 r fs]
  exact q
 ·obtain⟨its,r,pl,hz⟩:=I.tuple hq
  refine SeqAt.in_tupleAt (eqU x) pl (fun w hw=>zx1 rx fx r fs w (by simpa using hw)) ⟨.bl _,H,I,rfl,?_⟩
  rw[show its.toArray.any (eqU x)=its.any (eqU x) by simp,yg6 r fs]
  exact q
theorem yb0:OpR X (compareOp .NotIn) (rIn X.K true):=by
 intro pins s σ H x y v u Q I rx ry h
 obtain⟨p,xs,rfl,hq,fx,fs,q⟩:=h
 cases ry
 rcases hq with hq|hq
 ·obtain⟨its,r,pl,hz⟩:=I.list hq
  refine SeqAt.notIn_listAt (eqU x) pl.isList (fun w hw=>zx1 rx fx r fs w (by simpa using hw)) ⟨.bl _,H,I,rfl,?_⟩
  rw[show its.toArray.any (eqU x)=its.any (eqU x) by simp,yg6 r fs]
  exact q
 ·obtain⟨its,r,pl,hz⟩:=I.tuple hq
  refine SeqAt.notIn_tupleAt (eqU x) pl (fun w hw=>zx1 rx fx r fs w (by simpa using hw)) ⟨.bl _,H,I,rfl,?_⟩
  rw[show its.toArray.any (eqU x)=its.any (eqU x) by simp,yg6 r fs]
  exact q
theorem zj6:CallR X (.builtin "len") (fun xs H Q=>∃p ys,xs=[.ref p]∧(SqL X.K H p ys∨SqT X.K H p ys)∧Q (.int ys.length) H):=by
 intro pins s σ H xs us Q I r h
 obtain⟨p,ys,rfl,hq,q⟩:=h
 obtain⟨u,rfl,rx⟩:=zv6 r
 cases rx
 have hn:=yk0
 rcases hq with hq|hq
 ·obtain⟨its,r',pl,hz⟩:=I.list hq
  have hlen:=r'.length
  exact Calls.call_len_list pl.isList (by simp only[List.size_toArray]<;>omega) ⟨.int ys.length,H,I.tok _,⟨s.toks+1,by rw[List.size_toArray,hlen]⟩,q⟩
 ·obtain⟨its,r',pl,hz⟩:=I.tuple hq
  have hlen:=r'.length
  exact len_tuple pl (by simp only[List.size_toArray]<;>omega) ⟨.int ys.length,H,I.tok _,⟨s.toks+1,by rw[List.size_toArray,hlen]⟩,q⟩
theorem zn5:CallR X (.builtin "len") (fun xs H Q=>∃z,xs=[.str z]∧z.length≤sizeLine∧Q (.int z.length) H):=by
 intro pins s σ H xs us Q I r h
 obtain⟨z,rfl,hz,q⟩:=h
 obtain⟨u,rfl,t,rfl⟩:=zv6 r
 have hn:=yk0
 exact len_str (by omega) ⟨.int z.length,H,I.tok _,⟨_,rfl⟩,q⟩
def tyV(K:PySem.W.Frag)(T:String)(x:V)(H:Hp):Prop:=match x with
 |.str _=>T="str"
 |.int _=>T="int"
 |.ref p=>(T="list"∧∃xs,SqL K H p xs)∨(T="tuple"∧∃o,K.lookup p=some o∧o.cls=.type "tuple"∧o.dict=none)∨
   (T="dict"∧((∃kvs,H p=some (.dK kvs))∨∃kvs,H p=some (.dT kvs)))∨(T="set"∧∃S n,H p=some (.set S n))
 |_=>False
theorem tyV_is{pins:List (Addr×Obj)}{σ:St}{H:Hp}{s:Shared}{T:String}{x:V}{v:Value}(I:Inv X pins σ H s)(r:RelV x v)(ty:tyV X.K T x H):
  s.TypeIs v T∧∀a,v=.ref a→∃ob,s.heap.get? a=some ob∧ob.dict=none:=by
 cases x with
 |str z=>
  obtain⟨t,rfl⟩:=r
  cases(show T="str" from ty)
  exact⟨typeIs_str s z t,fun _ e=>nomatch e⟩
 |int i=>
  obtain⟨t,rfl⟩:=r
  cases(show T="int" from ty)
  exact⟨typeIs_int s i t,fun _ e=>nomatch e⟩
 |ref p=>
  cases r
  rcases ty with⟨rfl,xs,hq⟩|⟨rfl,o,hk,hc,hd⟩|⟨rfl,hk⟩|⟨rfl,S,n,hk⟩
  ·obtain⟨its,_,pl,_⟩:=I.list hq
   refine⟨pl.isList.typeIs,fun a e=>?_⟩
   cases e
   obtain⟨o,n,e,c,hd,_⟩:=pl
   exact⟨o,e,hd⟩
  ·refine⟨⟨o,I.kIn p o hk,hc⟩,fun a e=>?_⟩
   cases e
   exact⟨o,I.kIn _ o hk,hd⟩
  ·have z:∃o,s.heap.get? p=some o∧o.ExactDict:=by
    rcases hk with⟨kvs,hk⟩|⟨kvs,hk⟩
    ·obtain⟨_,_,_,_,o,_,_,e,ex,_⟩:=I.hok p _ hk
     exact⟨o,e,ex⟩
    ·obtain⟨_,_,_,_,o,_,_,e,ex,_⟩:=I.hok p _ hk
     exact⟨o,e,ex⟩
   obtain⟨o,e,ex⟩:=z
   refine⟨⟨o,e,ex.1⟩,fun a e2=>?_⟩
   cases e2
   exact⟨o,e,ex.2.1⟩
  ·obtain⟨o,_,_,_,e,ex,_⟩:=I.hok p _ hk
   refine⟨⟨o,e,ex.1⟩,fun a e2=>?_⟩
   cases e2
   exact⟨o,e,ex.2.1⟩
 |_=>exact False.elim ty
def tBM0(K:PySem.W.Frag)(T:String)(r:V→List V→Hp→VK→Prop)(to:TE):TE:=fun σ H Q=>to σ H fun x H1=>tyV K T x H1∧r x [] H1 Q
def tBM(K:PySem.W.Frag)(T:String)(r:V→List V→Hp→VK→Prop)(to:TE)(t:TA):TE:=fun σ H Q=>to σ H fun x H1=>tyV K T x H1∧t σ H1 fun xs H2=>r x xs H2 Q
variable {o e:Expr}{es:List Expr}{to:TE}{t:TA}{name:Str}{apos cpos:Pos}{T id:String}{r:V→List V→Hp→VK→Prop}
theorem pe_bm0(pa:PlainAttrs T)(slot:Slot T name id)(hty:typeOf (.builtin id)=pure (.type "method_descriptor"))(hm:MtR X id r)(ho:PE X o to)
  (hbase:attributeBase o name X.env (eval o X.env)=eval o X.env:=by rfl) (hline:(apos.endLine==cpos.line)=true:=by rfl):PE X (.Call (.Attribute o name apos) [] [] cpos) (tBM0 X.K T r to):=by
 intro pins s σ H Q I h
 refine wpAny_Call_method0_late hbase hline (thn (ho pins s σ H _ I h) fun v s1 ⟨x,H1,I1,r1,ty,q1⟩=>?_)
 obtain⟨h1,h2⟩:=tyV_is I1 r1 ty
 exact⟨T,id,pa,slot,hty,h1,h2,Calls.callWith_builtin rfl (PySem.evalArgs_none (hm pins s1 σ H1 x [] v [] Q I1 r1 .nil q1))⟩
theorem pe_bm(pa:PlainAttrs T)(slot:Slot T name id)(hty:typeOf (.builtin id)=pure (.type "method_descriptor"))(hm:MtR X id r)(ho:PE X o to)(ha:PA X (e::es) t)
  (hbase:attributeBase o name X.env (eval o X.env)=eval o X.env:=by rfl)
  (hfew:((backTo cpos (starEach (e::es) X.env)).all (fun x => !x.1)&&(backToKw cpos (keywordEach [] X.env)).all (fun x=>x.1.isSome)
   && decide ((e::es).length+([]:List Keyword).length+(if([]:List Keyword).isEmpty then 0 else 1)<30))=true:=by rfl)
  (hline:(apos.endLine==cpos.line)=true:=by rfl) (hs:starEach (e::es) X.env=(false,eval e X.env)::starEach es X.env:=by rfl) (hplain:(backTo cpos (starEach es X.env)).any (·.1)=false:=by rfl):
  PE X (.Call (.Attribute o name apos) (e::es) [] cpos) (tBM X.K T r to t):=by
 intro pins s σ H Q I h
 refine wpAny_Call_method_late hbase hfew hline rfl (thn (ho pins s σ H _ I h) fun v s1 ⟨x,H1,I1,r1,ty,q1⟩=>?_)
 obtain⟨h1,h2⟩:=tyV_is I1 r1 ty
 refine⟨T,id,pa,slot,hty,h1,h2,?_⟩
 have hA:=ha cpos pins s1 σ H1 _ I1 q1
 rw[hs] at hA ⊢
 refine Calls.callWith_builtin (by show(false||(backTo cpos (starEach es X.env)).any (·.1))=false;rw[hplain]<;>rfl) (Calls.evalArgs_plain ?_)
 exact thn hA fun us s2 ⟨vs,H2,I2,r2,q2⟩=>hm pins s2 σ H2 x vs v us Q I2 r1 r2 q2
end
def MtM(X:Cx)(id:String)(r:V→List V→Hp→VK→Prop):Prop:=
 ∀(pins:List (Addr×Obj)) (s:Shared) (σ:St) (H:Hp) (x:V) (xs:List V) (v:Value) (us:List Value) (Q:VK),Inv X pins σ H s→RelV x v→Vals xs us→r x xs H Q→
  wpAny (model X.prog X.w) X.A (call (.builtin id) (v::us)) (EP X pins σ Q) X.xe s
theorem Vals.one:∀ {x:V} {us:List Value},Vals [x] us→∃u,us=[u]∧RelV x u
 |_,_,.cons r .nil=>⟨_,rfl,r⟩
theorem Vals.two:∀ {x y:V} {us:List Value},Vals [x,y] us→∃u v,us=[u,v]∧RelV x u∧RelV y v
 |_,_,_,.cons r (.cons q .nil)=>⟨_,_,rfl,r,q⟩
theorem Vals.zero:∀ {us:List Value},Vals [] us→us=[]
 |_,.nil=>rfl
theorem Vals.dropLast{xs:List V}{us:List Value}(h:Vals xs us):Vals xs.dropLast us.dropLast:=by
 induction h with
 |nil=>exact .nil
 |cons r t ih=>
  cases t with
  |nil=>exact .nil
  |cons q t'=>exact .cons r ih
theorem Vals.eraseIdx:∀ {xs:List V} {us:List Value} (i:Nat),Vals xs us→Vals (xs.eraseIdx i) (us.eraseIdx i)
 |_,_,_,.nil=>.nil
 |_,_,0,.cons _ t=>t
 |_,_,i+1,.cons r t=>.cons r (Vals.eraseIdx i t)
theorem Vals.reverse{xs:List V}{us:List Value}(h:Vals xs us):Vals xs.reverse us.reverse:=by
 induction h with
 |nil=>exact .nil
 |cons r t ih=>rw[List.reverse_cons,List.reverse_cons];exact Vals.append ih (.cons r .nil)
theorem erase_last{α:Type}(l:List α):l.eraseIdx (l.length - 1)=l.dropLast:=by
 induction l with
 |nil=>rfl
 |cons a r ih=>
  cases r with
  |nil=>rfl
  |cons b r=>
   have e:(a::b::r).length - 1=((b::r).length - 1)+1:=by
    have h1:(a::b::r).length=r.length+2:=rfl
    have h2:(b::r).length=r.length+1:=rfl
    omega
   rw[e,List.eraseIdx_cons_succ,ih]
   all_goals rfl
section
variable {X:Cx}{pins:List (Addr×Obj)}{σ:St}{H:Hp}{s:Shared}{l b:Addr}{xs ys zs:List V}
theorem Inv.lset{its its':List Value}{n:Nat}{f:Array Value→Array Value}{t':Nat}(I:Inv X pins σ H s)(hH:H l=some (.lst xs))
  (e:s.heap.get? l=some { cls:=.type "list",data:=.seq its.toArray n }) (hf:f its.toArray=its'.toArray) (hv:Vals ys its') (hz:ys.length≤sizeLine):
  Inv X pins σ (upd H l (.lst ys)) { s with heap:=s.heap.update l (Obj.mapSeq f),toks:=t' }:=by
 have q:=PySem.IsL.update e f
 rw[hf] at q
 refine I.write (x:=l) (e:=l) (by rw[hH];exact trivial) (.inl rfl) (fun b' u hb hu=>(Heap.get?_update_other s.heap (Obj.mapSeq f) (Ne.symm hb)).trans hu) ⟨_,q⟩ ?_
 exact⟨hz,its',_,hv,q⟩
theorem Inv.lnew{its:List Value}{t':Nat}(I:Inv X pins σ H s)(hv:Vals ys its)(hz:ys.length≤sizeLine):
  Inv X pins σ (upd H s.heap.objs.size (.lst ys)) { s with heap:=s.heap.push { cls:=.type "list",data:=.seq its.toArray },toks:=t' }:=
 I.laid (fun _ _ q=>Heap.get?_push_of_some _ q) (Nat.le_refl _) ⟨hz,its,0,hv,Heap.get?_push_size _ rfl⟩
theorem Inv.fresh(I:Inv X pins σ H s):H s.heap.objs.size=none:=I.hok.fresh (Nat.le_refl _)
theorem Inv.lstM(I:Inv X pins σ H s)(hH:H l=some (.lst xs)):xs.length≤sizeLine∧∃(its:List Value) (n:Nat),Vals xs its∧xs.length=its.length∧s.heap.get? l=some { cls:=.type "list",data:=.seq its.toArray n }:=by
 obtain⟨z,its,n,r,e⟩:=I.hok l _ hH
 exact⟨z,its,n,r,r.length,e⟩
theorem notLongL{n:Nat}(h:n≤sizeLine):Builtin.List.listTooLong n=false:=by
 unfold Builtin.List.listTooLong
 exact decide_eq_false (by omega)
end
section
variable {X:Cx}
def rAppend:V→List V→Hp→VK→Prop:=fun x vs H Q=>∃l xs y,x=.ref l∧vs=[y]∧H l=some (.lst xs)∧xs.length<sizeLine∧Q .non (upd H l (.lst (xs++[y])))
theorem zg2:MtM X "list.append" rAppend:=by
 intro pins s σ H x vs v us Q I rx rv h
 obtain⟨l,xs,y,rfl,rfl,hH,hz,q⟩:=h
 cases rx
 obtain⟨u,rfl,ru⟩:=rv.one
 obtain⟨z,its,n,r,hl,e⟩:=I.lstM hH
 refine call_meets F.slot_list_append ⟨_,e,rfl⟩ F.entry_list_append (F.args_list_append_2 _ _) (PySem.list_append l its.toArray n u (by rw[List.size_toArray];omega)) ⟨e,?_⟩
 refine⟨.non,_,I.lset (its':=its++[u]) hH e (by simp) (r.append (.cons ru .nil)) ?_,rfl,q⟩
 rw[List.length_append,List.length_singleton]
 omega
def rExtend:V→List V→Hp→VK→Prop:=fun x vs H Q=>∃l b xs zs,x=.ref l∧vs=[.ref b]∧H l=some (.lst xs)∧H b=some (.lst zs)∧xs.length+zs.length≤sizeLine∧Q .non (upd H l (.lst (xs++zs)))
theorem zp1:MtM X "list.extend" rExtend:=by
 intro pins s σ H x vs v us Q I rx rv h
 obtain⟨l,b,xs,zs,rfl,rfl,hH,hB,hz,q⟩:=h
 cases rx
 obtain⟨u,rfl,ru⟩:=rv.one
 cases ru
 obtain⟨z,its,n,r,hl,e⟩:=I.lstM hH
 obtain⟨z2,its2,n2,r2,hl2,e2⟩:=I.lstM hB
 have hsz:its.toArray.size+its2.toArray.size≤sizeLine:=by rw[List.size_toArray,List.size_toArray];omega
 have hlong:¬(!its.toArray.isEmpty&&Builtin.List.listTooLong (its.toArray.size+its2.toArray.size))=true:=by
  rw[notLongL hsz,Bool.and_false]
  exact Bool.false_ne_true
 refine call_meets F.slot_list_extend ⟨_,e,rfl⟩ F.entry_list_extend (F.args_list_extend_2 _ _)
  (AutoSeq1.list_extend_list_list_0 l its.toArray n b its2.toArray n2 hlong (by rw[List.size_toArray];omega) (by omega)) ⟨e,e2,?_⟩
 refine⟨.non,_,I.lset (its':=its++its2) hH e (by simp) (r.append r2) ?_,rfl,q⟩
 rw[List.length_append]
 omega
def rPop:V→List V→Hp→VK→Prop:=fun x vs H Q=>∃l xs y,x=.ref l∧vs=[]∧H l=some (.lst xs)∧xs[xs.length - 1]? = some y∧Q y (upd H l (.lst xs.dropLast))
theorem ye6:MtM X "list.pop" rPop:=by
 intro pins s σ H x vs v us Q I rx rv h
 obtain⟨l,xs,y,rfl,rfl,hH,hy,q⟩:=h
 cases rx
 have hus:=rv.zero
 subst hus
 obtain⟨z,its,n,r,hl,e⟩:=I.lstM hH
 obtain⟨u,hu,ru⟩:=r.get hy
 have hy':its.toArray[its.toArray.size - 1]? = some u:=by
  show its.toArray[its.length - 1]? = some u
  rw[←Array.getElem?_toList,←hl]
  exact hu
 refine call_meets F.slot_list_pop ⟨_,e,rfl⟩ F.entry_list_pop (F.args_list_pop_1 _) (MeetsSeq.list_pop_last l its.toArray n u hy' (by rw[List.size_toArray];omega)) ⟨e,?_⟩
 refine⟨y,_,I.lset (its':=its.dropLast) hH e ?_ r.dropLast ?_,ru,q⟩
 ·show its.toArray.eraseIdxIfInBounds (its.toArray.size - 1)=its.dropLast.toArray
  rw[List.size_toArray,List.eraseIdxIfInBounds_toArray,erase_last]
 ·rw[List.length_dropLast]
  omega
def rCat:R2:=fun x y H Q=>∃l b xs zs,x=.ref l∧y=.ref b∧H l=some (.lst xs)∧H b=some (.lst zs)∧xs.length+zs.length≤sizeLine∧∀p,H p=none→Q (.ref p) (upd H p (.lst (xs++zs)))
theorem op_cat:OpR X (binaryOp .Add) rCat:=by
 intro pins s σ H x y v u Q I rx ry h
 obtain⟨l,b,xs,zs,rfl,rfl,hH,hB,hz,q⟩:=h
 cases rx
 cases ry
 obtain⟨z,its,n,r,hl,e⟩:=I.lstM hH
 obtain⟨z2,its2,n2,r2,hl2,e2⟩:=I.lstM hB
 refine PySem.P.add_list e e2 ?_ (by rw[List.size_toArray,List.size_toArray];omega)
 have ea:its.toArray++its2.toArray=(its++its2).toArray:=by simp
 rw[ea]
 exact⟨.ref _,_,I.lnew (t':=s.toks) (r.append r2) (by rw[List.length_append];omega),rfl,q _ I.fresh⟩
end
end L2
namespace Att
open PySem PySem.W PySem.Calls PyProof.Rows
theorem yf4{P:Params}{h:Heap}:∀(ns:List Int) (vs:List Value),WellAll P h vs (ns.map WData.int)→IntsAre vs ns:=by
 intro ns
 induction ns with
 |nil=>
  intro vs w
  rw[List.map_nil] at w
  cases w
  exact .nil
 |cons n ns ih=>
  intro vs w
  rw[List.map_cons] at w
  cases w with
  |cons a b=>
   cases a
   exact .cons _ _ (ih _ b)
theorem script_of{l:OpenLaw}{n:Nat}(hn:l.most=some n){P:Params}{h:Heap}{args:List WData}{vals:List Value}
  (hpre:l.row.toRowW.claim.pre args=true) (hwl:WellAll P h vals args):
  ∃a vs ns,vals=[Value.ref a]∧args=[WData.list (ns.map WData.int)]∧h.get? a=some { cls:=.type "list",data:=.seq vs.toArray }∧IntsAre vs ns∧ns.length≤n:=by
 have hsh:WShape.hasAll [] args [.list .int]=true:=(pre_splitW hpre).1
 have hc:l.pre.holds [] { args:=args }=true:=(pre_splitW hpre).2
 obtain⟨d,r,rfl,h1,h2⟩:=hasAllW_cons hsh
 obtain rfl:=hasAllW_nil h2
 obtain⟨xs,rfl,h3⟩:=hasW_list h1
 obtain⟨ns,rfl⟩:=items_int h3
 have hlen:ns.length≤n:=by
  unfold OpenLaw.pre at hc
  have h4:(WTm.not (.lt (.lit (.int (n:Int))) (.len (.arg 0)))).holds [] { args:=[.list (ns.map .int)] }=true:=by
   have h4:=(holds_andW hc).1
   rw[hn] at h4
   exact h4
  have h5:=condW_of h4 (w_not (w_lt w_lit (w_len_list (w_arg rfl))))
  rw[List.length_map] at h5
  refine Nat.le_of_not_lt fun q=>?_
  have q':(n:Int)<((ns.length:Nat):Int):=by omega
  first
   |(rw[decide_eq_true q'] at h5;exact absurd h5 (by decide))
   |(simp at h5;omega)
 cases hwl with
 |cons w1 w2=>
  cases w2
  cases w1 with
  |list ho hall=>exact⟨_,_,ns,rfl,rfl,ho,yf4 ns _ hall,hlen⟩
theorem post_true(l:OpenLaw)(args:List WData):l.row.toRowW.claim.post args (.bool true) args=true:=
 postW_of (r:=l.row.toRowW) (X:=(true==true))
  (show WShape.has [] (.bool true) .bool=true by first|rfl|decide|simp[WShape.has,WShape.arms,WShape.armsAll])
  (show(WTm.eq .res (.lit (.bool true))).value [] { args:=args,res:=some (.bool true),after:=args }=some (.bool (true==true)) from w_eq_bool (w_res rfl) w_lit) rfl
theorem attach_call{l:OpenLaw}{n:Nat}{q:Program}{loose:List Str}{XP:(Str→Option Value)→Heap→Prop}{YP:World→Heap→Prop}{d:DefRec}
  (hn:l.most=some n) (hdf:d.params.defaults=[])
  (call:∀(w:World) (s₀ s₁:Shared) (mg mb:Str→Option Value) (fa:Addr) (o:Obj) (pm cd doc:Value) (a:Addr) (vs:List Value) (ns:List Int),
   Ground q loose [] XP w s₀ mg mb s₁.heap→YP w s₁.heap→
   s₁.heap.get? fa=some o→o.data=.func (docDef d.name d.params d.body d.scope pm cd doc)→s₁.heap.CodeRec cd d.name→mg d.name=some (.ref fa)→
   s₁.heap.get? a=some { cls:=.type "list",data:=.seq vs.toArray }→IntsAre vs ns→ns.length≤n→s₁.gens = #[]→
   codeAny (model l.prog w) callerA (.call (.ref fa) ⟨[.ref a],[]⟩) (fun r s'=>r=.ok (.ret (.bool true))∧OldK s₁.heap s'.heap∧s'.os=s₁.os∧AllBare s'.gens) s₁):
  WalkO q loose XP YP l.row.toRowW d [] (fun f vs=>PySem.call f vs):=by
 intro w s₀ s₁ mg mb G Y fa o pm cd doc dV kV ho hd hcd hD hmg hg args vals as hpre hlay hrd hwl hlo
 obtain rfl:dV=.none:=Dflts.none hD hdf
 obtain rfl:kV=.none:=Dflts.noKw hD
 obtain⟨a,vs,ns,rfl,rfl,hobj,hints,hlen⟩:=script_of hn hpre hwl
 refine enter_call (codeAny_mono (call w s₀ s₁ mg mb fa o pm cd doc a vs ns G Y ho (fd_plain hd) hcd hmg hobj hints hlen hg) fun r s' hq=>?_)
 obtain⟨rfl,h2,h3,h4⟩:=hq
 exact⟨.inl ⟨.bool true,.bool true,[],rfl,fun _=>rfl,.bool true,post_true l _,fun _=>⟨List.Pairwise.nil,fun _ hm=>(nomatch hm)⟩⟩,h2,h3,h4⟩
end Att
namespace L2
open PySem PySem.Spec PyProof.Rows
theorem vals_ints:∀ {vs:List Value} {ns:List Int},IntsAre vs ns→Vals (ns.map V.int) vs
 |_,_,.nil=>.nil
 |_,_,.cons n t h=>.cons ⟨t,rfl⟩ (vals_ints h)
def Only(H:Hp):Prop:=∀b,H b=none∨∃o xs,H b=some (.frz o (.lst xs))
theorem law_call{P:Program}{w:World}{K:PySem.W.Frag}{mg mb:Str→Option Value}{CX:CXT}{k:Nat}{fa a:Addr}{fd:FuncData}{x:Str}{sp:Sp}{s₁:Shared}{vs:List Value}{ns:List Int}
  (KX:K.In s₁.heap) (hns:s₁.heap.Ns mainGlobals mg) (hb:s₁.heap.Ns builtinsNs mb) (hbb:∀x:Str,x≠"__name__"→mb x=bootBuiltins x) (hlim:s₁.heap.NoLimit) (hg:s₁.gens = #[])
  (ha:s₁.heap.get? a=some { cls:=.type "list",data:=.seq vs.toArray }) (hi:IntsAre vs ns) (hl:ns.length≤sizeLine) (hr:Room k callerA)
  (F:∀base:Heap,K.In base→base.Ns mainGlobals mg→FnOk P w K mg base CX k fa fd [x] sp) (hbind:∀(s:Shared) (u:Value),BindsTo s fd ⟨[u],[]⟩ [(x,u)])
  (hsp:∀H:Hp,Only H→SqL K H a (ns.map V.int)→sp [.ref a] H (fun v _=>v=.bl true) fun _ _ _=>False)
  (hCX:∀H e s',CX [] H s₁ (fun _ _ _=>False) e s'→False):
  codeAny (model P w) callerA (.call (.ref fa) ⟨[.ref a],[]⟩) (fun r s'=>r=.ok (.ret (.bool true))∧OldK s₁.heap s'.heap∧s'.os=s₁.os∧AllBare s'.gens) s₁:=by
 have rv:=vals_ints hi
 have yb6:=hi.length
 have zh6:∀H:Hp,Only H→SqL K H a (ns.map V.int)→HOk P w H s₁.heap→(∀b,H b≠none→b=a)→(H a≠none→K.lookup a=none)→
   codeAny (model P w) callerA (.call (.ref fa) ⟨[.ref a],[]⟩) (fun r s'=>r=.ok (.ret (.bool true))∧OldK s₁.heap s'.heap∧s'.os=s₁.os∧AllBare s'.gens) s₁:=by
  intro H hO hS hok hA hK
  have base_of:∀ {b:Addr} {o:Obj},s₁.heap.get? b=some o→H b=none→(hidT s₁.heap H).get? b=some o:=fun e n=>hidT_get e n
  have noA:∀ {b:Addr} {o:Obj} {es:Array DictEntry} {ep:Nat},s₁.heap.get? b=some o→o.data=.dict es ep→H b=none:=fun {b o es ep} e d=>by
   cases q:H b with
   |none=>rfl
   |some u=>
    have e':b=a:=hA b (by rw[q];simp)
    subst e'
    rw[ha] at e;cases e
    have d':Data.seq vs.toArray _=Data.dict es ep:=d
    cases d'
  have nsK:∀ {b:Addr} {m:Str→Option Value},s₁.heap.Ns b m→(hidT s₁.heap H).Ns b m:=fun {b m} ⟨o,es,ep,e,d,r⟩=>⟨o,es,ep,base_of e (noA e d),d,r⟩
  have hKb:K.In (hidT s₁.heap H):=fun b o e=>base_of (KX b o e) (by
   cases q:H b with
   |none=>rfl
   |some u=>
    have e':b=a:=hA b (by rw[q];simp)
    subst e'
    rw[hK (by rw[q];simp)] at e;cases e)
  have hM:Mod K mg (hidT s₁.heap H):=⟨hKb,nsK hns,⟨mb,nsK hb,hbb⟩,let ⟨mc,h1,h2⟩:=hlim;⟨mc,nsK h1,h2⟩⟩
  have e0:Env0 P w K mg (hidT s₁.heap H) callerA [] s₁ H:=⟨rfl,hM,fun b o e=>of_hidT e,Nat.le_of_eq (hidT_size _ _),trivial,fun b hb=>absurd (show b∈([]:List Addr) from hb) (by simp),hok,.of_eq hg⟩
  refine codeAny_mono ((F _ hKb (nsK hns)).run callerA [] s₁ H ⟨[.ref a],[]⟩ [.ref a] [.ref a] _ _ hr e0 (hbind s₁ (.ref a)) (.cons rfl .nil) (hsp H hO hS)) fun r s' h=>?_
  cases r with
  |error e=>exact(hCX H e s' h).elim
  |ok fl=>
   cases fl with
   |next=>exact False.elim h
   |brk=>exact False.elim h
   |cont=>exact False.elim h
   |ret u=>
    obtain⟨v,H',os,bare,un,hok',r',q⟩:=h
    have q':v=.bl true:=q
    subst q'
    obtain rfl:u=Value.bool true:=r'
    refine⟨rfl,OldK.of_keep fun b o e=>?_,os,bare⟩
    cases q:H b with
    |none=>exact un.keep b o e q (by intro z;exact absurd (show b∈([]:List Addr) from z) (by simp)) (by simp)
    |some u=>
     rcases hO b with z|⟨ob,xs,z⟩
     ·rw[q] at z;cases z
     ·have z2:=un.frzs b ob _ z
      obtain⟨e1,_⟩:=hok b _ z
      obtain⟨e2,_⟩:=hok' b _ z2
      rw[e] at e1;cases e1
      exact e2
 cases hk:K.lookup a with
 |some o=>
  have e:=KX a o hk
  rw[ha] at e
  cases e
  refine zh6 (fun _=>none) (fun _=>.inl rfl) (.inr ⟨_,vs.toArray,_,hk,rfl,rfl,rfl,by rw[List.size_toArray,yb6];exact hl,by simpa using rv⟩) (fun b u z=>by have z':(none:Option HO)=some u:=z;cases z') (fun b z=>absurd rfl z) fun z=>absurd rfl z
 |none=>
  refine zh6 (fun b=>if b=a then some (.frz { cls:=.type "list",data:=.seq vs.toArray } (.lst (ns.map V.int))) else none) (fun b=>?_) (.inl (.inr ⟨{ cls:=.type "list",data:=.seq vs.toArray },if_pos rfl⟩)) (fun b u z=>?_) (fun b z=>?_) fun _=>hk
  ·by_cases hb:b=a
   ·exact .inr ⟨_,_,if_pos hb⟩
   ·exact .inl (if_neg hb)
  ·by_cases hb:b=a
   ·have z':=(if_pos hb).symm.trans z
    cases z'
    subst hb
    exact⟨ha,by rw[List.length_map];exact hl,vs,_,rv,ha⟩
   ·have z':=(if_neg hb).symm.trans z
    cases z'
  ·by_cases hb:b=a
   ·exact hb
   ·exact absurd (if_neg hb) z
theorem walk_of{l:PySem.W.OpenLaw}{n k:Nat}{q:Program}{loose:List Str}{XP:(Str→Option Value)→Heap→Prop}{YP:World→Heap→Prop}{d:DefRec}{K:Params→PySem.W.Frag}{CX:World→CXT}{sp:World→Sp}{x:Str}
  (hn:l.most=some n) (hn2:n≤sizeLine) (hdf:d.params.defaults=[]) (hr:Room k callerA)
  (hY:∀(w:World) (h:Heap),YP w h→(K w.params).In h)
  (F:∀(w:World) (mg:Str→Option Value) (fa:Addr) (h:Heap),(K w.params).In h→h.Ns mainGlobals mg→mg d.name=some (.ref fa)→
   ∃fd:FuncData,(∀(s:Shared) (u:Value),BindsTo s fd ⟨[u],[]⟩ [(x,u)])∧
    ∀base:Heap,(K w.params).In base→base.Ns mainGlobals mg→FnOk l.prog w (K w.params) mg base (CX w) k fa fd [x] (sp w))
  (hsp:∀(w:World) (H:Hp) (a:Addr) (ns:List Int),ns.length≤n→Only H→SqL (K w.params) H a (ns.map V.int)→sp w [.ref a] H (fun v _=>v=.bl true) fun _ _ _=>False)
  (hCX:∀(w:World) (H:Hp) (s:Shared) (e:Value) (s':Shared),CX w [] H s (fun _ _ _=>False) e s'→False):
  PySem.W.WalkO q loose XP YP l.row.toRowW d [] (fun f vs=>PySem.call f vs):=by
 refine Att.attach_call hn hdf fun w s₀ s₁ mg mb fa o pm cd doc a vs ns G Y ho hd hcd hmg hobj hints hlen hg=>?_
 have KX:=hY w _ Y
 obtain⟨fd,hb,hF⟩:=F w mg fa _ KX G.T.g hmg
 exact law_call KX G.T.g G.T.b G.T.builtins G.T.nolimit hg hobj hints (Nat.le_trans hlen hn2) hr hF hb (fun H hO hS=>hsp w H a ns hlen hO hS) fun H e s'=>hCX w H s₁ e s'
def zg1(s:Stmt)(j:Nat):Stmt:=match s with
 |.ClassDef _ _ _ body _ _ _ _ _ _ _=>body.getD j (.Pass ⟨0,0,0,0⟩)
 |_=>.Pass ⟨0,0,0,0⟩
def zc1(s:Stmt):Arguments:=match s with
 |.FunctionDef _ a _ _ _ _ _ _ _ _=>a
 |_=>{ posonlyargs:=[],args:=[],vararg:=none,kwonlyargs:=[],kw_defaults:=[],kwarg:=none,defaults:=[] }
def zb8(s:Stmt):List Stmt:=match s with
 |.FunctionDef _ _ b _ _ _ _ _ _ _=>b
 |_=>[]
def za7(s:Stmt):Scope:=match s with
 |.FunctionDef _ _ _ _ _ _ sc _ _ _=>sc
 |_=>{ kind:=.function,names:=[],isGenerator:=false,isCoroutine:=false }
abbrev CX0:CXT:=fun _ _ _ _ _ _=>False
abbrev E0:XK:=fun _ _ _=>False
theorem zc7{X:Cx}:Passes CX0 X E0:=fun _ _ _ _ _ _ _ h=>h.elim
structure Fun(K:PySem.W.Frag)(x qual:Str)(st:Stmt)(f:Addr)(fd:FuncData):Prop where
 ex:∃(oc:Value) (od:Option Addr) (kV doc pm:Value) (an:Option Addr) (cdv ct:Value) (osl:Array (Option Value)),
  fd=PySem.W.fnOf x qual (zc1 st) (zb8 st) (za7 st) .none kV doc pm an cdv ct∧K.lookup f=some ⟨oc,od,.func fd,osl⟩∧PySem.W.codeIn K cdv qual=true
 kp:PySem.W.keepIn K (.ref f)=true
section
variable {P:Program}{w:World}{K:PySem.W.Frag}{mg:Str→Option Value}{base:Heap}
theorem Fun.ok{x qual:Str}{st:Stmt}{f:Addr}{fd:FuncData}{N ps:List Str}{k:Nat}{sp:Sp}(F:Fun K x qual st f fd)(S:FnScope N ps (za7 st))(len:∀vs H Q E,sp vs H Q E→vs.length=ps.length)
  (hbody:∀(cdv:Value) (A:Around) (outer:List Env) (s:Shared) (H:Hp) (vs:List V) (Q:VK) (E:XK),Room k (A.deeper (envOfC qual (za7 st) s.heap.objs.size f cdv))→sp vs H Q E→
   ∃t,PSs (cxOf CX0 P w K mg base N qual (za7 st) f cdv A outer s H E).nox (zb8 st) t∧t { nx:=fun _ H'=>Q .non H',rt:=Q } (start N vs) H):FnOk P w K mg base CX0 (k+1) f fd ps sp:=by
 obtain⟨oc,od,kV,doc,pm,an,cdv,ct,osl,rfl,lk,hcd⟩:=F.ex
 refine fn_of lk hcd S len fun A outer s H vs Q E hr hsp=>?_
 obtain⟨t,h,q⟩:=hbody cdv A outer s H vs Q E hr hsp
 exact⟨t,h.nox,q⟩
theorem Fun.binds{x qual:Str}{st:Stmt}{f:Addr}{fd:FuncData}{ps:List Str}(F:Fun K x qual st f fd)
  (h:∀(kV doc pm:Value) (an:Option Addr) (cdv ct:Value) (us:List Value),us.length=ps.length→bindArgs (PySem.W.fnOf x qual (zc1 st) (zb8 st) (za7 st) .none kV doc pm an cdv ct) ⟨us,[]⟩=pure (ps.zip us)):Binds K fd ps []:=by
 obtain⟨oc,od,kV,doc,pm,an,cdv,ct,osl,rfl,lk,hcd⟩:=F.ex
 exact .all (h kV doc pm an cdv ct)
theorem ze0{x qual:Str}{st:Stmt}{f:Addr}{oc:Value}{od an:Option Addr}{osl:Array (Option Value)}{kV doc pm cdv ct:Value}(l:K.lookup f=some ⟨oc,od,.func (PySem.W.fnOf x qual (zc1 st) (zb8 st) (za7 st) .none kV doc pm an cdv ct),osl⟩)
  (c:PySem.W.codeIn K cdv qual=true) (k:PySem.W.keepIn K (.ref f)=true):Fun K x qual st f (PySem.W.fnOf x qual (zc1 st) (zb8 st) (za7 st) .none kV doc pm an cdv ct):=⟨⟨oc,od,kV,doc,pm,an,cdv,ct,osl,rfl,l,c⟩,k⟩
end
theorem hu_of{A:Around}{k:Nat}(hr:Room k A):A.units+1<cLine:=Nat.lt_of_le_of_lt (Nat.add_le_add_left (by decide:1≤64) _) hr.units
section
variable {X:Cx}
theorem pv(i:Nat){x:Str}{pos:Pos}(hN:X.N[i]? = some x:=by rfl)(hv:Vis X.env.scope x:=by first|exact Or.inl rfl|exact Or.inr (Or.inl rfl)|exact Or.inr (Or.inr rfl))(hd:(x==("__debug__":Str))=false:=by decide)
  (hcd:(x==("__classdict__":Str))=false:=by decide):PE X (.Name x pos) (tVar i):=pe_var hN hv hd hcd
end
theorem yb2{A B:Prop}(h:B):if false=true then A else B:=by
 rw[if_neg Bool.false_ne_true]
 exact h
theorem zu0{A B:Prop}(h:A):if true=true then A else B:=by
 rw[if_pos rfl]
 exact h
theorem ite2{c A B:Prop}[Decidable c](h1:c→A)(h2:¬c→B):if c then A else B:=by
 by_cases h:c
 ·rw[if_pos h]
  exact h1 h
 ·rw[if_neg h]
  exact h2 h
def Same(H H':Hp):Prop:=∀b o,H b=some o→H' b=some o
theorem Same.refl(H:Hp):Same H H:=fun _ _ h=>h
theorem Same.trans{H H1 H2:Hp}(a:Same H H1)(b:Same H1 H2):Same H H2:=fun c o h=>b c o (a c o h)
theorem Same.free{H H':Hp}(e:Same H H'){l:Addr}(h:H' l=Option.none):H l=Option.none:=by
 cases q:H l with
 |none=>rfl
 |some o=>
  rw[e l o q] at h
  cases h
theorem Same.seq{K:PySem.W.Frag}{H H':Hp}{a:Addr}{xs:List V}(e:Same H H')(h:SqL K H a xs):SqL K H' a xs:=by
 rcases h with(h|⟨o,h⟩)|h
 ·exact .inl (.inl (e _ _ h))
 ·exact .inl (.inr ⟨o,e _ _ h⟩)
 ·exact .inr h
section
variable {prog:Program}{w:World}{A:Around}{R:Result→Shared→Prop}{s:Shared}
theorem compLoop_own{elt target iter:Expr}{ifs:List Expr}{scope:Scope}{pos:Pos}{it acc:Value}{env:Env}(I:Nat→Shared→Prop)
  (turn:∀n s,I n s→wpAny (model prog w) A (pyNext it) (fun r s₁=>match r with
   |none=>R (.ok .next) s₁
   |some v=>wpAny (model prog w) A (letOwnedTupleGo target it v) (fun _ s₁'=>wpAny (model prog w) A (assign target env v) (fun _ s₂=>
     wpAny (model prog w) A (forIn ifs true fun c r=>if r=true then do let ok ←isTrue c env (eval c env);pure (ForInStep.yield ok) else pure (ForInStep.yield r)) (fun ok s₃=>
      if ok=true then wpAny (model prog w) A (eval elt env) (fun x s₄=>
       wpAny (model prog w) A (call (.builtin "list.append") [acc,x]) (fun _ s₅=>∃m,m<n∧I m s₅) (fun _ _=>False) s₄) (fun _ _=>False) s₃
      else ∃m,m<n∧I m s₃) (fun _ _=>False) s₂) (fun _ _=>False) s₁') (fun _ _=>False) s₁) (fun _ _=>False) s)
  (n:Nat) (h:I n s):
  codeAny (model prog w) A (.compLoop (.ListComp elt [⟨target,iter,ifs,0⟩] scope pos) 0 it acc env) R s:=by
 refine codeAny_loop rfl I (fun n s hI=>?_) n h
 show wpAny _ A ((compTurn (.ListComp elt [⟨target,iter,ifs,0⟩] scope pos) 0 it acc env).onRaise (fun x=>do noteFrame x env;theTreesLotGoes x)) _ _ s
 refine wpAny_noted ?_
 rw[compTurn_list]
 refine wpAny_bind (wpAny_standAt (wpAny_bind (wpAny_mono (turn n s hI) (fun r s₁ h₁=>?_) fun _ _ h'=>h'.elim)))
 cases r with
 |none=>exact wpAny_pure h₁
 |some v=>
  refine wpAny_bind (wpAny_mono h₁ (fun _ s₁' h₁'=>?_) fun _ _ h'=>h'.elim)
  refine wpAny_bind (wpAny_mono h₁' (fun _ s₂ h₂=>wpAny_bind (wpAny_mono h₂ (fun ok s₃ h₃=>?_) fun _ _ h'=>h'.elim)) fun _ _ h'=>h'.elim)
  cases ok with
  |false=>exact wpAny_pure ⟨rfl,h₃⟩
  |true=>
   exact wpAny_bind (wpAny_bind (wpAny_mono h₃ (fun x s₄ h₄=>wpAny_bind (wpAny_mono h₄ (fun _ s₅ h₅=>wpAny_pure (wpAny_pure ⟨rfl,h₅⟩)) fun _ _ h'=>h'.elim)) fun _ _ h'=>h'.elim))
end
def cxC(X:Cx)(N':List Str)(scope:Scope)(cl:List (Str×Addr))(C:Addr)(fp:List Addr)(s:Shared)(H:Hp):Cx where
 prog:=X.prog
 w:=X.w
 K:=X.K
 mg:=X.mg
 base:=X.base
 A:=X.A
 N:=N'
 s₀:=s
 H₀:=H
 env:=compEnvC scope cl C X.env
 outer:=X.stack
 stack:=X.stack
 ex:=fp
 fn:=fun _=>false
 calm:=X.calm
 pn:=[]
 xe:=fun _ _=>False
def outC(js:List Nat)(σ:St):St:=js.map fun j=>(σ[j]?).join
def PIfs(X:Cx)(ifs:List Expr)(t:TT):Prop:=
 ∀(pins:List (Addr×Obj)) (s:Shared) (σ:St) (H:Hp) (Q:Bool→Hp→Prop),Inv X pins σ H s→t σ H Q→
  wpAny (model X.prog X.w) X.A (forIn ifs true fun c r=>if r=true then do let ok ←isTrue c X.env (eval c X.env);pure (ForInStep.yield ok) else pure (ForInStep.yield r)) (TP X pins σ Q) X.xe s
def tNoIf:TT:=fun _ H Q=>Q true H
theorem zt6{X:Cx}:PIfs X [] tNoIf:=fun _ _ _ H _ I h=>wpAny_tests_nil ⟨H,I,h⟩
theorem pifs_one{X:Cx}{c:Expr}{tc:TT}(hc:PT X c tc):PIfs X [c] tc:=fun pins s σ H Q I h=>wpAny_tests_one (hc pins s σ H Q I h)
def tComp(js:List Nat)(wi:TI)(ti:TT)(te:TE):TE:=fun σ H Q=>wi σ H fun J H1=>∀D,H1 D=none→
 ∃W:Nat→Nat→Hp→List V→Prop,(∃m,W 0 m (upd H1 D (.lst [])) [])∧∀i m H' ys,W i m H' ys→
  (J.stop i H'∧Q (.ref D) H')∨(J.go i H'∧∃N:Hp→List V→Prop,(∀H' ys',N H' ys'→∃m',m'<m∧W (i+1) m' H' ys')∧∀x H2,J.yld i H' x H2→ti (some x::outC js σ) H2 fun b H4=>
    if b=true then te (some x::outC js σ) H4 fun y H5=>H5 D=some (.lst ys)∧ys.length<sizeLine∧N (upd H5 D (.lst (ys++[y]))) (ys++[y])
    else N H4 ys)
section
variable {X:Cx}{elt iter:Expr}{ifs:List Expr}{scope:Scope}{pos px:Pos}{x:Str}{cl:List (Str×Addr)}{ys:List Str}{js:List Nat}{ti:TT}{te:TE}
structure CompScope(X:Cx)(scope:Scope)(cl:List (Str×Addr))(x:Str)(ys:List Str)(js:List Nat):Prop where
 clos:closureFor scope X.env=pure cl
 cl_in:∀y c,cl.lookup y=some c→X.env.cells.lookup y=some c
 nocell:∀y∈scope.names,y.2≠.cell
 kind:scope.kind=.function
 locs:∀y∈scope.names,y.2=.local→scope.names.lookup y.1=some .local
 own:scope.names.lookup x=some .local
 nd:(x::ys).Nodup
 has:∀y,((relabel scope X.env).names.lookup y=some .cell∨(relabel scope X.env).names.lookup y=some .free)→∃c,cl.lookup y=some c
 len:ys.length=js.length
 out:∀(k j:Nat),js[k]? = some j→∃y,ys[k]? = some y∧X.N[j]? = some y∧(X.env.kindOf y=some .cell∨X.env.kindOf y=some .free)∧(∃c,cl.lookup y=some c)∧
  ((relabel scope X.env).names.lookup y=some .cell∨(relabel scope X.env).names.lookup y=some .free)
theorem comp_inv{pins:List (Addr×Obj)}{σ:St}{H3:Hp}{s3:Shared}{h1:Heap}{fp:List Addr}{tk:Nat}(S:CompScope X scope cl x ys js)(I3:Inv X pins σ H3 s3)(hf:∀b∈fp,FpOk X pins H3 b)
  (ho:∀b∈fp,∃o,s3.heap.get? b=some o) (keep:∀b o,s3.heap.get? b=some o→h1.get? b=some o) (hns:∃m,h1.Ns s3.heap.objs.size m):
  Inv (cxC X (x::ys) scope cl s3.heap.objs.size fp s3 H3) [] (none::outC js σ) H3 { s3 with heap:=h1,toks:=tk }:=by
 have ok:(cxC X (x::ys) scope cl s3.heap.objs.size fp s3 H3).Ok:=by
  refine⟨I3.ok.mod,S.kind,I3.ok.glob,I3.ok.blt,Nat.le_refl _,fun x y c e1 e2=>I3.ok.inj x y c (S.cl_in x c e1) (S.cl_in y c e2),S.has,(fun _ _ hx=>nomatch hx),I3.ok.hd,I3.ok.frames,.inl rfl,fun b hb=>?_,I3.bs,Nat.le_trans I3.ok.bsz I3.sz,fun b o e hb=>?_,fun b hb hx=>?_,I3.stack,I3.stkFree⟩
  ·obtain⟨o,e⟩:=ho b hb
   exact⟨Nat.ne_of_lt (Heap.lt_size e),fun x c e=>(hf b hb).2.2.2.2.1 x c (S.cl_in x c e)⟩
  ·rcases(hf b hb).2.2.2.1 with z|z
   ·exact I3.ok.noex b o e z
   ·exact absurd (Nat.lt_of_lt_of_le (Heap.lt_size e) (Nat.le_trans I3.ok.bsz z)) (Nat.lt_irrefl _)
  ·rcases List.mem_cons.mp (I3.stkSub b hx) with z|z
   ·exact(hf b hb).2.1 z
   ·exact(hf b hb).2.2.1 z
 obtain⟨m,hm⟩:=hns
 refine⟨ok,rfl,I3.bare,Un.kept keep,⟨m,hm,fun i y v e1 e2 _=>?_⟩,fun y c e=>?_,I3.hok.fresh (Nat.le_refl _),fun y c e=>I3.freeC y c (S.cl_in y c e),fun p hp=>absurd (show p∈([]:List (Addr×Obj)) from hp) (by simp),I3.hok.kept keep,?_⟩
 ·cases i with
  |zero=>exact absurd (show(some none:Option (Option V))=some (some v) from e2) (by simp)
  |succ k=>
   have e2':(js.map fun j=>(σ[j]?).join)[k]? = some (some v):=e2
   rw[List.getElem?_map] at e2'
   cases ej:js[k]? with
   |none=>rw[ej] at e2';cases e2'
   |some j=>
    rw[ej] at e2'
    have e3:(σ[j]?).join=some v:=Option.some.inj e2'
    have e4:σ[j]? = some (some v):=by
     cases q:σ[j]? with
     |none=>rw[q] at e3;cases e3
     |some o=>rw[q] at e3;exact congrArg some e3
    obtain⟨y',n1,n2,k1,⟨c,hc⟩,k2⟩:=S.out k j ej
    have ey:y=y':=by
     have:some y=some y':=(show ys[k]? = some y from e1).symm.trans n1
     exact Option.some.inj this
    subst ey
    obtain⟨m',hn',hl'⟩:=I3.loc
    have vis:Vis X.env.scope y:=by
     rcases k1 with z|z
     ·exact .inr (.inl z)
     ·exact .inr (.inr z)
    obtain⟨u,r,l⟩:=hl' j y v n2 e4 vis
    refine⟨u,r,?_⟩
    rcases l with⟨kl,_⟩|⟨_,c',hc',hcell⟩
    ·rcases k1 with z|z
     ·rw[z] at kl;cases kl
     ·rw[z] at kl;cases kl
    ·have ec:c=c':=by
      have q:=S.cl_in y c hc
      rw[hc'] at q
      exact(Option.some.inj q).symm
     subst ec
     obtain⟨o,ho',hd'⟩:=hcell
     exact .inr ⟨k2,c,hc,o,keep c o ho',hd'⟩
 ·obtain⟨v,o,ho',hd'⟩:=I3.cell y c (S.cl_in y c e)
  exact⟨v,o,keep c o ho',hd'⟩
 ·show(none::outC js σ).length=(x::ys).length
  simp[outC,S.len]
def CompFin(X:Cx)(pins:List (Addr×Obj))(σ:St)(use:Option (Value→Sem Unit))(QQ:Value→Shared→Prop)(Q:VK):Prop:=
 ∀(D C:Addr) (s7:Shared) (H7:Hp),(∀h',Heap.SameBut C s7.heap h'→Inv X pins σ H7 { s7 with heap:=h' })→(∃m,s7.heap.Ns C m)→FpOk X pins H7 C→X.s₀.heap.objs.size≤C→Q (.ref D) H7→
  compPost (model X.prog X.w) X.A X.xe use QQ (.ref D) C (.ok .next) s7
theorem comp_core{wi:TI}{use:Option (Value→Sem Unit)}{QQ:Value→Shared→Prop}{cpos:Pos}(hcalm:X.calm=true)(S:CompScope X scope cl x ys js)(hi:PI X (.Name x px) iter wi)
  (ht:∀C fp s H,PIfs (cxC X (x::ys) scope cl C fp s H) ifs ti) (he:∀C fp s H,PE (cxC X (x::ys) scope cl C fp s H) elt te)
  (hs:∀x,foldedSetIterable iter X.env x=pure x) {pins:List (Addr×Obj)} {s:Shared} {σ:St} {H:Hp} {Q:VK} (I:Inv X pins σ H s) (h:tComp js wi ti te σ H Q) (fin0:CompFin X pins σ use QQ Q):
  wpAny (model X.prog X.w) X.A (comprehension (.ListComp elt [⟨.Name x px,iter,ifs,0⟩] scope pos) scope X.env cpos (newList []) false (eval iter X.env) use) QQ X.xe s:=by
 refine wpAny_comprehension_free (use:=use) (cl:=cl) rfl hs S.clos S.kind S.locs ?_
 refine thn (hi pins s σ H _ I h) fun v s1 h1=>thn h1 fun itv s2 h2=>?_
 obtain⟨it,fp,tn,J,H2,e,I2,T,st2,f2,rd⟩:=h2
 subst e
 refine wpAny_newObj_type ?_
 have hD2:H2 s2.heap.objs.size=none:=I2.hok.fresh (Nat.le_refl _)
 have I3:Inv X pins σ (upd H2 s2.heap.objs.size (.lst [])) { s2 with heap:=s2.heap.push { cls:=.type "list",dict:=none,data:=.seq ([]:List Value).toArray } }:=
  I2.laid (t':=s2.toks) (fun b u e=>Heap.get?_push_of_some _ e) (Nat.le_refl _) ⟨Nat.zero_le _,[],0,.nil,Heap.get?_push_size _ rfl⟩
 have f3:∀b∈fp,FpOk X pins (upd H2 s2.heap.objs.size (.lst [])) b:=fun b hb=>by
  refine⟨?_,(f2 b hb).2⟩
  obtain⟨o,e,_⟩:=T.obj 0 _ st2 b hb
  rw[za9 (Nat.ne_of_lt (Heap.lt_size e))]
  exact(f2 b hb).1
 have st3:tn 0 (s2.heap.push { cls:=.type "list",dict:=none,data:=.seq ([]:List Value).toArray }):=T.keep _ _ _ st2 fun b _ o e=>Heap.get?_push_of_some _ e
 have rd3:=rd s2.heap.objs.size hD2
 generalize s2.heap.objs.size=D at I3 f3 rd3 ⊢
 generalize hH3:upd H2 D (.lst [])=H3 at I3 f3 rd3
 generalize hs3:({ s2 with heap:=s2.heap.push { cls:=.type "list",dict:=none,data:=.seq ([]:List Value).toArray } }:Shared)=s3 at I3 ⊢
 have st3':tn 0 s3.heap:=by rw[←hs3];exact st3
 obtain⟨W,⟨m0,w0⟩,turn⟩:=rd3
 refine wpAny_newFunctionEnv S.nocell (by intro y hy;simp at hy) (fun h₁ hns₁ hsb₁=>?_) S.kind
 have keep:∀b o,s3.heap.get? b=some o→h₁.get? b=some o:=fun b o e=>by
  rw[hsb₁.2 b (Nat.ne_of_lt (Heap.lt_size e))]
  exact Heap.get?_push_of_some _ e
 have hof:∀b∈fp,∃o,s3.heap.get? b=some o:=fun b hb=>by
  obtain⟨o,e,_⟩:=T.obj 0 _ st3' b hb
  exact⟨o,e⟩
 have I4:=comp_inv (tk:=s3.toks+([]:List (Str×Value)).length) S I3 f3 hof keep ⟨_,hns₁⟩
 have stat:∀ {H':Hp},(∀b∈fp,H' b=none)→∀b∈fp,FpOk (cxC X (x::ys) scope cl s3.heap.objs.size fp s3 H3) [] H' b:=fun hn b hb=>by
  obtain⟨_,g1,g2,g3,g4,g5⟩:=f3 b hb
  obtain⟨o,e⟩:=hof b hb
  refine⟨hn b hb,Nat.ne_of_lt (Heap.lt_size e),fun hx=>?_,.inl hb,fun x c e=>g4 x c (S.cl_in x c e),fun p hp=>absurd (show p∈([]:List (Addr×Obj)) from hp) (by simp)⟩
  rcases List.mem_cons.mp (I3.stkSub b hx) with z|z
  ·exact g1 z
  ·exact g2 z
 have fin:∀ {σ7:St} {H7:Hp} {s7:Shared},Inv (cxC X (x::ys) scope cl s3.heap.objs.size fp s3 H3) [] σ7 H7 s7→Q (.ref D) H7→compPost (model X.prog X.w) X.A X.xe use QQ (.ref D) s3.heap.objs.size (.ok .next) s7:=fun {σ7 H7 s7} I7 q=>by
  obtain⟨m,hn,_⟩:=I7.loc
  refine fin0 D s3.heap.objs.size s7 H7 (fun h' hs'=>?_) ⟨m,hn⟩ (I3.fpOk (Nat.le_refl _) I7.free) I3.sz q
  have ne:∀b o,s3.heap.get? b=some o→b≠s3.heap.objs.size:=fun b o e=>Nat.ne_of_lt (Heap.lt_size e)
  have u:Un (frs X.stack) fp H3 H7 s3.heap s7.heap:=I7.base
  have hC:H7 s3.heap.objs.size=none:=I7.free
  refine I3.call' (ch:=fp) (s':={ s7 with heap:=h' }) I7.os ⟨fun b o e n hb hx=>(hs'.2 b (ne b o e)).trans (u.keep b o e n hb hx),fun b o e n hb hx=>?_,u.free,fun b o e hx=>?_,u.tups,u.frzs,u.tbls⟩ ?_ I7.bare ?_
  ·obtain⟨sl,q⟩:=u.slot b o e n hb hx
   exact⟨sl,(hs'.2 b (ne b o e)).trans q⟩
  ·obtain⟨o',q⟩:=u.there b o e hx
   exact⟨o',(hs'.2 b (ne b o e)).trans q⟩
  ·intro b ob eb
   refine(I7.hok b ob eb).stay (fun c v hc q=>(hs'.2 c ?_).trans q) (fun _ q=>q) fun _ _ q=>q
   rcases hc with z|z
   ·intro y;rw[z] at y;rw[y] at eb;rw[hC] at eb;cases eb
   ·intro y;rw[y] at z;rw[hC] at z;cases z
  ·intro b hb
   obtain⟨_,g1,g2,g3,g4,g5⟩:=f3 b hb
   exact⟨g3,g1,g4,g5⟩
 have loop:∀(s5:Shared) (n i:Nat) (σ5:St) (H5:Hp) (zs:List V),Inv (cxC X (x::ys) scope cl s3.heap.objs.size fp s3 H3) [] (none::outC js σ) H5 s5→tn i s5.heap→(∀b∈fp,H5 b=none)→W i n H5 zs→
   codeAny (model X.prog X.w) X.A (.compLoop (.ListComp elt [⟨.Name x px,iter,ifs,0⟩] scope pos) 0 (.ref it) (.ref D) (compEnvC scope cl s3.heap.objs.size X.env)) (compPost (model X.prog X.w) X.A X.xe use QQ (.ref D) s3.heap.objs.size) s5:=by
  intro s5 n i σ5 H5 zs I5 st5 fr5 w5
  refine compLoop_own (fun n s=>∃i H' zs,Inv (cxC X (x::ys) scope cl s3.heap.objs.size fp s3 H3) [] (none::outC js σ) H' s∧tn i s.heap∧(∀b∈fp,H' b=none)∧W i n H' zs) ?_ n ⟨i,H5,zs,I5,st5,fr5,w5⟩
  rintro n s6 ⟨i,H6,zs,I6,st6,fr6,w6⟩
  rcases turn i n H6 zs w6 with⟨stop,q⟩|⟨go,N,hN,step⟩
  ·refine thn (T.done (cxC X (x::ys) scope cl s3.heap.objs.size fp s3 H3) rfl rfl rfl hcalm i [] s6 _ H6 (fun _ _=>False) I6 (stat fr6) st6 stop) fun r s7 ⟨hr,I7⟩=>?_
   subst hr
   exact fin I7 q
  ·refine thn (T.item (cxC X (x::ys) scope cl s3.heap.objs.size fp s3 H3) rfl rfl rfl hcalm i [] s6 _ H6 (fun _ _=>False) I6 (stat fr6) st6 go) fun r s7 ⟨u,hr,h7⟩=>?_
   subst hr
   refine thn h7 fun _ s8 ⟨v8,H8,I8,r8,y8,st8,fr8⟩=>?_
   have I8':=I8.pinned (stat fr8) (T.obj _ _ st8)
   have pg:PG (cxC X (x::ys) scope cl s3.heap.objs.size fp s3 H3) (.Name x px) (gName 0):=zn8 S.nd rfl (.inl (lookup_relabel_local S.own)) (.inr (lookup_relabel_local S.own))
   refine thn (pg _ s8 _ H8 v8 u (fun σ9 H9=>σ9=some v8::outC js σ∧H9=H8) I8' r8 ⟨rfl,rfl⟩) fun _ s9 ⟨σ9,H9,I9,e9,eh9⟩=>?_
   subst e9 eh9
   have again:∀ {s':Shared} {H':Hp} {zs':List V},Inv (cxC X (x::ys) scope cl s3.heap.objs.size fp s3 H3) ([]++pinsAt fp s8.heap) (some v8::outC js σ) H' s'→N H' zs'→
     ∃m,m<n∧∃i H' zs,Inv (cxC X (x::ys) scope cl s3.heap.objs.size fp s3 H3) [] (none::outC js σ) H' s'∧tn i s'.heap∧(∀b∈fp,H' b=none)∧W i m H' zs:=fun {s' H' zs'} I' n'=>by
    obtain⟨m',hm,w'⟩:=hN H' zs' n'
    refine⟨m',hm,i+1,H',zs',I'.unpinned.weak rfl ?_,T.keep _ _ _ st8 fun b hb o e=>(I'.pin (b,o) (List.mem_append_right _ (List.mem_append_right _ (zt9 hb e)))).1,fun b hb=>?_,w'⟩
    ·intro k v e
     cases k with
     |zero=>exact absurd (show(some none:Option (Option V))=some (some v) from e) (by simp)
     |succ k=>exact e
    ·obtain⟨o,e,d⟩:=T.obj _ _ st8 b hb
     exact(I'.pin (b,o) (List.mem_append_right _ (List.mem_append_right _ (zt9 hb e)))).2.1
   refine thn (ht _ _ _ _ _ s9 _ _ _ I9 (step v8 _ y8)) fun b s10 ⟨H10,I10,q10⟩=>?_
   cases b with
   |false=>
    rw[if_neg Bool.false_ne_true] at q10 ⊢
    exact again I10 q10
   |true=>
    rw[if_pos rfl] at q10 ⊢
    refine thn (he _ _ _ _ _ s10 _ H10 _ I10 q10) fun xv s11 ⟨y,H11,I11,r11,hD11,hz,n11⟩=>?_
    refine thn (zg2 _ s11 _ H11 (.ref D) [y] (.ref D) [xv] (fun _ H'=>H'=upd H11 D (.lst (zs++[y]))) I11 rfl (.cons r11 .nil) ⟨D,zs,y,rfl,rfl,hD11,hz,rfl⟩) fun _ s12 ⟨_,H12,I12,_,e12⟩=>?_
    subst e12
    exact again I12 n11
 have st4:tn 0 h₁:=T.keep _ _ _ st3' fun b _ o e=>keep b o e
 have fr4:∀b∈fp,H3 b=none:=fun b hb=>(f3 b hb).1
 exact codeAny_compStart_list (loop _ m0 0 [] H3 [] I4 st4 fr4 w0) (T.self X.A 0 _ _ _ st4 (loop _ m0 0 [] H3 [] I4 st4 fr4 w0))
theorem pe_comp{wi:TI}(hcalm:X.calm=true)(S:CompScope X scope cl x ys js)(hi:PI X (.Name x px) iter wi)
  (ht:∀C fp s H,PIfs (cxC X (x::ys) scope cl C fp s H) ifs ti) (he:∀C fp s H,PE (cxC X (x::ys) scope cl C fp s H) elt te)
  (hs:∀x,foldedSetIterable iter X.env x=pure x:=by intro _;rfl):
  PE X (.ListComp elt [⟨.Name x px,iter,ifs,0⟩] scope pos) (tComp js wi ti te):=by
 intro pins s σ H Q I h
 rw[eval_ListComp]
 exact comp_core (use:=none) hcalm S hi ht he hs I h fun D C s7 H7 inv ⟨m,hn⟩ _ _ q=>⟨m,hn,fun h' hs'=>⟨.ref D,H7,inv h' hs',rfl,q⟩⟩
theorem Inv.junk{pins:List (Addr×Obj)}{σ:St}{H:Hp}{s:Shared}{C:Addr}{h':Heap}(I:Inv X pins σ H s)(hf:FpOk X pins H C)(hsz:X.s₀.heap.objs.size≤C)(hs:Heap.SameBut C s.heap h'):Inv X pins σ H { s with heap:=h' }:=by
 obtain⟨f0,f1,f2,f3,f4,f5⟩:=hf
 have ne:∀b o,X.s₀.heap.get? b=some o→b≠C:=fun b o e=>Nat.ne_of_lt (Nat.lt_of_lt_of_le (Heap.lt_size e) hsz)
 obtain⟨m,hn,hl⟩:=id I.loc
 refine⟨I.ok,I.os,I.bare,⟨fun b o e n hb hx=>(hs.2 b (ne b o e)).trans (I.base.keep b o e n hb hx),fun b o e n hb hx=>?_,I.base.free,fun b o e hx=>?_,I.base.tups,I.base.frzs,I.base.tbls⟩,⟨m,hn.sameBut hs f1.symm,fun j y v e1 e2 e3=>?_⟩,fun y c e=>?_,I.free,I.freeC,fun p hp=>?_,fun b ob e=>?_,I.len⟩
 ·obtain⟨sl,e1⟩:=I.base.slot b o e n hb hx
  exact⟨sl,(hs.2 b (ne b o e)).trans e1⟩
 ·obtain⟨o',e1⟩:=I.base.there b o e hx
  exact⟨o',(hs.2 b (ne b o e)).trans e1⟩
 ·obtain⟨u',r',q⟩:=hl j y v e1 e2 e3
  refine⟨u',r',?_⟩
  rcases q with⟨k,e⟩|⟨k,c,e,z⟩
  ·exact .inl ⟨k,e⟩
  ·exact .inr ⟨k,c,e,z.sameBut hs (f4 y c e)⟩
 ·obtain⟨w',z⟩:=I.cell y c e
  exact⟨w',z.sameBut hs (f4 y c e)⟩
 ·obtain⟨e,nn,nee,nf,d⟩:=I.pin p hp
  exact⟨(hs.2 p.1 (f5 p hp)).trans e,nn,nee,nf,d⟩
 ·refine(I.hok b ob e).stay (fun c u hc q=>(hs.2 c ?_).trans q) (fun _ q=>q) fun _ _ q=>q
  rintro rfl
  rcases hc with z|z
  ·rw[←z,f0] at e;cases e
  ·rw[f0] at z;cases z
theorem ps_setC{wi:TI}{i:Nat}{y:Str}{py spos:Pos}(hN:X.N.Nodup)(hix:X.N[i]? = some y)(hxl:Loc X.env.scope y)(hcalm:X.calm=true)(S:CompScope X scope cl x ys js)(hi:PI X (.Name x px) iter wi)
  (ht:∀C fp s H,PIfs (cxC X (x::ys) scope cl C fp s H) ifs ti) (he:∀C fp s H,PE (cxC X (x::ys) scope cl C fp s H) elt te)
  (hsw:swapsWith (.ListComp elt [⟨.Name x px,iter,ifs,0⟩] scope pos) (some (.Name y py)) spos.line X.env=pure true:=by rfl) (hs:∀x,foldedSetIterable iter X.env x=pure x:=by intro _;rfl)
  (hf:X.fn y=true∨X.env.scope.names.lookup y=some .local:=by first|exact .inl rfl|exact .inr rfl|assumption):
  PS X (.Assign [.Name y py] (.ListComp elt [⟨.Name x px,iter,ifs,0⟩] scope pos) spos) (tAsg (tComp js wi ti te) (gName i)):=by
 intro pins s σ H D I h
 rw[exec_Assign_Name_used _ _ _ _ hsw]
 refine wpAny_bind (wpAny_standAt (wpAny_bind ?_))
 show wpAny _ _ (do let _ ←comprehension (.ListComp elt [⟨.Name x px,iter,ifs,0⟩] scope pos) scope X.env _ (newList []) false (eval iter X.env) (some (assign (.Name y py) X.env))) _ _ s
 refine wpAny_bind (wpAny_mono (comp_core (use:=some (assign (.Name y py) X.env)) (QQ:=fun _ s'=>SP X pins D .next s') hcalm S hi ht he hs I h fun DD C s7 H7 inv ⟨m,hn⟩ hfp hsz q=>?_) (fun _ s' hq=>wpAny_pure (wpAny_pure hq)) fun _ _ e=>e)
 have J:Inv X pins σ H7 s7:=inv s7.heap (Heap.SameBut.refl _ _)
 show wpAny _ _ (assign (.Name y py) X.env (.ref DD)) _ _ _
 refine wpAny_assign_Name (store_ok2 J hN hix hxl (show RelV (.ref DD) (.ref DD) from rfl) (fun s8 I8 ⟨a,sb,ha⟩=>?_) hf)
 have nC:C≠a:=by
  rcases ha with rfl|hc
  ·exact hfp.2.1
  ·exact(hfp.2.2.2.2.1 _ _ hc).symm
 exact⟨m,hn.sameBut sb nC,fun h' hs'=>⟨_,H7,I8.junk hfp hsz hs',q⟩⟩
theorem zx4 {K : PySem.W.Frag} {a D : Addr} {xs : List V} {τ : St} {te : TE} {H : Hp} {Q : Hp → Prop} (Pv : Nat → Hp → List V → Prop) (h0 : Pv 0 (upd H D (.lst [])) [])
    (hl : ∀ i H ys, i ≤ xs.length → Pv i H ys → SqL K H a xs)
    (hs : ∀ i x H ys, xs[i]? = some x → Pv i H ys → te (some x :: τ) H fun y H5 => H5 D = some (.lst ys) ∧ ys.length < sizeLine ∧ Pv (i + 1) (upd H5 D (.lst (ys ++ [y]))) (ys ++ [y]))
    (hd : ∀ H ys, Pv xs.length H ys → Q H) :
    ∃ W : Nat → Nat → Hp → List V → Prop, (∃ m, W 0 m (upd H D (.lst [])) []) ∧ ∀ i m H' ys, W i m H' ys →
      ((Itl K a).stop i H' ∧ Q H') ∨ ((Itl K a).go i H' ∧ ∃ N : Hp → List V → Prop, (∀ H' ys', N H' ys' → ∃ m', m' < m ∧ W (i + 1) m' H' ys') ∧ ∀ x H2, (Itl K a).yld i H' x H2 → tNoIf (some x :: τ) H2 fun b H4 =>
        if b = true then te (some x :: τ) H4 fun y H5 => H5 D = some (.lst ys) ∧ ys.length < sizeLine ∧ N (upd H5 D (.lst (ys ++ [y]))) (ys ++ [y])
        else N H4 ys) := by
  refine ⟨fun i m H ys => m = xs.length - i ∧ i ≤ xs.length ∧ Pv i H ys, ⟨xs.length, by simp, Nat.zero_le _, h0⟩, ?_⟩
  rintro i m H ys ⟨rfl, hi, p⟩
  have q := hl i H ys hi p
  by_cases hlt : i < xs.length
  · refine .inr ⟨⟨xs, xs[i], q, by simp [hlt]⟩, Pv (i + 1), fun H' ys' p' => ⟨xs.length - (i + 1), by omega, rfl, hlt, p'⟩, fun x H' y => ?_⟩
    obtain ⟨e, y⟩ := y
    subst e
    exact hs i x _ ys (y xs q) p
  · have e : i = xs.length := by omega
    subst e
    exact .inl ⟨⟨xs, q, Nat.le_refl _⟩, hd H ys p⟩
end
mutual
inductive DV(H:Hp):V→PyData→Prop
 |non:DV H .non .none
 |bl (b:Bool):DV H (.bl b) (.bool b)
 |int (i:Int):DV H (.int i) (.int i)
 |str (x:Str):DV H (.str x) (.str x)
 |lst {a:Addr} {xs:List V} {ds:List PyData}:H a=some (.lst xs)→DVs H xs ds→DV H (.ref a) (.list ds)
 |tup {a:Addr} {xs:List V} {ds:List PyData}:H a=some (.tup xs)→DVs H xs ds→DV H (.ref a) (.tuple ds)
inductive DVs(H:Hp):List V→List PyData→Prop
 |nil:DVs H [] []
 |cons {x:V} {xs:List V} {d:PyData} {ds:List PyData}:DV H x d→DVs H xs ds→DVs H (x::xs) (d::ds)
end
section
variable {P:Program}{w:World}{H:Hp}{h:Heap}
mutual
theorem DV.reads(hok:HOk P w H h):∀(d:PyData) (x:V) (u:Value),DV H x d→RelV x u→∃as,Reads h u d as
 |.none,x,u,r,q=>by cases r;cases(show u=Value.none from q);exact⟨[],.none⟩
 |.bool b,x,u,r,q=>by cases r;cases(show u=Value.bool b from q);exact⟨[],.bool b⟩
 |.int i,x,u,r,q=>by cases r;obtain⟨t,rfl⟩:=(show ∃t,u=Value.int i t from q);exact⟨[],.int i t⟩
 |.str y,x,u,r,q=>by cases r;obtain⟨t,rfl⟩:=(show ∃t,u=Value.str y t from q);exact⟨[],.str y t⟩
 |.list ds,x,u,r,q=>by
  cases r with
  |@lst a xs _ e rs=>
   cases(show u=Value.ref a from q)
   obtain⟨z,its,n,rv,eo⟩:=(show ObjOk P w H h a (.lst xs) from hok a _ e)
   obtain⟨as,ra⟩:=DVs.reads hok ds xs its rs rv
   exact⟨a::as,.list eo rfl rfl (by simpa using ra)⟩
 |.tuple ds,x,u,r,q=>by
  cases r with
  |@tup a xs _ e rs=>
   cases(show u=Value.ref a from q)
   obtain⟨z,its,rv,o,eo,hc,n,hd⟩:=(show ObjOk P w H h a (.tup xs) from hok a _ e)
   obtain⟨as,ra⟩:=DVs.reads hok ds xs its rs rv
   exact⟨as,.tuple eo hc hd (by simpa using ra)⟩
 |.dict _,x,u,r,q=>by cases r
theorem DVs.reads(hok:HOk P w H h):∀(ds:List PyData) (xs:List V) (us:List Value),DVs H xs ds→Vals xs us→∃as,ReadsAll h us ds as
 |[],_,_,r,q=>by cases r;cases q;exact⟨[],.nil⟩
 |d::ds,_,_,r,q=>by
  cases r with
  |cons r1 r2=>
   cases q with
   |cons q1 q2=>
    obtain⟨as,ra⟩:=DV.reads hok d _ _ r1 q1
    obtain⟨bs,rb⟩:=DVs.reads hok ds _ _ r2 q2
    exact⟨as++bs,.cons ra rb⟩
end
end
section
variable {X:Cx}
theorem op_eqD(hu:X.A.units+64<cLine):OpR X (compareOp .Eq) (fun x y H Q=>∃dx dy,DV H x dx∧DV H y dy∧dx.canLay0=true∧dy.canLay0=true∧dx.depth≤64∧Q (.bl (PyData.eqv dx dy)) H):=by
 intro pins s σ H x y v u Q I rx ry h
 obtain⟨dx,dy,hx,hy,cx,cy,hd,q⟩:=h
 obtain⟨as,ra⟩:=hx.reads I.hok dx x v rx
 obtain⟨bs,rb⟩:=hy.reads I.hok dy y u ry
 exact SeqAt.compareEq_reads ra rb cx cy (Nat.lt_of_le_of_lt (Nat.add_le_add_left (Nat.le_trans (Nat.min_le_left _ _) hd) _) hu) ⟨.bl _,H,I,rfl,q⟩
theorem op_neD(hu:X.A.units+64<cLine):OpR X (compareOp .NotEq) (fun x y H Q=>∃dx dy,DV H x dx∧DV H y dy∧dx.canLay0=true∧dy.canLay0=true∧dx.depth≤64∧Q (.bl (!PyData.eqv dx dy)) H):=by
 intro pins s σ H x y v u Q I rx ry h
 obtain⟨dx,dy,hx,hy,cx,cy,hd,q⟩:=h
 obtain⟨as,ra⟩:=hx.reads I.hok dx x v rx
 obtain⟨bs,rb⟩:=hy.reads I.hok dy y u ry
 exact SeqAt.compareNe_reads ra rb cx cy (Nat.lt_of_le_of_lt (Nat.add_le_add_left (Nat.le_trans (Nat.min_le_left _ _) hd) _) hu) ⟨.bl _,H,I,rfl,q⟩
theorem yf8:∀(xs ys:List Int),PyData.eqvAll (xs.map .int) (ys.map .int)=decide (xs=ys)
 |[],[]=>rfl
 |[],y::ys=>by simp[PyData.eqvAll]
 |x::xs,[]=>by simp[PyData.eqvAll]
 |x::xs,y::ys=>by
  show(PyData.eqv (.int x) (.int y)&&PyData.eqvAll (xs.map .int) (ys.map .int))=_
  rw[yf8 xs ys]
  show((x==y)&&decide (xs=ys))=decide (x::xs=y::ys)
  by_cases h1:x=y<;>by_cases h2:xs=ys<;>simp[h1,h2]
theorem eqv_ints(xs ys:List Int):PyData.eqv (.list (xs.map .int)) (.list (ys.map .int))=decide (xs=ys):=yf8 xs ys
theorem zr3:∀xs:List Int,PyData.canLay0 (.list (xs.map .int))=true
 |[]=>rfl
 |x::xs=>zr3 xs
theorem ya3:∀xs:List Int,PyData.depth (.list (xs.map .int))≤1
 |[]=>Nat.le_refl _
 |x::xs=>by
  have:=ya3 xs
  show max 0 (PyData.depthAll (xs.map .int))+1≤1
  have h2:PyData.depthAll (xs.map .int)+1≤1:=this
  omega
theorem yc3{H:Hp}:∀xs:List Int,DVs H (xs.map V.int) (xs.map PyData.int)
 |[]=>.nil
 |x::xs=>.cons (.int x) (yc3 xs)
theorem op_mulS:OpR X (binaryOp .Mult) (fun x y H Q=>∃z n,x=.str z∧y=.int n∧0≤n∧n≤16777216∧z.length*n.toNat≤16777216∧Q (.str (Txt.mul z n)) H):=by
 intro pins s σ H x y v u Q I rx ry h
 obtain⟨z,n,rfl,rfl,h0,h1,h2,q⟩:=h
 obtain⟨t,rfl⟩:=rx
 obtain⟨t',rfl⟩:=ry
 exact SB.mul (mulOk_of z.length n.toNat (Nat.le_refl _) (by omega) (by omega) (by omega) h2) fun t2 k=>⟨.str (Txt.mul z n),H,I.tok k,⟨_,rfl⟩,q⟩
theorem mt_rfind:MtR X "str.rfind" (fun x xs H Q=>∃z y,x=.str z∧xs=[.str y]∧Q (.int (Txt.rfind z y)) H):=by
 intro pins s σ H x xs v us Q I rx rs h
 obtain⟨z,y,rfl,rfl,q⟩:=h
 obtain⟨t,rfl⟩:=rx
 obtain⟨u,rfl,ru⟩:=zv6 rs
 obtain⟨t',rfl⟩:=ru
 exact call_gives F.slot_str_rfind (typeIs_str _ _ _) F.entry_str_rfind (F.args_str_rfind_2 _ _) (gives_str_rfind z y t t') ⟨.int _,H,I.tok _,⟨_,rfl⟩,q⟩
theorem strs_of{zs:List Str}:∀ {us:List Value},Vals (zs.map V.str) us→StrsAre us zs:=by
 induction zs with
 |nil=>intro us r;cases r;exact .nil
 |cons z zs ih=>
  intro us r
  cases r with
  |cons r1 r2=>
   obtain⟨t,rfl⟩:=r1
   exact .cons z t (ih r2)
theorem mt_join:MtR X "str.join" (fun x xs H Q=>∃z p zs,x=.str z∧xs=[.ref p]∧SqL X.K H p (zs.map V.str)∧(zs.map (·.length)).sum+zs.length*z.length≤16777216∧Q (.str (Txt.join z zs)) H):=by
 intro pins s σ H x xs v us Q I rx rs h
 obtain⟨z,p,zs,rfl,rfl,hq,hz,q⟩:=h
 obtain⟨t,rfl⟩:=rx
 obtain⟨u,rfl,ru⟩:=zv6 rs
 cases ru
 obtain⟨its,r,pl,_⟩:=I.list hq
 exact join_list pl.isList (by simpa using strs_of r) hz fun t' k=>⟨.str _,H,I.tok k,⟨_,rfl⟩,q⟩
end
theorem ObjOk.there{P:Program}{w:World}{H:Hp}{h:Heap}{a:Addr}{o:HO}(x:ObjOk P w H h a o):∃ob,h.get? a=some ob:=by
 cases o with
 |lst xs=>obtain⟨_,_,_,_,e⟩:=x;exact⟨_,e⟩
 |tup xs=>obtain⟨_,_,_,o,e,_⟩:=x;exact⟨_,e⟩
 |dK kvs=>obtain⟨_,_,_,_,o,_,_,e,_⟩:=x;exact⟨_,e⟩
 |dT kvs=>obtain⟨_,_,_,_,o,_,_,e,_⟩:=x;exact⟨_,e⟩
 |set S n=>obtain⟨o,_,_,_,e,_⟩:=x;exact⟨_,e⟩
 |ins C dx fs=>obtain⟨_,_,_,e,_⟩:=x;exact⟨_,e⟩
 |own y=>exact x
 |xd fs=>obtain⟨_,⟨_,_,_,e,_⟩,_⟩:=x;exact⟨_,e⟩
 |rng lo hi=>obtain⟨_,_,_,e⟩:=x;exact⟨_,e⟩
 |frz ob u=>obtain⟨e,_⟩:=x;exact⟨_,e⟩
 |tbl ps=>exact⟨_,show h.get? a=some _ from x⟩
 |met f y=>exact⟨_,show h.get? a=some _ from x⟩
 |ext φ=>obtain⟨_,e,_⟩:=x;exact e
def CXe(P:Program)(w:World):CXT:=fun outer H s E e s'=>
 ∃(a t:Addr) (cls:Value) (H':Hp) (B:Heap),e=.ref a∧s'.os=s.os∧AllBare s'.gens∧Un (frs outer) [] H H' s.heap s'.heap∧HOk P w H' B∧
  (∀b o,s.heap.get? b=some o→H b=none→b∉frs outer→B.get? b=some o)∧(∀b o,s.heap.get? b=some o→b∉frs outer→∃o',B.get? b=some o')∧
  Heap.FlyingW B outer a cls (.ref t) s'.heap∧E cls none H'
theorem un_left{X:Cx}{pins:List (Addr×Obj)}{σ:St}{H H':Hp}{s s':Shared}{B h'':Heap}{outer:List Env}(hX:X.ex=[])(ho:X.outer=outer)(hst:X.stack=X.env::X.outer)
  (I:Inv X pins σ H s) (un:Un (frs X.stack) [] H H' s.heap s'.heap)
  (old:∀b o,s.heap.get? b=some o→H b=none→b∉frs X.stack→B.get? b=some o) (the:∀b o,s.heap.get? b=some o→b∉frs X.stack→∃o',B.get? b=some o')
  (fr:s'.heap.FunFrames B X.stack) (st:B.StaysIn h'') (up:s'.heap.UpToSlots h''):
  Un (frs outer) [] X.H₀ H' X.s₀.heap h''∧(∀b o,X.s₀.heap.get? b=some o→X.H₀ b=none→b∉frs outer→B.get? b=some o)∧(∀b o,X.s₀.heap.get? b=some o→b∉frs outer→∃o',B.get? b=some o'):=by
 subst ho
 have nx:∀b:Addr,b∉X.ex:=fun b=>by rw[hX];simp
 have neL:∀b o,X.s₀.heap.get? b=some o→b≠X.env.locals:=fun b o e=>Nat.ne_of_lt (Nat.lt_of_lt_of_le (Heap.lt_size e) I.ok.above)
 have nst:∀b o,X.s₀.heap.get? b=some o→b∉frs X.outer→b∉frs X.stack:=fun b o e hb hz=>by
  rcases List.mem_cons.mp (I.stkSub b hz) with z|z
  ·exact neL b o e z
  ·exact hb z
 have up':∀b,b∈frs X.outer→b∈frs X.stack:=fun b hb=>by
  rw[hst]
  obtain⟨e,he,hf⟩:=List.mem_filterMap.mp hb
  exact List.mem_filterMap.mpr ⟨e,List.mem_cons_of_mem _ he,hf⟩
 have k1:∀b o,X.s₀.heap.get? b=some o→X.H₀ b=none→b∉frs X.outer→B.get? b=some o:=fun b o e n hb=>
  old b o (I.base.keep b o e n hb (nx b)) (I.base.free b o e n (nx b)) (nst b o e hb)
 have k2:∀b o,X.s₀.heap.get? b=some o→b∉frs X.outer→∃o',B.get? b=some o':=fun b o e hb=>by
  obtain⟨o',e'⟩:=I.base.there b o e (nx b)
  exact the b o' e' (nst b o e hb)
 have k3:∀b o,X.s₀.heap.get? b=some o→X.H₀ b=none→b∈frs X.outer→∃sl,h''.get? b=some { o with slots:=sl }:=fun b o e n hb=>by
  obtain⟨sl,e1⟩:=I.base.slot b o e n hb (nx b)
  obtain⟨sl',e2⟩:=un.any e1 (I.base.free b o e n (nx b)) (by simp)
  obtain⟨_,o',ho',hnf⟩:=fr.mem (up' b hb)
  rw[e2] at ho'
  cases ho'
  obtain⟨sl2,e3⟩:=up b _ e2 hnf
  exact⟨sl2,e3⟩
 refine⟨⟨fun b o e n hb _=>st b o (k1 b o e n hb),fun b o e n hb _=>k3 b o e n hb,fun b o e n _=>?_,fun b o e _=>?_,fun b xs e=>un.tups b xs (I.base.tups b xs e),fun b o u e=>un.frzs b o u (I.base.frzs b o u e),fun b ps e=>?_⟩,k1,k2⟩
 ·obtain⟨o',e1⟩:=I.base.there b o e (nx b)
  exact un.free b o' e1 (I.base.free b o e n (nx b)) (by simp)
 ·by_cases hb:b∈frs X.outer
  ·obtain⟨_,o',ho',hnf⟩:=fr.mem (up' b hb)
   obtain⟨sl2,e3⟩:=up b _ ho' hnf
   exact⟨_,e3⟩
  ·obtain⟨o',e1⟩:=k2 b o e hb
   exact⟨o',st b o' e1⟩
 ·obtain⟨m1,e1⟩:=I.base.tbls b ps e
  obtain⟨m2,e2⟩:=un.tbls b _ e1
  exact⟨m1++m2,by rw[e2,Array.append_assoc]⟩
def Raises(X:Cx)(E:XK):Prop:=∀(pins:List (Addr×Obj)) (σ:St) (H:Hp) (s:Shared) (h':Heap) (e C:Addr) (args:List Value),Inv X pins σ H s→Heap.MadeExcOf s.heap h' e (.ref C) args→E (.ref C) none H→
 X.xe (.ref e) { s with heap:=h' }
section
variable {P:Program}{w:World}{K:PySem.W.Frag}{mg:Str→Option Value}{base:Heap}{N:List Str}{qual:Str}{scope:Scope}{f:Addr}{cd:Value}{A:Around}{outer:List Env}{s0:Shared}{H0:Hp}{E E':XK}
theorem yd3:Raises (cxOf (CXe P w) P w K mg base N qual scope f cd A outer s0 H0 E) E:=by
 intro pins σ H s h' e C args I hx hE
 have Fr0:=I.stack
 have hin:∀env∈(cxOf (CXe P w) P w K mg base N qual scope f cd A outer s0 H0 E).stack,∀b,env.frame=some b→b∈frs (cxOf (CXe P w) P w K mg base N qual scope f cd A outer s0 H0 E).stack:=fun env he b hb=>List.mem_filterMap.mpr ⟨env,he,hb⟩
 have FB:=PySem.W.funFrames_hide Fr0 hin
 refine wpAny_leaves_madeW I.ok.frames rfl (fun b o q=>PySem.W.of_hideAll _ q) FB hx fun h'' t x1 x2 x3 x4=>?_
 have inB:∀b o,s.heap.get? b=some o→b∉frs (cxOf (CXe P w) P w K mg base N qual scope f cd A outer s0 H0 E).stack→(PySem.W.hideAll s.heap (frs (cxOf (CXe P w) P w K mg base N qual scope f cd A outer s0 H0 E).stack)).get? b=some o:=
  fun b o q n=>PySem.W.hideAll_get _ q n
 have up:s.heap.UpToSlots h'':=(Heap.UpToSlots.of_keeps hx.keeps).trans x4
 obtain⟨u1,u2,u3⟩:=un_left (H':=H) (s':=s) rfl rfl rfl I Un.refl (fun b o q _ hb=>inB b o q hb) (fun b o q hb=>⟨o,inB b o q hb⟩) FB x1.1 up
 refine⟨e,t,.ref C,H,_,rfl,I.os,I.bare,u1,?_,u2,u3,x1,hE⟩
 intro a o ea
 refine(I.hok a o ea).stay (fun b u hb q=>inB b u q fun hm=>?_) (fun _ q=>q) fun _ _ q=>q
 have z:=I.stkFree b hm
 rcases hb with y|y
 ·subst y;rw[z] at ea;cases ea
 ·rw[z] at y;cases y
theorem pass_e(hE:∀c o H',E' c o H'→E c o H'):Passes (CXe P w) (cxOf (CXe P w) P w K mg base N qual scope f cd A outer s0 H0 E) E':=by
 intro pins σ H s e s' I h
 obtain⟨a,t,cls,H',B,rfl,os,bare,un,hok,old,the,fl,he⟩:=h
 refine wpAny_leaves_onW I.ok.frames rfl fl fun h'' fl' up=>?_
 obtain⟨u1,u2,u3⟩:=un_left rfl rfl rfl I un old the fl.2.2.1 fl'.1 up
 exact⟨a,t,cls,H',B,rfl,os.trans I.os,bare,u1,hok,u2,u3,fl',hE _ _ _ he⟩
theorem pass_no{X:Cx}:Passes (CXe P w) X fun _ _ _=>False:=fun _ _ _ _ _ _ _ h=>by
 obtain⟨_,_,_,_,_,_,_,_,_,_,_,_,_,z⟩:=h
 exact z.elim
end
abbrev bmVal:List Value:=[.type "ValueError",.type "Exception",.type "BaseException",.type "object"]
def ExcOk(K:PySem.W.Frag)(C:Addr):Prop:=PySem.W.excIn K C bmVal "ValueError.__new__"=true
theorem ExcOk.obj{K:PySem.W.Frag}{C:Addr}{h:Heap}(q:ExcOk K C)(X:K.In h):∃bm N nm qn bs hd sn sub ab col dd k0 k1 k2 k3 k5 mN,
  h.get? C=some (excClassObj nm qn C N bs bm hd sn sub ab col dd k0 k1 k2 k3 k5 "ValueError.__new__")∧h.Ns N mN∧mN "__init__"=none∧OwnTail h bmVal bm:=by
 unfold ExcOk PySem.W.excIn at q
 split at q
 ·rename_i dd cd sl ho
  split at q
  ·rename_i C' bm k0 k1 k2 k3 n k5 hm hs
   rw[Bool.and_eq_true,Bool.and_eq_true,Bool.and_eq_true,Bool.and_eq_true,Bool.and_eq_true] at q
   obtain⟨⟨⟨⟨⟨z1,z2⟩,z3⟩,z4⟩,z5⟩,z6⟩:=q
   obtain rfl:=beq_iff_eq.mp z1
   obtain rfl:=beq_iff_eq.mp z2
   have z3':=(Bool.not_eq_true' _).mp z3
   have z6':=beq_iff_eq.mp z6
   obtain⟨nm,bs,mro,ns,qn,hd,sn,sub,ab,col,del⟩:=cd
   obtain⟨sl⟩:=sl
   obtain rfl:sl=_:=hs
   obtain rfl:mro=_:=hm
   obtain rfl:del=false:=z3'
   exact⟨bm,ns,nm,qn,bs,hd,sn,sub,ab,col,dd,k0,k1,k2,k3,k5,_,X _ _ ho,.of_isNs (PySem.W.isNs_of_in X z5),PySem.W.nsMap_none_of_in X z5 z6',PySem.W.tail_of_in X z4⟩
  ·cases q
 ·cases q
section
variable {X:Cx}{E:XK}{C:Addr}{x:Str}{np cpos pos:Pos}{e0:Expr}{rest:List Expr}{ta:TA}
def tRaise(E:XK)(C:Addr)(ta:TA):TS:=fun _ σ H=>ta σ H fun vs H1=>vs.length≤sizeLine∧E (.ref C) none H1
theorem ps_raise(R:Raises X E)(hC:ExcOk X.K C)(hc:X.calm=true)(hg:Gl X x)(hm:X.mg x=some (.ref C))(ha:PA X (e0::rest) ta)(hd:(x==("__debug__":Str))=false:=by decide)
  (he:starEach (e0::rest) X.env=(false,eval e0 X.env)::starEach rest X.env:=by rfl) (hpl:(backTo cpos (starEach rest X.env)).any (·.1)=false:=by rfl):
  PS X (.Raise (some (.Call (.Name x np) (e0::rest) [] cpos)) none pos) (tRaise E C ta):=by
 intro pins s σ H D I h
 obtain⟨bm,N,nm,qn,bs,hdc,sn,sub,ab,col,dd,k0,k1,k2,k3,k5,mN,hobj,hN,hni,T⟩:=hC.obj I.ok.mod.kin
 have F:=PySem.F.excBase_ValueError
 refine wpAny_Raise_call_subU (bm:=bm) (mN:=mN) (N:=N) (nm:=nm) (q:=qn) (bs:=bs) (hdct:=hdc) (sn:=sn) (sub:=sub) (ab:=ab) (col:=col) (dd:=dd) (k0:=k0) (k1:=k1) (k2:=k2) (k3:=k3) (k5:=k5) F F.hasB F (T.hasType F.hasBase) (I.ok.hd hc) ?_ hni (yf1 I hg hm ⟨rfl,?_⟩ hd)
 ·rw[he]
  show(false||(backTo cpos (starEach rest X.env)).any (·.1))=false
  rw[hpl]<;>rfl
 ·have hA:=ha cpos pins s σ H _ I h
  rw[he] at hA ⊢
  refine Calls.evalArgs_plain (thn hA fun us s2 ⟨vs,H2,I2,r2,hz,q2⟩=>?_)
  exact⟨rfl,by rw[←r2.length];exact hz,I2.bk _ _ hobj,hN.keeps I2.bk,T.keeps I2.bk,fun h' e hx=>R pins σ H2 s2 h' e C us I2 hx q2⟩
end
abbrev Cx.suite(X:Cx)(A:Around)(pn:List (Addr×Obj)):Cx:={ X with A:=A,calm:=false,xe:=fun _ _=>False,pn:=pn }
section
variable {X:Cx}{pins:List (Addr×Obj)}{σ:St}{H:Hp}{s:Shared}{E:Value→Shared→Prop}
theorem Cx.Ok.suite(ok:X.Ok){A:Around}(hA:A.frames=X.A.frames)(pn:List (Addr×Obj)):(X.suite A pn).Ok:=
 ⟨ok.mod,ok.kind,ok.glob,ok.blt,ok.above,ok.inj,ok.has,ok.cab,(fun z=>nomatch z),hA.trans ok.frames,ok.stk,ok.exf,ok.bs,ok.bsz,ok.noex,ok.exfs,ok.funs,ok.frf⟩
theorem Inv.suite{A:Around}(I:Inv X pins σ H s)(hA:A.frames=X.A.frames):Inv (X.suite A (X.pn++pins)) [] σ H s:=
 ⟨I.ok.suite hA _,I.os,I.bare,I.base,I.loc,I.cell,I.free,I.freeC,fun p hp=>I.pin p (by simpa using hp),I.hok,I.len⟩
end
def excO(a:Addr)(cls:Value):HO:=.ext fun h=>∃o vs,h.get? a=some o∧o.cls=cls∧o.data=.fields vs
theorem yb3{P:Program}{w:World}{h h':Heap}{a:Addr}{kvs:List (Key×Value)}(d:h.DictOf (ze2 P w) a kvs)(k:∀b o,h.get? b=some o→h'.get? b=some o):h'.DictOf (ze2 P w) a kvs:=
 let ⟨o,es,ep,e,r⟩:=d;⟨o,es,ep,k _ _ e,r⟩
section
variable {X:Cx}{d:Addr}{vs:List (Key×Value)}
theorem op_inC(hs:(d==sysModules)=false)(dd:X.base.DictOf (ze2 X.prog X.w) d vs):OpR X (compareOp .In) (fun x y H Q=>∃z:Str,x=.str z∧y=.ref d∧Q (.bl (valueAt vs (Sum.inr z:Key)).isSome) H):=by
 intro pins s σ H x y v u Q I rx ry h
 obtain⟨z,rfl,rfl,q⟩:=h
 obtain⟨t,rfl⟩:=rx
 cases ry
 exact wpAny_in_of (zu9 _ _ z t) hs (yb3 dd I.bk).mapOf ⟨.bl _,H,I.tok _,rfl,q⟩
def NoSl(i:Expr):Prop:=∀ov iv,subscripted i false ov iv=operate [ov,iv] (getItem ov iv)
theorem subD_of{prog:Program}{w:World}{A:Around}{E:Value→Shared→Prop}{s:Shared}{env:Env}{value slice:Expr}{pos:Pos}{T id:String}{Q:Value→Shared→Prop}
  (hl:typeLookup (.type T) "__getitem__"=pure (some (.builtin id))) (hs:NoSl slice)
  (h:wpAny (model prog w) A (eval value env) (fun o s₁=>wpAny (model prog w) A (eval slice env) (fun i s₂=>s₂.TypeIs o T∧wpAny (model prog w) A (getItem o i) Q E s₂) E s₁) E s):
  wpAny (model prog w) A (eval (.Subscript value slice pos) env) Q E s:=by
 refine Subscript_ (wpAny_mono h (fun o s₁ h₁=>wpAny_mono h₁ (fun i s₂ h₂=>?_) fun _ _ x=>x) fun _ _ x=>x)
 obtain⟨hT,h₂⟩:=h₂
 unfold subscriptTail
 refine wpAny_bind ?_
 rw[getitemInPython_of_ne hT.not_modules]
 refine wpAny_bind (wpAny_specialOf hT hl ?_)
 have fin:wpAny (model prog w) A (subscripted slice false o i) (fun r s₃=>wpAny (model prog w) A (letTemporaryGo value o r >>= fun _=>pure r) Q E s₃) E s₂:=by
  rw[hs o i]
  exact wpAny_operating (wpAny_mono h₂ (fun r s₃ h₃=>wpAny_bind (wpAny_letTemporaryGo (wpAny_pure h₃))) fun _ _ x=>x)
 first
  |exact wpAny_pure (wpAny_bind fin)
  |exact wpAny_bind (wpAny_pure (wpAny_bind fin))
  |exact wpAny_bind fin
def tDGetC(d:Addr)(vs:List (Key×Value))(td ty:TE):TE:=fun σ H Q=>td σ H fun x H1=>ty σ H1 fun y H2=>∃z v u,x=.ref d∧y=.str z∧valueAt vs (Sum.inr z:Key)=some u∧RelV v u∧Q v H2
theorem pe_dgetC{o i:Expr}{pos:Pos}{td ty:TE}(dd:X.base.DictOf (ze2 X.prog X.w) d vs)(ho:PE X o td)(hi:PE X i ty)(hs:NoSl i):PE X (.Subscript o i pos) (tDGetC d vs td ty):=by
 intro pins s σ H Q I h
 refine subD_of PySem.F.slot_dict_getitem.lookup hs (thn (ho pins s σ H _ I h) fun u s1 ⟨x,H1,I1,rx,q1⟩=>thn (hi pins s1 σ H1 _ I1 q1) fun iv s2 ⟨y,H2,I2,ry,z,v,uu,ex,ey,hv,rv,q2⟩=>?_)
 subst ex ey
 obtain rfl:u=Value.ref d:=rx
 obtain⟨t,rfl⟩:=ry
 have dd2:=yb3 dd I2.bk
 exact⟨dd2.typeIs,wpAny_getItem_of (zu9 _ _ z t) dd2.mapOf hv ⟨v,H2,I2.tok _,rv,q2⟩⟩
end
section
variable {P:Program}{w:World}{K:PySem.W.Frag}{mg:Str→Option Value}{base:Heap}
theorem Fun.okE{x qual:Str}{st:Stmt}{f:Addr}{fd:FuncData}{N ps:List Str}{k:Nat}{sp:Sp}(F:Fun K x qual st f fd)(S:FnScope N ps (za7 st))(len:∀vs H Q E,sp vs H Q E→vs.length=ps.length)
  (hbody:∀(cdv:Value) (A:Around) (outer:List Env) (s:Shared) (H:Hp) (vs:List V) (Q:VK) (E:XK),Room k (A.deeper (envOfC qual (za7 st) s.heap.objs.size f cdv))→sp vs H Q E→
   ∃t,PSs (cxOf (CXe P w) P w K mg base N qual (za7 st) f cdv A outer s H E) (zb8 st) t∧t { nx:=fun _ H'=>Q .non H',rt:=Q } (start N vs) H):FnOk P w K mg base (CXe P w) (k+1) f fd ps sp:=by
 obtain⟨oc,od,kV,doc,pm,an,cdv,ct,osl,rfl,lk,hcd⟩:=F.ex
 exact fn_of lk hcd S len fun A outer s H vs Q E hr hsp=>hbody cdv A outer s H vs Q E hr hsp
end
end L2
namespace PySem.W
open PySem PySem.Calls PyProof.Rows Builtin Builtin.ObjectAttr Builtin.Getset_descriptor
section
variable {prog:Program}{w:World}{A:Around}{E:Value→Shared→Prop}{s:Shared}{K:Frag}{x D:Addr}{name:Str}
theorem exq_find{M:Model}{h:Heap}(X:K.In h){a g:Value}(ha:findIn K (.ref D) name=some (some a))(hg:specialIn K a "__get__"=some (some g))(hd:takesIn K a=some true):
  Looks M h (find (.ref x) (.ref D) name) (.bind g a):=by
 have L1:=looks_findIn (M:=M) X ha
 have L2:Looks M h (getOf (some a)) (some g):=looks_specialIn X hg
 have L3:=looks_takesIn (M:=M) X hd
 exact L1.andThen (L2.andThen ((show Looks M h (dataDescriptor? (some a) (some g)) (some (g,a)) from L3.andThen .now).andThen (Looks.tag .now)))
theorem exq_check{M:Model}{v:Value}{Q:Unit→Shared→Prop}(X:K.In s.heap)(L0:Looks M s.heap (typeOf (.ref x)) (.ref D))(hb:mroIn K D (.type "BaseException")=some true)(hq:Q () s):
  wpAny M A (checkBuiltinCall "BaseException.__getattribute__" ⟨[.ref x,v],[]⟩) Q E s:=by
 obtain⟨hh,g,d,t,os⟩:=s
 have L1:Looks M hh (isInstance (.ref x) (.type "BaseException")) true:=L0.andThen (looks_mroIn X hb)
 have e1:builtinKind "BaseException.__getattribute__"=some .slot:=by decide +kernel
 have e2:splitId "BaseException.__getattribute__"=some ("BaseException","__getattribute__"):=by decide +kernel
 have ok:=F.args_bexc_ga (.ref x) v
 simp only[checkBuiltinCall,e1,e2]
 refine wpAny_bind (L1.at ?_)
 simp only[Bool.not_true,Bool.false_eq_true,if_false]
 repeat (first|assumption|wp_step)
theorem exq_code{g a:Value}{tk:Tok}{R:Result→Shared→Prop}(X:K.In s.heap)(L0:Looks (model prog w) s.heap (typeOf (.ref x)) (.ref D))(L1:Looks (model prog w) s.heap (find (.ref x) (.ref D) name) (.bind g a))(hb:mroIn K D (.type "BaseException")=some true)
  (h:wpAny (model prog w) A.in1 (call g [a,.ref x,.ref D]) (fun v s'=>R (.ok (.ret v)) s') (fun e s'=>R (.error e) s') s):
  codeAny (model prog w) A (.call (.builtin "BaseException.__getattribute__") ⟨[.ref x,.str name tk],[]⟩) R s:=by
 refine codeAny_call_builtin F.attr_ValueError.ga.plain F.entry_bexc_ga (exq_check X L0 hb ?_)
 obtain⟨hh,gg,d,t,os⟩:=s
 unfold Builtin.«object.__getattribute__»
 refine wpAny_bind (wpAny_of_eq (a:=(Value.ref x,[Value.str name tk])) rfl ?_)
 refine wpAny_bind (wpAny_of_eq (a:=name) rfl (wpAny_bind (L0.at (wpAny_bind (L1.at ?_)))))
 show wpAny _ _ (holding [a] (call g [a,.ref x,.ref D]) >>= ret) _ _ _
 exact wpAny_bind (wpAny_holding (wpAny_mono h (fun v s' z=>wpAny_pure z) fun _ _ z=>z))
theorem exq_open{g a:Value}{Q:Option Value→Shared→Prop}{r:Value}(X:K.In s.heap)(L0:Looks (model prog w) s.heap (typeOf (.ref x)) (.ref D))(L1:Looks (model prog w) s.heap (find (.ref x) (.ref D) name) (.bind g a))
  (hga:findIn K (.ref D) "__getattribute__"=some (some (.builtin "BaseException.__getattribute__"))) (hgh:findIn K (.ref D) "__getattr__"=some none) (hb:mroIn K D (.type "BaseException")=some true) (hr:handedIn r=true)
  (h:∀(A':Around) (P:Value→Shared→Prop) (E':Value→Shared→Prop),P r { s with toks:=s.toks+1 }→wpAny (model prog w) A' (call g [a,.ref x,.ref D]) P E' { s with toks:=s.toks+1 }) (hq:Q (some r) { s with toks:=s.toks+1 }):
  wpAny (model prog w) A (getAttr? (.ref x) name) Q E s:=by
 obtain⟨hh,gg,d,t,os⟩:=s
 have La:=looks_findIn (M:=model prog w) X hga
 have Lh:=looks_findIn (M:=model prog w) X hgh
 have ne:(Value.builtin "BaseException.__getattribute__"==Value.builtin "object.__getattribute__")=false:=by decide +kernel
 unfold getAttr? getAttrBy? getAttrBy
 refine wpAny_bind (wpAny_mkText (wpAny_bind (wpAny_attempt (wpAny_holding (wpAny_bind (L0.at (wpAny_bind (La.at ?_))))))))
 dsimp only
 rw[ne,Bool.and_false,if_neg Bool.false_ne_true]
 refine wpAny_bind (m:=hookBefore (.ref D)) (show wpAny _ _ (typeLookup (.ref D) "__getattr__") _ _ _ from Lh.at ?_)
 refine wpAny_bind (wpAny_attempt (wpAny_holding ?_))
 show wpAny _ _ (boundAndCalled (.builtin "BaseException.__getattribute__") (.ref x) (.str name _)) _ _ _
 unfold boundAndCalled
 refine wpAny_bind (wpAny_of_eq (F.attr_ValueError.ga.bind (.ref x)) (wpAny_call (exq_code X L0 L1 hb (h _ _ _ ?_))))
 show wpAny _ _ (handedOut r) _ _ _
 exact handed_on hr (wpAny_pure hq)
theorem exq_get{R:Result→Shared→Prop}{tp:Value}(X:K.In s.heap)(L0:Looks (model prog w) s.heap (typeOf (.ref x)) (.ref D))(hm:mroIn K D (.type "object")=some true)
  (h:R (.ok (.ret (.ref D))) s):codeAny (model prog w) A (.call (.builtin "getset_descriptor.__get__") ⟨[.builtin "object.__class__",.ref x,tp],[]⟩) R s:=by
 obtain⟨hh,g,dr,t,os⟩:=s
 have L1:=looks_mroIn (M:=model prog w) X hm
 refine codeAny_call_builtin KF.slot_gs.plain KF.entry_gs (KF.slot_gs.check _ _ _ _ _ _ _ _ KF.type_class (KF.args_gs _ _ _) ?_)
 unfold Builtin.«getset_descriptor.__get__» descrGet
 rw[dga_obj]
 refine wpAny_bind (wpAny_pure ?_)
 unfold descrGetter descrCheckInstance descrNameAndClass isInstance
 simp only[KF.owner_class]
 repeat lk
 refine⟨Code.quiet_builtin _ (by decide +kernel),codeAny_builtin KF.entry_class ?_⟩
 unfold Builtin.«object.__class__» shownTypeOf
 repeat lk
 exact h
structure ExqCls(K:Frag)(D:Addr):Prop where
 ga:findIn K (.ref D) "__getattribute__"=some (some (.builtin "BaseException.__getattribute__"))
 gh:findIn K (.ref D) "__getattr__"=some none
 hb:mroIn K D (.type "BaseException")=some true
 hd:(clsIn K D).isSome=true
 ha:findIn K (.ref D) "__class__"=some (some (.builtin "object.__class__"))
 hn:specialIn K (.builtin "object.__class__") "__get__"=some (some (.builtin "getset_descriptor.__get__"))
 ht:takesIn K (.builtin "object.__class__")=some true
 hm:mroIn K D (.type "object")=some true
theorem kitx_exq(Z:ExqCls K D):KitX K (.ref x) (.ref D) (fun h=>∃o,h.get? x=some o∧o.cls=.ref D) where
 ty:=fun _ _ _ ⟨o,h1,h2⟩=>h2▸(Looks.ld h1).andThen .now
 it:=fun _ _ X _=>by
  have hcD:=Z.hd
  unfold clsIn at hcD
  split at hcD
  ·rename_i c' d' cd' sl' ho
   intro A' Q' E' s' k q
   unfold isType loadHead
   exact wpAny_bind (wpAny_loadPart (k _ _ (X _ _ ho)) (wpAny_pure q))
  ·cases hcD
 ne:=fun h tp dd its n sl X htp=>by
  have hcD:=Z.hd
  refine Bool.eq_false_iff.mpr fun q=>?_
  have e:D=tp:=Value.ref.inj (beq_iff_eq.mp q)
  subst e
  unfold clsIn at hcD
  split at hcD
  ·rename_i c' d' cd' sl' ho
   have z:=(X _ _ ho).symm.trans htp
   cases z
  ·cases hcD
 ca:=fun {prog w A E Q s} X p k=>by
  obtain⟨o,h1,h2⟩:=p
  have L0:∀(M:Model),Looks M s.heap (typeOf (.ref x)) (.ref D):=fun M=>h2▸(Looks.ld h1).andThen .now
  exact exq_open X (L0 _) (exq_find X Z.ha Z.hn Z.ht) Z.ga Z.gh Z.hb rfl (fun A' P E' hp=>wpAny_call (exq_get (s:={ s with toks:=s.toks+1 }) X (L0 _) Z.hm hp)) k
end
end PySem.W
namespace L2
open PySem PySem.Spec PyProof.Rows
inductive TyE(K:PySem.W.Frag)(H:Hp):V→Value→Prop where
 |of {x:V} {t:Value} (h:TyOf K H x t):TyE K H x t
 |exc {a C:Addr} (e:H a=some (excO a (.ref C))) (Z:PySem.W.ExqCls K C):TyE K H (.ref a) (.ref C)
def clsV:V→Option Value
 |.ref a=>some (.ref a)
 |.ty n=>some (.type n)
 |_=>none
section
variable {X:Cx}
theorem zx6:CallR X (.builtin "isinstance") (fun xs H Q=>∃x c t cv b,xs=[x,c]∧TyE X.K H x t∧clsV c=some cv∧PySem.W.kitOne X.K t cv=some b∧Q (.bl b) H):=by
 intro pins s σ H xs us Q I rs h
 obtain⟨x,c,t,cv,b,rfl,ty,hc,hk,q⟩:=h
 obtain⟨u,uc,rfl,ru,rc⟩:=vals2 rs
 have ec:uc=cv:=by
  cases c with
  |ref a=>exact(show uc=Value.ref a from rc).trans (Option.some.inj hc)
  |ty n=>exact(show uc=Value.type n from rc).trans (Option.some.inj hc)
  |_=>cases hc
 subst ec
 cases ty with
 |of ty=>exact isinst_ok I ru ty hk fun tk=>⟨.bl b,H,I.tok tk,rfl,q⟩
 |@exc a C e Z=>
  cases(show u=Value.ref a from ru)
  obtain⟨⟨o,vs,h1,h2,_⟩,_⟩:=(show ObjOk X.prog X.w H s.heap a (excO a (.ref C)) from I.hok a _ e)
  exact PySem.W.kia_one (PySem.W.kitx_exq Z) I.kIn ⟨o,h1,h2⟩ hk (fun z=>nomatch z) fun tk=>⟨.bl b,H,I.tok tk,rfl,q⟩
end
theorem yc1{K:PySem.W.Frag}{t:Value}:PySem.W.kitOne K t t=some true:=by
 unfold PySem.W.kitOne
 rw[if_pos (beq_self_eq_true t)]
open PySem PySem.Spec PyProof.Rows PySem.Builtin PySem.Builtin.Str
section
variable {X:Cx}
theorem vals_strs:∀l:List (Str×Tok),Vals ((l.map (·.1)).map V.str) (strValues l)
 |[]=>.nil
 |p::r=>.cons ⟨p.2,rfl⟩ (vals_strs r)
theorem mt_split:MtR X "str.split" (fun x xs H Q=>∃z y,x=.str z∧xs=[.str y]∧(y.length==0)=false∧z.length+2≤sizeLine∧∀l,H l=none→Q (.ref l) (upd H l (.lst ((Txt.split z y).map V.str)))):=by
 intro pins s σ H x xs v us Q I rx rs h
 obtain⟨z,y,rfl,rfl,hy,hsz,q⟩:=h
 obtain⟨t,rfl⟩:=rx
 obtain⟨u,rfl,ru⟩:=zv6 rs
 obtain⟨t',rfl⟩:=ru
 have hle:=split_le z y
 have fin:∀(l:List (Str×Tok)) (k:Nat),l.map (·.1)=Txt.split z y→EP X pins σ Q (.ref s.heap.objs.size) { s with heap:=s.heap.push { cls:=.type "list",data:=.seq (strValues l).toArray },toks:=k }:=fun l k e=>
  ⟨.ref s.heap.objs.size,_,I.laid (t':=k) (o:=.lst ((Txt.split z y).map V.str)) (fun b u e=>Heap.get?_push_of_some _ e) (Nat.le_refl _) ⟨by rw[List.length_map];omega,strValues l,0,by rw[←e];exact vals_strs l,Heap.get?_push_size _ rfl⟩,rfl,q _ (I.hok.fresh (Nat.le_refl _))⟩
 have hn:(partsBetween z (occurrences z y 0 z.length (z.length+1)) y.length).length≤sizeLine:=by
  have e1:=StrLaws.occ_length_le z y 0 z.length (z.length+1)
  rw[length_partsBetween];omega
 cases h1:(decide (z.length<y.length)||decide (strKind z<strKind y))
 ·cases hf:(occurrences z y 0 z.length (z.length+1)).isEmpty
  ·refine call_meets F.slot_str_split (typeIs_str _ _ _) F.entry_str_split (F.args_str_split_2 _ _) (meets_str_split_sep z y t t' h1 hy hf (by omega) hn) ?_
   show wants _ _ _ { s with toks:=_,heap:=s.heap.push { cls:=.type "list",data:=.seq (strsFrom s.toks (partsBetween z (occurrences z y 0 z.length (z.length+1)) y.length)).toArray } }
   rw[strsFrom_eq]
   exact fin (numbered s.toks _) _ ((numbered_texts _ _).trans ((if_neg (ne_true_of_eq_false h1)).trans (if_neg (ne_true_of_eq_false hf))).symm)
  ·exact call_meets F.slot_str_split (typeIs_str _ _ _) F.entry_str_split (F.args_str_split_2 _ _) (meets_str_split_not_found z y t t' h1 hy hf)
    (fin [(z,t)] s.toks ((if_neg (ne_true_of_eq_false h1)).trans (if_pos hf)).symm)
 ·exact call_meets F.slot_str_split (typeIs_str _ _ _) F.entry_str_split (F.args_str_split_2 _ _) (meets_str_split_cannot_occur z y t t' h1)
   (fin [(z,t)] s.toks (if_pos h1).symm)
theorem mt_count:MtR X "str.count" (fun x xs H Q=>∃z y,x=.str z∧xs=[.str y]∧Q (.int (Txt.count z y)) H):=by
 intro pins s σ H x xs v us Q I rx rs h
 obtain⟨z,y,rfl,rfl,q⟩:=h
 obtain⟨t,rfl⟩:=rx
 obtain⟨u,rfl,ru⟩:=zv6 rs
 obtain⟨t',rfl⟩:=ru
 exact call_gives F.slot_str_count (typeIs_str _ _ _) F.entry_str_count (F.args_str_count_2 _ _) (gives_str_count z y t t') ⟨.int (Txt.count z y),H,I.tok _,⟨_,rfl⟩,q⟩
def Itv(K:PySem.W.Frag)(a:Addr)(n:Nat):It:=
 ⟨fun i H=>i<n∧∃xs,SqL K H a xs∧xs.length=n,fun i H x H'=>H'=H∧∀xs,SqL K H a xs→xs[n - 1 - i]? = some x,fun i _=>i=n⟩
theorem turn_rev {P : Program} {w : World} {K : PySem.W.Frag} {tg : Expr} (a it : Addr) (n : Nat) : Turn P w K tg (Itv K a n) [it] it (fun i h => h.IsRevIter it a ((n : Int) - 1 - (i : Nat))) where
  mem := by simp
  obj := fun i h st b hb => by
    have e : b = it := by simpa using hb
    subst e
    obtain ⟨o, e, c, d⟩ := st
    exact ⟨o, e, fun v z => by rw [d] at z; cases z⟩
  keep := fun i h h' st k => st.at fun o e => k it (by simp) o e
  item := by
    intro X hP hw hK hc i pins s σ H E I hf st hg
    subst hP hw hK
    obtain ⟨hi, xs, hq, hx⟩ := hg
    obtain ⟨its, rv, p, hz⟩ := I.list hq
    have hlt : n - 1 - i < xs.length := by omega
    obtain ⟨u, hu, ru⟩ := rv.get (List.getElem?_eq_getElem hlt)
    obtain ⟨f0, f1, f2, f3, f4, f5⟩ := hf it (by simp)
    have e1 : (n : Int) - 1 - (i : Nat) = ((n - 1 - i : Nat) : Int) := by omega
    have st1 : s.heap.IsRevIter it a ((n - 1 - i : Nat) : Int) := by rw [← e1]; exact st
    refine wpAny_pyNext_rev_item st1 p.isList (x := u) (by simpa using hu) fun h' st' sb => ?_
    have I1 : Inv X pins σ H { s with heap := h' } := I.turned (t' := s.toks) (fun b o hb e => (sb.2 b hb).trans e) f0 f1 f3 f4 f5
    have e2 : ((n - 1 - i : Nat) : Int) - 1 = (n : Int) - 1 - ((i + 1 : Nat) : Int) := by omega
    have st2 : h'.IsRevIter it a ((n : Int) - 1 - ((i + 1 : Nat) : Int)) := by rw [← e2]; exact st'
    obtain ⟨o, e, c, d⟩ := id st2
    exact ⟨u, rfl, go_of (s := { s with heap := h' }) e c d (by decide) ⟨_, H, I1, ru, ⟨rfl, fun ys hy => by rw [I.list_inj hy hq]; exact List.getElem?_eq_getElem hlt⟩, st2, fun b hb => (hf b hb).1⟩⟩
  done := by
    intro X hP hw hK hc i pins s σ H E I hf st hg
    subst hP hw hK
    have hi : i = n := hg
    obtain ⟨f0, f1, f2, f3, f4, f5⟩ := hf it (by simp)
    have e1 : (n : Int) - 1 - (i : Nat) = -1 := by omega
    have st1 : s.heap.IsRevIter it a (-1) := by rw [← e1]; exact st
    exact wpAny_pyNext_rev_end (I.ok.hd hc) st1 fun h' eb => ⟨rfl, I.turned (t' := s.toks) (fun b o hb e => eb b o hb e) f0 f1 f3 f4 f5⟩
  self := fun _ _ _ _ _ st h => wpAny_pyIter_revIter st h
def iRev(K:PySem.W.Frag)(ta:TA):TI:=fun σ H R=>ta σ H fun vs H1=>∃a xs,vs=[.ref a]∧SqL K H1 a xs∧R (Itv K a xs.length) H1
theorem pi_rev{tg a:Expr}{ta:TA}{p pos:Pos}(hg:Gl X "reversed")(hm:X.mg "reversed"=none)(ha:PA X [a] ta)(hs:starEach [a] X.env=[(false,eval a X.env)]:=by rfl):PI X tg (.Call (.Name "reversed" p) [a] [] pos) (iRev X.K ta):=by
 intro pins s σ H R I h
 refine Call_ (ld_blt I hg hm boot_reversed (PyProof.Rows.callWith_type1 (thn (ha pos pins s σ H _ I h) fun us s1 ⟨vs,H1,I1,r1,q1⟩=>?_) hs rfl))
 obtain⟨b,xs,e,hq,q⟩:=q1
 subst e
 obtain⟨u,rfl,ru⟩:=zv6 r1
 cases ru
 obtain⟨its,rv,pl,hz⟩:=I1.list hq
 have hlen:=rv.length
 refine call_reversed_list pl.isList ?_
 have st:Heap.IsRevIter (s1.heap.push (revObj b ((its.toArray.size:Int) - 1))) s1.heap.objs.size b ((xs.length:Int) - 1 - ((0:Nat):Int)):=by
  refine⟨_,Heap.get?_push_size _ rfl,rfl,?_⟩
  show(revObj b ((its.toArray.size:Int) - 1)).data=_
  have e:(its.toArray.size:Int) - 1=(xs.length:Int) - 1 - ((0:Nat):Int):=by rw[List.size_toArray,hlen];omega
  rw[e];rfl
 refine wpAny_pyIter_revIter st ?_
 refine⟨s1.heap.objs.size,[s1.heap.objs.size],_,_,H1,rfl,I1.kept (t':=s1.toks) fun b o e=>Heap.get?_push_of_some _ e,turn_rev b _ xs.length,st,fun c hc=>?_,q⟩
 have e:c=s1.heap.objs.size:=by simpa using hc
 subst e
 exact I1.fpOk (Nat.le_refl _) (I1.hok.fresh (Nat.le_refl _))
theorem for_rev{K:PySem.W.Frag}{a:Addr}{xs:List V}{g:TG}{tb:TS}{D:Ends}{σ:St}{H:Hp}(Pv:Nat→St→Hp→Prop)(h0:Pv 0 σ H)(hl:∀i σ H,i≤xs.length→Pv i σ H→SqL K H a xs)
  (hs:∀i x σ H,xs.reverse[i]? = some x→Pv i σ H→g x σ H fun σ2 H2=>tb { D with nx:=Pv (i+1),ct:=Pv (i+1),bk:=D.nx } σ2 H2) (hd:∀σ H,Pv xs.length σ H→D.nx σ H):
  ∃W:Nat→Nat→St→Hp→Prop,(∃m,W 0 m σ H)∧∀i m σ H,W i m σ H→
   ((Itv K a xs.length).stop i H∧D.nx σ H)∨((Itv K a xs.length).go i H∧∃N:St→Hp→Prop,(∀σ' H',N σ' H'→∃m',m'<m∧W (i+1) m' σ' H')∧∀x H',(Itv K a xs.length).yld i H x H'→g x σ H' fun σ2 H2=>tb { D with nx:=N,ct:=N,bk:=D.nx } σ2 H2):=by
 refine⟨fun i m σ H=>m=xs.length - i∧i≤xs.length∧Pv i σ H,⟨xs.length,by simp,Nat.zero_le _,h0⟩,?_⟩
 rintro i m σ H ⟨rfl,hi,p⟩
 have q:=hl i σ H hi p
 by_cases hlt:i<xs.length
 ·refine .inr ⟨⟨hlt,xs,q,rfl⟩,Pv (i+1),fun σ' H' p'=>⟨xs.length - (i+1),by omega,rfl,hlt,p'⟩,fun x H' y=>?_⟩
  obtain⟨e,y⟩:=y
  subst e
  refine hs i x σ _ ?_ p
  rw[List.getElem?_reverse hlt]
  exact y xs q
 ·have e:i=xs.length:=by omega
  subst e
  exact .inl ⟨rfl,hd σ H p⟩
end
def ClIn(cells:List (Str×Addr)):List (Str×Addr)→Prop
 |[]=>True
 |p::r=>cells.lookup p.1=some p.2∧ClIn cells r
def OutOk(X:Cx)(scope:Scope)(cl:List (Str×Addr)):List Str→List Nat→Prop
 |[],[]=>True
 |y::ys,j::js=>(X.N[j]? = some y∧(X.env.kindOf y=some .cell∨X.env.kindOf y=some .free)∧(∃c,cl.lookup y=some c)∧
   ((relabel scope X.env).names.lookup y=some .cell∨(relabel scope X.env).names.lookup y=some .free))∧OutOk X scope cl ys js
 |_,_=>False
theorem OutOk.len{X:Cx}{scope:Scope}{cl:List (Str×Addr)}:∀ {ys:List Str} {js:List Nat},OutOk X scope cl ys js→ys.length=js.length
 |[],[],_=>rfl
 |_::_,_::_,h=>congrArg (· + 1) (OutOk.len h.2)
 |[],_::_,h=>h.elim
 |_::_,[],h=>h.elim
theorem OutOk.get{X:Cx}{scope:Scope}{cl:List (Str×Addr)}:∀ {ys:List Str} {js:List Nat},OutOk X scope cl ys js→∀(k j:Nat),js[k]? = some j→∃y,ys[k]? = some y∧X.N[j]? = some y∧(X.env.kindOf y=some .cell∨X.env.kindOf y=some .free)∧(∃c,cl.lookup y=some c)∧
  ((relabel scope X.env).names.lookup y=some .cell∨(relabel scope X.env).names.lookup y=some .free)
 |[],[],_,k,j,e=>by simp at e
 |y::_,j'::_,h,0,j,e=>by
  have e':j'=j:=by simpa using e
  subst e'
  exact⟨y,rfl,h.1⟩
 |_::_,_::_,h,k+1,j,e=>by
  obtain⟨y,h1,h2⟩:=OutOk.get h.2 k j (by simpa using e)
  exact⟨y,by simpa using h1,h2⟩
 |[],_::_,h,_,_,_=>h.elim
 |_::_,[],h,_,_,_=>h.elim
theorem ClIn.get{cells:List (Str×Addr)}:∀ {cl:List (Str×Addr)},ClIn cells cl→∀y c,cl.lookup y=some c→cells.lookup y=some c:=by
 intro cl h y c e
 have hm:(y,c)∈cl:=PySem.mem_of_lookup e
 clear e
 induction cl with
 |nil=>cases hm
 |cons p r ih=>
  rcases List.mem_cons.mp hm with z|z
  ·rw[←z] at h;exact h.1
  ·exact ih h.2 z
def hasAll(names:List (Str×NameKind))(cl:List (Str×Addr)):Bool:=names.all fun y=>(y.2 != .cell&&y.2 != .free)||(cl.lookup y.1).isSome
theorem zv4{X:Cx}{scope:Scope}{cl:List (Str×Addr)}{x:Str}{ys:List Str}{js:List Nat}(clos:closureFor scope X.env=pure cl)(ci:ClIn X.env.cells cl)(nocell:∀y∈scope.names,y.2≠.cell)(kind:scope.kind=.function)
  (locs:∀y∈scope.names,y.2=.local→scope.names.lookup y.1=some .local) (own:scope.names.lookup x=some .local) (nd:(x::ys).Nodup) (has:hasAll (relabel scope X.env).names cl=true) (o:OutOk X scope cl ys js):CompScope X scope cl x ys js:=by
 refine⟨clos,ci.get,nocell,kind,locs,own,nd,fun y h=>?_,o.len,o.get⟩
 have hh:=List.all_eq_true.mp has
 have fin:∀k,(y,k)∈(relabel scope X.env).names→(k=.cell∨k=.free)→∃c,cl.lookup y=some c:=fun k hm hk=>by
  have z:=hh _ hm
  rw[Bool.or_eq_true] at z
  rcases z with z|z
  ·rw[Bool.and_eq_true] at z
   rcases hk with rfl|rfl
   ·exact absurd (show(NameKind.cell != NameKind.cell)=true from z.1) (by decide)
   ·exact absurd (show(NameKind.free != NameKind.free)=true from z.2) (by decide)
  ·exact Option.isSome_iff_exists.mp z
 rcases h with h|h
 ·exact fin _ (PySem.mem_of_lookup h) (.inl rfl)
 ·exact fin _ (PySem.mem_of_lookup h) (.inr rfl)
section
variable {X:Cx}{es:List Expr}{te:TE}{t:TA}{p:Pos}
theorem pa_const{c:Const}{j:Nat}(ha:PE X (.Constant c j p) te)(hr:PA X es t):PA X (.Constant c j p::es) (zp5 te t):=zq4 ha hr rfl
theorem pa_name{x:Str}(ha:PE X (.Name x p) te)(hr:PA X es t):PA X (.Name x p::es) (zp5 te t):=zq4 ha hr rfl
theorem pa_bin{a b:Expr}{op:Operator}(ha:PE X (.BinOp a op b p) te)(hr:PA X es t):PA X (.BinOp a op b p::es) (zp5 te t):=zq4 ha hr rfl
theorem pa_call{f:Expr}{as:List Expr}{ks:List Keyword}(ha:PE X (.Call f as ks p) te)(hr:PA X es t):PA X (.Call f as ks p::es) (zp5 te t):=zq4 ha hr rfl
theorem pa_sub{a b:Expr}(ha:PE X (.Subscript a b p) te)(hr:PA X es t):PA X (.Subscript a b p::es) (zp5 te t):=zq4 ha hr rfl
theorem pa_tup{as:List Expr}{j:Nat}(ha:PE X (.Tuple as j p) te)(hr:PA X es t):PA X (.Tuple as j p::es) (zp5 te t):=zq4 ha hr rfl
theorem pa_lst{as:List Expr}(ha:PE X (.List as p) te)(hr:PA X es t):PA X (.List as p::es) (zp5 te t):=zq4 ha hr rfl
theorem pa_attr{a:Expr}{x:Str}(ha:PE X (.Attribute a x p) te)(hr:PA X es t):PA X (.Attribute a x p::es) (zp5 te t):=zq4 ha hr rfl
end
structure QE(X:Cx)(e:Expr)(t:TE):Prop where
 out:PE X e t
theorem QE_eq:QE=PE:=by
 funext X e t
 exact propext ⟨fun h=>h.out,fun h=>⟨h⟩⟩
structure QT(X:Cx)(e:Expr)(t:TT):Prop where
 out:PT X e t
theorem QT_eq:QT=PT:=by
 funext X e t
 exact propext ⟨fun h=>h.out,fun h=>⟨h⟩⟩
structure QW(X:Cx)(e:Expr)(t:TT):Prop where
 out:PW X e t
theorem QW_eq:QW=PW:=by
 funext X e t
 exact propext ⟨fun h=>h.out,fun h=>⟨h⟩⟩
structure QA(X:Cx)(es:List Expr)(t:TA):Prop where
 out:PA X es t
theorem QA_eq:QA=PA:=by
 funext X es t
 exact propext ⟨fun h=>h.out,fun h=>⟨h⟩⟩
structure QS(X:Cx)(st:Stmt)(t:TS):Prop where
 out:PS X st t
theorem QS_eq:QS=PS:=by
 funext X st t
 exact propext ⟨fun h=>h.out,fun h=>⟨h⟩⟩
structure QSs(X:Cx)(st:List Stmt)(t:TS):Prop where
 out:PSs X st t
theorem QSs_eq:QSs=PSs:=by
 funext X st t
 exact propext ⟨fun h=>h.out,fun h=>⟨h⟩⟩
structure QC(X:Cx)(op:CmpOp)(a b:Expr)(t:TE):Prop where
 out:PC X op a b t
theorem QC_eq:QC=PC:=by
 funext X op a b t
 exact propext ⟨fun h=>h.out,fun h=>⟨h⟩⟩
structure QI(X:Cx)(tg iter:Expr)(wi:TI):Prop where
 out:PI X tg iter wi
theorem QI_eq:QI=PI:=by
 funext X tg iter wi
 exact propext ⟨fun h=>h.out,fun h=>⟨h⟩⟩
theorem PW.ptq:∀ {X:Cx} {e:Expr} {t:TT} (h:QW X e t),QT X e t:=by
 have h:=@PW.pt
 rw[←QT_eq,←QW_eq] at h
 intros
 first|exact h|(apply h<;>assumption)|(refine h<;>assumption)
section
variable {X:Cx}
theorem za5:∀ {i j pos},QE X (.Constant (.int i) j pos) (tC (.int i)):=by
 have h:=@pe_int
 rw[←QE_eq] at h
 intros
 first|exact h|(apply h<;>assumption)|(refine h<;>assumption)
theorem yj3:∀ {b j pos},QE X (.Constant (.bool b) j pos) (tC (.bl b)):=by
 have h:=@pe_bl
 rw[←QE_eq] at h
 intros
 first|exact h|(apply h<;>assumption)|(refine h<;>assumption)
theorem pe_nonq:∀ {j pos},QE X (.Constant .none j pos) (tC .non):=by
 have h:=@pe_non
 rw[←QE_eq] at h
 intros
 first|exact h|(apply h<;>assumption)|(refine h<;>assumption)
theorem zb5:∀ {x j pos},QE X (.Constant (.str x) j pos) (tC (.str x)):=by
 have h:=@pe_str
 rw[←QE_eq] at h
 intros
 first|exact h|(apply h<;>assumption)|(refine h<;>assumption)
theorem zq1:∀ {x:Str} {v:V} {u:Value} {pos:Pos} (hg:Gl X x) (hm:X.mg x=some u) (r:RelV v u) (hd:(x==("__debug__":Str))=false:=by decide),QE X (.Name x pos) (tC v):=by
 have h:=@pe_glob
 rw[←QE_eq] at h
 intros
 first|exact h|(apply h<;>assumption)|(refine h<;>assumption)
theorem zw8:∀ {x:Str} {v:V} {u:Value} {pos:Pos} (hg:Gl X x) (hm:X.mg x=none) (hv:bootBuiltins x=some u) (r:RelV v u) (hn:x≠"__name__":=by decide) (hd:(x==("__debug__":Str))=false:=by decide),QE X (.Name x pos) (tC v):=by
 have h:=@pe_bltn
 rw[←QE_eq] at h
 intros
 first|exact h|(apply h<;>assumption)|(refine h<;>assumption)
variable {a b:Expr}{ta tb:TE}{pos:Pos}
theorem pc_isNq:∀ {j pos'} (ha:QE X a ta),QC X .Is a (.Constant .none j pos') (tIsN ta):=by
 have h:=@pc_isN
 rw[←QE_eq,←QC_eq] at h
 intros
 first|exact h|(apply h<;>assumption)|(refine h<;>assumption)
theorem ym9:∀ {j pos'} (ha:QE X a ta),QC X .IsNot a (.Constant .none j pos') (tNotN ta):=by
 have h:=@pc_notN
 rw[←QE_eq,←QC_eq] at h
 intros
 first|exact h|(apply h<;>assumption)|(refine h<;>assumption)
theorem zj9:∀ {op:CmpOp} {t:TE} (h:QC X op a b t) (h1:behindInMarks op b=false:=by first|exact nobehind _ (by decide) (by decide)|rfl),QT X (.Compare a [op] [b] pos) (tB t):=by
 have h:=@pt_cmp
 rw[←QT_eq,←QC_eq] at h
 intros
 first|exact h|(apply h<;>assumption)|(refine h<;>assumption)
theorem zp8:∀ {e:Expr} {t:TE} (h:QE X e t) (he:∀whole,isTrue e X.env whole=(do let v ←whole;standAt e.pos;holding [v] (truthy v)):=by intro _;rfl),QT X e (tB t):=by
 have h:=@pt_val
 rw[←QE_eq,←QT_eq] at h
 intros
 first|exact h|(apply h<;>assumption)|(refine h<;>assumption)
variable {tA tB':TT}{rest:List Expr}
theorem zr7:∀(ha:QT X a tA),QW X (.BoolOp .Or [a] pos) tA:=by
 have h:=@pw_or1
 rw[←QT_eq,←QW_eq] at h
 intros
 first|exact h|(apply h<;>assumption)|(refine h<;>assumption)
theorem zu3:∀(ha:QT X a tA) (hb:QW X (.BoolOp .Or (b::rest) pos) tB'),QW X (.BoolOp .Or (a::b::rest) pos) (tOr tA tB'):=by
 have h:=@pw_or
 rw[←QT_eq,←QW_eq] at h
 intros
 first|exact h|(apply h<;>assumption)|(refine h<;>assumption)
theorem yd4:∀(ha:QT X a tA),QT X (.UnaryOp .Not a pos) (tNot tA):=by
 have h:=@pt_not
 rw[←QT_eq] at h
 intros
 first|exact h|(apply h<;>assumption)|(refine h<;>assumption)
theorem ym6:∀ {op} {t:TE} (h:QE X a t),QE X (.BoolOp op [a] pos) t:=by
 have h:=@pe_one
 rw[←QE_eq] at h
 intros
 first|exact h|(apply h<;>assumption)|(refine h<;>assumption)
theorem pe_andq:∀(ha:QE X a ta) (hb:QE X (.BoolOp .And (b::rest) pos) tb),QE X (.BoolOp .And (a::b::rest) pos) (tAndV ta tb):=by
 have h:=@pe_and
 rw[←QE_eq] at h
 intros
 first|exact h|(apply h<;>assumption)|(refine h<;>assumption)
theorem pe_orq:∀(ha:QE X a ta) (hb:QE X (.BoolOp .Or (b::rest) pos) tb),QE X (.BoolOp .Or (a::b::rest) pos) (tOrV ta tb):=by
 have h:=@pe_or
 rw[←QE_eq] at h
 intros
 first|exact h|(apply h<;>assumption)|(refine h<;>assumption)
theorem pe_notq:∀(ha:QE X a ta),QE X (.UnaryOp .Not a pos) (tNotV ta):=by
 have h:=@pe_not
 rw[←QE_eq] at h
 intros
 first|exact h|(apply h<;>assumption)|(refine h<;>assumption)
theorem zk1:∀ {c:Expr} (hc:QT X c tA) (ha:QE X a ta) (hb:QE X b tb),QE X (.IfExp c a b pos) (tIf tA ta tb):=by
 have h:=@pe_ifExp
 rw[←QE_eq,←QT_eq] at h
 intros
 first|exact h|(apply h<;>assumption)|(refine h<;>assumption)
end
section
variable {X:Cx}{st:Stmt}{rest:List Stmt}{t u:TS}{e:Expr}{te:TE}{pos:Pos}
theorem zb9:QSs X [] tNext:=by
 have h:=@pss_nil
 rw[←QSs_eq] at h
 intros
 first|exact h|(apply h<;>assumption)|(refine h<;>assumption)
theorem za1:∀(h1:QS X st t) (h2:QSs X rest u),QSs X (st::rest) (tSeq t u):=by
 have h:=@pss_cons
 rw[←QS_eq,←QSs_eq] at h
 intros
 first|exact h|(apply h<;>assumption)|(refine h<;>assumption)
theorem za6:∀(h1:QS X st t),QSs X [st] t:=by
 have h:=@pss_one
 rw[←QS_eq,←QSs_eq] at h
 intros
 first|exact h|(apply h<;>assumption)|(refine h<;>assumption)
theorem zr9:QS X (.Continue pos) tCont:=by
 have h:=@ps_continue
 rw[←QS_eq] at h
 intros
 first|exact h|(apply h<;>assumption)|(refine h<;>assumption)
theorem ze1:∀(he:QE X e te) (hs:swapsWith e none pos.line X.env=pure false:=by rfl),QS X (.Expr e pos) (tDrop te):=by
 have h:=@ps_expr
 rw[←QE_eq,←QS_eq] at h
 intros
 first|exact h|(apply h<;>assumption)|(refine h<;>assumption)
theorem zb4:∀(he:QE X e te),QS X (.Return (some e) pos) (tRet te):=by
 have h:=@ps_ret
 rw[←QE_eq,←QS_eq] at h
 intros
 first|exact h|(apply h<;>assumption)|(refine h<;>assumption)
theorem zd0:∀ {c:Expr} {a b:List Stmt} {tc:TT} (hc:QT X c tc) (ha:QSs X a t) (hb:QSs X b u),QS X (.If c a b pos) (tIfS tc t u):=by
 have h:=@ps_if
 rw[←QT_eq,←QS_eq,←QSs_eq] at h
 intros
 first|exact h|(apply h<;>assumption)|(refine h<;>assumption)
end
section
variable {X:Cx}{pos:Pos}
theorem zb2:∀ {i:Nat} {x:Str} {e:Expr} {te:TE} {pos':Pos} (hN:X.N.Nodup) (hi:X.N[i]? = some x) (hx:Loc X.env.scope x) (he:QE X e te) (hs:swapsWith e (some (.Name x pos')) pos.line X.env=pure false:=by rfl) (hf:X.fn x=true∨X.env.scope.names.lookup x=some .local:=by first|exact .inl rfl|exact .inr rfl|assumption),QS X (.Assign [.Name x pos'] e pos) (tAsg te (gName i)):=by
 have h:=@ps_set
 rw[←QE_eq,←QS_eq] at h
 intros
 first|exact h|(apply h<;>assumption)|(refine h<;>assumption)
theorem ym3:∀ {i:Nat} {x:Str} {e:Expr} {te:TE} {op:Operator} {ti:TIp} {pos':Pos} (hN:X.N.Nodup) (hi:X.N[i]? = some x) (hx:Loc X.env.scope x) (he:QE X e te) (ho:PIp X op ti) (hf:X.fn x=true∨X.env.scope.names.lookup x=some .local:=by first|exact .inl rfl|exact .inr rfl|assumption),QS X (.AugAssign (.Name x pos') op e pos) (tAug i te ti):=by
 have h:=@ps_aug
 rw[←QE_eq,←QS_eq] at h
 intros
 first|exact h|(apply h<;>assumption)|(refine h<;>assumption)
end
section
variable {X:Cx}{pos:Pos}
theorem zl5:∀ {c:Expr} {body:List Stmt} {tc:TT} {tb:TS} (hp:PassesOwn (model X.prog X.w) X.A X.env X.xe) (hc:QT X c tc) (hb:QSs X body tb),QS X (.While c body [] pos) (tWhile tc tb):=by
 have h:=@ps_while
 rw[←QT_eq,←QS_eq,←QSs_eq] at h
 intros
 first|exact h|(apply h<;>assumption)|(refine h<;>assumption)
end
section
variable {X:Cx}{tg:Expr}
theorem zk0:∀ {l:Expr} {tl:TE} (hl:QE X l tl),QI X tg l (iList X.K tl):=by
 have h:=@pi_list
 rw[←QE_eq,←QI_eq] at h
 intros
 first|exact h|(apply h<;>assumption)|(refine h<;>assumption)
theorem zp9:∀ {iter:Expr} {body:List Stmt} {wi:TI} {g:TG} {tb:TS} {pos:Pos} (hp:PassesOwn (model X.prog X.w) X.A X.env X.xe) (hc:X.calm=true) (hi:QI X tg iter wi) (hg:PG X tg g) (hb:QSs X body tb)
  (hs:∀x,foldedSetIterable iter X.env x=pure x:=by intro _;rfl),QS X (.For tg iter body [] pos) (tFor wi g tb):=by
 have h:=@ps_for
 rw[←QS_eq,←QSs_eq,←QI_eq] at h
 intros
 first|exact h|(apply h<;>assumption)|(refine h<;>assumption)
end
section
variable {X:Cx}{a b c:Expr}{ta tb tc:TE}{pos:Pos}
theorem zc4:∀ {op:Operator} {r:R2} (ho:OpR X (binaryOp op) r) (ha:QE X a ta) (hb:QE X b tb),QE X (.BinOp a op b pos) (tOp r ta tb):=by
 have h:=@pe_op
 rw[←QE_eq] at h
 intros
 first|exact h|(apply h<;>assumption)|(refine h<;>assumption)
theorem yd8:∀ {op:UnaryOp} {r:V→Hp→VK→Prop} (ho:UnR X (unaryOp op) r) (ha:QE X a ta),QE X (.UnaryOp op a pos) (tUn r ta):=by
 have h:=@pe_un
 rw[←QE_eq] at h
 intros
 first|exact h|(apply h<;>assumption)|(refine h<;>assumption)
end
section
variable {X:Cx}{a b c:Expr}{ta tb tc:TE}{pos:Pos}
theorem zw7:∀ {op:CmpOp} {r:R2} (ho:OpR X (compareOp op) r) (ha:QE X a ta) (hb:QE X b tb) (hm:behindInMarks op b=false),QE X (.Compare a [op] [b] pos) (tOp r ta tb):=by
 have h:=@pe_cmpR
 rw[←QE_eq] at h
 intros
 first|exact h|(apply h<;>assumption)|(refine h<;>assumption)
theorem zb6:∀ {op:CmpOp} {r:R2} (ho:OpR X (compareOp op) r) (ha:QE X a ta) (hb:QE X b tb) (hm:behindInMarks op b=false),QT X (.Compare a [op] [b] pos) (tTest (tOp r ta tb)):=by
 have h:=@pt_cmpR
 rw[←QE_eq,←QT_eq] at h
 intros
 first|exact h|(apply h<;>assumption)|(refine h<;>assumption)
theorem zl4:∀(ha:QE X a ta) (he:∀whole,isTrue a X.env whole=(do let v ←whole;standAt a.pos;holding [v] (truthy v))),QT X a (fun σ H Q=>ta σ H fun x H'=>∃k,TruV X.K x H' k∧Q k H'):=by
 have h:=@pt_truth
 rw[←QE_eq,←QT_eq] at h
 intros
 first|exact h|(apply h<;>assumption)|(refine h<;>assumption)
end
section
variable {X:Cx}{o e value:Expr}{f:Str}{pos pos' tpos:Pos}{ta tv:TE}
theorem zd3:∀(he:QE X e ta) (hb:attributeBase e f X.env (eval e X.env)=eval e X.env),QE X (.Attribute e f pos) (tFld X.K ta f):=by
 have h:=@pe_fld
 rw[←QE_eq] at h
 intros
 first|exact h|(apply h<;>assumption)|(refine h<;>assumption)
theorem zq0:∀(ha:QE X o ta) (hv:QE X value tv) (hs:swapsWith value (some (.Attribute o f pos')) pos.line X.env=pure false),QS X (.Assign [.Attribute o f pos'] value pos) (sFld X.K ta tv f):=by
 have h:=@ps_fld
 rw[←QE_eq,←QS_eq] at h
 intros
 first|exact h|(apply h<;>assumption)|(refine h<;>assumption)
theorem ps_fldaugq:∀ {op:Operator} {rd:V→V→Hp→VK→Prop} (ha:QE X o ta) (hv:QE X value tv) (hop:InOp X op rd),QS X (.AugAssign (.Attribute o f tpos) op value pos) (sFldAug X.K ta tv rd f):=by
 have h:=@ps_fldaug
 rw[←QE_eq,←QS_eq] at h
 intros
 first|exact h|(apply h<;>assumption)|(refine h<;>assumption)
end
section
variable {X:Cx}{e:Expr}{es:List Expr}{te:TE}{t:TA}{pos:Pos}
theorem za3:QA X [] tNil:=by
 have h:=@pa_nil
 rw[←QA_eq] at h
 intros
 first|exact h|(apply h<;>assumption)|(refine h<;>assumption)
theorem zw9:∀(ha:QE X e te) (hr:QA X es t) (hs:starEach (e::es) X.env=(false,eval e X.env)::starEach es X.env:=by rfl),QA X (e::es) (zp5 te t):=by
 have h:=@zq4
 rw[←QE_eq,←QA_eq] at h
 intros
 first|exact h|(apply h<;>assumption)|(refine h<;>assumption)
theorem zc5:∀ {x1} (h:QA X es t),QE X (.Tuple es x1 pos) (tTup t):=by
 have h:=@pe_tup
 rw[←QE_eq,←QA_eq] at h
 intros
 first|exact h|(apply h<;>assumption)|(refine h<;>assumption)
theorem zd4:∀(h:QA X es t),QE X (.List es pos) (tLst t):=by
 have h:=@pe_lst
 rw[←QE_eq,←QA_eq] at h
 intros
 first|exact h|(apply h<;>assumption)|(refine h<;>assumption)
end
section
variable {X:Cx}{CX:CXT}{k:Nat}{f C:Addr}{fd:FuncData}{ps:List Str}{sp:Sp}{dvs:List V}{ds:List Value}{E:XK}{x m:Str}{p pos apos:Pos}{e o:Expr}{es:List Expr}{ta:TE}{t:TA}
theorem zc0:∀(F:FnOk X.prog X.w X.K X.mg X.base CX k f fd ps sp) (hr:Room k X.A) (hg:Gl X x) (hm:X.mg x=some (.ref f)) (hk:PySem.W.keepIn X.K (.ref f)=true) (hb:Binds X.K fd ps ds) (hd:Vals dvs ds) (hx:Passes CX X E)
  (ha:QA X (e::es) t) (hdb:(x==("__debug__":Str))=false:=by decide) (he:starEach (e::es) X.env=(false,eval e X.env)::starEach es X.env:=by rfl) (hpl:(backTo pos (starEach es X.env)).any (·.1)=false:=by rfl),QE X (.Call (.Name x p) (e::es) [] pos) (tCall sp dvs E t):=by
 have h:=@pe_call
 rw[←QE_eq,←QA_eq] at h
 intros
 first|exact h|(apply h<;>assumption)|(refine h<;>assumption)
theorem zc2:∀ {pl:Sem Bool} (he:QE X o ta) (c:Cls X.K C) (hm:Meth X.K C m f) (F:FnOk X.prog X.w X.K X.mg X.base CX k f fd ps sp) (hr:Room k X.A) (hb:Binds X.K fd ps ds) (hd:Vals dvs ds) (hx:Passes CX X E) (ha:QA X (e::es) t)
  (hst:starEach (e::es) X.env=(false,eval e X.env)::starEach es X.env:=by rfl) (hpl:(backTo pos (starEach es X.env)).any (·.1)=false:=by rfl)
  (ht:eval (.Call (.Attribute o m apos) (e::es) [] pos) X.env=(do
   let ov ←eval o X.env
   standAt apos.atName
   let (f,first) ←holding [ov] (getMethod ov m pl)
   callWith pos f first (backTo pos (starEach (e::es) X.env)) (backToKw pos (keywordEach [] X.env))):=by rfl),QE X (.Call (.Attribute o m apos) (e::es) [] pos) (tMeth C m sp dvs E ta t):=by
 have h:=@pe_meth
 rw[←QE_eq,←QA_eq] at h
 intros
 first|exact h|(apply h<;>assumption)|(refine h<;>assumption)
theorem pe_makeq:∀(M:Mk X.K C f) (F:FnOk X.prog X.w X.K X.mg X.base CX k f fd ps sp) (hr:Room (k+1) X.A) (hg:Gl X x) (hm:X.mg x=some (.ref C)) (hb:Binds X.K fd ps ds) (hd:Vals dvs ds) (hx:Passes CX X E)
  (ha:QA X (e::es) t) (hdb:(x==("__debug__":Str))=false:=by decide) (he:starEach (e::es) X.env=(false,eval e X.env)::starEach es X.env:=by rfl) (hpl:(backTo pos (starEach es X.env)).any (·.1)=false:=by rfl),QE X (.Call (.Name x p) (e::es) [] pos) (tMake C sp dvs E t):=by
 have h:=@pe_make
 rw[←QE_eq,←QA_eq] at h
 intros
 first|exact h|(apply h<;>assumption)|(refine h<;>assumption)
theorem pe_make0q:∀(M:Mk X.K C f) (F:FnOk X.prog X.w X.K X.mg X.base CX k f fd ps sp) (hr:Room (k+1) X.A) (hg:Gl X x) (hm:X.mg x=some (.ref C)) (hb:Binds X.K fd ps ds) (hd:Vals dvs ds) (hx:Passes CX X E)
  (hdb:(x==("__debug__":Str))=false:=by decide),QE X (.Call (.Name x p) [] [] pos) (tMake C sp dvs E tNil):=by
 have h:=@pe_make0
 rw[←QE_eq] at h
 intros
 first|exact h|(apply h<;>assumption)|(refine h<;>assumption)
end
section
variable {X:Cx}{x:Str}{p pos:Pos}{e:Expr}{es:List Expr}{t:TA}{id T:String}{r:List V→Hp→VK→Prop}
theorem zd9:∀(hc:CallR X (.builtin id) r) (hg:Gl X x) (hm:X.mg x=none) (hv:bootBuiltins x=some (.builtin id)) (ha:QA X (e::es) t) (hn:x≠"__name__":=by decide) (hdb:(x==("__debug__":Str))=false:=by decide)
  (he:starEach (e::es) X.env=(false,eval e X.env)::starEach es X.env:=by rfl) (hpl:(backTo pos (starEach es X.env)).any (·.1)=false:=by rfl),QE X (.Call (.Name x p) (e::es) [] pos) (tCB r t):=by
 have h:=@pe_callB
 rw[←QE_eq,←QA_eq] at h
 intros
 first|exact h|(apply h<;>assumption)|(refine h<;>assumption)
theorem yj2:∀(hc:CallR X (.type T) r) (hg:Gl X x) (hm:X.mg x=none) (hv:bootBuiltins x=some (.type T)) (ha:QA X (e::es) t) (hn:x≠"__name__":=by decide) (hdb:(x==("__debug__":Str))=false:=by decide)
  (he:starEach (e::es) X.env=(false,eval e X.env)::starEach es X.env:=by rfl) (hpl:(backTo pos (starEach es X.env)).any (·.1)=false:=by rfl),QE X (.Call (.Name x p) (e::es) [] pos) (tCB r t):=by
 have h:=@pe_callTy
 rw[←QE_eq,←QA_eq] at h
 intros
 first|exact h|(apply h<;>assumption)|(refine h<;>assumption)
end
end L2
namespace HT
open PySem PyProof.Rows
section
open PySem.SeqAt
open PySem.AutoSeq1 (wpAny_loadPart')
open PySem.MeetsSeq PySem.MeetsSeq2 PySem.MeetsSeq3
end
end HT
namespace L2
open PySem PySem.Spec PyProof.Rows
section
variable {X:Cx}{e:Expr}{te:TE}{lo hi:Option Expr}{tl th:TO}{pos p2:Pos}
theorem ym4:∀(h:QE X e te),PO X (some e) (tPart te):=by
 have h:=@po_some
 rw[←QE_eq] at h
 intros
 first|exact h|(apply h<;>assumption)|(refine h<;>assumption)
theorem yd9:∀ {r:V→Option Int→Option Int→Hp→VK→Prop} (hr:SlR X r) (he:QE X e te) (hl:PO X lo tl) (hu:PO X hi th),QE X (.Subscript e (.Slice lo hi none p2) pos) (tSl r te tl th):=by
 have h:=@pe_slice
 rw[←QE_eq] at h
 intros
 first|exact h|(apply h<;>assumption)|(refine h<;>assumption)
end
section
variable {X:Cx}{a b:Expr}{ta tb:TE}{pos:Pos}
theorem zb1:∀ {r:R2} (hr:IxR X r) (ha:QE X a ta) (hb:QE X b tb) (hs:PlainIx b),QE X (.Subscript a b pos) (tOp r ta tb):=by
 have h:=@pe_ix
 rw[←QE_eq] at h
 intros
 first|exact h|(apply h<;>assumption)|(refine h<;>assumption)
variable {o e:Expr}{es:List Expr}{to:TE}{t:TA}{name:Str}{apos cpos:Pos}{T id:String}{r:V→List V→Hp→VK→Prop}
theorem zu6:∀(pa:PlainAttrs T) (slot:Slot T name id) (hty:typeOf (.builtin id)=pure (.type "method_descriptor")) (hm:MtR X id r) (ho:QE X o to)
  (hbase:attributeBase o name X.env (eval o X.env)=eval o X.env:=by rfl) (hline:(apos.endLine==cpos.line)=true:=by rfl),QE X (.Call (.Attribute o name apos) [] [] cpos) (tBM0 X.K T r to):=by
 have h:=@pe_bm0
 rw[←QE_eq] at h
 intros
 first|exact h|(apply h<;>assumption)|(refine h<;>assumption)
theorem zh8:∀(pa:PlainAttrs T) (slot:Slot T name id) (hty:typeOf (.builtin id)=pure (.type "method_descriptor")) (hm:MtR X id r) (ho:QE X o to) (ha:QA X (e::es) t)
  (hbase:attributeBase o name X.env (eval o X.env)=eval o X.env:=by rfl)
  (hfew:((backTo cpos (starEach (e::es) X.env)).all (fun x => !x.1)&&(backToKw cpos (keywordEach [] X.env)).all (fun x=>x.1.isSome)
   && decide ((e::es).length+([]:List Keyword).length+(if([]:List Keyword).isEmpty then 0 else 1)<30))=true:=by rfl)
  (hline:(apos.endLine==cpos.line)=true:=by rfl) (hs:starEach (e::es) X.env=(false,eval e X.env)::starEach es X.env:=by rfl) (hplain:(backTo cpos (starEach es X.env)).any (·.1)=false:=by rfl),QE X (.Call (.Attribute o name apos) (e::es) [] cpos) (tBM X.K T r to t):=by
 have h:=@pe_bm
 rw[←QE_eq,←QA_eq] at h
 intros
 first|exact h|(apply h<;>assumption)|(refine h<;>assumption)
end
end L2
namespace Att
open PySem PySem.W PySem.Calls PyProof.Rows
end Att
namespace L2
open PySem PySem.Spec PyProof.Rows
section
variable {P:Program}{w:World}{K:PySem.W.Frag}{mg:Str→Option Value}{base:Heap}
theorem Fun.okq:∀ {x qual:Str} {st:Stmt} {f:Addr} {fd:FuncData} {N ps:List Str} {k:Nat} {sp:Sp} (F:Fun K x qual st f fd) (S:FnScope N ps (za7 st)) (len:∀vs H Q E,sp vs H Q E→vs.length=ps.length)
  (hbody:∀(cdv:Value) (A:Around) (outer:List Env) (s:Shared) (H:Hp) (vs:List V) (Q:VK) (E:XK),Room k (A.deeper (envOfC qual (za7 st) s.heap.objs.size f cdv))→sp vs H Q E→
   ∃t,QSs (cxOf CX0 P w K mg base N qual (za7 st) f cdv A outer s H E).nox (zb8 st) t∧t { nx:=fun _ H'=>Q .non H',rt:=Q } (start N vs) H),FnOk P w K mg base CX0 (k+1) f fd ps sp:=by
 have h:=@Fun.ok
 rw[←QSs_eq] at h
 intros
 first|exact h|(apply h<;>assumption)|(refine h<;>assumption)
end
section
variable {X:Cx}
theorem pvq:∀(i:Nat) {x:Str} {pos:Pos} (hN:X.N[i]? = some x:=by rfl) (hv:Vis X.env.scope x:=by first|exact Or.inl rfl|exact Or.inr (Or.inl rfl)|exact Or.inr (Or.inr rfl)) (hd:(x==("__debug__":Str))=false:=by decide)
  (hcd:(x==("__classdict__":Str))=false:=by decide),QE X (.Name x pos) (tVar i):=by
 have h:=@pv
 rw[←QE_eq] at h
 intros
 first|exact h|(apply h<;>assumption)|(refine h<;>assumption)
end
theorem pifs_oneq:∀ {X:Cx} {c:Expr} {tc:TT} (hc:QT X c tc),PIfs X [c] tc:=by
 have h:=@pifs_one
 rw[←QT_eq] at h
 intros
 first|exact h|(apply h<;>assumption)|(refine h<;>assumption)
section
variable {X:Cx}{elt iter:Expr}{ifs:List Expr}{scope:Scope}{pos px:Pos}{x:Str}{cl:List (Str×Addr)}{ys:List Str}{js:List Nat}{ti:TT}{te:TE}
theorem zq2:∀ {wi:TI} (hcalm:X.calm=true) (S:CompScope X scope cl x ys js) (hi:QI X (.Name x px) iter wi)
  (ht:∀C fp s H,PIfs (cxC X (x::ys) scope cl C fp s H) ifs ti) (he:∀C fp s H,QE (cxC X (x::ys) scope cl C fp s H) elt te)
  (hs:∀x,foldedSetIterable iter X.env x=pure x:=by intro _;rfl),QE X (.ListComp elt [⟨.Name x px,iter,ifs,0⟩] scope pos) (tComp js wi ti te):=by
 have h:=@pe_comp
 rw[←QE_eq,←QI_eq] at h
 intros
 first|exact h|(apply h<;>assumption)|(refine h<;>assumption)
theorem ps_setCq:∀ {wi:TI} {i:Nat} {y:Str} {py spos:Pos} (hN:X.N.Nodup) (hix:X.N[i]? = some y) (hxl:Loc X.env.scope y) (hcalm:X.calm=true) (S:CompScope X scope cl x ys js) (hi:QI X (.Name x px) iter wi)
  (ht:∀C fp s H,PIfs (cxC X (x::ys) scope cl C fp s H) ifs ti) (he:∀C fp s H,QE (cxC X (x::ys) scope cl C fp s H) elt te)
  (hsw:swapsWith (.ListComp elt [⟨.Name x px,iter,ifs,0⟩] scope pos) (some (.Name y py)) spos.line X.env=pure true:=by rfl) (hs:∀x,foldedSetIterable iter X.env x=pure x:=by intro _;rfl)
  (hf:X.fn y=true∨X.env.scope.names.lookup y=some .local:=by first|exact .inl rfl|exact .inr rfl|assumption),QS X (.Assign [.Name y py] (.ListComp elt [⟨.Name x px,iter,ifs,0⟩] scope pos) spos) (tAsg (tComp js wi ti te) (gName i)):=by
 have h:=@ps_setC
 rw[←QE_eq,←QS_eq,←QI_eq] at h
 intros
 first|exact h|(apply h<;>assumption)|(refine h<;>assumption)
end
section
variable {X:Cx}{E:XK}{C:Addr}{x:Str}{np cpos pos:Pos}{e0:Expr}{rest:List Expr}{ta:TA}
theorem yd5:∀(R:Raises X E) (hC:ExcOk X.K C) (hc:X.calm=true) (hg:Gl X x) (hm:X.mg x=some (.ref C)) (ha:QA X (e0::rest) ta) (hd:(x==("__debug__":Str))=false:=by decide)
  (he:starEach (e0::rest) X.env=(false,eval e0 X.env)::starEach rest X.env:=by rfl) (hpl:(backTo cpos (starEach rest X.env)).any (·.1)=false:=by rfl),QS X (.Raise (some (.Call (.Name x np) (e0::rest) [] cpos)) none pos) (tRaise E C ta):=by
 have h:=@ps_raise
 rw[←QA_eq,←QS_eq] at h
 intros
 first|exact h|(apply h<;>assumption)|(refine h<;>assumption)
end
section
variable {X:Cx}{d:Addr}{vs:List (Key×Value)}
theorem pe_dgetCq:∀ {o i:Expr} {pos:Pos} {td ty:TE} (dd:X.base.DictOf (ze2 X.prog X.w) d vs) (ho:QE X o td) (hi:QE X i ty) (hs:NoSl i),QE X (.Subscript o i pos) (tDGetC d vs td ty):=by
 have h:=@pe_dgetC
 rw[←QE_eq] at h
 intros
 first|exact h|(apply h<;>assumption)|(refine h<;>assumption)
end
section
variable {P:Program}{w:World}{K:PySem.W.Frag}{mg:Str→Option Value}{base:Heap}
theorem Fun.okEq:∀ {x qual:Str} {st:Stmt} {f:Addr} {fd:FuncData} {N ps:List Str} {k:Nat} {sp:Sp} (F:Fun K x qual st f fd) (S:FnScope N ps (za7 st)) (len:∀vs H Q E,sp vs H Q E→vs.length=ps.length)
  (hbody:∀(cdv:Value) (A:Around) (outer:List Env) (s:Shared) (H:Hp) (vs:List V) (Q:VK) (E:XK),Room k (A.deeper (envOfC qual (za7 st) s.heap.objs.size f cdv))→sp vs H Q E→
   ∃t,QSs (cxOf (CXe P w) P w K mg base N qual (za7 st) f cdv A outer s H E) (zb8 st) t∧t { nx:=fun _ H'=>Q .non H',rt:=Q } (start N vs) H),FnOk P w K mg base (CXe P w) (k+1) f fd ps sp:=by
 have h:=@Fun.okE
 rw[←QSs_eq] at h
 intros
 first|exact h|(apply h<;>assumption)|(refine h<;>assumption)
end
end L2
namespace PySem.W
open PySem PySem.Calls PyProof.Rows Builtin Builtin.ObjectAttr Builtin.Getset_descriptor
end PySem.W
namespace L2
open PySem PySem.Spec PyProof.Rows
open PySem PySem.Spec PyProof.Rows PySem.Builtin PySem.Builtin.Str
section
variable {X:Cx}
theorem pi_revq:∀ {tg a:Expr} {ta:TA} {p pos:Pos} (hg:Gl X "reversed") (hm:X.mg "reversed"=none) (ha:QA X [a] ta) (hs:starEach [a] X.env=[(false,eval a X.env)]:=by rfl),QI X tg (.Call (.Name "reversed" p) [a] [] pos) (iRev X.K ta):=by
 have h:=@pi_rev
 rw[←QA_eq,←QI_eq] at h
 intros
 first|exact h|(apply h<;>assumption)|(refine h<;>assumption)
end
section
variable {X:Cx}{es:List Expr}{te:TE}{t:TA}{p:Pos}
theorem zb0:∀ {c:Const} {j:Nat} (ha:QE X (.Constant c j p) te) (hr:QA X es t),QA X (.Constant c j p::es) (zp5 te t):=by
 have h:=@pa_const
 rw[←QE_eq,←QA_eq] at h
 intros
 first|exact h|(apply h<;>assumption)|(refine h<;>assumption)
theorem za2:∀ {x:Str} (ha:QE X (.Name x p) te) (hr:QA X es t),QA X (.Name x p::es) (zp5 te t):=by
 have h:=@pa_name
 rw[←QE_eq,←QA_eq] at h
 intros
 first|exact h|(apply h<;>assumption)|(refine h<;>assumption)
theorem zk2:∀ {a b:Expr} {op:Operator} (ha:QE X (.BinOp a op b p) te) (hr:QA X es t),QA X (.BinOp a op b p::es) (zp5 te t):=by
 have h:=@pa_bin
 rw[←QE_eq,←QA_eq] at h
 intros
 first|exact h|(apply h<;>assumption)|(refine h<;>assumption)
theorem ze4:∀ {f:Expr} {as:List Expr} {ks:List Keyword} (ha:QE X (.Call f as ks p) te) (hr:QA X es t),QA X (.Call f as ks p::es) (zp5 te t):=by
 have h:=@pa_call
 rw[←QE_eq,←QA_eq] at h
 intros
 first|exact h|(apply h<;>assumption)|(refine h<;>assumption)
theorem zb7:∀ {a b:Expr} (ha:QE X (.Subscript a b p) te) (hr:QA X es t),QA X (.Subscript a b p::es) (zp5 te t):=by
 have h:=@pa_sub
 rw[←QE_eq,←QA_eq] at h
 intros
 first|exact h|(apply h<;>assumption)|(refine h<;>assumption)
theorem zf6:∀ {as:List Expr} {j:Nat} (ha:QE X (.Tuple as j p) te) (hr:QA X es t),QA X (.Tuple as j p::es) (zp5 te t):=by
 have h:=@pa_tup
 rw[←QE_eq,←QA_eq] at h
 intros
 first|exact h|(apply h<;>assumption)|(refine h<;>assumption)
theorem pa_lstq:∀ {as:List Expr} (ha:QE X (.List as p) te) (hr:QA X es t),QA X (.List as p::es) (zp5 te t):=by
 have h:=@pa_lst
 rw[←QE_eq,←QA_eq] at h
 intros
 first|exact h|(apply h<;>assumption)|(refine h<;>assumption)
theorem yn0:∀ {a:Expr} {x:Str} (ha:QE X (.Attribute a x p) te) (hr:QA X es t),QA X (.Attribute a x p::es) (zp5 te t):=by
 have h:=@pa_attr
 rw[←QE_eq,←QA_eq] at h
 intros
 first|exact h|(apply h<;>assumption)|(refine h<;>assumption)
end
end L2
namespace Pq
inductive Plan where
 |text (t:List Nat)|line|cut
 |nest (n:Nat) (p:Plan)|align (p:Plan)|flat (p:Plan)
 |beside (p q:Plan)|choice (p q:Plan)
 deriving DecidableEq
namespace Plan
def size:Plan→Nat
 |text _=>1|line=>1|cut=>1
 |nest _ p=>p.size+1|align p=>p.size+1|flat p=>p.size+1
 |beside p q=>p.size+q.size+1
 |choice p q=>p.size+q.size+1
def deep:Plan→Nat
 |text _=>0|line=>0|cut=>0
 |nest _ p=>p.deep+1|align p=>p.deep+1|flat p=>p.deep+1
 |beside p q=>max p.deep q.deep+1
 |choice p q=>max p.deep q.deep+1
def sides:Plan→List (List Int)
 |text _=>[[]]|line=>[[]]|cut=>[[]]
 |nest _ p=>p.sides|align p=>p.sides|flat p=>p.sides
 |beside p q=>p.sides.flatMap fun r=>q.sides.map fun m=>r++m
 |choice p q=>p.sides.map (fun r=>0::r)++q.sides.map fun r=>1::r
end Plan
def col(t:List Nat):Nat:=(t.reverse.takeWhile (fun c=>c != 10)).length
def brk(b:List Nat)(t:List Nat)(m:Nat)(f:Bool):List Nat:=t++if f then b else 10::List.replicate m 32
def lay:Plan→List Int→List Nat→Nat→Bool→Option (List Nat×List Int)
 |.text x,b,t,_,_=>some (t++x,b)
 |.line,b,t,m,f=>some (brk [32] t m f,b)
 |.cut,b,t,m,f=>some (brk [] t m f,b)
 |.nest n p,b,t,m,f=>lay p b t (m+n) f
 |.align p,b,t,_,f=>lay p b t (col t) f
 |.flat p,b,t,m,_=>lay p b t m true
 |.beside p q,b,t,m,f=>(lay p b t m f).bind fun r=>lay q r.2 r.1 m f
 |.choice _ _,[],_,_,_=>none
 |.choice p q,x::b,t,m,f=>if x=0 then lay p b t m f else if x=1 then lay q b t m f else none
theorem zi0:∀(p:Plan) {r:List Int} (_:r∈p.sides) (b:List Int) (t:List Nat) (m:Nat) (f:Bool),∃t',lay p (r++b) t m f=some (t',b)
 |.text x,r,h,b,t,m,f=>by simp[Plan.sides] at h;subst h;exact⟨_,rfl⟩
 |.line,r,h,b,t,m,f=>by simp[Plan.sides] at h;subst h;exact⟨_,rfl⟩
 |.cut,r,h,b,t,m,f=>by simp[Plan.sides] at h;subst h;exact⟨_,rfl⟩
 |.nest n p,r,h,b,t,m,f=>zi0 p h b t (m+n) f
 |.align p,r,h,b,t,m,f=>zi0 p h b t (col t) f
 |.flat p,r,h,b,t,m,f=>zi0 p h b t m true
 |.beside p q,r,h,b,t,m,f=>by
  simp only[Plan.sides,List.mem_flatMap,List.mem_map] at h
  obtain⟨r1,h1,r2,h2,rfl⟩:=h
  obtain⟨t1,e1⟩:=zi0 p h1 (r2++b) t m f
  obtain⟨t2,e2⟩:=zi0 q h2 b t1 m f
  refine⟨t2,?_⟩
  rw[List.append_assoc]
  show(lay p (r1++(r2++b)) t m f).bind _=_
  rw[e1]
  exact e2
 |.choice p q,r,h,b,t,m,f=>by
  simp only[Plan.sides,List.mem_append,List.mem_map] at h
  rcases h with⟨r1,h1,rfl⟩|⟨r1,h1,rfl⟩
  ·obtain⟨t1,e1⟩:=zi0 p h1 b t m f
   exact⟨t1,by show(if(0:Int)=0 then lay p (r1++b) t m f else _)=_;rw[if_pos rfl,e1]⟩
  ·obtain⟨t1,e1⟩:=zi0 q h1 b t m f
   exact⟨t1,by show(if(1:Int)=0 then _ else if(1:Int)=1 then lay q (r1++b) t m f else none)=_;rw[if_neg (by decide),if_pos rfl,e1]⟩
theorem zh7:∀(p:Plan) (b b':List Int) (t t':List Nat) (m:Nat) (f:Bool),lay p b t m f=some (t',b')→∃r∈p.sides,b=r++b'
 |.text x,b,b',t,t',m,f,h=>by simp[lay] at h;exact⟨[],by simp[Plan.sides],by simp[h.2]⟩
 |.line,b,b',t,t',m,f,h=>by simp[lay] at h;exact⟨[],by simp[Plan.sides],by simp[h.2]⟩
 |.cut,b,b',t,t',m,f,h=>by simp[lay] at h;exact⟨[],by simp[Plan.sides],by simp[h.2]⟩
 |.nest n p,b,b',t,t',m,f,h=>zh7 p b b' t t' (m+n) f h
 |.align p,b,b',t,t',m,f,h=>zh7 p b b' t t' (col t) f h
 |.flat p,b,b',t,t',m,f,h=>zh7 p b b' t t' m true h
 |.beside p q,b,b',t,t',m,f,h=>by
  have h':(lay p b t m f).bind (fun r=>lay q r.2 r.1 m f)=some (t',b'):=h
  cases e:lay p b t m f with
  |none=>rw[e] at h';cases h'
  |some x=>
   obtain⟨t1,b1⟩:=x
   rw[e] at h'
   obtain⟨r1,m1,e1⟩:=zh7 p b b1 t t1 m f e
   obtain⟨r2,m2,e2⟩:=zh7 q b1 b' t1 t' m f h'
   exact⟨r1++r2,List.mem_flatMap.mpr ⟨r1,m1,List.mem_map.mpr ⟨r2,m2,rfl⟩⟩,by rw[e1,e2,List.append_assoc]⟩
 |.choice p q,[],b',t,t',m,f,h=>by cases h
 |.choice p q,x::b,b',t,t',m,f,h=>by
  have h':(if x=0 then lay p b t m f else if x=1 then lay q b t m f else none)=some (t',b'):=h
  by_cases c0:x=0
  ·rw[if_pos c0] at h'
   obtain⟨r1,m1,e1⟩:=zh7 p b b' t t' m f h'
   exact⟨0::r1,List.mem_append_left _ (List.mem_map.mpr ⟨r1,m1,rfl⟩),by rw[c0,e1];rfl⟩
  ·rw[if_neg c0] at h'
   by_cases c1:x=1
   ·rw[if_pos c1] at h'
    obtain⟨r1,m1,e1⟩:=zh7 q b b' t t' m f h'
    exact⟨1::r1,List.mem_append_right _ (List.mem_map.mpr ⟨r1,m1,rfl⟩),by rw[c1,e1];rfl⟩
   ·rw[if_neg c1] at h';cases h'
theorem fits_iff(p:Plan)(b:List Int)(t:List Nat)(m:Nat)(f:Bool):b∈p.sides↔∃t',lay p b t m f=some (t',[]):=by
 constructor
 ·intro h
  have:=zi0 p h [] t m f
  simpa using this
 ·rintro⟨t',h⟩
  obtain⟨r,hr,e⟩:=zh7 p b [] t t' m f h
  rw[List.append_nil] at e
  rw[e];exact hr
theorem zn0:∀p:Plan,p.sides≠[]
 |.text _=>by simp[Plan.sides]
 |.line=>by simp[Plan.sides]
 |.cut=>by simp[Plan.sides]
 |.nest _ p=>zn0 p
 |.align p=>zn0 p
 |.flat p=>zn0 p
 |.beside p q=>by
  have hp:=zn0 p
  have hq:=zn0 q
  simp only[Plan.sides]
  intro h
  rw[List.flatMap_eq_nil_iff] at h
  cases e:p.sides with
  |nil=>exact hp e
  |cons x xs=>
   have:=h x (by rw[e];exact List.mem_cons_self)
   exact hq (List.map_eq_nil_iff.mp this)
 |.choice p q=>by
  have hp:=zn0 p
  simp only[Plan.sides]
  intro h
  exact hp (List.map_eq_nil_iff.mp (List.append_eq_nil_iff.mp h).1)
namespace Plan
def grow:Plan→Nat
 |text t=>t.length|line=>1|cut=>0
 |nest n p=>n+p.grow|align p=>p.grow|flat p=>p.grow
 |beside p q=>p.grow+q.grow
 |choice p q=>max p.grow q.grow
def leaves:Plan→Nat
 |text _=>1|line=>1|cut=>1
 |nest _ p=>p.leaves|align p=>p.leaves|flat p=>p.leaves
 |beside p q=>p.leaves+q.leaves
 |choice p q=>max p.leaves q.leaves
end Plan
theorem zm6{α:Type}(f:α→Bool)(b:List α):∀a:List α,((a++b).takeWhile f).length≤a.length+(b.takeWhile f).length
 |[]=>by simp
 |x::a=>by
  rw[List.cons_append,List.takeWhile_cons]
  split
  ·have:=zm6 f b a
   simp only[List.length_cons];omega
  ·simp
theorem zx5(t x:List Nat):col (t++x)≤col t+x.length:=by
 unfold col
 rw[List.reverse_append]
 have:=zm6 (fun c=>c != 10) t.reverse x.reverse
 rw[List.length_reverse] at this
 omega
theorem ze7(t x:List Nat)(h:∀c∈x,c≠10):col (t++x)=col t+x.length:=by
 unfold col
 rw[List.reverse_append]
 have e:∀a b:List Nat,(∀c∈a,c≠10)→((a++b).takeWhile (fun c=>c != 10)).length=a.length+(b.takeWhile (fun c=>c != 10)).length:=by
  intro a
  induction a with
  |nil=>intro b _;simp
  |cons y a ih=>
   intro b hb
   rw[List.cons_append,List.takeWhile_cons,if_pos (by simpa using hb y List.mem_cons_self)]
   simp only[List.length_cons]
   rw[ih b fun c hc=>hb c (List.mem_cons_of_mem _ hc)];omega
 rw[e x.reverse t.reverse (fun c hc=>h c (List.mem_reverse.mp hc)),List.length_reverse];omega
theorem zp2(t:List Nat)(m:Nat):col (t++10::List.replicate m 32)=m:=by
 have e:t++10::List.replicate m 32=(t++[10])++List.replicate m 32:=by simp
 rw[e,ze7 _ _ (by intro c hc;rw[List.mem_replicate] at hc;omega),List.length_replicate]
 unfold col
 simp
theorem brk_col(b t:List Nat)(m:Nat)(f:Bool):col (brk b t m f)≤max (col t) m+b.length:=by
 unfold brk
 cases f
 ·simp only[Bool.false_eq_true,if_false];rw[zp2];omega
 ·simp only[if_true];have:=zx5 t b;omega
theorem brk_len(b t:List Nat)(m:Nat)(f:Bool)(hb:b.length≤1):(brk b t m f).length≤t.length+1+m:=by
 unfold brk
 cases f
 ·simp;omega
 ·simp;omega
theorem zl8:∀(p:Plan) (b b':List Int) (t t':List Nat) (m:Nat) (f:Bool),lay p b t m f=some (t',b')→
  col t'≤max (col t) m+p.grow∧t'.length≤t.length+p.leaves*(max (col t) m+p.grow+1)
 |.text x,b,b',t,t',m,f,h=>by
  simp only[lay,Option.some.injEq,Prod.mk.injEq] at h
  obtain⟨rfl,_⟩:=h
  have:=zx5 t x
  simp only[Plan.grow,Plan.leaves,List.length_append];omega
 |.line,b,b',t,t',m,f,h=>by
  simp only[lay,Option.some.injEq,Prod.mk.injEq] at h
  obtain⟨rfl,_⟩:=h
  have h1:=brk_col [32] t m f
  have h2:=brk_len [32] t m f (by simp)
  simp only[Plan.grow,Plan.leaves,List.length_singleton] at *;omega
 |.cut,b,b',t,t',m,f,h=>by
  simp only[lay,Option.some.injEq,Prod.mk.injEq] at h
  obtain⟨rfl,_⟩:=h
  have h1:=brk_col [] t m f
  have h2:=brk_len [] t m f (by simp)
  simp only[Plan.grow,Plan.leaves,List.length_nil] at *;omega
 |.nest n p,b,b',t,t',m,f,h=>by
  have ih:=zl8 p b b' t t' (m+n) f h
  obtain⟨i1,i2⟩:=ih
  have e:max (col t) (m+n)+p.grow≤max (col t) m+(n+p.grow):=by omega
  refine⟨Nat.le_trans i1 e,Nat.le_trans i2 ?_⟩
  exact Nat.add_le_add_left (Nat.mul_le_mul_left _ (Nat.succ_le_succ e)) _
 |.align p,b,b',t,t',m,f,h=>by
  obtain⟨i1,i2⟩:=zl8 p b b' t t' (col t) f h
  have e:max (col t) (col t)+p.grow≤max (col t) m+p.grow:=by omega
  refine⟨Nat.le_trans i1 e,Nat.le_trans i2 ?_⟩
  exact Nat.add_le_add_left (Nat.mul_le_mul_left _ (Nat.succ_le_succ e)) _
 |.flat p,b,b',t,t',m,f,h=>zl8 p b b' t t' m true h
 |.beside p q,b,b',t,t',m,f,h=>by
  have h':(lay p b t m f).bind (fun r=>lay q r.2 r.1 m f)=some (t',b'):=h
  cases e:lay p b t m f with
  |none=>rw[e] at h';cases h'
  |some x=>
   obtain⟨t1,b1⟩:=x
   rw[e] at h'
   obtain⟨i1,i2⟩:=zl8 p b b1 t t1 m f e
   obtain⟨j1,j2⟩:=zl8 q b1 b' t1 t' m f h'
   have e1:max (col t1) m+q.grow≤max (col t) m+(p.grow+q.grow):=by omega
   have e2:max (col t) m+p.grow≤max (col t) m+(p.grow+q.grow):=by omega
   refine⟨Nat.le_trans j1 e1,?_⟩
   have k1:q.leaves*(max (col t1) m+q.grow+1)≤q.leaves*(max (col t) m+(p.grow+q.grow)+1):=Nat.mul_le_mul_left _ (Nat.succ_le_succ e1)
   have k2:p.leaves*(max (col t) m+p.grow+1)≤p.leaves*(max (col t) m+(p.grow+q.grow)+1):=Nat.mul_le_mul_left _ (Nat.succ_le_succ e2)
   show t'.length≤t.length+(p.leaves+q.leaves)*(max (col t) m+(p.grow+q.grow)+1)
   rw[Nat.add_mul]
   omega
 |.choice p q,[],b',t,t',m,f,h=>by cases h
 |.choice p q,x::b,b',t,t',m,f,h=>by
  have h':(if x=0 then lay p b t m f else if x=1 then lay q b t m f else none)=some (t',b'):=h
  have mono:∀(r:Plan),r.grow≤max p.grow q.grow→r.leaves≤max p.leaves q.leaves→(col t'≤max (col t) m+r.grow∧t'.length≤t.length+r.leaves*(max (col t) m+r.grow+1))→
    col t'≤max (col t) m+max p.grow q.grow∧t'.length≤t.length+max p.leaves q.leaves*(max (col t) m+max p.grow q.grow+1):=by
   intro r h1 h2 ⟨i1,i2⟩
   refine⟨by omega,Nat.le_trans i2 (Nat.add_le_add_left (Nat.mul_le_mul h2 (by omega)) _)⟩
  by_cases c0:x=0
  ·rw[if_pos c0] at h'
   exact mono p (Nat.le_max_left _ _) (Nat.le_max_left _ _) (zl8 p b b' t t' m f h')
  ·rw[if_neg c0] at h'
   by_cases c1:x=1
   ·rw[if_pos c1] at h'
    exact mono q (Nat.le_max_right _ _) (Nat.le_max_right _ _) (zl8 q b b' t t' m f h')
   ·rw[if_neg c1] at h';cases h'
abbrev Step:=Plan×Nat×Bool
def zg5:List Step→List Int→List Nat→Option (List Nat×List Int)
 |[],b,t=>some (t,b)
 |(p,m,f)::r,b,t=>(lay p b t m f).bind fun x=>zg5 r x.2 x.1
def zv5:List Step→Nat
 |[]=>0
 |(p,_,_)::r=>p.size+zv5 r
theorem layAll_text(x:List Nat)(m:Nat)(f:Bool)(r:List Step)(b:List Int)(t:List Nat):zg5 ((.text x,m,f)::r) b t=zg5 r b (t++x):=rfl
theorem layAll_line(m:Nat)(f:Bool)(r:List Step)(b:List Int)(t:List Nat):zg5 ((.line,m,f)::r) b t=zg5 r b (brk [32] t m f):=rfl
theorem layAll_cut(m:Nat)(f:Bool)(r:List Step)(b:List Int)(t:List Nat):zg5 ((.cut,m,f)::r) b t=zg5 r b (brk [] t m f):=rfl
theorem layAll_nest(n:Nat)(p:Plan)(m:Nat)(f:Bool)(r:List Step)(b:List Int)(t:List Nat):zg5 ((.nest n p,m,f)::r) b t=zg5 ((p,m+n,f)::r) b t:=rfl
theorem layAll_align(p:Plan)(m:Nat)(f:Bool)(r:List Step)(b:List Int)(t:List Nat):zg5 ((.align p,m,f)::r) b t=zg5 ((p,col t,f)::r) b t:=rfl
theorem layAll_flat(p:Plan)(m:Nat)(f:Bool)(r:List Step)(b:List Int)(t:List Nat):zg5 ((.flat p,m,f)::r) b t=zg5 ((p,m,true)::r) b t:=rfl
theorem yn6(p q:Plan)(m:Nat)(f:Bool)(r:List Step)(b:List Int)(t:List Nat):zg5 ((.beside p q,m,f)::r) b t=zg5 ((p,m,f)::(q,m,f)::r) b t:=by
 show((lay p b t m f).bind fun x=>lay q x.2 x.1 m f).bind _=(lay p b t m f).bind fun x=>(lay q x.2 x.1 m f).bind _
 rw[Option.bind_assoc]
theorem yh3(p q:Plan)(m:Nat)(f:Bool)(r:List Step)(b:List Int)(t:List Nat):zg5 ((.choice p q,m,f)::r) (0::b) t=zg5 ((p,m,f)::r) b t:=by
 show(if(0:Int)=0 then lay p b t m f else _).bind _=_
 rw[if_pos rfl];rfl
theorem yh2(p q:Plan)(m:Nat)(f:Bool)(r:List Step)(b:List Int)(t:List Nat):zg5 ((.choice p q,m,f)::r) (1::b) t=zg5 ((q,m,f)::r) b t:=by
 show(if(1:Int)=0 then _ else if(1:Int)=1 then lay q b t m f else none).bind _=_
 rw[if_neg (by decide),if_pos rfl];rfl
theorem zz9(p q:Plan)(m:Nat)(f:Bool)(r:List Step)(t:List Nat):zg5 ((.choice p q,m,f)::r) [] t=none:=rfl
theorem ya0(p q:Plan)(m:Nat)(f:Bool)(r:List Step)(x:Int)(b:List Int)(t:List Nat)(h0:x≠0)(h1:x≠1):zg5 ((.choice p q,m,f)::r) (x::b) t=none:=by
 show(if x=0 then _ else if x=1 then _ else none).bind _=_
 rw[if_neg h0,if_neg h1];rfl
theorem layAll_one(p:Plan)(b:List Int)(t:List Nat):zg5 [(p,0,false)] b t=lay p b t 0 false:=by
 show(lay p b t 0 false).bind (fun x=>some (x.1,x.2))=_
 cases lay p b t 0 false<;>rfl
end Pq
namespace Pq
theorem zf0{α β:Type}(f:α→List β)(n:Nat):∀l:List α,(∀x∈l,(f x).length=n)→(l.flatMap f).length=l.length*n
 |[],_=>by simp
 |x::l,h=>by
  rw[List.flatMap_cons,List.length_append,h x List.mem_cons_self,zf0 f n l fun y hy=>h y (List.mem_cons_of_mem _ hy),List.length_cons,Nat.add_mul]
  omega
theorem ya8(p q:Plan):(Plan.beside p q).sides.length=p.sides.length*q.sides.length:=
 zf0 _ _ _ fun _ _=>List.length_map _
theorem zr6(p q:Plan):(Plan.choice p q).sides.length=p.sides.length+q.sides.length:=by
 simp[Plan.sides]
theorem sides_pos(p:Plan):1≤p.sides.length:=by
 cases e:p.sides with
 |nil=>exact absurd e (zn0 p)
 |cons x r=>simp
theorem zi9:∀(p:Plan) (r:List Int),r∈p.sides→r.length≤p.size
 |.text _,r,h=>by simp[Plan.sides] at h;subst h;simp
 |.line,r,h=>by simp[Plan.sides] at h;subst h;simp
 |.cut,r,h=>by simp[Plan.sides] at h;subst h;simp
 |.nest _ p,r,h=>Nat.le_succ_of_le (zi9 p r h)
 |.align p,r,h=>Nat.le_succ_of_le (zi9 p r h)
 |.flat p,r,h=>Nat.le_succ_of_le (zi9 p r h)
 |.beside p q,r,h=>by
  simp only[Plan.sides,List.mem_flatMap,List.mem_map] at h
  obtain⟨r1,h1,r2,h2,rfl⟩:=h
  have i1:=zi9 p r1 h1
  have i2:=zi9 q r2 h2
  simp only[List.length_append,Plan.size];omega
 |.choice p q,r,h=>by
  simp only[Plan.sides,List.mem_append,List.mem_map] at h
  rcases h with⟨r1,h1,rfl⟩|⟨r1,h1,rfl⟩
  ·have i1:=zi9 p r1 h1
   simp only[List.length_cons,Plan.size];omega
  ·have i1:=zi9 q r1 h1
   simp only[List.length_cons,Plan.size];omega
def cell(ns:List Int)(k:Int):Int:=if ns.isEmpty then 0 else ns.getD (k % ns.length).toNat 0
def mix1(ns:List Int)(k:Int):Int:=(cell ns k+104729*(k+1)) % 4294967291*48271 % 4294967279
def mix(ns:List Int)(k:Int):Int:=(mix1 ns k / 64*69621+mix1 ns k) % 4294967231
theorem mix_nonneg(ns:List Int)(k:Int):0≤mix ns k:=Int.emod_nonneg _ (by decide)
def signs:List Nat:=[32,33,34,35,36,38,39,40,41,42,43,44,45,46,47,48,49,50,51,52,53,54,55,56,57,58,59,60,61,62,63,64,65,66,67,68,69,70,71,72,73,74,75,76,77,78,79,
 80,81,82,83,84,85,86,87,88,89,90,91,92,93,94,95,96,97,98,99,100,101,102,103,104,105,106,107,108,109,110,111,112,113,114,115,116,117,118,119,120,121,122,123,124,125,126]
def sign(n:Int):Nat:=signs.getD (n % 94).toNat 0
def lens:List Int:=[0,1,1,2,3,5,9,40]
def zv8(ns:List Int)(k:Int):List Nat:=List.replicate (lens.getD (mix ns k % 8).toNat 0).toNat (sign (mix ns k / 8))
theorem signs_ne:∀n:Nat,signs.getD n 0≠10:=by
 intro n
 by_cases h:n<94
 ·have all:∀m:Nat,m<94→signs.getD m 0≠10:=by decide
  exact all n h
 ·have:signs.getD n 0=0:=by
   rw[List.getD_eq_getElem?_getD,List.getElem?_eq_none (by show(94:Nat)≤n;omega)];rfl
  rw[this];decide
theorem lens_le:∀n:Nat,lens.getD n 0≤40:=by
 intro n
 by_cases h:n<8
 ·have all:∀m:Nat,m<8→lens.getD m 0≤40:=by decide
  exact all n h
 ·have:lens.getD n 0=0:=by
   rw[List.getD_eq_getElem?_getD,List.getElem?_eq_none (by show(8:Nat)≤n;omega)];rfl
  rw[this];decide
theorem textOf_len(ns:List Int)(k:Int):(zv8 ns k).length≤40:=by
 unfold zv8
 rw[List.length_replicate]
 have:=lens_le (mix ns k % 8).toNat
 omega
theorem textOf_flat(ns:List Int)(k:Int):∀c∈zv8 ns k,c≠10:=by
 intro c hc
 unfold zv8 at hc
 rw[List.mem_replicate] at hc
 rw[hc.2]
 exact signs_ne _
def zi6(ns:List Int)(k:Int):Plan:=
 if mix ns k / 12 % 4=0 then .text (zv8 ns (k+1)) else if mix ns k / 12 % 4=1 then .text [97,98] else if mix ns k / 12 % 4=2 then .line else .cut
def steps5:List Nat:=[0,1,2,7,40]
def zf3(ns:List Int):Nat→Int→Plan
 |0,k=>zi6 ns k
 |d+1,k=>
  if mix ns k % 12=0 then zi6 ns k
  else if mix ns k % 12=1 then .nest (steps5.getD (mix ns k / 12 % 5).toNat 0) (zf3 ns d (2*k+1))
  else if mix ns k % 12=2 then .align (zf3 ns d (2*k+1))
  else if mix ns k % 12=3 then .flat (zf3 ns d (2*k+1))
  else if mix ns k % 12<5 then .choice (.flat (zf3 ns d (2*k+1))) (zf3 ns d (2*k+1))
  else if mix ns k / 12 % 5 / 4=0 then .beside (zf3 ns d (2*k+1)) (zf3 ns d (2*k+2))
  else .choice (zf3 ns d (2*k+1)) (zf3 ns d (2*k+2))
def Plan.Flat:Plan→Prop
 |.text t=>∀c∈t,c≠10
 |.line=>True|.cut=>True
 |.nest _ p=>p.Flat|.align p=>p.Flat|.flat p=>p.Flat
 |.beside p q=>p.Flat∧q.Flat
 |.choice p q=>p.Flat∧q.Flat
theorem yf0(ns:List Int)(k:Int):(zi6 ns k).Flat:=by
 unfold zi6
 split
 ·exact textOf_flat ns _
 ·split
  ·intro c hc
   simp at hc;omega
  ·split<;>exact trivial
theorem zu5(ns:List Int):∀(d:Nat) (k:Int),(zf3 ns d k).Flat
 |0,k=>yf0 ns k
 |d+1,k=>by
  have h1:=zu5 ns d (2*k+1)
  have h2:=zu5 ns d (2*k+2)
  unfold zf3
  repeat' split
  ·exact yf0 ns k
  ·exact h1
  ·exact h1
  ·exact h1
  ·exact⟨h1,h1⟩
  ·exact⟨h1,h2⟩
  ·exact⟨h1,h2⟩
theorem yb1(ns:List Int)(k:Int):(zi6 ns k).grow≤40∧(zi6 ns k).leaves=1∧(zi6 ns k).size=1∧(zi6 ns k).sides.length=1∧(zi6 ns k).deep=0:=by
 unfold zi6
 split
 ·exact⟨textOf_len ns _,rfl,rfl,rfl,rfl⟩
 ·split
  ·exact⟨by decide,rfl,rfl,rfl,rfl⟩
  ·split
   ·exact⟨by decide,rfl,rfl,rfl,rfl⟩
   ·exact⟨by decide,rfl,rfl,rfl,rfl⟩
def growB:Nat→Nat|0=>40|d+1=>2*growB d+40
def zz7:Nat→Nat|0=>1|d+1=>2*zz7 d
def sizeB:Nat→Nat|0=>1|d+1=>2*sizeB d+2
def zd8:Nat→Nat|0=>1|d+1=>2*(zd8 d*zd8 d)
theorem steps5_le(n:Nat):steps5.getD n 0≤40:=by
 by_cases h:n<5
 ·have all:∀m:Nat,m<5→steps5.getD m 0≤40:=by decide
  exact all n h
 ·have:steps5.getD n 0=0:=by
   rw[List.getD_eq_getElem?_getD,List.getElem?_eq_none (by show(5:Nat)≤n;omega)];rfl
  rw[this];decide
theorem growB_ge:∀d,40≤growB d
 |0=>Nat.le_refl _
 |d+1=>by have:=growB_ge d;simp only[growB];omega
theorem ye9:∀d,1≤zz7 d
 |0=>Nat.le_refl _
 |d+1=>by have:=ye9 d;simp only[zz7];omega
theorem sizeB_pos:∀d,1≤sizeB d
 |0=>Nat.le_refl _
 |d+1=>by simp only[sizeB];omega
theorem zo3:∀d,1≤zd8 d
 |0=>Nat.le_refl _
 |d+1=>by have:=Nat.mul_le_mul (zo3 d) (zo3 d);simp only[zd8];omega
theorem zs0(ns:List Int):∀(d:Nat) (k:Int),(zf3 ns d k).grow≤growB d∧(zf3 ns d k).leaves≤zz7 d∧(zf3 ns d k).size≤sizeB d∧(zf3 ns d k).sides.length≤zd8 d∧(zf3 ns d k).deep≤2*d
 |0,k=>by
  obtain⟨a,b,c,e,f⟩:=yb1 ns k
  exact⟨a,Nat.le_of_eq b,Nat.le_of_eq c,Nat.le_of_eq e,Nat.le_of_eq f⟩
 |d+1,k=>by
  obtain⟨a1,b1,c1,e1,f1⟩:=zs0 ns d (2*k+1)
  obtain⟨a2,b2,c2,e2,f2⟩:=zs0 ns d (2*k+2)
  obtain⟨a0,b0,c0,e0,f0⟩:=yb1 ns k
  have g:=growB_ge d
  have l:=ye9 d
  have z:=sizeB_pos d
  have s:=zo3 d
  have s1:zd8 d≤zd8 d*zd8 d:=by
   have:=Nat.mul_le_mul_left (zd8 d) s;omega
  have s2:(zf3 ns d (2*k+1)).sides.length*(zf3 ns d (2*k+2)).sides.length≤zd8 d*zd8 d:=Nat.mul_le_mul e1 e2
  have n5:=steps5_le (mix ns k / 12 % 5).toNat
  unfold zf3
  simp only[growB,zz7,sizeB,zd8]
  repeat' split
  ·rw[b0,c0,e0,f0];omega
  ·simp only[Plan.grow,Plan.leaves,Plan.size,Plan.deep,Plan.sides];omega
  ·simp only[Plan.grow,Plan.leaves,Plan.size,Plan.deep,Plan.sides];omega
  ·simp only[Plan.grow,Plan.leaves,Plan.size,Plan.deep,Plan.sides];omega
  ·rw[zr6];simp only[Plan.grow,Plan.leaves,Plan.size,Plan.deep,Plan.sides];omega
  ·rw[ya8];simp only[Plan.grow,Plan.leaves,Plan.size,Plan.deep];omega
  ·rw[zr6];simp only[Plan.grow,Plan.leaves,Plan.size,Plan.deep];omega
end Pq
namespace Pq
theorem zq9:∀(p:Plan) (b b':List Int) (t t':List Nat) (m:Nat) (f:Bool),lay p b t m f=some (t',b')→t.length≤t'.length
 |.text x,b,b',t,t',m,f,h=>by simp only[lay,Option.some.injEq,Prod.mk.injEq] at h;rw[←h.1];simp
 |.line,b,b',t,t',m,f,h=>by simp only[lay,Option.some.injEq,Prod.mk.injEq] at h;rw[←h.1];simp[brk]
 |.cut,b,b',t,t',m,f,h=>by simp only[lay,Option.some.injEq,Prod.mk.injEq] at h;rw[←h.1];simp[brk]
 |.nest n p,b,b',t,t',m,f,h=>zq9 p b b' t t' (m+n) f h
 |.align p,b,b',t,t',m,f,h=>zq9 p b b' t t' (col t) f h
 |.flat p,b,b',t,t',m,f,h=>zq9 p b b' t t' m true h
 |.beside p q,b,b',t,t',m,f,h=>by
  have h':(lay p b t m f).bind (fun r=>lay q r.2 r.1 m f)=some (t',b'):=h
  cases e:lay p b t m f with
  |none=>rw[e] at h';cases h'
  |some x=>
   obtain⟨t1,b1⟩:=x
   rw[e] at h'
   exact Nat.le_trans (zq9 p b b1 t t1 m f e) (zq9 q b1 b' t1 t' m f h')
 |.choice p q,[],b',t,t',m,f,h=>by cases h
 |.choice p q,x::b,b',t,t',m,f,h=>by
  have h':(if x=0 then lay p b t m f else if x=1 then lay q b t m f else none)=some (t',b'):=h
  by_cases c0:x=0
  ·rw[if_pos c0] at h';exact zq9 p b b' t t' m f h'
  ·rw[if_neg c0] at h'
   by_cases c1:x=1
   ·rw[if_pos c1] at h';exact zq9 q b b' t t' m f h'
   ·rw[if_neg c1] at h';cases h'
end Pq
namespace Pq
def sumG:List Step→Nat
 |[]=>0
 |(p,_,_)::r=>p.grow+sumG r
def Fit(G:Nat):List Step→Prop
 |[]=>True
 |(p,m,f)::r=>m+(p.grow+sumG r)≤G∧p.Flat∧Fit G r
def zf7:Plan→Nat→Bool→List (List Nat)
 |.text x,_,_=>[x]
 |.line,m,f=>if f then[[32]] else[[10],List.replicate m 32]
 |.cut,m,f=>if f then[[]] else[[10],List.replicate m 32]
 |_,_,_=>[]
def zl3:Plan→Nat→Nat→Bool→Nat
 |.text x,c,_,_=>c+x.length
 |.line,c,m,f=>if f then c+1 else m
 |.cut,c,m,f=>if f then c else m
 |_,c,_,_=>c
def IsLeaf:Plan→Prop
 |.text _=>True|.line=>True|.cut=>True|_=>False
theorem leaf_lay{p:Plan}(h:IsLeaf p)(m:Nat)(f:Bool)(r:List Step)(b:List Int)(t:List Nat):zg5 ((p,m,f)::r) b t=zg5 r b (t++(zf7 p m f).flatten):=by
 cases p with
 |text x=>rw[layAll_text];simp[zf7]
 |line=>rw[layAll_line];cases f<;>simp[zf7,brk]
 |cut=>rw[layAll_cut];cases f<;>simp[zf7,brk]
 |_=>exact h.elim
theorem leaf_col{p:Plan}(h:IsLeaf p)(hf:p.Flat)(m:Nat)(f:Bool)(t:List Nat):col (t++(zf7 p m f).flatten)=zl3 p (col t) m f:=by
 cases p with
 |text x=>simp only[zf7,zl3,List.flatten_cons,List.flatten_nil,List.append_nil];exact ze7 t x hf
 |line=>
  cases f
  ·simp only[zf7,zl3,Bool.false_eq_true,if_false,List.flatten_cons,List.flatten_nil,List.append_nil,List.singleton_append];exact zp2 t m
  ·simp only[zf7,zl3,if_true,List.flatten_cons,List.flatten_nil,List.append_nil];exact ze7 t [32] (by intro c hc;simp at hc;omega)
 |cut=>
  cases f
  ·simp only[zf7,zl3,Bool.false_eq_true,if_false,List.flatten_cons,List.flatten_nil,List.append_nil,List.singleton_append];exact zp2 t m
  ·simp[zf7,zl3]
 |_=>exact h.elim
theorem leaf_len{p:Plan}(h:IsLeaf p)(m:Nat)(f:Bool):((zf7 p m f).flatten).length≤p.grow+m+1:=by
 cases p with
 |text x=>simp[zf7,Plan.grow];omega
 |line=>cases f<;>simp[zf7,Plan.grow]<;>omega
 |cut=>cases f<;>simp[zf7,Plan.grow]<;>omega
 |_=>exact h.elim
theorem leaf_cnt(p:Plan)(m:Nat)(f:Bool):(zf7 p m f).length≤2:=by
 cases p with
 |text x=>simp[zf7]
 |line=>cases f<;>simp[zf7]
 |cut=>cases f<;>simp[zf7]
 |_=>simp[zf7]
theorem leafCol_le{p:Plan}(h:IsLeaf p)(c m:Nat)(f:Bool)(s G:Nat)(h1:c+(p.grow+s)≤G)(h2:m+(p.grow+s)≤G):zl3 p c m f+s≤G:=by
 cases p with
 |text x=>simp only[zl3,Plan.grow] at *;omega
 |line=>cases f<;>simp only[zl3,Plan.grow,Bool.false_eq_true,if_false,if_true] at * <;> omega
 |cut=>cases f<;>simp only[zl3,Plan.grow,Bool.false_eq_true,if_false,if_true] at * <;> omega
 |_=>exact h.elim
def zu8:Plan→Nat→Bool→Nat→List Step
 |.nest k p,m,f,_=>[(p,m+k,f)]
 |.align p,_,f,c=>[(p,c,f)]
 |.flat p,m,_,_=>[(p,m,true)]
 |.beside p q,m,f,_=>[(q,m,f),(p,m,f)]
 |_,_,_,_=>[]
def IsMid:Plan→Prop
 |.nest _ _=>True|.align _=>True|.flat _=>True|.beside _ _=>True|_=>False
theorem mid_lay{p:Plan}(h:IsMid p)(m:Nat)(f:Bool)(r:List Step)(b:List Int)(t:List Nat):zg5 ((p,m,f)::r) b t=zg5 ((zu8 p m f (col t)).reverse++r) b t:=by
 cases p with
 |nest k p=>rw[layAll_nest];rfl
 |align p=>rw[layAll_align];rfl
 |flat p=>rw[layAll_flat];rfl
 |beside p q=>rw[yn6];rfl
 |_=>exact h.elim
theorem mid_work{p:Plan}(h:IsMid p)(m:Nat)(f:Bool)(c:Nat)(r:List Step):zv5 ((zu8 p m f c).reverse++r)<zv5 ((p,m,f)::r):=by
 cases p with
 |nest k p=>simp[zu8,zv5,Plan.size]
 |align p=>simp[zu8,zv5,Plan.size]
 |flat p=>simp[zu8,zv5,Plan.size]
 |beside p q=>simp[zu8,zv5,Plan.size];omega
 |_=>exact h.elim
theorem mid_fit{p:Plan}(h:IsMid p)(m:Nat)(f:Bool)(c G:Nat)(r:List Step)(hF:Fit G ((p,m,f)::r))(hc:c+sumG ((p,m,f)::r)≤G):Fit G ((zu8 p m f c).reverse++r)∧c+sumG ((zu8 p m f c).reverse++r)≤G:=by
 obtain⟨h1,h2,h3⟩:=hF
 cases p with
 |nest k p=>simp only[zu8,List.reverse_singleton,List.singleton_append,Fit,sumG,Plan.grow,Plan.Flat] at *;exact⟨⟨by omega,h2,h3⟩,by omega⟩
 |align p=>simp only[zu8,List.reverse_singleton,List.singleton_append,Fit,sumG,Plan.grow,Plan.Flat] at *;exact⟨⟨by omega,h2,h3⟩,by omega⟩
 |flat p=>simp only[zu8,List.reverse_singleton,List.singleton_append,Fit,sumG,Plan.grow,Plan.Flat] at *;exact⟨⟨by omega,h2,h3⟩,by omega⟩
 |beside p q=>
  have e:(zu8 (.beside p q) m f c).reverse++r=(p,m,f)::(q,m,f)::r:=rfl
  rw[e]
  simp only[Fit,sumG,Plan.grow,Plan.Flat] at*
  exact⟨⟨by omega,h2.1,by omega,h2.2,h3⟩,by omega⟩
 |_=>exact h.elim
theorem yb9(p:Plan):1≤p.size:=by cases p<;>simp[Plan.size]
theorem len_work:∀st:List Step,st.length≤zv5 st
 |[]=>Nat.le_refl _
 |(p,_,_)::r=>by have:=len_work r;have:=yb9 p;simp only[List.length_cons,zv5];omega
end Pq
namespace Pq
theorem zn3:∀(p:Plan) (b b' c:List Int) (t t':List Nat) (m:Nat) (f:Bool),lay p b t m f=some (t',b')→lay p (b++c) t m f=some (t',b'++c)
 |.text x,b,b',c,t,t',m,f,h=>by simp only[lay,Option.some.injEq,Prod.mk.injEq] at h ⊢;exact⟨h.1,by rw[h.2]⟩
 |.line,b,b',c,t,t',m,f,h=>by simp only[lay,Option.some.injEq,Prod.mk.injEq] at h ⊢;exact⟨h.1,by rw[h.2]⟩
 |.cut,b,b',c,t,t',m,f,h=>by simp only[lay,Option.some.injEq,Prod.mk.injEq] at h ⊢;exact⟨h.1,by rw[h.2]⟩
 |.nest n p,b,b',c,t,t',m,f,h=>zn3 p b b' c t t' (m+n) f h
 |.align p,b,b',c,t,t',m,f,h=>zn3 p b b' c t t' (col t) f h
 |.flat p,b,b',c,t,t',m,f,h=>zn3 p b b' c t t' m true h
 |.beside p q,b,b',c,t,t',m,f,h=>by
  have h':(lay p b t m f).bind (fun r=>lay q r.2 r.1 m f)=some (t',b'):=h
  show(lay p (b++c) t m f).bind (fun r=>lay q r.2 r.1 m f)=some (t',b'++c)
  cases e:lay p b t m f with
  |none=>rw[e] at h';cases h'
  |some x=>
   obtain⟨t1,b1⟩:=x
   rw[e] at h'
   rw[zn3 p b b1 c t t1 m f e]
   exact zn3 q b1 b' c t1 t' m f h'
 |.choice p q,[],b',c,t,t',m,f,h=>by cases h
 |.choice p q,x::b,b',c,t,t',m,f,h=>by
  have h':(if x=0 then lay p b t m f else if x=1 then lay q b t m f else none)=some (t',b'):=h
  show(if x=0 then lay p (b++c) t m f else if x=1 then lay q (b++c) t m f else none)=some (t',b'++c)
  by_cases c0:x=0
  ·rw[if_pos c0] at h' ⊢;exact zn3 p b b' c t t' m f h'
  ·rw[if_neg c0] at h' ⊢
   by_cases c1:x=1
   ·rw[if_pos c1] at h' ⊢;exact zn3 q b b' c t t' m f h'
   ·rw[if_neg c1] at h';cases h'
def out1(p:Plan)(r:List Int)(t:List Nat)(m:Nat)(f:Bool):List Nat:=((lay p r t m f).getD ([],[])).1
def outs(p:Plan)(t:List Nat)(m:Nat)(f:Bool):List (List Nat):=p.sides.map fun r=>out1 p r t m f
def run(m:Nat)(f:Bool)(ps:List Plan)(ts:List (List Nat)):List (List Nat):=ps.foldl (fun ts p=>ts.flatMap fun t=>outs p t m f) ts
def post:Plan→List Plan
 |.text x=>[.text x]|.line=>[.line]|.cut=>[.cut]
 |.nest n p=>post p++[.nest n p]|.align p=>post p++[.align p]|.flat p=>post p++[.flat p]
 |.beside p q=>post p++(post q++[.beside p q])
 |.choice p q=>post p++(post q++[.choice p q])
def stk1:Plan→List Plan→Option (List Plan)
 |.beside p q,b::a::s=>if b=q∧a=p then some (.beside p q::s) else none
 |.choice p q,b::a::s=>if b=q∧a=p then some (.choice p q::s) else none
 |.beside _ _,_=>none
 |.choice _ _,_=>none
 |.nest n p,b::s=>if b=p then some (.nest n p::s) else none
 |.align p,b::s=>if b=p then some (.align p::s) else none
 |.flat p,b::s=>if b=p then some (.flat p::s) else none
 |.nest _ _,[]=>none
 |.align _,[]=>none
 |.flat _,[]=>none
 |p,s=>some (p::s)
def stk:List Plan→List Plan→Option (List Plan)
 |[],s=>some s
 |p::r,s=>(stk1 p s).bind (stk r)
end Pq
namespace Pq
def Sm(t:List Nat):Prop:=∀c∈t,c<1114112
theorem Sm.app{a b:List Nat}(h1:Sm a)(h2:Sm b):Sm (a++b):=fun c hc=>by
 rcases List.mem_append.mp hc with z|z
 ·exact h1 c z
 ·exact h2 c z
end Pq
namespace Pq
open PySem PySem.Builtin PySem.Builtin.Str
def tx(l:List Nat):Str:=⟨l.toArray⟩
theorem zf1(l:List Nat):(tx l).length=l.length:=by simp[tx,Str.length]
theorem zn9(l m:List Nat):tx l++tx m=tx (l++m):=by
 show Str.append _ _=_
 simp[tx,Str.append]
theorem tx_inj{l m:List Nat}(h:tx l=tx m):l=m:=by
 have:=congrArg (fun s=>s.cps.toList) h
 simpa [tx] using this
theorem tx_eta(x:Str):tx x.cps.toList=x:=by cases x;simp[tx]
theorem yh0:(Str.ofString "\n")=tx [10]:=by decide +kernel
theorem subAt_nl(l:List Nat)(i:Nat):subAt (tx l) (tx [10]) i=true↔l[i]? = some 10:=by
 unfold subAt
 have e:(tx l).cps.extract i (i+(tx [10]).length)=((l.drop i).take 1).toArray:=by
  rw[zf1]
  simp[tx,List.extract_toArray]
 rw[e]
 show(((l.drop i).take 1).toArray==[10].toArray)=true↔_
 rw[beq_iff_eq]
 constructor
 ·intro h
  have h':(l.drop i).take 1=[10]:=by simpa using congrArg Array.toList h
  have:(l.drop i)[0]? = some 10:=by
   cases q:l.drop i with
   |nil=>rw[q] at h';cases h'
   |cons a r=>rw[q] at h';simp at h';simp[h']
  rw[List.getElem?_drop] at this
  simpa using this
 ·intro h
  have h1:(l.drop i)[0]? = some 10:=by rw[List.getElem?_drop];simpa using h
  cases q:l.drop i with
  |nil=>rw[q] at h1;cases h1
  |cons a r=>rw[q] at h1;simp at h1;simp[h1]
theorem col_none(l:List Nat)(h:∀i:Nat,l[i]? ≠ some 10):col l=l.length:=by
 have:=ze7 [] l (fun c hc e=>by
  obtain⟨i,hi,e'⟩:=List.mem_iff_getElem.mp hc
  exact h i (by rw[List.getElem?_eq_getElem hi,e',e]))
 simpa [col] using this
theorem col_some(l:List Nat)(i:Nat)(h:l[i]? = some 10)(hk:∀k:Nat,i<k→l[k]? ≠ some 10):col l+i+1=l.length:=by
 obtain⟨hi,e⟩:=List.getElem?_eq_some_iff.mp h
 have e1:l=(l.take i++[10])++l.drop (i+1):=by
  rw[List.append_assoc,←e,List.singleton_append,←List.drop_eq_getElem_cons hi,List.take_append_drop]
 have hflat:∀c∈l.drop (i+1),c≠10:=fun c hc ec=>by
  obtain⟨j,hj,ej⟩:=List.mem_iff_getElem.mp hc
  have:l[i+1+j]? = some 10:=by
   have z:(l.drop (i+1))[j]? = some c:=by rw[List.getElem?_eq_getElem hj,ej]
   rw[List.getElem?_drop] at z
   rw[z,ec]
  exact hk _ (by omega) this
 have h2:col l=col (l.take i++[10])+(l.drop (i+1)).length:=by
  conv=>lhs;rw[e1]
  exact ze7 _ _ hflat
 have h3:col (l.take i++[10])=0:=by unfold col;simp
 rw[h2,h3,List.length_drop];omega
theorem rfind_col(l:List Nat):((tx l).length:Int) - Txt.rfind (tx l) (tx [10]) - 1=(col l:Int):=by
 have at_iff:∀i,StrLaws.At (tx l) (tx [10]) (tx l).length i↔l[i]? = some 10:=fun i=>by
  unfold StrLaws.At
  rw[subAt_nl,zf1,zf1]
  constructor
  ·exact fun h=>h.2
  ·intro h
   have:=(List.getElem?_eq_some_iff.mp h).1
   exact⟨by simp;omega,h⟩
 unfold Txt.rfind
 rcases StrLaws.last_spec (tx l) (tx [10]) with⟨e,h⟩|⟨i,e,h,hk⟩
 ·rw[e]
  have:=col_none l (fun i q=>h i ((at_iff i).mpr q))
  rw[zf1,this];simp
 ·rw[e]
  have:=col_some l i ((at_iff i).mp h) (fun k hk' q=>hk k hk' ((at_iff k).mpr q))
  rw[zf1];simp;omega
theorem rep_fold(a:Array Nat):∀(n:Nat) (acc:Array Nat),(List.replicate n a).foldl (· ++ ·) acc=acc++(List.replicate n a.toList).flatten.toArray
 |0,acc=>by simp
 |n+1,acc=>by
  rw[List.replicate_succ,List.foldl_cons,rep_fold a n,List.replicate_succ,List.flatten_cons]
  rw[Array.append_assoc]
  congr 1
  apply Array.toList_inj.mp
  simp
end Pq
namespace Pq
open PySem PySem.Builtin PySem.Builtin.Str
def zc9:List Nat→List (List Nat)
 |[]=>[[]]
 |c::t=>if c=10 then[]::zc9 t else match zc9 t with
  |[]=>[[c]]
  |r::rs=>(c::r)::rs
def glueL:List (List Nat)→List Nat
 |[]=>[]
 |[r]=>r
 |r::s::rs=>r++10::glueL (s::rs)
theorem zf5(c:Nat)(t:List Nat):zc9 (c::t)=if c=10 then[]::zc9 t else match zc9 t with
  |[]=>[[c]]
  |r::rs=>(c::r)::rs:=rfl
theorem zw3(t:List Nat):zc9 t≠[]:=by
 cases t with
 |nil=>simp[zc9]
 |cons c t=>
  unfold zc9
  split
  ·simp
  ·split<;>simp
theorem zw2:∀r:List Nat,10∉r→zc9 r=[r]
 |[],_=>rfl
 |c::r,h=>by
  have h1:¬c=10:=fun z=>h (by rw[z];exact List.mem_cons_self)
  have h2:=zw2 r fun z=>h (List.mem_cons_of_mem _ z)
  rw[zf5,if_neg h1,h2]
theorem rows_cons:∀(r t:List Nat),10∉r→zc9 (r++10::t)=r::zc9 t
 |[],t,_=>by show zc9 (10::t)=_;rw[zf5,if_pos rfl]
 |c::r,t,h=>by
  have h1:¬c=10:=fun z=>h (by rw[z];exact List.mem_cons_self)
  have h2:=rows_cons r t fun z=>h (List.mem_cons_of_mem _ z)
  show zc9 (c::(r++10::t))=_
  rw[zf5,if_neg h1,h2]
theorem rows_glue:∀rs:List (List Nat),rs≠[]→(∀r∈rs,10∉r)→zc9 (glueL rs)=rs
 |[],h,_=>absurd rfl h
 |[r],_,h=>zw2 r (h r (by simp))
 |r::s::rs,_,h=>by
  show zc9 (r++10::glueL (s::rs))=_
  rw[rows_cons r _ (h r (by simp)),rows_glue (s::rs) (by simp) fun x hx=>h x (List.mem_cons_of_mem _ hx)]
theorem join_glue:∀rs:List (List Nat),Str.join (tx [10]) (rs.map tx)=tx (glueL rs)
 |[]=>rfl
 |[r]=>rfl
 |r::s::rs=>by
  show tx r++tx [10]++Str.join (tx [10]) ((s::rs).map tx)=tx (r++10::glueL (s::rs))
  rw[join_glue (s::rs),zn9,zn9,List.append_assoc];rfl
theorem yh8(t:List Nat):Txt.split (tx t) (tx [10])=(zc9 t).map tx:=by
 have h1:=StrLaws.join_split (tx t) (tx [10])
 have h2:=StrLaws.split_free (tx t) 10
 have h3:=PyProof.Rows.split_pos (tx t) (tx [10])
 have e0:(⟨#[10]⟩:Str)=tx [10]:=rfl
 rw[e0] at h2
 generalize Txt.split (tx t) (tx [10])=ps at h1 h2 h3
 have e1:ps=(ps.map fun p=>p.cps.toList).map tx:=by
  rw[List.map_map]
  conv=>lhs;rw[←List.map_id ps]
  refine List.map_congr_left fun p _=>?_
  exact(tx_eta p).symm
 rw[e1] at h1
 rw[join_glue] at h1
 have e2:=tx_inj h1
 rw[←e2,rows_glue _ (by intro z;rw[List.map_eq_nil_iff] at z;subst z;simp at h3) (fun r hr=>by
  obtain⟨p,hp,rfl⟩:=List.mem_map.mp hr
  exact h2 p hp)]
 exact e1
theorem count_rows(t:List Nat):Txt.count (tx t) (tx [10])=((zc9 t).length:Int) - 1:=by
 have h:=yh8 t
 have hl:=congrArg List.length h
 rw[List.length_map] at hl
 rw[←hl]
 have kk:Builtin.Str.strKind (tx [10])=1:=by decide +kernel
 unfold Txt.split Txt.count
 by_cases c1:(decide ((tx t).length<(tx [10]).length)||decide (Builtin.Str.strKind (tx t)<Builtin.Str.strKind (tx [10])))=true
 ·rw[if_pos c1]
  have hlt:(tx t).length<1:=by
   rw[Bool.or_eq_true] at c1
   rcases c1 with z|z
   ·have:=of_decide_eq_true z
    rw[zf1 [10]] at this;simpa using this
   ·have:=of_decide_eq_true z
    rw[kk] at this
    have h1:1≤Builtin.Str.strKind (tx t):=by
     unfold Builtin.Str.strKind
     split
     ·exact Nat.le_refl _
     ·split<;>decide
    omega
  rw[zf1] at hlt
  have e:t=[]:=List.eq_nil_of_length_eq_zero (by omega)
  subst e
  have:occurrences (tx []) (tx [10]) 0 (tx []).length ((tx []).length+1)=[]:=by decide +kernel
  rw[this];rfl
 ·rw[if_neg c1]
  by_cases c2:(occurrences (tx t) (tx [10]) 0 (tx t).length ((tx t).length+1)).isEmpty=true
  ·rw[if_pos c2]
   rw[List.isEmpty_iff] at c2
   rw[c2];rfl
  ·rw[if_neg c2,length_partsBetween]
   omega
theorem zj8:∀(t r:List Nat),10∉r→∃us u,zc9 t=us++[u]∧zc9 (t++r)=us++[u++r]
 |[],r,h=>⟨[],[],rfl,by rw[List.nil_append,zw2 r h];rfl⟩
 |c::t,r,h=>by
  obtain⟨us,u,e1,e2⟩:=zj8 t r h
  by_cases hc:c=10
  ·refine⟨[]::us,u,?_,?_⟩
   ·rw[zf5,if_pos hc,e1];rfl
   ·show zc9 (c::(t++r))=_
    rw[zf5,if_pos hc,e2];rfl
  ·cases us with
   |nil=>
    refine⟨[],c::u,?_,?_⟩
    ·rw[zf5,if_neg hc,e1];rfl
    ·show zc9 (c::(t++r))=_
     rw[zf5,if_neg hc,e2];rfl
   |cons v us=>
    refine⟨(c::v)::us,u,?_,?_⟩
    ·rw[zf5,if_neg hc,e1];rfl
    ·show zc9 (c::(t++r))=_
     rw[zf5,if_neg hc,e2];rfl
end Pq
namespace Pq
theorem zz2:∀t:List Nat,((zc9 t).map (·.length)).sum+(zc9 t).length=t.length+1
 |[]=>rfl
 |c::t=>by
  have ih:=zz2 t
  have hne:=zw3 t
  unfold zc9
  split
  ·simp only[List.map_cons,List.sum_cons,List.length_cons,List.length_nil];omega
  ·cases e:zc9 t with
   |nil=>exact absurd e hne
   |cons r rs=>
    rw[e] at ih
    simp only[List.map_cons,List.sum_cons,List.length_cons] at ih ⊢;omega
theorem yj9:∀(l:List Nat) (x:Nat),x∈l→x≤l.sum
 |y::l,x,h=>by
  rw[List.sum_cons]
  rcases List.mem_cons.mp h with z|z
  ·omega
  ·have:=yj9 l x z;omega
theorem rowsOf_le(t r:List Nat)(h:r∈zc9 t):r.length≤t.length:=by
 have h1:=zz2 t
 have h2:=yj9 ((zc9 t).map (·.length)) r.length (List.mem_map.mpr ⟨r,h,rfl⟩)
 have h3:1≤(zc9 t).length:=by
  cases e:zc9 t with
  |nil=>exact absurd e (zw3 t)
  |cons _ _=>simp
 omega
theorem yi9(t:List Nat):(zc9 t).length≤t.length+1:=by
 have h1:=zz2 t
 omega
def over(wd:Int)(r:List Nat):Int:=if(r.length:Int) - wd > 0 then(r.length:Int) - wd else 0
def beyond(t:List Nat)(wd:Int):Int:=((zc9 t).map (over wd)).sum
end Pq
namespace Pq
open PySem PySem.Builtin PySem.Builtin.Str
end Pq
namespace Pq
open PySem L2
theorem zd1{c A B:Prop}[Decidable c](hc:c)(h:A):if c then A else B:=by rw[if_pos hc];exact h
theorem zc3{c A B:Prop}[Decidable c](hc:¬c)(h:B):if c then A else B:=by rw[if_neg hc];exact h
theorem za4{H:Hp}{p:Addr}(h:H p=none)(o:HO):Same H (upd H p o):=fun b u q=>by rw[za9 (za8 q h)];exact q
theorem zd2{n:Nat}(h:n≤16777216):n≤sizeLine:=by have e:sizeLine=16777216:=sizeLine_eq;omega
theorem at_ints{ns:List Int}{i:Int}(h0:0≤i)(h1:i<(ns.length:Int)):atI (ns.map V.int) i=some (.int (ns.getD i.toNat 0)):=by
 have hk:i.toNat<ns.length:=by omega
 have e:i=((i.toNat:Nat):Int):=by omega
 rw[e]
 have q:(ns.map V.int)[i.toNat]? = some (.int (ns.getD i.toNat 0)):=by
  rw[List.getElem?_map,List.getElem?_eq_getElem hk,List.getD_eq_getElem?_getD,List.getElem?_eq_getElem hk]<;>rfl
 exact zh0 q
def PlanAt(H:Hp):Plan→Addr→Prop
 |.text t,r=>H r=some (.tup [.str "text",.str (tx t)])
 |.line,r=>H r=some (.tup [.str "line"])
 |.cut,r=>H r=some (.tup [.str "cut"])
 |.nest n p,r=>∃a,H r=some (.tup [.str "nest",.int n,.ref a])∧PlanAt H p a
 |.align p,r=>∃a,H r=some (.tup [.str "align",.ref a])∧PlanAt H p a
 |.flat p,r=>∃a,H r=some (.tup [.str "flat",.ref a])∧PlanAt H p a
 |.beside p q,r=>∃a b,H r=some (.tup [.str "beside",.ref a,.ref b])∧PlanAt H p a∧PlanAt H q b
 |.choice p q,r=>∃a b,H r=some (.tup [.str "choice",.ref a,.ref b])∧PlanAt H p a∧PlanAt H q b
def Tups(H H':Hp):Prop:=∀b xs,H b=some (.tup xs)→H' b=some (.tup xs)
theorem Tups.of{H H':Hp}(h:Same H H'):Tups H H':=fun b xs e=>h b _ e
theorem Tups.trans{H H1 H2:Hp}(a:Tups H H1)(b:Tups H1 H2):Tups H H2:=fun c xs e=>b c xs (a c xs e)
theorem PlanAt.mono{H H':Hp}(h:Tups H H'):∀ {p:Plan} {r:Addr},PlanAt H p r→PlanAt H' p r
 |.text _,_,e=>h _ _ e
 |.line,_,e=>h _ _ e
 |.cut,_,e=>h _ _ e
 |.nest _ _,_,⟨a,e,q⟩=>⟨a,h _ _ e,PlanAt.mono h q⟩
 |.align _,_,⟨a,e,q⟩=>⟨a,h _ _ e,PlanAt.mono h q⟩
 |.flat _,_,⟨a,e,q⟩=>⟨a,h _ _ e,PlanAt.mono h q⟩
 |.beside _ _,_,⟨a,b,e,q,q'⟩=>⟨a,b,h _ _ e,PlanAt.mono h q,PlanAt.mono h q'⟩
 |.choice _ _,_,⟨a,b,e,q,q'⟩=>⟨a,b,h _ _ e,PlanAt.mono h q,PlanAt.mono h q'⟩
def spCell(K:PySem.W.Frag):Sp:=fun vs H Q _=>∃(a:Addr) (ns:List Int) (k:Int),vs=[.ref a,.int k]∧SqL K H a (ns.map V.int)∧ns.length≤63∧Q (.int (cell ns k)) H
def spMix(K:PySem.W.Frag):Sp:=fun vs H Q _=>∃(a:Addr) (ns:List Int) (k:Int),vs=[.ref a,.int k]∧SqL K H a (ns.map V.int)∧ns.length≤63∧Q (.int (mix ns k)) H
def spSign:Sp:=fun vs H Q _=>∃n:Int,vs=[.int n]∧Q (.str (tx [sign n])) H
def spText(K:PySem.W.Frag):Sp:=fun vs H Q _=>∃(a:Addr) (ns:List Int) (k:Int),vs=[.ref a,.int k]∧SqL K H a (ns.map V.int)∧ns.length≤63∧∀H',Same H H'→Q (.str (tx (zv8 ns k))) H'
def spPlan(K:PySem.W.Frag):Nat→Sp
 |0=>fun _ _ _ _=>False
 |d+1=>fun vs H Q _=>∃(a:Addr) (ns:List Int) (k:Int),vs=[.ref a,.int k,.int d]∧SqL K H a (ns.map V.int)∧ns.length≤63∧∀(r:Addr) (H':Hp),Same H H'→PlanAt H' (zf3 ns d k) r→Q (.ref r) H'
theorem fn_no{P:Program}{w:World}{K:PySem.W.Frag}{mg:Str→Option Value}{base:Heap}{CX:CXT}{k:Nat}{f:Addr}{fd:FuncData}{ps:List Str}{sp:Sp}(no:∀vs H Q E,¬sp vs H Q E):FnOk P w K mg base CX k f fd ps sp:=
 ⟨fun vs H Q E h=>absurd h (no vs H Q E),fun A outer s H args us vs Q E _ _ _ _ h=>absurd h (no vs H Q E)⟩
theorem mul_one(c:Nat)(n:Int)(h:0≤n):Txt.mul (tx [c]) n=tx (List.replicate n.toNat c):=by
 unfold Txt.mul
 have hl:(tx [c]).length=1:=zf1 [c]
 by_cases h1:n<1
 ·rw[if_pos h1]
  have:n.toNat=0:=by omega
  rw[this];rfl
 ·rw[if_neg h1]
  by_cases h2:n=1
  ·subst h2
   rw[if_pos (by simp)];rfl
  ·rw[if_neg (by rw[hl];simp;omega),rep_fold]
   show(⟨_⟩:Str)=⟨_⟩
   congr 1
   show #[]++(List.replicate n.toNat [c]).flatten.toArray=_
   have e:∀m:Nat,(List.replicate m [c]).flatten=List.replicate m c:=fun m=>by
    induction m with
    |zero=>rfl
    |succ m ih=>rw[List.replicate_succ,List.flatten_cons,ih];rfl
   rw[e]
   simp
theorem ya5{xs:List V}{i:Int}{v:V}(h0:0≤i)(h:xs[i.toNat]? = some v):atI xs i=some v:=by
 have e:i=((i.toNat:Nat):Int):=by omega
 rw[e]
 exact zh0 h
theorem cut_tail(v:V)(vs:List V):cutV (v::vs) (some 1) none=vs:=by
 unfold cutV
 have e1:HT.sIx (v::vs).length 0 (some 1)=1:=by
  have h:=HT.sIx_nat (v::vs).length 0 1
  have h2:min 1 (v::vs).length=1:=by simp
  rw[h2] at h
  exact h
 rw[e1,HT.sIx_none]
 simp
theorem bl_tx:(Str.ofString " ")=tx [32]:=by decide +kernel
theorem em_tx:(Str.ofString "")=tx []:=by decide +kernel
structure MO(P:Program)(w:World)(K:PySem.W.Frag)(mg:Str→Option Value)(base:Heap)(C:Addr)(CX:CXT)(k:Nat)(f:Addr)(fd:FuncData)(m:Str)(ps:List Str)(sp:Sp):Prop where
 ok:FnOk P w K mg base CX k f fd ps sp
 b:Binds K fd ps []
 m:Meth K C m f
end Pq
namespace Pq
open PySem L2
abbrev Rows(H:Hp):List Addr→List (List Int)→Prop:=Paired fun a row=>H a=some (.lst (row.map V.int))
theorem Rows.mono{H H':Hp}(h:Same H H'){as:List Addr}{rows:List (List Int)}(r:Rows H as rows):Rows H' as rows:=Paired.mapP r fun _ _ e=>h _ _ e
theorem Rows.get{H:Hp}:∀ {as:List Addr} {rows:List (List Int)} {i:Nat} {v:V},Rows H as rows→(as.map V.ref)[i]? = some v→∃a row,v=.ref a∧rows[i]? = some row∧H a=some (.lst (row.map V.int))
 |_,_,_,_,.nil,e=>by simp at e
 |_,_,0,_,.cons r _,e=>by simp at e;subst e;exact⟨_,_,rfl,rfl,r⟩
 |_,_,i+1,v,.cons _ t,e=>by
  obtain⟨a,row,h1,h2,h3⟩:=Rows.get (i:=i) (v:=v) t (by simpa using e)
  exact⟨a,row,h1,by simpa using h2,h3⟩
theorem Rows.append{H:Hp}:∀ {as bs:List Addr} {xs ys:List (List Int)},Rows H as xs→Rows H bs ys→Rows H (as++bs) (xs++ys)
 |_,_,_,_,.nil,s=>s
 |_,_,_,_,.cons r t,s=>.cons r (Rows.append t s)
def RowsAt(H:Hp)(rr:Addr)(rows:List (List Int)):Prop:=∃as:List Addr,H rr=some (.lst (as.map V.ref))∧Rows H as rows
theorem RowsAt.mono{H H':Hp}(h:Same H H'){rr:Addr}{rows:List (List Int)}:RowsAt H rr rows→RowsAt H' rr rows:=fun⟨as,e,r⟩=>⟨as,h _ _ e,r.mono h⟩
theorem zj0{H H':Hp}{D:Addr}(h:Same H H')(n:H D=none)(o:HO):Same H (upd H' D o):=fun b u e=>by rw[za9 (za8 e n)];exact h b u e
theorem ze8{α:Type}{l:List α}{i:Nat}{x:α}(h:l[i]? = some x):l.take (i+1)=l.take i++[x]:=by
 rw[List.take_add_one,h];rfl
structure Grown(H1:Hp)(D:Addr)(rows:List (List Int))(H:Hp)(ys:List V):Prop where
 same:Same H1 H
 at_:H D=some (.lst ys)
 bs:∃bs:List Addr,ys=bs.map V.ref∧Rows H bs rows∧∀b∈bs,b≠D∧H1 b=none
theorem Grown.start{H1:Hp}{D:Addr}(n:H1 D=none):Grown H1 D [] (upd H1 D (.lst [])) []:=⟨za4 n _,za0,[],rfl,.nil,fun _ h=>nomatch h⟩
theorem zf9{α β:Type}{R:α→β→Prop}{as:List α}{bs:List β}(h:Paired R as bs):as.length=bs.length:=Paired.length h
theorem Grown.len{H1 H:Hp}{D:Addr}{rows:List (List Int)}{ys:List V}(g:Grown H1 D rows H ys):ys.length=rows.length:=by
 obtain⟨bs,rfl,r,_⟩:=g.bs
 rw[List.length_map,zf9 r]
theorem Rows.upd{H:Hp}{D:Addr}{o:HO}:∀ {bs:List Addr} {rows:List (List Int)},Rows H bs rows→(∀b∈bs,b≠D)→Rows (L2.upd H D o) bs rows
 |_,_,.nil,_=>.nil
 |_,_,.cons q t,nb=>.cons (by rw[za9 (nb _ List.mem_cons_self)];exact q) (Rows.upd t fun b hb=>nb b (List.mem_cons_of_mem _ hb))
theorem Grown.more{H1 H H5:Hp}{D p:Addr}{rows:List (List Int)}{ys:List V}{row:List Int}(g:Grown H1 D rows H ys)(n:H1 D=none)(s:Same H H5)(e:H5 p=some (.lst (row.map V.int)))(np:p≠D)(nf:H1 p=none):
  Grown H1 D (rows++[row]) (L2.upd H5 D (.lst (ys++[.ref p]))) (ys++[.ref p]):=by
 obtain⟨bs,rfl,r,nb⟩:=g.bs
 refine⟨zj0 (g.same.trans s) n _,za0,bs++[p],by rw[List.map_append];rfl,?_,fun b hb=>?_⟩
 ·exact Rows.append ((r.mono s).upd fun b hb=>(nb b hb).1) (.cons (by rw[za9 np];exact e) .nil)
 ·rcases List.mem_append.mp hb with z|z
  ·exact nb b z
  ·rw[List.mem_singleton.mp z];exact⟨np,nf⟩
theorem Grown.ext{H1 H H5:Hp}{D:Addr}{rows more:List (List Int)}{ys:List V}{cs:List Addr}(g:Grown H1 D rows H ys)(n:H1 D=none)(s:Same H H5)(e:Rows H5 cs more)(nc:∀b∈cs,b≠D∧H1 b=none):
  Grown H1 D (rows++more) (L2.upd H5 D (.lst (ys++cs.map V.ref))) (ys++cs.map V.ref):=by
 obtain⟨bs,rfl,r,nb⟩:=g.bs
 refine⟨zj0 (g.same.trans s) n _,za0,bs++cs,by rw[List.map_append],?_,fun b hb=>?_⟩
 ·exact Rows.append ((r.mono s).upd fun b hb=>(nb b hb).1) (e.upd fun b hb=>(nc b hb).1)
 ·rcases List.mem_append.mp hb with z|z
  ·exact nb b z
  ·exact nc b z
theorem comp_pre {K : PySem.W.Frag} {a D : Addr} {τ : St} {H1 : Hp} {Q : Hp → Prop} (c : Int) {rows : List (List Int)} {as : List Addr} (ha : H1 a = some (.lst (as.map V.ref))) (hr : Rows H1 as rows) (hz : rows.length ≤ 1000000) (hw : ∀ row ∈ rows, row.length ≤ 1000000) (hD : H1 D = none)
    (k : ∀ (bs : List Addr) (H' : Hp), Same H1 H' → H' D = some (.lst (bs.map V.ref)) → Rows H' bs (rows.map (c :: ·)) → (∀ b ∈ bs, b ≠ D ∧ H1 b = none) → Q H') :
    ∃ W : Nat → Nat → Hp → List V → Prop, (∃ m, W 0 m (upd H1 D (.lst [])) []) ∧ ∀ i m H' ys, W i m H' ys →
      ((Itl K a).stop i H' ∧ Q H') ∨ ((Itl K a).go i H' ∧ ∃ N : Hp → List V → Prop, (∀ H' ys', N H' ys' → ∃ m', m' < m ∧ W (i + 1) m' H' ys') ∧ ∀ x H2, (Itl K a).yld i H' x H2 → tNoIf (some x :: τ) H2 fun b H4 =>
        if b = true then tOp rCat (tLst (zp5 (tC (.int c)) tNil)) (tVar 0) (some x :: τ) H4 fun y H5 => H5 D = some (.lst ys) ∧ ys.length < sizeLine ∧ N (upd H5 D (.lst (ys ++ [y]))) (ys ++ [y])
        else N H4 ys) := by
  have hlen : (as.map V.ref).length = rows.length := by rw [List.length_map, zf9 hr]
  refine zx4 (xs := as.map V.ref) (fun i H ys => Grown H1 D ((rows.take i).map (c :: ·)) H ys) (Grown.start hD) (fun i H ys _ g => SqL.of (g.same _ _ ha)) (fun i x H ys hx g => ?_) (fun H ys g => ?_)
  · obtain ⟨ax, row, rfl, hrow, ex⟩ := hr.get hx
    have hi : i < rows.length := (List.getElem?_eq_some_iff.mp hrow).1
    have hm : row ∈ rows := List.mem_of_getElem? hrow
    refine ⟨(by show 1 ≤ sizeLine; decide), fun l hl => ⟨_, rfl, l, ax, _, _, rfl, rfl, za0, (za4 hl _) _ _ (g.same _ _ ex), zd2 (by rw [List.length_map]; have := hw row hm; show 1 + _ ≤ _; omega), fun p hp => ?_⟩⟩
    have s5 : Same H (upd (upd H l (.lst [.int c])) p (.lst ([V.int c] ++ row.map V.int))) := (za4 hl _).trans (za4 hp _)
    refine ⟨s5 _ _ g.at_, Nat.lt_of_lt_of_le (show ys.length < 1000001 by rw [g.len, List.length_map, List.length_take]; omega) (zd2 (by omega)), ?_⟩
    have e : (rows.take (i + 1)).map (c :: ·) = (rows.take i).map (c :: ·) ++ [c :: row] := by rw [ze8 hrow, List.map_append]; rfl
    rw [e]
    exact g.more hD s5 za0 (fun z => by rw [z, (za4 hl _) _ _ g.at_] at hp; cases hp) ((g.same.trans (za4 hl _)).free hp)
  · rw [hlen, List.take_length] at g
    obtain ⟨bs, e, r, nb⟩ := g.bs
    exact k bs H g.same (by rw [← e]; exact g.at_) r nb
theorem comp_post {K : PySem.W.Frag} {a b D : Addr} {H1 : Hp} {Q : Hp → Prop} {first : List Int} {rows : List (List Int)} {as : List Addr} (ha : H1 a = some (.lst (as.map V.ref))) (hb : H1 b = some (.lst (first.map V.int))) (hr : Rows H1 as rows) (hz : rows.length ≤ 1000000)
    (hf : first.length ≤ 1000000) (hw : ∀ row ∈ rows, row.length ≤ 1000000) (hD : H1 D = none)
    (k : ∀ (bs : List Addr) (H' : Hp), Same H1 H' → H' D = some (.lst (bs.map V.ref)) → Rows H' bs (rows.map (first ++ ·)) → (∀ b ∈ bs, b ≠ D ∧ H1 b = none) → Q H') :
    ∃ W : Nat → Nat → Hp → List V → Prop, (∃ m, W 0 m (upd H1 D (.lst [])) []) ∧ ∀ i m H' ys, W i m H' ys →
      ((Itl K a).stop i H' ∧ Q H') ∨ ((Itl K a).go i H' ∧ ∃ N : Hp → List V → Prop, (∀ H' ys', N H' ys' → ∃ m', m' < m ∧ W (i + 1) m' H' ys') ∧ ∀ x H2, (Itl K a).yld i H' x H2 → tNoIf (some x :: [some (.ref b)]) H2 fun b' H4 =>
        if b' = true then tOp rCat (tVar 1) (tVar 0) (some x :: [some (.ref b)]) H4 fun y H5 => H5 D = some (.lst ys) ∧ ys.length < sizeLine ∧ N (upd H5 D (.lst (ys ++ [y]))) (ys ++ [y])
        else N H4 ys) := by
  have hlen : (as.map V.ref).length = rows.length := by rw [List.length_map, zf9 hr]
  refine zx4 (xs := as.map V.ref) (fun i H ys => Grown H1 D ((rows.take i).map (first ++ ·)) H ys) (Grown.start hD) (fun i H ys _ g => SqL.of (g.same _ _ ha)) (fun i x H ys hx g => ?_) (fun H ys g => ?_)
  · obtain ⟨ax, row, rfl, hrow, ex⟩ := hr.get hx
    have hi : i < rows.length := (List.getElem?_eq_some_iff.mp hrow).1
    have hm : row ∈ rows := List.mem_of_getElem? hrow
    refine ⟨_, rfl, _, rfl, b, ax, _, _, rfl, rfl, g.same _ _ hb, g.same _ _ ex, zd2 (by rw [List.length_map, List.length_map]; have := hw row hm; omega), fun p hp => ?_⟩
    have s5 : Same H (upd H p (.lst (first.map V.int ++ row.map V.int))) := za4 hp _
    refine ⟨s5 _ _ g.at_, Nat.lt_of_lt_of_le (show ys.length < 1000001 by rw [g.len, List.length_map, List.length_take]; omega) (zd2 (by omega)), ?_⟩
    have e : (rows.take (i + 1)).map (first ++ ·) = (rows.take i).map (first ++ ·) ++ [first ++ row] := by rw [ze8 hrow, List.map_append]; rfl
    rw [e]
    exact g.more hD s5 (by rw [za0, List.map_append]) (fun z => by rw [z, g.at_] at hp; cases hp) (g.same.free hp)
  · rw [hlen, List.take_length] at g
    obtain ⟨bs, e, r, nb⟩ := g.bs
    exact k bs H g.same (by rw [← e]; exact g.at_) r nb
def del(H:Hp)(D:Addr):Hp:=fun b=>if b=D then none else H b
theorem del_at{H:Hp}{D:Addr}:del H D D=none:=by unfold del;rw[if_pos rfl]
theorem yg0{H:Hp}{D b:Addr}(h:b≠D):del H D b=H b:=by unfold del;rw[if_neg h]
theorem del_same{H:Hp}{D:Addr}:Same (del H D) H:=fun b o e=>by
 by_cases h:b=D
 ·rw[h,del_at] at e;cases e
 ·rw[yg0 h] at e;exact e
def RowsNew(H H':Hp)(rr:Addr)(rows:List (List Int)):Prop:=∃as:List Addr,H' rr=some (.lst (as.map V.ref))∧Rows H' as rows∧H rr=none∧∀a∈as,H a=none
def yc9:Nat→Sp
 |0=>fun _ _ _ _=>False
 |n+1=>fun vs H Q _=>∃(r:Addr) (p:Plan),vs=[.ref r]∧PlanAt H p r∧p.deep≤n∧p.sides.length≤100000∧p.size≤100000∧∀(rr:Addr) (H':Hp),Same H H'→RowsNew H H' rr p.sides→Q (.ref rr) H'
theorem zr1{X:Cx}{scope:Scope}{x:Str}(hn:∀y∈scope.names,y.2≠.free∧y.2≠.cell)(hk:scope.kind=.function)(hx:scope.names.lookup x=some .local)(hl:∀y∈scope.names,y.2=.local→scope.names.lookup y.1=some .local):
  CompScope X scope [] x [] []:=by
 refine⟨closureFor_none fun y hy=>(hn y hy).1,(fun _ _ h=>nomatch h),fun y hy=>(hn y hy).2,hk,hl,hx,(by simp),fun y h=>?_,rfl,fun k j h=>(by cases h)⟩
 have e:(relabel scope X.env).names=scope.names:=by
  show scope.names.map _=scope.names
  refine map_eq_self fun y hy=>?_
  obtain⟨n,k⟩:=y
  have h1:(k==NameKind.free)=false:=beq_eq_false_iff_ne.mpr (hn _ hy).1
  simp[h1]
 rw[e] at h
 rcases h with h|h
 ·exact absurd rfl (hn _ (PySem.mem_of_lookup h)).2
 ·exact absurd rfl (hn _ (PySem.mem_of_lookup h)).1
theorem zd5{α β:Type}{R:α→β→Prop}:∀ {as bs:List α} {xs ys:List β},Paired R as xs→Paired R bs ys→Paired R (as++bs) (xs++ys)
 |_,_,_,_,.nil,s=>s
 |_,_,_,_,.cons r t,s=>.cons r (zd5 t s)
theorem zh9{α β:Type}{R:α→β→Prop}{y:β}:∀ {ys:List β} {xs:List α},Paired R xs (ys++[y])→∃zs x,xs=zs++[x]∧Paired R zs ys∧R x y
 |[],_,h=>by
  cases h with
  |cons r t=>cases t;exact⟨[],_,rfl,.nil,r⟩
 |_::ys,_,h=>by
  cases h with
  |cons r t=>
   obtain⟨zs,x,e,q,rx⟩:=zh9 (ys:=ys) t
   exact⟨_::zs,x,by rw[e];rfl,.cons r q,rx⟩
theorem zc6{H:Hp}{D:Addr}{xs:List V}{o:HO}(h:H D=some (.lst xs)):Tups H (upd H D o):=fun b ys e=>by rw[za9 (ze5 e h (by intro z;cases z))];exact e
end Pq
namespace L2
open PySem PySem.Spec PyProof.Rows
section
variable {κ:Type}[DecidableEq κ]
def ya6(kvs:List (κ×V))(k:κ):Option V:=(kvs.find? fun kv=>decide (kv.1=k)).map (·.2)
def yj1(kvs:List (κ×V))(k:κ)(v:V):List (κ×V):=
 if(kvs.any fun kv=>decide (kv.1=k))=true then kvs.map (fun kv=>if kv.1=k then(kv.1,v) else kv) else kvs++[(k,v)]
def dropK(kvs:List (κ×V))(k:κ):List (κ×V):=kvs.filter fun kv=>decide (kv.1≠k)
theorem zv7{p:κ×V}{r:List (κ×V)}{k:κ}(e:p.1=k):ya6 (p::r) k=some p.2:=by simp[ya6,List.find?_cons,e]
theorem zp4{p:κ×V}{r:List (κ×V)}{k:κ}(e:¬p.1=k):ya6 (p::r) k=ya6 r k:=by simp[ya6,List.find?_cons,e]
theorem yl1(k:κ):∀kvs:List (κ×V),(kvs.any fun kv=>decide (kv.1=k))=(ya6 kvs k).isSome
 |[]=>rfl
 |p::r=>by
  rw[List.any_cons]
  by_cases e:p.1=k
  ·simp only[zv7 e,decide_eq_true e,Bool.true_or,Option.isSome_some]
  ·rw[zp4 e,decide_eq_false e,Bool.false_or];exact yl1 k r
theorem zv0(kvs:List (κ×V))(k:κ)(v:V):(yj1 kvs k v).length≤kvs.length+1:=by
 unfold yj1
 split
 ·rw[List.length_map];omega
 ·rw[List.length_append,List.length_cons,List.length_nil];omega
theorem putK_new{kvs:List (κ×V)}{k:κ}(v:V)(h:ya6 kvs k=none):yj1 kvs k v=kvs++[(k,v)]:=by
 unfold yj1
 rw[yl1,h]
 exact if_neg (by decide)
theorem RelO.isSome_eq{o:Option V}{u:Option Value}(r:RelO o u):o.isSome=u.isSome:=by
 cases o with
 |none=>cases u with
  |none=>rfl
  |some _=>exact(show False from r).elim
 |some _=>cases u with
  |none=>exact(show False from r).elim
  |some _=>rfl
theorem RelO.getD{o:Option V}{u:Option Value}{d:V}{d':Value}(r:RelO o u)(rd:RelV d d'):RelV (o.getD d) (u.getD d'):=by
 cases o with
 |none=>cases u with
  |none=>exact rd
  |some _=>exact(show False from r).elim
 |some _=>cases u with
  |none=>exact(show False from r).elim
  |some _=>exact r
theorem KV.val{kvs:List (κ×V)}{vs:List (κ×Value)}(r:KV kvs vs)(k:κ):RelO (ya6 kvs k) (valueAt vs k):=by
 unfold KV at r
 induction r with
 |nil=>exact True.intro
 |@cons p q ps qs h t ih=>
  obtain⟨h1,h2⟩:=h
  by_cases e:p.1=k
  ·have e':q.1=k:=h1.symm.trans e
   have b:valueAt (q::qs) k=some q.2:=by simp[valueAt,List.find?_cons,e']
   rw[zv7 e,b];exact h2
  ·have e':¬q.1=k:=fun z=>e (h1.trans z)
   have b:valueAt (q::qs) k=valueAt qs k:=by simp[valueAt,List.find?_cons,e']
   rw[zp4 e,b];exact ih
theorem KV.any{kvs:List (κ×V)}{vs:List (κ×Value)}(r:KV kvs vs)(k:κ):(kvs.any fun kv=>decide (kv.1=k))=vs.any fun kv=>decide (kv.1=k):=by
 unfold KV at r
 induction r with
 |nil=>rfl
 |cons h t ih=>rw[List.any_cons,List.any_cons,ih,h.1]
theorem KV.repl{kvs:List (κ×V)}{vs:List (κ×Value)}(r:KV kvs vs)(k:κ){y:V}{u:Value}(ry:RelV y u):
  KV (kvs.map fun kv=>if kv.1=k then(kv.1,y) else kv) (vs.map fun kv=>if kv.1=k then(kv.1,u) else kv):=by
 unfold KV at r ⊢
 induction r with
 |nil=>exact .nil
 |@cons p q ps qs h t ih=>
  rw[List.map_cons,List.map_cons]
  refine .cons ?_ ih
  obtain⟨h1,h2⟩:=h
  by_cases e:p.1=k
  ·rw[if_pos e,if_pos (h1.symm.trans e)];exact⟨h1,ry⟩
  ·rw[if_neg e,if_neg (fun z=>e (h1.trans z))];exact⟨h1,h2⟩
theorem KV.put{kvs:List (κ×V)}{vs:List (κ×Value)}(r:KV kvs vs)(k:κ){y:V}{u:Value}(ry:RelV y u):KV (yj1 kvs k y) (stored vs k u):=by
 unfold yj1 stored
 rw[r.any k]
 by_cases e:(vs.any fun kv=>decide (kv.1=k))=true
 ·rw[if_pos e,if_pos e];exact r.repl k ry
 ·rw[if_neg e,if_neg e];exact Paired.snoc r ⟨rfl,ry⟩
theorem KV.drop{kvs:List (κ×V)}{vs:List (κ×Value)}(r:KV kvs vs)(k:κ):KV (dropK kvs k) (without vs k):=by
 unfold KV at r ⊢
 unfold dropK without
 induction r with
 |nil=>exact .nil
 |@cons p q ps qs h t ih=>
  obtain⟨h1,h2⟩:=h
  rw[List.filter_cons,List.filter_cons]
  by_cases e:p.1=k
  ·have a:¬decide (p.1≠k)=true:=by simp[e]
   have b:¬decide (q.1≠k)=true:=by simp[h1.symm.trans e]
   rw[if_neg a,if_neg b];exact ih
  ·have e':¬q.1=k:=fun z=>e (h1.trans z)
   have a:decide (p.1≠k)=true:=by simp[e]
   have b:decide (q.1≠k)=true:=by simp[e']
   rw[if_pos a,if_pos b];exact .cons ⟨h1,h2⟩ ih
theorem KV.keys{kvs:List (κ×V)}{vs:List (κ×Value)}(r:KV kvs vs):kvs.map (·.1)=vs.map (·.1):=by
 unfold KV at r
 induction r with
 |nil=>rfl
 |cons h t ih=>rw[List.map_cons,List.map_cons,ih,h.1]
theorem KV.length{kvs:List (κ×V)}{vs:List (κ×Value)}(r:KV kvs vs):kvs.length=vs.length:=Paired.length r
end
theorem kV_is{P:Program}{w:World}{k:Key}{u:Value}(r:RelV (kV k) u):(ze2 P w).is k u=true:=by
 cases k with
 |inl i=>obtain⟨t,e⟩:=(show ∃t,u=Value.int i t from r);subst e;exact mixKind_int P w i t
 |inr x=>obtain⟨t,e⟩:=(show ∃t,u=Value.str x t from r);subst e;exact zu9 P w x t
theorem items_are{P:Program}{w:World}:∀ {ks:List Key} {us:List Value},Vals (ks.map kV) us→ItemsAre (ze2 P w) ks us
 |[],_,r=>by rw[List.map_nil] at r;cases r;exact .nil
 |k::ks,_,r=>by
  rw[List.map_cons] at r
  cases r with
  |cons h t=>exact .cons (kV_is h) (items_are t)
abbrev KT(H:Hp):List (List Key×V)→List (List Key×Addr×Value)→Prop:=Paired fun p q=>p.1=q.1∧H q.2.1=some (.tup (p.1.map kV))∧RelV p.2 q.2.2
theorem KT.val{H:Hp}{kvs:List (List Key×V)}{xs:List (List Key×Addr×Value)}(r:KT H kvs xs)(k:List Key):RelO (ya6 kvs k) ((atKey xs k).map (·.2)):=by
 induction r with
 |nil=>exact True.intro
 |@cons p q ps qs h t ih=>
  obtain⟨h1,_,h2⟩:=h
  by_cases e:p.1=k
  ·have e':q.1=k:=h1.symm.trans e
   have b:atKey (q::qs) k=some q.2:=by simp[atKey,List.find?_cons,e']
   rw[zv7 e,b];exact h2
  ·have e':¬q.1=k:=fun z=>e (h1.trans z)
   have b:atKey (q::qs) k=atKey qs k:=by simp[atKey,List.find?_cons,e']
   rw[zp4 e,b];exact ih
theorem KT.repl{H:Hp}{kvs:List (List Key×V)}{xs:List (List Key×Addr×Value)}(r:KT H kvs xs)(k:List Key){y:V}{u:Value}(ry:RelV y u):
  KT H (kvs.map fun kv=>if kv.1=k then(kv.1,y) else kv) (xs.map (putAt k u)):=by
 induction r with
 |nil=>exact .nil
 |@cons p q ps qs h t ih=>
  rw[List.map_cons,List.map_cons]
  refine .cons ?_ ih
  obtain⟨h1,h2,h3⟩:=h
  unfold putAt
  by_cases e:p.1=k
  ·rw[if_pos e,if_pos (h1.symm.trans e)];exact⟨h1,h2,ry⟩
  ·rw[if_neg e,if_neg (fun z=>e (h1.trans z))];exact⟨h1,h2,h3⟩
theorem KT.put{H:Hp}{kvs:List (List Key×V)}{xs:List (List Key×Addr×Value)}(r:KT H kvs xs)(k:List Key){b:Addr}{y:V}{u:Value}(hb:H b=some (.tup (k.map kV)))(ry:RelV y u):
  KT H (yj1 kvs k y) (storedH xs k b u):=by
 have e:(kvs.any fun kv=>decide (kv.1=k))=(atKey xs k).isSome:=by
  rw[yl1,(r.val k).isSome_eq,Option.isSome_map]
 unfold yj1 storedH
 rw[e]
 by_cases q:(atKey xs k).isSome=true
 ·rw[if_pos q,if_pos q];exact r.repl k ry
 ·rw[if_neg q,if_neg q];exact Paired.snoc r ⟨rfl,hb,ry⟩
theorem KT.keeps{H H':Hp}{kvs:List (List Key×V)}{xs:List (List Key×Addr×Value)}(r:KT H kvs xs)(ht:∀b ys,H b=some (.tup ys)→H' b=some (.tup ys)):KT H' kvs xs:=
 Paired.mapP r fun _ _ z=>⟨z.1,ht _ _ z.2.1,z.2.2⟩
section
variable {P:Program}{w:World}{H:Hp}{h:Heap}{a:Addr}
theorem rd_of{u:HO}(ok:HOk P w H h)(e:Rd H a u):ObjOk P w H h a u:=e.ok ok
theorem yh4{kvs:List (Key×V)}(ok:HOk P w H h)(e:Rd H a (.dK kvs)):kvs.length≤sizeLine∧(a==sysModules)=false∧∃vs,KV kvs vs∧h.DictOf (ze2 P w) a vs:=
 show ObjOk P w H h a (.dK kvs) from rd_of ok e
theorem dk_of{kvs:List (Key×V)}(ok:HOk P w H h)(e:H a=some (.dK kvs)):kvs.length≤sizeLine∧(a==sysModules)=false∧∃vs,KV kvs vs∧h.DictOf (ze2 P w) a vs:=yh4 ok (.inl e)
theorem key_of{ks:List Key}(ok:HOk P w H h)(e:H a=some (.tup (ks.map kV))):(tupleKind (ze2 P w)).is h ks a:=by
 obtain⟨_,its,r,o,h1,h2,n,h3⟩:=(show ObjOk P w H h a (.tup (ks.map kV)) from ok a _ e)
 exact⟨o,its.toArray,n,h1,h2,h3,by simpa using items_are r⟩
theorem dt_rd{kvs:List (List Key×V)}(ok:HOk P w H h)(e:Rd H a (.dT kvs)):kvs.length≤sizeLine∧(a==sysModules)=false∧
  ∃xs,KT H kvs xs∧h.DictOfH (tupleKind (ze2 P w)) a xs:=by
 obtain⟨z,y,xs,r,o,es,ep,h1,h2,h3,h4,h5⟩:=(show ObjOk P w H h a (.dT kvs) from rd_of ok e)
 refine⟨z,y,xs,r,o,es,ep,h1,h2,h3,h4,fun x hx=>?_,h5⟩
 have all:∀ {l:List (List Key×V)} {m:List (List Key×Addr×Value)},KT H l m→∀x∈m,(tupleKind (ze2 P w)).is h x.1 x.2.1:=by
  intro l m q
  induction q with
  |nil=>intro x hx;exact nomatch hx
  |@cons p q ps qs hq t ih=>
   intro x hx
   rcases List.mem_cons.mp hx with e|hx
   ·subst e
    exact key_of ok (by rw[←hq.1];exact hq.2.1)
   ·exact ih x hx
 exact all r x hx
theorem dt_of{kvs:List (List Key×V)}(ok:HOk P w H h)(e:H a=some (.dT kvs)):kvs.length≤sizeLine∧(a==sysModules)=false∧
  ∃xs,KT H kvs xs∧h.DictOfH (tupleKind (ze2 P w)) a xs:=dt_rd ok (.inl e)
end
def DGet(H:Hp)(a:Addr)(y:V)(r:Option V):Prop:=
 (∃kvs k,Rd H a (.dK kvs)∧y=kV k∧r=ya6 kvs k)∨∃kvs k b,Rd H a (.dT kvs)∧y=.ref b∧H b=some (.tup (k.map kV))∧r=ya6 kvs k
def DPut(H:Hp)(a:Addr)(y v:V)(H':Hp):Prop:=
 (∃kvs k,H a=some (.dK kvs)∧y=kV k∧kvs.length<sizeLine∧H'=upd H a (.dK (yj1 kvs k v)))∨
 ∃kvs k b,H a=some (.dT kvs)∧y=.ref b∧H b=some (.tup (k.map kV))∧kvs.length<sizeLine∧H'=upd H a (.dT (yj1 kvs k v))
theorem DGet.k{H:Hp}{a:Addr}{kvs:List (Key×V)}{k:Key}(e:H a=some (.dK kvs)):DGet H a (kV k) (ya6 kvs k):=.inl ⟨kvs,k,.inl e,rfl,rfl⟩
theorem DGet.t{H:Hp}{a b:Addr}{kvs:List (List Key×V)}{k:List Key}(e:H a=some (.dT kvs))(eb:H b=some (.tup (k.map kV))):DGet H a (.ref b) (ya6 kvs k):=.inr ⟨kvs,k,b,.inl e,rfl,eb,rfl⟩
theorem DPut.k{H:Hp}{a:Addr}{kvs:List (Key×V)}{k:Key}{v:V}(e:H a=some (.dK kvs))(hl:kvs.length<sizeLine):DPut H a (kV k) v (upd H a (.dK (yj1 kvs k v))):=.inl ⟨kvs,k,e,rfl,hl,rfl⟩
theorem DPut.t{H:Hp}{a b:Addr}{kvs:List (List Key×V)}{k:List Key}{v:V}(e:H a=some (.dT kvs))(eb:H b=some (.tup (k.map kV)))(hl:kvs.length<sizeLine):
  DPut H a (.ref b) v (upd H a (.dT (yj1 kvs k v))):=.inr ⟨kvs,k,b,e,rfl,eb,hl,rfl⟩
section
variable {X:Cx}{pins:List (Addr×Obj)}{σ:St}{H:Hp}{s:Shared}{a:Addr}{y v:V}{u r:Value}{o:Option V}{A:Around}{E:Value→Shared→Prop}
theorem Inv.big(I:Inv X pins σ H s):sysModules<s.heap.objs.size:=by
 have h:mainGlobals<s.heap.objs.size:=(I.mod.glob.keeps I.bk).lt
 exact Nat.lt_trans (by decide) h
theorem d_getItem{Q:Value→Shared→Prop}(hu:A.units+1<cLine)(I:Inv X pins σ H s)(g:DGet H a y (some v))(ry:RelV y u)(h:∀w' s',Inv X pins σ H s'→RelV v w'→Q w' s'):
  wpAny (model X.prog X.w) A (getItem (.ref a) u) Q E s:=by
 rcases g with⟨kvs,k,e,ey,l⟩|⟨kvs,k,b,e,ey,eb,l⟩
 ·subst ey
  obtain⟨z,hd,vs,rel,dd⟩:=yh4 I.hok e
  obtain⟨w',hw,rw'⟩:=RelO.some_of (v:=v) (o:=valueAt vs k) (by rw[l];exact rel.val k)
  exact wpAny_getItem_of (kV_is ry) dd.mapOf hw (h w' _ (I.tok _) rw')
 ·subst ey
  cases(show u=Value.ref b from ry)
  obtain⟨z,hd,xs,rel,dd⟩:=dt_rd I.hok e
  obtain⟨w',hw,rw'⟩:=RelO.some_of (v:=v) (o:=(atKey xs k).map (·.2)) (by rw[l];exact rel.val k)
  obtain⟨p,hp,hp2⟩:=Option.map_eq_some_iff.mp hw
  refine wpAny_getItem_heap (tupleKind_room_in1 hu) (key_of I.hok eb) dd hp ?_
  rw[hp2]
  exact h w' _ (I.tok _) rw'
theorem d_in{Q:Value→Shared→Prop}(hu:A.units+1<cLine)(I:Inv X pins σ H s)(g:DGet H a y o)(ry:RelV y u)(h:∀s',Inv X pins σ H s'→Q (.bool o.isSome) s'):
  wpAny (model X.prog X.w) A (compareOp .In u (.ref a)) Q E s:=by
 rcases g with⟨kvs,k,e,ey,l⟩|⟨kvs,k,b,e,ey,eb,l⟩
 ·subst ey
  obtain⟨z,hd,vs,rel,dd⟩:=yh4 I.hok e
  refine wpAny_in_of (kV_is ry) hd dd.mapOf ?_
  rw[←(rel.val k).isSome_eq,←l]
  exact h _ (I.tok _)
 ·subst ey
  cases(show u=Value.ref b from ry)
  obtain⟨z,hd,xs,rel,dd⟩:=dt_rd I.hok e
  refine wpAny_in_heap (tupleKind_room_in1 hu) (key_of I.hok eb) hd dd ?_
  have q:=(rel.val k).isSome_eq
  rw[Option.isSome_map] at q
  rw[←q,←l]
  exact h _ (I.tok _)
theorem d_notIn{Q:Value→Shared→Prop}(hu:A.units+1<cLine)(I:Inv X pins σ H s)(g:DGet H a y o)(ry:RelV y u)(h:∀s',Inv X pins σ H s'→Q (.bool (!o.isSome)) s'):
  wpAny (model X.prog X.w) A (compareOp .NotIn u (.ref a)) Q E s:=by
 rcases g with⟨kvs,k,e,ey,l⟩|⟨kvs,k,b,e,ey,eb,l⟩
 ·subst ey
  obtain⟨z,hd,vs,rel,dd⟩:=yh4 I.hok e
  refine wpAny_notIn_of (kV_is ry) hd dd.mapOf ?_
  rw[←(rel.val k).isSome_eq,←l]
  exact h _ (I.tok _)
 ·subst ey
  cases(show u=Value.ref b from ry)
  obtain⟨z,hd,xs,rel,dd⟩:=dt_rd I.hok e
  refine wpAny_notIn_heap (tupleKind_room_in1 hu) (key_of I.hok eb) hd dd ?_
  have q:=(rel.val k).isSome_eq
  rw[Option.isSome_map] at q
  rw[←q,←l]
  exact h _ (I.tok _)
theorem d_write{h':Heap}{t':Nat}{ob:HO}(I:Inv X pins σ H s)(mu:Mut (H a))(hs:Heap.SameBut a s.heap h')(he:∃q,h'.get? a=some q)(new:ObjOk X.prog X.w (upd H a ob) h' a ob):
  Inv X pins σ (upd H a ob) { s with heap:=h',toks:=t' }:=
 I.write (x:=a) (e:=a) mu (.inl rfl) (fun b q hb z=>(hs.2 b hb).trans z) he new
theorem dk_new{P:Program}{w:World}{H':Hp}{h':Heap}{kvs:List (Key×V)}{vs:List (Key×Value)}(z:kvs.length≤sizeLine)(hd:(a==sysModules)=false)(rel:KV kvs vs)(dd:h'.DictOf (ze2 P w) a vs):
  ObjOk P w H' h' a (.dK kvs):=⟨z,hd,vs,rel,dd⟩
theorem d_setItem{H':Hp}{Q:Unit→Shared→Prop}(hu:A.units+1<cLine)(I:Inv X pins σ H s)(g:DPut H a y v H')(ry:RelV y u)(rv:RelV v r)(h:∀s',Inv X pins σ H' s'→Q () s'):
  wpAny (model X.prog X.w) A (setItem (.ref a) u r) Q E s:=by
 rcases g with⟨kvs,k,e,ey,l,eH⟩|⟨kvs,k,b,e,ey,eb,l,eH⟩
 ·subst ey eH
  obtain⟨z,hd,vs,rel,dd⟩:=dk_of I.hok e
  have hz:vs.length≤sizeLine:=by rw[←rel.length];exact z
  have hl:(yj1 kvs k v).length≤sizeLine:=by have:=zv0 kvs k v;omega
  refine wpAny_setItem_pairs (hsz:=hz) (kV_is ry) dd fun h' dd' hs=>h _ ?_
  have he:∃q,h'.get? a=some q:=let ⟨q,_,_,hq,_⟩:=dd';⟨q,hq⟩
  exact d_write I (by rw[e];exact True.intro) hs he (dk_new hl hd (rel.put k rv) dd')
 ·subst ey eH
  cases(show u=Value.ref b from ry)
  obtain⟨z,hd,xs,rel,dd⟩:=dt_of I.hok e
  have hz:xs.length≤sizeLine:=by rw[←Paired.length rel];exact z
  have hl:(yj1 kvs k v).length≤sizeLine:=by have:=zv0 kvs k v;omega
  refine wpAny_setItem_heap (hsz:=hz) (tupleKind_room_in1 hu) (key_of I.hok eb) dd fun h' dd' hs=>h _ ?_
  obtain⟨q,es,ep,hq,h2,h3,h4,_,h5⟩:=dd'
  refine d_write I (by rw[e];exact True.intro) hs ⟨q,hq⟩ ⟨hl,hd,_,(rel.put k eb rv).keeps fun c ys ec=>?_,q,es,ep,hq,h2,h3,h4,h5⟩
  rw[za9 (ze5 ec e (fun z=>nomatch z))]
  exact ec
end
theorem dict_typeIs{X:Cx}{pins:List (Addr×Obj)}{σ:St}{H:Hp}{s:Shared}{a:Addr}{y:V}{o:Option V}(I:Inv X pins σ H s)(g:DGet H a y o):s.TypeIs (.ref a) "dict":=by
 rcases g with⟨kvs,k,e,_,_⟩|⟨kvs,k,b,e,_,_,_⟩
 ·obtain⟨_,_,vs,_,dd⟩:=yh4 I.hok e
  exact dd.typeIs
 ·obtain⟨_,_,xs,_,dd⟩:=dt_rd I.hok e
  exact dd.typeIs
def tDGet(td ty:TE):TE:=fun σ H Q=>td σ H fun x H1=>ty σ H1 fun y H2=>∃a v,x=.ref a∧DGet H2 a y (some v)∧Q v H2
def tDIn(ty td:TE):TE:=fun σ H Q=>ty σ H fun y H1=>td σ H1 fun x H2=>∃a o,x=.ref a∧DGet H2 a y o∧Q (.bl o.isSome) H2
def tDNotIn(ty td:TE):TE:=fun σ H Q=>ty σ H fun y H1=>td σ H1 fun x H2=>∃a o,x=.ref a∧DGet H2 a y o∧Q (.bl (!o.isSome)) H2
def sDPut(td ty tv:TE):TS:=fun D σ H=>tv σ H fun v H1=>td σ H1 fun x H2=>ty σ H2 fun y H3=>∃a H4,x=.ref a∧DPut H3 a y v H4∧D.nx σ H4
section
variable {X:Cx}{o i e value:Expr}{pos pos' tpos:Pos}{td ty tv:TE}
theorem pe_dget(hu:X.A.units+1<cLine)(ho:PE X o td)(hi:PE X i ty)(hs:NoSl i):PE X (.Subscript o i pos) (tDGet td ty):=by
 intro pins s σ H Q I h
 refine subD_of PySem.F.slot_dict_getitem.lookup hs (thn (ho pins s σ H _ I h) fun u s1 ⟨x,H1,I1,rx,q1⟩=>thn (hi pins s1 σ H1 _ I1 q1) fun iv s2 ⟨y,H2,I2,ry,a,v,ex,g,q2⟩=>?_)
 subst ex
 obtain rfl:u=Value.ref a:=rx
 exact⟨dict_typeIs I2 g,d_getItem hu I2 g ry fun w' s3 I3 rw'=>⟨v,H2,I3,rw',q2⟩⟩
theorem pc_din(hu:X.A.units+1<cLine)(hi:PE X i ty)(ho:PE X o td):PC X .In i o (tDIn ty td):=by
 intro pins s σ H Q I h
 refine thn (hi pins s σ H _ I h) fun iv s1 ⟨y,H1,I1,ry,q1⟩=>thn (ho pins s1 σ H1 _ I1 q1) fun u s2 ⟨x,H2,I2,rx,a,ov,ex,g,q2⟩=>?_
 subst ex
 obtain rfl:u=Value.ref a:=rx
 exact d_in hu I2 g ry fun s3 I3=>⟨.bl ov.isSome,H2,I3,rfl,q2⟩
theorem pc_dnotin(hu:X.A.units+1<cLine)(hi:PE X i ty)(ho:PE X o td):PC X .NotIn i o (tDNotIn ty td):=by
 intro pins s σ H Q I h
 refine thn (hi pins s σ H _ I h) fun iv s1 ⟨y,H1,I1,ry,q1⟩=>thn (ho pins s1 σ H1 _ I1 q1) fun u s2 ⟨x,H2,I2,rx,a,ov,ex,g,q2⟩=>?_
 subst ex
 obtain rfl:u=Value.ref a:=rx
 exact d_notIn hu I2 g ry fun s3 I3=>⟨.bl (!ov.isSome),H2,I3,rfl,q2⟩
theorem ps_dput(hu:X.A.units+1<cLine)(ho:PE X o td)(hi:PE X i ty)(hv:PE X value tv)(hs:swapsWith value (some (.Subscript o i pos')) pos.line X.env=pure false):
  PS X (.Assign [.Subscript o i pos'] value pos) (sDPut td ty tv):=by
 intro pins s σ H D I h
 refine wpAny_Assign_Subscript (thn (hv pins s σ H _ I h) fun r s1 ⟨v,H1,I1,rv,q1⟩=>thn (ho pins s1 σ H1 _ I1 q1) fun u s2 ⟨x,H2,I2,rx,q2⟩=>thn (hi pins s2 σ H2 _ I2 q2) fun iv s3 ⟨y,H3,I3,ry,a,H4,ex,g,q3⟩=>?_) hs
 subst ex
 obtain rfl:u=Value.ref a:=rx
 exact d_setItem hu I3 g ry rv fun s4 I4=>⟨σ,H4,I4,q3⟩
end
theorem dk_empty{P:Program}{w:World}{H:Hp}(h:Heap)(hb:sysModules<h.objs.size):ObjOk P w H (h.push { cls:=.type "dict",data:=.dict #[] }) h.objs.size (.dK []):=
 ⟨Nat.zero_le _,beq_eq_false_iff_ne.mpr (Ne.symm (Nat.ne_of_lt hb)),[],.nil,Heap.DictOf.new h⟩
theorem dt_empty{P:Program}{w:World}{H:Hp}(h:Heap)(hb:sysModules<h.objs.size):ObjOk P w H (h.push { cls:=.type "dict",data:=.dict #[] }) h.objs.size (.dT []):=
 ⟨Nat.zero_le _,beq_eq_false_iff_ne.mpr (Ne.symm (Nat.ne_of_lt hb)),[],.nil,_, #[],0,Heap.get?_push_size _ rfl,⟨rfl,rfl,rfl⟩,rfl,rfl,List.nodup_nil⟩
def tDNewK:TE:=fun _ H Q=>∀p,H p=none→Q (.ref p) (upd H p (.dK []))
def tDNewT:TE:=fun _ H Q=>∀p,H p=none→Q (.ref p) (upd H p (.dT []))
section
variable {X:Cx}{pos:Pos}
theorem pe_dnewK:PE X (.Dict [] [] pos) tDNewK:=fun pins s σ H Q I h=>
 wpAny_Dict_empty ⟨.ref s.heap.objs.size,_,I.laid (a:=s.heap.objs.size) (o:=.dK []) (t':=s.toks) (fun _ _ q=>Heap.get?_push_of_some _ q) (Nat.le_refl _) (dk_empty s.heap I.big),rfl,h _ (I.hok.fresh (Nat.le_refl _))⟩
theorem pe_dnewT:PE X (.Dict [] [] pos) tDNewT:=fun pins s σ H Q I h=>
 wpAny_Dict_empty ⟨.ref s.heap.objs.size,_,I.laid (a:=s.heap.objs.size) (o:=.dT []) (t':=s.toks) (fun _ _ q=>Heap.get?_push_of_some _ q) (Nat.le_refl _) (dt_empty s.heap I.big),rfl,h _ (I.hok.fresh (Nat.le_refl _))⟩
end
def tPairs:List (TE×TE)→St→Hp→(List (V×V)→Hp→Prop)→Prop
 |[],_,H,Q=>Q [] H
 |(tk,tv)::r,σ,H,Q=>tk σ H fun x H1=>tv σ H1 fun y H2=>tPairs r σ H2 fun ps H3=>Q ((x,y)::ps) H3
abbrev VV:List (V×V)→List (Value×Value)→Prop:=Paired fun p q=>RelV p.1 q.1∧RelV p.2 q.2
def PPs(X:Cx)(pos:Pos)(keys:List (Option Expr))(values:List Expr)(trs:List (TE×TE)):Prop:=
 ∀(pins:List (Addr×Obj)) (s:Shared) (σ:St) (H:Hp) (Q:List (V×V)→Hp→Prop),Inv X pins σ H s→tPairs trs σ H Q→
  wpAny (model X.prog X.w) X.A (evalPairs (pairTrees keys values X.env pos)) (fun vs s'=>∃ps H',Inv X pins σ H' s'∧VV ps vs∧Q ps H') X.xe s
theorem pps_nil{X:Cx}{pos:Pos}:PPs X pos [] [] []:=fun pins s σ H Q I h=>pairTrees_nil_walk ⟨[],H,I,.nil,h⟩
theorem pps_cons{X:Cx}{pos:Pos}{k v:Expr}{ks:List (Option Expr)}{vs:List Expr}{tk tv:TE}{trs:List (TE×TE)}(hk:PE X k tk)(hv:PE X v tv)(hr:PPs X pos ks vs trs):
  PPs X pos (some k::ks) (v::vs) ((tk,tv)::trs):=fun pins s σ H Q I h=>
 pairTrees_cons_walk (thn (hk pins s σ H _ I h) fun u s1 ⟨x,H1,I1,rx,q1⟩=>thn (hv pins s1 σ H1 _ I1 q1) fun w2 s2 ⟨y,H2,I2,ry,q2⟩=>
  thn (hr pins s2 σ H2 _ I2 q2) fun ws s3 ⟨ps,H3,I3,rel,q3⟩=>⟨(x,y)::ps,H3,I3,.cons ⟨rx,ry⟩ rel,q3⟩)
def yj8(kvs more:List (Key×V)):List (Key×V):=more.foldl (fun acc kv=>yj1 acc kv.1 kv.2) kvs
theorem KV.merge:∀ {more:List (Key×V)} {rs:List (Key×Value)} {kvs:List (Key×V)} {vs:List (Key×Value)},KV more rs→KV kvs vs→KV (yj8 kvs more) (merged vs rs):=by
 intro more rs kvs vs r
 unfold KV at r
 induction r generalizing kvs vs with
 |nil=>intro q;exact q
 |@cons p q ps qs h t ih=>
  intro r0
  have e:KV (yj1 kvs p.1 p.2) (stored vs q.1 q.2):=by
   have:=r0.put p.1 h.2
   rw[←h.1];exact this
  exact ih e
theorem zx2:∀(more kvs:List (Key×V)),(yj8 kvs more).length≤kvs.length+more.length
 |[],kvs=>by show kvs.length≤kvs.length+0;omega
 |p::r,kvs=>by
  have h1:=zx2 r (yj1 kvs p.1 p.2)
  have h2:=zv0 kvs p.1 p.2
  show(yj8 (yj1 kvs p.1 p.2) r).length≤_
  rw[List.length_cons];omega
theorem yk9{P:Program}{w:World}:∀ {kvs:List (Key×V)} {ws:List (Value×Value)},VV (kvs.map fun kv=>(kV kv.1,kv.2)) ws→∃rs,Carries (ze2 P w) ws rs∧KV kvs rs
 |[],_,r=>by rw[List.map_nil] at r;cases r;exact⟨[],True.intro,.nil⟩
 |p::kvs,_,r=>by
  rw[List.map_cons] at r
  cases r with
  |@cons a b as bs h t=>
   obtain⟨rs,c,q⟩:=yk9 (P:=P) (w:=w) t
   obtain⟨b1,b2⟩:=b
   exact⟨(p.1,b2)::rs,⟨kV_is h.1,rfl,c⟩,.cons ⟨rfl,h.2⟩ q⟩
def tDisp(trs:List (TE×TE)):TE:=fun σ H Q=>∀p,H p=none→tPairs trs σ (upd H p (.dK [])) fun ps H2=>H2 p=some (.dK [])∧∃kvs:List (Key×V),ps=kvs.map (fun kv=>(kV kv.1,kv.2))∧kvs.length≤15∧Q (.ref p) (upd H2 p (.dK (yj8 [] kvs)))
theorem pe_disp{X:Cx}{pos:Pos}{keys:List (Option Expr)}{values:List Expr}{trs:List (TE×TE)}(h:PPs X pos keys values trs)(hall:keys.all (·.isSome)=true)(hl:keys.length=values.length)(h0:keys≠[])
  (h15:keys.length≤15):PE X (.Dict keys values pos) (tDisp trs):=by
 intro pins s σ H Q I q
 have hn:=I.hok.fresh (Nat.le_refl s.heap.objs.size)
 have I1:=I.laid (a:=s.heap.objs.size) (o:=.dK []) (h':=s.heap.push { cls:=.type "dict",data:=.dict #[] }) (t':=s.toks) (fun _ _ q=>Heap.get?_push_of_some _ q) (Nat.le_refl _) (dk_empty s.heap I.big)
 refine wpAny_Dict_walk (knd:=ze2 X.prog X.w) hall hl h0 h15 (thn (h pins _ σ _ _ I1 (q _ hn)) fun ws s2 ⟨ps,H2,I2,rel,e,kvs,ep,lk,q2⟩=>?_)
 subst ep
 obtain⟨rs,c,rk⟩:=yk9 (P:=X.prog) (w:=X.w) rel
 obtain⟨z,hd,vs0,r0,dd⟩:=dk_of I2.hok e
 cases r0
 refine⟨rs,c,dd,fun h' dd' hs=>⟨.ref s.heap.objs.size,_,?_,rfl,q2⟩⟩
 have hz:(yj8 [] kvs).length≤sizeLine:=by
  have h1:=zx2 kvs []
  rw[List.length_nil] at h1
  rw[sizeLine_eq];omega
 have he:∃q,h'.get? s.heap.objs.size=some q:=let ⟨q,_,_,hq,_⟩:=dd';⟨q,hq⟩
 exact d_write I2 (by rw[e];exact True.intro) hs he (dk_new hz hd (rk.merge .nil) dd')
section
variable {X:Cx}{pins:List (Addr×Obj)}{σ:St}{H:Hp}{s:Shared}{a:Addr}{kvs:List (Key×V)}{A:Around}{E:Value→Shared→Prop}
theorem d_copyOf{Q:Value→Shared→Prop}(I:Inv X pins σ H s)(e:Rd H a (.dK kvs))(h:∀p s',H p=none→Inv X pins σ (upd H p (.dK kvs)) s'→Q (.ref p) s'):wpAny (model X.prog X.w) A (call (.type "dict") [.ref a]) Q E s:=by
 obtain⟨z,hd,vs,rel,dd⟩:=yh4 I.hok e
 refine kt_call_dict hd dd (by rw[←rel.length];exact z) fun h' dd' hs=>?_
 refine h _ _ (I.hok.fresh (Nat.le_refl _)) (I.laid (a:=s.heap.objs.size) (o:=.dK kvs) (t':=s.toks) (fun b q hq=>?_) (Nat.le_refl _) (dk_new z (beq_eq_false_iff_ne.mpr (Ne.symm (Nat.ne_of_lt I.big))) rel dd'))
 exact(hs.2 b (Nat.ne_of_lt (Heap.lt_size hq))).trans (Heap.get?_push_of_some _ hq)
end
section
variable {κ:Type}[DecidableEq κ]
theorem nd_snoc:∀ {l:List κ} {k:κ},l.Nodup→¬k∈l→(l++[k]).Nodup
 |[],k,_,_=>by simp
 |a::r,k,h,hk=>by
  obtain⟨h1,h2⟩:=List.nodup_cons.mp h
  show(a::(r++[k])).Nodup
  refine List.nodup_cons.mpr ⟨fun m=>?_,nd_snoc h2 fun m=>hk (List.mem_cons.mpr (Or.inr m))⟩
  rcases List.mem_append.mp m with q|q
  ·exact h1 q
  ·exact hk (List.mem_cons.mpr (Or.inl (List.mem_singleton.mp q).symm))
end
section
variable {X:Cx}
def tFrz(te:TE):TE:=fun σ H Q=>te σ H fun v H1=>∃d kvs,v=.ref d∧H1 d=some (.dK kvs)∧∀o,Q v (upd H1 d (.frz o (.dK kvs)))
theorem pe_frz{e:Expr}{te:TE}(h:PE X e te):PE X e (tFrz te):=by
 intro pins s σ H Q I hw
 refine thn (h pins s σ H _ I hw) fun u s1 ⟨x,H1,I1,r1,d,kvs,ex,hd,q⟩=>?_
 subst ex
 have hok:=I1.hok d _ hd
 obtain⟨o,ho⟩:=hok.there
 have hok2:ObjOk X.prog X.w (upd H1 d (.frz o (.dK kvs))) s1.heap d (.dK kvs):=by
  obtain⟨z,hs,vs,rel,dd⟩:=dk_of I1.hok hd
  exact⟨z,hs,vs,rel,dd⟩
 exact⟨.ref d,upd H1 d (.frz o (.dK kvs)),d_write (t':=s1.toks) (h':=s1.heap) I1 (a:=d) (ob:=.frz o (.dK kvs)) (by rw[hd];exact trivial) ⟨rfl,fun _ _=>rfl⟩ ⟨o,ho⟩ ⟨ho,hok2⟩,r1,q o⟩
theorem dict_at{P:Program}{w:World}{h:Heap}{a:Addr}{vs:List (Key×Value)}(d:h.DictOf (ze2 P w) a vs){o:Obj}(ho:h.get? a=some o):∃es ep,o.data=.dict es ep∧∀h':Heap,h'.get? a=some o→Heap.DictAt (ze2 P w) h' a vs ep:=by
 obtain⟨o',es,ep,ho',ex,hd,hk,hp,hn⟩:=d
 rw[ho] at ho'
 cases ho'
 exact⟨es,ep,hd,fun h' q=>⟨o,es,q,ex,hd,hk,hp,hn⟩⟩
theorem kV_rel{P:Program}{w:World}{k:Key}{v:Value}(h:(ze2 P w).is k v=true):RelV (kV k) v:=by
 rcases zg4 (show keyIs k v=true from h) with⟨i,t,rfl,rfl⟩|⟨x,t,rfl,rfl⟩
 ·exact⟨t,rfl⟩
 ·exact⟨t,rfl⟩
theorem KV.at{kvs:List (Key×V)}{vs:List (Key×Value)}(r:KV kvs vs){i:Nat}{k:Key}{x:Value}(h:vs[i]? = some (k,x)):∃y,kvs[i]? = some (k,y)∧RelV y x:=by
 have:∀ {kvs:List (Key×V)} {vs:List (Key×Value)} (i:Nat),Paired (fun(p:Key×V) (q:Key×Value)=>p.1=q.1∧RelV p.2 q.2) kvs vs→vs[i]? = some (k,x)→∃y,kvs[i]? = some (k,y)∧RelV y x:=by
  intro kvs vs i r
  induction r generalizing i with
  |nil=>intro h;simp at h
  |@cons p q _ _ e t ih=>
   intro h
   cases i with
   |zero=>
    simp at h
    subst h
    obtain⟨p1,p2⟩:=p
    obtain⟨e1,e2⟩:=e
    have e1:p1=k:=e1
    subst e1
    exact⟨p2,rfl,e2⟩
   |succ i=>
    obtain⟨y,h1,h2⟩:=ih i (by simpa using h)
    exact⟨y,by simpa using h1,h2⟩
 exact this i r h
def Itd(a:Addr)(o:Obj)(kvs:List (Key×V)):It:=
 ⟨fun i H=>i<kvs.length∧H a=some (.frz o (.dK kvs)),fun i H x H'=>H'=H∧∃kv,kvs[i]? = some kv∧x=kV kv.1,fun i H=>i=kvs.length∧H a=some (.frz o (.dK kvs))⟩
theorem turn_dict {P : Program} {w : World} {K : PySem.W.Frag} {tg : Expr} {kvs : List (Key × V)} {vs : List (Key × Value)} {o : Obj} {ep : Nat} (a it : Addr) (rel : KV kvs vs) (at_ : ∀ h' : Heap, h'.get? a = some o → Heap.DictAt (ze2 P w) h' a vs ep) :
    Turn P w K tg (Itd a o kvs) [it] it (fun i h => h.IsKeyIter it a i kvs.length ep) where
  mem := by simp
  obj := fun i h st b hb => by
    have e : b = it := by simpa using hb
    subst e
    obtain ⟨o, e, c, d⟩ := st
    exact ⟨o, e, fun v z => by rw [d] at z; cases z⟩
  keep := fun i h h' st k => by
    obtain ⟨o, e, c, d⟩ := st
    exact ⟨o, k it (by simp) o e, c, d⟩
  item := by
    intro X hP hw hK hc i pins s σ H E I hf st hg
    subst hP hw hK
    obtain ⟨hi, ha⟩ := hg
    have hao : s.heap.get? a = some o := (I.hok a _ ha).1
    obtain ⟨f0, f1, f2, f3, f4, f5⟩ := hf it (by simp)
    have ne : a ≠ it := fun z => by rw [z, f0] at ha; cases ha
    have hl : kvs.length = vs.length := rel.length
    refine (Walks.dictKeys (I.ok.hd hc) it a ne vs ep).item i s _ _ (by omega) ⟨by rw [← hl]; exact st, at_ _ hao⟩ fun v h' tk hv st' kk => ?_
    obtain ⟨k, x, hkx, hk⟩ := hv
    obtain ⟨y, hy, _⟩ := rel.at hkx
    have I1 : Inv X pins σ H { s with heap := h', toks := tk } := I.turned (fun b o hb e => kk b o (by simpa using hb) e) f0 f1 f3 f4 f5
    have st2 : h'.IsKeyIter it a (i + 1) kvs.length ep := by rw [hl]; exact st'.1
    obtain ⟨oi, e, oc, d⟩ := id st2
    exact ⟨_, rfl, go_of (s := { s with heap := h', toks := tk }) e oc d (by decide) ⟨kV k, H, I1, kV_rel hk, ⟨rfl, _, hy, rfl⟩, st2, fun b hb => (hf b hb).1⟩⟩
  done := by
    intro X hP hw hK hc i pins s σ H E I hf st hg
    subst hP hw hK
    obtain ⟨hi, ha⟩ := hg
    subst hi
    have hao : s.heap.get? a = some o := (I.hok a _ ha).1
    obtain ⟨f0, f1, f2, f3, f4, f5⟩ := hf it (by simp)
    have ne : a ≠ it := fun z => by rw [z, f0] at ha; cases ha
    have hl : kvs.length = vs.length := rel.length
    exact (Walks.dictKeys (I.ok.hd hc) it a ne vs ep).done s _ _ ⟨by rw [← hl]; exact st, at_ _ hao⟩ fun h' tk kk => ⟨rfl, I.turned (fun b o hb e => kk b o (by simpa using hb) e) f0 f1 f3 f4 f5⟩
  self := fun _ _ _ _ _ st h => by
    first
    | exact wpAny_pyIter_keyiter st h
    | exact PySem.wpAny_pyIter_dictkeyiter st h
def iDict(tl:TE):TI:=fun σ H R=>tl σ H fun x H1=>∃a o kvs,x=.ref a∧H1 a=some (.frz o (.dK kvs))∧R (Itd a o kvs) H1
theorem pi_dict{tg l:Expr}{tl:TE}(hl:PE X l tl):PI X tg l (iDict tl):=by
 intro pins s σ H R I h
 refine thn (hl pins s σ H _ I h) fun v s1 ⟨x,H1,I1,r1,a,o,kvs,ex,ha,q⟩=>?_
 subst ex
 cases r1
 have hao:s1.heap.get? a=some o:=(I1.hok a _ ha).1
 obtain⟨z,hs,vs,rel,dd⟩:=yh4 I1.hok (.inr ⟨o,ha⟩)
 obtain⟨es,ep,hd,at_⟩:=dict_at dd hao
 refine wpAny_pyIter_dict hs (at_ _ hao) ?_
 refine⟨s1.heap.objs.size,[s1.heap.objs.size],_,_,H1,rfl,I1.kept (t':=s1.toks) fun b o e=>Heap.get?_push_of_some _ e,turn_dict (ep:=ep) a _ rel at_,⟨_,Heap.get?_push_size _ rfl,rfl,by rw[rel.length];rfl⟩,fun b hb=>?_,q⟩
 have e:b=s1.heap.objs.size:=by simpa using hb
 subst e
 exact I1.fpOk (Nat.le_refl _) (I1.hok.fresh (Nat.le_refl _))
theorem for_dict{a:Addr}{o:Obj}{kvs:List (Key×V)}{g:TG}{tb:TS}{D:Ends}{σ:St}{H:Hp}(Pv:Nat→St→Hp→Prop)(h0:Pv 0 σ H)(hl:∀i σ H,i≤kvs.length→Pv i σ H→H a=some (.frz o (.dK kvs)))
  (hs:∀i kv σ H,kvs[i]? = some kv→Pv i σ H→g (kV kv.1) σ H fun σ2 H2=>tb { D with nx:=Pv (i+1),ct:=Pv (i+1),bk:=D.nx } σ2 H2) (hd:∀σ H,Pv kvs.length σ H→D.nx σ H):
  ∃W:Nat→Nat→St→Hp→Prop,(∃m,W 0 m σ H)∧∀i m σ H,W i m σ H→
   ((Itd a o kvs).stop i H∧D.nx σ H)∨((Itd a o kvs).go i H∧∃N:St→Hp→Prop,(∀σ' H',N σ' H'→∃m',m'<m∧W (i+1) m' σ' H')∧∀x H',(Itd a o kvs).yld i H x H'→g x σ H' fun σ2 H2=>tb { D with nx:=N,ct:=N,bk:=D.nx } σ2 H2):=by
 refine⟨fun i m σ H=>m=kvs.length - i∧i≤kvs.length∧Pv i σ H,⟨kvs.length,by simp,Nat.zero_le _,h0⟩,?_⟩
 rintro i m σ H ⟨rfl,hi,p⟩
 have q:=hl i σ H hi p
 by_cases hlt:i<kvs.length
 ·refine .inr ⟨⟨hlt,q⟩,Pv (i+1),fun σ' H' p'=>⟨kvs.length - (i+1),by omega,rfl,hlt,p'⟩,fun x H' y=>?_⟩
  obtain⟨e,kv,hkv,rfl⟩:=y
  subst e
  exact hs i kv σ _ hkv p
 ·have e:i=kvs.length:=by omega
  subst e
  exact .inl ⟨⟨rfl,q⟩,hd σ H p⟩
theorem comp_dict {a : Addr} {o : Obj} {kvs : List (Key × V)} {D : Addr} {τ : St} {te : TE} {H : Hp} {Q : Hp → Prop} (Pv : Nat → Hp → List V → Prop) (h0 : Pv 0 (upd H D (.lst [])) []) (hl : ∀ i H ys, i ≤ kvs.length → Pv i H ys → H a = some (.frz o (.dK kvs)))
    (hs : ∀ i kv H ys, kvs[i]? = some kv → Pv i H ys → te (some (kV kv.1) :: τ) H fun y H5 => H5 D = some (.lst ys) ∧ ys.length < sizeLine ∧ Pv (i + 1) (upd H5 D (.lst (ys ++ [y]))) (ys ++ [y]))
    (hd : ∀ H ys, Pv kvs.length H ys → Q H) :
    ∃ W : Nat → Nat → Hp → List V → Prop, (∃ m, W 0 m (upd H D (.lst [])) []) ∧ ∀ i m H' ys, W i m H' ys →
      ((Itd a o kvs).stop i H' ∧ Q H') ∨ ((Itd a o kvs).go i H' ∧ ∃ N : Hp → List V → Prop, (∀ H' ys', N H' ys' → ∃ m', m' < m ∧ W (i + 1) m' H' ys') ∧ ∀ x H2, (Itd a o kvs).yld i H' x H2 → tNoIf (some x :: τ) H2 fun b H4 =>
        if b = true then te (some x :: τ) H4 fun y H5 => H5 D = some (.lst ys) ∧ ys.length < sizeLine ∧ N (upd H5 D (.lst (ys ++ [y]))) (ys ++ [y])
        else N H4 ys) := by
  refine ⟨fun i m H ys => m = kvs.length - i ∧ i ≤ kvs.length ∧ Pv i H ys, ⟨kvs.length, by simp, Nat.zero_le _, h0⟩, ?_⟩
  rintro i m H' ys ⟨rfl, hi, p⟩
  have q := hl i H' ys hi p
  by_cases hlt : i < kvs.length
  · refine .inr ⟨⟨hlt, q⟩, Pv (i + 1), fun H2 ys' p' => ⟨kvs.length - (i + 1), by omega, rfl, hlt, p'⟩, fun x H2 y => ?_⟩
    obtain ⟨e, kv, hkv, rfl⟩ := y
    subst e
    exact hs i kv _ ys hkv p
  · have e : i = kvs.length := by omega
    subst e
    exact .inl ⟨⟨rfl, q⟩, hd H' ys p⟩
theorem zr2 {K : PySem.W.Frag} {a D : Addr} {xs : List V} {τ : St} {ti : TT} {te : TE} {H : Hp} {Q : Hp → Prop} (Pv : Nat → Hp → List V → Prop) (h0 : Pv 0 (upd H D (.lst [])) [])
    (hl : ∀ i H ys, i ≤ xs.length → Pv i H ys → SqL K H a xs)
    (hs : ∀ i x H ys, xs[i]? = some x → Pv i H ys → ti (some x :: τ) H fun b H4 => if b = true then te (some x :: τ) H4 fun y H5 => H5 D = some (.lst ys) ∧ ys.length < sizeLine ∧ Pv (i + 1) (upd H5 D (.lst (ys ++ [y]))) (ys ++ [y]) else Pv (i + 1) H4 ys)
    (hd : ∀ H ys, Pv xs.length H ys → Q H) :
    ∃ W : Nat → Nat → Hp → List V → Prop, (∃ m, W 0 m (upd H D (.lst [])) []) ∧ ∀ i m H' ys, W i m H' ys →
      ((Itl K a).stop i H' ∧ Q H') ∨ ((Itl K a).go i H' ∧ ∃ N : Hp → List V → Prop, (∀ H' ys', N H' ys' → ∃ m', m' < m ∧ W (i + 1) m' H' ys') ∧ ∀ x H2, (Itl K a).yld i H' x H2 → ti (some x :: τ) H2 fun b H4 =>
        if b = true then te (some x :: τ) H4 fun y H5 => H5 D = some (.lst ys) ∧ ys.length < sizeLine ∧ N (upd H5 D (.lst (ys ++ [y]))) (ys ++ [y])
        else N H4 ys) := by
  refine ⟨fun i m H ys => m = xs.length - i ∧ i ≤ xs.length ∧ Pv i H ys, ⟨xs.length, by simp, Nat.zero_le _, h0⟩, ?_⟩
  rintro i m H ys ⟨rfl, hi, p⟩
  have q := hl i H ys hi p
  by_cases hlt : i < xs.length
  · refine .inr ⟨⟨xs, xs[i], q, by simp [hlt]⟩, Pv (i + 1), fun H' ys' p' => ⟨xs.length - (i + 1), by omega, rfl, hlt, p'⟩, fun x H' y => ?_⟩
    obtain ⟨e, y⟩ := y
    subst e
    exact hs i x _ ys (y xs q) p
  · have e : i = xs.length := by omega
    subst e
    exact .inl ⟨⟨xs, q, Nat.le_refl _⟩, hd H ys p⟩
theorem collect_ints{P:Program}{w:World}{kvs:List (Key×V)}{vs:List (Key×Value)}{ns:List Int}(rel:KV kvs vs)(hn:kvs.map (·.1)=ns.map Sum.inl){acc:Array Value}(h:ItemsOf (fun i v=>∃k x,vs[i]? = some (k,x)∧(ze2 P w).is k v=true) acc vs.length):IntsAre acc.toList ns:=by
 have hlen:acc.size=ns.length:=by
  rw[h.1,←rel.length]
  have:=congrArg List.length hn
  simpa using this
 have hv:Vals (ns.map V.int) acc.toList:=by
  have:∀(xs:List V) (us:List Value),xs.length=us.length→(∀(i:Nat) (u:Value),us[i]? = some u→∃x,xs[i]? = some x∧RelV x u)→Vals xs us:=by
   intro xs
   induction xs with
   |nil=>intro us h _;cases us with|nil=>exact .nil|cons _ _=>simp at h
   |cons x xs ih=>
    intro us h hr
    cases us with
    |nil=>simp at h
    |cons u us=>
     obtain⟨x',e,r⟩:=hr 0 u rfl
     cases e
     exact .cons r (ih us (by simpa using h) fun i u' e=>hr (i+1) u' (by simpa using e))
  refine this _ _ (by simp[hlen]) fun i u e=>?_
  have e2:acc[i]? = some u:=by simpa using e
  obtain⟨k,x,hkx,hk⟩:=h.2 i u e2
  obtain⟨y,hy,_⟩:=rel.at hkx
  have e3:(kvs.map (·.1))[i]? = some k:=by rw[List.getElem?_map,hy];rfl
  rw[hn,List.getElem?_map] at e3
  cases z:ns[i]? with
  |none=>rw[z] at e3;cases e3
  |some n=>
   rw[z] at e3
   have e4:Sum.inl n=k:=Option.some.inj e3
   subst e4
   exact⟨.int n,by rw[List.getElem?_map,z];rfl,kV_rel hk⟩
 exact ya2 hv
theorem vals_intsD:∀ {us:List Value} {ns:List Int},IntsAre us ns→Vals (ns.map V.int) us:=by
 intro us ns h
 induction h with
 |nil=>exact .nil
 |cons n t r ih=>exact .cons ⟨t,rfl⟩ ih
theorem call_sortedD(hc:X.calm=true):CallR X (.builtin "sorted") (fun xs H Q=>∃(a:Addr) (kvs:List (Key×V)) (ns:List Int),xs=[.ref a]∧Rd H a (.dK kvs)∧kvs.map (·.1)=ns.map Sum.inl∧ns.length<64∧
  ∀(l:Addr) (ns':List Int),ns'.Perm ns→ns'.Pairwise (· ≤ ·)→H l=none→Q (.ref l) (upd H l (.lst (ns'.map V.int)))):=by
 intro pins s σ H xs us Q I r h
 obtain⟨a,kvs,ns,rfl,ha,hn,h64,q⟩:=h
 obtain⟨u,rfl,ru⟩:=zv6 r
 cases ru
 obtain⟨z,hs,vs,rel,dd⟩:=yh4 I.hok ha
 obtain⟨oo,ho⟩:=(show ∃o,s.heap.get? a=some o from by obtain⟨o,_,_,e,_⟩:=id dd;exact⟨o,e⟩)
 obtain⟨es,ep,hd,at_⟩:=dict_at dd ho
 have hh:=I.ok.hd hc
 have hlen:vs.length=ns.length:=by
  rw[←rel.length]
  have:=congrArg List.length hn
  simpa using this
 refine wpAny_call (codeAny_call_builtin plain_sorted entry_sorted ?_)
 have ea:checkBuiltinCall "sorted" { pos:=[Value.ref a] }=pure ():=PyProof.Rows.args_sorted1 _
 rw[ea]
 refine wpAny_pure ?_
 show wpAny (model X.prog X.w) X.A.in1 (Builtin.sorted { pos:=[Value.ref a] }) _ _ s
 unfold Builtin.sorted
 refine wpAny_bind (wpAny_pure ?_)
 refine wpAny_bind (W.kdu_collect (W.kdl_dict (knd:=ze2 X.prog X.w) (kvs:=vs) (ep:=ep) hs) hh (at_ _ ho) (by rw[hlen];exact Nat.le_of_lt (Nat.lt_of_lt_of_le h64 (by decide))) fun h' tk acc kp it=>?_)
 have ia:=collect_ints (P:=X.prog) (w:=X.w) rel hn it
 have I1:Inv X pins σ H { s with heap:=h',toks:=tk }:=I.kept kp
 have hal:acc.toList.length=ns.length:=by have:=it.1;simp[this,hlen]
 refine wpAny_bind (wpAny_newList ?_ (by rw[hal];exact Nat.le_of_lt (Nat.lt_of_lt_of_le h64 (by decide))))
 have hob:(h'.push { cls:=.type "list",data:=.seq acc.toList.toArray }).get? h'.objs.size=some (seqObj "list" acc.toList.toArray 0):=Heap.get?_push_size _ rfl
 refine wpAny_bind (wpAny_holding (wpAny_call_entry_kw (kw:=[]) PyProof.Rows.slot_list_sort ⟨_,hob,rfl⟩ PyProof.Rows.entry_list_sort (list_sort_tree hob ia (by rw[hal];exact h64) fun out ns' io pm so=>⟨_,rfl,?_⟩) (PyProof.Rows.args_list_sort _)))
 refine wpAny_pure ?_
 obtain⟨e,hat⟩:=sortedHeap_at (out:=out) hob
 have hl:ns'.length=ns.length:=pm.length_eq
 refine⟨.ref h'.objs.size,_,I1.laid (t':=tk) (o:=.lst (ns'.map V.int)) (fun b ob hb=>?_) (Nat.le_refl _) ⟨?_,out.toList,e,vals_intsD io,by simpa using hat⟩,rfl,q _ _ pm so (I1.hok.fresh (Nat.le_refl _))⟩
 ·have hlt:=Heap.lt_size hb
  rw[sortedHeap_old (Nat.ne_of_lt hlt) (Nat.lt_of_lt_of_le hlt (by simp[Heap.push]))]
  exact Heap.get?_push_of_some _ hb
 ·rw[List.length_map,hl];exact Nat.le_of_lt (Nat.lt_of_lt_of_le h64 (by decide))
theorem call_dictD:CallR X (.type "dict") (fun xs H Q=>∃(a:Addr) (kvs:List (Key×V)),xs=[.ref a]∧Rd H a (.dK kvs)∧∀p,H p=none→Q (.ref p) (upd H p (.dK kvs))):=by
 intro pins s σ H xs us Q I r h
 obtain⟨a,kvs,rfl,ha,q⟩:=h
 obtain⟨u,rfl,ru⟩:=zv6 r
 cases ru
 exact d_copyOf I ha fun p s' hp I'=>⟨.ref p,_,I',rfl,q p hp⟩
def viewO(v d:Addr):HO:=.ext fun h=>h.IsValuesView v d
def tDVals(to:TE):TE:=fun σ H Q=>to σ H fun x H1=>∃d kvs,x=.ref d∧Rd H1 d (.dK kvs)∧∀v,H1 v=none→Q (.ref v) (upd H1 v (viewO v d))
theorem pe_dvals{o:Expr}{to:TE}{apos cpos:Pos}(ho:PE X o to)(hbase:attributeBase o "values" X.env (eval o X.env)=eval o X.env:=by rfl)(hline:(apos.endLine==cpos.line)=true:=by rfl):PE X (.Call (.Attribute o "values" apos) [] [] cpos) (tDVals to):=by
 intro pins s σ H Q I h
 refine wpAny_Call_method0_late hbase hline (thn (ho pins s σ H _ I h) fun v s1 ⟨x,H1,I1,r1,d,kvs,ex,hd,q1⟩=>?_)
 subst ex
 cases r1
 obtain⟨z,hs,vs,rel,dd⟩:=yh4 I1.hok hd
 obtain⟨ob,es,ep,hob,ex,_⟩:=id dd
 refine⟨"dict",_,PySem.F.plainAttrs_dict,PySem.F.slot_dict_values,PySem.F.type_dict_values,⟨ob,hob,ex.1⟩,fun a e=>?_,?_⟩
 ·cases e
  exact⟨ob,hob,ex.2.1⟩
 refine Calls.callWith_builtin rfl (PySem.evalArgs_none (call_meetsIn PySem.F.slot_dict_values ⟨ob,hob,ex.1⟩ PySem.F.entry_dict_values (PySem.F.args_dict_values_1 _) (meets_dict_values (ze2 X.prog X.w) d hs) ⟨⟨vs,dd⟩,?_⟩))
 refine⟨.ref s1.heap.objs.size,_,I1.laid (t':=s1.toks) (o:=viewO s1.heap.objs.size d) (fun b u e=>Heap.get?_push_of_some _ e) (Nat.le_refl _) ⟨⟨_,Heap.get?_push_size _ rfl,rfl,rfl⟩,⟨_,Heap.get?_push_size _ rfl⟩,fun h1 h2 ⟨o1,e1,e2,e3⟩ k=>⟨o1,k o1 e1,e2,e3⟩⟩,rfl,q1 _ (I1.hok.fresh (Nat.le_refl _))⟩
theorem call_minV(hc:X.calm=true):CallR X (.builtin "min") (fun xs H Q=>∃(v d:Addr) (kvs:List (Key×V)) (ns:List Int),xs=[.ref v]∧H v=some (viewO v d)∧Rd H d (.dK kvs)∧kvs.map (·.2)=ns.map V.int∧ns≠[]∧
  ∀m,m∈ns→(∀n∈ns,m≤n)→Q (.int m) H):=by
 intro pins s σ H xs us Q I r h
 obtain⟨v,d,kvs,ns,rfl,hv,ha,hn,hne,q⟩:=h
 obtain⟨u,rfl,ru⟩:=zv6 r
 cases ru
 obtain⟨z,hs,vs,rel,dd⟩:=yh4 I.hok ha
 obtain⟨oo,ho⟩:=(show ∃o,s.heap.get? d=some o from by obtain⟨o,_,_,e,_⟩:=id dd;exact⟨o,e⟩)
 obtain⟨es,ep,hd,at_⟩:=dict_at dd ho
 have hh:=I.ok.hd hc
 have vw:s.heap.IsValuesView v d:=(I.hok v _ hv).1
 have hlen:vs.length=ns.length:=by
  rw[←rel.length]
  have:=congrArg List.length hn
  simpa using this
 have hpos:0<ns.length:=by cases ns with|nil=>exact absurd rfl hne|cons _ _=>simp
 have nd:d≠s.heap.objs.size:=Nat.ne_of_lt (Heap.lt_size ho)
 have item:∀(i:Nat) (vi:Value),(∃k,vs[i]? = some (k,vi))→∃t,vi=.int (ns.getD i 0) t:=fun i vi ⟨k,e⟩=>by
  obtain⟨y,hy,ry⟩:=rel.at e
  have e3:(kvs.map (·.2))[i]? = some y:=by rw[List.getElem?_map,hy];rfl
  rw[hn,List.getElem?_map] at e3
  cases w:ns[i]? with
  |none=>rw[w] at e3;cases e3
  |some n=>
   rw[w] at e3
   have e4:V.int n=y:=Option.some.inj e3
   subst e4
   obtain⟨t,rfl⟩:=ry
   exact⟨t,by rw[List.getD_eq_getElem?_getD,w];rfl⟩
 refine call_min_walk (wpAny_pyIter_values (knd:=ze2 X.prog X.w) vw (at_ _ ho) ?_)
 have at2:Heap.DictAt (ze2 X.prog X.w) (s.heap.push { cls:=.type "dict_valueiterator",data:=.fields #[.ref d,.int 0 0,.int (vs.length:Nat) 0,.int (ep:Nat) 0] }) d vs ep:=at_ _ (Heap.get?_push_of_some _ ho)
 refine⟨s.heap.objs.size,[s.heap.objs.size,d],[s.heap.objs.size],vs.length,_,_,fun i j=>decide (ns.getD i 0<ns.getD j 0),rfl,Walks.dictValues (knd:=ze2 X.prog X.w) (by exact hh) s.heap.objs.size d nd vs ep,⟨⟨_,Heap.get?_push_size _ rfl,rfl,rfl⟩,at2⟩,fun b hb=>?_,by omega,?_,fun w h' tk hw kp=>?_⟩
 ·have hb:b=s.heap.objs.size∨b=d:=by simpa using hb
  rcases hb with e|e
  ·rw[e];show _<(s.heap.objs.push _).size;rw[Array.size_push];exact Nat.lt_succ_self _
  ·rw[e];show _<(s.heap.objs.push _).size;rw[Array.size_push];exact Nat.lt_succ_of_lt (Heap.lt_size ho)
 ·intro i j vi vj s' Q' E' hi hj hq
  obtain⟨t,rfl⟩:=item i vi hi
  obtain⟨t',rfl⟩:=item j vj hj
  exact(lt_int hq:wpAny _ _ (compareOp .Lt _ _) _ _ _)
 ·obtain⟨t,rfl⟩:=item _ w hw
  obtain⟨b1,b2⟩:=argBest_lt (fun i=>ns.getD i 0) (vs.length - 1)
  have hlt:argBest (fun i j=>decide (ns.getD i 0<ns.getD j 0)) (vs.length - 1)<ns.length:=Nat.lt_of_le_of_lt b1 (by omega)
  have I1:Inv X pins σ H { s with heap:=s.heap.push { cls:=.type "dict_valueiterator",data:=.fields #[.ref d,.int 0 0,.int (vs.length:Nat) 0,.int (ep:Nat) 0] } }:=I.kept (t':=s.toks) fun b o e=>Heap.get?_push_of_some _ e
  have fp:=I.fpOk (b:=s.heap.objs.size) (Nat.le_refl _) (I.hok.fresh (Nat.le_refl _))
  obtain⟨f0,f1,f2,f3,f4,f5⟩:=fp
  have I2:Inv X pins σ H { s with heap:=h',toks:=tk }:=I.kept (t':=tk) fun b o e=>kp b o (fun z=>by
   have z:b=s.heap.objs.size:=by simpa using z
   exact absurd (Heap.lt_size e) (by rw[z];exact Nat.lt_irrefl _)) (Heap.get?_push_of_some _ e)
  refine⟨.int _,H,I2,⟨t,rfl⟩,q _ ?_ ?_⟩
  ·rw[List.getD_eq_getElem?_getD,List.getElem?_eq_getElem hlt]
   exact List.getElem_mem hlt
  ·intro n hn'
   obtain⟨j,hj,rfl⟩:=List.mem_iff_getElem.mp hn'
   have:=b2 j (by rw[hlen];omega)
   rw[List.getD_eq_getElem?_getD (l:=ns) (i:=j),List.getElem?_eq_getElem hj] at this
   exact this
theorem op_fdivT:OpR X (binaryOp .FloorDiv) (rI (fun _ j=>j=1000000000000) fun i j=>.int (i / j)):=opI fun i j _ _ _ _ _ hc q=>by
 have h1:j=1000000000000:=hc
 subst h1
 exact floordiv_int (by decide) (by rw[Int.fdiv_eq_ediv_of_nonneg i (by decide)];exact q) (.inl (PyProof.noPylong_of_log2 (by decide +kernel)))
end
section
variable {X:Cx}{o i e value:Expr}{pos pos' tpos:Pos}{td ty tv:TE}
theorem zm4:∀(hu:X.A.units+1<cLine) (ho:QE X o td) (hi:QE X i ty) (hs:NoSl i),QE X (.Subscript o i pos) (tDGet td ty):=by
 have h:=@pe_dget
 rw[←QE_eq] at h
 intros
 first|exact h|(apply h<;>assumption)|(refine h<;>assumption)
theorem pc_dinq:∀(hu:X.A.units+1<cLine) (hi:QE X i ty) (ho:QE X o td),QC X .In i o (tDIn ty td):=by
 have h:=@pc_din
 rw[←QE_eq,←QC_eq] at h
 intros
 first|exact h|(apply h<;>assumption)|(refine h<;>assumption)
theorem zo7:∀(hu:X.A.units+1<cLine) (hi:QE X i ty) (ho:QE X o td),QC X .NotIn i o (tDNotIn ty td):=by
 have h:=@pc_dnotin
 rw[←QE_eq,←QC_eq] at h
 intros
 first|exact h|(apply h<;>assumption)|(refine h<;>assumption)
theorem zw5:∀(hu:X.A.units+1<cLine) (ho:QE X o td) (hi:QE X i ty) (hv:QE X value tv) (hs:swapsWith value (some (.Subscript o i pos')) pos.line X.env=pure false),QS X (.Assign [.Subscript o i pos'] value pos) (sDPut td ty tv):=by
 have h:=@ps_dput
 rw[←QE_eq,←QS_eq] at h
 intros
 first|exact h|(apply h<;>assumption)|(refine h<;>assumption)
end
section
variable {X:Cx}{pos:Pos}
theorem pe_dnewKq:QE X (.Dict [] [] pos) tDNewK:=by
 have h:=@pe_dnewK
 rw[←QE_eq] at h
 intros
 first|exact h|(apply h<;>assumption)|(refine h<;>assumption)
theorem pe_dnewTq:QE X (.Dict [] [] pos) tDNewT:=by
 have h:=@pe_dnewT
 rw[←QE_eq] at h
 intros
 first|exact h|(apply h<;>assumption)|(refine h<;>assumption)
end
theorem yd6:∀ {X:Cx} {pos:Pos} {k v:Expr} {ks:List (Option Expr)} {vs:List Expr} {tk tv:TE} {trs:List (TE×TE)} (hk:QE X k tk) (hv:QE X v tv) (hr:PPs X pos ks vs trs),PPs X pos (some k::ks) (v::vs) ((tk,tv)::trs):=by
 have h:=@pps_cons
 rw[←QE_eq] at h
 intros
 first|exact h|(apply h<;>assumption)|(refine h<;>assumption)
theorem ym8:∀ {X:Cx} {pos:Pos} {keys:List (Option Expr)} {values:List Expr} {trs:List (TE×TE)} (h:PPs X pos keys values trs) (hall:keys.all (·.isSome)=true) (hl:keys.length=values.length) (h0:keys≠[])
  (h15:keys.length≤15),QE X (.Dict keys values pos) (tDisp trs):=by
 have h:=@pe_disp
 rw[←QE_eq] at h
 intros
 first|exact h|(apply h<;>assumption)|(refine h<;>assumption)
section
variable {X:Cx}
theorem ym7:∀ {e:Expr} {te:TE} (h:QE X e te),QE X e (tFrz te):=by
 have h:=@pe_frz
 rw[←QE_eq] at h
 intros
 first|exact h|(apply h<;>assumption)|(refine h<;>assumption)
theorem ym5:∀ {tg l:Expr} {tl:TE} (hl:QE X l tl),QI X tg l (iDict tl):=by
 have h:=@pi_dict
 rw[←QE_eq,←QI_eq] at h
 intros
 first|exact h|(apply h<;>assumption)|(refine h<;>assumption)
theorem pe_dvalsq:∀ {o:Expr} {to:TE} {apos cpos:Pos} (ho:QE X o to) (hbase:attributeBase o "values" X.env (eval o X.env)=eval o X.env:=by rfl) (hline:(apos.endLine==cpos.line)=true:=by rfl),QE X (.Call (.Attribute o "values" apos) [] [] cpos) (tDVals to):=by
 have h:=@pe_dvals
 rw[←QE_eq] at h
 intros
 first|exact h|(apply h<;>assumption)|(refine h<;>assumption)
end
end L2
namespace Pq
open PySem L2
def top(i:Nat):Stmt:=PySem.Challenge.pw_printwell_k10_whole_best.main.body.getD i (.Pass ⟨0,0,0,0⟩)
abbrev zy9:Stmt:=top 6
abbrev yi5:Stmt:=top 7
abbrev zz0:Stmt:=top 8
abbrev zy0:Stmt:=top 9
abbrev zt3:Stmt:=top 10
abbrev zy1:Stmt:=zg1 (top 11) 0
abbrev yi7:Stmt:=zg1 (top 11) 1
abbrev yi6:Stmt:=zg1 (top 11) 2
abbrev sSide:Stmt:=top 12
abbrev sLeaf:Stmt:=top 13
abbrev sNext:Stmt:=top 14
abbrev sLaid:Stmt:=top 15
abbrev zy8:Stmt:=zg1 (top 18) 0
abbrev zo4:Stmt:=zg1 (top 18) 1
abbrev zo5:Stmt:=zg1 (top 18) 2
abbrev zy5:Stmt:=zg1 (top 18) 3
abbrev zy7:Stmt:=zg1 (top 18) 4
abbrev yi8:Stmt:=zg1 (top 18) 5
abbrev zy6:Stmt:=zg1 (top 18) 6
abbrev zt4:Stmt:=zg1 (top 18) 7
abbrev zp7:Stmt:=top 19
abbrev yd1:Stmt:=top 20
abbrev zy4:Stmt:=zg1 (top 21) 0
abbrev zs8:Stmt:=zg1 (top 21) 1
abbrev zt1:Stmt:=zg1 (top 21) 2
abbrev zy2:Stmt:=zg1 (top 21) 3
abbrev zp6:Stmt:=zg1 (top 21) 4
abbrev zh4:Stmt:=zg1 (top 21) 5
abbrev zj7:Stmt:=zg1 (top 21) 6
abbrev zm7:Stmt:=zg1 (top 21) 7
abbrev zt0:Stmt:=zg1 (top 21) 8
abbrev zs9:Stmt:=zg1 (top 21) 9
abbrev zy3:Stmt:=zg1 (top 21) 10
abbrev zz1:Stmt:=top 22
abbrev zt2:Stmt:=top 23
abbrev sCell:Stmt:=top 25
abbrev sMix:Stmt:=top 26
abbrev yi4:Stmt:=top 27
abbrev sSign:Stmt:=top 28
abbrev sText:Stmt:=top 29
abbrev ym1:Stmt:=top 30
abbrev sLay:Stmt:=top 31
abbrev yd2:Stmt:=top 32
abbrev sCost:Stmt:=top 33
abbrev sAll:Stmt:=top 34
abbrev yi3:Stmt:=top 35
abbrev sLaw:Stmt:=top 36
end Pq
namespace Pq
open PySem L2
section
variable {P:Program}{w:World}{K:PySem.W.Frag}{mg:Str→Option Value}{base:Heap}{f g:Addr}{fd gd:FuncData}
theorem scCell:FnScope ["_law_script","_law_k"] ["_law_script","_law_k"] (za7 sCell):=⟨rfl,rfl,rfl,by decide +kernel,rfl,by decide +kernel,by decide +kernel⟩
theorem ok_cell(F:Fun K "_law_cell" "_law_cell" sCell f fd)(ml:mg "len"=none):FnOk P w K mg base CX0 1 f fd ["_law_script","_law_k"] (spCell K):=by
 refine F.okq scCell (fun vs H Q E h=>?_) (fun cdv A outer s H vs Q E hr h=>?_)
 ·obtain⟨a,ns,k,rfl,_⟩:=h
  rfl
 obtain⟨a,ns,k,rfl,hS,h63,q⟩:=h
 refine⟨_,za1 (zd0 (zl4 (pvq 0) (fun _=>rfl)) (za6 (zb4 (zb1 zf8 (pvq 0) (zc4 zo8 (pvq 1) (zd9 zj6 rfl ml PySem.boot_len (za2 (pvq 0) za3))) (fun _ _=>rfl)))) zb9)
  (za6 (zb4 za5)),?_⟩
 refine⟨_,rfl,_,.inl ⟨_,hS,rfl⟩,?_⟩
 cases ns with
 |nil=>exact zc3 (by simp) q
 |cons n r=>
  refine zd1 (by simp) ?_
  have hl:(((n::r).map V.int).length:Int)=((n::r).length:Int):=by rw[List.length_map]
  have hp:(0:Int)<(((n::r).map V.int).length:Int):=by rw[hl,List.length_cons];omega
  refine⟨_,rfl,_,rfl,_,rfl,a,_,rfl,.inl hS,_,_,rfl,rfl,hp,a,_,_,_,rfl,rfl,hS,at_ints (Int.emod_nonneg _ (by omega)) (by rw[←hl];exact Int.emod_lt_of_pos _ hp),?_⟩
  have e:cell (n::r) k=(n::r).getD (k % (((n::r).map V.int).length:Int)).toNat 0:=by rw[hl];rfl
  rw[←e]
  exact q
theorem scMix:FnScope ["_law_script","_law_k","_law_number"] ["_law_script","_law_k"] (za7 sMix):=⟨rfl,rfl,rfl,by decide +kernel,rfl,by decide +kernel,by decide +kernel⟩
theorem ok_mix(F:Fun K "_law_mix" "_law_mix" sMix f fd)(G:FnOk P w K mg base CX0 1 g gd ["_law_script","_law_k"] (spCell K))(bG:Binds K gd ["_law_script","_law_k"] [])(kG:PySem.W.keepIn K (.ref g)=true)(mG:mg "_law_cell"=some (.ref g)):
  FnOk P w K mg base CX0 2 f fd ["_law_script","_law_k"] (spMix K):=by
 refine F.okq scMix (fun vs H Q E h=>?_) (fun cdv A outer s H vs Q E hr h=>?_)
 ·obtain⟨a,ns,k,rfl,_⟩:=h
  rfl
 obtain⟨a,ns,k,rfl,hS,h63,q⟩:=h
 refine⟨_,za1 (zb2 (i:=2) scMix.nd rfl (Or.inl rfl) (zc4 zo8 (zc4 zk6 (zc0 G hr rfl mG kG bG .nil zc7 (za2 (pvq 0) (za2 (pvq 1) za3))) (zc4 yj6 za5 (zc4 zk6 (pvq 1) za5))) za5))
  (za1 (zb2 (i:=2) scMix.nd rfl (Or.inl rfl) (zc4 zo8 (zc4 yj6 (pvq 2) za5) za5))
  (za6 (zb4 (zc4 zo8 (zc4 zk6 (zc4 yj6 (zc4 zu7 (pvq 2) za5) za5) (pvq 2)) za5)))),?_⟩
 refine⟨_,rfl,_,rfl,a,ns,k,rfl,hS,h63,_,rfl,_,_,rfl,rfl,_,_,rfl,rfl,.inl ⟨by decide,by decide⟩,_,_,rfl,rfl,_,_,rfl,rfl,(by show(0:Int)<4294967291;decide),?_⟩
 refine⟨_,rfl,_,_,rfl,rfl,.inr ⟨by decide,by decide⟩,_,_,rfl,rfl,(by show(0:Int)<4294967279;decide),?_⟩
 refine⟨_,rfl,_,_,rfl,rfl,⟨by decide,by decide⟩,_,_,rfl,rfl,.inr ⟨by decide,by decide⟩,_,rfl,_,_,rfl,rfl,_,_,rfl,rfl,(by show(0:Int)<4294967231;decide),?_⟩
 exact q
end
end Pq
namespace Pq
open PySem L2
def zv2:Plan→Bool
 |.text _=>true
 |.line=>true
 |.cut=>true
 |_=>false
def zu4:Plan→List Nat
 |.text x=>x
 |.line=>[32]
 |_=>[]
def zm0:Plan→Str
 |.text _=>"text"
 |.line=>"line"
 |.cut=>"cut"
 |.nest _ _=>"nest"
 |.align _=>"align"
 |.flat _=>"flat"
 |.beside _ _=>"beside"
 |.choice _ _=>"choice"
theorem zo6{H:Hp}:∀ {p:Plan} {r:Addr},PlanAt H p r→∃xs,H r=some (.tup (.str (zm0 p)::xs))
 |.text _,_,e=>⟨_,e⟩
 |.line,_,e=>⟨_,e⟩
 |.cut,_,e=>⟨_,e⟩
 |.nest _ _,_,⟨_,e,_⟩=>⟨_,e⟩
 |.align _,_,⟨_,e,_⟩=>⟨_,e⟩
 |.flat _,_,⟨_,e,_⟩=>⟨_,e⟩
 |.beside _ _,_,⟨_,_,e,_⟩=>⟨_,e⟩
 |.choice _ _,_,⟨_,_,e,_⟩=>⟨_,e⟩
def yl6:Sp:=fun vs H Q _=>∃(r:Addr) (p:Plan),vs=[.ref r]∧PlanAt H p r∧Q (.bl (zv2 p)) H
def yl4:Sp:=fun vs H Q _=>∃(r:Addr) (p:Plan),vs=[.ref r]∧PlanAt H p r∧zv2 p=true∧Q (.str (tx (zu4 p))) H
abbrev vsB(t1 t2:Tok):List (Key×Value):=[(.inr "line",.str " " t1),(.inr "cut",.str "" t2)]
structure Brk(P:Program)(w:World)(mg:Str→Option Value)(base:Heap)(dB:Addr)(t1 t2:Tok):Prop where
 mB:mg "BREAKS_IN_ONE_ROW"=some (.ref dB)
 sB:(dB==sysModules)=false
 dd:base.DictOf (ze2 P w) dB (vsB t1 t2)
theorem val_line(t1 t2:Tok):valueAt (vsB t1 t2) (Sum.inr "line":Key)=some (.str " " t1):=by simp[valueAt,vsB]
theorem val_cut(t1 t2:Tok):valueAt (vsB t1 t2) (Sum.inr "cut":Key)=some (.str "" t2):=by
 have h:¬((("line":Str))="cut"):=by decide +kernel
 simp[valueAt,vsB,h]
theorem val_none(t1 t2:Tok){z:Str}(h1:¬(("line":Str)=z))(h2:¬(("cut":Str)=z)):valueAt (vsB t1 t2) (Sum.inr z:Key)=none:=by simp[valueAt,vsB,h1,h2]
def ya1:Plan→Bool
 |.text _=>true
 |_=>false
theorem zq5{a:Str}(h:¬a="text"):decide (V.str a=V.str "text")=false:=decide_eq_false fun e=>h (V.str.inj e)
theorem yf5:∀p:Plan,decide (V.str (zm0 p)=V.str "text")=ya1 p
 |.text _=>decide_eq_true rfl
 |.line=>zq5 (a:="line") (by decide +kernel)
 |.cut=>zq5 (a:="cut") (by decide +kernel)
 |.nest _ _=>zq5 (a:="nest") (by decide +kernel)
 |.align _=>zq5 (a:="align") (by decide +kernel)
 |.flat _=>zq5 (a:="flat") (by decide +kernel)
 |.beside _ _=>zq5 (a:="beside") (by decide +kernel)
 |.choice _ _=>zq5 (a:="choice") (by decide +kernel)
theorem head_brk(t1 t2:Tok)(p:Plan):(valueAt (vsB t1 t2) (Sum.inr (zm0 p):Key)).isSome=(zv2 p && !ya1 p):=by
 cases p with
 |line=>show(valueAt (vsB t1 t2) (Sum.inr "line":Key)).isSome=_;rw[val_line];rfl
 |cut=>show(valueAt (vsB t1 t2) (Sum.inr "cut":Key)).isSome=_;rw[val_cut];rfl
 |_=>simp only[zm0];rw[val_none _ _ (by decide +kernel) (by decide +kernel)];rfl
section
variable {P:Program}{w:World}{K:PySem.W.Frag}{mg:Str→Option Value}{base:Heap}{f g:Addr}{fd gd:FuncData}
theorem scIsLeaf:FnScope ["plan"] ["plan"] (za7 zy9):=⟨rfl,rfl,rfl,by decide +kernel,rfl,by decide +kernel,by decide +kernel⟩
theorem ok_isLeaf{dB:Addr}{t1 t2:Tok}(F:Fun K "is_leaf" "is_leaf" zy9 f fd)(B:Brk P w mg base dB t1 t2):FnOk P w K mg base CX0 1 f fd ["plan"] yl6:=by
 refine F.okq scIsLeaf (fun vs H Q E h=>?_) (fun cdv A outer s H vs Q E hr h=>?_)
 ·obtain⟨r,p,rfl,_⟩:=h
  rfl
 obtain⟨r,p,rfl,hP,q⟩:=h
 refine⟨_,za6 (zb4 (pe_orq (zw7 zh1 (zb1 zb3 (pvq 0) za5 (fun _ _=>rfl)) zb5 (zd7 _)) (ym6 (zw7 (op_inC B.sB B.dd) (zb1 zb3 (pvq 0) za5 (fun _ _=>rfl)) (zq1 rfl B.mB (v:=.ref dB) rfl) rfl)))),?_⟩
 obtain⟨xs,hx⟩:=zo6 hP
 refine⟨_,rfl,r,_,_,.str (zm0 p),rfl,rfl,SqT.of hx,(by show atI (V.str (zm0 p)::xs) ((0:Nat):Int)=_;exact zh0 rfl),rfl,_,rfl,?_⟩
 rw[yf5]
 cases c:ya1 p with
 |true=>
  have e:zv2 p=true:=by cases p<;>first|rfl|cases c
  rw[e] at q
  exact zu0 q
 |false=>
  refine yb2 ⟨_,rfl,r,_,_,.str (zm0 p),rfl,rfl,SqT.of hx,(by show atI (V.str (zm0 p)::xs) ((0:Nat):Int)=_;exact zh0 rfl),zm0 p,rfl,rfl,?_⟩
  rw[head_brk,c]
  have e:(zv2 p && !false)=zv2 p:=by cases zv2 p<;>rfl
  rw[e]
  exact q
end
end Pq
namespace Pq
open PySem
def zh6:Plan→Plan
 |.nest _ p=>zh6 p
 |.align p=>zh6 p
 |.flat p=>zh6 p
 |p=>p
def zk8:Plan→Bool
 |.nest _ _=>false
 |.align _=>false
 |.flat _=>false
 |_=>true
theorem zs5:∀p:Plan,zk8 (zh6 p)=true
 |.text _=>rfl
 |.line=>rfl
 |.cut=>rfl
 |.nest _ p=>zs5 p
 |.align p=>zs5 p
 |.flat p=>zs5 p
 |.beside _ _=>rfl
 |.choice _ _=>rfl
theorem core_core:∀ {p:Plan},zk8 p=true→zh6 p=p
 |.text _,_=>rfl
 |.line,_=>rfl
 |.cut,_=>rfl
 |.beside _ _,_=>rfl
 |.choice _ _,_=>rfl
theorem zm1:∀p:Plan,(zh6 p).deep≤p.deep
 |.text _=>Nat.le_refl _
 |.line=>Nat.le_refl _
 |.cut=>Nat.le_refl _
 |.nest _ p=>by have:=zm1 p;simp only[zh6,Plan.deep];omega
 |.align p=>by have:=zm1 p;simp only[zh6,Plan.deep];omega
 |.flat p=>by have:=zm1 p;simp only[zh6,Plan.deep];omega
 |.beside _ _=>Nat.le_refl _
 |.choice _ _=>Nat.le_refl _
def yg7(p q:Plan):List Plan:=if zh6 p=zh6 q then[zh6 p] else[zh6 p,zh6 q]
def zj3:Plan→List Plan
 |.beside p q=>yg7 p q
 |.choice p q=>yg7 p q
 |_=>[]
theorem ckids_le(c:Plan):(zj3 c).length≤2:=by
 cases c<;>simp only[zj3,yg7]<;>first|(split<;>simp)|simp
def zf4:Plan→List Plan
 |.nest _ p=>zf4 p
 |.align p=>zf4 p
 |.flat p=>zf4 p
 |.beside p q=>if zh6 p=zh6 q then zf4 p++[.beside p q] else zf4 p++(zf4 q++[.beside p q])
 |.choice p q=>if zh6 p=zh6 q then zf4 p++[.choice p q] else zf4 p++(zf4 q++[.choice p q])
 |p=>[p]
theorem zm5:∀p:Plan,zf4 (zh6 p)=zf4 p
 |.text _=>rfl
 |.line=>rfl
 |.cut=>rfl
 |.nest _ p=>zm5 p
 |.align p=>zm5 p
 |.flat p=>zm5 p
 |.beside _ _=>rfl
 |.choice _ _=>rfl
theorem cpost_kids{c:Plan}(h:zk8 c=true):(zf4 c).reverse=c::((zj3 c).reverse.flatMap fun q=>(zf4 q).reverse):=by
 cases c with
 |text _=>rfl
 |line=>rfl
 |cut=>rfl
 |nest _ _=>cases h
 |align _=>cases h
 |flat _=>cases h
 |beside p q=>
  simp only[zf4,zj3,yg7]
  split<;>simp[zm5]
 |choice p q=>
  simp only[zf4,zj3,yg7]
  split<;>simp[zm5]
theorem zi8:∀p:Plan,(zf4 p).length≤p.size∧1≤(zf4 p).length
 |.text _=>⟨Nat.le_refl _,Nat.le_refl _⟩
 |.line=>⟨Nat.le_refl _,Nat.le_refl _⟩
 |.cut=>⟨Nat.le_refl _,Nat.le_refl _⟩
 |.nest _ p=>by have:=zi8 p;simp only[zf4,Plan.size];omega
 |.align p=>by have:=zi8 p;simp only[zf4,Plan.size];omega
 |.flat p=>by have:=zi8 p;simp only[zf4,Plan.size];omega
 |.beside p q=>by
  have:=zi8 p
  have:=zi8 q
  simp only[zf4,Plan.size]
  split<;>simp only[List.length_append,List.length_cons,List.length_nil]<;>omega
 |.choice p q=>by
  have:=zi8 p
  have:=zi8 q
  simp only[zf4,Plan.size]
  split<;>simp only[List.length_append,List.length_cons,List.length_nil]<;>omega
def yh5(st:List Plan):List Plan:=st.flatMap fun q=>(zf4 q).reverse
theorem couts_step{c:Plan}(h:zk8 c=true)(st:List Plan):yh5 (c::st)=c::yh5 ((zj3 c).reverse++st):=by
 unfold yh5
 rw[List.flatMap_cons,cpost_kids h,List.flatMap_append];rfl
theorem ckids_core{c q:Plan}(h:q∈zj3 c):zk8 q=true:=by
 cases c with
 |beside a b=>
  simp only[zj3,yg7] at h
  split at h
  ·simp at h;rw[h];exact zs5 _
  ·simp at h;rcases h with rfl|rfl<;>exact zs5 _
 |choice a b=>
  simp only[zj3,yg7] at h
  split at h
  ·simp at h;rw[h];exact zs5 _
  ·simp at h;rcases h with rfl|rfl<;>exact zs5 _
 |_=>cases h
theorem couts_pos(st:List Plan):st.length≤(yh5 st).length:=by
 unfold yh5
 induction st with
 |nil=>exact Nat.le_refl _
 |cons p st ih=>
  have:=(zi8 p).2
  rw[List.flatMap_cons,List.length_append,List.length_reverse,List.length_cons];omega
def zr5(c:Plan)(s:List Plan):Option (List Plan):=match zj3 c,s with
 |[],s=>some (c::s)
 |[a],x::r=>if x=a then some (c::r) else none
 |[a,b],y::x::r=>if x=a∧y=b then some (c::r) else none
 |_,_=>none
def yg8:List Plan→List Plan→Option (List Plan)
 |[],s=>some s
 |c::r,s=>(zr5 c s).bind (yg8 r)
theorem zh3:∀(a b s:List Plan),yg8 (a++b) s=(yg8 a s).bind (yg8 b)
 |[],b,s=>rfl
 |c::a,b,s=>by
  show(zr5 c s).bind (yg8 (a++b))=((zr5 c s).bind (yg8 a)).bind (yg8 b)
  cases zr5 c s with
  |none=>rfl
  |some s'=>exact zh3 a b s'
theorem zi2:∀(p:Plan) (s:List Plan),yg8 (zf4 p) s=some (zh6 p::s)
 |.text _,s=>rfl
 |.line,s=>rfl
 |.cut,s=>rfl
 |.nest _ p,s=>zi2 p s
 |.align p,s=>zi2 p s
 |.flat p,s=>zi2 p s
 |.beside p q,s=>by
  simp only[zf4]
  split
  ·rename_i h
   rw[zh3,zi2 p]
   simp[yg8,zr5,zj3,yg7,h,zh6]
  ·rename_i h
   rw[zh3,zi2 p,Option.bind_some,zh3,zi2 q]
   simp[yg8,zr5,zj3,yg7,h,zh6]
 |.choice p q,s=>by
  simp only[zf4]
  split
  ·rename_i h
   rw[zh3,zi2 p]
   simp[yg8,zr5,zj3,yg7,h,zh6]
  ·rename_i h
   rw[zh3,zi2 p,Option.bind_some,zh3,zi2 q]
   simp[yg8,zr5,zj3,yg7,h,zh6]
theorem cstk_at(p:Plan)(i:Nat)(q:Plan)(h:(zf4 p)[i]? = some q):∃s s',yg8 ((zf4 p).take i) []=some s∧zr5 q s=some s'∧yg8 ((zf4 p).take (i+1)) []=some s':=by
 obtain⟨hi,e⟩:=List.getElem?_eq_some_iff.mp h
 have e1:zf4 p=(zf4 p).take i++q::(zf4 p).drop (i+1):=by
  rw[←e,←List.drop_eq_getElem_cons hi,List.take_append_drop]
 have e2:yg8 (zf4 p) []=some [zh6 p]:=zi2 p []
 rw[e1,zh3] at e2
 cases z:yg8 ((zf4 p).take i) [] with
 |none=>rw[z] at e2;cases e2
 |some s=>
  rw[z,Option.bind_some] at e2
  have e3:(zr5 q s).bind (yg8 ((zf4 p).drop (i+1)))=some [zh6 p]:=e2
  cases z2:zr5 q s with
  |none=>rw[z2] at e3;cases e3
  |some s'=>
   refine⟨s,s',rfl,z2,?_⟩
   have e4:(zf4 p).take (i+1)=(zf4 p).take i++[q]:=by rw[List.take_add_one,h];rfl
   rw[e4,zh3,z,Option.bind_some]
   show(zr5 q s).bind (yg8 [])=_
   rw[z2];rfl
theorem cstk_len:∀(l s s':List Plan),yg8 l s=some s'→s'.length≤l.length+s.length
 |[],s,s',h=>by cases h;simp
 |c::l,s,s',h=>by
  have h':(zr5 c s).bind (yg8 l)=some s':=h
  cases z:zr5 c s with
  |none=>rw[z] at h';cases h'
  |some s1=>
   rw[z] at h'
   have i1:=cstk_len l s1 s' h'
   have i2:s1.length≤s.length+1:=by
    unfold zr5 at z
    split at z
    ·cases z;simp
    ·split at z
     ·cases z;simp
     ·cases z
    ·split at z
     ·cases z;simp
     ·cases z
    ·cases z
   simp only[List.length_cons];omega
def zg9:Plan→PyData
 |.text x=>.tuple [.str "text",.str (tx x)]
 |.line=>.tuple [.str "line"]
 |.cut=>.tuple [.str "cut"]
 |.nest n p=>.tuple [.str "nest",.int (n:Nat),zg9 p]
 |.align p=>.tuple [.str "align",zg9 p]
 |.flat p=>.tuple [.str "flat",zg9 p]
 |.beside p q=>.tuple [.str "beside",zg9 p,zg9 q]
 |.choice p q=>.tuple [.str "choice",zg9 p,zg9 q]
def Plan.Lay:Plan→Prop
 |.text t=>∀c∈t,c<1114112
 |.line=>True|.cut=>True
 |.nest _ p=>p.Lay|.align p=>p.Lay|.flat p=>p.Lay
 |.beside p q=>p.Lay∧q.Lay
 |.choice p q=>p.Lay∧q.Lay
theorem zk5:∀ {p:Plan},p.Lay→(zh6 p).Lay
 |.text _,h=>h
 |.line,h=>h
 |.cut,h=>h
 |.nest _ p,h=>zk5 (p:=p) h
 |.align p,h=>zk5 (p:=p) h
 |.flat p,h=>zk5 (p:=p) h
 |.beside _ _,h=>h
 |.choice _ _,h=>h
theorem zi1:∀p:Plan,p.Lay→(zg9 p).canLay0=true
 |.text x,h=>by
  have:PyData.strOk (tx x)=true:=by
   unfold PyData.strOk tx
   simp only[List.all_toArray,List.all_eq_true]
   intro c hc
   exact decide_eq_true (h c hc)
  simp[zg9,PyData.canLay0,PyData.canLayAll0,this];decide +kernel
 |.line,_=>by simp[zg9,PyData.canLay0,PyData.canLayAll0];decide +kernel
 |.cut,_=>by simp[zg9,PyData.canLay0,PyData.canLayAll0];decide +kernel
 |.nest n p,h=>by simp[zg9,PyData.canLay0,PyData.canLayAll0,zi1 p h];decide +kernel
 |.align p,h=>by simp[zg9,PyData.canLay0,PyData.canLayAll0,zi1 p h];decide +kernel
 |.flat p,h=>by simp[zg9,PyData.canLay0,PyData.canLayAll0,zi1 p h];decide +kernel
 |.beside p q,h=>by simp[zg9,PyData.canLay0,PyData.canLayAll0,zi1 p h.1,zi1 q h.2];decide +kernel
 |.choice p q,h=>by simp[zg9,PyData.canLay0,PyData.canLayAll0,zi1 p h.1,zi1 q h.2];decide +kernel
theorem zi5:∀p:Plan,(zg9 p).depth≤p.deep+1
 |.text x=>by simp[zg9,PyData.depth,PyData.depthAll,Plan.deep]
 |.line=>by simp[zg9,PyData.depth,PyData.depthAll,Plan.deep]
 |.cut=>by simp[zg9,PyData.depth,PyData.depthAll,Plan.deep]
 |.nest n p=>by have:=zi5 p;simp[zg9,PyData.depth,PyData.depthAll,Plan.deep];omega
 |.align p=>by have:=zi5 p;simp[zg9,PyData.depth,PyData.depthAll,Plan.deep];omega
 |.flat p=>by have:=zi5 p;simp[zg9,PyData.depth,PyData.depthAll,Plan.deep];omega
 |.beside p q=>by have:=zi5 p;have:=zi5 q;simp[zg9,PyData.depth,PyData.depthAll,Plan.deep];omega
 |.choice p q=>by have:=zi5 p;have:=zi5 q;simp[zg9,PyData.depth,PyData.depthAll,Plan.deep];omega
def yk3:Plan→Str
 |.text _=>"text"
 |.line=>"line"
 |.cut=>"cut"
 |.nest _ _=>"nest"
 |.align _=>"align"
 |.flat _=>"flat"
 |.beside _ _=>"beside"
 |.choice _ _=>"choice"
def kindN:Plan→Nat
 |.text _=>0|.line=>1|.cut=>2|.nest _ _=>3|.align _=>4|.flat _=>5|.beside _ _=>6|.choice _ _=>7
def kindW:List Str:=["text","line","cut","nest","align","flat","beside","choice"]
theorem yf2:kindW.Nodup:=by decide +kernel
theorem head_kind(p:Plan):kindW[kindN p]? = some (yk3 p):=by cases p<;>rfl
theorem head_ne{p q:Plan}(h:kindN p≠kindN q):yk3 p≠yk3 q:=fun e=>by
 obtain⟨h1,e1⟩:=List.getElem?_eq_some_iff.mp (head_kind p)
 obtain⟨h2,e2⟩:=List.getElem?_eq_some_iff.mp (head_kind q)
 rcases Nat.lt_or_gt_of_ne h with z|z
 ·exact List.pairwise_iff_getElem.mp yf2 _ _ h1 h2 z (by rw[e1,e2,e])
 ·exact List.pairwise_iff_getElem.mp yf2 _ _ h2 h1 z (by rw[e1,e2,e])
theorem yk7(p:Plan):∃ds,zg9 p=.tuple (.str (yk3 p)::ds):=by cases p<;>exact⟨_,rfl⟩
theorem eqv_kind{p q:Plan}(h:kindN p≠kindN q):PyData.eqv (zg9 p) (zg9 q)=false:=by
 obtain⟨ds,e⟩:=yk7 p
 obtain⟨es,e'⟩:=yk7 q
 rw[e,e']
 have:(yk3 p==yk3 q)=false:=beq_eq_false_iff_ne.mpr (head_ne h)
 simp[PyData.eqv,PyData.eqvAll,this]
theorem zu2 : ∀ p q : Plan, PyData.eqv (zg9 p) (zg9 q) = decide (p = q) := fun p q => by
  by_cases h : kindN p = kindN q
  · cases p <;> cases q <;> first
      | (exfalso; revert h; simp only [kindN]; intro h; omega; done)
      | (rename_i x y
         by_cases e : x = y
         · subst e; simp [zg9, PyData.eqv, PyData.eqvAll]
         · have : ¬ tx x = tx y := fun z => e (tx_inj z)
           simp [zg9, PyData.eqv, PyData.eqvAll, e, this])
      | (simp [zg9, PyData.eqv, PyData.eqvAll]; done)
      | (rename_i n p m q
         have ih := zu2 p q
         have en : (((n : Nat) : Int) == ((m : Nat) : Int)) = decide (n = m) := by
           by_cases e : n = m
           · subst e; simp
           · rw [decide_eq_false e, beq_eq_false_iff_ne]; omega
         simp [zg9, PyData.eqv, PyData.eqvAll, ih, en, Bool.decide_and]; done)
      | (rename_i p q
         have ih := zu2 p q
         simp [zg9, PyData.eqv, PyData.eqvAll, ih]; done)
      | (rename_i p1 p2 q1 q2
         have ih1 := zu2 p1 q1
         have ih2 := zu2 p2 q2
         simp [zg9, PyData.eqv, PyData.eqvAll, ih1, ih2, Bool.decide_and]; done)
  · rw [eqv_kind h]
    exact (decide_eq_false fun e => h (by rw [e])).symm
theorem signs_lt:∀n:Nat,signs.getD n 0<1114112:=by
 intro n
 by_cases h:n<94
 ·have all:∀m:Nat,m<94→signs.getD m 0<1114112:=by decide
  exact all n h
 ·have:signs.getD n 0=0:=by
   rw[List.getD_eq_getElem?_getD,List.getElem?_eq_none (by show(94:Nat)≤n;omega)];rfl
  omega
theorem textOf_lay(ns:List Int)(k:Int):∀c∈zv8 ns k,c<1114112:=by
 intro c hc
 unfold zv8 at hc
 rw[List.mem_replicate] at hc
 rw[hc.2]
 exact signs_lt _
theorem yk1(ns:List Int)(k:Int):(zi6 ns k).Lay:=by
 unfold zi6
 split
 ·exact textOf_lay ns _
 ·split
  ·intro c hc
   simp at hc;omega
  ·split<;>exact trivial
theorem zz3(ns:List Int):∀(d:Nat) (k:Int),(zf3 ns d k).Lay
 |0,k=>yk1 ns k
 |d+1,k=>by
  have h1:=zz3 ns d (2*k+1)
  have h2:=zz3 ns d (2*k+2)
  unfold zf3
  repeat' split
  all_goals first
   |exact yk1 ns k
   |exact h1
   |exact⟨h1,h2⟩
   |exact⟨h1,h1⟩
end Pq
namespace Pq
open PySem L2
abbrev PlansAt(H:Hp):List Addr→List Plan→Prop:=Paired fun a p=>PlanAt H p a
theorem PlansAt.mono{H H':Hp}(h:Tups H H'){as:List Addr}{ps:List Plan}(r:PlansAt H as ps):PlansAt H' as ps:=Paired.mapP r fun _ _ e=>e.mono h
theorem PlansAt.take{H:Hp}:∀ {as:List Addr} {ps:List Plan} (k:Nat),PlansAt H as ps→PlansAt H (as.take k) (ps.take k)
 |_,_,0,_=>by rw[List.take_zero,List.take_zero];exact .nil
 |_,_,k+1,.nil=>by rw[List.take_nil,List.take_nil];exact .nil
 |_,_,k+1,.cons r t=>.cons r (PlansAt.take k t)
theorem PlansAt.drop{H:Hp}:∀ {as:List Addr} {ps:List Plan} (k:Nat),PlansAt H as ps→PlansAt H (as.drop k) (ps.drop k)
 |_,_,0,h=>h
 |_,_,k+1,.nil=>by rw[List.drop_nil,List.drop_nil];exact .nil
 |_,_,k+1,.cons _ t=>PlansAt.drop k t
theorem PlansAt.get{H:Hp}:∀ {as:List Addr} {ps:List Plan} {i:Nat} {v:V},PlansAt H as ps→(as.map V.ref)[i]? = some v→∃a p,v=.ref a∧as[i]? = some a∧ps[i]? = some p∧PlanAt H p a
 |_,_,_,_,.nil,e=>by simp at e
 |_,_,0,_,.cons r _,e=>by simp at e;subst e;exact⟨_,_,rfl,rfl,rfl,r⟩
 |_,_,i+1,v,.cons _ t,e=>by
  obtain⟨a,row,h1,h2,h3,h4⟩:=PlansAt.get (i:=i) (v:=v) t (by simpa using e)
  exact⟨a,row,h1,by simpa using h2,by simpa using h3,h4⟩
theorem PlansAt.append{H:Hp}:∀ {as bs:List Addr} {ps qs:List Plan},PlansAt H as ps→PlansAt H bs qs→PlansAt H (as++bs) (ps++qs)
 |_,_,_,_,.nil,s=>s
 |_,_,_,_,.cons r t,s=>.cons r (PlansAt.append t s)
theorem yd7{H:Hp}{as:List Addr}{ps:List Plan}(h:PlansAt H as ps):as.length=ps.length:=Paired.length h
theorem PlanAt.dv{H:Hp}:∀ {p:Plan} {r:Addr},PlanAt H p r→DV H (.ref r) (zg9 p)
 |.text _,_,e=>.tup e (.cons (.str _) (.cons (.str _) .nil))
 |.line,_,e=>.tup e (.cons (.str _) .nil)
 |.cut,_,e=>.tup e (.cons (.str _) .nil)
 |.nest _ _,_,⟨_,e,q⟩=>.tup e (.cons (.str _) (.cons (.int _) (.cons (PlanAt.dv q) .nil)))
 |.align _,_,⟨_,e,q⟩=>.tup e (.cons (.str _) (.cons (PlanAt.dv q) .nil))
 |.flat _,_,⟨_,e,q⟩=>.tup e (.cons (.str _) (.cons (PlanAt.dv q) .nil))
 |.beside _ _,_,⟨_,_,e,q,q'⟩=>.tup e (.cons (.str _) (.cons (PlanAt.dv q) (.cons (PlanAt.dv q') .nil)))
 |.choice _ _,_,⟨_,_,e,q,q'⟩=>.tup e (.cons (.str _) (.cons (PlanAt.dv q) (.cons (PlanAt.dv q') .nil)))
def CoreAt(H:Hp)(t:Addr)(c:Plan):Prop:=∃a,H t=some (.tup [.ref a,.int ((zj3 c).length:Nat)])∧PlanAt H c a
abbrev CoresAt(H:Hp):List Addr→List Plan→Prop:=Paired (CoreAt H)
theorem CoreAt.mono{H H':Hp}(h:Tups H H'){t:Addr}{c:Plan}:CoreAt H t c→CoreAt H' t c:=fun⟨a,e,q⟩=>⟨a,h _ _ e,q.mono h⟩
theorem CoresAt.mono{H H':Hp}(h:Tups H H'){ts:List Addr}{cs:List Plan}(r:CoresAt H ts cs):CoresAt H' ts cs:=Paired.mapP r fun _ _ e=>e.mono h
theorem CoresAt.get{H:Hp}:∀ {as:List Addr} {ps:List Plan} {i:Nat} {v:V},CoresAt H as ps→(as.map V.ref)[i]? = some v→∃a p,v=.ref a∧ps[i]? = some p∧CoreAt H a p
 |_,_,_,_,.nil,e=>by simp at e
 |_,_,0,_,.cons r _,e=>by simp at e;subst e;exact⟨_,_,rfl,rfl,r⟩
 |_,_,i+1,v,.cons _ t,e=>by
  obtain⟨a,row,h1,h2,h3⟩:=CoresAt.get (i:=i) (v:=v) t (by simpa using e)
  exact⟨a,row,h1,by simpa using h2,h3⟩
theorem zz4{α β:Type}{R:α→β→Prop}{as:List α}{bs:List β}(h:Paired R as bs):Paired R as.reverse bs.reverse:=by
 induction h with
 |nil=>exact .nil
 |cons e t ih=>rw[List.reverse_cons,List.reverse_cons];exact zd5 ih (.cons e .nil)
end Pq
namespace Pq
open PySem L2
abbrev yb4:List V:=[.str "nest",.str "align",.str "flat"]
structure Wrp(K:PySem.W.Frag)(mg:Str→Option Value)(aW:Addr):Prop where
 mW:mg "WRAPPERS"=some (.ref aW)
 sq:∀H,SqT K H aW yb4
theorem wrap_in:∀p:Plan,inV (.str (zm0 p)) yb4 = !zk8 p
 |.text _=>by show inV (.str "text") yb4=false;decide +kernel
 |.line=>by show inV (.str "line") yb4=false;decide +kernel
 |.cut=>by show inV (.str "cut") yb4=false;decide +kernel
 |.nest _ _=>by show inV (.str "nest") yb4=true;decide +kernel
 |.align _=>by show inV (.str "align") yb4=true;decide +kernel
 |.flat _=>by show inV (.str "flat") yb4=true;decide +kernel
 |.beside _ _=>by show inV (.str "beside") yb4=false;decide +kernel
 |.choice _ _=>by show inV (.str "choice") yb4=false;decide +kernel
def yb8:Sp:=fun vs H Q _=>∃(r:Addr) (p:Plan),vs=[.ref r]∧PlanAt H p r∧∀a,PlanAt H (zh6 p) a→Q (.ref a) H
def spKids:Sp:=fun vs H Q _=>∃(r:Addr) (c:Plan),vs=[.ref r]∧PlanAt H c r∧zk8 c=true∧c.Lay∧c.deep≤60∧∀(l:Addr) (as:List Addr) (H':Hp),Same H H'→H l=none→H' l=some (.lst (as.map V.ref))→PlansAt H' as (zj3 c)→Q (.ref l) H'
def spCores:Sp:=fun vs H Q _=>∃(r:Addr) (p:Plan),vs=[.ref r]∧PlanAt H p r∧p.Lay∧p.deep≤60∧p.size≤100000∧∀(l:Addr) (ts:List Addr) (H':Hp),Same H H'→H l=none→H' l=some (.lst (ts.map V.ref))→CoresAt H' ts (zf4 p).reverse→Q (.ref l) H'
section
variable {P:Program}{w:World}{K:PySem.W.Frag}{mg:Str→Option Value}{base:Heap}{f g:Addr}{fd gd:FuncData}{aW:Addr}
theorem scCoreOf:FnScope ["plan"] ["plan"] (za7 zz0):=⟨rfl,rfl,rfl,by decide +kernel,rfl,by decide +kernel,by decide +kernel⟩
theorem ok_coreOf(F:Fun K "core_of" "core_of" zz0 f fd)(T:Wrp K mg aW):FnOk P w K mg base CX0 1 f fd ["plan"] yb8:=by
 refine F.okq scCoreOf (fun vs H Q E h=>?_) (fun cdv A outer s H vs Q E hr h=>?_)
 ·obtain⟨r,p,rfl,_⟩:=h
  rfl
 obtain⟨r,p,rfl,hP,q⟩:=h
 have nd:=scCoreOf.nd
 refine⟨_,za1 (zl5 PassesOwn.never (zb6 zs1 (zb1 zb3 (pvq 0) za5 (fun _ _=>rfl)) (zq1 rfl T.mW (v:=.ref aW) rfl) rfl) (za6 (zb2 (i:=0) nd rfl (Or.inl rfl) (zb1 zb3 (pvq 0) (yd8 yc6 za5) (fun _ _=>rfl))))) (za6 (zb4 (pvq 0))),?_⟩
 refine⟨fun m σ H'=>H'=H∧∃r' p',σ=[some (.ref r')]∧PlanAt H p' r'∧zh6 p'=zh6 p∧m=p'.size,⟨_,rfl,r,p,rfl,hP,rfl,rfl⟩,?_⟩
 rintro m σ H' ⟨rfl,r',p',rfl,hP',ec,rfl⟩
 obtain⟨xs,hx⟩:=zo6 hP'
 refine⟨_,rfl,r',_,_,.str (zm0 p'),rfl,rfl,SqT.of hx,(by show atI (V.str (zm0 p')::xs) ((0:Nat):Int)=_;exact zh0 rfl),aW,_,rfl,.inr (T.sq H'),rfl,rfl,_,rfl,?_⟩
 show if inV (.str (zm0 p')) yb4=true then _ else _
 rw[wrap_in]
 have fin:zk8 p'=true→Q (.ref r') H':=fun h=>q r' (by rw[←ec,core_core h];exact hP')
 have step:∀(p2:Plan) (a2:Addr) (ys:List V),H' r'=some (.tup ys)→PlanAt H' p2 a2→zh6 p2=zh6 p'→p2.size<p'.size→atI ys (-1)=some (.ref a2)→
   ∃N:St→Hp→Prop,(∀σ' H'',N σ' H''→∃m',m'<p'.size∧H''=H'∧∃r' p',σ'=[some (.ref r')]∧PlanAt H' p' r'∧zh6 p'=zh6 p∧m'=p'.size)∧
    ∃v,([some (V.ref r')]:St)[0]? = some (some v)∧∃i,V.int 1=.int i∧∃p0 ys0 i0 v0,v=.ref p0∧V.int (-i)=.int i0∧SqT K H' p0 ys0∧atI ys0 i0=some v0∧N (([some (V.ref r')]:St).set 0 (some v0)) H':=fun p2 a2 ys hr2 hp2 e2 hs hat=>
  ⟨fun σ' H''=>∃m',m'<p'.size∧H''=H'∧∃r' p',σ'=[some (.ref r')]∧PlanAt H' p' r'∧zh6 p'=zh6 p∧m'=p'.size,fun σ' H'' z=>z,_,rfl,_,rfl,r',ys,_,.ref a2,rfl,rfl,SqT.of hr2,hat,p2.size,hs,rfl,a2,p2,rfl,hp2,e2.trans ec,rfl⟩
 cases p' with
 |nest n p2=>obtain⟨a2,e,q2⟩:=hP';exact zu0 (step p2 a2 _ e q2 rfl (by simp only[Plan.size];omega) rfl)
 |align p2=>obtain⟨a2,e,q2⟩:=hP';exact zu0 (step p2 a2 _ e q2 rfl (by simp only[Plan.size];omega) rfl)
 |flat p2=>obtain⟨a2,e,q2⟩:=hP';exact zu0 (step p2 a2 _ e q2 rfl (by simp only[Plan.size];omega) rfl)
 |_=>exact yb2 ⟨_,rfl,fin rfl⟩
theorem scKids:FnScope ["core","first","second"] ["core"] (za7 zy0):=⟨rfl,rfl,rfl,by decide +kernel,rfl,by decide +kernel,by decide +kernel⟩
theorem ok_kids{fc:Addr}{cD:FuncData}(F:Fun K "cores_within" "cores_within" zy0 f fd)(GL:FnOk P w K mg base CX0 1 g gd ["plan"] yl6)(bL:Binds K gd ["plan"] [])(kL:PySem.W.keepIn K (.ref g)=true)(mL:mg "is_leaf"=some (.ref g))
  (GC:FnOk P w K mg base CX0 1 fc cD ["plan"] yb8) (bC:Binds K cD ["plan"] []) (kC:PySem.W.keepIn K (.ref fc)=true) (mC:mg "core_of"=some (.ref fc)):FnOk P w K mg base CX0 2 f fd ["core"] spKids:=by
 refine F.okq scKids (fun vs H Q E h=>?_) (fun cdv A outer s H vs Q E hr h=>?_)
 ·obtain⟨r,c,rfl,_⟩:=h
  rfl
 obtain⟨r,c,rfl,hP,hc,hl,hd,q⟩:=h
 have nd:=scKids.nd
 have hu:=hr.units
 refine⟨_,za1 (zd0 (zp8 (zc0 GL hr rfl mL kL bL .nil zc7 (za2 (pvq 0) za3))) (za6 (zb4 (zd4 za3))) zb9)<|
  za1 (zb2 (i:=1) nd rfl (Or.inl rfl) (zc0 GC hr rfl mC kC bC .nil zc7 (zb7 (zb1 zb3 (pvq 0) za5 (fun _ _=>rfl)) za3)))<|
  za1 (zb2 (i:=2) nd rfl (Or.inl rfl) (zc0 GC hr rfl mC kC bC .nil zc7 (zb7 (zb1 zb3 (pvq 0) za5 (fun _ _=>rfl)) za3)))<|
  za6 (zb4 (zk1 (zb6 (op_eqD hu) (pvq 1) (pvq 2) (zd7 _)) (zd4 (za2 (pvq 1) za3)) (zd4 (za2 (pvq 1) (za2 (pvq 2) za3))))),?_⟩
 refine⟨_,rfl,r,c,rfl,hP,_,rfl,?_⟩
 have leaf:zv2 c=true→zj3 c=[]:=by cases c<;>first|(intro _;rfl)|(intro h;cases h)
 cases c with
 |beside a b=>
  obtain⟨x,y,hr2,ha,hb⟩:=hP
  have hd':max a.deep b.deep+1≤60:=hd
  have ek:zj3 (.beside a b)=yg7 a b:=rfl
  refine yb2 ⟨_,rfl,r,_,_,.ref x,rfl,rfl,SqT.of hr2,rfl,x,a,rfl,ha,fun a1 h1=>?_⟩
  refine⟨_,rfl,r,_,_,.ref y,rfl,rfl,SqT.of hr2,rfl,y,b,rfl,hb,fun a2 h2=>?_⟩
  have k1:=zm1 a
  have k2:=zi5 (zh6 a)
  refine⟨_,rfl,_,rfl,zg9 (zh6 a),zg9 (zh6 b),h1.dv,h2.dv,zi1 _ (zk5 hl.1),zi1 _ (zk5 hl.2),by omega,_,rfl,?_⟩
  rw[zu2]
  refine ite2 (fun e=>?_) (fun e=>?_)
  ·have e':zh6 a=zh6 b:=of_decide_eq_true e
   refine⟨_,rfl,(by show 1≤sizeLine;decide),fun l hl=>q l [a1] _ (za4 hl _) hl za0 ?_⟩
   rw[ek];unfold yg7;rw[if_pos e']
   exact .cons (h1.mono (.of (za4 hl _))) .nil
  ·have e':¬zh6 a=zh6 b:=fun z=>e (decide_eq_true z)
   refine⟨_,rfl,_,rfl,(by show 2≤sizeLine;decide),fun l hl=>q l [a1,a2] _ (za4 hl _) hl za0 ?_⟩
   rw[ek];unfold yg7;rw[if_neg e']
   exact .cons (h1.mono (.of (za4 hl _))) (.cons (h2.mono (.of (za4 hl _))) .nil)
 |choice a b=>
  obtain⟨x,y,hr2,ha,hb⟩:=hP
  have hd':max a.deep b.deep+1≤60:=hd
  have ek:zj3 (.choice a b)=yg7 a b:=rfl
  refine yb2 ⟨_,rfl,r,_,_,.ref x,rfl,rfl,SqT.of hr2,rfl,x,a,rfl,ha,fun a1 h1=>?_⟩
  refine⟨_,rfl,r,_,_,.ref y,rfl,rfl,SqT.of hr2,rfl,y,b,rfl,hb,fun a2 h2=>?_⟩
  have k1:=zm1 a
  have k2:=zi5 (zh6 a)
  refine⟨_,rfl,_,rfl,zg9 (zh6 a),zg9 (zh6 b),h1.dv,h2.dv,zi1 _ (zk5 hl.1),zi1 _ (zk5 hl.2),by omega,_,rfl,?_⟩
  rw[zu2]
  refine ite2 (fun e=>?_) (fun e=>?_)
  ·have e':zh6 a=zh6 b:=of_decide_eq_true e
   refine⟨_,rfl,(by show 1≤sizeLine;decide),fun l hl=>q l [a1] _ (za4 hl _) hl za0 ?_⟩
   rw[ek];unfold yg7;rw[if_pos e']
   exact .cons (h1.mono (.of (za4 hl _))) .nil
  ·have e':¬zh6 a=zh6 b:=fun z=>e (decide_eq_true z)
   refine⟨_,rfl,_,rfl,(by show 2≤sizeLine;decide),fun l hl=>q l [a1,a2] _ (za4 hl _) hl za0 ?_⟩
   rw[ek];unfold yg7;rw[if_neg e']
   exact .cons (h1.mono (.of (za4 hl _))) (.cons (h2.mono (.of (za4 hl _))) .nil)
 |nest _ _=>cases hc
 |align _=>cases hc
 |flat _=>cases hc
 |_=>exact zu0 ⟨(by show 0≤sizeLine;decide),fun l hl=>q l [] _ (za4 hl _) hl za0 .nil⟩
structure COuts(r C W:Addr)(p:Plan)(H:Hp)(n:Nat)(σ:St)(H':Hp)(st done:List Plan)(ts ws:List Addr):Prop where
 st_:∃v v':Option V,σ=[some (.ref r),some (.ref C),some (.ref W),v,v']
 n_:n=(yh5 st).length
 same:Same H H'
 atC:H' C=some (.lst (ts.map V.ref))
 plC:CoresAt H' ts done
 atW:H' W=some (.lst (ws.map V.ref))
 plW:PlansAt H' ws st.reverse
 ok:∀q∈st,zk8 q=true∧q.Lay∧q.deep≤60
 all:done++yh5 st=(zf4 p).reverse
theorem ckids_ok{c q:Plan}(h:q∈zj3 c)(hl:c.Lay)(hd:c.deep≤60):zk8 q=true∧q.Lay∧q.deep≤60:=by
 refine⟨ckids_core h,?_⟩
 have two:∀a b:Plan,q∈yg7 a b→a.Lay→b.Lay→a.deep≤60→b.deep≤60→q.Lay∧q.deep≤60:=fun a b hq la lb da db=>by
  have k1:=zm1 a
  have k2:=zm1 b
  unfold yg7 at hq
  split at hq
  ·simp at hq;rw[hq];exact⟨zk5 la,by omega⟩
  ·simp at hq
   rcases hq with rfl|rfl
   ·exact⟨zk5 la,by omega⟩
   ·exact⟨zk5 lb,by omega⟩
 cases c with
 |beside a b=>
  have hd':max a.deep b.deep+1≤60:=hd
  exact two a b h hl.1 hl.2 (by omega) (by omega)
 |choice a b=>
  have hd':max a.deep b.deep+1≤60:=hd
  exact two a b h hl.1 hl.2 (by omega) (by omega)
 |_=>cases h
theorem scCores:FnScope ["plan","cores","waiting","core","within"] ["plan"] (za7 zt3):=⟨rfl,rfl,rfl,by decide +kernel,rfl,by decide +kernel,by decide +kernel⟩
theorem ok_cores{fc:Addr}{cD:FuncData}(F:Fun K "cores_from_outside" "cores_from_outside" zt3 f fd)(ml:mg "len"=none)(GW:FnOk P w K mg base CX0 2 g gd ["core"] spKids)(bW:Binds K gd ["core"] [])(kW:PySem.W.keepIn K (.ref g)=true)(mW:mg "cores_within"=some (.ref g))
  (GC:FnOk P w K mg base CX0 1 fc cD ["plan"] yb8) (bC:Binds K cD ["plan"] []) (kC:PySem.W.keepIn K (.ref fc)=true) (mC:mg "core_of"=some (.ref fc)):FnOk P w K mg base CX0 3 f fd ["plan"] spCores:=by
 refine F.okq scCores (fun vs H Q E h=>?_) (fun cdv A outer s H vs Q E hr h=>?_)
 ·obtain⟨r,p,rfl,_⟩:=h
  rfl
 obtain⟨r,p,rfl,hP,hl,hd,hz,q⟩:=h
 have nd:=scCores.nd
 refine⟨_,za1 (zb2 (i:=1) nd rfl (Or.inl rfl) (zd4 za3))<|
  za1 (zb2 (i:=2) nd rfl (Or.inl rfl) (zd4 (ze4 (zc0 GC (hr.mono (by decide)) rfl mC kC bC .nil zc7 (za2 (pvq 0) za3)) za3)))<|
  za1 (zl5 PassesOwn.never (zl4 (pvq 2) (fun _=>rfl)) (
   za1 (zb2 (i:=3) nd rfl (Or.inl rfl) (zu6 PySem.F.plainAttrs_list PySem.F.slot_list_pop PySem.F.type_list_pop ye6 (pvq 2)))<|
   za1 (zb2 (i:=4) nd rfl (Or.inl rfl) (zc0 GW hr rfl mW kW bW .nil zc7 (za2 (pvq 3) za3)))<|
   za1 (ze1 (zh8 PySem.F.plainAttrs_list PySem.F.slot_list_append PySem.F.type_list_append zg2 (pvq 1) (zf6 (zc5 (za2 (pvq 3) (ze4 (zd9 zj6 rfl ml PySem.boot_len (za2 (pvq 4) za3)) za3))) za3)))<|
   za6 (ze1 (zh8 PySem.F.plainAttrs_list PySem.F.slot_list_extend PySem.F.type_list_extend zp1 (pvq 2) (za2 (pvq 4) za3)))))<|
  za6 (zb4 (pvq 1)),?_⟩
 refine⟨(by show 0≤sizeLine;decide),fun CL hCL=>?_⟩
 have s0:=za4 hCL (.lst [])
 refine⟨_,rfl,r,p,rfl,hP.mono (.of s0),fun a0 ha0=>⟨(by show 1≤sizeLine;decide),fun WL hWL=>?_⟩⟩
 have s1:=za4 hWL (.lst [.ref a0])
 have nW:H WL=none:=s0.free hWL
 have ne:CL≠WL:=fun z=>by rw[←z,za0] at hWL;cases hWL
 refine⟨fun n σ H'=>∃st done ts ws,COuts r CL WL p H n σ H' st done ts ws,⟨(yh5 [zh6 p]).length,[zh6 p],[],[],[a0], ?init⟩, ?turn⟩
 case init=>
  refine⟨⟨_,_,rfl⟩,rfl,s0.trans s1,by rw[za9 ne,za0];rfl,.nil,za0,.cons (ha0.mono (.of s1)) .nil,fun q hq=>?_,?_⟩
  ·rw[List.mem_singleton.mp hq]
   exact⟨zs5 p,zk5 hl,Nat.le_trans (zm1 p) hd⟩
  ·simp[yh5,zm5]
 case turn=>
  rintro n σ H' ⟨st,done,ts,ws,O⟩
  obtain⟨v,v',rfl⟩:=O.st_
  refine⟨_,rfl,_,.inl ⟨_,SqL.of O.atW,rfl⟩,?_⟩
  cases st with
  |nil=>
   have ew:ws=[]:=by have:=O.plW;cases this;rfl
   subst ew
   refine zc3 (by simp) ?_
   have e:done=(zf4 p).reverse:=by have:=O.all;simpa [yh5] using this
   refine⟨_,rfl,q CL ts H' O.same hCL O.atC ?_⟩
   rw[←e];exact O.plC
  |cons x rst=>
   obtain⟨ys,a,ex,hys,hx⟩:∃ys a,ws=ys++[a]∧PlansAt H' ys rst.reverse∧PlanAt H' x a:=by
    have z:=O.plW
    rw[List.reverse_cons] at z
    exact zh9 z
   subst ex
   refine zd1 (by simp) ?_
   have okx:=O.ok x List.mem_cons_self
   have hcl:=(zi8 p).1
   have hall:=congrArg List.length O.all
   rw[List.length_append,List.length_reverse] at hall
   have hcp:=couts_pos (x::rst)
   rw[List.length_cons] at hcp
   have hyl:=yd7 hys
   rw[List.length_reverse] at hyl
   have hal:=zf9 O.plC
   refine⟨fun σ' H''=>∃n',n'<n∧∃st' done' ts' ws',COuts r CL WL p H n' σ' H'' st' done' ts' ws',fun σ' H'' z=>z,?_⟩
   have hlast:((ys++[a]).map V.ref)[((ys++[a]).map V.ref).length - 1]? = some (.ref a):=by simp
   refine⟨_,rfl,.inl ⟨rfl,_,SqL.of O.atW⟩,WL,_,_,rfl,rfl,O.atW,hlast,?_⟩
   have ed:((ys++[a]).map V.ref).dropLast=ys.map V.ref:=by rw[List.map_append];exact List.dropLast_concat
   rw[ed]
   have u1:Tups H' (upd H' WL (.lst (ys.map V.ref))):=zc6 O.atW
   have g1:Same H (upd H' WL (.lst (ys.map V.ref))):=zj0 O.same nW _
   have w1:(upd H' WL (.lst (ys.map V.ref))) WL=some (.lst (ys.map V.ref)):=za0
   have p1:(upd H' WL (.lst (ys.map V.ref))) CL=some (.lst (ts.map V.ref)):=by rw[za9 ne];exact O.atC
   have hx1:=hx.mono u1
   have hys1:=PlansAt.mono u1 hys
   have hdo1:=CoresAt.mono u1 O.plC
   generalize upd H' WL (.lst (ys.map V.ref))=H1 at*
   refine⟨_,rfl,a,x,rfl,hx1,okx.1,okx.2.1,okx.2.2,fun l1 ks H2 s2 n2 e2 hks=>?_⟩
   have kl:=yd7 hks
   have kl2:=ckids_le x
   have neW:l1≠WL:=fun z=>by rw[z,w1] at n2;cases n2
   have neC:l1≠CL:=fun z=>by rw[z,p1] at n2;cases n2
   refine⟨_,rfl,.inl ⟨rfl,_,SqL.of (s2 _ _ p1)⟩,_,rfl,_,rfl,l1,_,rfl,.inl (SqL.of e2),(by show 2≤sizeLine;decide),fun t ht=>?_⟩
   have ekl:((ks.map V.ref).length:Int)=(((zj3 x).length:Nat):Int):=by rw[List.length_map,kl]
   rw[ekl]
   have s3:=za4 ht (.tup [.ref a,.int (((zj3 x).length:Nat):Int)])
   have p3:=s3 _ _ (s2 _ _ p1)
   have w3:=s3 _ _ (s2 _ _ w1)
   have l3:=s3 _ _ e2
   have c3:CoreAt (upd H2 t (.tup [.ref a,.int (((zj3 x).length:Nat):Int)])) t x:=⟨a,za0,hx1.mono (.of (s2.trans s3))⟩
   have g3:=g1.trans (s2.trans s3)
   have hks3:=PlansAt.mono (.of s3) hks
   have hys3:=PlansAt.mono (.of (s2.trans s3)) hys1
   have hdo3:=CoresAt.mono (.of (s2.trans s3)) hdo1
   generalize upd H2 t (.tup [.ref a,.int (((zj3 x).length:Nat):Int)])=H3 at*
   refine⟨CL,_,_,rfl,rfl,p3,Nat.lt_of_lt_of_le (show(ts.map V.ref).length<1000001 by rw[List.length_map];omega) (zd2 (by omega)),?_⟩
   have u4:Tups H3 (upd H3 CL (.lst (ts.map V.ref++[.ref t]))):=zc6 p3
   have w4:(upd H3 CL (.lst (ts.map V.ref++[.ref t]))) WL=some (.lst (ys.map V.ref)):=by rw[za9 ne.symm];exact w3
   have l4:(upd H3 CL (.lst (ts.map V.ref++[.ref t]))) l1=some (.lst (ks.map V.ref)):=by rw[za9 neC];exact l3
   have p4:(upd H3 CL (.lst (ts.map V.ref++[.ref t]))) CL=some (.lst ((ts++[t]).map V.ref)):=by rw[za0,List.map_append];rfl
   have g4:Same H (upd H3 CL (.lst (ts.map V.ref++[.ref t]))):=zj0 g3 hCL _
   have hdo4:CoresAt (upd H3 CL (.lst (ts.map V.ref++[.ref t]))) (ts++[t]) (done++[x]):=zd5 (CoresAt.mono u4 hdo3) (.cons (c3.mono u4) .nil)
   have hks4:=PlansAt.mono u4 hks3
   have hys4:=PlansAt.mono u4 hys3
   generalize upd H3 CL (.lst (ts.map V.ref++[.ref t]))=H4 at*
   refine⟨_,rfl,.inl ⟨rfl,_,SqL.of w4⟩,_,rfl,WL,l1,_,_,rfl,rfl,w4,l4,zd2 (by rw[List.length_map,List.length_map];omega),?_⟩
   have u5:Tups H4 (upd H4 WL (.lst (ys.map V.ref++ks.map V.ref))):=zc6 w4
   have estep:=couts_step okx.1 rst
   refine⟨_,?_,(zj3 x).reverse++rst,done++[x],ts++[t],ys++ks,⟨_,_,rfl⟩,rfl,zj0 g4 nW _,by rw[za9 ne];exact p4,CoresAt.mono u5 hdo4,by rw[za0,List.map_append],?_,fun q hq=>?_,?_⟩
   ·rw[O.n_,estep,List.length_cons];omega
   ·rw[List.reverse_append,List.reverse_reverse]
    exact PlansAt.append (PlansAt.mono u5 hys4) (PlansAt.mono u5 hks4)
   ·rcases List.mem_append.mp hq with z|z
    ·exact ckids_ok (List.mem_reverse.mp z) okx.2.1 okx.2.2
    ·exact O.ok q (List.mem_cons_of_mem _ z)
   ·rw[List.append_assoc,←O.all,estep];rfl
end
end Pq
namespace Pq
open PySem L2
inductive Raw where
 |text (n:Nat)|brk|nest (n i:Nat)|align (i:Nat)|beside (i j:Nat)|choice (i j:Nat)
 deriving DecidableEq
inductive Nd where
 |text (n:Nat)|brk|nest (n:Nat) (a:Nd)|align (a:Nd)|beside (a b:Nd)|choice (a b:Nd)
 deriving DecidableEq
def zd6:Raw→List Key
 |.text n=>[.inr "text",.inl (n:Nat)]
 |.brk=>[.inr "break"]
 |.nest n i=>[.inr "nest",.inl (n:Nat),.inl (i:Nat)]
 |.align i=>[.inr "align",.inl (i:Nat)]
 |.beside i j=>[.inr "beside",.inl (i:Nat),.inl (j:Nat)]
 |.choice i j=>[.inr "choice",.inl (i:Nat),.inl (j:Nat)]
theorem bc_ne:¬(("beside":Str)="choice"):=by decide +kernel
theorem bn_ne:¬(("beside":Str)="nest"):=by decide +kernel
theorem cn_ne:¬(("choice":Str)="nest"):=by decide +kernel
theorem ta_ne:¬(("text":Str)="align"):=by decide +kernel
theorem yj0:∀ {r r':Raw},zd6 r=zd6 r'→r=r'
 |.text n,.text m,h=>by
  simp[zd6] at h
  have h1:n=m:=by omega
  rw[h1]
 |.brk,.brk,_=>rfl
 |.nest n i,.nest m j,h=>by
  simp[zd6] at h
  have h1:n=m:=by omega
  have h2:i=j:=by omega
  rw[h1,h2]
 |.align i,.align j,h=>by
  simp[zd6] at h
  have h1:i=j:=by omega
  rw[h1]
 |.beside i j,.beside k l,h=>by
  simp[zd6] at h
  have h1:i=k:=by omega
  have h2:j=l:=by omega
  rw[h1,h2]
 |.choice i j,.choice k l,h=>by
  simp[zd6] at h
  have h1:i=k:=by omega
  have h2:j=l:=by omega
  rw[h1,h2]
 |.text n,.brk,h=>by simp[zd6] at h
 |.text n,.nest _ _,h=>by simp[zd6] at h
 |.text n,.align _,h=>by simp[zd6] at h;exact absurd h.1 ta_ne
 |.text n,.beside _ _,h=>by simp[zd6] at h
 |.text n,.choice _ _,h=>by simp[zd6] at h
 |.brk,.text _,h=>by simp[zd6] at h
 |.brk,.nest _ _,h=>by simp[zd6] at h
 |.brk,.align _,h=>by simp[zd6] at h
 |.brk,.beside _ _,h=>by simp[zd6] at h
 |.brk,.choice _ _,h=>by simp[zd6] at h
 |.nest _ _,.text _,h=>by simp[zd6] at h
 |.nest _ _,.brk,h=>by simp[zd6] at h
 |.nest _ _,.align _,h=>by simp[zd6] at h
 |.nest _ _,.beside _ _,h=>by simp[zd6] at h;exact absurd h.1.symm bn_ne
 |.nest _ _,.choice _ _,h=>by simp[zd6] at h;exact absurd h.1.symm cn_ne
 |.align _,.text _,h=>by simp[zd6] at h;exact absurd h.1.symm ta_ne
 |.align _,.brk,h=>by simp[zd6] at h
 |.align _,.nest _ _,h=>by simp[zd6] at h
 |.align _,.beside _ _,h=>by simp[zd6] at h
 |.align _,.choice _ _,h=>by simp[zd6] at h
 |.beside _ _,.text _,h=>by simp[zd6] at h
 |.beside _ _,.brk,h=>by simp[zd6] at h
 |.beside _ _,.nest _ _,h=>by simp[zd6] at h;exact absurd h.1 bn_ne
 |.beside _ _,.align _,h=>by simp[zd6] at h
 |.beside _ _,.choice _ _,h=>by simp[zd6] at h;exact absurd h.1 bc_ne
 |.choice _ _,.text _,h=>by simp[zd6] at h
 |.choice _ _,.brk,h=>by simp[zd6] at h
 |.choice _ _,.nest _ _,h=>by simp[zd6] at h;exact absurd h.1 cn_ne
 |.choice _ _,.align _,h=>by simp[zd6] at h
 |.choice _ _,.beside _ _,h=>by simp[zd6] at h;exact absurd h.1.symm bc_ne
def kidsLt(k:Nat):Raw→Prop
 |.text _=>True
 |.brk=>True
 |.nest _ i=>i<k
 |.align i=>i<k
 |.beside i j=>i<k∧j<k
 |.choice i j=>i<k∧j<k
theorem kidsLt.mono{k k':Nat}(h:k≤k'):∀ {r:Raw},kidsLt k r→kidsLt k' r
 |.text _,_=>trivial
 |.brk,_=>trivial
 |.nest _ _,q=>Nat.lt_of_lt_of_le q h
 |.align _,q=>Nat.lt_of_lt_of_le q h
 |.beside _ _,q=>⟨Nat.lt_of_lt_of_le q.1 h,Nat.lt_of_lt_of_le q.2 h⟩
 |.choice _ _,q=>⟨Nat.lt_of_lt_of_le q.1 h,Nat.lt_of_lt_of_le q.2 h⟩
def zs7(g:Nat→Nat→Nat):Option Nat→Option Nat→Option Nat
 |some a,some b=>some (g a b)
 |_,_=>none
def yn5(L:List (Option Nat)):Raw→Option Nat
 |.text n=>some n
 |.beside i j=>zs7 (· + ·) (L.getD i none) (L.getD j none)
 |.choice i j=>zs7 min (L.getD i none) (L.getD j none)
 |_=>none
structure WfT(T:List Raw)(L:List (Option Nat)):Prop where
 len:L.length=T.length
 kid:∀(k:Nat) (r:Raw),T[k]? = some r→kidsLt k r
 lenAt:∀(k:Nat) (r:Raw),T[k]? = some r→L[k]? = some (yn5 L r)
 nodup:T.Nodup
theorem lenOf_app{L:List (Option Nat)}{x:Option Nat}{r:Raw}(h:kidsLt L.length r):yn5 (L++[x]) r=yn5 L r:=by
 have g:∀i,i<L.length→(L++[x]).getD i none=L.getD i none:=fun i hi=>by
  rw[List.getD_eq_getElem?_getD,List.getD_eq_getElem?_getD,List.getElem?_append_left hi]
 cases r with
 |beside i j=>show zs7 _ _ _=zs7 _ _ _;rw[g i h.1,g j h.2]
 |choice i j=>show zs7 _ _ _=zs7 _ _ _;rw[g i h.1,g j h.2]
 |_=>rfl
theorem WfT.nil:WfT [] []:=⟨rfl,fun k r h=>by simp at h,fun k r h=>by simp at h,List.nodup_nil⟩
theorem WfT.snoc{T:List Raw}{L:List (Option Nat)}(w:WfT T L){r:Raw}(hr:kidsLt T.length r)(hn:r∉T):WfT (T++[r]) (L++[yn5 L r]):=by
 refine⟨by rw[List.length_append,List.length_append,w.len];rfl,fun k q h=>?_,fun k q h=>?_,?_⟩
 ·by_cases hk:k<T.length
  ·rw[List.getElem?_append_left hk] at h;exact w.kid k q h
  ·have hlt:=(List.getElem?_eq_some_iff.mp h).1
   rw[List.length_append,List.length_singleton] at hlt
   have:k=T.length:=by omega
   subst this
   simp at h
   rw[←h];exact hr
 ·by_cases hk:k<T.length
  ·rw[List.getElem?_append_left hk] at h
   rw[List.getElem?_append_left (by rw[w.len];exact hk),w.lenAt k q h,lenOf_app ((w.kid k q h).mono (by rw[w.len];omega))]
  ·have hlt:=(List.getElem?_eq_some_iff.mp h).1
   rw[List.length_append,List.length_singleton] at hlt
   have:k=T.length:=by omega
   subst this
   simp at h
   rw[←h,lenOf_app (by rw[w.len];exact hr)]
   rw[←w.len];simp
 ·rw[List.nodup_append]
  exact⟨w.nodup,by simp,fun a ha b hb e=>by rw[List.mem_singleton.mp hb] at e;exact hn (e▸ha)⟩
def NdAt(T:List Raw):Nat→Nd→Prop
 |k,.text n=>T[k]? = some (.text n)
 |k,.brk=>T[k]? = some .brk
 |k,.nest n a=>∃i,T[k]? = some (.nest n i)∧NdAt T i a
 |k,.align a=>∃i,T[k]? = some (.align i)∧NdAt T i a
 |k,.beside a b=>∃i j,T[k]? = some (.beside i j)∧NdAt T i a∧NdAt T j b
 |k,.choice a b=>∃i j,T[k]? = some (.choice i j)∧NdAt T i a∧NdAt T j b
def Pre(T T':List Raw):Prop:=∀(k:Nat) (r:Raw),T[k]? = some r→T'[k]? = some r
theorem Pre.refl(T:List Raw):Pre T T:=fun _ _ h=>h
theorem Pre.trans{a b c:List Raw}(h:Pre a b)(h':Pre b c):Pre a c:=fun k r e=>h' k r (h k r e)
theorem Pre.app(T M:List Raw):Pre T (T++M):=fun k r h=>by
 rw[List.getElem?_append_left (List.getElem?_eq_some_iff.mp h).1];exact h
theorem NdAt.mono{T T':List Raw}(h:Pre T T'):∀ {a:Nd} {k:Nat},NdAt T k a→NdAt T' k a
 |.text _,_,e=>h _ _ e
 |.brk,_,e=>h _ _ e
 |.nest _ _,_,⟨i,e,q⟩=>⟨i,h _ _ e,NdAt.mono h q⟩
 |.align _,_,⟨i,e,q⟩=>⟨i,h _ _ e,NdAt.mono h q⟩
 |.beside _ _,_,⟨i,j,e,q,q'⟩=>⟨i,j,h _ _ e,NdAt.mono h q,NdAt.mono h q'⟩
 |.choice _ _,_,⟨i,j,e,q,q'⟩=>⟨i,j,h _ _ e,NdAt.mono h q,NdAt.mono h q'⟩
theorem NdAt.lt{T:List Raw}:∀ {a:Nd} {k:Nat},NdAt T k a→k<T.length
 |.text _,_,e=>(List.getElem?_eq_some_iff.mp e).1
 |.brk,_,e=>(List.getElem?_eq_some_iff.mp e).1
 |.nest _ _,_,⟨_,e,_⟩=>(List.getElem?_eq_some_iff.mp e).1
 |.align _,_,⟨_,e,_⟩=>(List.getElem?_eq_some_iff.mp e).1
 |.beside _ _,_,⟨_,_,e,_,_⟩=>(List.getElem?_eq_some_iff.mp e).1
 |.choice _ _,_,⟨_,_,e,_,_⟩=>(List.getElem?_eq_some_iff.mp e).1
theorem NdAt.one{T:List Raw}:∀ {a b:Nd} {k:Nat},NdAt T k a→NdAt T k b→a=b
 |.text n,b,k,e,e'=>by
  have e:T[k]? = some (.text n):=e
  cases b with
  |text m=>have e':T[k]? = some (.text m):=e';rw[e] at e';cases e';rfl
  |brk=>have e':T[k]? = some .brk:=e';rw[e] at e';cases e'
  |nest m c=>obtain⟨_,e',_⟩:=e';rw[e] at e';cases e'
  |align c=>obtain⟨_,e',_⟩:=e';rw[e] at e';cases e'
  |beside c d=>obtain⟨_,_,e',_⟩:=e';rw[e] at e';cases e'
  |choice c d=>obtain⟨_,_,e',_⟩:=e';rw[e] at e';cases e'
 |.brk,b,k,e,e'=>by
  have e:T[k]? = some .brk:=e
  cases b with
  |text m=>have e':T[k]? = some (.text m):=e';rw[e] at e';cases e'
  |brk=>rfl
  |nest m c=>obtain⟨_,e',_⟩:=e';rw[e] at e';cases e'
  |align c=>obtain⟨_,e',_⟩:=e';rw[e] at e';cases e'
  |beside c d=>obtain⟨_,_,e',_⟩:=e';rw[e] at e';cases e'
  |choice c d=>obtain⟨_,_,e',_⟩:=e';rw[e] at e';cases e'
 |.nest n a,b,k,⟨i,e,q⟩,e'=>by
  cases b with
  |text m=>have e':T[k]? = some (.text m):=e';rw[e] at e';cases e'
  |brk=>have e':T[k]? = some .brk:=e';rw[e] at e';cases e'
  |nest m c=>obtain⟨_,e',q'⟩:=e';rw[e] at e';cases e';rw[NdAt.one q q']
  |align c=>obtain⟨_,e',_⟩:=e';rw[e] at e';cases e'
  |beside c d=>obtain⟨_,_,e',_⟩:=e';rw[e] at e';cases e'
  |choice c d=>obtain⟨_,_,e',_⟩:=e';rw[e] at e';cases e'
 |.align a,b,k,⟨i,e,q⟩,e'=>by
  cases b with
  |text m=>have e':T[k]? = some (.text m):=e';rw[e] at e';cases e'
  |brk=>have e':T[k]? = some .brk:=e';rw[e] at e';cases e'
  |nest m c=>obtain⟨_,e',_⟩:=e';rw[e] at e';cases e'
  |align c=>obtain⟨_,e',q'⟩:=e';rw[e] at e';cases e';rw[NdAt.one q q']
  |beside c d=>obtain⟨_,_,e',_⟩:=e';rw[e] at e';cases e'
  |choice c d=>obtain⟨_,_,e',_⟩:=e';rw[e] at e';cases e'
 |.beside a1 a2,b,k,⟨i,j,e,q,p⟩,e'=>by
  cases b with
  |text m=>have e':T[k]? = some (.text m):=e';rw[e] at e';cases e'
  |brk=>have e':T[k]? = some .brk:=e';rw[e] at e';cases e'
  |nest m c=>obtain⟨_,e',_⟩:=e';rw[e] at e';cases e'
  |align c=>obtain⟨_,e',_⟩:=e';rw[e] at e';cases e'
  |beside c d=>obtain⟨_,_,e',q',p'⟩:=e';rw[e] at e';cases e';rw[NdAt.one q q',NdAt.one p p']
  |choice c d=>obtain⟨_,_,e',_⟩:=e';rw[e] at e';cases e'
 |.choice a1 a2,b,k,⟨i,j,e,q,p⟩,e'=>by
  cases b with
  |text m=>have e':T[k]? = some (.text m):=e';rw[e] at e';cases e'
  |brk=>have e':T[k]? = some .brk:=e';rw[e] at e';cases e'
  |nest m c=>obtain⟨_,e',_⟩:=e';rw[e] at e';cases e'
  |align c=>obtain⟨_,e',_⟩:=e';rw[e] at e';cases e'
  |beside c d=>obtain⟨_,_,e',_⟩:=e';rw[e] at e';cases e'
  |choice c d=>obtain⟨_,_,e',q',p'⟩:=e';rw[e] at e';cases e';rw[NdAt.one q q',NdAt.one p p']
def ze9:Nd→Option Nat
 |.text n=>some n
 |.beside a b=>zs7 (· + ·) (ze9 a) (ze9 b)
 |.choice a b=>zs7 min (ze9 a) (ze9 b)
 |_=>none
theorem NdAt.len{T:List Raw}{L:List (Option Nat)}(w:WfT T L):∀ {a:Nd} {k:Nat},NdAt T k a→L[k]? = some (ze9 a)
 |.text n,k,e=>by rw[w.lenAt k _ e];rfl
 |.brk,k,e=>by rw[w.lenAt k _ e];rfl
 |.nest n a,k,⟨i,e,_⟩=>by rw[w.lenAt k _ e];rfl
 |.align a,k,⟨i,e,_⟩=>by rw[w.lenAt k _ e];rfl
 |.beside a b,k,⟨i,j,e,q,p⟩=>by
  rw[w.lenAt k _ e]
  show some (zs7 _ (L.getD i none) (L.getD j none))=some (zs7 _ (ze9 a) (ze9 b))
  rw[List.getD_eq_getElem?_getD,List.getD_eq_getElem?_getD,NdAt.len w q,NdAt.len w p];rfl
 |.choice a b,k,⟨i,j,e,q,p⟩=>by
  rw[w.lenAt k _ e]
  show some (zs7 _ (L.getD i none) (L.getD j none))=some (zs7 _ (ze9 a) (ze9 b))
  rw[List.getD_eq_getElem?_getD,List.getD_eq_getElem?_getD,NdAt.len w q,NdAt.len w p];rfl
def nOf:Plan→Bool→Nd
 |.text t,_=>.text t.length
 |.line,f=>if f then .text 1 else .brk
 |.cut,f=>if f then .text 0 else .brk
 |.nest n p,f=>if(ze9 (nOf p f)).isSome then nOf p f else .nest n (nOf p f)
 |.align p,f=>if(ze9 (nOf p f)).isSome then nOf p f else .align (nOf p f)
 |.flat p,_=>nOf p true
 |.beside p q,f=>.beside (nOf p f) (nOf q f)
 |.choice p q,f=>.choice (nOf p f) (nOf q f)
theorem two2_some{g:Nat→Nat→Nat}:∀ {a b:Option Nat},a.isSome=true→b.isSome=true→(zs7 g a b).isSome=true
 |some _,some _,_,_=>rfl
theorem zk4:∀p:Plan,(ze9 (nOf p true)).isSome=true
 |.text _=>rfl
 |.line=>rfl
 |.cut=>rfl
 |.nest n p=>by unfold nOf;rw[if_pos (zk4 p)];exact zk4 p
 |.align p=>by unfold nOf;rw[if_pos (zk4 p)];exact zk4 p
 |.flat p=>zk4 p
 |.beside p q=>two2_some (zk4 p) (zk4 q)
 |.choice p q=>two2_some (zk4 p) (zk4 q)
theorem yn3(n:Nat)(p:Plan):nOf (.nest n p) true=nOf p true:=by show(if _ then _ else _)=_;rw[if_pos (zk4 p)]
theorem yh1(p:Plan):nOf (.align p) true=nOf p true:=by show(if _ then _ else _)=_;rw[if_pos (zk4 p)]
def zg6:Plan→List Plan
 |.nest n p=>.nest n p::zg6 p
 |.align p=>.align p::zg6 p
 |.flat p=>.flat p::zg6 p
 |_=>[]
theorem zk9:∀p:Plan,(zg6 p).length≤p.size
 |.text _=>Nat.zero_le _
 |.line=>Nat.zero_le _
 |.cut=>Nat.zero_le _
 |.nest _ p=>by have:=zk9 p;simp only[zg6,Plan.size,List.length_cons];omega
 |.align p=>by have:=zk9 p;simp only[zg6,Plan.size,List.length_cons];omega
 |.flat p=>by have:=zk9 p;simp only[zg6,Plan.size,List.length_cons];omega
 |.beside _ _=>Nat.zero_le _
 |.choice _ _=>Nat.zero_le _
def zf2(i:Nat):List Raw→List (List Key×V)
 |[]=>[]
 |r::T=>(zd6 r,.int (i:Nat))::zf2 (i+1) T
theorem nums_len:∀(T:List Raw) (i:Nat),(zf2 i T).length=T.length
 |[],_=>rfl
 |_::T,i=>by show _+1=_+1;rw[nums_len T]
theorem nums_app:∀(T:List Raw) (r:Raw) (i:Nat),zf2 i (T++[r])=zf2 i T++[(zd6 r,.int ((i+T.length:Nat):Int))]
 |[],r,i=>rfl
 |q::T,r,i=>by
  show _::zf2 (i+1) (T++[r])=_
  rw[nums_app T r (i+1)]
  show _::(_++_)=_::(_++_)
  have:i+1+T.length=i+(q::T).length:=by simp;omega
  rw[this]
theorem yn1:∀(T:List Raw) (i k:Nat) (r:Raw),T.Nodup→T[k]? = some r→ya6 (zf2 i T) (zd6 r)=some (.int ((i+k:Nat):Int))
 |[],_,_,_,_,h=>by simp at h
 |q::T,i,0,r,_,h=>by simp at h;subst h;exact zv7 rfl
 |q::T,i,k+1,r,hn,h=>by
  have h':T[k]? = some r:=by simpa using h
  obtain⟨h1,h2⟩:=List.nodup_cons.mp hn
  have ne:¬zd6 q=zd6 r:=fun e=>h1 (by rw[yj0 e];exact List.mem_of_getElem? h')
  show ya6 (_::zf2 (i+1) T) _=_
  rw[zp4 ne,yn1 T (i+1) k r h2 h']
  have:i+1+k=i+(k+1):=by omega
  rw[this]
theorem nums_none:∀(T:List Raw) (i:Nat) (r:Raw),r∉T→ya6 (zf2 i T) (zd6 r)=none
 |[],_,_,_=>rfl
 |q::T,i,r,h=>by
  have ne:¬zd6 q=zd6 r:=fun e=>h (by rw[yj0 e];exact List.mem_cons_self)
  show ya6 (_::zf2 (i+1) T) _=_
  rw[zp4 ne,nums_none T (i+1) r fun z=>h (List.mem_cons_of_mem _ z)]
def yb6:Option Nat→V
 |some n=>.int (n:Nat)
 |none=>.non
end Pq
namespace Pq
open PySem L2
def nf(la na ga:Addr):List (Str×V):=[("listed",V.ref la),("numbers",V.ref na),("lengths",V.ref ga)]
theorem zl6(la na ga:Addr):(nf la na ga).lookup ("listed":Str)=some (.ref la):=by simp[nf,List.lookup]
theorem zt8(la na ga:Addr):(nf la na ga).lookup ("numbers":Str)=some (.ref na):=by
 have h:(("numbers":Str)=="listed")=false:=by decide +kernel
 simp[nf,List.lookup,h]
theorem zi4(la na ga:Addr):(nf la na ga).lookup ("lengths":Str)=some (.ref ga):=by
 have h:(("lengths":Str)=="listed")=false:=by decide +kernel
 have h2:(("lengths":Str)=="numbers")=false:=by decide +kernel
 simp[nf,List.lookup,h,h2]
theorem zq6(la na ga:Addr){m:Str}(h1:(m==("listed":Str))=false)(h2:(m==("numbers":Str))=false)(h3:(m==("lengths":Str))=false):(nf la na ga).lookup m=none:=by
 simp[nf,List.lookup,h1,h2,h3]
theorem ln_:¬(("listed":Str)="numbers"):=by decide +kernel
theorem ll_:¬(("listed":Str)="lengths"):=by decide +kernel
theorem nl_:¬(("numbers":Str)="lengths"):=by decide +kernel
theorem nf_init(la na ga:Addr):zr8 "lengths" (.ref ga) (zr8 "numbers" (.ref na) (zr8 "listed" (.ref la) []))=nf la na ga:=by
 show zr8 "lengths" (.ref ga) (zr8 "numbers" (.ref na) [(("listed":Str),V.ref la)])=_
 have e1:zr8 "numbers" (.ref na) [(("listed":Str),V.ref la)]=([("listed",V.ref la),("numbers",V.ref na)]:List (Str×V)):=by
  show(if("listed":Str)="numbers" then _ else _)=_
  rw[if_neg ln_]<;>rfl
 rw[e1]
 show(if("listed":Str)="lengths" then _ else(("listed":Str),V.ref la)::(if("numbers":Str)="lengths" then _ else(("numbers":Str),V.ref na)::zr8 "lengths" (.ref ga) []))=_
 rw[if_neg ll_,if_neg nl_]<;>rfl
def RawAt(H:Hp)(a:Addr)(r:Raw):Prop:=H a=some (.tup ((zd6 r).map kV))
abbrev RawsAt(H:Hp):List Addr→List Raw→Prop:=Paired (RawAt H)
theorem RawsAt.mono{H H':Hp}(h:Tups H H'){as:List Addr}{T:List Raw}(r:RawsAt H as T):RawsAt H' as T:=Paired.mapP r fun _ _ e=>h _ _ e
theorem RawsAt.get{H:Hp}:∀ {as:List Addr} {T:List Raw} {k:Nat} {r:Raw},RawsAt H as T→T[k]? = some r→∃a,as[k]? = some a∧RawAt H a r
 |_,_,_,_,.nil,e=>by simp at e
 |_,_,0,_,.cons q _,e=>by simp at e;subst e;exact⟨_,rfl,q⟩
 |_,_,k+1,r,.cons _ t,e=>by
  obtain⟨a,h1,h2⟩:=RawsAt.get (k:=k) (r:=r) t (by simpa using e)
  exact⟨a,by simpa using h1,h2⟩
def But3(la na ga:Addr)(H H':Hp):Prop:=∀b o,H b=some o→b≠la→b≠na→b≠ga→H' b=some o
theorem But3.refl{la na ga:Addr}{H:Hp}:But3 la na ga H H:=fun _ _ e _ _ _=>e
theorem But3.trans{la na ga:Addr}{H H1 H2:Hp}(a:But3 la na ga H H1)(b:But3 la na ga H1 H2):But3 la na ga H H2:=fun c o e n1 n2 n3=>b c o (a c o e n1 n2 n3) n1 n2 n3
theorem But3.of{la na ga:Addr}{H H':Hp}(s:Same H H'):But3 la na ga H H':=fun b o e _ _ _=>s b o e
structure NodesAt(C:Addr)(H:Hp)(p la na ga:Addr)(T:List Raw)(L:List (Option Nat)):Prop where
 ob:∃dx,H p=some (.ins C dx (nf la na ga))
 li:∃as,H la=some (.lst (as.map V.ref))∧RawsAt H as T
 nu:H na=some (.dT (zf2 0 T))
 le:H ga=some (.lst (L.map yb6))
 ne:la≠ga
 wf:WfT T L
theorem NodesAt.mono{C:Addr}{H H':Hp}{p la na ga:Addr}{T:List Raw}{L:List (Option Nat)}(N:NodesAt C H p la na ga T L)(s:Same H H'):NodesAt C H' p la na ga T L:=by
 obtain⟨⟨dx,h1⟩,⟨as,h2,h3⟩,h4,h5,h6,h7⟩:=N
 exact⟨⟨dx,s _ _ h1⟩,⟨as,s _ _ h2,h3.mono (.of s)⟩,s _ _ h4,s _ _ h5,h6,h7⟩
theorem NodesAt.tups{C:Addr}{H H':Hp}{p la na ga:Addr}{T:List Raw}{L:List (Option Nat)}(N:NodesAt C H p la na ga T L)(b:But3 la na ga H H'):Tups H H':=fun c xs e=>by
 obtain⟨as,h2,_⟩:=N.li
 exact b c _ e (ze5 e h2 (by intro z;cases z)) (ze5 e N.nu (by intro z;cases z)) (ze5 e N.le (by intro z;cases z))
structure Nds(K:PySem.W.Frag)(mg:Str→Option Value)(C:Addr):Prop where
 cl:Cls K C
 nLi:NoAttr K C "listed"
 nNu:NoAttr K C "numbers"
 nLe:NoAttr K C "lengths"
 len:mg "len"=none
 min:mg "min"=none
 rev:mg "reversed"=none
def ndInit(C:Addr):Sp:=fun vs H Q _=>∃(p dx:Addr),vs=[.ref p]∧H p=some (.ins C dx [])∧∀la na ga H',NodesAt C H' p la na ga [] []→(∀b o,H b=some o→b≠p→H' b=some o)→H la=none→H na=none→H ga=none→Q .non H'
def yn2(C:Addr):Sp:=fun vs H Q _=>∃(p t la na ga:Addr) (r:Raw) (T:List Raw) (L:List (Option Nat)),vs=[.ref p,.ref t]∧(∃dx,H p=some (.ins C dx (nf la na ga)))∧H ga=some (.lst (L.map yb6))∧RawAt H t r∧kidsLt L.length r∧∀H',Same H H'→Q (yb6 (yn5 L r)) H'
def zx0(C:Addr):Sp:=fun vs H Q _=>∃(p t la na ga:Addr) (r:Raw) (T:List Raw) (L:List (Option Nat)),vs=[.ref p,.ref t]∧NodesAt C H p la na ga T L∧RawAt H t r∧kidsLt T.length r∧T.length≤1000000∧
 ∀(k:Nat) (T':List Raw) (L':List (Option Nat)) (H':Hp),NodesAt C H' p la na ga T' L'→Pre T T'→T'.length≤T.length+1→T'[k]? = some r→But3 la na ga H H'→Q (.int (k:Nat)) H'
abbrev psN:List Str:=["self","node"]
section
variable {P:Program}{w:World}{K:PySem.W.Frag}{mg:Str→Option Value}{base:Heap}{f:Addr}{fd:FuncData}{C:Addr}
theorem scNdI:FnScope ["self"] ["self"] (za7 zy8):=⟨rfl,rfl,rfl,by decide +kernel,rfl,by decide +kernel,by decide +kernel⟩
theorem ok_ndInit(F:Fun K "__init__" "Nodes.__init__" zy8 f fd)(T:Nds K mg C):FnOk P w K mg base CX0 1 f fd ["self"] (ndInit C):=by
 refine F.okq scNdI (fun vs H Q E h=>?_) (fun cdv A outer s H vs Q E hr h=>?_)
 ·obtain⟨p,dx,rfl,_⟩:=h
  rfl
 obtain⟨p,dx,rfl,hp,k⟩:=h
 refine⟨_,za1 (zq0 (pvq 0) (zd4 za3) rfl) (za1 (zq0 (pvq 0) pe_dnewTq rfl) (za6 (zq0 (pvq 0) (zd4 za3) rfl))),?_⟩
 refine⟨(by show 0≤sizeLine;decide),fun la hla=>?_⟩
 have npl:p≠la:=za8 hp hla
 refine⟨_,rfl,p,C,dx,[],rfl,(by rw[za9 npl];exact hp),T.cl,T.nLi,(by show 0<1000;decide),fun na hna=>?_⟩
 have npn:p≠na:=fun z=>by rw[←z,za0] at hna;cases hna
 have nln:la≠na:=fun z=>by rw[←z,za9 npl.symm,za0] at hna;cases hna
 have hna0:H na=none:=by rw[za9 npn.symm,za9 nln.symm] at hna;exact hna
 refine⟨_,rfl,p,C,dx,_,rfl,(by rw[za9 npn];exact za0),T.cl,T.nNu,(by show 1<1000;decide),(by show 0≤sizeLine;decide),fun ga hga=>?_⟩
 have npg:p≠ga:=fun z=>by rw[←z,za0] at hga;cases hga
 have ngn:ga≠na:=fun z=>by rw[z,za9 npn.symm,za0] at hga;cases hga
 have ngl:ga≠la:=fun z=>by rw[z,za9 npl.symm,za9 nln,za9 npl.symm,za0] at hga;cases hga
 have hga0:H ga=none:=by rw[za9 npg.symm,za9 ngn,za9 npg.symm,za9 ngl] at hga;exact hga
 refine⟨_,rfl,p,C,dx,_,rfl,(by rw[za9 npg];exact za0),T.cl,T.nLe,?_,?_⟩
 ·show(if("listed":Str)="numbers" then[(("listed":Str),V.ref na)] else(("listed":Str),V.ref la)::[(("numbers":Str),V.ref na)]).length<1000
  rw[if_neg ln_];show 2<1000;decide
 ·rw[nf_init]
  refine k la na ga _ ⟨⟨dx,za0⟩,⟨[],?_,.nil⟩,?_,?_,ngl.symm,WfT.nil⟩ (fun b o e hb=>?_) hla hna0 hga0
  ·rw[za9 npl.symm,za9 ngl.symm,za9 npl.symm,za9 nln,za9 npl.symm,za0];rfl
  ·rw[za9 npn.symm,za9 ngn.symm,za9 npn.symm,za0];rfl
  ·rw[za9 npg.symm,za0];rfl
  ·rw[za9 hb,za9 (za8 e hga0),za9 hb,za9 (za8 e hna0),za9 hb,za9 (za8 e hla)]
   exact e
theorem scNdL:FnScope ["self","node","first","second"] psN (za7 zo5):=⟨rfl,rfl,rfl,by decide +kernel,rfl,by decide +kernel,by decide +kernel⟩
theorem at_lens{L:List (Option Nat)}{i:Nat}(h:i<L.length):atI (L.map yb6) ((i:Nat):Int)=some (yb6 (L.getD i none)):=zh0 (by
 rw[List.getElem?_map,List.getD_eq_getElem?_getD,List.getElem?_eq_getElem h];rfl)
theorem ok_ndLength(F:Fun K "length_of" "Nodes.length_of" zo5 f fd)(T:Nds K mg C):FnOk P w K mg base CX0 1 f fd psN (yn2 C):=by
 refine F.okq scNdL (fun vs H Q E h=>?_) (fun cdv A outer s H vs Q E hr h=>?_)
 ·obtain⟨p,t,la,na,ga,r,T,L,rfl,_⟩:=h
  rfl
 obtain⟨p,t,la,na,ga,r,T',L,rfl,⟨dx,hp⟩,hg,ht,hk,q⟩:=h
 have nd:=scNdL.nd
 refine⟨_,za1 (zd0 (zb6 zh1 (zb1 zb3 (pvq 1) za5 (fun _ _=>rfl)) zb5 (zd7 _)) (za6 (zb4 (zb1 zb3 (pvq 1) za5 (fun _ _=>rfl)))) zb9)<|
  za1 (zd0 (zb6 yb0 (zb1 zb3 (pvq 1) za5 (fun _ _=>rfl)) (zc5 (zb0 zb5 (zb0 zb5 za3))) rfl) (za6 (zb4 pe_nonq)) zb9)<|
  za1 (zb2 (i:=2) nd rfl (Or.inl rfl) (zb1 zf8 (zd3 (pvq 0) rfl) (zb1 zb3 (pvq 1) za5 (fun _ _=>rfl)) (fun _ _=>rfl)))<|
  za1 (zb2 (i:=3) nd rfl (Or.inl rfl) (zb1 zf8 (zd3 (pvq 0) rfl) (zb1 zb3 (pvq 1) za5 (fun _ _=>rfl)) (fun _ _=>rfl)))<|
  za1 (zd0 (PW.ptq (zu3 (zj9 (pc_isNq (pvq 2))) (zr7 (zj9 (pc_isNq (pvq 3)))))) (za6 (zb4 pe_nonq)) zb9)<|
  za6 (zb4 (zk1 (zb6 zh1 (zb1 zb3 (pvq 1) za5 (fun _ _=>rfl)) zb5 (zd7 _)) (zc4 zk6 (pvq 2) (pvq 3)) (zd9 (call_min2 rfl) rfl T.min PyProof.Rows.boot_min (za2 (pvq 2) (za2 (pvq 3) za3))))),?_⟩
 cases r with
 |text n=>
  have ht:H t=some (.tup [.str "text",.int (n:Nat)]):=ht
  exact⟨_,rfl,t,_,_,_,rfl,rfl,SqT.of ht,rfl,rfl,_,rfl,zd1 (by show decide (V.str (Str.ofString "text")=V.str (Str.ofString "text"))=true;decide +kernel) ⟨_,rfl,t,_,_,_,rfl,rfl,SqT.of ht,rfl,q H (Same.refl H)⟩⟩
 |brk=>
  have ht:H t=some (.tup [.str "break"]):=ht
  refine⟨_,rfl,t,_,_,_,rfl,rfl,SqT.of ht,rfl,rfl,_,rfl,zc3 (by show ¬decide (V.str (Str.ofString "break")=V.str (Str.ofString "text"))=true;decide +kernel) ?_⟩
  refine⟨_,rfl,t,_,_,_,rfl,rfl,SqT.of ht,rfl,(by show 2≤sizeLine;decide),fun t2 ht2=>⟨t2,_,rfl,.inr (SqT.of za0),rfl,rfl,_,rfl,?_⟩⟩
  exact zd1 (by show(!inV (.str (Str.ofString "break")) [.str (Str.ofString "beside"),.str (Str.ofString "choice")])=true;decide +kernel) (q _ (za4 ht2 _))
 |nest n i=>
  have ht:H t=some (.tup [.str "nest",.int (n:Nat),.int (i:Nat)]):=ht
  refine⟨_,rfl,t,_,_,_,rfl,rfl,SqT.of ht,rfl,rfl,_,rfl,zc3 (by show ¬decide (V.str (Str.ofString "nest")=V.str (Str.ofString "text"))=true;decide +kernel) ?_⟩
  refine⟨_,rfl,t,_,_,_,rfl,rfl,SqT.of ht,rfl,(by show 2≤sizeLine;decide),fun t2 ht2=>⟨t2,_,rfl,.inr (SqT.of za0),rfl,rfl,_,rfl,?_⟩⟩
  exact zd1 (by show(!inV (.str (Str.ofString "nest")) [.str (Str.ofString "beside"),.str (Str.ofString "choice")])=true;decide +kernel) (q _ (za4 ht2 _))
 |align i=>
  have ht:H t=some (.tup [.str "align",.int (i:Nat)]):=ht
  refine⟨_,rfl,t,_,_,_,rfl,rfl,SqT.of ht,rfl,rfl,_,rfl,zc3 (by show ¬decide (V.str (Str.ofString "align")=V.str (Str.ofString "text"))=true;decide +kernel) ?_⟩
  refine⟨_,rfl,t,_,_,_,rfl,rfl,SqT.of ht,rfl,(by show 2≤sizeLine;decide),fun t2 ht2=>⟨t2,_,rfl,.inr (SqT.of za0),rfl,rfl,_,rfl,?_⟩⟩
  exact zd1 (by show(!inV (.str (Str.ofString "align")) [.str (Str.ofString "beside"),.str (Str.ofString "choice")])=true;decide +kernel) (q _ (za4 ht2 _))
 |beside i j=>
  have ht:H t=some (.tup [.str "beside",.int (i:Nat),.int (j:Nat)]):=ht
  refine⟨_,rfl,t,_,_,_,rfl,rfl,SqT.of ht,rfl,rfl,_,rfl,zc3 (by show ¬decide (V.str (Str.ofString "beside")=V.str (Str.ofString "text"))=true;decide +kernel) ?_⟩
  refine⟨_,rfl,t,_,_,_,rfl,rfl,SqT.of ht,rfl,(by show 2≤sizeLine;decide),fun t2 ht2=>⟨t2,_,rfl,.inr (SqT.of za0),rfl,rfl,_,rfl,?_⟩⟩
  have s1:=za4 ht2 (.tup [.str "beside",.str "choice"])
  refine zc3 (by show ¬(!inV (.str (Str.ofString "beside")) [.str (Str.ofString "beside"),.str (Str.ofString "choice")])=true;decide +kernel) ?_
  have ht1:=s1 _ _ ht
  refine⟨_,rfl,p,C,dx,_,_,rfl,s1 _ _ hp,T.cl,T.nLe,zi4 _ _ _,_,rfl,t,_,_,_,rfl,rfl,SqT.of ht1,rfl,ga,_,_,_,rfl,rfl,SqL.of (s1 _ _ hg),at_lens hk.1,?_⟩
  refine⟨_,rfl,p,C,dx,_,_,rfl,s1 _ _ hp,T.cl,T.nLe,zi4 _ _ _,_,rfl,t,_,_,_,rfl,rfl,SqT.of ht1,rfl,ga,_,_,_,rfl,rfl,SqL.of (s1 _ _ hg),at_lens hk.2,?_⟩
  have q:Q (yb6 (zs7 (· + ·) (L.getD i none) (L.getD j none))) _:=q _ s1
  generalize L.getD i none=x at q
  generalize L.getD j none=y at q
  refine⟨_,rfl,_,rfl,?_⟩
  cases x with
  |none=>exact zu0 (zu0 q)
  |some m=>
   refine yb2 ⟨_,rfl,_,rfl,?_⟩
   cases y with
   |none=>exact zu0 q
   |some n=>
    refine yb2 ⟨_,rfl,t,_,_,_,rfl,rfl,SqT.of ht1,rfl,rfl,_,rfl,?_⟩
    have q:Q (.int ((m+n:Nat):Int)) _:=q
    refine zd1 (by show decide (V.str (Str.ofString "beside")=V.str (Str.ofString "beside"))=true;decide +kernel) ⟨_,rfl,_,rfl,_,_,rfl,rfl,?_⟩
    rw[Int.natCast_add] at q
    exact q
 |choice i j=>
  have ht:H t=some (.tup [.str "choice",.int (i:Nat),.int (j:Nat)]):=ht
  refine⟨_,rfl,t,_,_,_,rfl,rfl,SqT.of ht,rfl,rfl,_,rfl,zc3 (by show ¬decide (V.str (Str.ofString "choice")=V.str (Str.ofString "text"))=true;decide +kernel) ?_⟩
  refine⟨_,rfl,t,_,_,_,rfl,rfl,SqT.of ht,rfl,(by show 2≤sizeLine;decide),fun t2 ht2=>⟨t2,_,rfl,.inr (SqT.of za0),rfl,rfl,_,rfl,?_⟩⟩
  have s1:=za4 ht2 (.tup [.str "beside",.str "choice"])
  refine zc3 (by show ¬(!inV (.str (Str.ofString "choice")) [.str (Str.ofString "beside"),.str (Str.ofString "choice")])=true;decide +kernel) ?_
  have ht1:=s1 _ _ ht
  refine⟨_,rfl,p,C,dx,_,_,rfl,s1 _ _ hp,T.cl,T.nLe,zi4 _ _ _,_,rfl,t,_,_,_,rfl,rfl,SqT.of ht1,rfl,ga,_,_,_,rfl,rfl,SqL.of (s1 _ _ hg),at_lens hk.1,?_⟩
  refine⟨_,rfl,p,C,dx,_,_,rfl,s1 _ _ hp,T.cl,T.nLe,zi4 _ _ _,_,rfl,t,_,_,_,rfl,rfl,SqT.of ht1,rfl,ga,_,_,_,rfl,rfl,SqL.of (s1 _ _ hg),at_lens hk.2,?_⟩
  have q:Q (yb6 (zs7 (min) (L.getD i none) (L.getD j none))) _:=q _ s1
  generalize L.getD i none=x at q
  generalize L.getD j none=y at q
  refine⟨_,rfl,_,rfl,?_⟩
  cases x with
  |none=>exact zu0 (zu0 q)
  |some m=>
   refine yb2 ⟨_,rfl,_,rfl,?_⟩
   cases y with
   |none=>exact zu0 q
   |some n=>
    refine yb2 ⟨_,rfl,t,_,_,_,rfl,rfl,SqT.of ht1,rfl,rfl,_,rfl,?_⟩
    have q:Q (.int ((min m n:Nat):Int)) _:=q
    refine zc3 (by show ¬decide (V.str (Str.ofString "choice")=V.str (Str.ofString "beside"))=true;decide +kernel) ⟨_,rfl,_,rfl,_,_,rfl,?_⟩
    have e:(if((n:Nat):Int)<((m:Nat):Int) then((n:Nat):Int) else((m:Nat):Int))=((min m n:Nat):Int):=by
     split<;>omega
    rw[e];exact q
theorem scNdN:FnScope psN psN (za7 zo4):=⟨rfl,rfl,rfl,by decide +kernel,rfl,by decide +kernel,by decide +kernel⟩
theorem ok_ndNumber{fL:Addr}{lD:FuncData}(F:Fun K "number_of" "Nodes.number_of" zo4 f fd)(T:Nds K mg C)(LN:MO P w K mg base C CX0 1 fL lD "length_of" psN (yn2 C)):FnOk P w K mg base CX0 2 f fd psN (zx0 C):=by
 refine F.okq scNdN (fun vs H Q E h=>?_) (fun cdv A outer s H vs Q E hr h=>?_)
 ·obtain⟨p,t,la,na,ga,r,T,L,rfl,_⟩:=h
  rfl
 obtain⟨p,t,la,na,ga,r,Tb,L,rfl,N,ht,hk,hz,q⟩:=h
 have hu:=hu_of hr
 refine⟨_,za1 (zd0 (zj9 (zo7 hu (pvq 1) (zd3 (pvq 0) rfl))) (za1 (zw5 hu (zd3 (pvq 0) rfl) (pvq 1) (zd9 zj6 rfl T.len PySem.boot_len (yn0 (zd3 (pvq 0) rfl) za3)) rfl)<|
   za1 (ze1 (zh8 PySem.F.plainAttrs_list PySem.F.slot_list_append PySem.F.type_list_append zg2 (zd3 (pvq 0) rfl) (za2 (pvq 1) za3)))<|
   za6 (ze1 (zh8 PySem.F.plainAttrs_list PySem.F.slot_list_append PySem.F.type_list_append zg2 (zd3 (pvq 0) rfl) (ze4 (zc2 (pvq 0) T.cl LN.m LN.ok hr LN.b .nil zc7 (za2 (pvq 1) za3)) za3)))) zb9)<|
  za6 (zb4 (zm4 hu (zd3 (pvq 0) rfl) (pvq 1) (fun _ _=>rfl))),?_⟩
 obtain⟨⟨dx,hp⟩,⟨as,hla,hras⟩,hnu,hle,nlg,wf⟩:=id N
 have hlen:=zf9 hras
 refine⟨_,rfl,_,rfl,p,C,dx,_,_,rfl,hp,T.cl,T.nNu,zt8 _ _ _,na,_,rfl,DGet.t hnu ht,_,rfl,?_⟩
 by_cases hm:r∈Tb
 ·obtain⟨k,hk1,hk2⟩:=List.mem_iff_getElem.mp hm
  have hkk:Tb[k]? = some r:=by rw[List.getElem?_eq_getElem hk1,hk2]
  have hv:=yn1 Tb 0 k r wf.nodup hkk
  rw[Nat.zero_add] at hv
  rw[hv]
  refine yb2 ⟨_,rfl,p,C,dx,_,_,rfl,hp,T.cl,T.nNu,zt8 _ _ _,_,rfl,na,.int (k:Nat),rfl,?_,q k Tb L H N (Pre.refl _) (by omega) hkk But3.refl⟩
  rw[←hv];exact DGet.t hnu ht
 ·have hv:=nums_none Tb 0 r hm
  rw[hv]
  have ela:((as.map V.ref).length:Int)=((Tb.length:Nat):Int):=by rw[List.length_map,hlen]
  have npla:p≠la:=ze5 hp hla (by intro z;cases z)
  have npna:p≠na:=ze5 hp hnu (by intro z;cases z)
  have npga:p≠ga:=ze5 hp hle (by intro z;cases z)
  have nlna:la≠na:=ze5 hla hnu (by intro z;cases z)
  have ngna:ga≠na:=ze5 hle hnu (by intro z;cases z)
  have ntla:t≠la:=ze5 ht hla (by intro z;cases z)
  have ntna:t≠na:=ze5 ht hnu (by intro z;cases z)
  have ntga:t≠ga:=ze5 ht hle (by intro z;cases z)
  refine zu0 ⟨_,rfl,p,C,dx,_,_,rfl,hp,T.cl,T.nLi,zl6 _ _ _,la,_,rfl,.inl (SqL.of hla),_,rfl,p,C,dx,_,_,rfl,hp,T.cl,T.nNu,zt8 _ _ _,_,rfl,na,_,rfl,DPut.t hnu ht (Nat.lt_of_lt_of_le (show(zf2 0 Tb).length<1000001 by rw[nums_len];omega) (zd2 (by omega))),?_⟩
  rw[ela,putK_new _ hv]
  have enu:zf2 0 Tb++[(zd6 r,V.int ((Tb.length:Nat):Int))]=zf2 0 (Tb++[r]):=by rw[nums_app,Nat.zero_add]
  rw[enu]
  refine⟨_,rfl,p,C,dx,_,_,rfl,(by rw[za9 npna];exact hp),T.cl,T.nLi,zl6 _ _ _,.inl ⟨rfl,_,SqL.of (by rw[za9 nlna];exact hla)⟩,_,rfl,la,_,_,rfl,rfl,(by rw[za9 nlna];exact hla),Nat.lt_of_lt_of_le (show(as.map V.ref).length<1000001 by rw[List.length_map];omega) (zd2 (by omega)),?_⟩
  have hp2:(upd (upd H na (.dT (zf2 0 (Tb++[r])))) la (.lst (as.map V.ref++[.ref t]))) p=some (.ins C dx (nf la na ga)):=by rw[za9 npla,za9 npna];exact hp
  have hg2:(upd (upd H na (.dT (zf2 0 (Tb++[r])))) la (.lst (as.map V.ref++[.ref t]))) ga=some (.lst (L.map yb6)):=by rw[za9 nlg.symm,za9 ngna];exact hle
  have hn2:(upd (upd H na (.dT (zf2 0 (Tb++[r])))) la (.lst (as.map V.ref++[.ref t]))) na=some (.dT (zf2 0 (Tb++[r]))):=by rw[za9 nlna.symm,za0]
  have ht2:(upd (upd H na (.dT (zf2 0 (Tb++[r])))) la (.lst (as.map V.ref++[.ref t]))) t=some (.tup ((zd6 r).map kV)):=by rw[za9 ntla,za9 ntna];exact ht
  have hl2:(upd (upd H na (.dT (zf2 0 (Tb++[r])))) la (.lst (as.map V.ref++[.ref t]))) la=some (.lst ((as++[t]).map V.ref)):=by rw[za0,List.map_append];rfl
  have b2:But3 la na ga H (upd (upd H na (.dT (zf2 0 (Tb++[r])))) la (.lst (as.map V.ref++[.ref t]))):=fun b o e n1 n2 n3=>by rw[za9 n1,za9 n2];exact e
  generalize upd (upd H na (.dT (zf2 0 (Tb++[r])))) la (.lst (as.map V.ref++[.ref t]))=H2 at hp2 hg2 hn2 ht2 hl2 b2
  refine⟨_,rfl,p,C,dx,_,_,rfl,hp2,T.cl,T.nLe,zi4 _ _ _,.inl ⟨rfl,_,SqL.of hg2⟩,_,rfl,p,dx,_,rfl,hp2,zq6 _ _ _ (by decide +kernel) (by decide +kernel) (by decide +kernel),_,rfl,p,t,la,na,ga,r,Tb,L,rfl,⟨dx,hp2⟩,hg2,ht2,by rw[wf.len];exact hk,fun H3 s3=>?_⟩
  refine⟨ga,_,_,rfl,rfl,s3 _ _ hg2,Nat.lt_of_lt_of_le (show(L.map yb6).length<1000001 by rw[List.length_map,wf.len];omega) (zd2 (by omega)),?_⟩
  have u3:Tups H3 (upd H3 ga (.lst (L.map yb6++[yb6 (yn5 L r)]))):=zc6 (s3 _ _ hg2)
  have t13:Tups H (upd H3 ga (.lst (L.map yb6++[yb6 (yn5 L r)]))):=(N.tups b2).trans ((Tups.of s3).trans u3)
  have N3:NodesAt C (upd H3 ga (.lst (L.map yb6++[yb6 (yn5 L r)]))) p la na ga (Tb++[r]) (L++[yn5 L r]):=by
   refine⟨⟨dx,by rw[za9 npga];exact s3 _ _ hp2⟩,⟨as++[t],by rw[za9 nlg];exact s3 _ _ hl2,zd5 (RawsAt.mono t13 hras) (.cons (t13 _ _ ht) .nil)⟩,by rw[za9 ngna.symm];exact s3 _ _ hn2,by rw[za0,List.map_append];rfl,nlg,wf.snoc hk hm⟩
  have hkk:(Tb++[r])[Tb.length]? = some r:=by simp
  have hv2:=yn1 (Tb++[r]) 0 Tb.length r N3.wf.nodup hkk
  rw[Nat.zero_add] at hv2
  obtain⟨⟨dx3,hp3⟩,_,hn3,_⟩:=id N3
  refine⟨_,rfl,p,C,dx3,_,_,rfl,hp3,T.cl,T.nNu,zt8 _ _ _,_,rfl,na,.int (Tb.length:Nat),rfl,?_,q Tb.length _ _ _ N3 (Pre.app Tb [r]) (by rw[List.length_append];exact Nat.le_refl _) hkk (b2.trans (fun b o e n1 n2 n3=>by rw[za9 n3];exact s3 _ _ e))⟩
  rw[←hv2];exact DGet.t hn3 (t13 _ _ ht)
end
end Pq
namespace Pq
open PySem L2
section
variable {P:Program}{w:World}{K:PySem.W.Frag}{mg:Str→Option Value}{base:Heap}{f g:Addr}{fd gd:FuncData}
theorem scSigns:FnScope ["leaf"] ["leaf"] (za7 yi5):=⟨rfl,rfl,rfl,by decide +kernel,rfl,by decide +kernel,by decide +kernel⟩
theorem ok_signs{dB:Addr}{t1 t2:Tok}(F:Fun K "signs_in_one_row" "signs_in_one_row" yi5 f fd)(B:Brk P w mg base dB t1 t2):FnOk P w K mg base CX0 1 f fd ["leaf"] yl4:=by
 refine F.okq scSigns (fun vs H Q E h=>?_) (fun cdv A outer s H vs Q E hr h=>?_)
 ·obtain⟨r,p,rfl,_⟩:=h
  rfl
 obtain⟨r,p,rfl,hP,hl,q⟩:=h
 refine⟨_,za6 (zb4 (zk1 (zb6 zh1 (zb1 zb3 (pvq 0) za5 (fun _ _=>rfl)) zb5 (zd7 _)) (zb1 zb3 (pvq 0) za5 (fun _ _=>rfl)) (pe_dgetCq B.dd (zq1 rfl B.mB (v:=.ref dB) rfl) (zb1 zb3 (pvq 0) za5 (fun _ _=>rfl)) (fun _ _=>rfl)))),?_⟩
 cases p with
 |text x=>
  have hP:H r=some (.tup [.str "text",.str (tx x)]):=hP
  exact⟨_,rfl,r,_,_,_,rfl,rfl,SqT.of hP,rfl,rfl,_,rfl,zd1 (by decide +kernel) ⟨_,rfl,r,_,_,_,rfl,rfl,SqT.of hP,rfl,q⟩⟩
 |line=>
  have hP:H r=some (.tup [.str "line"]):=hP
  refine⟨_,rfl,r,_,_,_,rfl,rfl,SqT.of hP,rfl,rfl,_,rfl,zc3 (by decide +kernel) ⟨_,rfl,r,_,_,_,rfl,rfl,SqT.of hP,rfl,"line",.str " ",_,rfl,rfl,val_line t1 t2,⟨_,rfl⟩,?_⟩⟩
  rw[bl_tx];exact q
 |cut=>
  have hP:H r=some (.tup [.str "cut"]):=hP
  refine⟨_,rfl,r,_,_,_,rfl,rfl,SqT.of hP,rfl,rfl,_,rfl,zc3 (by decide +kernel) ⟨_,rfl,r,_,_,_,rfl,rfl,SqT.of hP,rfl,"cut",.str "",_,rfl,rfl,val_cut t1 t2,⟨_,rfl⟩,?_⟩⟩
  rw[em_tx];exact q
 |_=>cases hl
end
end Pq
namespace Pq
open PySem L2
def PairAt(H:Hp)(T:List Raw)(t:Addr)(q:Plan):Prop:=∃i j:Nat,H t=some (.tup [.int (i:Nat),.int (j:Nat)])∧NdAt T i (nOf q false)∧NdAt T j (nOf q true)
theorem PairAt.mono{H H':Hp}{T T':List Raw}(h:Tups H H')(hp:Pre T T'){t:Addr}{q:Plan}:PairAt H T t q→PairAt H' T' t q:=fun⟨i,j,e,a,b⟩=>⟨i,j,h _ _ e,a.mono hp,b.mono hp⟩
def OutP(C p la na ga:Addr)(T:List Raw)(H:Hp)(Q:VK)(c:Nat)(q:Plan):Prop:=∀(t:Addr) (T':List Raw) (L':List (Option Nat)) (H':Hp),NodesAt C H' p la na ga T' L'→Pre T T'→T'.length≤T.length+c→PairAt H' T' t q→But3 la na ga H H'→Q (.ref t) H'
def ndLeaf(C:Addr):Sp:=fun vs H Q _=>∃(p r la na ga:Addr) (q:Plan) (T:List Raw) (L:List (Option Nat)),vs=[.ref p,.ref r]∧NodesAt C H p la na ga T L∧T.length≤900000∧PlanAt H q r∧zv2 q=true∧q.grow≤1000000∧OutP C p la na ga T H Q 2 q
def inner:Plan→Plan
 |.nest _ p=>p
 |.align p=>p
 |.flat p=>p
 |p=>p
def ndRound(C:Addr):Sp:=fun vs H Q _=>∃(p r t la na ga:Addr) (q:Plan) (T:List Raw) (L:List (Option Nat)),vs=[.ref p,.ref r,.ref t]∧NodesAt C H p la na ga T L∧T.length≤900000∧PlanAt H q r∧zk8 q=false∧PairAt H T t (inner q)∧OutP C p la na ga T H Q 1 q
def ndPlan(C:Addr):Sp:=fun vs H Q _=>∃(p r t la na ga:Addr) (q:Plan) (T:List Raw) (L:List (Option Nat)),vs=[.ref p,.ref r,.ref t]∧NodesAt C H p la na ga T L∧T.length+(zg6 q).length≤900000∧PlanAt H q r∧PairAt H T t (zh6 q)∧OutP C p la na ga T H Q (zg6 q).length q
def ndTwo(C:Addr):Sp:=fun vs H Q _=>∃(p r t1 t2 la na ga x y:Addr) (c a b:Plan) (T:List Raw) (L:List (Option Nat)),vs=[.ref p,.ref r,.ref t1,.ref t2]∧NodesAt C H p la na ga T L∧T.length+(zg6 a).length+(zg6 b).length+2≤900000∧
 ((c=.beside a b∧H r=some (.tup [.str "beside",.ref x,.ref y]))∨(c=.choice a b∧H r=some (.tup [.str "choice",.ref x,.ref y])))∧PlanAt H a x∧PlanAt H b y∧PairAt H T t1 (zh6 a)∧PairAt H T t2 (zh6 b)∧OutP C p la na ga T H Q ((zg6 a).length+(zg6 b).length+2) c
def ndRoot(C:Addr):Sp:=fun vs H Q _=>∃(p r la na ga:Addr) (q:Plan),vs=[.ref p,.ref r]∧NodesAt C H p la na ga [] []∧PlanAt H q r∧q.Lay∧q.deep≤60∧q.size≤600∧q.grow≤1000000∧
 ∀(k:Nat) (T':List Raw) (L':List (Option Nat)) (H':Hp),NodesAt C H' p la na ga T' L'→NdAt T' k (nOf q false)→But3 la na ga H H'→Q (.int (k:Nat)) H'
def strip:Nat→Plan→Plan
 |0,p=>p
 |n+1,p=>strip n (inner p)
theorem yb7:∀(q:Plan) (j:Nat) (x:Plan),(zg6 q)[j]? = some x→x=strip j q∧zk8 x=false∧inner x=strip (j+1) q
 |.text _,_,_,h=>by simp[zg6] at h
 |.line,_,_,h=>by simp[zg6] at h
 |.cut,_,_,h=>by simp[zg6] at h
 |.beside _ _,_,_,h=>by simp[zg6] at h
 |.choice _ _,_,_,h=>by simp[zg6] at h
 |.nest n p,0,x,h=>by
  simp[zg6] at h;subst h;exact⟨rfl,rfl,rfl⟩
 |.nest n p,j+1,x,h=>yb7 p j x (by simpa [zg6] using h)
 |.align p,0,x,h=>by
  simp[zg6] at h;subst h;exact⟨rfl,rfl,rfl⟩
 |.align p,j+1,x,h=>yb7 p j x (by simpa [zg6] using h)
 |.flat p,0,x,h=>by
  simp[zg6] at h;subst h;exact⟨rfl,rfl,rfl⟩
 |.flat p,j+1,x,h=>yb7 p j x (by simpa [zg6] using h)
theorem zw0:∀q:Plan,strip (zg6 q).length q=zh6 q
 |.text _=>rfl
 |.line=>rfl
 |.cut=>rfl
 |.beside _ _=>rfl
 |.choice _ _=>rfl
 |.nest _ p=>zw0 p
 |.align p=>zw0 p
 |.flat p=>zw0 p
section
variable {P:Program}{w:World}{K:PySem.W.Frag}{mg:Str→Option Value}{base:Heap}{f:Addr}{fd:FuncData}{C aW:Addr}
theorem scNdLf:FnScope ["self","leaf","in_one_row"] ["self","leaf"] (za7 zy7):=⟨rfl,rfl,rfl,by decide +kernel,rfl,by decide +kernel,by decide +kernel⟩
theorem len_row{q:Plan}(h:zv2 q=true)(hg:q.grow≤1000000):(zu4 q).length≤1000000∧nOf q true=.text (zu4 q).length∧(ya1 q=true→nOf q false=.text (zu4 q).length)∧(ya1 q=false→nOf q false=.brk):=by
 cases q with
 |text x=>exact⟨hg,rfl,fun _=>rfl,fun z=>by cases z⟩
 |line=>exact⟨by decide,rfl,(fun z=>by cases z),fun _=>rfl⟩
 |cut=>exact⟨by decide,rfl,(fun z=>by cases z),fun _=>rfl⟩
 |_=>cases h
theorem ok_ndLeaf{fN fS:Addr}{nD sD:FuncData}(F:Fun K "pair_of_leaf" "Nodes.pair_of_leaf" zy7 f fd)(T:Nds K mg C)(NU:MO P w K mg base C CX0 2 fN nD "number_of" psN (zx0 C))
  (GS:FnOk P w K mg base CX0 1 fS sD ["leaf"] yl4) (bS:Binds K sD ["leaf"] []) (kS:PySem.W.keepIn K (.ref fS)=true) (mS:mg "signs_in_one_row"=some (.ref fS)):FnOk P w K mg base CX0 3 f fd ["self","leaf"] (ndLeaf C):=by
 refine F.okq scNdLf (fun vs H Q E h=>?_) (fun cdv A outer s H vs Q E hr h=>?_)
 ·obtain⟨p,r,la,na,ga,q,T,L,rfl,_⟩:=h
  rfl
 obtain⟨p,r,la,na,ga,q,Tb,L,rfl,N,hz,hP,hl,hg,out⟩:=h
 have nd:=scNdLf.nd
 have hr1:Room 1 _:=hr.mono (by decide)
 refine⟨_,za1 (zb2 (i:=2) nd rfl (Or.inl rfl) (zc2 (pvq 0) T.cl NU.m NU.ok hr NU.b .nil zc7 (zf6 (zc5 (zb0 zb5 (ze4 (zd9 zn5 rfl T.len PySem.boot_len (ze4 (zc0 GS hr1 rfl mS kS bS .nil zc7 (za2 (pvq 1) za3)) za3)) za3))) za3)))<|
  za1 (zd0 (zb6 zh1 (zb1 zb3 (pvq 1) za5 (fun _ _=>rfl)) zb5 (zd7 _)) (za6 (zb4 (zc5 (za2 (pvq 2) (za2 (pvq 2) za3))))) zb9)<|
  za6 (zb4 (zc5 (ze4 (zc2 (pvq 0) T.cl NU.m NU.ok hr NU.b .nil zc7 (zf6 (zc5 (zb0 zb5 za3)) za3)) (za2 (pvq 2) za3)))),?_⟩
 obtain⟨l1,l2,l3,l4⟩:=len_row hl hg
 obtain⟨dx,hp⟩:=N.ob
 refine⟨_,rfl,p,dx,_,rfl,hp,zq6 _ _ _ (by decide +kernel) (by decide +kernel) (by decide +kernel),_,rfl,r,q,rfl,hP,hl,_,rfl,zd2 (by rw[zf1];omega),(by show 2≤sizeLine;decide),fun t1 ht1=>?_⟩
 rw[zf1]
 have s1:=za4 ht1 (.tup [.str "text",.int (((zu4 q).length:Nat):Int)])
 refine⟨p,t1,la,na,ga,.text (zu4 q).length,Tb,L,rfl,N.mono s1,za0,trivial,by omega,fun k T1 L1 H1 N1 p1 z1 hk b1=>?_⟩
 have t01:Tups H H1:=(Tups.of s1).trans ((N.mono s1).tups b1)
 have hP1:=hP.mono t01
 obtain⟨xs,hx⟩:=zo6 hP1
 have a1:NdAt T1 k (nOf q true):=by rw[l2];exact hk
 refine⟨_,rfl,r,_,_,.str (zm0 q),rfl,rfl,SqT.of hx,(by show atI (V.str (zm0 q)::xs) ((0:Nat):Int)=_;exact zh0 rfl),rfl,_,rfl,?_⟩
 rw[yf5]
 cases c:ya1 q with
 |true=>
  refine zu0 ⟨_,rfl,_,rfl,(by show 2≤sizeLine;decide),fun t ht=>?_⟩
  have s2:=za4 ht (.tup [.int (k:Nat),.int (k:Nat)])
  exact out t T1 L1 _ (N1.mono s2) p1 (by omega) ⟨k,k,za0,by rw[l3 c,←l2];exact a1,a1⟩ ((But3.of s1).trans (b1.trans (But3.of s2)))
 |false=>
  obtain⟨dx1,hp1⟩:=N1.ob
  refine yb2 ⟨_,rfl,p,dx1,_,rfl,hp1,zq6 _ _ _ (by decide +kernel) (by decide +kernel) (by decide +kernel),(by show 1≤sizeLine;decide),fun t2 ht2=>?_⟩
  have s2:=za4 ht2 (.tup [.str "break"])
  refine⟨p,t2,la,na,ga,.brk,T1,L1,rfl,N1.mono s2,za0,trivial,by omega,fun k2 T2 L2 H2 N2 p2 z2 hk2 b2=>?_⟩
  refine⟨_,rfl,(by show 2≤sizeLine;decide),fun t ht=>?_⟩
  have s3:=za4 ht (.tup [.int (k2:Nat),.int (k:Nat)])
  exact out t T2 L2 _ (N2.mono s3) (p1.trans p2) (by omega) ⟨k2,k,za0,by rw[l4 c];exact hk2,a1.mono p2⟩ ((But3.of s1).trans (b1.trans ((But3.of s2).trans (b2.trans (But3.of s3)))))
theorem scNdRd:FnScope ["self","wrapper","pair"] ["self","wrapper","pair"] (za7 zt4):=⟨rfl,rfl,rfl,by decide +kernel,rfl,by decide +kernel,by decide +kernel⟩
theorem ok_ndRound{fN:Addr}{nD:FuncData}(F:Fun K "pair_round" "Nodes.pair_round" zt4 f fd)(T:Nds K mg C)(NU:MO P w K mg base C CX0 2 fN nD "number_of" psN (zx0 C)):FnOk P w K mg base CX0 3 f fd ["self","wrapper","pair"] (ndRound C):=by
 refine F.okq scNdRd (fun vs H Q E h=>?_) (fun cdv A outer s H vs Q E hr h=>?_)
 ·obtain⟨p,r,t,la,na,ga,q,T,L,rfl,_⟩:=h
  rfl
 obtain⟨p,r,t,la,na,ga,q,Tb,L,rfl,N,hz,hP,hc,⟨i,j,ht,hi,hj⟩,out⟩:=h
 refine⟨_,za1 (zd0 (zb6 zh1 (zb1 zb3 (pvq 1) za5 (fun _ _=>rfl)) zb5 (zd7 _)) (za6 (zb4 (zc5 (zb7 (zb1 zb3 (pvq 2) za5 (fun _ _=>rfl)) (zb7 (zb1 zb3 (pvq 2) za5 (fun _ _=>rfl)) za3))))) zb9)<|
  za1 (zd0 (zj9 (ym9 (zb1 zf8 (zd3 (pvq 0) rfl) (zb1 zb3 (pvq 2) za5 (fun _ _=>rfl)) (fun _ _=>rfl)))) (za6 (zb4 (pvq 2))) zb9)<|
  za1 (zd0 (zb6 zh1 (zb1 zb3 (pvq 1) za5 (fun _ _=>rfl)) zb5 (zd7 _)) (za6 (zb4 (zc5 (ze4 (zc2 (pvq 0) T.cl NU.m NU.ok hr NU.b .nil zc7 (zf6 (zc5 (zb0 zb5 (zb7 (zb1 zb3 (pvq 1) za5 (fun _ _=>rfl)) (zb7 (zb1 zb3 (pvq 2) za5 (fun _ _=>rfl)) za3)))) za3)) (zb7 (zb1 zb3 (pvq 2) za5 (fun _ _=>rfl)) za3))))) zb9)<|
  za6 (zb4 (zc5 (ze4 (zc2 (pvq 0) T.cl NU.m NU.ok hr NU.b .nil zc7 (zf6 (zc5 (zb0 zb5 (zb7 (zb1 zb3 (pvq 2) za5 (fun _ _=>rfl)) za3))) za3)) (zb7 (zb1 zb3 (pvq 2) za5 (fun _ _=>rfl)) za3)))),?_⟩
 obtain⟨⟨dx,hp⟩,⟨as,hla,hras⟩,hnu,hle,nlg,wf⟩:=id N
 have hli:=hi.len wf
 have hlt:=hi.lt
 have hat:atI (L.map yb6) ((i:Nat):Int)=some (yb6 (ze9 (nOf (inner q) false))):=zh0 (by rw[List.getElem?_map,hli];rfl)
 cases q with
 |flat q1=>
  obtain⟨a1,hr1,_⟩:=hP
  refine⟨_,rfl,r,_,_,_,rfl,rfl,SqT.of hr1,rfl,rfl,_,rfl,zd1 (by decide +kernel) ⟨_,rfl,t,_,_,_,rfl,rfl,SqT.of ht,rfl,_,rfl,t,_,_,_,rfl,rfl,SqT.of ht,rfl,(by show 2≤sizeLine;decide),fun t2 ht2=>?_⟩⟩
  have s2:=za4 ht2 (.tup [.int (j:Nat),.int (j:Nat)])
  exact out t2 Tb L _ (N.mono s2) (Pre.refl _) (by omega) ⟨j,j,za0,hj,hj⟩ (But3.of s2)
 |nest n q1=>
  obtain⟨a1,hr1,_⟩:=hP
  refine⟨_,rfl,r,_,_,_,rfl,rfl,SqT.of hr1,rfl,rfl,_,rfl,zc3 (by decide +kernel) ?_⟩
  refine⟨_,rfl,p,C,dx,_,_,rfl,hp,T.cl,T.nLe,zi4 _ _ _,_,rfl,t,_,_,_,rfl,rfl,SqT.of ht,rfl,ga,_,_,_,rfl,rfl,SqL.of hle,hat,_,rfl,?_⟩
  have ht0:nOf (.nest n q1) true=nOf q1 true:=yn3 n q1
  have hf0:nOf (.nest n q1) false=if(ze9 (nOf q1 false)).isSome=true then nOf q1 false else .nest n (nOf q1 false):=rfl
  show if(!decide (yb6 (ze9 (nOf q1 false))=.non))=true then _ else _
  cases c:ze9 (nOf q1 false) with
  |some m=>
   rw[c,if_pos (by rfl:(some m).isSome=true)] at hf0
   refine zd1 (by show(!decide (V.int (m:Nat)=V.non))=true;rw[decide_eq_false (fun z=>by cases z)];rfl) ⟨_,rfl,?_⟩
   exact out t Tb L H N (Pre.refl _) (by omega) ⟨i,j,ht,by rw[hf0];exact hi,by rw[ht0];exact hj⟩ But3.refl
  |none=>
   rw[c,if_neg (by decide:¬((none:Option Nat).isSome=true))] at hf0
   refine zc3 (by show ¬(!decide (V.non=V.non))=true;decide) ?_
   refine⟨_,rfl,r,_,_,_,rfl,rfl,SqT.of hr1,rfl,rfl,_,rfl,zd1 (by decide +kernel) ?_⟩
   refine⟨_,rfl,p,dx,_,rfl,hp,zq6 _ _ _ (by decide +kernel) (by decide +kernel) (by decide +kernel),_,rfl,r,_,_,_,rfl,rfl,SqT.of hr1,rfl,_,rfl,t,_,_,_,rfl,rfl,SqT.of ht,rfl,(by show 3≤sizeLine;decide),fun t2 ht2=>?_⟩
   have s2:=za4 ht2 (.tup [.str "nest",.int (n:Nat),.int (i:Nat)])
   refine⟨p,t2,la,na,ga,.nest n i,Tb,L,rfl,N.mono s2,za0,hlt,by omega,fun k T2 L2 H2 N2 p2 z2 hk2 b2=>?_⟩
   have t02:Tups H H2:=(Tups.of s2).trans ((N.mono s2).tups b2)
   refine⟨_,rfl,t,_,_,_,rfl,rfl,SqT.of (t02 _ _ ht),rfl,(by show 2≤sizeLine;decide),fun t3 ht3=>?_⟩
   have s3:=za4 ht3 (.tup [.int (k:Nat),.int (j:Nat)])
   exact out t3 T2 L2 _ (N2.mono s3) p2 (by omega) ⟨k,j,za0,by rw[hf0];exact⟨i,hk2,hi.mono p2⟩,by rw[ht0];exact hj.mono p2⟩ ((But3.of s2).trans (b2.trans (But3.of s3)))
 |align q1=>
  obtain⟨a1,hr1,_⟩:=hP
  refine⟨_,rfl,r,_,_,_,rfl,rfl,SqT.of hr1,rfl,rfl,_,rfl,zc3 (by decide +kernel) ?_⟩
  refine⟨_,rfl,p,C,dx,_,_,rfl,hp,T.cl,T.nLe,zi4 _ _ _,_,rfl,t,_,_,_,rfl,rfl,SqT.of ht,rfl,ga,_,_,_,rfl,rfl,SqL.of hle,hat,_,rfl,?_⟩
  have ht0:nOf (.align q1) true=nOf q1 true:=yh1 q1
  have hf0:nOf (.align q1) false=if(ze9 (nOf q1 false)).isSome=true then nOf q1 false else .align (nOf q1 false):=rfl
  show if(!decide (yb6 (ze9 (nOf q1 false))=.non))=true then _ else _
  cases c:ze9 (nOf q1 false) with
  |some m=>
   rw[c,if_pos (by rfl:(some m).isSome=true)] at hf0
   refine zd1 (by show(!decide (V.int (m:Nat)=V.non))=true;rw[decide_eq_false (fun z=>by cases z)];rfl) ⟨_,rfl,?_⟩
   exact out t Tb L H N (Pre.refl _) (by omega) ⟨i,j,ht,by rw[hf0];exact hi,by rw[ht0];exact hj⟩ But3.refl
  |none=>
   rw[c,if_neg (by decide:¬((none:Option Nat).isSome=true))] at hf0
   refine zc3 (by show ¬(!decide (V.non=V.non))=true;decide) ?_
   refine⟨_,rfl,r,_,_,_,rfl,rfl,SqT.of hr1,rfl,rfl,_,rfl,zc3 (by decide +kernel) ?_⟩
   refine⟨_,rfl,p,dx,_,rfl,hp,zq6 _ _ _ (by decide +kernel) (by decide +kernel) (by decide +kernel),_,rfl,t,_,_,_,rfl,rfl,SqT.of ht,rfl,(by show 2≤sizeLine;decide),fun t2 ht2=>?_⟩
   have s2:=za4 ht2 (.tup [.str "align",.int (i:Nat)])
   refine⟨p,t2,la,na,ga,.align i,Tb,L,rfl,N.mono s2,za0,hlt,by omega,fun k T2 L2 H2 N2 p2 z2 hk2 b2=>?_⟩
   have t02:Tups H H2:=(Tups.of s2).trans ((N.mono s2).tups b2)
   refine⟨_,rfl,t,_,_,_,rfl,rfl,SqT.of (t02 _ _ ht),rfl,(by show 2≤sizeLine;decide),fun t3 ht3=>?_⟩
   have s3:=za4 ht3 (.tup [.int (k:Nat),.int (j:Nat)])
   exact out t3 T2 L2 _ (N2.mono s3) p2 (by omega) ⟨k,j,za0,by rw[hf0];exact⟨i,hk2,hi.mono p2⟩,by rw[ht0];exact hj.mono p2⟩ ((But3.of s2).trans (b2.trans (But3.of s3)))
 |_=>cases hc
end
end Pq
namespace Pq
open PySem L2
theorem core_wraps{q:Plan}(h:zk8 q=true):zg6 q=[]:=by cases q<;>first|rfl|cases h
theorem noncore_at{H:Hp}{q:Plan}{r:Addr}(h:PlanAt H q r)(hc:zk8 q=false):∃(p2:Plan) (a2:Addr) (ys:List V),H r=some (.tup ys)∧PlanAt H p2 a2∧zg6 q=q::zg6 p2∧p2.size<q.size∧atI ys (-1)=some (.ref a2):=by
 cases q with
 |nest n p2=>obtain⟨a2,e,q2⟩:=h;exact⟨p2,a2,_,e,q2,rfl,by simp only[Plan.size];omega,rfl⟩
 |align p2=>obtain⟨a2,e,q2⟩:=h;exact⟨p2,a2,_,e,q2,rfl,by simp only[Plan.size];omega,rfl⟩
 |flat p2=>obtain⟨a2,e,q2⟩:=h;exact⟨p2,a2,_,e,q2,rfl,by simp only[Plan.size];omega,rfl⟩
 |_=>cases hc
theorem Pre.le{T T':List Raw}(h:Pre T T'):T.length≤T'.length:=by
 rcases Nat.eq_zero_or_pos T.length with z|z
 ·omega
 ·obtain⟨r,hr⟩:∃r,T[T.length - 1]? = some r:=⟨_,List.getElem?_eq_getElem (by omega)⟩
  have:=(List.getElem?_eq_some_iff.mp (h _ _ hr)).1
  omega
section
variable {P:Program}{w:World}{K:PySem.W.Frag}{mg:Str→Option Value}{base:Heap}{f:Addr}{fd:FuncData}{C aW:Addr}
abbrev psPl:List Str:=["self","plan","pair_of_core"]
theorem scNdPl:FnScope ["self","plan","pair_of_core","pair","wrappers","wrapper"] psPl (za7 zy6):=⟨rfl,rfl,rfl,by decide +kernel,rfl,by decide +kernel,by decide +kernel⟩
theorem ok_ndPlan{fR:Addr}{rD:FuncData}(F:Fun K "pair_of_plan" "Nodes.pair_of_plan" zy6 f fd)(T:Nds K mg C)(U:Wrp K mg aW)(RD:MO P w K mg base C CX0 3 fR rD "pair_round" ["self","wrapper","pair"] (ndRound C)):FnOk P w K mg base CX0 4 f fd psPl (ndPlan C):=by
 refine F.okq scNdPl (fun vs H Q E h=>?_) (fun cdv A outer s H vs Q E hr h=>?_)
 ·obtain⟨p,r,t,la,na,ga,q,T,L,rfl,_⟩:=h
  rfl
 obtain⟨p,r,t,la,na,ga,q,Tb,L,rfl,N,hz,hP,hT,out⟩:=h
 have nd:=scNdPl.nd
 refine⟨_,za1 (zb2 (i:=3) nd rfl (Or.inl rfl) (pvq 2))<|
  za1 (zb2 (i:=4) nd rfl (Or.inl rfl) (zd4 za3))<|
  za1 (zl5 PassesOwn.never (zb6 zs1 (zb1 zb3 (pvq 1) za5 (fun _ _=>rfl)) (zq1 rfl U.mW (v:=.ref aW) rfl) rfl) (
   za1 (ze1 (zh8 PySem.F.plainAttrs_list PySem.F.slot_list_append PySem.F.type_list_append zg2 (pvq 4) (za2 (pvq 1) za3)))<|
   za6 (zb2 (i:=1) nd rfl (Or.inl rfl) (zb1 zb3 (pvq 1) (yd8 yc6 za5) (fun _ _=>rfl)))))<|
  za1 (zp9 PassesOwn.never rfl (pi_revq rfl T.rev (za2 (pvq 4) za3)) (zn8 (i:=5) nd rfl (Or.inl rfl)) (
   za6 (zb2 (i:=3) nd rfl (Or.inl rfl) (zc2 (pvq 0) T.cl RD.m RD.ok hr RD.b .nil zc7 (za2 (pvq 5) (za2 (pvq 3) za3))))))<|
  za6 (zb4 (pvq 3)),?_⟩
 obtain⟨⟨dx,hp⟩,⟨as0,hla,hras⟩,hnu,hle,nlg,wf⟩:=id N
 refine⟨_,rfl,(by show 0≤sizeLine;decide),fun D hD=>?_⟩
 have s0:=za4 hD (.lst [])
 have nDl:D≠la:=fun z=>by rw[z,hla] at hD;cases hD
 have nDn:D≠na:=fun z=>by rw[z,hnu] at hD;cases hD
 have nDg:D≠ga:=fun z=>by rw[z,hle] at hD;cases hD
 refine⟨fun m σ H'=>∃(r':Addr) (q':Plan) (as:List Addr) (ws:List Plan),σ=[some (.ref p),some (.ref r'),some (.ref t),some (.ref t),some (.ref D),none]∧H' D=some (.lst (as.map V.ref))∧PlansAt H' as ws∧zg6 q=ws++zg6 q'∧PlanAt H' q' r'∧Same H H'∧m=q'.size,
  ⟨q.size,r,q,[],[],rfl,za0,.nil,rfl,hP.mono (.of s0),s0,rfl⟩,?_⟩
 rintro m σ H' ⟨r',q',as,ws,rfl,hd,has,ew,hP',s1,rfl⟩
 obtain⟨xs,hx⟩:=zo6 hP'
 refine⟨_,rfl,r',_,_,.str (zm0 q'),rfl,rfl,SqT.of hx,(by show atI (V.str (zm0 q')::xs) ((0:Nat):Int)=_;exact zh0 rfl),aW,_,rfl,.inr (U.sq H'),rfl,rfl,_,rfl,?_⟩
 show if inV (.str (zm0 q')) yb4=true then _ else _
 rw[wrap_in]
 have hal:=yd7 has
 have hwl:=zk9 q
 have hwn:(zg6 q).length=ws.length+(zg6 q').length:=by rw[ew,List.length_append]
 refine ite2 (fun e=>?_) (fun e=>?_)
 ·obtain⟨p2,a2,ys,hr2,hp2,e2,hs,hat⟩:=noncore_at hP' (by cases h:zk8 q' with|false=>rfl|true=>rw[h] at e;cases e)
  exact
   ⟨fun σ' H''=>∃m',m'<q'.size∧∃(r':Addr) (q':Plan) (as:List Addr) (ws:List Plan),σ'=[some (.ref p),some (.ref r'),some (.ref t),some (.ref t),some (.ref D),none]∧H'' D=some (.lst (as.map V.ref))∧PlansAt H'' as ws∧zg6 q=ws++zg6 q'∧PlanAt H'' q' r'∧Same H H''∧m'=q'.size,fun σ' H'' z=>z,
   _,rfl,.inl ⟨rfl,_,SqL.of hd⟩,_,rfl,D,_,_,rfl,rfl,hd,Nat.lt_of_lt_of_le (show(as.map V.ref).length<1000001 by rw[List.length_map,hal];omega) (zd2 (by omega)),
   _,rfl,_,rfl,r',ys,_,.ref a2,rfl,rfl,SqT.of ((zc6 hd) _ _ hr2),hat,p2.size,hs,a2,p2,as++[r'],ws++[q'],rfl,(by rw[za0,List.map_append];rfl),zd5 (PlansAt.mono (zc6 hd) has) (.cons (hP'.mono (zc6 hd)) .nil),(by rw[ew,e2,List.append_assoc];rfl),hp2.mono (zc6 hd),zj0 s1 hD _,rfl⟩
 ·have ewq:zg6 q'=[]:=core_wraps (by cases h:zk8 q' with|true=>rfl|false=>rw[h] at e;exact absurd rfl e)
  have ew2:zg6 q=ws:=by rw[ew,ewq,List.append_nil]
  have rev:PlansAt H' as.reverse ws.reverse:=zz4 has
  have N1:=N.mono s1
  refine⟨_,rfl,D,_,rfl,SqL.of hd,for_rev (K:=K) (a:=D) (xs:=as.map V.ref) (fun i σ H2=>∃(v5:Option V) (ti:Addr) (Ti:List Raw) (Li:List (Option Nat)),σ=[some (.ref p),some (.ref r'),some (.ref t),some (.ref ti),some (.ref D),v5]∧NodesAt C H2 p la na ga Ti Li∧Pre Tb Ti∧Ti.length≤Tb.length+i∧PairAt H2 Ti ti (strip ((zg6 q).length - i) q)∧But3 la na ga H' H2)
   ⟨_,t,Tb,L,rfl,N1,Pre.refl _,Nat.le_refl _,by rw[Nat.sub_zero,zw0];exact hT.mono (.of s1) (Pre.refl _),But3.refl⟩
   (fun i σ H2 _ ⟨_,_,_,_,_,_,_,_,_,b⟩=>SqL.of (b _ _ hd nDl nDn nDg)) (fun i x σ H2 hx hv=>by
    obtain⟨v5,ti,Ti,Li,rfl,Ni,pi,zi,hi,bi⟩:=hv
    rw[←List.map_reverse] at hx
    obtain⟨wa,wq,rfl,hwa,hwq,hwp⟩:=rev.get hx
    have hlt:i<ws.length:=by
     have:=(List.getElem?_eq_some_iff.mp hwq).1
     rwa [List.length_reverse] at this
    rw[List.getElem?_reverse hlt] at hwq
    obtain⟨e1,e2,e3⟩:=yb7 q (ws.length - 1 - i) wq (by rw[ew2];exact hwq)
    obtain⟨dx2,hp2⟩:=Ni.ob
    have en1:ws.length - 1 - i+1=(zg6 q).length - i:=by rw[ew2];omega
    have en2:ws.length - 1 - i=(zg6 q).length - (i+1):=by rw[ew2];omega
    rw[en1] at e3
    rw[en2] at e1
    have t2:Tups H' H2:=N1.tups bi
    refine⟨_,rfl,p,dx2,_,rfl,hp2,zq6 _ _ _ (by decide +kernel) (by decide +kernel) (by decide +kernel),_,rfl,_,rfl,?_⟩
    refine⟨p,wa,ti,la,na,ga,wq,Ti,Li,rfl,Ni,by omega,hwp.mono t2,e2,by rw[e3];exact hi,fun t3 T3 L3 H3 N3 p3 z3 h3 b3=>?_⟩
    exact⟨_,t3,T3,L3,rfl,N3,pi.trans p3,by omega,by rw[←e1];exact h3,bi.trans b3⟩)
   (fun σ H2 hv=>by
    obtain⟨v5,ti,Ti,Li,rfl,Ni,pi,zi,hi,bi⟩:=hv
    rw[List.length_map,hal,←ew2] at hi zi
    rw[Nat.sub_self] at hi
    exact⟨_,rfl,out ti Ti Li H2 Ni pi zi hi ((But3.of s1).trans bi)⟩)⟩
abbrev psTw:List Str:=["self","core","first","second"]
theorem scNdTw:FnScope ["self","core","first","second","as_it_is"] psTw (za7 yi8):=⟨rfl,rfl,rfl,by decide +kernel,rfl,by decide +kernel,by decide +kernel⟩
theorem ok_ndTwo{fN fP:Addr}{nD pD:FuncData}(F:Fun K "pair_of_two" "Nodes.pair_of_two" yi8 f fd)(T:Nds K mg C)(NU:MO P w K mg base C CX0 2 fN nD "number_of" psN (zx0 C))(PL:MO P w K mg base C CX0 4 fP pD "pair_of_plan" psPl (ndPlan C)):FnOk P w K mg base CX0 5 f fd psTw (ndTwo C):=by
 refine F.okq scNdTw (fun vs H Q E h=>?_) (fun cdv A outer s H vs Q E hr h=>?_)
 ·obtain⟨p,r,t1,t2,la,na,ga,x,y,c,a,b,T,L,rfl,_⟩:=h
  rfl
 obtain⟨p,r,t1,t2,la,na,ga,x,y,c,a,b,Tb,L,rfl,N,hz,hc,hx,hy,h1,h2,out⟩:=h
 have nd:=scNdTw.nd
 have hr2:Room 2 _:=hr.mono (by decide)
 refine⟨_,za1 (zb2 (i:=2) nd rfl (Or.inl rfl) (zc2 (pvq 0) T.cl PL.m PL.ok hr PL.b .nil zc7 (zb7 (zb1 zb3 (pvq 1) za5 (fun _ _=>rfl)) (za2 (pvq 2) za3))))<|
  za1 (zb2 (i:=3) nd rfl (Or.inl rfl) (zc2 (pvq 0) T.cl PL.m PL.ok hr PL.b .nil zc7 (zb7 (zb1 zb3 (pvq 1) za5 (fun _ _=>rfl)) (za2 (pvq 3) za3))))<|
  za1 (zb2 (i:=4) nd rfl (Or.inl rfl) (zc2 (pvq 0) T.cl NU.m NU.ok hr2 NU.b .nil zc7 (zf6 (zc5 (zb7 (zb1 zb3 (pvq 1) za5 (fun _ _=>rfl)) (zb7 (zb1 zb3 (pvq 2) za5 (fun _ _=>rfl)) (zb7 (zb1 zb3 (pvq 3) za5 (fun _ _=>rfl)) za3)))) za3)))<|
  za6 (zb4 (zc5 (za2 (pvq 4) (ze4 (zc2 (pvq 0) T.cl NU.m NU.ok hr2 NU.b .nil zc7 (zf6 (zc5 (zb7 (zb1 zb3 (pvq 1) za5 (fun _ _=>rfl)) (zb7 (zb1 zb3 (pvq 2) za5 (fun _ _=>rfl)) (zb7 (zb1 zb3 (pvq 3) za5 (fun _ _=>rfl)) za3)))) za3)) za3)))),?_⟩
 rcases hc with⟨rfl,hc⟩|⟨rfl,hc⟩
 ·obtain⟨dx,hp⟩:=N.ob
  refine⟨_,rfl,p,dx,_,rfl,hp,zq6 _ _ _ (by decide +kernel) (by decide +kernel) (by decide +kernel),_,rfl,r,_,_,.ref x,rfl,rfl,SqT.of hc,rfl,_,rfl,?_⟩
  refine⟨p,x,t1,la,na,ga,a,Tb,L,rfl,N,by omega,hx,h1,fun u1 T1 L1 H1 N1 p1 z1 ⟨i1,j1,e1,g1,k1⟩ b1=>?_⟩
  have s1:=N.tups b1
  obtain⟨dx1,hp1⟩:=N1.ob
  refine⟨_,rfl,p,dx1,_,rfl,hp1,zq6 _ _ _ (by decide +kernel) (by decide +kernel) (by decide +kernel),_,rfl,r,_,_,.ref y,rfl,rfl,SqT.of (s1 _ _ hc),rfl,_,rfl,?_⟩
  refine⟨p,y,t2,la,na,ga,b,T1,L1,rfl,N1,by omega,hy.mono s1,h2.mono s1 p1,fun u2 T2 L2 H2 N2 p2 z2 ⟨i2,j2,e2,g2,k2⟩ b2=>?_⟩
  have s2:=N1.tups b2
  obtain⟨dx2,hp2⟩:=N2.ob
  refine⟨_,rfl,p,dx2,_,rfl,hp2,zq6 _ _ _ (by decide +kernel) (by decide +kernel) (by decide +kernel),_,rfl,r,_,_,.str "beside",rfl,rfl,SqT.of (s2 _ _ (s1 _ _ hc)),rfl,_,rfl,u1,_,_,.int (i1:Nat),rfl,rfl,SqT.of (s2 _ _ e1),rfl,_,rfl,u2,_,_,.int (i2:Nat),rfl,rfl,SqT.of e2,rfl,(by show 3≤sizeLine;decide),fun u3 hu3=>?_⟩
  have s3:=za4 hu3 (.tup [.str "beside",.int (i1:Nat),.int (i2:Nat)])
  have m1:=(g1.mono p2).lt
  have m2:=g2.lt
  have n1:=(k1.mono p2).lt
  have n2:=k2.lt
  refine⟨p,u3,la,na,ga,.beside i1 i2,T2,L2,rfl,N2.mono s3,za0,⟨m1,m2⟩,by omega,fun k T3 L3 H3 N3 p3 z3 hk3 b3=>?_⟩
  have s4:Tups H2 H3:=(Tups.of s3).trans ((N2.mono s3).tups b3)
  obtain⟨dx3,hp3⟩:=N3.ob
  refine⟨_,rfl,_,rfl,p,dx3,_,rfl,hp3,zq6 _ _ _ (by decide +kernel) (by decide +kernel) (by decide +kernel),_,rfl,r,_,_,.str "beside",rfl,rfl,SqT.of (s4 _ _ (s2 _ _ (s1 _ _ hc))),rfl,_,rfl,u1,_,_,.int (j1:Nat),rfl,rfl,SqT.of (s4 _ _ (s2 _ _ e1)),rfl,_,rfl,u2,_,_,.int (j2:Nat),rfl,rfl,SqT.of (s4 _ _ e2),rfl,(by show 3≤sizeLine;decide),fun u4 hu4=>?_⟩
  have s5:=za4 hu4 (.tup [.str "beside",.int (j1:Nat),.int (j2:Nat)])
  have q3:=p3.le
  refine⟨p,u4,la,na,ga,.beside j1 j2,T3,L3,rfl,N3.mono s5,za0,⟨by omega,by omega⟩,by omega,fun k' T4 L4 H4 N4 p4 z4 hk4 b4=>?_⟩
  refine⟨(by show 2≤sizeLine;decide),fun u5 hu5=>?_⟩
  have s6:=za4 hu5 (.tup [.int (k:Nat),.int (k':Nat)])
  exact out u5 T4 L4 _ (N4.mono s6) (p1.trans (p2.trans (p3.trans p4))) (by omega) ⟨k,k',za0,⟨i1,i2,p4 _ _ hk3,g1.mono (p2.trans (p3.trans p4)),g2.mono (p3.trans p4)⟩,⟨j1,j2,hk4,k1.mono (p2.trans (p3.trans p4)),k2.mono (p3.trans p4)⟩⟩
   (b1.trans (b2.trans ((But3.of s3).trans (b3.trans ((But3.of s5).trans (b4.trans (But3.of s6)))))))
 ·obtain⟨dx,hp⟩:=N.ob
  refine⟨_,rfl,p,dx,_,rfl,hp,zq6 _ _ _ (by decide +kernel) (by decide +kernel) (by decide +kernel),_,rfl,r,_,_,.ref x,rfl,rfl,SqT.of hc,rfl,_,rfl,?_⟩
  refine⟨p,x,t1,la,na,ga,a,Tb,L,rfl,N,by omega,hx,h1,fun u1 T1 L1 H1 N1 p1 z1 ⟨i1,j1,e1,g1,k1⟩ b1=>?_⟩
  have s1:=N.tups b1
  obtain⟨dx1,hp1⟩:=N1.ob
  refine⟨_,rfl,p,dx1,_,rfl,hp1,zq6 _ _ _ (by decide +kernel) (by decide +kernel) (by decide +kernel),_,rfl,r,_,_,.ref y,rfl,rfl,SqT.of (s1 _ _ hc),rfl,_,rfl,?_⟩
  refine⟨p,y,t2,la,na,ga,b,T1,L1,rfl,N1,by omega,hy.mono s1,h2.mono s1 p1,fun u2 T2 L2 H2 N2 p2 z2 ⟨i2,j2,e2,g2,k2⟩ b2=>?_⟩
  have s2:=N1.tups b2
  obtain⟨dx2,hp2⟩:=N2.ob
  refine⟨_,rfl,p,dx2,_,rfl,hp2,zq6 _ _ _ (by decide +kernel) (by decide +kernel) (by decide +kernel),_,rfl,r,_,_,.str "choice",rfl,rfl,SqT.of (s2 _ _ (s1 _ _ hc)),rfl,_,rfl,u1,_,_,.int (i1:Nat),rfl,rfl,SqT.of (s2 _ _ e1),rfl,_,rfl,u2,_,_,.int (i2:Nat),rfl,rfl,SqT.of e2,rfl,(by show 3≤sizeLine;decide),fun u3 hu3=>?_⟩
  have s3:=za4 hu3 (.tup [.str "choice",.int (i1:Nat),.int (i2:Nat)])
  have m1:=(g1.mono p2).lt
  have m2:=g2.lt
  have n1:=(k1.mono p2).lt
  have n2:=k2.lt
  refine⟨p,u3,la,na,ga,.choice i1 i2,T2,L2,rfl,N2.mono s3,za0,⟨m1,m2⟩,by omega,fun k T3 L3 H3 N3 p3 z3 hk3 b3=>?_⟩
  have s4:Tups H2 H3:=(Tups.of s3).trans ((N2.mono s3).tups b3)
  obtain⟨dx3,hp3⟩:=N3.ob
  refine⟨_,rfl,_,rfl,p,dx3,_,rfl,hp3,zq6 _ _ _ (by decide +kernel) (by decide +kernel) (by decide +kernel),_,rfl,r,_,_,.str "choice",rfl,rfl,SqT.of (s4 _ _ (s2 _ _ (s1 _ _ hc))),rfl,_,rfl,u1,_,_,.int (j1:Nat),rfl,rfl,SqT.of (s4 _ _ (s2 _ _ e1)),rfl,_,rfl,u2,_,_,.int (j2:Nat),rfl,rfl,SqT.of (s4 _ _ e2),rfl,(by show 3≤sizeLine;decide),fun u4 hu4=>?_⟩
  have s5:=za4 hu4 (.tup [.str "choice",.int (j1:Nat),.int (j2:Nat)])
  have q3:=p3.le
  refine⟨p,u4,la,na,ga,.choice j1 j2,T3,L3,rfl,N3.mono s5,za0,⟨by omega,by omega⟩,by omega,fun k' T4 L4 H4 N4 p4 z4 hk4 b4=>?_⟩
  refine⟨(by show 2≤sizeLine;decide),fun u5 hu5=>?_⟩
  have s6:=za4 hu5 (.tup [.int (k:Nat),.int (k':Nat)])
  exact out u5 T4 L4 _ (N4.mono s6) (p1.trans (p2.trans (p3.trans p4))) (by omega) ⟨k,k',za0,⟨i1,i2,p4 _ _ hk3,g1.mono (p2.trans (p3.trans p4)),g2.mono (p3.trans p4)⟩,⟨j1,j2,hk4,k1.mono (p2.trans (p3.trans p4)),k2.mono (p3.trans p4)⟩⟩
   (b1.trans (b2.trans ((But3.of s3).trans (b3.trans ((But3.of s5).trans (b4.trans (But3.of s6)))))))
end
end Pq
namespace Pq
open PySem L2
theorem yn7(s:List V)(v:V):(s++[v])[(s++[v]).length - 1]? = some v:=by simp
theorem two_stk{c a b:Plan}(h:zj3 c=yg7 a b){st st':List Plan}(hs:zr5 c st=some st'):
  (zh6 a=zh6 b∧(zj3 c).length=1∧∃rs,st=zh6 a::rs∧st'=c::rs)∨(zh6 a≠zh6 b∧(zj3 c).length=2∧∃rs,st=zh6 b::zh6 a::rs∧st'=c::rs):=by
 unfold yg7 at h
 unfold zr5 at hs
 rw[h] at hs ⊢
 by_cases e:zh6 a=zh6 b
 ·rw[if_pos e] at hs ⊢
  refine .inl ⟨e,rfl,?_⟩
  cases st with
  |nil=>cases hs
  |cons x r=>
   have hs:(if x=zh6 a then some (c::r) else none)=some st':=hs
   split at hs
   ·rename_i hx;cases hs;exact⟨r,by rw[hx],rfl⟩
   ·cases hs
 ·rw[if_neg e] at hs ⊢
  refine .inr ⟨e,rfl,?_⟩
  cases st with
  |nil=>cases hs
  |cons y st=>
   cases st with
   |nil=>cases hs
   |cons x r=>
    have hs:(if x=zh6 a∧y=zh6 b then some (c::r) else none)=some st':=hs
    split at hs
    ·rename_i hx;cases hs;exact⟨r,by rw[hx.1,hx.2],rfl⟩
    ·cases hs
theorem zn4:∀(p q:Plan),q∈zf4 p→q.size≤p.size∧q.grow≤p.grow∧zk8 q=true
 |.text _,q,h=>by rw[List.mem_singleton.mp h];exact⟨Nat.le_refl _,Nat.le_refl _,rfl⟩
 |.line,q,h=>by rw[List.mem_singleton.mp h];exact⟨Nat.le_refl _,Nat.le_refl _,rfl⟩
 |.cut,q,h=>by rw[List.mem_singleton.mp h];exact⟨Nat.le_refl _,Nat.le_refl _,rfl⟩
 |.nest _ p,q,h=>by have:=zn4 p q h;simp only[Plan.size,Plan.grow];exact⟨by omega,by omega,this.2.2⟩
 |.align p,q,h=>by have:=zn4 p q h;simp only[Plan.size,Plan.grow];exact⟨by omega,by omega,this.2.2⟩
 |.flat p,q,h=>by have:=zn4 p q h;simp only[Plan.size,Plan.grow];exact⟨by omega,by omega,this.2.2⟩
 |.beside a b,q,h=>by
  have hq:q∈zf4 a∨q∈zf4 b∨q=.beside a b:=by
   simp only[zf4] at h
   split at h<;>simp at h<;>rcases h with z|z<;>simp_all
  rcases hq with z|z|z
  ·have:=zn4 a q z;simp only[Plan.size,Plan.grow];exact⟨by omega,by omega,this.2.2⟩
  ·have:=zn4 b q z;simp only[Plan.size,Plan.grow];exact⟨by omega,by omega,this.2.2⟩
  ·rw[z];exact⟨Nat.le_refl _,Nat.le_refl _,rfl⟩
 |.choice a b,q,h=>by
  have hq:q∈zf4 a∨q∈zf4 b∨q=.choice a b:=by
   simp only[zf4] at h
   split at h<;>simp at h<;>rcases h with z|z<;>simp_all
  rcases hq with z|z|z
  ·have:=zn4 a q z;simp only[Plan.size,Plan.grow];exact⟨by omega,by omega,this.2.2⟩
  ·have:=zn4 b q z;simp only[Plan.size,Plan.grow];exact⟨by omega,by omega,this.2.2⟩
  ·rw[z];exact⟨Nat.le_refl _,Nat.le_refl _,rfl⟩
theorem core_cases{c:Plan}(h:zk8 c=true):zv2 c=true∨∃a b,c=.beside a b∨c=.choice a b:=by
 cases c with
 |beside a b=>exact .inr ⟨a,b,.inl rfl⟩
 |choice a b=>exact .inr ⟨a,b,.inr rfl⟩
 |nest _ _=>cases h
 |align _=>cases h
 |flat _=>cases h
 |_=>exact .inl rfl
theorem leaf_kids{c:Plan}(h:zv2 c=true):zj3 c=[]:=by cases c<;>first|rfl|cases h
theorem two_kids{c a b:Plan}(h:c=.beside a b∨c=.choice a b):zj3 c=yg7 a b:=by rcases h with rfl|rfl<;>rfl
theorem two_at{H:Hp}{c a b:Plan}{r:Addr}(h:c=.beside a b∨c=.choice a b)(hp:PlanAt H c r):∃x y,H r=some (.tup [.str (zm0 c),.ref x,.ref y])∧PlanAt H a x∧PlanAt H b y∧(zg6 a).length≤c.size∧(zg6 b).length≤c.size:=by
 have w1:=zk9 a
 have w2:=zk9 b
 rcases h with rfl|rfl
 ·obtain⟨x,y,e,q,q'⟩:=hp;exact⟨x,y,e,q,q',by simp only[Plan.size];omega,by simp only[Plan.size];omega⟩
 ·obtain⟨x,y,e,q,q'⟩:=hp;exact⟨x,y,e,q,q',by simp only[Plan.size];omega,by simp only[Plan.size];omega⟩
theorem two_at2{H:Hp}{c a b:Plan}{r x y:Addr}(h:c=.beside a b∨c=.choice a b)(e:H r=some (.tup [.str (zm0 c),.ref x,.ref y])):(c=.beside a b∧H r=some (.tup [.str "beside",.ref x,.ref y]))∨(c=.choice a b∧H r=some (.tup [.str "choice",.ref x,.ref y])):=by
 rcases h with rfl|rfl
 ·exact .inl ⟨rfl,e⟩
 ·exact .inr ⟨rfl,e⟩
abbrev PairsAt(H:Hp)(T:List Raw):List Addr→List Plan→Prop:=Paired (PairAt H T)
theorem PairsAt.mono{H H':Hp}{T T':List Raw}(h:Tups H H')(hp:Pre T T'){as:List Addr}{ps:List Plan}(r:PairsAt H T as ps):PairsAt H' T' as ps:=Paired.mapP r fun _ _ e=>e.mono h hp
section
variable {P:Program}{w:World}{K:PySem.W.Frag}{mg:Str→Option Value}{base:Heap}{f:Addr}{fd:FuncData}{C aW:Addr}
theorem scNdRt:FnScope ["self","plan","pairs","step","second","first"] ["self","plan"] (za7 zy5):=⟨rfl,rfl,rfl,by decide +kernel,rfl,by decide +kernel,by decide +kernel⟩
set_option maxHeartbeats 8000000 in
theorem ok_ndRoot{fL fT fP fO:Addr}{lD tD pD oD:FuncData}(F:Fun K "root_of" "Nodes.root_of" zy5 f fd)(T:Nds K mg C)(LV:MO P w K mg base C CX0 3 fL lD "pair_of_leaf" ["self","leaf"] (ndLeaf C))(TW:MO P w K mg base C CX0 5 fT tD "pair_of_two" psTw (ndTwo C))(PL:MO P w K mg base C CX0 4 fP pD "pair_of_plan" psPl (ndPlan C))
  (GO:FnOk P w K mg base CX0 3 fO oD ["plan"] spCores) (bO:Binds K oD ["plan"] []) (kO:PySem.W.keepIn K (.ref fO)=true) (mO:mg "cores_from_outside"=some (.ref fO)):FnOk P w K mg base CX0 6 f fd ["self","plan"] (ndRoot C):=by
 refine F.okq scNdRt (fun vs H Q E h=>?_) (fun cdv A outer s H vs Q E hr h=>?_)
 ·obtain⟨p,r,la,na,ga,q,rfl,_⟩:=h
  rfl
 obtain⟨o,r,la,na,ga,p,rfl,N,hP,hl,hdp,hz,hgr,q⟩:=h
 have nd:=scNdRt.nd
 refine⟨_,za1 (zb2 (i:=2) nd rfl (Or.inl rfl) (zd4 za3))<|
  za1 (zp9 PassesOwn.never rfl (pi_revq rfl T.rev (ze4 (zc0 GO (hr.mono (by decide)) rfl mO kO bO .nil zc7 (za2 (pvq 1) za3)) za3)) (zn8 (i:=3) nd rfl (Or.inl rfl)) (
   za1 (zd0 (zb6 zh1 (zb1 zb3 (pvq 3) za5 (fun _ _=>rfl)) za5 (zd7 _)) (za1 (ze1 (zh8 PySem.F.plainAttrs_list PySem.F.slot_list_append PySem.F.type_list_append zg2 (pvq 2) (ze4 (zc2 (pvq 0) T.cl LV.m LV.ok (hr.mono (by decide)) LV.b .nil zc7 (zb7 (zb1 zb3 (pvq 3) za5 (fun _ _=>rfl)) za3)) za3))) (za6 zr9)) zb9)<|
   za1 (zb2 (i:=4) nd rfl (Or.inl rfl) (zu6 PySem.F.plainAttrs_list PySem.F.slot_list_pop PySem.F.type_list_pop ye6 (pvq 2)))<|
   za1 (zb2 (i:=5) nd rfl (Or.inl rfl) (zk1 (zb6 zh1 (zb1 zb3 (pvq 3) za5 (fun _ _=>rfl)) za5 (zd7 _)) (zu6 PySem.F.plainAttrs_list PySem.F.slot_list_pop PySem.F.type_list_pop ye6 (pvq 2)) (pvq 4)))<|
   za6 (ze1 (zh8 PySem.F.plainAttrs_list PySem.F.slot_list_append PySem.F.type_list_append zg2 (pvq 2) (ze4 (zc2 (pvq 0) T.cl TW.m TW.ok hr TW.b .nil zc7 (zb7 (zb1 zb3 (pvq 3) za5 (fun _ _=>rfl)) (za2 (pvq 5) (za2 (pvq 4) za3)))) za3)))))<|
  za6 (zb4 (zb1 zb3 (zc2 (pvq 0) T.cl PL.m PL.ok (hr.mono (by decide)) PL.b .nil zc7 (za2 (pvq 1) (zb7 (zb1 zf8 (pvq 2) za5 (fun _ _=>rfl)) za3))) za5 (fun _ _=>rfl))),?_⟩
 obtain⟨⟨dx,hp⟩,⟨as0,hla,hras⟩,hnu,hle,nlg,wf⟩:=id N
 refine⟨(by show 0≤sizeLine;decide),fun D hD=>?_⟩
 have s0:=za4 hD (.lst [])
 have nDl:D≠la:=fun z=>by rw[z,hla] at hD;cases hD
 have nDn:D≠na:=fun z=>by rw[z,hnu] at hD;cases hD
 have nDg:D≠ga:=fun z=>by rw[z,hle] at hD;cases hD
 have nDo:D≠o:=fun z=>by rw[z,hp] at hD;cases hD
 refine⟨_,rfl,r,p,rfl,hP.mono (.of s0),hl,hdp,by omega,fun l ts H1 s1 n1 e1 P1=>?_⟩
 have nl:l≠D:=fun z=>by rw[z,za0] at n1;cases n1
 have n1':=s0.free n1
 have nll:l≠la:=fun z=>by rw[z,hla] at n1';cases n1'
 have nln:l≠na:=fun z=>by rw[z,hnu] at n1';cases n1'
 have nlga:l≠ga:=fun z=>by rw[z,hle] at n1';cases n1'
 have hlen:=zf9 P1
 rw[List.length_reverse] at hlen
 have hml:(ts.map V.ref).length=(zf4 p).length:=by rw[List.length_map,hlen]
 have rev:CoresAt H1 ts.reverse (zf4 p):=by
  have z:=zz4 P1
  rwa [List.reverse_reverse] at z
 have cpl:=(zi8 p).1
 have hD1:H1 D=some (.lst []):=s1 _ _ za0
 refine⟨l,_,rfl,SqL.of e1,for_rev (K:=K) (a:=l) (xs:=ts.map V.ref) (fun i σ H2=>∃(v3 v4 v5:Option V) (st:List Plan) (as:List Addr) (Ti:List Raw) (Li:List (Option Nat)),σ=[some (.ref o),some (.ref r),some (.ref D),v3,v4,v5]∧yg8 ((zf4 p).take i) []=some st∧H2 D=some (.lst (as.map V.ref))∧PairsAt H2 Ti as st.reverse∧NodesAt C H2 o la na ga Ti Li∧Ti.length≤i*1300∧(∀b o,H1 b=some o→b≠D→b≠la→b≠na→b≠ga→H2 b=some o))
  ⟨_,_,_,[],[],[],[],rfl,rfl,hD1,.nil,N.mono (s0.trans s1),Nat.zero_le _,fun _ _ e _ _ _ _=>e⟩ (fun i σ H2 _ ⟨_,_,_,_,_,_,_,_,_,_,_,_,_,k⟩=>SqL.of (k _ _ e1 nl nll nln nlga)) ?_ ?_⟩
 ·rintro i x σ H2 hx ⟨v3,v4,v5,st,as,Ti,Li,rfl,hst,hd,hpa,Ni,hti,k2⟩
  have hi:i<(zf4 p).length:=by
   have:=(List.getElem?_eq_some_iff.mp hx).1
   rwa [List.length_reverse,hml] at this
  rw[←List.map_reverse] at hx
  obtain⟨t,c,rfl,hct,a,ha,hpl⟩:=rev.get hx
  obtain⟨st1,st',q1,q2,q3⟩:=cstk_at p i c hct
  rw[hst] at q1
  cases q1
  have t2:Tups H1 H2:=fun b xs e=>k2 _ _ e (ze5 e hD1 (by intro z;cases z)) (ze5 e (s1 _ _ (s0 _ _ hla)) (by intro z;cases z)) (ze5 e (s1 _ _ (s0 _ _ hnu)) (by intro z;cases z)) (ze5 e (s1 _ _ (s0 _ _ hle)) (by intro z;cases z))
  have hpl2:=hpl.mono t2
  have ha2:=t2 _ _ ha
  obtain⟨cm1,cm2,cm3⟩:=zn4 p c (List.mem_of_getElem? hct)
  have slen:as.length≤100000:=by
   have z:=cstk_len _ _ _ hst
   have y:=zf9 hpa
   rw[List.length_reverse] at y
   rw[List.length_take] at z
   simp at z
   omega
  have nopeI:∀ {i j:Int},¬i=j→¬(decide (V.int i=V.int j)=true):=fun h z=>h (V.int.inj (of_decide_eq_true z))
  have yepI:∀ {i j:Int},i=j→decide (V.int i=V.int j)=true:=fun h=>decide_eq_true (congrArg V.int h)
  have fin:∀(bs:List Addr) (ss:List Plan) (u:Addr) (T3:List Raw) (L3:List (Option Nat)) (H2' H3:Hp),(∀c o,H2 c=some o→c≠D→H2' c=some o)→H2' D=some (.lst (bs.map V.ref))→NodesAt C H2' o la na ga Ti Li→PairsAt H2' Ti bs ss.reverse→st'=c::ss→NodesAt C H3 o la na ga T3 L3→Pre Ti T3→T3.length≤Ti.length+1300→PairAt H3 T3 u c→But3 la na ga H2' H3→bs.length≤100000→H3 D=some (.lst (bs.map V.ref))∧(bs.map V.ref).length<2 ^ 24∧
    ∃(v3 v4 v5:Option V) (st:List Plan) (as:List Addr) (Tj:List Raw) (Lj:List (Option Nat)),yg8 ((zf4 p).take (i+1)) []=some st∧(upd H3 D (.lst (bs.map V.ref++[.ref u]))) D=some (.lst (as.map V.ref))∧PairsAt (upd H3 D (.lst (bs.map V.ref++[.ref u]))) Tj as st.reverse∧NodesAt C (upd H3 D (.lst (bs.map V.ref++[.ref u]))) o la na ga Tj Lj∧Tj.length≤(i+1)*1300∧(∀b o,H1 b=some o→b≠D→b≠la→b≠na→b≠ga→(upd H3 D (.lst (bs.map V.ref++[.ref u]))) b=some o):=fun bs ss u T3 L3 H2' H3 k' hd' N' pa' est N3 p3 z3 u3 b3 bl=>by
   have hd3:H3 D=some (.lst (bs.map V.ref)):=b3 _ _ hd' nDl nDn nDg
   have tu:Tups H3 (upd H3 D (.lst (bs.map V.ref++[.ref u]))):=zc6 hd3
   have t23:Tups H2' H3:=N'.tups b3
   refine⟨hd3,Nat.lt_of_lt_of_le (show(bs.map V.ref).length<1000001 by rw[List.length_map];omega) (zd2 (by omega)),none,none,none,st',bs++[u],T3,L3,q3,by rw[za0,List.map_append];rfl,?_,?_,by omega,fun b o e h1 h2 h3 h4=>by rw[za9 h1];exact b3 _ _ (k' _ _ (k2 _ _ e h1 h2 h3 h4) h1) h2 h3 h4⟩
   ·rw[est,List.reverse_cons]
    exact zd5 (PairsAt.mono (t23.trans tu) p3 pa') (.cons (u3.mono tu (Pre.refl _)) .nil)
   ·obtain⟨⟨dx3,hp3⟩,⟨as3,hla3,hras3⟩,hnu3,hle3,_,wf3⟩:=N3
    exact⟨⟨dx3,by rw[za9 nDo.symm];exact hp3⟩,⟨as3,by rw[za9 nDl.symm];exact hla3,hras3.mono tu⟩,by rw[za9 nDn.symm];exact hnu3,by rw[za9 nDg.symm];exact hle3,nlg,wf3⟩
  have lw:sizeLine=sizeLine:=rfl
  obtain⟨dx2,hp2⟩:=Ni.ob
  refine⟨_,rfl,t,_,_,.int ((zj3 c).length:Nat),rfl,rfl,SqT.of ha2,rfl,rfl,_,rfl,?_⟩
  rcases core_cases cm3 with hlf|⟨p1,p2,hcc⟩
  ·
   have e3:st'=c::st:=by
    unfold zr5 at q2
    rw[leaf_kids hlf] at q2
    exact(Option.some.inj q2).symm
   refine zd1 (yepI (by rw[leaf_kids hlf];rfl)) ?_
   refine⟨_,rfl,.inl ⟨rfl,_,SqL.of hd⟩,_,rfl,o,dx2,_,rfl,hp2,zq6 _ _ _ (by decide +kernel) (by decide +kernel) (by decide +kernel),_,rfl,t,_,_,.ref a,rfl,rfl,SqT.of ha2,rfl,?_⟩
   refine⟨o,a,la,na,ga,c,Ti,Li,rfl,Ni,by omega,hpl2,hlf,by omega,fun u T3 L3 H3 N3 p3 z3 u3 b3=>?_⟩
   obtain⟨f1,f2,v3',v4',v5',st2,as2,Tj,Lj,f3⟩:=fin as st u T3 L3 H2 H3 (fun c o e _=>e) hd Ni hpa e3 N3 p3 (by omega) u3 b3 slen
   exact⟨D,_,_,rfl,rfl,f1,f2,_,_,_,st2,as2,Tj,Lj,rfl,f3⟩
  ·obtain⟨x1,x2,hc2,hx1,hx2,w1,w2⟩:=two_at hcc hpl2
   have ek:=two_kids hcc
   rcases two_stk (a:=p1) (b:=p2) ek q2 with⟨e,en,rs,rfl,rfl⟩|⟨e,en,rs,rfl,rfl⟩
   ·refine zc3 (nopeI (by rw[en];decide)) ?_
    rw[List.reverse_cons] at hpa
    obtain⟨bs,u1,rfl,hbs,hu1⟩:=zh9 hpa
    rw[List.map_append] at hd
    refine⟨_,rfl,.inl ⟨rfl,_,SqL.of hd⟩,D,_,_,rfl,rfl,hd,yn7 _ _,?_⟩
    show tSeq _ _ _ _ (upd H2 D (.lst (bs.map V.ref++[V.ref u1]).dropLast))
    rw[List.dropLast_concat]
    have tk:Tups H2 (upd H2 D (.lst (bs.map V.ref))):=zc6 hd
    have N':NodesAt C (upd H2 D (.lst (bs.map V.ref))) o la na ga Ti Li:=by
     obtain⟨⟨dx3,hp3⟩,⟨as3,hla3,hras3⟩,hnu3,hle3,_,wf3⟩:=Ni
     exact⟨⟨dx3,by rw[za9 nDo.symm];exact hp3⟩,⟨as3,by rw[za9 nDl.symm];exact hla3,hras3.mono tk⟩,by rw[za9 nDn.symm];exact hnu3,by rw[za9 nDg.symm];exact hle3,nlg,wf3⟩
    have ha3:=tk _ _ ha2
    have hc3:=two_at2 hcc (tk _ _ hc2)
    have hd3:(upd H2 D (.lst (bs.map V.ref))) D=some (.lst (bs.map V.ref)):=za0
    have k3:∀c o,H2 c=some o→c≠D→(upd H2 D (.lst (bs.map V.ref))) c=some o:=fun c o e h=>by rw[za9 h];exact e
    have hx1':=hx1.mono tk
    have hx2':=hx2.mono tk
    have hbs':=PairsAt.mono tk (Pre.refl _) hbs
    have hu1':=hu1.mono tk (Pre.refl _)
    have hp3:(upd H2 D (.lst (bs.map V.ref))) o=some (.ins C dx2 (nf la na ga)):=k3 _ _ hp2 nDo.symm
    generalize upd H2 D (.lst (bs.map V.ref))=H2' at tk N' ha3 hc3 hd3 k3 hx1' hx2' hbs' hu1' hp3 ⊢
    refine⟨_,rfl,t,_,_,_,rfl,rfl,SqT.of ha3,rfl,rfl,_,rfl,zc3 (nopeI (by rw[en];decide)) ⟨_,rfl,?_⟩⟩
    refine⟨_,rfl,.inl ⟨rfl,_,SqL.of hd3⟩,_,rfl,o,dx2,_,rfl,hp3,zq6 _ _ _ (by decide +kernel) (by decide +kernel) (by decide +kernel),_,rfl,t,_,_,.ref a,rfl,rfl,SqT.of ha3,rfl,_,rfl,_,rfl,?_⟩
    refine⟨o,a,u1,u1,la,na,ga,x1,x2,c,p1,p2,Ti,Li,rfl,N',by omega,hc3,hx1',hx2',hu1',by rw[←e];exact hu1',fun u T3 L3 H3 N3 p3 z3 u3 b3=>?_⟩
    obtain⟨f1,f2,v3',v4',v5',st2,as2,Tj,Lj,f3⟩:=fin bs rs u T3 L3 H2' H3 k3 hd3 N' hbs' rfl N3 p3 (by omega) u3 b3 (by simp at slen;omega)
    exact⟨D,_,_,rfl,rfl,f1,f2,_,_,_,st2,as2,Tj,Lj,rfl,f3⟩
   ·refine zc3 (nopeI (by rw[en];decide)) ?_
    rw[List.reverse_cons,List.reverse_cons] at hpa
    obtain⟨bs',u2,rfl,hbs,hu2⟩:=zh9 hpa
    obtain⟨bs,u1,rfl,hbs,hu1⟩:=zh9 hbs
    rw[List.map_append] at hd
    refine⟨_,rfl,.inl ⟨rfl,_,SqL.of hd⟩,D,_,_,rfl,rfl,hd,yn7 _ _,?_⟩
    show tSeq _ _ _ _ (upd H2 D (.lst ((bs++[u1]).map V.ref++[V.ref u2]).dropLast))
    rw[List.dropLast_concat,List.map_append]
    have tk0:Tups H2 (upd H2 D (.lst (bs.map V.ref++[V.ref u1]))):=zc6 hd
    refine⟨_,rfl,t,_,_,_,rfl,rfl,SqT.of (tk0 _ _ ha2),rfl,rfl,_,rfl,zd1 (yepI (by rw[en];rfl)) ⟨_,rfl,.inl ⟨rfl,_,SqL.of za0⟩,D,_,_,rfl,rfl,za0,yn7 _ _,?_⟩⟩
    have ed:(bs.map V.ref++[u1].map V.ref).dropLast=bs.map V.ref:=List.dropLast_concat
    rw[ed]
    have eu:([u1].map V.ref)=[V.ref u1]:=rfl
    rw[eu]
    have tk:Tups H2 (upd (upd H2 D (.lst (bs.map V.ref++[V.ref u1]))) D (.lst (bs.map V.ref))):=tk0.trans (zc6 za0)
    have k3:∀c o,H2 c=some o→c≠D→(upd (upd H2 D (.lst (bs.map V.ref++[V.ref u1]))) D (.lst (bs.map V.ref))) c=some o:=fun c o e h=>by rw[za9 h,za9 h];exact e
    have N':NodesAt C (upd (upd H2 D (.lst (bs.map V.ref++[V.ref u1]))) D (.lst (bs.map V.ref))) o la na ga Ti Li:=by
     obtain⟨⟨dx3,hp3⟩,⟨as3,hla3,hras3⟩,hnu3,hle3,_,wf3⟩:=Ni
     exact⟨⟨dx3,k3 _ _ hp3 nDo.symm⟩,⟨as3,k3 _ _ hla3 nDl.symm,hras3.mono tk⟩,k3 _ _ hnu3 nDn.symm,k3 _ _ hle3 nDg.symm,nlg,wf3⟩
    have ha3:=tk _ _ ha2
    have hc3:=two_at2 hcc (tk _ _ hc2)
    have hd3:(upd (upd H2 D (.lst (bs.map V.ref++[V.ref u1]))) D (.lst (bs.map V.ref))) D=some (.lst (bs.map V.ref)):=za0
    have hx1':=hx1.mono tk
    have hx2':=hx2.mono tk
    have hbs':=PairsAt.mono tk (Pre.refl _) hbs
    have hu1':=hu1.mono tk (Pre.refl _)
    have hu2':=hu2.mono tk (Pre.refl _)
    have hp3:(upd (upd H2 D (.lst (bs.map V.ref++[V.ref u1]))) D (.lst (bs.map V.ref))) o=some (.ins C dx2 (nf la na ga)):=k3 _ _ hp2 nDo.symm
    generalize upd (upd H2 D (.lst (bs.map V.ref++[V.ref u1]))) D (.lst (bs.map V.ref))=H2' at tk N' ha3 hc3 hd3 k3 hx1' hx2' hbs' hu1' hu2' hp3 ⊢
    refine⟨_,rfl,.inl ⟨rfl,_,SqL.of hd3⟩,_,rfl,o,dx2,_,rfl,hp3,zq6 _ _ _ (by decide +kernel) (by decide +kernel) (by decide +kernel),_,rfl,t,_,_,.ref a,rfl,rfl,SqT.of ha3,rfl,_,rfl,_,rfl,?_⟩
    refine⟨o,a,u1,u2,la,na,ga,x1,x2,c,p1,p2,Ti,Li,rfl,N',by omega,hc3,hx1',hx2',hu1',hu2',fun u T3 L3 H3 N3 p3 z3 u3 b3=>?_⟩
    obtain⟨f1,f2,v3',v4',v5',st2,as2,Tj,Lj,f3⟩:=fin bs rs u T3 L3 H2' H3 k3 hd3 N' hbs' rfl N3 p3 (by omega) u3 b3 (by simp at slen;omega)
    exact⟨D,_,_,rfl,rfl,f1,f2,_,_,_,st2,as2,Tj,Lj,rfl,f3⟩
 ·rintro σ H2 ⟨v3,v4,v5,st,as,Ti,Li,rfl,hst,hd,hpa,Ni,hti,k2⟩
  rw[hml,List.take_length,zi2] at hst
  cases hst
  obtain⟨u,rfl,hu⟩:∃u,as=[u]∧PairAt H2 Ti u (zh6 p):=by
   cases hpa with
   |cons h t=>cases t;exact⟨_,rfl,h⟩
  have hwl:=zk9 p
  rw[hml] at hti
  obtain⟨dx2,hp2⟩:=Ni.ob
  have hb:But3 la na ga H H2:=fun b o e h1 h2 h3=>k2 _ _ (s1 _ _ (s0 _ _ e)) (za8 e hD) h1 h2 h3
  have t2:Tups H H2:=N.tups hb
  refine⟨_,rfl,o,dx2,_,rfl,hp2,zq6 _ _ _ (by decide +kernel) (by decide +kernel) (by decide +kernel),_,rfl,_,rfl,D,_,_,.ref u,rfl,rfl,SqL.of hd,rfl,?_⟩
  refine⟨o,r,u,la,na,ga,p,Ti,Li,rfl,Ni,by omega,hP.mono t2,hu,fun u T3 L3 H3 N3 p3 z3 ⟨i,j,e,g1,g2⟩ b3=>?_⟩
  exact⟨u,_,_,.int (i:Nat),rfl,rfl,SqT.of e,rfl,q i T3 L3 H3 N3 g1 (hb.trans b3)⟩
end
end Pq
namespace Pq
abbrev Run:=List Int×Nat×Nat
def SB:Nat:=1000000000000
def ov(w c n:Nat):Nat:=min n (c+n - w)
theorem ov_add(w c n1 n2:Nat):ov w c n1+ov w (c+n1) n2=ov w c (n1+n2):=by unfold ov;omega
theorem ov_mono{w c c' n n':Nat}(h:c≤c')(h':n≤n'):ov w c n≤ov w c' n':=by unfold ov;omega
def zh5(A:List Run)(f:Nat→List Run):List Run:=A.flatMap fun o=>(f o.2.1).map fun q=>(o.1++q.1,q.2.1,o.2.2+q.2.2)
def zk7(w:Nat):Nd→Nat→Nat→List Run
 |.text n,c,_=>[([],c+n,SB*ov w c n)]
 |.brk,_,m=>[([],m,1+SB*ov w 0 m)]
 |.nest k a,c,m=>zk7 w a c (m+k)
 |.align a,c,_=>zk7 w a c c
 |.beside a b,c,m=>zh5 (zk7 w a c m) fun e=>zk7 w b e m
 |.choice a b,c,m=>(zk7 w a c m).map (fun o=>(0::o.1,o.2))++(zk7 w b c m).map (fun o=>(1::o.1,o.2))
abbrev Sq:=List (Nd×Nat)
def zl7(w:Nat):Sq→Nat→List Run
 |[],c=>[([],c,0)]
 |x::r,c=>zh5 (zk7 w x.1 c x.2) fun e=>zl7 w r e
theorem mem_bindR{A:List Run}{f:Nat→List Run}{x:Run}:x∈zh5 A f↔∃o∈A,∃q∈f o.2.1,x=(o.1++q.1,q.2.1,o.2.2+q.2.2):=by
 unfold zh5
 rw[List.mem_flatMap]
 constructor
 ·rintro⟨o,ho,h⟩
  obtain⟨q,hq,rfl⟩:=List.mem_map.mp h
  exact⟨o,ho,q,hq,rfl⟩
 ·rintro⟨o,ho,q,hq,rfl⟩
  exact⟨o,ho,List.mem_map.mpr ⟨q,hq,rfl⟩⟩
theorem zp3(s:List Int)(c k:Nat)(f:Nat→List Run):zh5 [(s,c,k)] f=(f c).map fun q=>(s++q.1,q.2.1,k+q.2.2):=by
 unfold zh5;simp
theorem bindR_nil(c:Nat)(f:Nat→List Run):zh5 [([],c,0)] f=f c:=by
 rw[zp3];simp
theorem zs6(A B:List Run)(f:Nat→List Run):zh5 (A++B) f=zh5 A f++zh5 B f:=by unfold zh5;rw[List.flatMap_append]
theorem bindR_unit(A:List Run):zh5 A (fun e=>[([],e,0)])=A:=by
 induction A with
 |nil=>rfl
 |cons o A ih=>
  have:o::A=[o]++A:=rfl
  rw[this,zs6,ih]
  obtain⟨s,e,k⟩:=o
  rw[zp3];simp
theorem ya4(A:List Run)(f:Nat→List Run)(g:Run→Run)(hg:∀o q:Run,g (o.1++q.1,q.2.1,o.2.2+q.2.2)=((g o).1++q.1,q.2.1,(g o).2.2+q.2.2))(he:∀o,(g o).2.1=o.2.1):zh5 (A.map g) f=(zh5 A f).map g:=by
 unfold zh5
 rw[List.flatMap_map,List.map_flatMap]
 congr 1
 funext o
 rw[List.map_map,he]
 congr 1
 funext q
 simp only[Function.comp]
 rw[hg]
theorem yg4(A:List Run)(f g:Nat→List Run):zh5 (zh5 A f) g=zh5 A (fun e=>zh5 (f e) g):=by
 induction A with
 |nil=>rfl
 |cons o A ih=>
  have e:o::A=[o]++A:=rfl
  rw[e,zs6,zs6,zs6,ih]
  congr 1
  obtain⟨s,c,k⟩:=o
  rw[zp3,zp3]
  rw[ya4 (f c) g (fun q=>(s++q.1,q.2.1,k+q.2.2)) (fun o q=>by simp[List.append_assoc,Nat.add_assoc]) (fun o=>rfl)]
theorem yn4(w:Nat):∀(p q:Sq) (c:Nat),zl7 w (p++q) c=zh5 (zl7 w p c) (zl7 w q)
 |[],q,c=>by show zl7 w q c=zh5 [([],c,0)] _;rw[bindR_nil]
 |x::p,q,c=>by
  show zh5 _ (fun e=>zl7 w (p++q) e)=zh5 (zh5 _ _) _
  rw[yg4]
  congr 1
  funext e
  exact yn4 w p q e
theorem zh2(w:Nat)(a:Nd)(m c:Nat):zl7 w [(a,m)] c=zk7 w a c m:=bindR_unit _
theorem ye7(w:Nat)(a b:Nd)(m:Nat)(r:Sq)(c:Nat):zl7 w ((.beside a b,m)::r) c=zl7 w ((a,m)::(b,m)::r) c:=by
 show zh5 (zh5 _ _) _=zh5 _ (fun e=>zh5 _ _)
 rw[yg4]
theorem zl2(w:Nat)(a b:Nd)(m:Nat)(r:Sq)(c:Nat):zl7 w ((.choice a b,m)::r) c=(zl7 w ((a,m)::r) c).map (fun o=>(0::o.1,o.2))++(zl7 w ((b,m)::r) c).map (fun o=>(1::o.1,o.2)):=by
 show zh5 (_++_) _=_
 rw[zs6,ya4 _ _ (fun o=>((0:Int)::o.1,o.2)) (fun o q=>rfl) (fun o=>rfl),ya4 _ _ (fun o=>((1:Int)::o.1,o.2)) (fun o q=>rfl) (fun o=>rfl)]
 rfl
theorem lrun_text(w n m:Nat)(r:Sq)(c:Nat):zl7 w ((.text n,m)::r) c=(zl7 w r (c+n)).map fun q=>(q.1,q.2.1,SB*ov w c n+q.2.2):=by
 show zh5 [([],c+n,SB*ov w c n)] _=_
 rw[zp3];rfl
theorem lrun_brk(w m:Nat)(r:Sq)(c:Nat):zl7 w ((.brk,m)::r) c=(zl7 w r m).map fun q=>(q.1,q.2.1,1+SB*ov w 0 m+q.2.2):=by
 show zh5 [([],m,1+SB*ov w 0 m)] _=_
 rw[zp3];rfl
theorem zm8(w:Nat):∀(a:Nd) {c c' m m':Nat},c≤c'→m≤m'→∀o∈zk7 w a c' m',∃o2∈zk7 w a c m,o2.2.1≤o.2.1∧o2.2.2≤o.2.2
 |.text n,c,c',m,m',hc,hm,o,ho=>by
  rw[List.mem_singleton.mp ho]
  exact⟨_,List.mem_singleton.mpr rfl,Nat.add_le_add_right hc n,Nat.mul_le_mul_left _ (ov_mono hc (Nat.le_refl _))⟩
 |.brk,c,c',m,m',hc,hm,o,ho=>by
  rw[List.mem_singleton.mp ho]
  exact⟨_,List.mem_singleton.mpr rfl,hm,Nat.add_le_add_left (Nat.mul_le_mul_left _ (ov_mono (Nat.le_refl _) hm)) 1⟩
 |.nest k a,c,c',m,m',hc,hm,o,ho=>zm8 w a hc (Nat.add_le_add_right hm k) o ho
 |.align a,c,c',m,m',hc,hm,o,ho=>zm8 w a hc hc o ho
 |.beside a b,c,c',m,m',hc,hm,o,ho=>by
  obtain⟨x,hx,y,hy,rfl⟩:=mem_bindR.mp ho
  obtain⟨x2,hx2,e1,e2⟩:=zm8 w a hc hm x hx
  obtain⟨y2,hy2,e3,e4⟩:=zm8 w b e1 hm y hy
  exact⟨_,mem_bindR.mpr ⟨x2,hx2,y2,hy2,rfl⟩,e3,Nat.add_le_add e2 e4⟩
 |.choice a b,c,c',m,m',hc,hm,o,ho=>by
  rcases List.mem_append.mp ho with h|h
  ·obtain⟨x,hx,rfl⟩:=List.mem_map.mp h
   obtain⟨x2,hx2,e1,e2⟩:=zm8 w a hc hm x hx
   exact⟨_,List.mem_append_left _ (List.mem_map.mpr ⟨x2,hx2,rfl⟩),e1,e2⟩
  ·obtain⟨x,hx,rfl⟩:=List.mem_map.mp h
   obtain⟨x2,hx2,e1,e2⟩:=zm8 w b hc hm x hx
   exact⟨_,List.mem_append_right _ (List.mem_map.mpr ⟨x2,hx2,rfl⟩),e1,e2⟩
theorem zk3(w:Nat):∀(a:Nd) {l:Nat} (c m:Nat),ze9 a=some l→(∀o∈zk7 w a c m,∃n,l≤n∧o.2.1=c+n∧o.2.2=SB*ov w c n)∧∃s,(s,c+l,SB*ov w c l)∈zk7 w a c m
 |.text n,l,c,m,h=>by
  have h:some n=some l:=h
  cases h
  exact⟨fun o ho=>⟨n,Nat.le_refl _,by rw[List.mem_singleton.mp ho],by rw[List.mem_singleton.mp ho]⟩,[],List.mem_singleton.mpr rfl⟩
 |.brk,l,c,m,h=>by cases h
 |.nest _ _,l,c,m,h=>by cases h
 |.align _,l,c,m,h=>by cases h
 |.beside a b,l,c,m,h=>by
  have h:zs7 (· + ·) (ze9 a) (ze9 b)=some l:=h
  cases ha:ze9 a with
  |none=>rw[ha] at h;cases h
  |some la=>
   cases hb:ze9 b with
   |none=>rw[ha,hb] at h;cases h
   |some lb=>
    rw[ha,hb] at h
    have h:some (la+lb)=some l:=h
    cases h
    constructor
    ·intro o ho
     obtain⟨x,hx,y,hy,rfl⟩:=mem_bindR.mp ho
     obtain⟨n1,h1,h2,h3⟩:=(zk3 w a c m ha).1 x hx
     obtain⟨n2,h4,h5,h6⟩:=(zk3 w b x.2.1 m hb).1 y hy
     refine⟨n1+n2,by omega,?_,?_⟩
     ·show y.2.1=_;rw[h5,h2];omega
     ·show x.2.2+y.2.2=_;rw[h3,h6,h2,←Nat.mul_add,ov_add]
    ·obtain⟨s1,q1⟩:=(zk3 w a c m ha).2
     obtain⟨s2,q2⟩:=(zk3 w b (c+la) m hb).2
     refine⟨s1++s2,mem_bindR.mpr ⟨_,q1,_,q2,?_⟩⟩
     show(_,_,_)=(_,_,_)
     rw[←ov_add,Nat.mul_add,Nat.add_assoc]
 |.choice a b,l,c,m,h=>by
  have h:zs7 min (ze9 a) (ze9 b)=some l:=h
  cases ha:ze9 a with
  |none=>rw[ha] at h;cases h
  |some la=>
   cases hb:ze9 b with
   |none=>rw[ha,hb] at h;cases h
   |some lb=>
    rw[ha,hb] at h
    have h:some (min la lb)=some l:=h
    have h:=Option.some.inj h
    constructor
    ·intro o ho
     rcases List.mem_append.mp ho with q|q
     ·obtain⟨x,hx,rfl⟩:=List.mem_map.mp q
      obtain⟨n1,h1,h2,h3⟩:=(zk3 w a c m ha).1 x hx
      exact⟨n1,by omega,h2,h3⟩
     ·obtain⟨x,hx,rfl⟩:=List.mem_map.mp q
      obtain⟨n1,h1,h2,h3⟩:=(zk3 w b c m hb).1 x hx
      exact⟨n1,by omega,h2,h3⟩
    ·by_cases hl:la≤lb
     ·have e:l=la:=by omega
      obtain⟨s1,q1⟩:=(zk3 w a c m ha).2
      rw[e]
      exact⟨0::s1,List.mem_append_left _ (List.mem_map.mpr ⟨_,q1,rfl⟩)⟩
     ·have e:l=lb:=by omega
      obtain⟨s1,q1⟩:=(zk3 w b c m hb).2
      rw[e]
      exact⟨1::s1,List.mem_append_right _ (List.mem_map.mpr ⟨_,q1,rfl⟩)⟩
def ze3:Nd→List Nat×List Nat
 |.text n=>([],[n])
 |.brk=>([0],[])
 |.nest k a=>((ze3 a).1.map (k + ·),(ze3 a).2)
 |.align a=>([],(ze3 a).1++(ze3 a).2)
 |.beside a b=>match zs7 (· + ·) (ze9 a) (ze9 b) with
  |some l=>([],[l])
  |none=>((ze3 b).1++(ze3 a).1.flatMap (fun x=>(ze3 b).2.map (x + ·)),(ze3 a).2.flatMap fun x=>(ze3 b).2.map (x + ·))
 |.choice a b=>match zs7 min (ze9 a) (ze9 b) with
  |some l=>([],[l])
  |none=>((ze3 a).1++(ze3 b).1,(ze3 a).2++(ze3 b).2)
theorem zg8:∀(a:Nd) {l:Nat},ze9 a=some l→ze3 a=([],[l])
 |.text n,l,h=>by have h:some n=some l:=h;cases h;rfl
 |.brk,l,h=>by cases h
 |.nest _ _,l,h=>by cases h
 |.align _,l,h=>by cases h
 |.beside a b,l,h=>by
  have h:zs7 (· + ·) (ze9 a) (ze9 b)=some l:=h
  unfold ze3;rw[h]
 |.choice a b,l,h=>by
  have h:zs7 min (ze9 a) (ze9 b)=some l:=h
  unfold ze3;rw[h]
def zj5(L:List Nat)(x:Nd×Nat):List Nat:=(ze3 x.1).1.map (x.2 + ·)++L.flatMap fun e=>(ze3 x.1).2.map (e + ·)
def esl(L:List Nat)(q:Sq):List Nat:=q.foldl zj5 L
def cnt(n:Nat):Sq→Nat
 |[]=>n
 |x::q=>cnt ((ze3 x.1).1.length+(ze3 x.1).2.length*n) q
theorem yk5(L:List Nat)(x:Nd×Nat):(zj5 L x).length=(ze3 x.1).1.length+(ze3 x.1).2.length*L.length:=by
 unfold zj5
 rw[List.length_append,List.length_map,zf0 _ (ze3 x.1).2.length L (fun _ _=>by rw[List.length_map]),Nat.mul_comm]
theorem esl_len:∀(q:Sq) (L:List Nat),(esl L q).length=cnt L.length q
 |[],L=>rfl
 |x::q,L=>by
  show(esl (zj5 L x) q).length=_
  rw[esl_len q,yk5];rfl
theorem esl_snoc(L:List Nat)(q:Sq)(x:Nd×Nat):esl L (q++[x])=zj5 (esl L q) x:=by unfold esl;rw[List.foldl_append];rfl
theorem mem_esStep{L:List Nat}{x:Nd×Nat}{y:Nat}:y∈zj5 L x↔(∃e∈(ze3 x.1).1,y=x.2+e)∨∃e∈L,∃d∈(ze3 x.1).2,y=e+d:=by
 unfold zj5
 rw[List.mem_append,List.mem_map,List.mem_flatMap]
 constructor
 ·rintro(⟨e,h,rfl⟩|⟨e,h,h2⟩)
  ·exact .inl ⟨e,h,rfl⟩
  ·obtain⟨d,hd,rfl⟩:=List.mem_map.mp h2
   exact .inr ⟨e,h,d,hd,rfl⟩
 ·rintro(⟨e,h,rfl⟩|⟨e,h,d,hd,rfl⟩)
  ·exact .inl ⟨e,h,rfl⟩
  ·exact .inr ⟨e,h,List.mem_map.mpr ⟨d,hd,rfl⟩⟩
theorem es_nest{k:Nat}{a:Nd}{m:Nat}{L:List Nat}{y:Nat}(h:y∈zj5 L (a,m+k)):y∈zj5 L (.nest k a,m):=by
 rcases mem_esStep.mp h with⟨e,he,rfl⟩|⟨e,he,d,hd,rfl⟩
 ·exact mem_esStep.mpr (.inl ⟨k+e,List.mem_map.mpr ⟨e,he,rfl⟩,by show m+k+e=m+(k+e);omega⟩)
 ·exact mem_esStep.mpr (.inr ⟨e,he,d,hd,rfl⟩)
theorem es_align{a:Nd}{m c:Nat}{y:Nat}(h:y∈zj5 [c] (a,c)):y∈zj5 [c] (.align a,m):=by
 rcases mem_esStep.mp h with⟨e,he,rfl⟩|⟨e,he,d,hd,rfl⟩
 ·exact mem_esStep.mpr (.inr ⟨c,List.mem_singleton.mpr rfl,e,List.mem_append_left _ he,rfl⟩)
 ·exact mem_esStep.mpr (.inr ⟨e,he,d,List.mem_append_right _ hd,rfl⟩)
theorem es_beside{a b:Nd}{m:Nat}{L:List Nat}{y:Nat}(hn:ze9 (.beside a b)=none)(h:y∈zj5 (zj5 L (a,m)) (b,m)):y∈zj5 L (.beside a b,m):=by
 have e0:ze3 (.beside a b)=((ze3 b).1++(ze3 a).1.flatMap (fun x=>(ze3 b).2.map (x + ·)),(ze3 a).2.flatMap fun x=>(ze3 b).2.map (x + ·)):=by
  have hn:zs7 (· + ·) (ze9 a) (ze9 b)=none:=hn
  conv=>lhs;unfold ze3
  rw[hn]
 rcases mem_esStep.mp h with⟨e,he,rfl⟩|⟨e,he,d,hd,rfl⟩
 ·refine mem_esStep.mpr (.inl ⟨e,?_,rfl⟩)
  show e∈(ze3 (.beside a b)).1
  rw[e0];exact List.mem_append_left _ he
 ·rcases mem_esStep.mp he with⟨f,hf,rfl⟩|⟨f,hf,g,hg,rfl⟩
  ·refine mem_esStep.mpr (.inl ⟨f+d,?_,by show m+f+d=m+(f+d);omega⟩)
   show f+d∈(ze3 (.beside a b)).1
   rw[e0];exact List.mem_append_right _ (List.mem_flatMap.mpr ⟨f,hf,List.mem_map.mpr ⟨d,hd,rfl⟩⟩)
  ·refine mem_esStep.mpr (.inr ⟨f,hf,g+d,?_,by omega⟩)
   show g+d∈(ze3 (.beside a b)).2
   rw[e0];exact List.mem_flatMap.mpr ⟨g,hg,List.mem_map.mpr ⟨d,hd,rfl⟩⟩
theorem es_choice{a b:Nd}{m:Nat}{L:List Nat}{y:Nat}(hn:ze9 (.choice a b)=none)(h:y∈zj5 L (a,m)∨y∈zj5 L (b,m)):y∈zj5 L (.choice a b,m):=by
 have e0:ze3 (.choice a b)=((ze3 a).1++(ze3 b).1,(ze3 a).2++(ze3 b).2):=by
  have hn:zs7 min (ze9 a) (ze9 b)=none:=hn
  conv=>lhs;unfold ze3
  rw[hn]
 rw[mem_esStep]
 show(∃e∈(ze3 (.choice a b)).1,_)∨∃e∈L,∃d∈(ze3 (.choice a b)).2,_
 rw[e0]
 rcases h with h|h<;>rcases mem_esStep.mp h with⟨e,he,rfl⟩|⟨e,he,d,hd,rfl⟩
 ·exact .inl ⟨e,List.mem_append_left _ he,rfl⟩
 ·exact .inr ⟨e,he,d,List.mem_append_left _ hd,rfl⟩
 ·exact .inl ⟨e,List.mem_append_right _ he,rfl⟩
 ·exact .inr ⟨e,he,d,List.mem_append_right _ hd,rfl⟩
abbrev Es:=List (Nat×Nat)
structure EndsOk(w:Nat)(q:Sq)(c:Nat)(E:Es):Prop where
 nodup:(E.map (·.1)).Nodup
 sound:∀x∈E,∃s,(s,x.1,x.2)∈zl7 w q c
 compl:∀o∈zl7 w q c,∃x∈E,x.1≤o.2.1∧x.2≤o.2.2
 ends:∀x∈E,x.1∈esl [c] q
structure Undom(D E:Es):Prop where
 nodup:(E.map (·.1)).Nodup
 sub:∀x∈E,x∈D
 dom:∀x∈D,∃y∈E,y.1≤x.1∧y.2≤x.2
theorem EndsOk.zero(w c:Nat):EndsOk w [] c [(c,0)]:=
 ⟨by simp,fun x hx=>⟨[],by rw[List.mem_singleton.mp hx];exact List.mem_singleton.mpr rfl⟩,fun o ho=>⟨_,List.mem_singleton.mpr rfl,by rw[List.mem_singleton.mp ho];exact⟨Nat.le_refl _,Nat.le_refl _⟩⟩,fun x hx=>by rw[List.mem_singleton.mp hx];exact List.mem_singleton.mpr rfl⟩
theorem EndsOk.flat{w:Nat}{a:Nd}{l:Nat}(c m:Nat)(h:ze9 a=some l):EndsOk w [(a,m)] c [(c+l,SB*ov w c l)]:=by
 obtain⟨h1,s,h2⟩:=zk3 w a c m h
 refine⟨by simp,fun x hx=>⟨s,by rw[List.mem_singleton.mp hx,zh2];exact h2⟩,fun o ho=>?_,fun x hx=>?_⟩
 ·rw[zh2] at ho
  obtain⟨n,e1,e2,e3⟩:=h1 o ho
  refine⟨_,List.mem_singleton.mpr rfl,by rw[e2];exact Nat.add_le_add_left e1 c,by rw[e3];exact Nat.mul_le_mul_left _ (ov_mono (Nat.le_refl _) e1)⟩
 ·rw[List.mem_singleton.mp hx]
  show c+l∈zj5 [c] (a,m)
  exact mem_esStep.mpr (.inr ⟨c,List.mem_singleton.mpr rfl,l,by show l∈(ze3 a).2;rw[zg8 a h];exact List.mem_singleton.mpr rfl,rfl⟩)
theorem EndsOk.brk(w c m:Nat):EndsOk w [(.brk,m)] c [(m,1+SB*ov w 0 m)]:=by
 refine⟨by simp,fun x hx=>⟨[],by rw[List.mem_singleton.mp hx,zh2];exact List.mem_singleton.mpr rfl⟩,fun o ho=>?_,fun x hx=>?_⟩
 ·rw[zh2] at ho
  rw[List.mem_singleton.mp ho]
  exact⟨_,List.mem_singleton.mpr rfl,Nat.le_refl _,Nat.le_refl _⟩
 ·rw[List.mem_singleton.mp hx]
  exact mem_esStep.mpr (.inl ⟨0,List.mem_singleton.mpr rfl,rfl⟩)
theorem EndsOk.nest{w k:Nat}{a:Nd}{c m:Nat}{E:Es}(h:EndsOk w [(a,m+k)] c E):EndsOk w [(.nest k a,m)] c E:=by
 obtain⟨h1,h2,h3,h4⟩:=h
 rw[zh2] at h2 h3
 exact⟨h1,by rw[zh2];exact h2,by rw[zh2];exact h3,fun x hx=>es_nest (h4 x hx)⟩
theorem EndsOk.align{w:Nat}{a:Nd}{c m:Nat}{E:Es}(h:EndsOk w [(a,c)] c E):EndsOk w [(.align a,m)] c E:=by
 obtain⟨h1,h2,h3,h4⟩:=h
 rw[zh2] at h2 h3
 exact⟨h1,by rw[zh2];exact h2,by rw[zh2];exact h3,fun x hx=>es_align (h4 x hx)⟩
theorem EndsOk.beside{w:Nat}{a b:Nd}{c m:Nat}{E:Es}(hn:ze9 (.beside a b)=none)(h:EndsOk w ([(a,m)]++[(b,m)]) c E):EndsOk w [(.beside a b,m)] c E:=by
 obtain⟨h1,h2,h3,h4⟩:=h
 have e:zl7 w [(.beside a b,m)] c=zl7 w ([(a,m)]++[(b,m)]) c:=ye7 w a b m [] c
 exact⟨h1,by rw[e];exact h2,by rw[e];exact h3,fun x hx=>es_beside hn (h4 x hx)⟩
theorem EndsOk.choice{w:Nat}{a b:Nd}{c m:Nat}{E1 E2 D E:Es}(hn:ze9 (.choice a b)=none)(h1:EndsOk w [(a,m)] c E1)(h2:EndsOk w [(b,m)] c E2)
  (hs:∀x∈D,x∈E1∨x∈E2) (hc:∀x,x∈E1∨x∈E2→∃y∈D,y.1=x.1∧y.2≤x.2) (u:Undom D E):EndsOk w [(.choice a b,m)] c E:=by
 have e0:=zl2 w a b m [] c
 refine⟨u.nodup,fun x hx=>?_,fun o ho=>?_,fun x hx=>?_⟩
 ·rcases hs x (u.sub x hx) with h|h
  ·obtain⟨s,q⟩:=h1.sound x h
   exact⟨0::s,by rw[e0];exact List.mem_append_left _ (List.mem_map.mpr ⟨_,q,rfl⟩)⟩
  ·obtain⟨s,q⟩:=h2.sound x h
   exact⟨1::s,by rw[e0];exact List.mem_append_right _ (List.mem_map.mpr ⟨_,q,rfl⟩)⟩
 ·have key:∀z,z∈E1∨z∈E2→z.1≤o.2.1→z.2≤o.2.2→∃x∈E,x.1≤o.2.1∧x.2≤o.2.2:=fun z hz l1 l2=>by
   obtain⟨y,hy,k1,k2⟩:=hc z hz
   obtain⟨v,hv,k3,k4⟩:=u.dom y hy
   exact⟨v,hv,by omega,by omega⟩
  rw[e0] at ho
  rcases List.mem_append.mp ho with h|h
  ·obtain⟨o2,ho2,rfl⟩:=List.mem_map.mp h
   obtain⟨z,hz,k1,k2⟩:=h1.compl o2 ho2
   exact key z (.inl hz) k1 k2
  ·obtain⟨o2,ho2,rfl⟩:=List.mem_map.mp h
   obtain⟨z,hz,k1,k2⟩:=h2.compl o2 ho2
   exact key z (.inr hz) k1 k2
 ·refine es_choice hn ?_
  rcases hs x (u.sub x hx) with h|h
  ·exact .inl (h1.ends x h)
  ·exact .inr (h2.ends x h)
theorem zz6(w:Nat):∀(a:Nd) (c m:Nat),zk7 w a c m≠[]
 |.text _,_,_=>by simp[zk7]
 |.brk,_,_=>by simp[zk7]
 |.nest k a,c,m=>zz6 w a c (m+k)
 |.align a,c,m=>zz6 w a c c
 |.beside a b,c,m=>fun h=>by
  obtain⟨o,ho⟩:=List.exists_mem_of_ne_nil _ (zz6 w a c m)
  obtain⟨q,hq⟩:=List.exists_mem_of_ne_nil _ (zz6 w b o.2.1 m)
  have:(o.1++q.1,q.2.1,o.2.2+q.2.2)∈zk7 w (.beside a b) c m:=mem_bindR.mpr ⟨o,ho,q,hq,rfl⟩
  rw[h] at this;cases this
 |.choice a b,c,m=>fun h=>zz6 w a c m (List.map_eq_nil_iff.mp (List.append_eq_nil_iff.mp h).1)
theorem lrun_ne(w:Nat):∀(q:Sq) (c:Nat),zl7 w q c≠[]
 |[],_=>by simp[zl7]
 |x::r,c=>fun h=>by
  obtain⟨o,ho⟩:=List.exists_mem_of_ne_nil _ (zz6 w x.1 c x.2)
  obtain⟨q,hq⟩:=List.exists_mem_of_ne_nil _ (lrun_ne w r o.2.1)
  have:(o.1++q.1,q.2.1,o.2.2+q.2.2)∈zl7 w (x::r) c:=mem_bindR.mpr ⟨o,ho,q,hq,rfl⟩
  rw[h] at this;cases this
def Least(R:List Run)(k:Nat):Prop:=(∃o∈R,o.2.2=k)∧∀o∈R,k≤o.2.2
theorem EndsOk.least{w:Nat}{q:Sq}{c:Nat}{E:Es}(h:EndsOk w q c E){k:Nat}(h1:∃x∈E,x.2=k)(h2:∀x∈E,k≤x.2):Least (zl7 w q c) k:=by
 obtain⟨x,hx,rfl⟩:=h1
 obtain⟨s,hs⟩:=h.sound x hx
 exact⟨⟨_,hs,rfl⟩,fun o ho=>by obtain⟨y,hy,_,e⟩:=h.compl o ho;exact Nat.le_trans (h2 y hy) e⟩
theorem Least.one{R:List Run}{k k':Nat}(h:Least R k)(h':Least R k'):k=k':=by
 obtain⟨o,ho,e⟩:=h.1
 obtain⟨o',ho',e'⟩:=h'.1
 have:=h.2 o' ho'
 have:=h'.2 o ho
 omega
def Best(R:List Run)(s:List Int)(k:Nat):Prop:=∃pre e post,R=pre++(s,e,k)::post∧(∀o∈pre,k<o.2.2)∧∀o∈post,k≤o.2.2
theorem Best.least{R:List Run}{s:List Int}{k:Nat}(h:Best R s k):Least R k:=by
 obtain⟨pre,e,post,rfl,h1,h2⟩:=h
 refine⟨⟨(s,e,k),by simp,rfl⟩,fun o ho=>?_⟩
 rcases List.mem_append.mp ho with z|z
 ·exact Nat.le_of_lt (h1 o z)
 ·rcases List.mem_cons.mp z with rfl|z
  ·exact Nat.le_refl _
  ·exact h2 o z
theorem Best.shift{R:List Run}{s:List Int}{k d:Nat}(h:Best R s k):Best (R.map fun q=>(q.1,q.2.1,d+q.2.2)) s (d+k):=by
 obtain⟨pre,e,post,rfl,h1,h2⟩:=h
 refine⟨pre.map _,e,post.map _,by rw[List.map_append,List.map_cons],fun o ho=>?_,fun o ho=>?_⟩
 ·obtain⟨x,hx,rfl⟩:=List.mem_map.mp ho
  exact Nat.add_lt_add_left (h1 x hx) d
 ·obtain⟨x,hx,rfl⟩:=List.mem_map.mp ho
  exact Nat.add_le_add_left (h2 x hx) d
theorem Least.shift{R:List Run}{k d:Nat}(h:Least (R.map fun q=>(q.1,q.2.1,d+q.2.2)) k):∃k',k=d+k'∧Least R k':=by
 obtain⟨⟨o,ho,e⟩,h2⟩:=h
 obtain⟨x,hx,rfl⟩:=List.mem_map.mp ho
 refine⟨x.2.2,e.symm,⟨x,hx,rfl⟩,fun y hy=>?_⟩
 have:=h2 _ (List.mem_map.mpr ⟨y,hy,rfl⟩)
 have e:d+x.2.2=k:=e
 have this:k≤d+y.2.2:=this
 omega
theorem Best.left{A B:List Run}{s:List Int}{k:Nat}{x y:Int}(h:Best A s k)(hb:∀o∈B,k≤o.2.2):Best (A.map (fun o=>(x::o.1,o.2))++B.map (fun o=>(y::o.1,o.2))) (x::s) k:=by
 obtain⟨pre,e,post,rfl,h1,h2⟩:=h
 refine⟨pre.map _,e,post.map _++B.map _,by rw[List.map_append,List.map_cons,List.append_assoc];rfl,fun o ho=>?_,fun o ho=>?_⟩
 ·obtain⟨z,hz,rfl⟩:=List.mem_map.mp ho
  exact h1 z hz
 ·rcases List.mem_append.mp ho with q|q
  ·obtain⟨z,hz,rfl⟩:=List.mem_map.mp q
   exact h2 z hz
  ·obtain⟨z,hz,rfl⟩:=List.mem_map.mp q
   exact hb z hz
theorem Best.right{A B:List Run}{s:List Int}{k:Nat}{x y:Int}(h:Best B s k)(ha:∀o∈A,k<o.2.2):Best (A.map (fun o=>(x::o.1,o.2))++B.map (fun o=>(y::o.1,o.2))) (y::s) k:=by
 obtain⟨pre,e,post,rfl,h1,h2⟩:=h
 refine⟨A.map _++pre.map _,e,post.map _,by rw[List.map_append,List.map_cons,List.append_assoc],fun o ho=>?_,fun o ho=>?_⟩
 ·rcases List.mem_append.mp ho with q|q
  ·obtain⟨z,hz,rfl⟩:=List.mem_map.mp q
   exact ha z hz
  ·obtain⟨z,hz,rfl⟩:=List.mem_map.mp q
   exact h1 z hz
 ·obtain⟨z,hz,rfl⟩:=List.mem_map.mp ho
  exact h2 z hz
end Pq
namespace Pq
open PySem L2
def zj2(E:Es):List (Key×V):=E.map fun x=>(.inl ((x.1:Nat):Int),.int ((x.2:Nat):Int))
def eget(E:Es)(c:Nat):Option Nat:=(E.find? fun x=>decide (x.1=c)).map (·.2)
def eput(E:Es)(c k:Nat):Es:=if(E.any fun x=>decide (x.1=c))=true then E.map (fun x=>if x.1=c then(x.1,k) else x) else E++[(c,k)]
theorem key_eq(a b:Nat):decide ((Sum.inl ((a:Nat):Int):Key)=Sum.inl ((b:Nat):Int))=decide (a=b):=by
 by_cases h:a=b
 ·rw[h,decide_eq_true rfl,decide_eq_true rfl]
 ·rw[decide_eq_false h,decide_eq_false (fun e=>h (by have:=Sum.inl.inj e;omega))]
theorem yc5(E:Es)(c:Nat):ya6 (zj2 E) (.inl ((c:Nat):Int))=(eget E c).map fun k=>V.int ((k:Nat):Int):=by
 induction E with
 |nil=>rfl
 |cons x E ih=>
  unfold ya6 eget zj2 at*
  rw[List.map_cons,List.find?_cons,List.find?_cons]
  simp only[key_eq]
  cases decide (x.1=c) with
  |true=>rfl
  |false=>exact ih
theorem put_enc(E:Es)(c k:Nat):yj1 (zj2 E) (.inl ((c:Nat):Int)) (.int ((k:Nat):Int))=zj2 (eput E c k):=by
 have ha:((zj2 E).any fun kv=>decide (kv.1=(.inl ((c:Nat):Int):Key)))=E.any fun x=>decide (x.1=c):=by
  unfold zj2
  rw[List.any_map]
  congr 1
  funext x
  exact key_eq x.1 c
 unfold yj1 eput
 rw[ha]
 split
 ·unfold zj2
  rw[List.map_map,List.map_map]
  congr 1
  funext x
  simp only[Function.comp]
  by_cases h:x.1=c
  ·rw[if_pos h,if_pos (by rw[h])]
  ·rw[if_neg h,if_neg (fun e=>h (by have:=Sum.inl.inj e;omega))]
 ·unfold zj2
  rw[List.map_append];rfl
theorem yf9(E:Es):(zj2 E).length=E.length:=by unfold zj2;rw[List.length_map]
theorem enc_get{E:Es}{i:Nat}{kv:Key×V}(h:(zj2 E)[i]? = some kv):∃c k:Nat,E[i]? = some (c,k)∧kv=(.inl ((c:Nat):Int),.int ((k:Nat):Int)):=by
 unfold zj2 at h
 rw[List.getElem?_map] at h
 cases e:E[i]? with
 |none=>rw[e] at h;cases h
 |some x=>rw[e] at h;cases h;exact⟨x.1,x.2,rfl,rfl⟩
theorem eget_mem{E:Es}{c k:Nat}(h:eget E c=some k):(c,k)∈E:=by
 unfold eget at h
 cases e:E.find? fun x=>decide (x.1=c) with
 |none=>rw[e] at h;cases h
 |some x=>
  rw[e] at h
  have h1:=List.mem_of_find?_eq_some e
  have h2:=List.find?_some e
  have h3:x.1=c:=of_decide_eq_true h2
  have h4:x.2=k:=Option.some.inj h
  rw[←h3,←h4];exact h1
theorem eget_none{E:Es}{c:Nat}(h:eget E c=none):∀x∈E,x.1≠c:=fun x hx e=>by
 unfold eget at h
 have h':E.find? (fun x=>decide (x.1=c))=none:=by
  cases z:E.find? fun x=>decide (x.1=c) with
  |none=>rfl
  |some y=>rw[z] at h;cases h
 rw[List.find?_eq_none] at h'
 exact h' x hx (decide_eq_true e)
theorem zo9{E:Es}(hn:(E.map (·.1)).Nodup){x y:Nat×Nat}(hx:x∈E)(hy:y∈E)(h:x.1=y.1):x=y:=by
 induction E with
 |nil=>cases hx
 |cons z E ih=>
  rw[List.map_cons,List.nodup_cons] at hn
  rcases List.mem_cons.mp hx with e1|hx'
  ·rcases List.mem_cons.mp hy with e2|hy'
   ·rw[e1,e2]
   ·exact absurd (show z.1∈E.map (·.1) from List.mem_map.mpr ⟨y,hy',by rw[←h,e1]⟩) hn.1
  ·rcases List.mem_cons.mp hy with e2|hy'
   ·exact absurd (show z.1∈E.map (·.1) from List.mem_map.mpr ⟨x,hx',by rw[h,e2]⟩) hn.1
   ·exact ih hn.2 hx' hy'
theorem eget_of{E:Es}(hn:(E.map (·.1)).Nodup){c k:Nat}(h:(c,k)∈E):eget E c=some k:=by
 cases e:eget E c with
 |none=>exact absurd rfl (eget_none e _ h)
 |some j=>have:=zo9 hn h (eget_mem e) rfl;cases this;rfl
theorem any_iff(E:Es)(c:Nat):(E.any fun x=>decide (x.1=c))=true↔∃x∈E,x.1=c:=by
 rw[List.any_eq_true]
 constructor
 ·rintro⟨x,h,e⟩;exact⟨x,h,of_decide_eq_true e⟩
 ·rintro⟨x,h,e⟩;exact⟨x,h,decide_eq_true e⟩
theorem mem_eput{E:Es}{c k:Nat}{x:Nat×Nat}:x∈eput E c k↔x=(c,k)∨(x∈E∧x.1≠c):=by
 unfold eput
 split
 ·rename_i h
  obtain⟨y,hy,e⟩:=(any_iff E c).mp h
  rw[List.mem_map]
  constructor
  ·rintro⟨z,hz,rfl⟩
   by_cases hzc:z.1=c
   ·rw[if_pos hzc];exact .inl (by rw[hzc])
   ·rw[if_neg hzc];exact .inr ⟨hz,hzc⟩
  ·rintro(rfl|⟨h1,h2⟩)
   ·exact⟨y,hy,by rw[if_pos e,e]⟩
   ·exact⟨x,h1,by rw[if_neg h2]⟩
 ·rename_i h
  have h':∀x∈E,x.1≠c:=fun x hx e=>h ((any_iff E c).mpr ⟨x,hx,e⟩)
  rw[List.mem_append,List.mem_singleton]
  constructor
  ·rintro(h1|h1)
   ·exact .inr ⟨h1,h' x h1⟩
   ·exact .inl h1
  ·rintro(h1|⟨h1,_⟩)
   ·exact .inr h1
   ·exact .inl h1
theorem yj7{E:Es}(hn:(E.map (·.1)).Nodup)(c k:Nat):((eput E c k).map (·.1)).Nodup:=by
 unfold eput
 split
 ·have e:(E.map fun x=>if x.1=c then(x.1,k) else x).map (·.1)=E.map (·.1):=by
   rw[List.map_map]
   congr 1
   funext x
   simp only[Function.comp]
   split<;>rfl
  rw[e];exact hn
 ·rename_i h
  rw[List.map_append,List.nodup_append]
  refine⟨hn,by simp,fun a ha b hb e=>?_⟩
  obtain⟨x,hx,rfl⟩:=List.mem_map.mp ha
  have hb':b=c:=by simpa using hb
  exact h ((any_iff E c).mpr ⟨x,hx,by rw[e,hb']⟩)
theorem eput_len(E:Es)(c k:Nat):(eput E c k).length≤E.length+1:=by
 unfold eput
 split
 ·rw[List.length_map];omega
 ·rw[List.length_append];exact Nat.le_refl _
structure Added(E M:Es)(sp:Nat)(D:Es):Prop where
 nodup:(D.map (·.1)).Nodup
 sound:∀x∈D,x∈E∨∃y∈M,x=(y.1,sp+y.2)
 old:∀x∈E,∃y∈D,y.1=x.1∧y.2≤x.2
 new:∀x∈M,∃y∈D,y.1=x.1∧y.2≤sp+x.2
 len:D.length≤E.length+M.length
theorem Added.start{E:Es}(hn:(E.map (·.1)).Nodup)(sp:Nat):Added E [] sp E:=
 ⟨hn,fun x hx=>.inl hx,fun x hx=>⟨x,hx,rfl,Nat.le_refl _⟩,fun x hx=>(by cases hx),Nat.le_refl _⟩
theorem Added.put{E M D:Es}{sp c k:Nat}(A:Added E M sp D)(h:eget D c=none∨∃j,eget D c=some j∧sp+k<j):Added E (M++[(c,k)]) sp (eput D c (sp+k)):=by
 have low:∀y∈D,y.1=c→sp+k≤y.2:=fun y hy e=>by
  rcases h with h|⟨j,h1,h2⟩
  ·exact absurd e (eget_none h y hy)
  ·have:=zo9 A.nodup hy (eget_mem h1) e
   rw[this];exact Nat.le_of_lt h2
 have key:∀y∈D,∃z∈eput D c (sp+k),z.1=y.1∧z.2≤y.2:=fun y hy=>by
  by_cases e:y.1=c
  ·exact⟨(c,sp+k),mem_eput.mpr (.inl rfl),e.symm,low y hy e⟩
  ·exact⟨y,mem_eput.mpr (.inr ⟨hy,e⟩),rfl,Nat.le_refl _⟩
 refine⟨yj7 A.nodup _ _,fun x hx=>?_,fun x hx=>?_,fun x hx=>?_,?_⟩
 ·rcases mem_eput.mp hx with rfl|⟨h1,_⟩
  ·exact .inr ⟨(c,k),by simp,rfl⟩
  ·rcases A.sound x h1 with z|⟨y,hy,e⟩
   ·exact .inl z
   ·exact .inr ⟨y,List.mem_append_left _ hy,e⟩
 ·obtain⟨y,hy,e1,e2⟩:=A.old x hx
  obtain⟨z,hz,e3,e4⟩:=key y hy
  exact⟨z,hz,e3.trans e1,Nat.le_trans e4 e2⟩
 ·rcases List.mem_append.mp hx with h1|h1
  ·obtain⟨y,hy,e1,e2⟩:=A.new x h1
   obtain⟨z,hz,e3,e4⟩:=key y hy
   exact⟨z,hz,e3.trans e1,Nat.le_trans e4 e2⟩
  ·rw[List.mem_singleton.mp h1]
   exact⟨(c,sp+k),mem_eput.mpr (.inl rfl),rfl,Nat.le_refl _⟩
 ·have:=eput_len D c (sp+k)
  have:=A.len
  rw[List.length_append,List.length_singleton];omega
theorem Added.keep{E M D:Es}{sp c k j:Nat}(A:Added E M sp D)(h1:eget D c=some j)(h2:j≤sp+k):Added E (M++[(c,k)]) sp D:=by
 refine⟨A.nodup,fun x hx=>?_,A.old,fun x hx=>?_,?_⟩
 ·rcases A.sound x hx with z|⟨y,hy,e⟩
  ·exact .inl z
  ·exact .inr ⟨y,List.mem_append_left _ hy,e⟩
 ·rcases List.mem_append.mp hx with z|z
  ·exact A.new x z
  ·rw[List.mem_singleton.mp z]
   exact⟨_,eget_mem h1,rfl,h2⟩
 ·have:=A.len
  rw[List.length_append,List.length_singleton];omega
structure Und(D:Es)(ks:List Nat)(i:Nat)(l:Option Nat)(E:Es):Prop where
 nodup:(E.map (·.1)).Nodup
 sub:∀x∈E,x∈D
 dom:∀(j c k:Nat),j<i→ks[j]? = some c→(c,k)∈D→∃y∈E,y.1≤c∧y.2≤k
 non:l=none→i=0
 least:∀m,l=some m→∃y∈E,y.2=m∧∀(j c:Nat),i≤j→ks[j]? = some c→y.1≤c
 len:E.length≤i
theorem Und.start(D:Es)(ks:List Nat):Und D ks 0 none []:=⟨by simp,fun x hx=>(by cases hx),fun j c k h=>absurd h (Nat.not_lt_zero _),fun _=>rfl,fun m h=>(by cases h),Nat.zero_le _⟩
theorem sorted_le{ks:List Nat}(h:ks.Pairwise (· ≤ ·)){i j c d:Nat}(hij:i≤j)(hc:ks[i]? = some c)(hd:ks[j]? = some d):c≤d:=by
 rcases Nat.lt_or_eq_of_le hij with hlt|rfl
 ·obtain⟨h1,e1⟩:=List.getElem?_eq_some_iff.mp hc
  obtain⟨h2,e2⟩:=List.getElem?_eq_some_iff.mp hd
  have:=List.pairwise_iff_getElem.mp h i j h1 h2 hlt
  rw[e1,e2] at this;exact this
 ·rw[hc] at hd;cases hd;exact Nat.le_refl _
theorem Und.take{D E:Es}{ks:List Nat}{i c k:Nat}{l:Option Nat}(hD:(D.map (·.1)).Nodup)(hs:ks.Pairwise (· ≤ ·))(U:Und D ks i l E)(hc:ks[i]? = some c)(hk:(c,k)∈D):Und D ks (i+1) (some k) (eput E c k):=by
 have key:∀y∈E,∃z∈eput E c k,z.1=y.1∧z.2=y.2:=fun y hy=>by
  by_cases e:y.1=c
  ·refine⟨(c,k),mem_eput.mpr (.inl rfl),e.symm,?_⟩
   have:=zo9 hD (U.sub y hy) hk e
   rw[this]
  ·exact⟨y,mem_eput.mpr (.inr ⟨hy,e⟩),rfl,rfl⟩
 refine⟨yj7 U.nodup _ _,fun x hx=>?_,fun j d q hj hd hq=>?_,fun h=>(by cases h),fun m hm=>?_,?_⟩
 ·rcases mem_eput.mp hx with rfl|⟨h1,_⟩
  ·exact hk
  ·exact U.sub x h1
 ·rcases Nat.lt_or_eq_of_le (Nat.le_of_lt_succ hj) with hlt|rfl
  ·obtain⟨y,hy,e1,e2⟩:=U.dom j d q hlt hd hq
   obtain⟨z,hz,e3,e4⟩:=key y hy
   exact⟨z,hz,by omega,by omega⟩
  ·rw[hc] at hd;cases hd
   have:=zo9 hD hk hq rfl
   cases this
   exact⟨(c,k),mem_eput.mpr (.inl rfl),Nat.le_refl _,Nat.le_refl _⟩
 ·cases hm
  exact⟨(c,k),mem_eput.mpr (.inl rfl),rfl,fun j d hj hd=>sorted_le hs (by omega) hc hd⟩
 ·have:=eput_len E c k
  have:=U.len
  omega
theorem Und.skip{D E:Es}{ks:List Nat}{i c k m:Nat}(hD:(D.map (·.1)).Nodup)(U:Und D ks i (some m) E)(hc:ks[i]? = some c)(hk:(c,k)∈D)(hm:m≤k):Und D ks (i+1) (some m) E:=by
 refine⟨U.nodup,U.sub,fun j d q hj hd hq=>?_,fun h=>(by cases h),fun m' h'=>?_,Nat.le_trans U.len (Nat.le_succ i)⟩
 ·rcases Nat.lt_or_eq_of_le (Nat.le_of_lt_succ hj) with hlt|rfl
  ·exact U.dom j d q hlt hd hq
  ·rw[hc] at hd;cases hd
   have:=zo9 hD hk hq rfl
   cases this
   obtain⟨y,hy,e1,e2⟩:=U.least m rfl
   exact⟨y,hy,e2 j _ (Nat.le_refl _) hc,by omega⟩
 ·obtain⟨y,hy,e1,e2⟩:=U.least m' h'
  exact⟨y,hy,e1,fun j d hj hd=>e2 j d (by omega) hd⟩
theorem Und.done{D E:Es}{ks:List Nat}{l:Option Nat}(hp:ks.Perm (D.map (·.1)))(U:Und D ks ks.length l E):Undom D E:=by
 refine⟨U.nodup,U.sub,fun x hx=>?_⟩
 have hm:x.1∈ks:=hp.mem_iff.mpr (List.mem_map.mpr ⟨x,hx,rfl⟩)
 obtain⟨j,hj,e⟩:=List.mem_iff_getElem.mp hm
 exact U.dom j x.1 x.2 hj (by rw[List.getElem?_eq_getElem hj,e]) hx
end Pq
namespace Pq
open PySem L2
def But1(d:Addr)(H H':Hp):Prop:=∀b o,H b=some o→b≠d→H' b=some o
theorem But1.refl{d:Addr}{H:Hp}:But1 d H H:=fun _ _ e _=>e
theorem But1.trans{d:Addr}{H H1 H2:Hp}(a:But1 d H H1)(b:But1 d H1 H2):But1 d H H2:=fun c o e n=>b c o (a c o e n) n
theorem But1.of{d:Addr}{H H':Hp}(s:Same H H'):But1 d H H':=fun b o e _=>s b o e
theorem zn6{d:Addr}{H:Hp}{o:HO}:But1 d H (upd H d o):=fun b o' e n=>by rw[za9 n];exact e
def spAdd:Sp:=fun vs H Q _=>∃(d e:Addr) (o:Obj) (E M:Es) (sp:Nat),vs=[.ref d,.ref e,.int (sp:Nat)]∧H d=some (.dK (zj2 E))∧H e=some (.frz o (.dK (zj2 M)))∧(E.map (·.1)).Nodup∧(M.map (·.1)).Nodup∧E.length+M.length≤1000000∧
 ∀(D:Es) (H':Hp),Added E M sp D→H' d=some (.dK (zj2 D))→But1 d H H'→Q .non H'
def yl3:Sp:=fun vs H Q _=>∃(d:Addr) (D:Es),vs=[.ref d]∧H d=some (.dK (zj2 D))∧(D.map (·.1)).Nodup∧D.length<64∧
 ∀(p:Addr) (E:Es) (H':Hp),Undom D E→E.length≤64→Same H H'→H p=none→H' p=some (.dK (zj2 E))→Q (.ref p) H'
section
variable {P:Program}{w:World}{K:PySem.W.Frag}{mg:Str→Option Value}{base:Heap}{f g:Addr}{fd gd:FuncData}
theorem scAdd:FnScope ["ends","more","spent","column","cost"] ["ends","more","spent"] (za7 zp7):=⟨rfl,rfl,rfl,by decide +kernel,rfl,by decide +kernel,by decide +kernel⟩
theorem ok_add(F:Fun K "add_ends" "add_ends" zp7 f fd):FnOk P w K mg base CX0 1 f fd ["ends","more","spent"] spAdd:=by
 refine F.okq scAdd (fun vs H Q E h=>?_) (fun cdv A outer s H vs Q E hr h=>?_)
 ·obtain⟨d,e,o,E,M,sp,rfl,_⟩:=h
  rfl
 obtain⟨d,e,o,E,M,sp,rfl,hd,he,hE,hM,hz,q⟩:=h
 have nd:=scAdd.nd
 have hu1:=hr.units
 have hu:(A.deeper (PyProof.Rows.envOfC "add_ends" (za7 zp7) s.heap.objs.size f cdv)).units+1<cLine:=by omega
 refine⟨_,za6 (zp9 PassesOwn.never rfl (ym5 (pvq 1)) (zn8 (i:=3) nd rfl (Or.inl rfl)) (
   za1 (zb2 (i:=4) nd rfl (Or.inl rfl) (zc4 zk6 (pvq 2) (zm4 hu (pvq 1) (pvq 3) (fun _ _=>rfl))))<|
   za6 (zd0 (PW.ptq (zu3 (zj9 (zo7 hu (pvq 3) (pvq 0))) (zr7 (zb6 op_lt (pvq 4) (zm4 hu (pvq 0) (pvq 3) (fun _ _=>rfl)) (zd7 _))))) (za6 (zw5 hu (pvq 0) (pvq 3) (pvq 4) rfl)) zb9))),?_⟩
 have nde:e≠d:=ze5 he hd (by intro z;cases z)
 refine⟨_,rfl,e,o,_,rfl,he,for_dict (a:=e) (o:=o) (kvs:=zj2 M) (fun i σ H2=>∃(v3 v4:Option V) (D:Es),σ=[some (.ref d),some (.ref e),some (.int (sp:Nat)),v3,v4]∧Added E (M.take i) sp D∧H2 d=some (.dK (zj2 D))∧But1 d H H2)
  ⟨_,_,E,rfl,by rw[List.take_zero];exact Added.start hE sp,hd,But1.refl⟩ (fun i σ H2 _ ⟨_,_,_,_,_,_,b⟩=>b _ _ he nde) ?_ ?_⟩
 ·rintro i kv σ H2 hkv ⟨v3,v4,D,rfl,A',hd2,b2⟩
  obtain⟨c,k,hck,rfl⟩:=enc_get hkv
  have he2:=b2 _ _ he nde
  have hv:ya6 (zj2 M) (.inl ((c:Nat):Int))=some (V.int ((k:Nat):Int)):=by rw[yc5,eget_of hM (List.mem_of_getElem? hck)];rfl
  have hl:=A'.len
  rw[List.length_take] at hl
  have hil:i<M.length:=(List.getElem?_eq_some_iff.mp hck).1
  refine⟨_,rfl,_,rfl,_,rfl,e,_,rfl,by rw[←hv];exact .inl ⟨_,_,.inr ⟨o,he2⟩,rfl,rfl⟩,_,_,rfl,rfl,?_⟩
  refine⟨_,rfl,_,rfl,d,_,rfl,DGet.k hd2,_,rfl,?_⟩
  have put:∀H3,H3=H2→(eget D c=none∨∃j,eget D c=some j∧sp+k<j)→∃v H4,V.ref d=.ref v∧DPut H3 v (.int ((c:Nat):Int)) (.int ((sp:Nat)+(k:Nat):Int)) H4∧∃(v3 v4:Option V) (D:Es),[some (V.ref d),some (V.ref e),some (V.int (sp:Nat)),some (V.int ((c:Nat):Int)),some (V.int ((sp:Nat)+(k:Nat):Int))]=[some (V.ref d),some (V.ref e),some (V.int (sp:Nat)),v3,v4]∧Added E (M.take (i+1)) sp D∧H4 d=some (.dK (zj2 D))∧But1 d H H4:=fun H3 e3 hh=>by
   subst e3
   refine⟨d,_,rfl,DPut.k (k:=.inl ((c:Nat):Int)) hd2 (Nat.lt_of_lt_of_le (show(zj2 D).length<1000001 by rw[yf9];omega) (zd2 (by omega))),_,_,eput D c (sp+k),rfl,by rw[ze8 hck];exact A'.put hh,?_,b2.trans zn6⟩
   rw[za0]
   have:((sp:Nat):Int)+((k:Nat):Int)=((sp+k:Nat):Int):=by omega
   rw[this,put_enc]
  rw[yc5]
  cases hg:eget D c with
  |none=>exact zu0 (zu0 ⟨_,rfl,_,rfl,_,rfl,put _ rfl (.inl hg)⟩)
  |some j=>
   refine yb2 ⟨_,rfl,_,rfl,_,rfl,d,.int ((j:Nat):Int),rfl,?_,_,_,rfl,rfl,_,rfl,?_⟩
   ·have:=DGet.k (k:=.inl ((c:Nat):Int)) hd2
    rw[yc5,hg] at this
    exact this
   ·refine ite2 (fun h=>?_) (fun h=>?_)
    ·have h':=of_decide_eq_true h
     exact⟨_,rfl,_,rfl,_,rfl,put _ rfl (.inr ⟨j,hg,by omega⟩)⟩
    ·have h':¬((sp:Nat):Int)+((k:Nat):Int)<((j:Nat):Int):=fun z=>h (decide_eq_true z)
     exact⟨_,_,D,rfl,by rw[ze8 hck];exact A'.keep hg (by omega),hd2,b2⟩
 ·rintro σ H2 ⟨v3,v4,D,rfl,A',hd2,b2⟩
  rw[yf9,List.take_length] at A'
  exact q D H2 A' hd2 b2
theorem scUnd:FnScope ["ends","kept","least","column"] ["ends"] (za7 yd1):=⟨rfl,rfl,rfl,by decide +kernel,rfl,by decide +kernel,by decide +kernel⟩
theorem ok_undom(F:Fun K "undominated" "undominated" yd1 f fd)(ms:mg "sorted"=none):FnOk P w K mg base CX0 1 f fd ["ends"] yl3:=by
 refine F.okq scUnd (fun vs H Q E h=>?_) (fun cdv A outer s H vs Q E hr h=>?_)
 ·obtain⟨d,D,rfl,_⟩:=h
  rfl
 obtain⟨d,D,rfl,hd,hD,hz,q⟩:=h
 have nd:=scUnd.nd
 have hu1:=hr.units
 have hu:(A.deeper (PyProof.Rows.envOfC "undominated" (za7 yd1) s.heap.objs.size f cdv)).units+1<cLine:=by omega
 refine⟨_,za1 (zb2 (i:=1) nd rfl (Or.inl rfl) pe_dnewKq)<|
  za1 (zb2 (i:=2) nd rfl (Or.inl rfl) pe_nonq)<|
  za1 (zp9 PassesOwn.never rfl (zk0 (zd9 (call_sortedD rfl) rfl ms (by decide +kernel) (za2 (pvq 0) za3))) (zn8 (i:=3) nd rfl (Or.inl rfl)) (
   za6 (zd0 (PW.ptq (zu3 (zj9 (pc_isNq (pvq 2))) (zr7 (zb6 op_lt (zm4 hu (pvq 0) (pvq 3) (fun _ _=>rfl)) (pvq 2) (zd7 _))))) (za1 (zb2 (i:=2) nd rfl (Or.inl rfl) (zm4 hu (pvq 0) (pvq 3) (fun _ _=>rfl))) (za6 (zw5 hu (pvq 1) (pvq 3) (pvq 2) rfl))) zb9)))<|
  za6 (zb4 (pvq 1)),?_⟩
 intro p hp
 have npd:d≠p:=za8 hd hp
 have hd1:(upd H p (.dK [])) d=some (.dK (zj2 D)):=by rw[za9 npd];exact hd
 refine⟨_,rfl,d,zj2 D,D.map (fun x=>((x.1:Nat):Int)),rfl,.inl hd1,?_,by rw[List.length_map];exact hz,fun l ns' pm so hl=>?_⟩
 ·unfold zj2;rw[List.map_map,List.map_map];rfl
 obtain⟨ks,rfl,pk⟩:∃ks:List Nat,ns'=ks.map (fun c=>((c:Nat):Int))∧ks.Perm (D.map (·.1)):=by
  refine⟨ns'.map Int.toNat,?_,?_⟩
  ·rw[List.map_map]
   conv=>lhs;rw[←List.map_id ns']
   refine List.map_congr_left fun n hn=>?_
   have:=pm.mem_iff.mp hn
   obtain⟨x,_,rfl⟩:=List.mem_map.mp this
   simp
  ·have:=pm.map Int.toNat
   rw[List.map_map] at this
   exact this
 have so':ks.Pairwise (· ≤ ·):=by
  rw[List.pairwise_map] at so
  exact so.imp fun h=>by omega
 have npl:p≠l:=za8 za0 hl
 have ndl:d≠l:=za8 hd1 hl
 have hl0:H l=none:=by rw[za9 npl.symm] at hl;exact hl
 have el:(upd (upd H p (.dK [])) l (.lst ((ks.map fun c=>((c:Nat):Int)).map V.int))) l=some (.lst ((ks.map fun c=>((c:Nat):Int)).map V.int)):=za0
 have hlen:((ks.map fun c=>((c:Nat):Int)).map V.int).length=ks.length:=by rw[List.length_map,List.length_map]
 have hkl:ks.length<64:=by have:=pk.length_eq;rw[List.length_map] at this;omega
 have s0:Same H (upd (upd H p (.dK [])) l (.lst ((ks.map fun c=>((c:Nat):Int)).map V.int))):=(za4 hp _).trans (za4 hl _)
 refine⟨l,rfl,⟨_,SqL.of el⟩,yc2 (K:=K) (a:=l) (xs:=(ks.map fun c=>((c:Nat):Int)).map V.int) (fun i σ H2=>∃(v3:Option V) (m:Option Nat) (E:Es),σ=[some (.ref d),some (.ref p),some (match m with|none=>.non|some k=>.int ((k:Nat):Int)),v3]∧Und D ks i m E∧H2 p=some (.dK (zj2 E))∧But1 p (upd (upd H p (.dK [])) l (.lst ((ks.map fun c=>((c:Nat):Int)).map V.int))) H2)
  ⟨_,none,[],rfl,Und.start D ks,(by rw[za9 npl,za0];rfl),But1.refl⟩ (fun i σ H2 _ ⟨_,_,_,_,_,_,b⟩=>SqL.of (b _ _ el npl.symm)) ?_ ?_⟩
 ·rintro i x σ H2 hx ⟨v3,m,E,rfl,U,hp2,b2⟩
  obtain⟨c,hc,rfl⟩:∃c,ks[i]? = some c∧x=.int ((c:Nat):Int):=by
   rw[List.getElem?_map,List.getElem?_map] at hx
   cases z:ks[i]? with
   |none=>rw[z] at hx;cases hx
   |some c=>rw[z] at hx;cases hx;exact⟨c,rfl,rfl⟩
  have hi:i<ks.length:=(List.getElem?_eq_some_iff.mp hc).1
  obtain⟨y,hy,ey⟩:∃y∈D,y.1=c:=List.mem_map.mp (pk.mem_iff.mp (List.mem_of_getElem? hc))
  have hk:(c,y.2)∈D:=by rw[←ey];exact hy
  have hd2:H2 d=some (.dK (zj2 D)):=b2 _ _ (by rw[za9 ndl];exact hd1) npd
  have hg:DGet H2 d (.int ((c:Nat):Int)) (some (.int ((y.2:Nat):Int))):=by
   have:=DGet.k (k:=.inl ((c:Nat):Int)) hd2
   rw[yc5,eget_of hD hk] at this
   exact this
  have hel:=U.len
  have put:∀(vv:V),vv=.int ((y.2:Nat):Int)→∃v H4,V.ref p=.ref v∧DPut H2 v (.int ((c:Nat):Int)) vv H4∧∃(v3:Option V) (m:Option Nat) (E:Es),[some (V.ref d),some (V.ref p),some vv,some (V.int ((c:Nat):Int))]=[some (.ref d),some (.ref p),some (match m with|none=>.non|some k=>.int ((k:Nat):Int)),v3]∧Und D ks (i+1) m E∧H4 p=some (.dK (zj2 E))∧But1 p (upd (upd H p (.dK [])) l (.lst ((ks.map fun c=>((c:Nat):Int)).map V.int))) H4:=fun vv e=>by
   subst e
   refine⟨p,_,rfl,DPut.k (k:=.inl ((c:Nat):Int)) hp2 (Nat.lt_of_lt_of_le (show(zj2 E).length<1000001 by rw[yf9];omega) (zd2 (by omega))),_,some y.2,eput E c y.2,rfl,U.take hD so' hc hk,?_,b2.trans zn6⟩
   rw[za0,put_enc]
  refine⟨_,rfl,_,rfl,?_⟩
  cases m with
  |none=>exact zu0 (zu0 ⟨_,rfl,_,rfl,d,_,rfl,hg,_,rfl,_,rfl,_,rfl,put _ rfl⟩)
  |some m=>
   refine yb2 ⟨_,rfl,_,rfl,d,_,rfl,hg,_,rfl,_,_,rfl,rfl,_,rfl,?_⟩
   refine ite2 (fun h=>?_) (fun h=>?_)
   ·exact⟨_,rfl,_,rfl,d,_,rfl,hg,_,rfl,_,rfl,_,rfl,put _ rfl⟩
   ·have h':¬((y.2:Nat):Int)<((m:Nat):Int):=fun z=>h (decide_eq_true z)
    exact⟨_,some m,E,rfl,U.skip hD hc hk (by omega),hp2,b2⟩
 ·rintro σ H2 ⟨v3,m,E,rfl,U,hp2,b2⟩
  rw[hlen] at U
  refine⟨_,rfl,q p E H2 (U.done pk) (by have:=U.len;omega) (fun b o e=>b2 _ _ (s0 _ _ e) (za8 e hp)) hp hp2⟩
end
end Pq
namespace Pq
open PySem L2
abbrev Spn:=Nd×Nat×Nat
def ze6:Nd→Nat→Nat→Nd×Nat
 |.nest k a,c,m=>ze6 a c (m+k)
 |.align a,c,_=>ze6 a c c
 |a,_,m=>(a,m)
def zr0:Nd→Bool
 |.nest _ _=>false
 |.align _=>false
 |_=>true
def zc8(a:Nd)(c m:Nat):Spn:=((ze6 a c m).1,c,(ze6 a c m).2)
theorem zm9:∀(a:Nd) (c m:Nat),zr0 (ze6 a c m).1=true
 |.nest k a,c,m=>zm9 a c (m+k)
 |.align a,c,_=>zm9 a c c
 |.text _,_,_=>rfl
 |.brk,_,_=>rfl
 |.beside _ _,_,_=>rfl
 |.choice _ _,_,_=>rfl
theorem ye5{a:Nd}(h:zr0 a=true)(c m:Nat):ze6 a c m=(a,m):=by cases a<;>first|rfl|cases h
theorem spotN_of{a:Nd}(h:zr0 a=true)(c m:Nat):zc8 a c m=(a,c,m):=by unfold zc8;rw[ye5 h]
theorem zp0(w:Nat):∀(a:Nd) (c m:Nat),zk7 w a c m=zk7 w (ze6 a c m).1 c (ze6 a c m).2
 |.nest k a,c,m=>zp0 w a c (m+k)
 |.align a,c,_=>zp0 w a c c
 |.text _,_,_=>rfl
 |.brk,_,_=>rfl
 |.beside _ _,_,_=>rfl
 |.choice _ _,_,_=>rfl
theorem zq7{w:Nat}:∀(a:Nd) (c m:Nat) {E:Es},EndsOk w [((ze6 a c m).1,(ze6 a c m).2)] c E→EndsOk w [(a,m)] c E
 |.nest k a,c,m,E,h=>(zq7 a c (m+k) h).nest
 |.align a,c,_,E,h=>(zq7 a c c h).align
 |.text _,_,_,_,h=>h
 |.brk,_,_,_,h=>h
 |.beside _ _,_,_,_,h=>h
 |.choice _ _,_,_,_,h=>h
def zi7(w:Nat):Nd→Nat→Nat→List Spn
 |.text n,c,m=>[(.text n,c,m)]
 |.brk,c,m=>[(.brk,c,m)]
 |.nest k a,c,m=>zi7 w a c (m+k)
 |.align a,c,_=>zi7 w a c c
 |.choice a b,c,m=>(.choice a b,c,m)::(zi7 w a c m++zi7 w b c m)
 |.beside a b,c,m=>(.beside a b,c,m)::(zi7 w a c m++(zk7 w a c m).flatMap fun o=>zi7 w b o.2.1 m)
theorem zo1(w:Nat):∀(a:Nd) (c m:Nat),zi7 w a c m=zi7 w (ze6 a c m).1 c (ze6 a c m).2
 |.nest k a,c,m=>zo1 w a c (m+k)
 |.align a,c,_=>zo1 w a c c
 |.text _,_,_=>rfl
 |.brk,_,_=>rfl
 |.beside _ _,_,_=>rfl
 |.choice _ _,_,_=>rfl
theorem spots_self(w:Nat)(a:Nd)(c m:Nat):zc8 a c m∈zi7 w a c m:=by
 rw[zo1]
 unfold zc8
 have h:=zm9 a c m
 generalize (ze6 a c m)=x at h
 obtain⟨a',m'⟩:=x
 cases a'<;>first|(simp[zi7];done)|cases h
def cw(w:Nat):Nd→Nat→Nat→Nat
 |.text _,_,_=>1
 |.brk,_,_=>1
 |.nest k a,c,m=>cw w a c (m+k)
 |.align a,c,_=>cw w a c c
 |.choice a b,c,m=>2+cw w a c m+cw w b c m
 |.beside a b,c,m=>3+cw w a c m+((zk7 w a c m).map fun o=>cw w b o.2.1 m).sum
theorem yg2(w:Nat):∀(a:Nd) (c m:Nat),cw w a c m=cw w (ze6 a c m).1 c (ze6 a c m).2
 |.nest k a,c,m=>yg2 w a c (m+k)
 |.align a,c,_=>yg2 w a c c
 |.text _,_,_=>rfl
 |.brk,_,_=>rfl
 |.beside _ _,_,_=>rfl
 |.choice _ _,_,_=>rfl
theorem cw_pos(w:Nat):∀(a:Nd) (c m:Nat),1≤cw w a c m
 |.nest k a,c,m=>cw_pos w a c (m+k)
 |.align a,c,_=>cw_pos w a c c
 |.text _,_,_=>Nat.le_refl _
 |.brk,_,_=>Nat.le_refl _
 |.beside _ _,_,_=>by show 1≤3+_+_;omega
 |.choice _ _,_,_=>by show 1≤2+_+_;omega
def tot(a:Nd):Nat:=(ze3 a).1.length+(ze3 a).2.length
def SmN:Nd→Prop
 |.text _=>True
 |.brk=>True
 |.nest _ a=>SmN a
 |.align a=>SmN a
 |.choice a b=>SmN a∧SmN b∧tot (.choice a b)≤63
 |.beside a b=>SmN a∧SmN b∧tot (.beside a b)≤63
theorem SmN.spot:∀ {a:Nd} (c m:Nat),SmN a→SmN (ze6 a c m).1
 |.nest k a,c,m,h=>SmN.spot (a:=a) c (m+k) h
 |.align a,c,_,h=>SmN.spot (a:=a) c c h
 |.text _,_,_,h=>h
 |.brk,_,_,h=>h
 |.beside _ _,_,_,h=>h
 |.choice _ _,_,_,h=>h
theorem yk8{a b:Nd}{m:Nat}(hn:ze9 (.beside a b)=none):cnt 1 ([(a,m)]++[(b,m)])=tot (.beside a b):=by
 show(ze3 b).1.length+(ze3 b).2.length*((ze3 a).1.length+(ze3 a).2.length*1)=_
 have e0:ze3 (.beside a b)=((ze3 b).1++(ze3 a).1.flatMap (fun x=>(ze3 b).2.map (x + ·)),(ze3 a).2.flatMap fun x=>(ze3 b).2.map (x + ·)):=by
  have hn:zs7 (· + ·) (ze9 a) (ze9 b)=none:=hn
  conv=>lhs;unfold ze3
  rw[hn]
 unfold tot
 rw[e0]
 show _=((ze3 b).1++(ze3 a).1.flatMap (fun x=>(ze3 b).2.map (x + ·))).length+((ze3 a).2.flatMap fun x=>(ze3 b).2.map (x + ·)).length
 rw[List.length_append,zf0 _ (ze3 b).2.length (ze3 a).1 (fun _ _=>by rw[List.length_map]),zf0 _ (ze3 b).2.length (ze3 a).2 (fun _ _=>by rw[List.length_map])]
 rw[Nat.mul_one,Nat.mul_add,Nat.mul_comm (ze3 b).2.length,Nat.mul_comm (ze3 b).2.length,Nat.add_assoc]
theorem cnt_one(a:Nd)(m:Nat):cnt 1 [(a,m)]=tot a:=by show(ze3 a).1.length+(ze3 a).2.length*1=_;rw[Nat.mul_one];rfl
theorem zv9(f:Nat→Nat):∀(ks R:List Nat),ks.Nodup→(∀k∈ks,k∈R)→(ks.map f).sum≤(R.map f).sum
 |[],R,_,_=>Nat.zero_le _
 |k::ks,R,hn,h=>by
  obtain⟨l1,l2,e⟩:=List.append_of_mem (h k List.mem_cons_self)
  rw[List.nodup_cons] at hn
  have ih:=zv9 f ks (l1++l2) hn.2 fun x hx=>by
   have:=h x (List.mem_cons_of_mem _ hx)
   rw[e] at this
   rcases List.mem_append.mp this with z|z
   ·exact List.mem_append_left _ z
   ·rcases List.mem_cons.mp z with rfl|z
    ·exact absurd hx hn.1
    ·exact List.mem_append_right _ z
  rw[e]
  simp only[List.map_append,List.map_cons,List.sum_append,List.sum_cons] at ih ⊢
  omega
theorem rel_len{α β:Type}(Rl:α→β→Prop)(inj:∀a a' b,Rl a b→Rl a' b→a=a'):∀(ks:List α) (U:List β),ks.Nodup→(∀k∈ks,∃u∈U,Rl k u)→ks.length≤U.length
 |[],U,_,_=>Nat.zero_le _
 |k::ks,U,hn,h=>by
  obtain⟨u,hu,hr⟩:=h k List.mem_cons_self
  obtain⟨l1,l2,e⟩:=List.append_of_mem hu
  rw[List.nodup_cons] at hn
  have ih:=rel_len Rl inj ks (l1++l2) hn.2 fun x hx=>by
   obtain⟨v,hv,hrv⟩:=h x (List.mem_cons_of_mem _ hx)
   rw[e] at hv
   rcases List.mem_append.mp hv with z|z
   ·exact⟨v,List.mem_append_left _ z,hrv⟩
   ·rcases List.mem_cons.mp z with rfl|z
    ·exact absurd (inj _ _ _ hrv hr▸hx) hn.1
    ·exact⟨v,List.mem_append_right _ z,hrv⟩
  rw[e]
  simp only[List.length_append,List.length_cons] at ih ⊢
  omega
theorem zq8{ks R:List Nat}(hn:ks.Nodup)(h:∀k∈ks,k∈R):ks.length≤R.length:=rel_len (fun a b=>a=b) (fun a a' b h1 h2=>h1.trans h2.symm) ks R hn fun k hk=>⟨k,h k hk,rfl⟩
theorem sub_sum{α:Type}(f:α→Nat){l l':List α}(h:l.Sublist l'):(l.map f).sum≤(l'.map f).sum:=by
 induction h with
 |slnil=>exact Nat.le_refl _
 |cons a _ ih=>simp only[List.map_cons,List.sum_cons];omega
 |cons_cons a _ ih=>simp only[List.map_cons,List.sum_cons];omega
theorem EndsOk.len{w:Nat}{q:Sq}{c:Nat}{E:Es}(h:EndsOk w q c E):E.length≤cnt 1 q:=by
 have:=zq8 h.nodup (R:=esl [c] q) fun k hk=>by obtain⟨x,hx,rfl⟩:=List.mem_map.mp hk;exact h.ends x hx
 rw[List.length_map,esl_len] at this
 exact this
theorem es_behind{w:Nat}{q:Sq}{c:Nat}{B:Es}{b:Nd}{m:Nat}(h:EndsOk w q c B){y:Nat×Nat}(hy:y∈B){Ey:Es}(hE:EndsOk w [(b,m)] y.1 Ey){z:Nat×Nat}(hz:z∈Ey):z.1∈esl [c] (q++[(b,m)]):=by
 rw[esl_snoc]
 have h1:=h.ends y hy
 have h2:z.1∈zj5 [y.1] (b,m):=hE.ends z hz
 rcases mem_esStep.mp h2 with⟨e,he,e2⟩|⟨e,he,d,hd,e2⟩
 ·exact mem_esStep.mpr (.inl ⟨e,he,e2⟩)
 ·rw[List.mem_singleton.mp he] at e2
  exact mem_esStep.mpr (.inr ⟨y.1,h1,d,hd,e2⟩)
theorem EndsOk.behind'{w:Nat}{q:Sq}{c:Nat}{B D E:Es}{b:Nd}{m:Nat}(h:EndsOk w q c B)
  (hs:∀x∈D,∃y∈B,∃Ey,EndsOk w [(b,m)] y.1 Ey∧∃z∈Ey,x=(z.1,y.2+z.2)) (hc:∀y∈B,∃Ey,EndsOk w [(b,m)] y.1 Ey∧∀z∈Ey,∃x∈D,x.1=z.1∧x.2≤y.2+z.2) (u:Undom D E):EndsOk w (q++[(b,m)]) c E:=by
 refine⟨u.nodup,fun x hx=>?_,fun o ho=>?_,fun x hx=>?_⟩
 ·obtain⟨y,hy,Ey,hE,z,hz,rfl⟩:=hs x (u.sub x hx)
  obtain⟨s1,h1⟩:=h.sound y hy
  obtain⟨s2,h2⟩:=hE.sound z hz
  exact⟨s1++s2,by rw[yn4];exact mem_bindR.mpr ⟨_,h1,_,h2,rfl⟩⟩
 ·rw[yn4] at ho
  obtain⟨x,hx,y,hy,rfl⟩:=mem_bindR.mp ho
  obtain⟨x2,hx2,e1,e2⟩:=h.compl x hx
  rw[zh2] at hy
  obtain⟨y2,hy2,e3,e4⟩:=zm8 w b e1 (Nat.le_refl m) y hy
  obtain⟨Ey,hE,hcc⟩:=hc x2 hx2
  obtain⟨z,hz,e5,e6⟩:=hE.compl y2 (by rw[zh2];exact hy2)
  obtain⟨v,hv,e7,e8⟩:=hcc z hz
  obtain⟨v2,hv2,e9,e10⟩:=u.dom v hv
  refine⟨v2,hv2,?_,?_⟩
  ·show v2.1≤y.2.1;omega
  ·show v2.2≤x.2.2+y.2.2;omega
 ·obtain⟨y,hy,Ey,hE,z,hz,rfl⟩:=hs x (u.sub x hx)
  exact es_behind h hy hE (z:=z) hz
theorem NdAt.inj{T:List Raw}(hn:T.Nodup):∀ {a:Nd} {i j:Nat},NdAt T i a→NdAt T j a→i=j:=by
 have key:∀ {i j:Nat} {r:Raw},T[i]? = some r→T[j]? = some r→i=j:=fun {i j r} h1 h2=>by
  have:=(List.getElem?_eq_some_iff.mp h1).1
  exact(List.getElem?_inj this hn).mp (h1.trans h2.symm)
 intro a
 induction a with
 |text n=>intro i j h1 h2;exact key h1 h2
 |brk=>intro i j h1 h2;exact key h1 h2
 |nest k a ih=>
  rintro i j ⟨x,h1,h2⟩ ⟨y,h3,h4⟩
  rw[ih h2 h4] at h1
  exact key h1 h3
 |align a ih=>
  rintro i j ⟨x,h1,h2⟩ ⟨y,h3,h4⟩
  rw[ih h2 h4] at h1
  exact key h1 h3
 |beside a b ia ib=>
  rintro i j ⟨x,y,h1,h2,h3⟩ ⟨x',y',h4,h5,h6⟩
  rw[ia h2 h5,ib h3 h6] at h1
  exact key h1 h4
 |choice a b ia ib=>
  rintro i j ⟨x,y,h1,h2,h3⟩ ⟨x',y',h4,h5,h6⟩
  rw[ia h2 h5,ib h3 h6] at h1
  exact key h1 h4
end Pq
namespace Pq
open PySem L2
def sf(n kn:Addr)(w:Nat):List (Str×V):=[("nodes",V.ref n),("width",V.int ((w:Nat):Int)),("known",V.ref kn)]
theorem zn1(n kn:Addr)(w:Nat):(sf n kn w).lookup ("nodes":Str)=some (.ref n):=by simp[sf,List.lookup]
theorem sf_width(n kn:Addr)(w:Nat):(sf n kn w).lookup ("width":Str)=some (.int ((w:Nat):Int)):=by
 have h:(("width":Str)=="nodes")=false:=by decide +kernel
 simp[sf,List.lookup,h]
theorem zi3(n kn:Addr)(w:Nat):(sf n kn w).lookup ("known":Str)=some (.ref kn):=by
 have h:(("known":Str)=="nodes")=false:=by decide +kernel
 have h2:(("known":Str)=="width")=false:=by decide +kernel
 simp[sf,List.lookup,h,h2]
theorem zm3(n kn:Addr)(w:Nat){m:Str}(h1:(m==("nodes":Str))=false)(h2:(m==("width":Str))=false)(h3:(m==("known":Str))=false):(sf n kn w).lookup m=none:=by
 simp[sf,List.lookup,h1,h2,h3]
theorem nw_:¬(("nodes":Str)="width"):=by decide +kernel
theorem nk_:¬(("nodes":Str)="known"):=by decide +kernel
theorem wk_:¬(("width":Str)="known"):=by decide +kernel
theorem sf_init(n kn:Addr)(w:Nat):zr8 "known" (.ref kn) (zr8 "width" (.int ((w:Nat):Int)) (zr8 "nodes" (.ref n) []))=sf n kn w:=by
 show zr8 "known" (.ref kn) (zr8 "width" (.int ((w:Nat):Int)) [(("nodes":Str),V.ref n)])=_
 have e1:zr8 "width" (.int ((w:Nat):Int)) [(("nodes":Str),V.ref n)]=([("nodes",V.ref n),("width",V.int ((w:Nat):Int))]:List (Str×V)):=by
  show(if("nodes":Str)="width" then _ else _)=_
  rw[if_neg nw_]<;>rfl
 rw[e1]
 show(if("nodes":Str)="known" then _ else(("nodes":Str),V.ref n)::(if("width":Str)="known" then _ else(("width":Str),V.int ((w:Nat):Int))::zr8 "known" (.ref kn) []))=_
 rw[if_neg nk_,if_neg wk_]<;>rfl
structure Srs(K:PySem.W.Frag)(mg:Str→Option Value)(C:Addr):Prop where
 cl:Cls K C
 nNo:NoAttr K C "nodes"
 nWi:NoAttr K C "width"
 nKn:NoAttr K C "known"
 sb:∃t,mg "SIGN_BEYOND"=some (.int 1000000000000 t)
 min:mg "min"=none
 max:mg "max"=none
 rev:mg "reversed"=none
 dict:mg "dict"=none
structure Ent where
 i:Nat
 c:Nat
 m:Nat
 d:Addr
 o:Obj
 E:Es
def keyL(i c m:Nat):List Key:=[.inl ((i:Nat):Int),.inl ((c:Nat):Int),.inl ((m:Nat):Int)]
def zs4(e:Ent):List Key×V:=(keyL e.i e.c e.m,.ref e.d)
def EntAt(T:List Raw)(e:Ent)(x:Spn):Prop:=NdAt T e.i x.1∧e.c=x.2.1∧e.m=x.2.2
structure EntOk(H:Hp)(T:List Raw)(w:Nat)(U:List Spn)(e:Ent):Prop where
 at_:∃a,NdAt T e.i a∧(a,e.c,e.m)∈U∧EndsOk w [(a,e.m)] e.c e.E
 frz:H e.d=some (.frz e.o (.dK (zj2 e.E)))
 len:e.E.length≤64
def Kn(T:List Raw)(Ks:List Ent)(x:Spn):Prop:=∃e∈Ks,EntAt T e x
structure Gh where
 s:Addr
 n:Addr
 la:Addr
 na:Addr
 ga:Addr
 kn:Addr
 T:List Raw
 L:List (Option Nat)
 w:Nat
 U:List Spn
structure SrAt(CN C:Addr)(H:Hp)(g:Gh)(Ks:List Ent):Prop where
 ob:∃dx,H g.s=some (.ins C dx (sf g.n g.kn g.w))
 no:NodesAt CN H g.n g.la g.na g.ga g.T g.L
 kn:H g.kn=some (.dT (Ks.map zs4))
 nd:(Ks.map fun e=>(e.i,e.c,e.m)).Nodup
 ok:∀e∈Ks,EntOk H g.T g.w g.U e
 un:g.U.length≤1000000
 knna:g.kn≠g.na
theorem SrAt.mono{CN C:Addr}{H H':Hp}{g:Gh}{Ks:List Ent}(S:SrAt CN C H g Ks)(s:Same H H'):SrAt CN C H' g Ks:=by
 obtain⟨⟨dx,h1⟩,h2,h3,h4,h5,h6,h7⟩:=S
 exact⟨⟨dx,s _ _ h1⟩,h2.mono s,s _ _ h3,h4,fun e he=>⟨(h5 e he).at_,s _ _ (h5 e he).frz,(h5 e he).len⟩,h6,h7⟩
theorem SrAt.list{CN C:Addr}{H:Hp}{g:Gh}{Ks:List Ent}(S:SrAt CN C H g Ks){W:Addr}{xs:List V}(w:H W=some (.lst xs))(n1:W≠g.la)(n2:W≠g.ga)(ys:List V):SrAt CN C (upd H W (.lst ys)) g Ks:=by
 obtain⟨⟨dx,h1⟩,⟨⟨dxn,g1⟩,⟨as,g2,g3⟩,g4,g5,g6,g7⟩,h3,h4,h5,h6,h7⟩:=S
 have nn:∀ {b:Addr} {ob:HO},H b=some ob→b≠W→(upd H W (.lst ys)) b=some ob:=fun e h=>by rw[za9 h];exact e
 exact⟨⟨dx,nn h1 (ze5 h1 w (by intro z;cases z))⟩,⟨⟨dxn,nn g1 (ze5 g1 w (by intro z;cases z))⟩,⟨as,nn g2 n1.symm,g3.mono (zc6 w)⟩,nn g4 (ze5 g4 w (by intro z;cases z)),nn g5 n2.symm,g6,g7⟩,nn h3 (ze5 h3 w (by intro z;cases z)),h4,
  fun e he=>⟨(h5 e he).at_,nn (h5 e he).frz (ze5 (h5 e he).frz w (by intro z;cases z)),(h5 e he).len⟩,h6,h7⟩
theorem NodesAt.but{C:Addr}{H H':Hp}{p la na ga k:Addr}{T:List Raw}{L:List (Option Nat)}(N:NodesAt C H p la na ga T L)(b:But1 k H H')(hk:∃kvs,H k=some (.dT kvs))(n1:k≠na):NodesAt C H' p la na ga T L:=by
 obtain⟨⟨dx,h1⟩,⟨as,h2,h3⟩,h4,h5,h6,h7⟩:=N
 obtain⟨kvs,hk⟩:=hk
 have tp:Tups H H':=fun c xs e=>b _ _ e (ze5 e hk (by intro z;cases z))
 exact⟨⟨dx,b _ _ h1 (ze5 h1 hk (by intro z;cases z))⟩,⟨as,b _ _ h2 (ze5 h2 hk (by intro z;cases z)),h3.mono tp⟩,b _ _ h4 n1.symm,b _ _ h5 (ze5 h5 hk (by intro z;cases z)),h6,h7⟩
theorem zx7{k:Addr}{H H':Hp}{kvs:List (List Key×V)}(b:But1 k H H')(hk:H k=some (.dT kvs)):Tups H H':=fun c xs e=>b _ _ e (ze5 e hk (by intro z;cases z))
theorem ent_rel{CN C:Addr}{H:Hp}{g:Gh}{Ks:List Ent}(S:SrAt CN C H g Ks):Ks.length≤g.U.length:=by
 have:=rel_len (fun(k:Nat×Nat×Nat) (u:Spn)=>NdAt g.T k.1 u.1∧k.2.1=u.2.1∧k.2.2=u.2.2) (fun a a' b h1 h2=>by
  obtain⟨x1,x2,x3⟩:=a
  obtain⟨y1,y2,y3⟩:=a'
  have e1:x1=y1:=NdAt.inj S.no.wf.nodup h1.1 h2.1
  have e2:x2=y2:=h1.2.1.trans h2.2.1.symm
  have e3:x3=y3:=h1.2.2.trans h2.2.2.symm
  rw[e1,e2,e3]) (Ks.map fun e=>(e.i,e.c,e.m)) g.U S.nd fun k hk=>by
   obtain⟨e,he,rfl⟩:=List.mem_map.mp hk
   obtain⟨a,h1,h2,_⟩:=(S.ok e he).at_
   exact⟨_,h2,h1,rfl,rfl⟩
 rwa [List.length_map] at this
theorem keyL_inj{i c m i' c' m':Nat}(h:keyL i c m=keyL i' c' m'):i=i'∧c=c'∧m=m':=by
 unfold keyL at h
 simp only[List.cons.injEq,Sum.inl.injEq,and_true] at h
 omega
theorem val_ent{Ks:List Ent}(hn:(Ks.map fun e=>(e.i,e.c,e.m)).Nodup){e:Ent}(he:e∈Ks):ya6 (Ks.map zs4) (keyL e.i e.c e.m)=some (.ref e.d):=by
 induction Ks with
 |nil=>cases he
 |cons x Ks ih=>
  rw[List.map_cons,List.nodup_cons] at hn
  rw[List.map_cons]
  rcases List.mem_cons.mp he with rfl|he
  ·exact zv7 (p:=zs4 e) rfl
  ·rw[zp4 (p:=zs4 x) (fun z=>by
    obtain⟨h1,h2,h3⟩:=keyL_inj z
    exact hn.1 (List.mem_map.mpr ⟨e,he,by rw[h1,h2,h3]⟩))]
   exact ih hn.2 he
theorem val_no{Ks:List Ent}{i c m:Nat}(h:∀e∈Ks,¬(e.i=i∧e.c=c∧e.m=m)):ya6 (Ks.map zs4) (keyL i c m)=none:=by
 induction Ks with
 |nil=>rfl
 |cons x Ks ih=>
  rw[List.map_cons,zp4 (p:=zs4 x) (fun z=>h x List.mem_cons_self (keyL_inj z))]
  exact ih fun e he=>h e (List.mem_cons_of_mem _ he)
theorem val_spot{CN C:Addr}{H:Hp}{g:Gh}{Ks:List Ent}(S:SrAt CN C H g Ks){i c m:Nat}{a:Nd}(hi:NdAt g.T i a):
  (∃e∈Ks,EntAt g.T e (a,c,m)∧ya6 (Ks.map zs4) (keyL i c m)=some (.ref e.d))∨(¬Kn g.T Ks (a,c,m)∧ya6 (Ks.map zs4) (keyL i c m)=none):=by
 by_cases h:Kn g.T Ks (a,c,m)
 ·obtain⟨e,he,h1,h2,h3⟩:=h
  have e1:e.i=i:=NdAt.inj S.no.wf.nodup h1 hi
  refine .inl ⟨e,he,⟨h1,h2,h3⟩,?_⟩
  have:=val_ent S.nd he
  rw[e1,show e.c=c from h2,show e.m=m from h3] at this
  exact this
 ·exact .inr ⟨h,val_no fun e he ⟨z1,z2,z3⟩=>h ⟨e,he,by rw[z1];exact hi,z2,z3⟩⟩
theorem ent_one{CN C:Addr}{H:Hp}{g:Gh}{Ks:List Ent}(S:SrAt CN C H g Ks){e e':Ent}{x:Spn}(he:e∈Ks)(he':e'∈Ks)(h:EntAt g.T e x)(h':EntAt g.T e' x):e=e':=by
 have h1:e.i=e'.i:=NdAt.inj S.no.wf.nodup h.1 h'.1
 have h2:e.c=e'.c:=h.2.1.trans h'.2.1.symm
 have h3:e.m=e'.m:=h.2.2.trans h'.2.2.symm
 have key:∀ {Ks:List Ent},(Ks.map fun e=>(e.i,e.c,e.m)).Nodup→e∈Ks→e'∈Ks→e=e':=by
  intro Ks
  induction Ks with
  |nil=>intro _ z;cases z
  |cons x Ks ih=>
   intro hn z1 z2
   rw[List.map_cons,List.nodup_cons] at hn
   rcases List.mem_cons.mp z1 with y1|y1
   ·rcases List.mem_cons.mp z2 with y2|y2
    ·rw[y1,y2]
    ·exact absurd (List.mem_map.mpr ⟨e',y2,by rw[←y1,h1,h2,h3]⟩) hn.1
   ·rcases List.mem_cons.mp z2 with y2|y2
    ·exact absurd (List.mem_map.mpr ⟨e,y1,by rw[←y2,h1,h2,h3]⟩) hn.1
    ·exact ih hn.2 y1 y2
 exact key S.nd he he'
def SpotAt(H:Hp)(T:List Raw)(t:Addr)(x:Spn):Prop:=∃i:Nat,H t=some (.tup [.int ((i:Nat):Int),.int ((x.2.1:Nat):Int),.int ((x.2.2:Nat):Int)])∧NdAt T i x.1
theorem SpotAt.mono{H H':Hp}{T:List Raw}(h:Tups H H'){t:Addr}{x:Spn}:SpotAt H T t x→SpotAt H' T t x:=fun⟨i,e,q⟩=>⟨i,h _ _ e,q⟩
def yd0(C:Addr):Sp:=fun vs H Q _=>∃(s n kn dx:Addr) (w c l:Nat),vs=[.ref s,.int (c:Nat),.int (l:Nat)]∧H s=some (.ins C dx (sf n kn w))∧Q (.int ((SB*ov w c l:Nat):Int)) H
def ym0(C:Addr):Sp:=fun vs H Q _=>∃(s n kn dx:Addr) (w m:Nat),vs=[.ref s,.int (m:Nat)]∧H s=some (.ins C dx (sf n kn w))∧Q (.int ((1+SB*ov w 0 m:Nat):Int)) H
def yi1(CN C:Addr):Sp:=fun vs H Q _=>∃(s n la na ga kn dx:Addr) (T:List Raw) (L:List (Option Nat)) (w i c m:Nat) (a:Nd),vs=[.ref s,.int (i:Nat),.int (c:Nat),.int (m:Nat)]∧H s=some (.ins C dx (sf n kn w))∧NodesAt CN H n la na ga T L∧NdAt T i a∧
 ∀(t:Addr) (H':Hp),Same H H'→H t=none→SpotAt H' T t (zc8 a c m)→Q (.ref t) H'
section
variable {P:Program}{w:World}{K:PySem.W.Frag}{mg:Str→Option Value}{base:Heap}{f g:Addr}{fd gd:FuncData}{CN C:Addr}
theorem scSig:FnScope ["self","column","length"] ["self","column","length"] (za7 zs8):=⟨rfl,rfl,rfl,by decide +kernel,rfl,by decide +kernel,by decide +kernel⟩
theorem ok_seSigns(F:Fun K "cost_of_signs" "Search.cost_of_signs" zs8 f fd)(T:Srs K mg C):FnOk P w K mg base CX0 1 f fd ["self","column","length"] (yd0 C):=by
 refine F.okq scSig (fun vs H Q E h=>?_) (fun cdv A outer s H vs Q E hr h=>?_)
 ·obtain⟨s,n,kn,dx,w,c,l,rfl,_⟩:=h
  rfl
 obtain⟨o,n,kn,dx,wd,c,l,rfl,ho,q⟩:=h
 obtain⟨tk,mS⟩:=T.sb
 refine⟨_,za6 (zb4 (zc4 yj6 (zq1 rfl mS (v:=.int 1000000000000) ⟨_,rfl⟩) (zd9 (call_min2 rfl) rfl T.min (by decide +kernel) (za2 (pvq 2) (ze4 (zd9 (call_max2 rfl) rfl T.max (by decide +kernel) (zb0 za5 (zk2 (zc4 yj5 (zc4 zk6 (pvq 1) (pvq 2)) (zd3 (pvq 0) rfl)) za3))) za3))))),?_⟩
 refine⟨_,rfl,_,rfl,_,rfl,_,_,rfl,rfl,_,rfl,o,C,dx,_,_,rfl,ho,T.cl,T.nWi,sf_width _ _ _,_,_,rfl,rfl,_,_,rfl,_,_,rfl,_,_,rfl,rfl,.inl ⟨by decide,by decide⟩,?_⟩
 have e:(1000000000000:Int)*(if(if((c:Nat):Int)+((l:Nat):Int) - ((wd:Nat):Int) > 0 then((c:Nat):Int)+((l:Nat):Int) - ((wd:Nat):Int) else 0)<((l:Nat):Int) then(if((c:Nat):Int)+((l:Nat):Int) - ((wd:Nat):Int) > 0 then((c:Nat):Int)+((l:Nat):Int) - ((wd:Nat):Int) else 0) else((l:Nat):Int))=((SB*ov wd c l:Nat):Int):=by
  rw[Int.natCast_mul]
  show 1000000000000*_=1000000000000*_
  congr 1
  unfold ov
  split<;>(try split)<;>omega
 show Q (.int (1000000000000*_)) H
 rw[e]
 exact q
theorem scBrk:FnScope ["self","margin"] ["self","margin"] (za7 zt1):=⟨rfl,rfl,rfl,by decide +kernel,rfl,by decide +kernel,by decide +kernel⟩
theorem ok_seBreak{fS:Addr}{sD:FuncData}(F:Fun K "cost_of_break" "Search.cost_of_break" zt1 f fd)(T:Srs K mg C)(SG:MO P w K mg base C CX0 1 fS sD "cost_of_signs" ["self","column","length"] (yd0 C)):FnOk P w K mg base CX0 2 f fd ["self","margin"] (ym0 C):=by
 refine F.okq scBrk (fun vs H Q E h=>?_) (fun cdv A outer s H vs Q E hr h=>?_)
 ·obtain⟨s,n,kn,dx,w,m,rfl,_⟩:=h
  rfl
 obtain⟨o,n,kn,dx,wd,m,rfl,ho,q⟩:=h
 refine⟨_,za6 (zb4 (zc4 zk6 za5 (zc2 (pvq 0) T.cl SG.m SG.ok hr SG.b .nil zc7 (zb0 za5 (za2 (pvq 1) za3))))),?_⟩
 refine⟨_,rfl,o,dx,_,rfl,ho,zm3 _ _ _ (by decide +kernel) (by decide +kernel) (by decide +kernel),_,rfl,o,n,kn,dx,wd,0,m,rfl,ho,_,_,rfl,rfl,?_⟩
 have e:(1:Int)+((SB*ov wd 0 m:Nat):Int)=((1+SB*ov wd 0 m:Nat):Int):=by omega
 show Q (.int ((1:Int)+_)) H
 rw[e]
 exact q
theorem scSpot:FnScope ["self","number","column","margin","node"] ["self","number","column","margin"] (za7 zy2):=⟨rfl,rfl,rfl,by decide +kernel,rfl,by decide +kernel,by decide +kernel⟩
theorem zt5{T:List Raw}{i:Nat}{a:Nd}(h:NdAt T i a):∃r,T[i]? = some r∧∃hd tl,zd6 r=.inr hd::tl∧inV (.str hd) [.str "nest",.str "align"] = !zr0 a:=by
 cases a with
 |text n=>exact⟨_,h,_,_,rfl,by show inV (.str "text") [.str "nest",.str "align"]=false;decide +kernel⟩
 |brk=>exact⟨_,h,_,_,rfl,by show inV (.str "break") [.str "nest",.str "align"]=false;decide +kernel⟩
 |nest k a=>obtain⟨j,e,_⟩:=h;exact⟨_,e,_,_,rfl,by show inV (.str "nest") [.str "nest",.str "align"]=true;decide +kernel⟩
 |align a=>obtain⟨j,e,_⟩:=h;exact⟨_,e,_,_,rfl,by show inV (.str "align") [.str "nest",.str "align"]=true;decide +kernel⟩
 |beside a b=>obtain⟨j,k,e,_⟩:=h;exact⟨_,e,_,_,rfl,by show inV (.str "beside") [.str "nest",.str "align"]=false;decide +kernel⟩
 |choice a b=>obtain⟨j,k,e,_⟩:=h;exact⟨_,e,_,_,rfl,by show inV (.str "choice") [.str "nest",.str "align"]=false;decide +kernel⟩
def ye4:Nd→Nat
 |.nest _ a=>ye4 a+1
 |.align a=>ye4 a+1
 |_=>0
theorem ye3{CN:Addr}{H:Hp}{p la na ga:Addr}{T:List Raw}{L:List (Option Nat)}(N:NodesAt CN H p la na ga T L){i:Nat}{r:Raw}(h:T[i]? = some r):∃(as:List Addr) (t:Addr),H la=some (.lst (as.map V.ref))∧atI (as.map V.ref) ((i:Nat):Int)=some (.ref t)∧RawAt H t r:=by
 obtain⟨as,h1,h2⟩:=N.li
 obtain⟨t,h3,h4⟩:=h2.get h
 exact⟨as,t,h1,zh0 (by rw[List.getElem?_map,h3];rfl),h4⟩
theorem ok_seSpot(F:Fun K "spot_of" "Search.spot_of" zy2 f fd)(T:Srs K mg C)(TN:Nds K mg CN):FnOk P w K mg base CX0 1 f fd ["self","number","column","margin"] (yi1 CN C):=by
 refine F.okq scSpot (fun vs H Q E h=>?_) (fun cdv A outer s H vs Q E hr h=>?_)
 ·obtain⟨s,n,la,na,ga,kn,dx,T,L,w,i,c,m,a,rfl,_⟩:=h
  rfl
 obtain⟨o,n,la,na,ga,kn,dx,Tb,L,wd,i,c,m,a,rfl,ho,N,hi,q⟩:=h
 have nd:=scSpot.nd
 refine⟨_,za1 (zb2 (i:=4) nd rfl (Or.inl rfl) (zb1 zf8 (zd3 (zd3 (pvq 0) rfl) rfl) (pvq 1) (fun _ _=>rfl)))<|
  za1 (zl5 PassesOwn.never (zb6 zs1 (zb1 zb3 (pvq 4) za5 (fun _ _=>rfl)) (zc5 (zb0 zb5 (zb0 zb5 za3))) rfl) (
   za1 (zb2 (i:=3) nd rfl (Or.inl rfl) (zk1 (zb6 zh1 (zb1 zb3 (pvq 4) za5 (fun _ _=>rfl)) zb5 (zd7 _)) (zc4 zk6 (pvq 3) (zb1 zb3 (pvq 4) za5 (fun _ _=>rfl))) (pvq 2)))<|
   za1 (zb2 (i:=1) nd rfl (Or.inl rfl) (zb1 zb3 (pvq 4) (yd8 yc6 za5) (fun _ _=>rfl)))<|
   za6 (zb2 (i:=4) nd rfl (Or.inl rfl) (zb1 zf8 (zd3 (zd3 (pvq 0) rfl) rfl) (pvq 1) (fun _ _=>rfl)))))<|
  za6 (zb4 (zc5 (za2 (pvq 1) (za2 (pvq 2) (za2 (pvq 3) za3))))),?_⟩
 obtain⟨r,hr0,_⟩:=zt5 hi
 obtain⟨as,t0,hla,hat,htr⟩:=ye3 N hr0
 obtain⟨dxn,hn⟩:=N.ob
 refine⟨_,rfl,o,C,dx,_,_,rfl,ho,T.cl,T.nNo,zn1 _ _ _,n,CN,dxn,_,_,rfl,hn,TN.cl,TN.nLi,zl6 _ _ _,_,rfl,la,_,_,_,rfl,rfl,SqL.of hla,hat,?_⟩
 refine⟨fun z σ H'=>∃(i' m':Nat) (a':Nd) (t:Addr) (r:Raw),σ=[some (.ref o),some (.int (i':Nat)),some (.int (c:Nat)),some (.int (m':Nat)),some (.ref t)]∧Same H H'∧NdAt Tb i' a'∧ze6 a' c m'=ze6 a c m∧Tb[i']? = some r∧RawAt H' t r∧z=ye4 a',
  ⟨_,i,m,a,t0,r,rfl,Same.refl H,hi,rfl,hr0,htr,rfl⟩,?_⟩
 rintro z σ H' ⟨i',m',a',t,r',rfl,s1,hi',es,hr',ht',rfl⟩
 obtain⟨r2,hr2,hd,tl,ek,ein⟩:=zt5 hi'
 rw[hr'] at hr2
 cases hr2
 have htu:H' t=some (.tup (.str hd::tl.map kV)):=by have:=ht';unfold RawAt at this;rw[ek] at this;exact this
 refine⟨_,rfl,t,_,_,.str hd,rfl,rfl,SqT.of htu,(by show atI (V.str hd::tl.map kV) ((0:Nat):Int)=_;exact zh0 rfl),(by show 2≤sizeLine;decide),fun t2 ht2=>⟨t2,_,rfl,.inr (SqT.of za0),rfl,rfl,_,rfl,?_⟩⟩
 show if inV (.str hd) [.str "nest",.str "align"]=true then _ else _
 rw[ein]
 have s2:=s1.trans (za4 ht2 (.tup [.str "nest",.str "align"]))
 have s12:=za4 ht2 (.tup [.str "nest",.str "align"])
 have ht3:=s12 _ _ ht'
 generalize upd H' t2 (.tup [.str "nest",.str "align"])=H2 at s2 s12 ht3
 have N2:=N.mono s2
 obtain⟨dxn2,hn2⟩:=N2.ob
 have ho2:=s2 _ _ ho
 have nxt:∀(j:Nat) (b:Nd) (m2:Nat),NdAt Tb j b→ze6 b c m2=ze6 a c m→ye4 b<ye4 a'→∃(Nn:St→Hp→Prop),(∀σ' H',Nn σ' H'→∃m',m'<ye4 a'∧∃(i' m'':Nat) (a':Nd) (t:Addr) (r:Raw),σ'=[some (.ref o),some (.int (i':Nat)),some (.int (c:Nat)),some (.int (m'':Nat)),some (.ref t)]∧Same H H'∧NdAt Tb i' a'∧ze6 a' c m''=ze6 a c m∧Tb[i']? = some r∧RawAt H' t r∧m'=ye4 a')∧∃(as:List Addr) (t3:Addr),H2 la=some (.lst (as.map V.ref))∧atI (as.map V.ref) ((j:Nat):Int)=some (.ref t3)∧Nn [some (.ref o),some (.int (j:Nat)),some (.int (c:Nat)),some (.int (m2:Nat)),some (.ref t3)] H2:=fun j b m2 hj es2 hlt=>by
  obtain⟨rj,hrj,_⟩:=zt5 hj
  obtain⟨as2,t3,hla2,hat2,ht4⟩:=ye3 N2 hrj
  exact⟨fun σ' H'=>∃m',m'<ye4 a'∧∃(i' m'':Nat) (a':Nd) (t:Addr) (r:Raw),σ'=[some (.ref o),some (.int (i':Nat)),some (.int (c:Nat)),some (.int (m'':Nat)),some (.ref t)]∧Same H H'∧NdAt Tb i' a'∧ze6 a' c m''=ze6 a c m∧Tb[i']? = some r∧RawAt H' t r∧m'=ye4 a',fun _ _ z=>z,as2,t3,hla2,hat2,_,hlt,j,m2,b,t3,rj,rfl,s2,hj,es2,hrj,ht4,rfl⟩
 have fin:zr0 a'=true→∀t5,H2 t5=none→Q (.ref t5) (upd H2 t5 (.tup [.int (i':Nat),.int (c:Nat),.int (m':Nat)])):=fun hc t5 ht5=>by
  refine q t5 _ (s2.trans (za4 ht5 _)) (s2.free ht5) ⟨i',?_,?_⟩
  ·rw[za0]
   show _=some (HO.tup [_,.int ((c:Nat):Int),.int (((ze6 a c m).2:Nat):Int)])
   rw[←es,ye5 hc]
  ·show NdAt Tb i' (ze6 a c m).1
   rw[←es,ye5 hc];exact hi'
 cases a' with
 |nest k b=>
  obtain⟨j,e,hj⟩:=hi'
  rw[hr'] at e
  cases e
  obtain⟨Nn,hN,as2,t3,h1,h2,h3⟩:=nxt j b (m'+k) hj es (by simp only[ye4];omega)
  refine zu0 ⟨Nn,hN,?_⟩
  refine⟨_,rfl,t,_,_,.str "nest",rfl,rfl,SqT.of ht3,rfl,rfl,_,rfl,zd1 (by decide +kernel) ⟨_,rfl,_,rfl,t,_,_,.int (k:Nat),rfl,rfl,SqT.of ht3,rfl,_,_,rfl,rfl,?_⟩⟩
  refine⟨_,rfl,_,rfl,t,_,_,.int (j:Nat),rfl,rfl,SqT.of ht3,rfl,?_⟩
  refine⟨_,rfl,o,C,dx,_,_,rfl,ho2,T.cl,T.nNo,zn1 _ _ _,n,CN,dxn2,_,_,rfl,hn2,TN.cl,TN.nLi,zl6 _ _ _,_,rfl,la,_,_,_,rfl,rfl,SqL.of h1,h2,?_⟩
  have e:((m':Nat):Int)+((k:Nat):Int)=((m'+k:Nat):Int):=by omega
  show Nn [_,_,_,some (V.int (((m':Nat):Int)+((k:Nat):Int))),_] H2
  rw[e]
  exact h3
 |align b=>
  obtain⟨j,e,hj⟩:=hi'
  rw[hr'] at e
  cases e
  obtain⟨Nn,hN,as2,t3,h1,h2,h3⟩:=nxt j b c hj es (by simp only[ye4];omega)
  refine zu0 ⟨Nn,hN,?_⟩
  refine⟨_,rfl,t,_,_,.str "align",rfl,rfl,SqT.of ht3,rfl,rfl,_,rfl,zc3 (by decide +kernel) ⟨_,rfl,?_⟩⟩
  refine⟨_,rfl,_,rfl,t,_,_,.int (j:Nat),rfl,rfl,SqT.of ht3,rfl,?_⟩
  exact⟨_,rfl,o,C,dx,_,_,rfl,ho2,T.cl,T.nNo,zn1 _ _ _,n,CN,dxn2,_,_,rfl,hn2,TN.cl,TN.nLi,zl6 _ _ _,_,rfl,la,_,_,_,rfl,rfl,SqL.of h1,h2,h3⟩
 |text _=>exact yb2 ⟨_,rfl,_,rfl,_,rfl,(by show 3≤sizeLine;decide),fin rfl⟩
 |brk=>exact yb2 ⟨_,rfl,_,rfl,_,rfl,(by show 3≤sizeLine;decide),fin rfl⟩
 |beside _ _=>exact yb2 ⟨_,rfl,_,rfl,_,rfl,(by show 3≤sizeLine;decide),fin rfl⟩
 |choice _ _=>exact yb2 ⟨_,rfl,_,rfl,_,rfl,(by show 3≤sizeLine;decide),fin rfl⟩
end
end Pq
namespace Pq
open PySem L2
def yi2(CN C:Addr)(lvl:Bool):Sp:=fun vs H Q _=>∃(g:Gh) (Ks:List Ent) (i c m:Nat) (a:Nd),vs=[.ref g.s,.int (i:Nat),.int (c:Nat),.int (m:Nat)]∧SrAt CN C H g Ks∧NdAt g.T i a∧SmN a∧(∀x∈zi7 g.w a c m,x∈g.U)∧cw g.w a c m≤1000000∧(lvl=true→Kn g.T Ks (zc8 a c m))∧
 ∀(d:Addr) (o:Obj) (E:Es) (Ks':List Ent) (H':Hp),SrAt CN C H' g Ks'→(∀e∈Ks,e∈Ks')→But1 g.kn H H'→H' d=some (.frz o (.dK (zj2 E)))→EndsOk g.w [(a,m)] c E→E.length≤64→(lvl=true→Ks'=Ks∧Same H H'∧∀e∈Ks,EntAt g.T e (zc8 a c m)→E=e.E)→Q (.ref d) H'
def zw1(CN C:Addr)(lvl:Bool):Sp:=fun vs H Q _=>∃(g:Gh) (Ks:List Ent) (b:Addr) (o:Obj) (B:Es) (q:Sq) (c i m:Nat) (a:Nd),vs=[.ref g.s,.ref b,.int (i:Nat),.int (m:Nat)]∧SrAt CN C H g Ks∧H b=some (.frz o (.dK (zj2 B)))∧EndsOk g.w q c B∧B.length≤64∧NdAt g.T i a∧SmN a∧cnt 1 (q++[(a,m)])≤63∧
 (∀y∈B,(∀x∈zi7 g.w a y.1 m,x∈g.U)∧cw g.w a y.1 m≤1000000∧(lvl=true→Kn g.T Ks (zc8 a y.1 m)))∧
 ∀(d:Addr) (E:Es) (Ks':List Ent) (H':Hp),SrAt CN C H' g Ks'→(∀e∈Ks,e∈Ks')→But1 g.kn H H'→H d=none→H' d=some (.dK (zj2 E))→EndsOk g.w (q++[(a,m)]) c E→E.length≤64→(lvl=true→Ks'=Ks∧Same H H')→Q (.ref d) H'
section
variable {P:Program}{w:World}{K:PySem.W.Frag}{mg:Str→Option Value}{base:Heap}{f:Addr}{fd:FuncData}{CN C:Addr}
abbrev psEn:List Str:=["self","number","column","margin"]
theorem scEn:FnScope ["self","number","column","margin","wanted","waiting","spot","missing"] psEn (za7 zp6):=⟨rfl,rfl,rfl,by decide +kernel,rfl,by decide +kernel,by decide +kernel⟩
theorem zx3{CN C:Addr}{H H':Hp}{g:Gh}{Ks:List Ent}(S:SrAt CN C H g Ks)(s:Same H H'){t:Addr}{x:Spn}(ht:SpotAt H' g.T t x):(∃e∈Ks,EntAt g.T e x∧DGet H' g.kn (.ref t) (some (.ref e.d)))∨(¬Kn g.T Ks x∧DGet H' g.kn (.ref t) none):=by
 obtain⟨i,h1,h2⟩:=ht
 have h3:=DGet.t (k:=keyL i x.2.1 x.2.2) (s _ _ S.kn) h1
 rcases val_spot S (c:=x.2.1) (m:=x.2.2) h2 with⟨e,he,ha,hv⟩|⟨hk,hv⟩
 ·rw[hv] at h3;exact .inl ⟨e,he,ha,h3⟩
 ·rw[hv] at h3;exact .inr ⟨hk,h3⟩
theorem ok_seEnds0{fS fM fW:Addr}{sD mD wD:FuncData}{spM spW:Sp}(F:Fun K "ends_of" "Search.ends_of" zp6 f fd)(T:Srs K mg C)(SP:MO P w K mg base C CX0 1 fS sD "spot_of" psEn (yi1 CN C))
  (MM:MO P w K mg base C CX0 1 fM mD "missing_for" ["self","spot"] spM) (WO:MO P w K mg base C CX0 1 fW wD "worked_out" ["self","spot"] spW):FnOk P w K mg base CX0 2 f fd psEn (yi2 CN C true):=by
 refine F.okq scEn (fun vs H Q E h=>?_) (fun cdv A outer s H vs Q E hr h=>?_)
 ·obtain⟨g,Ks,i,c,m,a,rfl,_⟩:=h
  rfl
 obtain⟨g,Ks,i,c,m,a,rfl,S,hi,hsm,hU,hcw,hk,q⟩:=h
 have nd:=scEn.nd
 have hu1:=hr.units
 have hu:(A.deeper (PyProof.Rows.envOfC "Search.ends_of" (za7 zp6) s.heap.objs.size f cdv)).units+1<cLine:=by omega
 refine⟨_,za1 (zb2 (i:=4) nd rfl (Or.inl rfl) (zc2 (pvq 0) T.cl SP.m SP.ok hr SP.b .nil zc7 (za2 (pvq 1) (za2 (pvq 2) (za2 (pvq 3) za3)))))<|
  za1 (zb2 (i:=5) nd rfl (Or.inl rfl) (zd4 (za2 (pvq 4) za3)))<|
  za1 (zl5 PassesOwn.never (zl4 (pvq 5) (fun _=>rfl)) (
   za1 (zb2 (i:=6) nd rfl (Or.inl rfl) (zb1 zf8 (pvq 5) (yd8 yc6 za5) (fun _ _=>rfl)))<|
   za1 (zb2 (i:=7) nd rfl (Or.inl rfl) (zk1 (zj9 (pc_dinq hu (pvq 6) (zd3 (pvq 0) rfl))) (zd4 za3) (zc2 (pvq 0) T.cl MM.m MM.ok hr MM.b .nil zc7 (za2 (pvq 6) za3))))<|
   za1 (zd0 (zl4 (pvq 7) (fun _=>rfl)) (za1 (ze1 (zh8 PySem.F.plainAttrs_list PySem.F.slot_list_extend PySem.F.type_list_extend zp1 (pvq 5) (za2 (pvq 7) za3))) (za6 zr9)) zb9)<|
   za1 (ze1 (zu6 PySem.F.plainAttrs_list PySem.F.slot_list_pop PySem.F.type_list_pop ye6 (pvq 5)))<|
   za6 (zd0 (zj9 (zo7 hu (pvq 6) (zd3 (pvq 0) rfl))) (za6 (zw5 hu (zd3 (pvq 0) rfl) (pvq 6) (ym7 (zc2 (pvq 0) T.cl WO.m WO.ok hr WO.b .nil zc7 (za2 (pvq 6) za3))) rfl)) zb9)))<|
  za6 (zb4 (zm4 hu (zd3 (pvq 0) rfl) (pvq 4) (fun _ _=>rfl))),?_⟩
 obtain⟨e0,he0,ha0⟩:=hk rfl
 obtain⟨dx,ho⟩:=S.ob
 refine⟨_,rfl,g.s,dx,_,rfl,ho,zm3 _ _ _ (by decide +kernel) (by decide +kernel) (by decide +kernel),_,rfl,_,rfl,_,rfl,g.s,g.n,g.la,g.na,g.ga,g.kn,dx,g.T,g.L,g.w,i,c,m,a,rfl,ho,S.no,hi,fun t H1 s1 n1 ht=>?_⟩
 refine⟨_,rfl,(by show 1≤sizeLine;decide),fun W hW=>?_⟩
 have s2:=za4 hW (.lst [.ref t])
 have nW:H W=none:=s1.free hW
 refine⟨fun z σ H'=>∃(v6 v7:Option V) (ts:List V),σ=[some (.ref g.s),some (.int (i:Nat)),some (.int (c:Nat)),some (.int (m:Nat)),some (.ref t),some (.ref W),v6,v7]∧((z=1∧ts=[.ref t])∨(z=0∧ts=[]))∧H' W=some (.lst ts)∧Same H H'∧SpotAt H' g.T t (zc8 a c m),
  ⟨1,_,_,_,rfl,.inl ⟨rfl,rfl⟩,za0,s1.trans s2,ht.mono (.of s2)⟩,?_⟩
 rintro z σ H' ⟨v6,v7,ts,rfl,hz,hw,s3,ht3⟩
 have getk:∀H4,Same H H4→SpotAt H4 g.T t (zc8 a c m)→DGet H4 g.kn (.ref t) (some (.ref e0.d)):=fun H4 s4 ht4=>by
  rcases zx3 S s4 ht4 with⟨e,he,ha,hg⟩|⟨hn,_⟩
  ·have:=ent_one S he he0 ha ha0
   rw[this] at hg;exact hg
  ·exact absurd ⟨e0,he0,ha0⟩ hn
 refine⟨_,rfl,_,.inl ⟨_,SqL.of hw,rfl⟩,?_⟩
 rcases hz with⟨rfl,rfl⟩|⟨rfl,rfl⟩
 ·refine zd1 rfl ?_
  refine⟨fun σ' H''=>∃z',z'<1∧∃(v6 v7:Option V) (ts:List V),σ'=[some (.ref g.s),some (.int (i:Nat)),some (.int (c:Nat)),some (.int (m:Nat)),some (.ref t),some (.ref W),v6,v7]∧((z'=1∧ts=[.ref t])∨(z'=0∧ts=[]))∧H'' W=some (.lst ts)∧Same H H''∧SpotAt H'' g.T t (zc8 a c m),fun _ _ z=>z,?_⟩
  refine⟨_,rfl,_,rfl,W,_,_,.ref t,rfl,rfl,SqL.of hw,rfl,?_⟩
  refine⟨_,rfl,_,rfl,g.s,C,dx,_,_,rfl,s3 _ _ ho,T.cl,T.nKn,zi3 _ _ _,g.kn,_,rfl,getk _ s3 ht3,_,rfl,zu0 ⟨(by show 0≤sizeLine;decide),fun M hM=>?_⟩⟩
  have s4:=za4 hM (.lst [])
  refine⟨_,rfl,_,.inl ⟨_,SqL.of za0,rfl⟩,zc3 (by intro z;cases z) ?_⟩
  have hw4:=s4 _ _ hw
  have ho4:=(s3.trans s4) _ _ ho
  have ht4:=ht3.mono (.of s4)
  have s34:=s3.trans s4
  generalize upd H' M (.lst [])=H4 at s4 hw4 ho4 ht4 s34
  have nWs:W≠g.s:=fun z=>by rw[z,ho] at nW;cases nW
  refine⟨_,rfl,.inl ⟨rfl,_,SqL.of hw4⟩,W,_,_,rfl,rfl,hw4,rfl,?_⟩
  have s5:Same H (upd H4 W (.lst [])):=zj0 s34 nW _
  have ht5:SpotAt (upd H4 W (.lst [])) g.T t (zc8 a c m):=ht4.mono (zc6 hw4)
  refine⟨_,rfl,_,rfl,g.s,C,dx,_,_,rfl,s5 _ _ ho,T.cl,T.nKn,zi3 _ _ _,g.kn,_,rfl,getk _ s5 ht5,_,rfl,zc3 (by intro z;cases z) ?_⟩
  exact⟨0,by omega,_,_,[],rfl,.inr ⟨rfl,rfl⟩,za0,s5,ht5⟩
 ·refine zc3 (by intro z;cases z) ?_
  have ok0:=S.ok e0 he0
  obtain⟨a0,h1,h2,h3⟩:=ok0.at_
  have e1:a0=(ze6 a c m).1:=NdAt.one h1 ha0.1
  have e2:e0.c=c:=ha0.2.1
  have e3:e0.m=(ze6 a c m).2:=ha0.2.2
  rw[e1,e2,e3] at h3
  refine⟨_,rfl,g.s,C,dx,_,_,rfl,s3 _ _ ho,T.cl,T.nKn,zi3 _ _ _,_,rfl,g.kn,_,rfl,getk _ s3 ht3,?_⟩
  exact q e0.d e0.o e0.E Ks H' (S.mono s3) (fun e he=>he) (But1.of s3) (s3 _ _ ok0.frz) (zq7 a c m h3) ok0.len (fun _=>⟨rfl,s3,fun e he hx=>by rw[ent_one S he he0 hx ha0]⟩)
abbrev psBe:List Str:=["self","begins","number","margin"]
theorem scBe:FnScope ["self","begins","number","margin","ends","column"] psBe (za7 zm7):=⟨rfl,rfl,rfl,by decide +kernel,rfl,by decide +kernel,by decide +kernel⟩
structure BehI(CN C:Addr)(lvl:Bool)(H:Hp)(g:Gh)(Ks:List Ent)(B:Es)(q:Sq)(c m:Nat)(a:Nd)(p:Addr)(i:Nat)(H':Hp)(Ks':List Ent)(D:Es):Prop where
 at_:SrAt CN C H' g Ks'
 sub:∀e∈Ks,e∈Ks'
 but:But1 g.kn H H'
 ends:H' p=some (.dK (zj2 D))
 nodup:(D.map (·.1)).Nodup
 sound:∀x∈D,∃y∈B,∃Ey,EndsOk g.w [(a,m)] y.1 Ey∧∃z∈Ey,x=(z.1,y.2+z.2)
 compl:∀y∈B.take i,∃Ey,EndsOk g.w [(a,m)] y.1 Ey∧∀z∈Ey,∃x∈D,x.1=z.1∧x.2≤y.2+z.2
 same:lvl=true→Ks'=Ks∧Same H H'
theorem ye1{kE:Nat}{lvl:Bool}{fE fA fU:Addr}{eD aD uD:FuncData}(hk1:1≤kE)(F:Fun K "ends_behind" "Search.ends_behind" zm7 f fd)(T:Srs K mg C)(EN:MO P w K mg base C CX0 kE fE eD "ends_of" psEn (yi2 CN C lvl))
  (GA:FnOk P w K mg base CX0 1 fA aD ["ends","more","spent"] spAdd) (bA:Binds K aD ["ends","more","spent"] []) (kA:PySem.W.keepIn K (.ref fA)=true) (mA:mg "add_ends"=some (.ref fA))
  (GU:FnOk P w K mg base CX0 1 fU uD ["ends"] yl3) (bU:Binds K uD ["ends"] []) (kU:PySem.W.keepIn K (.ref fU)=true) (mU:mg "undominated"=some (.ref fU)):FnOk P w K mg base CX0 (kE+1) f fd psBe (zw1 CN C lvl):=by
 refine F.okq scBe (fun vs H Q E h=>?_) (fun cdv A outer s H vs Q E hr h=>?_)
 ·obtain⟨g,Ks,b,o,B,q,c,i,m,a,rfl,_⟩:=h
  rfl
 obtain⟨g,Ks,b,o,B,qs,c,i,m,a,rfl,S,hb,hB,hBl,hi,hsm,hc,hU,q⟩:=h
 have nd:=scBe.nd
 have hu1:=hr.units
 have hu:(A.deeper (PyProof.Rows.envOfC "Search.ends_behind" (za7 zm7) s.heap.objs.size f cdv)).units+1<cLine:=by omega
 refine⟨_,za1 (zb2 (i:=4) nd rfl (Or.inl rfl) pe_dnewKq)<|
  za1 (zp9 PassesOwn.never rfl (ym5 (pvq 1)) (zn8 (i:=5) nd rfl (Or.inl rfl)) (
   za6 (ze1 (zc0 GA (hr.mono hk1) rfl mA kA bA .nil zc7 (za2 (pvq 4) (ze4 (zc2 (pvq 0) T.cl EN.m EN.ok hr EN.b .nil zc7 (za2 (pvq 2) (za2 (pvq 5) (za2 (pvq 3) za3)))) (zb7 (zm4 hu (pvq 1) (pvq 5) (fun _ _=>rfl)) za3)))))))<|
  za6 (zb4 (zc0 GU (hr.mono hk1) rfl mU kU bU .nil zc7 (za2 (pvq 4) za3))),?_⟩
 intro p hp
 have s0:=za4 hp (.dK [])
 have hkn:=S.kn
 have nbp:b≠p:=za8 hb hp
 have nbk:b≠g.kn:=ze5 hb hkn (by intro z;cases z)
 have npk:p≠g.kn:=fun z=>by rw[z,hkn] at hp;cases hp
 have hb0:=s0 _ _ hb
 have few:∀D:Es,(D.map (·.1)).Nodup→(∀x∈D,∃y∈B,∃Ey,EndsOk g.w [(a,m)] y.1 Ey∧∃z∈Ey,x=(z.1,y.2+z.2))→D.length≤63:=fun D hn hs=>by
  have:=zq8 hn (R:=esl [c] (qs++[(a,m)])) fun k hk=>by
   obtain⟨x,hx,rfl⟩:=List.mem_map.mp hk
   obtain⟨y,hy,Ey,hE,z,hz,rfl⟩:=hs x hx
   exact es_behind hB hy hE (z:=z) hz
  rw[List.length_map,esl_len] at this
  exact Nat.le_trans this hc
 refine⟨_,rfl,b,o,_,rfl,hb0,for_dict (a:=b) (o:=o) (kvs:=zj2 B) (fun j σ H2=>∃(v5:Option V) (Ks':List Ent) (D:Es),σ=[some (.ref g.s),some (.ref b),some (.int (i:Nat)),some (.int (m:Nat)),some (.ref p),v5]∧BehI CN C lvl H g Ks B qs c m a p j H2 Ks' D)
  ⟨_,Ks,[],rfl,S.mono s0,fun e he=>he,But1.of s0,za0,by simp,fun x hx=>(by cases hx),fun y hy=>(by rw[List.take_zero] at hy;cases hy),fun _=>⟨rfl,s0⟩⟩ (fun j σ H2 _ ⟨_,_,_,_,I⟩=>I.but _ _ hb nbk) ?_ ?_⟩
 ·rintro j kv σ H2 hkv ⟨v5,Ks',D,rfl,I⟩
  obtain⟨cc,k,hck,rfl⟩:=enc_get hkv
  have hmem:=List.mem_of_getElem? hck
  obtain⟨u1,u2,u3⟩:=hU _ hmem
  obtain⟨dx,ho⟩:=I.at_.ob
  refine⟨_,rfl,_,rfl,g.s,dx,_,rfl,ho,zm3 _ _ _ (by decide +kernel) (by decide +kernel) (by decide +kernel),_,rfl,_,rfl,_,rfl,?_⟩
  refine⟨g,Ks',i,cc,m,a,rfl,I.at_,hi,hsm,u1,u2,fun hl=>by rw[(I.same hl).1];exact u3 hl,fun d od Ed Ks3 H3 S3 sub3 b3 hd3 hE3 hl3 sm3=>?_⟩
  have hb3:H3 b=some (.frz o (.dK (zj2 B))):=b3 _ _ (I.but _ _ hb nbk) nbk
  have hp3:H3 p=some (.dK (zj2 D)):=b3 _ _ I.ends npk
  have hv:ya6 (zj2 B) (.inl ((cc:Nat):Int))=some (V.int ((k:Nat):Int)):=by rw[yc5,eget_of hB.nodup hmem];rfl
  refine⟨_,rfl,_,rfl,b,_,rfl,by rw[←hv];exact .inl ⟨_,_,.inr ⟨o,hb3⟩,rfl,rfl⟩,?_⟩
  have fD:=few D I.nodup I.sound
  refine⟨p,d,od,D,Ed,k,rfl,hp3,hd3,I.nodup,hE3.nodup,by omega,fun D' H4 A4 hp4 b4=>?_⟩
  have b34:But1 p H3 H4:=b4
  have hkn3:=S3.kn
  have S4:SrAt CN C H4 g Ks3:=by
   obtain⟨⟨dx3,h1⟩,h2,h3,h4,h5,h6,h7⟩:=S3
   obtain⟨⟨dxn,g1⟩,⟨as,g2,g3⟩,g4,g5,g6,g7⟩:=h2
   have nn:∀ {x:Addr} {ob:HO},H3 x=some ob→(∀E,ob≠.dK E)→H4 x=some ob:=fun {x ob} e hne=>b34 _ _ e (fun z=>by rw[z,hp3] at e;exact hne _ (Option.some.inj e).symm)
   have tp:Tups H3 H4:=fun x xs e=>nn e (by intro E z;cases z)
   exact⟨⟨dx3,nn h1 (by intro E z;cases z)⟩,⟨⟨dxn,nn g1 (by intro E z;cases z)⟩,⟨as,nn g2 (by intro E z;cases z),g3.mono tp⟩,nn g4 (by intro E z;cases z),nn g5 (by intro E z;cases z),g6,g7⟩,nn h3 (by intro E z;cases z),h4,fun e he=>⟨(h5 e he).at_,nn (h5 e he).frz (by intro E z;cases z),(h5 e he).len⟩,h6,h7⟩
  refine⟨_,Ks3,D',rfl,S4,fun e he=>sub3 e (I.sub e he),fun x ob e hx=>b34 _ _ (b3 _ _ (I.but _ _ e hx) hx) (za8 e hp),hp4,A4.nodup,fun x hx=>?_,fun y hy=>?_,fun hl=>⟨(sm3 hl).1.trans (I.same hl).1,fun x ob e=>b34 _ _ ((sm3 hl).2.1 _ _ ((I.same hl).2 _ _ e)) (za8 e hp)⟩⟩
  ·rcases A4.sound x hx with z|⟨y,hy,e⟩
   ·exact I.sound x z
   ·exact⟨(cc,k),hmem,Ed,hE3,y,hy,e⟩
  ·rw[ze8 hck] at hy
   rcases List.mem_append.mp hy with z|z
   ·obtain⟨Ey,e1,e2⟩:=I.compl y z
    refine⟨Ey,e1,fun v hv=>?_⟩
    obtain⟨x,hx,e3,e4⟩:=e2 v hv
    obtain⟨x',hx',e5,e6⟩:=A4.old x hx
    exact⟨x',hx',e5.trans e3,Nat.le_trans e6 e4⟩
   ·rw[List.mem_singleton.mp z]
    exact⟨Ed,hE3,fun v hv=>A4.new v hv⟩
 ·rintro σ H2 ⟨v5,Ks',D,rfl,I⟩
  have hcl:=I.compl
  rw[yf9,List.take_length] at hcl
  have fD:=few D I.nodup I.sound
  refine⟨_,rfl,p,D,rfl,I.ends,I.nodup,by omega,fun p2 E2 H3 U3 l3 s3 n3 e3=>?_⟩
  exact q p2 E2 Ks' H3 (I.at_.mono s3) I.sub (fun x ob e hx=>s3 _ _ (I.but _ _ e hx)) (by
   cases z:H p2 with
   |none=>rfl
   |some ob=>
    by_cases hx:p2=g.kn
    ·have:=I.at_.kn
     rw[←hx,n3] at this;cases this
    ·have:=I.but _ _ z hx
     rw[n3] at this;cases this) e3 (hB.behind' I.sound hcl U3) l3 (fun hl=>⟨(I.same hl).1,(I.same hl).2.trans s3⟩)
end
end Pq
namespace Pq
open PySem L2
structure MissOf(T:List Raw)(Ks:List Ent)(need ms:List Spn):Prop where
 sub:ms.Sublist need
 no:∀x∈ms,¬Kn T Ks x
 all:∀x∈need,Kn T Ks x∨x∈ms
theorem MissOf.nil{T:List Raw}{Ks:List Ent}:MissOf T Ks [] []:=⟨List.Sublist.slnil,fun x hx=>(by cases hx),fun x hx=>(by cases hx)⟩
theorem MissOf.skip{T:List Raw}{Ks:List Ent}{need ms:List Spn}{x:Spn}(M:MissOf T Ks need ms)(h:Kn T Ks x):MissOf T Ks (need++[x]) ms:=
 ⟨M.sub.trans (List.sublist_append_left _ _),M.no,fun y hy=>by
  rcases List.mem_append.mp hy with z|z
  ·exact M.all y z
  ·rw[List.mem_singleton.mp z];exact .inl h⟩
theorem MissOf.add{T:List Raw}{Ks:List Ent}{need ms:List Spn}{x:Spn}(M:MissOf T Ks need ms)(h:¬Kn T Ks x):MissOf T Ks (need++[x]) (ms++[x]):=
 ⟨M.sub.append (List.Sublist.refl _),fun y hy=>by
  rcases List.mem_append.mp hy with z|z
  ·exact M.no y z
  ·rw[List.mem_singleton.mp z];exact h,fun y hy=>by
  rcases List.mem_append.mp hy with z|z
  ·rcases M.all y z with v|v
   ·exact .inl v
   ·exact .inr (List.mem_append_left _ v)
  ·exact .inr (List.mem_append_right _ z)⟩
def Miss(T:List Raw)(Ks:List Ent)(x:Spn)(ms:List Spn):Prop:=match x.1 with
 |.choice a b=>if(ze9 (.choice a b)).isSome=true then ms=[] else MissOf T Ks [zc8 a x.2.1 x.2.2,zc8 b x.2.1 x.2.2] ms
 |.beside a b=>if(ze9 (.beside a b)).isSome=true then ms=[] else(¬Kn T Ks (zc8 a x.2.1 x.2.2)∧MissOf T Ks [zc8 a x.2.1 x.2.2] ms)∨∃e∈Ks,EntAt T e (zc8 a x.2.1 x.2.2)∧MissOf T Ks (e.E.map fun y=>zc8 b y.1 x.2.2) ms
 |_=>ms=[]
theorem zl0{α β:Type}{R:α→β→Prop}{f:α→V}:∀ {as:List α} {bs:List β} {i:Nat} {v:V},Paired R as bs→(as.map f)[i]? = some v→∃a b,v=f a∧bs[i]? = some b∧R a b
 |_,_,_,_,.nil,e=>by simp at e
 |_,_,0,_,.cons r _,e=>by simp at e;subst e;exact⟨_,_,rfl,rfl,r⟩
 |_,_,i+1,v,.cons _ t,e=>by
  obtain⟨a,b,h1,h2,h3⟩:=zl0 (i:=i) (v:=v) t (by simpa using e)
  exact⟨a,b,h1,by simpa using h2,h3⟩
theorem seconds_get{E:Es}{b:Nd}{m i c k:Nat}(h:E[i]? = some (c,k)):(E.map fun y=>zc8 b y.1 m)[i]? = some (zc8 b c m):=by rw[List.getElem?_map,h];rfl
def seMiss(CN C:Addr):Sp:=fun vs H Q _=>∃(g:Gh) (Ks:List Ent) (t:Addr) (x:Spn),vs=[.ref g.s,.ref t]∧SrAt CN C H g Ks∧SpotAt H g.T t x∧zr0 x.1=true∧
 ∀(l:Addr) (ts:List Addr) (ms:List Spn) (H':Hp),Same H H'→H l=none→H' l=some (.lst (ts.map V.ref))→Paired (SpotAt H' g.T) ts ms→Miss g.T Ks x ms→Q (.ref l) H'
section
variable {P:Program}{w:World}{K:PySem.W.Frag}{mg:Str→Option Value}{base:Heap}{f:Addr}{fd:FuncData}{CN C:Addr}
theorem scMi:FnScope ["self","spot","number","column","margin","node","needed"] ["self","spot"] (za7 zh4):=⟨rfl,rfl,rfl,by decide +kernel,rfl,by decide +kernel,by decide +kernel⟩
theorem len_at{CN:Addr}{H:Hp}{p la na ga:Addr}{T:List Raw}{L:List (Option Nat)}(N:NodesAt CN H p la na ga T L){i:Nat}{a:Nd}(h:NdAt T i a):atI (L.map yb6) ((i:Nat):Int)=some (yb6 (ze9 a)):=zh0 (by rw[List.getElem?_map,h.len N.wf];rfl)
set_option maxHeartbeats 8000000 in
theorem ok_seMiss{fS:Addr}{sD:FuncData}(F:Fun K "missing_for" "Search.missing_for" zh4 f fd)(T:Srs K mg C)(TN:Nds K mg CN)(SP:MO P w K mg base C CX0 1 fS sD "spot_of" psEn (yi1 CN C)):FnOk P w K mg base CX0 2 f fd ["self","spot"] (seMiss CN C):=by
 refine F.okq scMi (fun vs H Q E h=>?_) (fun cdv A outer s H vs Q E hr h=>?_)
 ·obtain⟨g,Ks,t,x,rfl,_⟩:=h
  rfl
 obtain⟨g,Ks,t,x,rfl,S,ht,hco,q⟩:=h
 have nd:=scMi.nd
 have hu1:=hr.units
 have hu:(A.deeper (PyProof.Rows.envOfC "Search.missing_for" (za7 zh4) s.heap.objs.size f cdv)).units+1<cLine:=by omega
 refine⟨_,za1 (zb2 (i:=2) nd rfl (Or.inl rfl) (zb1 zb3 (pvq 1) za5 (fun _ _=>rfl)))<|
  za1 (zb2 (i:=3) nd rfl (Or.inl rfl) (zb1 zb3 (pvq 1) za5 (fun _ _=>rfl)))<|
  za1 (zb2 (i:=4) nd rfl (Or.inr rfl) (zb1 zb3 (pvq 1) za5 (fun _ _=>rfl)))<|
  za1 (zb2 (i:=5) nd rfl (Or.inr rfl) (zb1 zf8 (zd3 (zd3 (pvq 0) rfl) rfl) (pvq 2) (fun _ _=>rfl)))<|
  za1 (zd0 (PW.ptq (zu3 (zj9 (ym9 (zb1 zf8 (zd3 (zd3 (pvq 0) rfl) rfl) (pvq 2) (fun _ _=>rfl)))) (zr7 (zb6 zh1 (zb1 zb3 (pvq 5) za5 (fun _ _=>rfl)) zb5 (zd7 _))))) (za6 (zb4 (zd4 za3))) zb9)<|
  za1 (zb2 (i:=6) nd rfl (Or.inl rfl) (zd4 (ze4 (zc2 (pvq 0) T.cl SP.m SP.ok hr SP.b .nil zc7 (zb7 (zb1 zb3 (pvq 5) za5 (fun _ _=>rfl)) (za2 (pvq 3) (za2 (pvq 4) za3)))) za3)))<|
  za1 (zd0 (zb6 zh1 (zb1 zb3 (pvq 5) za5 (fun _ _=>rfl)) zb5 (zd7 _)) (za6 (ze1 (zh8 PySem.F.plainAttrs_list PySem.F.slot_list_append PySem.F.type_list_append zg2 (pvq 6) (ze4 (zc2 (pvq 0) T.cl SP.m SP.ok hr SP.b .nil zc7 (zb7 (zb1 zb3 (pvq 5) za5 (fun _ _=>rfl)) (za2 (pvq 3) (za2 (pvq 4) za3)))) za3))))
   (za6 (zd0 (zj9 (pc_dinq hu (zb1 zf8 (pvq 6) za5 (fun _ _=>rfl)) (zd3 (pvq 0) rfl))) (za6 (ps_setCq (i:=6) (cl:=[("self",s.heap.objs.size+1),("node",s.heap.objs.size+3),("margin",s.heap.objs.size+2)]) (ys:=["self","node","margin"]) (js:=[0,5,4]) nd rfl (Or.inl rfl) rfl (zv4 rfl ⟨rfl,rfl,rfl,trivial⟩ (by decide) rfl (by decide +kernel) rfl (by decide +kernel) rfl ⟨⟨rfl,.inl rfl,⟨_,rfl⟩,.inl rfl⟩,⟨rfl,.inl rfl,⟨_,rfl⟩,.inl rfl⟩,⟨rfl,.inl rfl,⟨_,rfl⟩,.inl rfl⟩,trivial⟩)
     (ym5 (zm4 hu (zd3 (pvq 0) rfl) (zb1 zf8 (pvq 6) za5 (fun _ _=>rfl)) (fun _ _=>rfl))) (fun _ _ _ _=>zt6)
     (fun _ _ _ _=>zc2 (pvq 1) T.cl SP.m SP.ok hr SP.b .nil zc7 (zb7 (zb1 (show IxR _ (rIxT K) from zb3) (pvq 2) za5 (fun _ _=>rfl)) (za2 (pvq 0) (za2 (pvq 3) za3)))))) zb9)))<|
  za6 (zb4 (zq2 (cl:=[("self",s.heap.objs.size+1)]) (ys:=["self"]) (js:=[0]) rfl (zv4 rfl ⟨rfl,trivial⟩ (by decide) rfl (by decide +kernel) rfl (by decide +kernel) rfl ⟨⟨rfl,.inl rfl,⟨_,rfl⟩,.inl rfl⟩,trivial⟩)
   (zk0 (pvq 6)) (fun _ _ _ _=>pifs_oneq (zj9 (zo7 hu (pvq 0) (show QE _ _ (tFld K (tVar 1) "known") from zd3 (pvq 1) rfl)))) (fun _ _ _ _=>pvq 0))),?_⟩
 obtain⟨a,c,m⟩:=x
 obtain⟨i,hti,hi⟩:=ht
 have hi:NdAt g.T i a:=hi
 obtain⟨dx,ho⟩:=S.ob
 obtain⟨dxn,hn⟩:=S.no.ob
 obtain⟨r,hr0,hd,tl,ek,_⟩:=zt5 hi
 obtain⟨as,t0,hla,hat,htr⟩:=ye3 S.no hr0
 have htu:H t0=some (.tup (.str hd::tl.map kV)):=by have:=htr;unfold RawAt at this;rw[ek] at this;exact this
 have hlen:=len_at S.no hi
 refine⟨_,rfl,t,_,_,.int (i:Nat),rfl,rfl,SqT.of hti,rfl,_,rfl,t,_,_,.int (c:Nat),rfl,rfl,SqT.of hti,rfl,_,rfl,t,_,_,.int (m:Nat),rfl,rfl,SqT.of hti,rfl,?_⟩
 refine⟨_,rfl,g.s,C,dx,_,_,rfl,ho,T.cl,T.nNo,zn1 _ _ _,g.n,CN,dxn,_,_,rfl,hn,TN.cl,TN.nLi,zl6 _ _ _,_,rfl,g.la,_,_,_,rfl,rfl,SqL.of hla,hat,?_⟩
 refine⟨_,rfl,g.s,C,dx,_,_,rfl,ho,T.cl,T.nNo,zn1 _ _ _,g.n,CN,dxn,_,_,rfl,hn,TN.cl,TN.nLe,zi4 _ _ _,_,rfl,g.ga,_,_,_,rfl,rfl,SqL.of S.no.le,hlen,_,rfl,?_⟩
 show if(!decide (yb6 (ze9 a)=.non))=true then _ else _
 have none_:Miss g.T Ks (a,c,m) []→∀l,H l=none→Q (.ref l) (upd H l (.lst [])):=fun hm l hl=>q l [] [] _ (za4 hl _) hl za0 .nil hm
 have flat:∀k,ze9 a=some k→Miss g.T Ks (a,c,m) []:=fun k hk=>by
  cases a with
  |choice a b=>show if _ then _ else _;rw[hk];rfl
  |beside a b=>show if _ then _ else _;rw[hk];rfl
  |_=>rfl
 cases hnl:ze9 a with
 |some k=>exact zd1 (by show(!decide (V.int (k:Nat)=V.non))=true;rw[decide_eq_false (fun z=>by cases z)];rfl) (zu0 ⟨(by show 0≤sizeLine;decide),none_ (flat k hnl)⟩)
 |none=>
 refine zc3 (by show ¬(!decide (V.non=V.non))=true;decide) ?_
 refine⟨_,rfl,t0,_,_,.str hd,rfl,rfl,SqT.of htu,(by show atI (V.str hd::tl.map kV) ((0:Nat):Int)=_;exact zh0 rfl),rfl,_,rfl,?_⟩
 cases a with
 |text n=>cases hnl
 |nest _ _=>cases hco
 |align _=>cases hco
 |brk=>
  have hi:g.T[i]? = some .brk:=hi
  rw[hr0] at hi
  cases hi
  cases ek
  exact zd1 (by decide +kernel) ⟨(by show 0≤sizeLine;decide),none_ rfl⟩
 |choice a b=>
  obtain⟨i1,i2,e,h1,h2⟩:=hi
  rw[hr0] at e
  cases e
  cases ek
  refine zc3 (by decide +kernel) ?_
  have fin:∀ms,MissOf g.T Ks [zc8 a c m,zc8 b c m] ms→Miss g.T Ks (Nd.choice a b,c,m) ms:=fun ms hm=>by
   show if(ze9 (.choice a b)).isSome=true then _ else _
   rw[hnl,if_neg (by decide:¬((none:Option Nat).isSome=true))]
   exact hm
  refine⟨_,rfl,g.s,dx,_,rfl,ho,zm3 _ _ _ (by decide +kernel) (by decide +kernel) (by decide +kernel),_,rfl,t0,_,_,.int (i1:Nat),rfl,rfl,SqT.of htu,rfl,_,rfl,_,rfl,?_⟩
  refine⟨g.s,g.n,g.la,g.na,g.ga,g.kn,dx,g.T,g.L,g.w,i1,c,m,a,rfl,ho,S.no,h1,fun u1 H1 s1 n1 hu1=>⟨(by show 1≤sizeLine;decide),fun l hl=>?_⟩⟩
  have s2:=s1.trans (za4 hl (.lst [.ref u1]))
  have nl:H l=none:=s1.free hl
  have el:(upd H1 l (.lst [.ref u1])) l=some (.lst [.ref u1]):=za0
  have hu2:SpotAt (upd H1 l (.lst [.ref u1])) g.T u1 (zc8 a c m):=hu1.mono (.of (za4 hl _))
  generalize upd H1 l (.lst [.ref u1])=H2 at s2 el hu2
  refine⟨_,rfl,t0,_,_,.str "choice",rfl,rfl,SqT.of (s2 _ _ htu),rfl,rfl,_,rfl,?_⟩
  refine zd1 (by decide +kernel) ?_
  have ho2:=s2 _ _ ho
  refine⟨_,rfl,.inl ⟨rfl,_,SqL.of el⟩,_,rfl,g.s,dx,_,rfl,ho2,zm3 _ _ _ (by decide +kernel) (by decide +kernel) (by decide +kernel),_,rfl,t0,_,_,.int (i2:Nat),rfl,rfl,SqT.of (s2 _ _ htu),rfl,_,rfl,_,rfl,?_⟩
  refine⟨g.s,g.n,g.la,g.na,g.ga,g.kn,dx,g.T,g.L,g.w,i2,c,m,b,rfl,ho2,S.no.mono s2,h2,fun u2 H3 s3 n3 hu3=>?_⟩
  have el3:=s3 _ _ el
  refine⟨l,_,_,rfl,rfl,el3,Nat.lt_of_lt_of_le (show 1<1000001 by decide) (zd2 (by omega)),?_⟩
  have s4:Same H (upd H3 l (.lst ([.ref u1]++[.ref u2]))):=zj0 (s2.trans s3) nl _
  have el4:(upd H3 l (.lst ([.ref u1]++[.ref u2]))) l=some (.lst ([u1,u2].map V.ref)):=za0
  have P4:Paired (SpotAt (upd H3 l (.lst ([.ref u1]++[.ref u2]))) g.T) [u1,u2] [zc8 a c m,zc8 b c m]:=.cons ((hu2.mono (.of s3)).mono (zc6 el3)) (.cons (hu3.mono (zc6 el3)) .nil)
  generalize upd H3 l (.lst ([.ref u1]++[.ref u2]))=H4 at s4 el4 P4
  have hnl64:([zc8 a c m,zc8 b c m]:List Spn).length≤64:=by simp
  refine⟨_,rfl,l,rfl,⟨_,SqL.of el4⟩,fun D hD=>zr2 (K:=K) (a:=l) (xs:=([u1,u2]).map V.ref) (fun j H6 ys=>∃(ts6:List Addr) (ms:List Spn),ys=ts6.map V.ref∧H6 D=some (.lst ys)∧Paired (SpotAt H6 g.T) ts6 ms∧But1 D (upd H4 D (.lst [])) H6∧MissOf g.T Ks (([zc8 a c m,zc8 b c m]).take j) ms)
   ⟨[],[],rfl,za0,.nil,But1.refl,by rw[List.take_zero];exact MissOf.nil⟩ (fun j H6 ys _ ⟨_,_,_,_,_,b,_⟩=>SqL.of (b _ _ (by rw[za9 (za8 el4 hD)];exact el4) (za8 el4 hD))) (fun j v H6 ys hv ⟨ts6,ms,ey,e6,P6,b6,M6⟩=>?_) (fun H6 ys ⟨ts6,ms,ey,e6,P6,b6,M6⟩=>?_)⟩
  ·obtain⟨tj,xj,rfl,hxj,hsj⟩:=zl0 P4 hv
   have nD:H D=none:=s4.free hD
   have s6:Same H H6:=fun b ob e=>b6 _ _ ((za4 hD _) _ _ (s4 _ _ e)) (za8 e nD)
   have t6:Tups H4 H6:=fun b xs e=>b6 _ _ ((za4 hD _) _ _ e) (za8 e hD)
   refine⟨_,rfl,_,rfl,g.s,C,dx,_,_,rfl,s6 _ _ ho,T.cl,T.nKn,zi3 _ _ _,?_⟩
   have hml:=M6.1.length_le
   rw[List.length_take] at hml
   have hpl:=Paired.length P6
   rcases zx3 S s6 (hsj.mono t6) with⟨e,he,ha,hg⟩|⟨hn,hg⟩
   ·exact⟨g.kn,_,rfl,hg,_,rfl,zc3 (by intro z;cases z) ⟨ts6,ms,ey,e6,P6,b6,by rw[ze8 hxj];exact M6.skip ⟨e,he,ha⟩⟩⟩
   ·refine⟨g.kn,_,rfl,hg,_,rfl,zd1 rfl ⟨_,rfl,e6,?_,ts6++[tj],ms++[xj],by rw[ey,List.map_append];rfl,za0,zd5 (Paired.mapP P6 fun _ _ z=>z.mono (zc6 e6)) (.cons ((hsj.mono t6).mono (zc6 e6)) .nil),b6.trans zn6,by rw[ze8 hxj];exact M6.add hn⟩⟩
    rw[ey]
    exact Nat.lt_of_lt_of_le (show(ts6.map V.ref).length<1000001 by rw[List.length_map,hpl];omega) (zd2 (by omega))
  ·have nD:H D=none:=s4.free hD
   have s6:Same H H6:=fun b ob e=>b6 _ _ ((za4 hD _) _ _ (s4 _ _ e)) (za8 e nD)
   rw[List.length_map,Paired.length P4,List.take_length] at M6
   exact q D ts6 ms H6 s6 nD (by rw[e6,ey]) P6 (fin ms M6)
 |beside a b=>
  obtain⟨i1,i2,e,h1,h2⟩:=hi
  rw[hr0] at e
  cases e
  cases ek
  refine zc3 (by decide +kernel) ?_
  have fin:∀ms,((¬Kn g.T Ks (zc8 a c m)∧MissOf g.T Ks [zc8 a c m] ms)∨∃e∈Ks,EntAt g.T e (zc8 a c m)∧MissOf g.T Ks (e.E.map fun y=>zc8 b y.1 m) ms)→Miss g.T Ks (Nd.beside a b,c,m) ms:=fun ms hm=>by
   show if(ze9 (.beside a b)).isSome=true then _ else _
   rw[hnl,if_neg (by decide:¬((none:Option Nat).isSome=true))]
   exact hm
  refine⟨_,rfl,g.s,dx,_,rfl,ho,zm3 _ _ _ (by decide +kernel) (by decide +kernel) (by decide +kernel),_,rfl,t0,_,_,.int (i1:Nat),rfl,rfl,SqT.of htu,rfl,_,rfl,_,rfl,?_⟩
  refine⟨g.s,g.n,g.la,g.na,g.ga,g.kn,dx,g.T,g.L,g.w,i1,c,m,a,rfl,ho,S.no,h1,fun u1 H1 s1 n1 hu1=>⟨(by show 1≤sizeLine;decide),fun l hl=>?_⟩⟩
  have s2:=s1.trans (za4 hl (.lst [.ref u1]))
  have nl:H l=none:=s1.free hl
  have el:(upd H1 l (.lst [.ref u1])) l=some (.lst [.ref u1]):=za0
  have hu2:SpotAt (upd H1 l (.lst [.ref u1])) g.T u1 (zc8 a c m):=hu1.mono (.of (za4 hl _))
  generalize upd H1 l (.lst [.ref u1])=H2 at s2 el hu2
  refine⟨_,rfl,t0,_,_,.str "beside",rfl,rfl,SqT.of (s2 _ _ htu),rfl,rfl,_,rfl,?_⟩
  refine zc3 (by decide +kernel) ?_
  have ho2:=s2 _ _ ho
  refine⟨_,rfl,l,_,_,.ref u1,rfl,rfl,SqL.of el,rfl,_,rfl,g.s,C,dx,_,_,rfl,ho2,T.cl,T.nKn,zi3 _ _ _,?_⟩
  rcases zx3 S s2 hu2 with⟨e,he,hae,hg⟩|⟨hn,hg⟩
  ·refine⟨g.kn,_,rfl,hg,_,rfl,zd1 rfl ?_⟩
   have ok0:=S.ok e he
   have hfz:=s2 _ _ ok0.frz
   refine⟨_,rfl,g.s,C,dx,_,_,rfl,ho2,T.cl,T.nKn,zi3 _ _ _,_,rfl,l,_,_,.ref u1,rfl,rfl,SqL.of el,rfl,g.kn,_,rfl,hg,e.d,e.o,_,rfl,hfz,fun D hD=>?_⟩
   have nD:H D=none:=s2.free hD
   have hfD:=za8 hfz hD
   refine comp_dict (a:=e.d) (o:=e.o) (kvs:=zj2 e.E) (fun j H6 ys=>∃ts6:List Addr,ys=ts6.map V.ref∧H6 D=some (.lst ys)∧Paired (SpotAt H6 g.T) ts6 ((e.E.map fun y=>zc8 b y.1 m).take j)∧But1 D (upd H2 D (.lst [])) H6)
    ⟨[],rfl,za0,by rw[List.take_zero];exact .nil,But1.refl⟩ (fun j H6 ys _ ⟨_,_,_,_,b6⟩=>b6 _ _ (by rw[za9 hfD];exact hfz) hfD) (fun j kv H6 ys hkv ⟨ts6,ey,e6,P6,b6⟩=>?_) (fun H6 ys ⟨ts6,ey,e6,P6,b6⟩=>?_)
   ·obtain⟨cc,k,hck,rfl⟩:=enc_get hkv
    have s6:Same H H6:=fun x ob e=>b6 _ _ ((za4 hD _) _ _ (s2 _ _ e)) (za8 e nD)
    have ho6:=s6 _ _ ho
    have hpl:=Paired.length P6
    have hel:=ok0.len
    rw[List.length_take,List.length_map] at hpl
    refine⟨_,rfl,g.s,dx,_,rfl,ho6,zm3 _ _ _ (by decide +kernel) (by decide +kernel) (by decide +kernel),_,rfl,t0,_,_,.int (i2:Nat),rfl,rfl,SqT.of (s6 _ _ htu),rfl,_,rfl,_,rfl,?_⟩
    refine⟨g.s,g.n,g.la,g.na,g.ga,g.kn,dx,g.T,g.L,g.w,i2,cc,m,b,rfl,ho6,S.no.mono s6,h2,fun u2 H7 s7 n7 hu7=>?_⟩
    have e7:=s7 _ _ e6
    refine⟨e7,?_,ts6++[u2],by rw[ey,List.map_append];rfl,za0,?_,b6.trans ((But1.of s7).trans zn6)⟩
    ·rw[ey]
     exact Nat.lt_of_lt_of_le (show(ts6.map V.ref).length<1000001 by rw[List.length_map,hpl];omega) (zd2 (by omega))
    ·rw[ze8 (seconds_get hck)]
     exact zd5 (Paired.mapP P6 fun _ _ z=>(z.mono (.of s7)).mono (zc6 e7)) (.cons (hu7.mono (zc6 e7)) .nil)
   ·have s6:Same H H6:=fun x ob e=>b6 _ _ ((za4 hD _) _ _ (s2 _ _ e)) (za8 e nD)
    have eq:(zj2 e.E).length=(e.E.map fun y=>zc8 b y.1 m).length:=by rw[yf9,List.length_map]
    rw[eq,List.take_length] at P6
    have hel:=ok0.len
    have hnl64:(e.E.map fun y=>zc8 b y.1 m).length≤64:=by rw[List.length_map];exact hel
    have el6:H6 D=some (.lst (ts6.map V.ref)):=by rw[e6,ey]
    clear e6 ey
    have nlD:=nD
    clear nD hD hfD b6
    generalize hDD:D=DD at el6 nlD
    clear hDD
    refine⟨_,rfl,DD,rfl,⟨_,SqL.of el6⟩,fun D hD=>zr2 (K:=K) (a:=DD) (xs:=(ts6).map V.ref) (fun j H8 ys=>∃(ts8:List Addr) (ms:List Spn),ys=ts8.map V.ref∧H8 D=some (.lst ys)∧Paired (SpotAt H8 g.T) ts8 ms∧But1 D (upd H6 D (.lst [])) H8∧MissOf g.T Ks ((e.E.map fun y=>zc8 b y.1 m).take j) ms)
     ⟨[],[],rfl,za0,.nil,But1.refl,by rw[List.take_zero];exact MissOf.nil⟩ (fun j H8 ys _ ⟨_,_,_,_,_,b,_⟩=>SqL.of (b _ _ (by rw[za9 (za8 el6 hD)];exact el6) (za8 el6 hD))) (fun j v H8 ys hv ⟨ts8,ms,ey,e8,P8,b8,M6⟩=>?_) (fun H8 ys ⟨ts8,ms,ey,e8,P8,b8,M6⟩=>?_)⟩
    ·obtain⟨tj,xj,rfl,hxj,hsj⟩:=zl0 P6 hv
     have nD:H D=none:=s6.free hD
     have s8:Same H H8:=fun b ob e=>b8 _ _ ((za4 hD _) _ _ (s6 _ _ e)) (za8 e nD)
     have t8:Tups H6 H8:=fun b xs e=>b8 _ _ ((za4 hD _) _ _ e) (za8 e hD)
     refine⟨_,rfl,_,rfl,g.s,C,dx,_,_,rfl,s8 _ _ ho,T.cl,T.nKn,zi3 _ _ _,?_⟩
     have hml:=M6.1.length_le
     rw[List.length_take] at hml
     have hpl:=Paired.length P8
     rcases zx3 S s8 (hsj.mono t8) with⟨e',he',ha,hg⟩|⟨hn,hg⟩
     ·exact⟨g.kn,_,rfl,hg,_,rfl,zc3 (by intro z;cases z) ⟨ts8,ms,ey,e8,P8,b8,by rw[ze8 hxj];exact M6.skip ⟨e',he',ha⟩⟩⟩
     ·refine⟨g.kn,_,rfl,hg,_,rfl,zd1 rfl ⟨_,rfl,e8,?_,ts8++[tj],ms++[xj],by rw[ey,List.map_append];rfl,za0,zd5 (Paired.mapP P8 fun _ _ z=>z.mono (zc6 e8)) (.cons ((hsj.mono t8).mono (zc6 e8)) .nil),b8.trans zn6,by rw[ze8 hxj];exact M6.add hn⟩⟩
      rw[ey]
      exact Nat.lt_of_lt_of_le (show(ts8.map V.ref).length<1000001 by rw[List.length_map,hpl];omega) (zd2 (by omega))
    ·have nD:H D=none:=s6.free hD
     have s8:Same H H8:=fun b ob e=>b8 _ _ ((za4 hD _) _ _ (s6 _ _ e)) (za8 e nD)
     rw[List.length_map,Paired.length P6,List.take_length] at M6
     exact q D ts8 ms H8 s8 nD (by rw[e8,ey]) P8 (fin ms (.inr ⟨e,he,hae,M6⟩))
  ·refine⟨g.kn,_,rfl,hg,_,rfl,zc3 (by intro z;cases z) ?_⟩
   have el4:H2 l=some (.lst ([u1].map V.ref)):=el
   have P4:Paired (SpotAt H2 g.T) [u1] [zc8 a c m]:=.cons hu2 .nil
   have hnl64:([zc8 a c m]:List Spn).length≤64:=by simp
   refine⟨_,rfl,l,rfl,⟨_,SqL.of el4⟩,fun D hD=>zr2 (K:=K) (a:=l) (xs:=([u1]).map V.ref) (fun j H6 ys=>∃(ts6:List Addr) (ms:List Spn),ys=ts6.map V.ref∧H6 D=some (.lst ys)∧Paired (SpotAt H6 g.T) ts6 ms∧But1 D (upd H2 D (.lst [])) H6∧MissOf g.T Ks (([zc8 a c m]).take j) ms)
    ⟨[],[],rfl,za0,.nil,But1.refl,by rw[List.take_zero];exact MissOf.nil⟩ (fun j H6 ys _ ⟨_,_,_,_,_,b,_⟩=>SqL.of (b _ _ (by rw[za9 (za8 el4 hD)];exact el4) (za8 el4 hD))) (fun j v H6 ys hv ⟨ts6,ms,ey,e6,P6,b6,M6⟩=>?_) (fun H6 ys ⟨ts6,ms,ey,e6,P6,b6,M6⟩=>?_)⟩
   ·obtain⟨tj,xj,rfl,hxj,hsj⟩:=zl0 P4 hv
    have nD:H D=none:=s2.free hD
    have s6:Same H H6:=fun b ob e=>b6 _ _ ((za4 hD _) _ _ (s2 _ _ e)) (za8 e nD)
    have t6:Tups H2 H6:=fun b xs e=>b6 _ _ ((za4 hD _) _ _ e) (za8 e hD)
    refine⟨_,rfl,_,rfl,g.s,C,dx,_,_,rfl,s6 _ _ ho,T.cl,T.nKn,zi3 _ _ _,?_⟩
    have hml:=M6.1.length_le
    rw[List.length_take] at hml
    have hpl:=Paired.length P6
    rcases zx3 S s6 (hsj.mono t6) with⟨e,he,ha,hg⟩|⟨hn2,hg⟩
    ·exact⟨g.kn,_,rfl,hg,_,rfl,zc3 (by intro z;cases z) ⟨ts6,ms,ey,e6,P6,b6,by rw[ze8 hxj];exact M6.skip ⟨e,he,ha⟩⟩⟩
    ·refine⟨g.kn,_,rfl,hg,_,rfl,zd1 rfl ⟨_,rfl,e6,?_,ts6++[tj],ms++[xj],by rw[ey,List.map_append];rfl,za0,zd5 (Paired.mapP P6 fun _ _ z=>z.mono (zc6 e6)) (.cons ((hsj.mono t6).mono (zc6 e6)) .nil),b6.trans zn6,by rw[ze8 hxj];exact M6.add hn2⟩⟩
     rw[ey]
     exact Nat.lt_of_lt_of_le (show(ts6.map V.ref).length<1000001 by rw[List.length_map,hpl];omega) (zd2 (by omega))
   ·have nD:H D=none:=s2.free hD
    have s6:Same H H6:=fun b ob e=>b6 _ _ ((za4 hD _) _ _ (s2 _ _ e)) (za8 e nD)
    rw[List.length_map,Paired.length P4,List.take_length] at M6
    exact q D ts6 ms H6 s6 nD (by rw[e6,ey]) P6 (fin ms (.inl ⟨hn,M6⟩))
end
end Pq
namespace Pq
open PySem L2
def Ready(T:List Raw)(Ks:List Ent)(x:Spn):Prop:=match x.1 with
 |.choice a b=>ze9 (.choice a b)=none→Kn T Ks (zc8 a x.2.1 x.2.2)∧Kn T Ks (zc8 b x.2.1 x.2.2)
 |.beside a b=>ze9 (.beside a b)=none→∃e∈Ks,EntAt T e (zc8 a x.2.1 x.2.2)∧∀y∈e.E,Kn T Ks (zc8 b y.1 x.2.2)
 |_=>True
def seWork(CN C:Addr):Sp:=fun vs H Q _=>∃(g:Gh) (Ks:List Ent) (t:Addr) (x:Spn),vs=[.ref g.s,.ref t]∧SrAt CN C H g Ks∧SpotAt H g.T t x∧zr0 x.1=true∧SmN x.1∧(∀y∈zi7 g.w x.1 x.2.1 x.2.2,y∈g.U)∧cw g.w x.1 x.2.1 x.2.2≤1000000∧Ready g.T Ks x∧
 ∀(d:Addr) (E:Es) (H':Hp),Same H H'→H d=none→H' d=some (.dK (zj2 E))→EndsOk g.w [(x.1,x.2.2)] x.2.1 E→E.length≤64→Q (.ref d) H'
theorem zx8{α:Type}(f:α→Nat){l:List α}{x:α}(h:x∈l):f x≤(l.map f).sum:=by
 induction l with
 |nil=>cases h
 |cons y l ih=>
  rw[List.map_cons,List.sum_cons]
  rcases List.mem_cons.mp h with rfl|h
  ·omega
  ·have:=ih h;omega
section
variable {P:Program}{w:World}{K:PySem.W.Frag}{mg:Str→Option Value}{base:Heap}{f:Addr}{fd:FuncData}{CN C:Addr}
theorem scWo:FnScope ["self","spot","number","column","margin","node","length","first","ends"] ["self","spot"] (za7 zj7):=⟨rfl,rfl,rfl,by decide +kernel,rfl,by decide +kernel,by decide +kernel⟩
theorem encE_one(c k:Nat):yj8 [] [((.inl ((c:Nat):Int):Key),V.int ((k:Nat):Int))]=zj2 [(c,k)]:=rfl
set_option maxHeartbeats 8000000 in
theorem ok_seWork{fG fB fE fH fA fU:Addr}{gD bD eD hD aD uD:FuncData}(F:Fun K "worked_out" "Search.worked_out" zj7 f fd)(T:Srs K mg C)(TN:Nds K mg CN)
  (SG:MO P w K mg base C CX0 1 fG gD "cost_of_signs" ["self","column","length"] (yd0 C)) (SK:MO P w K mg base C CX0 2 fB bD "cost_of_break" ["self","margin"] (ym0 C))
  (EN:MO P w K mg base C CX0 2 fE eD "ends_of" psEn (yi2 CN C true)) (BE:MO P w K mg base C CX0 3 fH hD "ends_behind" psBe (zw1 CN C true))
  (GA:FnOk P w K mg base CX0 1 fA aD ["ends","more","spent"] spAdd) (bA:Binds K aD ["ends","more","spent"] []) (kA:PySem.W.keepIn K (.ref fA)=true) (mA:mg "add_ends"=some (.ref fA))
  (GU:FnOk P w K mg base CX0 1 fU uD ["ends"] yl3) (bU:Binds K uD ["ends"] []) (kU:PySem.W.keepIn K (.ref fU)=true) (mU:mg "undominated"=some (.ref fU)):FnOk P w K mg base CX0 4 f fd ["self","spot"] (seWork CN C):=by
 refine F.okq scWo (fun vs H Q E h=>?_) (fun cdv A outer s H vs Q E hr h=>?_)
 ·obtain⟨g,Ks,t,x,rfl,_⟩:=h
  rfl
 obtain⟨g,Ks,t,x,rfl,S,ht,hco,hsm,hU,hcw,hrd,q⟩:=h
 have nd:=scWo.nd
 have hr1:Room 1 _:=hr.mono (by decide)
 have hr2:Room 2 _:=hr.mono (by decide)
 refine⟨_,za1 (zb2 (i:=2) nd rfl (Or.inl rfl) (zb1 zb3 (pvq 1) za5 (fun _ _=>rfl)))<|
  za1 (zb2 (i:=3) nd rfl (Or.inl rfl) (zb1 zb3 (pvq 1) za5 (fun _ _=>rfl)))<|
  za1 (zb2 (i:=4) nd rfl (Or.inl rfl) (zb1 zb3 (pvq 1) za5 (fun _ _=>rfl)))<|
  za1 (zb2 (i:=5) nd rfl (Or.inl rfl) (zb1 zf8 (zd3 (zd3 (pvq 0) rfl) rfl) (pvq 2) (fun _ _=>rfl)))<|
  za1 (zb2 (i:=6) nd rfl (Or.inl rfl) (zb1 zf8 (zd3 (zd3 (pvq 0) rfl) rfl) (pvq 2) (fun _ _=>rfl)))<|
  za1 (zd0 (zj9 (ym9 (pvq 6))) (za6 (zb4 (ym8 (yd6 (zc4 zk6 (pvq 3) (pvq 6)) (zc2 (pvq 0) T.cl SG.m SG.ok hr1 SG.b .nil zc7 (za2 (pvq 3) (za2 (pvq 6) za3))) pps_nil) rfl rfl (by intro z;cases z) (by decide)))) zb9)<|
  za1 (zd0 (zb6 zh1 (zb1 zb3 (pvq 5) za5 (fun _ _=>rfl)) zb5 (zd7 _)) (za6 (zb4 (ym8 (yd6 (pvq 4) (zc2 (pvq 0) T.cl SK.m SK.ok hr2 SK.b .nil zc7 (za2 (pvq 4) za3)) pps_nil) rfl rfl (by intro z;cases z) (by decide)))) zb9)<|
  za1 (zb2 (i:=7) nd rfl (Or.inl rfl) (zc2 (pvq 0) T.cl EN.m EN.ok hr2 EN.b .nil zc7 (zb7 (zb1 zb3 (pvq 5) za5 (fun _ _=>rfl)) (za2 (pvq 3) (za2 (pvq 4) za3)))))<|
  za1 (zd0 (zb6 zh1 (zb1 zb3 (pvq 5) za5 (fun _ _=>rfl)) zb5 (zd7 _)) (za6 (zb4 (zc2 (pvq 0) T.cl BE.m BE.ok hr BE.b .nil zc7 (za2 (pvq 7) (zb7 (zb1 zb3 (pvq 5) za5 (fun _ _=>rfl)) (za2 (pvq 4) za3)))))) zb9)<|
  za1 (zb2 (i:=8) nd rfl (Or.inl rfl) (yj2 call_dictD rfl T.dict (by decide +kernel) (za2 (pvq 7) za3)))<|
  za1 (ze1 (zc0 GA hr1 rfl mA kA bA .nil zc7 (za2 (pvq 8) (ze4 (zc2 (pvq 0) T.cl EN.m EN.ok hr2 EN.b .nil zc7 (zb7 (zb1 zb3 (pvq 5) za5 (fun _ _=>rfl)) (za2 (pvq 3) (za2 (pvq 4) za3)))) (zb0 za5 za3)))))<|
  za6 (zb4 (zc0 GU hr1 rfl mU kU bU .nil zc7 (za2 (pvq 8) za3))),?_⟩
 obtain⟨a,c,m⟩:=x
 obtain⟨i,hti,hi⟩:=ht
 have hi:NdAt g.T i a:=hi
 have hU:∀y∈zi7 g.w a c m,y∈g.U:=hU
 have hcw:cw g.w a c m≤1000000:=hcw
 have hsm:SmN a:=hsm
 obtain⟨dx,ho⟩:=S.ob
 obtain⟨dxn,hn⟩:=S.no.ob
 obtain⟨r,hr0,hd,tl,ek,_⟩:=zt5 hi
 obtain⟨as,t0,hla,hat,htr⟩:=ye3 S.no hr0
 have htu:H t0=some (.tup (.str hd::tl.map kV)):=by have:=htr;unfold RawAt at this;rw[ek] at this;exact this
 have hlen:=len_at S.no hi
 refine⟨_,rfl,t,_,_,.int (i:Nat),rfl,rfl,SqT.of hti,rfl,_,rfl,t,_,_,.int (c:Nat),rfl,rfl,SqT.of hti,rfl,_,rfl,t,_,_,.int (m:Nat),rfl,rfl,SqT.of hti,rfl,?_⟩
 refine⟨_,rfl,g.s,C,dx,_,_,rfl,ho,T.cl,T.nNo,zn1 _ _ _,g.n,CN,dxn,_,_,rfl,hn,TN.cl,TN.nLi,zl6 _ _ _,_,rfl,g.la,_,_,_,rfl,rfl,SqL.of hla,hat,?_⟩
 refine⟨_,rfl,g.s,C,dx,_,_,rfl,ho,T.cl,T.nNo,zn1 _ _ _,g.n,CN,dxn,_,_,rfl,hn,TN.cl,TN.nLe,zi4 _ _ _,_,rfl,g.ga,_,_,_,rfl,rfl,SqL.of S.no.le,hlen,?_⟩
 refine⟨_,rfl,_,rfl,?_⟩
 show if(!decide (yb6 (ze9 a)=.non))=true then _ else _
 cases hnl:ze9 a with
 |some k=>
  refine zd1 (by show(!decide (V.int (k:Nat)=V.non))=true;rw[decide_eq_false (fun z=>by cases z)];rfl) fun p hp=>?_
  have s1:=za4 hp (.dK [])
  refine⟨_,rfl,_,rfl,_,_,rfl,rfl,_,rfl,g.s,dx,_,rfl,s1 _ _ ho,zm3 _ _ _ (by decide +kernel) (by decide +kernel) (by decide +kernel),_,rfl,_,rfl,g.s,g.n,g.kn,dx,g.w,c,k,rfl,s1 _ _ ho,za0,[(.inl ((c:Nat)+(k:Nat):Int),.int ((SB*ov g.w c k:Nat):Int))],rfl,(by show 1≤15;decide),?_⟩
  have e:((c:Nat):Int)+((k:Nat):Int)=((c+k:Nat):Int):=by omega
  rw[e,encE_one]
  exact q p _ _ (zj0 s1 hp _) hp za0 (EndsOk.flat c m hnl) (by simp)
 |none=>
 refine zc3 (by show ¬(!decide (V.non=V.non))=true;decide) ?_
 refine⟨_,rfl,t0,_,_,.str hd,rfl,rfl,SqT.of htu,(by show atI (V.str hd::tl.map kV) ((0:Nat):Int)=_;exact zh0 rfl),rfl,_,rfl,?_⟩
 cases a with
 |text n=>cases hnl
 |nest _ _=>cases hco
 |align _=>cases hco
 |brk=>
  have hi:g.T[i]? = some .brk:=hi
  rw[hr0] at hi
  cases hi
  cases ek
  refine zd1 (by decide +kernel) fun p hp=>?_
  have s1:=za4 hp (.dK [])
  refine⟨_,rfl,_,rfl,g.s,dx,_,rfl,s1 _ _ ho,zm3 _ _ _ (by decide +kernel) (by decide +kernel) (by decide +kernel),_,rfl,g.s,g.n,g.kn,dx,g.w,m,rfl,s1 _ _ ho,za0,[(.inl ((m:Nat):Int),.int ((1+SB*ov g.w 0 m:Nat):Int))],rfl,(by show 1≤15;decide),?_⟩
  rw[encE_one]
  exact q p _ _ (zj0 s1 hp _) hp za0 (EndsOk.brk g.w c m) (by simp)
 |choice a b=>
  obtain⟨i1,i2,e,h1,h2⟩:=hi
  rw[hr0] at e
  cases e
  cases ek
  refine zc3 (by decide +kernel) ?_
  have hrd:=hrd hnl
  obtain⟨k1,k2⟩:=hrd
  have u1:∀y∈zi7 g.w a c m,y∈g.U:=fun y hy=>hU y (List.mem_cons_of_mem _ (List.mem_append_left _ hy))
  have cw1:cw g.w a c m≤1000000:=by have:2+cw g.w a c m+cw g.w b c m≤1000000:=hcw;omega
  refine⟨_,rfl,g.s,dx,_,rfl,ho,zm3 _ _ _ (by decide +kernel) (by decide +kernel) (by decide +kernel),_,rfl,t0,_,_,.int (i1:Nat),rfl,rfl,SqT.of htu,rfl,_,rfl,_,rfl,?_⟩
  refine⟨g,Ks,i1,c,m,a,rfl,S,h1,hsm.1,u1,cw1,fun _=>k1,fun d o E1 Ks1 H1 S1 sub1 b1 hd1 hE1 hl1 sm1=>?_⟩
  obtain⟨ek1,s1,en1⟩:=sm1 rfl
  subst ek1
  refine⟨_,rfl,t0,_,_,.str "choice",rfl,rfl,SqT.of (s1 _ _ htu),rfl,rfl,_,rfl,?_⟩
  refine zc3 (by decide +kernel) ?_
  refine⟨_,rfl,d,_,rfl,.inr ⟨o,hd1⟩,fun p hp=>?_⟩
  have s2:=s1.trans (za4 hp (.dK (zj2 E1)))
  have hpp:(upd H1 p (.dK (zj2 E1))) p=some (.dK (zj2 E1)):=za0
  have S2:=S1.mono (za4 hp (.dK (zj2 E1)))
  have np:H p=none:=s1.free hp
  generalize upd H1 p (.dK (zj2 E1))=H2 at s2 hpp S2
  have u2:∀y∈zi7 g.w b c m,y∈g.U:=fun y hy=>hU y (List.mem_cons_of_mem _ (List.mem_append_right _ hy))
  have cw2:cw g.w b c m≤1000000:=by have:2+cw g.w a c m+cw g.w b c m≤1000000:=hcw;omega
  refine⟨_,rfl,_,rfl,g.s,dx,_,rfl,s2 _ _ ho,zm3 _ _ _ (by decide +kernel) (by decide +kernel) (by decide +kernel),_,rfl,t0,_,_,.int (i2:Nat),rfl,rfl,SqT.of (s2 _ _ htu),rfl,_,rfl,_,rfl,?_⟩
  refine⟨g,Ks1,i2,c,m,b,rfl,S2,h2,hsm.2.1,u2,cw2,fun _=>k2,fun d2 o2 E2 Ks2 H3 S3 sub3 b3 hd3 hE3 hl3 sm3=>?_⟩
  obtain⟨ek2,s3,en3⟩:=sm3 rfl
  subst ek2
  refine⟨p,d2,o2,E1,E2,0,rfl,s3 _ _ hpp,hd3,hE1.nodup,hE3.nodup,by omega,fun D H4 A4 hp4 b4=>?_⟩
  have hs:∀x∈D,x∈E1∨x∈E2:=fun x hx=>by
   rcases A4.sound x hx with z|⟨y,hy,e⟩
   ·exact .inl z
   ·rw[Nat.zero_add] at e;rw[e];exact .inr hy
  have hc:∀x,x∈E1∨x∈E2→∃y∈D,y.1=x.1∧y.2≤x.2:=fun x hx=>by
   rcases hx with z|z
   ·exact A4.old x z
   ·have:=A4.new x z;rw[Nat.zero_add] at this;exact this
  have hDl:D.length≤63:=by
   have:=zq8 A4.nodup (R:=zj5 [c] (.choice a b,m)) fun k hk=>by
    obtain⟨x,hx,rfl⟩:=List.mem_map.mp hk
    refine es_choice hnl ?_
    rcases hs x hx with z|z
    ·exact .inl (hE1.ends x z)
    ·exact .inr (hE3.ends x z)
   rw[List.length_map,yk5] at this
   have h63:tot (.choice a b)≤63:=hsm.2.2
   unfold tot at h63
   simp only[List.length_singleton,Nat.mul_one] at this
   omega
  have s4:Same H H4:=fun x ob e=>b4 _ _ ((s2.trans s3) _ _ e) (za8 e np)
  refine⟨_,rfl,p,D,rfl,hp4,A4.nodup,by omega,fun p2 E5 H5 U5 l5 s5 n5 e5=>?_⟩
  exact q p2 E5 H5 (s4.trans s5) (s4.free n5) e5 (EndsOk.choice hnl hE1 hE3 hs hc U5) l5
 |beside a b=>
  obtain⟨i1,i2,e,h1,h2⟩:=hi
  rw[hr0] at e
  cases e
  cases ek
  refine zc3 (by decide +kernel) ?_
  have hrd:=hrd hnl
  obtain⟨e,he,hae,hes⟩:=hrd
  have u1:∀y∈zi7 g.w a c m,y∈g.U:=fun y hy=>hU y (List.mem_cons_of_mem _ (List.mem_append_left _ hy))
  have cw1:cw g.w a c m≤1000000:=by have:3+cw g.w a c m+((zk7 g.w a c m).map fun o=>cw g.w b o.2.1 m).sum≤1000000:=hcw;omega
  refine⟨_,rfl,g.s,dx,_,rfl,ho,zm3 _ _ _ (by decide +kernel) (by decide +kernel) (by decide +kernel),_,rfl,t0,_,_,.int (i1:Nat),rfl,rfl,SqT.of htu,rfl,_,rfl,_,rfl,?_⟩
  refine⟨g,Ks,i1,c,m,a,rfl,S,h1,hsm.1,u1,cw1,fun _=>⟨e,he,hae⟩,fun d o E1 Ks1 H1 S1 sub1 b1 hd1 hE1 hl1 sm1=>?_⟩
  obtain⟨ek1,s1,en1⟩:=sm1 rfl
  subst ek1
  refine⟨_,rfl,t0,_,_,.str "beside",rfl,rfl,SqT.of (s1 _ _ htu),rfl,rfl,_,rfl,?_⟩
  have eE:=en1 e he hae
  subst eE
  refine zd1 (by decide +kernel) ?_
  refine⟨_,rfl,g.s,dx,_,rfl,s1 _ _ ho,zm3 _ _ _ (by decide +kernel) (by decide +kernel) (by decide +kernel),_,rfl,_,rfl,t0,_,_,.int (i2:Nat),rfl,rfl,SqT.of (s1 _ _ htu),rfl,_,rfl,?_⟩
  refine⟨g,Ks1,d,o,e.E,[(a,m)],c,i2,m,b,rfl,S1,hd1,hE1,hl1,h2,hsm.2.1,by rw[yk8 hnl];exact hsm.2.2,fun y hy=>?_,fun d2 E2 Ks2 H2 S2 sub2 b2 n2 hd2 hE2 hl2 sm2=>?_⟩
  ·obtain⟨sy,hsy⟩:=hE1.sound y hy
   rw[zh2] at hsy
   refine⟨fun z hz=>hU z (List.mem_cons_of_mem _ (List.mem_append_right _ (List.mem_flatMap.mpr ⟨_,hsy,hz⟩))),?_,fun _=>hes y hy⟩
   have:=zx8 (fun o:Run=>cw g.w b o.2.1 m) hsy
   have hcw':3+cw g.w a c m+((zk7 g.w a c m).map fun o=>cw g.w b o.2.1 m).sum≤1000000:=hcw
   have this:cw g.w b y.1 m≤_:=this
   omega
  ·exact q d2 E2 H2 (s1.trans (sm2 rfl).2) (s1.free n2) hd2 (hE2.beside hnl) hl2
end
end Pq
namespace Pq
open PySem L2
inductive Stg where
 |A|B|C
def rem(w:Nat)(x:Spn):Stg→Nat
 |.A=>cw w x.1 x.2.1 x.2.2
 |.B=>match x.1 with
  |.beside a b=>2+((zk7 w a x.2.1 x.2.2).map fun o=>cw w b o.2.1 x.2.2).sum
  |_=>1
 |.C=>1
theorem rem_pos(w:Nat)(x:Spn)(s:Stg):1≤rem w x s:=by
 obtain⟨a,c,m⟩:=x
 cases s with
 |A=>exact cw_pos w a c m
 |B=>cases a<;>first|exact Nat.le_refl _|(show 1≤2+_;omega)
 |C=>exact Nat.le_refl _
def Cond(T:List Raw)(Ks:List Ent)(S:Spn→Prop)(x:Spn):Stg→Prop
 |.A=>True
 |.B=>match x.1 with
  |.choice a b=>S (zc8 a x.2.1 x.2.2)∧S (zc8 b x.2.1 x.2.2)
  |.beside a _=>S (zc8 a x.2.1 x.2.2)
  |_=>True
 |.C=>match x.1 with
  |.choice a b=>S (zc8 a x.2.1 x.2.2)∧S (zc8 b x.2.1 x.2.2)
  |.beside a b=>∃e∈Ks,EntAt T e (zc8 a x.2.1 x.2.2)∧∀y∈e.E,S (zc8 b y.1 x.2.2)
  |_=>True
theorem Cond.mono{T:List Raw}{Ks Ks':List Ent}{S S':Spn→Prop}(hk:∀e∈Ks,e∈Ks')(hs:∀x,S x→S' x){x:Spn}:∀ {s:Stg},Cond T Ks S x s→Cond T Ks' S' x s:=by
 obtain⟨a,c,m⟩:=x
 intro s h
 cases s with
 |A=>trivial
 |B=>
  cases a with
  |choice a b=>exact⟨hs _ h.1,hs _ h.2⟩
  |beside a b=>exact hs _ h
  |_=>trivial
 |C=>
  cases a with
  |choice a b=>exact⟨hs _ h.1,hs _ h.2⟩
  |beside a b=>obtain⟨e,he,h1,h2⟩:=h;exact⟨e,hk e he,h1,fun y hy=>hs _ (h2 y hy)⟩
  |_=>trivial
def Stk(T:List Raw)(Ks:List Ent):(Spn→Prop)→List (Spn×Stg)→Prop
 |_,[]=>True
 |S,p::r=>Cond T Ks S p.1 p.2∧Stk T Ks (fun y=>S y∨y=p.1) r
theorem Stk.mono{T:List Raw}{Ks Ks':List Ent}(hk:∀e∈Ks,e∈Ks'):∀ {G:List (Spn×Stg)} {S S':Spn→Prop},(∀x,S x→S' x)→Stk T Ks S G→Stk T Ks' S' G
 |[],_,_,_,_=>trivial
 |p::r,S,S',hs,h=>⟨h.1.mono hk hs,Stk.mono hk (fun x hx=>hx.elim (fun z=>.inl (hs x z)) .inr) h.2⟩
theorem Stk.push{T:List Raw}{Ks:List Ent}{r:List (Spn×Stg)}:∀(l:List Spn) {S:Spn→Prop},Stk T Ks (fun y=>S y∨y∈l) r→Stk T Ks S (l.map (fun x=>(x,Stg.A))++r)
 |[],S,h=>Stk.mono (fun _ z=>z) (fun x hx=>hx.elim id (fun z=>by cases z)) h
 |x::l,S,h=>⟨trivial,Stk.push l (Stk.mono (fun _ z=>z) (fun y hy=>by
   rcases hy with z|z
   ·exact .inl (.inl z)
   ·rcases List.mem_cons.mp z with e|z
    ·exact .inl (.inr e)
    ·exact .inr z) h)⟩
def zo0(w:Nat)(G:List (Spn×Stg)):Nat:=(G.map fun p=>rem w p.1 p.2).sum
theorem zx9(w:Nat):∀G:List (Spn×Stg),G.length≤zo0 w G
 |[]=>Nat.zero_le _
 |p::r=>by
  have:=zx9 w r
  have:=rem_pos w p.1 p.2
  show r.length+1≤rem w p.1 p.2+zo0 w r
  omega
theorem sumRem_push(w:Nat)(l:List Spn)(r:List (Spn×Stg)):zo0 w (l.map (fun x=>(x,Stg.A))++r)=(l.map fun y=>cw w y.1 y.2.1 y.2.2).sum+zo0 w r:=by
 unfold zo0
 rw[List.map_append,List.sum_append,List.map_map]
 rfl
def Good(w:Nat)(U:List Spn)(x:Spn):Prop:=zr0 x.1=true∧SmN x.1∧(∀y∈zi7 w x.1 x.2.1 x.2.2,y∈U)∧cw w x.1 x.2.1 x.2.2≤1000000
theorem yf6{w:Nat}{U:List Spn}{a:Nd}{c m:Nat}(h1:SmN a)(h2:∀y∈zi7 w a c m,y∈U)(h3:cw w a c m≤1000000):Good w U (zc8 a c m):=
 ⟨zm9 a c m,h1.spot c m,by rw[zo1] at h2;exact h2,by rw[yg2] at h3;exact h3⟩
theorem yc4(w:Nat)(a:Nd)(c m:Nat):cw w (zc8 a c m).1 (zc8 a c m).2.1 (zc8 a c m).2.2=cw w a c m:=(yg2 w a c m).symm
structure Book(w:Nat)(T:List Raw)(Ks:List Ent):Prop where
 ends:∀e∈Ks,∀a,NdAt T e.i a→EndsOk w [(a,e.m)] e.c e.E
 one:∀e∈Ks,∀e'∈Ks,∀x,EntAt T e x→EntAt T e' x→e=e'
theorem Book.runs{w:Nat}{T:List Raw}{Ks:List Ent}(K:Book w T Ks){e:Ent}(he:e∈Ks){a:Nd}{c m:Nat}(h:EntAt T e (zc8 a c m)):(e.E.map (·.1)).Nodup∧∀y∈e.E,∃s,(s,y.1,y.2)∈zk7 w a c m:=by
 have h1:=K.ends e he _ h.1
 have e2:e.c=c:=h.2.1
 have e3:e.m=(ze6 a c m).2:=h.2.2
 rw[e2,e3] at h1
 refine⟨h1.nodup,fun y hy=>?_⟩
 obtain⟨s,hs⟩:=h1.sound y hy
 rw[zh2] at hs
 exact⟨s,by rw[zp0];exact hs⟩
theorem seconds_sum{w:Nat}{E:Es}{a b:Nd}{c m:Nat}(h1:(E.map (·.1)).Nodup)(h2:∀y∈E,∃s,(s,y.1,y.2)∈zk7 w a c m):((E.map fun y=>zc8 b y.1 m).map fun y=>cw w y.1 y.2.1 y.2.2).sum≤((zk7 w a c m).map fun o=>cw w b o.2.1 m).sum:=by
 have e1:((E.map fun y=>zc8 b y.1 m).map fun y=>cw w y.1 y.2.1 y.2.2)=(E.map (·.1)).map fun k=>cw w b k m:=by
  rw[List.map_map,List.map_map]
  exact List.map_congr_left fun y _=>yc4 w b y.1 m
 have e2:((zk7 w a c m).map fun o=>cw w b o.2.1 m)=((zk7 w a c m).map fun o=>o.2.1).map fun k=>cw w b k m:=by rw[List.map_map];rfl
 rw[e1,e2]
 refine zv9 _ _ _ h1 fun k hk=>?_
 obtain⟨y,hy,rfl⟩:=List.mem_map.mp hk
 obtain⟨s,hs⟩:=h2 y hy
 exact List.mem_map.mpr ⟨_,hs,rfl⟩
theorem miss_good{w:Nat}{T:List Raw}{Ks:List Ent}{U:List Spn}(K:Book w T Ks){x:Spn}{ms:List Spn}(h:Good w U x)(hm:Miss T Ks x ms):∀y∈ms,Good w U y:=by
 obtain⟨a,c,m⟩:=x
 obtain⟨h1,h2,h3,h4⟩:=h
 cases a with
 |choice a b=>
  have hm:if(ze9 (.choice a b)).isSome=true then ms=[] else MissOf T Ks [zc8 a c m,zc8 b c m] ms:=hm
  have h4:2+cw w a c m+cw w b c m≤1000000:=h4
  split at hm
  ·rw[hm];intro y hy;cases hy
  ·intro y hy
   have:=hm.sub.subset hy
   simp only[List.mem_cons,List.not_mem_nil,or_false] at this
   rcases this with rfl|rfl
   ·exact yf6 h2.1 (fun z hz=>h3 z (List.mem_cons_of_mem _ (List.mem_append_left _ hz))) (by omega)
   ·exact yf6 h2.2.1 (fun z hz=>h3 z (List.mem_cons_of_mem _ (List.mem_append_right _ hz))) (by omega)
 |beside a b=>
  have hm:if(ze9 (.beside a b)).isSome=true then ms=[] else(¬Kn T Ks (zc8 a c m)∧MissOf T Ks [zc8 a c m] ms)∨∃e∈Ks,EntAt T e (zc8 a c m)∧MissOf T Ks (e.E.map fun y=>zc8 b y.1 m) ms:=hm
  have h4:3+cw w a c m+((zk7 w a c m).map fun o=>cw w b o.2.1 m).sum≤1000000:=h4
  split at hm
  ·rw[hm];intro y hy;cases hy
  ·intro y hy
   rcases hm with⟨_,hm⟩|⟨e,he,ha,hm⟩
   ·have:=hm.sub.subset hy
    rw[List.mem_singleton.mp this]
    exact yf6 h2.1 (fun z hz=>h3 z (List.mem_cons_of_mem _ (List.mem_append_left _ hz))) (by omega)
   ·obtain⟨z,hz,rfl⟩:=List.mem_map.mp (hm.sub.subset hy)
    obtain⟨s,hs⟩:=(K.runs he ha).2 z hz
    refine yf6 h2.2.1 (fun v hv=>h3 v (List.mem_cons_of_mem _ (List.mem_append_right _ (List.mem_flatMap.mpr ⟨_,hs,hv⟩)))) ?_
    have:=zx8 (fun o:Run=>cw w b o.2.1 m) hs
    have this:cw w b z.1 m≤_:=this
    omega
 |text n=>have hm:ms=[]:=hm;rw[hm];intro y hy;cases hy
 |brk=>have hm:ms=[]:=hm;rw[hm];intro y hy;cases hy
 |nest _ _=>have hm:ms=[]:=hm;rw[hm];intro y hy;cases hy
 |align _=>have hm:ms=[]:=hm;rw[hm];intro y hy;cases hy
theorem miss_ready{T:List Raw}{Ks:List Ent}{x:Spn}(hm:Miss T Ks x []):Ready T Ks x:=by
 obtain⟨a,c,m⟩:=x
 have al:∀ {need:List Spn},MissOf T Ks need []→∀y∈need,Kn T Ks y:=fun h y hy=>(h.all y hy).elim id (fun z=>by cases z)
 cases a with
 |choice a b=>
  intro hn
  have hn:ze9 (.choice a b)=none:=hn
  have hm:if(ze9 (.choice a b)).isSome=true then _ else MissOf T Ks [zc8 a c m,zc8 b c m] []:=hm
  rw[hn,if_neg (by decide:¬((none:Option Nat).isSome=true))] at hm
  exact⟨al hm _ (by simp),al hm _ (by simp)⟩
 |beside a b=>
  intro hn
  have hn:ze9 (.beside a b)=none:=hn
  have hm:if(ze9 (.beside a b)).isSome=true then _ else(¬Kn T Ks (zc8 a c m)∧MissOf T Ks [zc8 a c m] [])∨∃e∈Ks,EntAt T e (zc8 a c m)∧MissOf T Ks (e.E.map fun y=>zc8 b y.1 m) []:=hm
  rw[hn,if_neg (by decide:¬((none:Option Nat).isSome=true))] at hm
  rcases hm with⟨h1,h2⟩|⟨e,he,h1,h2⟩
  ·exact absurd (al h2 _ (by simp)) h1
  ·exact⟨e,he,h1,fun y hy=>al h2 _ (List.mem_map.mpr ⟨y,hy,rfl⟩)⟩
 |_=>trivial
theorem miss_step{w:Nat}{T:List Raw}{Ks:List Ent}(K:Book w T Ks){x:Spn}{st:Stg}{ms:List Spn}(hm:Miss T Ks x ms)(hne:ms≠[])(hc:Cond T Ks (Kn T Ks) x st):
  ∃st',Cond T Ks (fun y=>Kn T Ks y∨y∈ms) x st'∧(ms.map fun y=>cw w y.1 y.2.1 y.2.2).sum+rem w x st'<rem w x st:=by
 obtain⟨a,c,m⟩:=x
 have em:∀ {need:List Spn},MissOf T Ks need ms→(∀y∈need,Kn T Ks y)→False:=fun h hk=>by
  cases ms with
  |nil=>exact hne rfl
  |cons y r=>exact h.no y List.mem_cons_self (hk y (h.sub.subset List.mem_cons_self))
 cases a with
 |choice a b=>
  have hm:if(ze9 (.choice a b)).isSome=true then ms=[] else MissOf T Ks [zc8 a c m,zc8 b c m] ms:=hm
  split at hm
  ·exact absurd hm hne
  ·have kn2:Kn T Ks (zc8 a c m)∧Kn T Ks (zc8 b c m)→False:=fun⟨k1,k2⟩=>em hm fun y hy=>by
    simp only[List.mem_cons,List.not_mem_nil,or_false] at hy
    rcases hy with rfl|rfl
    ·exact k1
    ·exact k2
   cases st with
   |A=>
    refine⟨.B,⟨hm.all _ (by simp),hm.all _ (by simp)⟩,?_⟩
    have h1:=sub_sum (fun y:Spn=>cw w y.1 y.2.1 y.2.2) hm.sub
    simp only[List.map_cons,List.map_nil,List.sum_cons,List.sum_nil,yc4] at h1
    show _+1<2+cw w a c m+cw w b c m
    omega
   |B=>exact(kn2 hc).elim
   |C=>exact(kn2 hc).elim
 |beside a b=>
  have hm:if(ze9 (.beside a b)).isSome=true then ms=[] else(¬Kn T Ks (zc8 a c m)∧MissOf T Ks [zc8 a c m] ms)∨∃e∈Ks,EntAt T e (zc8 a c m)∧MissOf T Ks (e.E.map fun y=>zc8 b y.1 m) ms:=hm
  split at hm
  ·exact absurd hm hne
  ·rcases hm with⟨hn,hm⟩|⟨e,he,ha,hm⟩
   ·cases st with
    |A=>
     refine⟨.B,hm.all _ (by simp),?_⟩
     have h1:=sub_sum (fun y:Spn=>cw w y.1 y.2.1 y.2.2) hm.sub
     simp only[List.map_cons,List.map_nil,List.sum_cons,List.sum_nil,yc4] at h1
     show _+(2+_)<3+cw w a c m+_
     omega
    |B=>exact absurd hc hn
    |C=>
     obtain⟨e,he,ha,_⟩:=hc
     exact absurd ⟨e,he,ha⟩ hn
   ·obtain⟨r1,r2⟩:=K.runs he ha
    have h1:=sub_sum (fun y:Spn=>cw w y.1 y.2.1 y.2.2) hm.sub
    have h2:=seconds_sum (b:=b) r1 r2
    have cC:Cond T Ks (fun y=>Kn T Ks y∨y∈ms) (Nd.beside a b,c,m) .C:=⟨e,he,ha,fun y hy=>hm.all _ (List.mem_map.mpr ⟨y,hy,rfl⟩)⟩
    cases st with
    |A=>
     refine⟨.C,cC,?_⟩
     show _+1<3+cw w a c m+((zk7 w a c m).map fun o=>cw w b o.2.1 m).sum
     omega
    |B=>
     refine⟨.C,cC,?_⟩
     show _+1<2+((zk7 w a c m).map fun o=>cw w b o.2.1 m).sum
     omega
    |C=>
     obtain⟨e',he',ha',hk⟩:=hc
     have:=K.one e he e' he' _ ha ha'
     subst this
     exact(em hm fun y hy=>by obtain⟨z,hz,rfl⟩:=List.mem_map.mp hy;exact hk z hz).elim
 |text n=>exact absurd hm hne
 |brk=>exact absurd hm hne
 |nest _ _=>exact absurd hm hne
 |align _=>exact absurd hm hne
theorem SrAt.book{CN C:Addr}{H:Hp}{g:Gh}{Ks:List Ent}(S:SrAt CN C H g Ks):Book g.w g.T Ks:=
 ⟨fun e he a ha=>by
  obtain⟨a',h1,_,h3⟩:=(S.ok e he).at_
  rw[NdAt.one ha h1];exact h3,fun e he e' he' x h h'=>ent_one S he he' h h'⟩
end Pq
namespace Pq
open PySem L2
structure LoopI(CN C:Addr)(H:Hp)(g:Gh)(Ks:List Ent)(i c m:Nat)(a:Nd)(t W:Addr)(n:Nat)(σ:St)(H':Hp)(G:List (Spn×Stg))(ws:List Addr)(Ks':List Ent):Prop where
 st_:∃v6 v7:Option V,σ=[some (.ref g.s),some (.int (i:Nat)),some (.int (c:Nat)),some (.int (m:Nat)),some (.ref t),some (.ref W),v6,v7]
 n_:n=zo0 g.w G
 le:n≤1000000
 at_:SrAt CN C H' g Ks'
 sub:∀e∈Ks,e∈Ks'
 but:But1 g.kn H H'
 atW:H' W=some (.lst (ws.map V.ref))
 plW:Paired (SpotAt H' g.T) ws (G.map (·.1)).reverse
 good:∀p∈G,Good g.w g.U p.1
 stk:Stk g.T Ks' (Kn g.T Ks') G
 want:Kn g.T Ks' (zc8 a c m)∨zc8 a c m∈G.map (·.1)
 spot:SpotAt H' g.T t (zc8 a c m)
theorem Kn.mono{T:List Raw}{Ks Ks':List Ent}(h:∀e∈Ks,e∈Ks'){x:Spn}:Kn T Ks x→Kn T Ks' x:=fun⟨e,he,q⟩=>⟨e,h e he,q⟩
section
variable {P:Program}{w:World}{K:PySem.W.Frag}{mg:Str→Option Value}{base:Heap}{f:Addr}{fd:FuncData}{CN C:Addr}
set_option maxHeartbeats 8000000 in
theorem ok_seEnds1{fS fM fW:Addr}{sD mD wD:FuncData}(F:Fun K "ends_of" "Search.ends_of" zp6 f fd)(T:Srs K mg C)(SP:MO P w K mg base C CX0 1 fS sD "spot_of" psEn (yi1 CN C))
  (MM:MO P w K mg base C CX0 2 fM mD "missing_for" ["self","spot"] (seMiss CN C)) (WO:MO P w K mg base C CX0 4 fW wD "worked_out" ["self","spot"] (seWork CN C)):FnOk P w K mg base CX0 5 f fd psEn (yi2 CN C false):=by
 refine F.okq scEn (fun vs H Q E h=>?_) (fun cdv A outer s H vs Q E hr h=>?_)
 ·obtain⟨g,Ks,i,c,m,a,rfl,_⟩:=h
  rfl
 obtain⟨g,Ks,i,c,m,a,rfl,S,hi,hsm,hU,hcw,_,q⟩:=h
 have nd:=scEn.nd
 have hr1:Room 1 _:=hr.mono (by decide)
 have hr2:Room 2 _:=hr.mono (by decide)
 have hu1:=hr.units
 have hu:(A.deeper (PyProof.Rows.envOfC "Search.ends_of" (za7 zp6) s.heap.objs.size f cdv)).units+1<cLine:=by omega
 refine⟨_,za1 (zb2 (i:=4) nd rfl (Or.inl rfl) (zc2 (pvq 0) T.cl SP.m SP.ok hr1 SP.b .nil zc7 (za2 (pvq 1) (za2 (pvq 2) (za2 (pvq 3) za3)))))<|
  za1 (zb2 (i:=5) nd rfl (Or.inl rfl) (zd4 (za2 (pvq 4) za3)))<|
  za1 (zl5 PassesOwn.never (zl4 (pvq 5) (fun _=>rfl)) (
   za1 (zb2 (i:=6) nd rfl (Or.inl rfl) (zb1 zf8 (pvq 5) (yd8 yc6 za5) (fun _ _=>rfl)))<|
   za1 (zb2 (i:=7) nd rfl (Or.inl rfl) (zk1 (zj9 (pc_dinq hu (pvq 6) (zd3 (pvq 0) rfl))) (zd4 za3) (zc2 (pvq 0) T.cl MM.m MM.ok hr2 MM.b .nil zc7 (za2 (pvq 6) za3))))<|
   za1 (zd0 (zl4 (pvq 7) (fun _=>rfl)) (za1 (ze1 (zh8 PySem.F.plainAttrs_list PySem.F.slot_list_extend PySem.F.type_list_extend zp1 (pvq 5) (za2 (pvq 7) za3))) (za6 zr9)) zb9)<|
   za1 (ze1 (zu6 PySem.F.plainAttrs_list PySem.F.slot_list_pop PySem.F.type_list_pop ye6 (pvq 5)))<|
   za6 (zd0 (zj9 (zo7 hu (pvq 6) (zd3 (pvq 0) rfl))) (za6 (zw5 hu (zd3 (pvq 0) rfl) (pvq 6) (ym7 (zc2 (pvq 0) T.cl WO.m WO.ok hr WO.b .nil zc7 (za2 (pvq 6) za3))) rfl)) zb9)))<|
  za6 (zb4 (zm4 hu (zd3 (pvq 0) rfl) (pvq 4) (fun _ _=>rfl))),?_⟩
 obtain⟨dx,ho⟩:=S.ob
 have hkn0:=S.kn
 refine⟨_,rfl,g.s,dx,_,rfl,ho,zm3 _ _ _ (by decide +kernel) (by decide +kernel) (by decide +kernel),_,rfl,_,rfl,_,rfl,g.s,g.n,g.la,g.na,g.ga,g.kn,dx,g.T,g.L,g.w,i,c,m,a,rfl,ho,S.no,hi,fun t H1 s1 n1 ht=>?_⟩
 refine⟨_,rfl,(by show 1≤sizeLine;decide),fun W hW=>?_⟩
 have s2:=za4 hW (.lst [.ref t])
 have nW:H W=none:=s1.free hW
 have nWl:W≠g.la:=fun z=>by obtain⟨as,hla,_⟩:=S.no.li;rw[z,hla] at nW;cases nW
 have nWg:W≠g.ga:=fun z=>by rw[z,S.no.le] at nW;cases nW
 have nWk:W≠g.kn:=fun z=>by rw[z,hkn0] at nW;cases nW
 have gd0:Good g.w g.U (zc8 a c m):=yf6 hsm hU hcw
 have hrem:zo0 g.w [(zc8 a c m,Stg.A)]=cw g.w a c m:=by
  show cw g.w _ _ _+0=_
  rw[yc4];rfl
 refine⟨fun n σ H'=>∃G ws Ks',LoopI CN C H g Ks i c m a t W n σ H' G ws Ks',⟨zo0 g.w [(zc8 a c m,Stg.A)],[(zc8 a c m,Stg.A)],[t],Ks, ?init⟩, ?turn⟩
 case init=>
  refine⟨⟨_,_,rfl⟩,rfl,by rw[hrem];exact hcw,S.mono (s1.trans s2),fun e he=>he,But1.of (s1.trans s2),za0,.cons (ht.mono (.of s2)) .nil,fun p hp=>by rw[List.mem_singleton.mp hp];exact gd0,⟨trivial,trivial⟩,.inr (by simp),ht.mono (.of s2)⟩
 case turn=>
  rintro n σ H' ⟨G,ws,Ks',I⟩
  obtain⟨v6,v7,rfl⟩:=I.st_
  refine⟨_,rfl,_,.inl ⟨_,SqL.of I.atW,rfl⟩,?_⟩
  obtain⟨dx',ho'⟩:=I.at_.ob
  cases G with
  |nil=>
   have ew:ws=[]:=by have:=I.plW;cases this;rfl
   subst ew
   refine zc3 (by simp) ?_
   have hk:Kn g.T Ks' (zc8 a c m):=by rcases I.want with z|z;exact z;cases z
   rcases zx3 I.at_ (Same.refl _) I.spot with⟨e,he,ha,hg⟩|⟨hn,_⟩
   ·have ok0:=I.at_.ok e he
    refine⟨_,rfl,g.s,C,dx',_,_,rfl,ho',T.cl,T.nKn,zi3 _ _ _,_,rfl,g.kn,_,rfl,hg,?_⟩
    have h3:=I.at_.book.ends e he _ ha.1
    have e2:e.c=c:=ha.2.1
    have e3:e.m=(ze6 a c m).2:=ha.2.2
    rw[e2,e3] at h3
    exact q e.d e.o e.E Ks' H' I.at_ I.sub I.but ok0.frz (zq7 a c m h3) ok0.len (fun z=>by cases z)
   ·exact absurd hk hn
  |cons p rst=>
   obtain⟨x,sg⟩:=p
   obtain⟨ys,tx,ex,hys,hx⟩:∃ys tx,ws=ys++[tx]∧Paired (SpotAt H' g.T) ys (rst.map (·.1)).reverse∧SpotAt H' g.T tx x:=by
    have z:=I.plW
    rw[List.map_cons,List.reverse_cons] at z
    exact zh9 z
   subst ex
   refine zd1 (by simp) ?_
   have gx:=I.good _ List.mem_cons_self
   have hc:=I.stk.1
   have hst:=I.stk.2
   have hle:=I.le
   have hn:=I.n_
   have hrp:=rem_pos g.w x sg
   have hsr:zo0 g.w ((x,sg)::rst)=rem g.w x sg+zo0 g.w rst:=rfl
   have hlast:atI ((ys++[tx]).map V.ref) (-1)=some (.ref tx):=by rw[List.map_append];exact atI_last _ _
   refine⟨fun σ' H''=>∃n',n'<n∧∃G ws Ks',LoopI CN C H g Ks i c m a t W n' σ' H'' G ws Ks',fun _ _ z=>z,?_⟩
   refine⟨_,rfl,_,rfl,W,_,_,.ref tx,rfl,rfl,SqL.of I.atW,hlast,?_⟩
   have epop:((ys++[tx]).map V.ref).dropLast=ys.map V.ref:=by rw[List.map_append];exact List.dropLast_concat
   have elst:((ys++[tx]).map V.ref)[((ys++[tx]).map V.ref).length - 1]? = some (.ref tx):=by simp
   have popped:∀(H5:Hp) (Ks5:List Ent) (v6 v7:Option V),SrAt CN C H5 g Ks5→(∀e∈Ks',e∈Ks5)→But1 g.kn H H5→H5 W=some (.lst (ys.map V.ref))→Tups H' H5→Kn g.T Ks5 x→∃n',n'<n∧∃G ws Ks',LoopI CN C H g Ks i c m a t W n' [some (.ref g.s),some (.int (i:Nat)),some (.int (c:Nat)),some (.int (m:Nat)),some (.ref t),some (.ref W),v6,v7] H5 G ws Ks':=fun H5 Ks5 v6 v7 S5 sub5 b5 w5 t5 k5=>by
    refine⟨zo0 g.w rst,by omega,rst,ys,Ks5,⟨_,_,rfl⟩,rfl,by omega,S5,fun e he=>sub5 e (I.sub e he),b5,w5,Paired.mapP hys fun _ _ z=>z.mono t5,fun p hp=>I.good p (List.mem_cons_of_mem _ hp),Stk.mono sub5 (fun y hy=>?_) hst,?_,I.spot.mono t5⟩
    ·rcases hy with z|rfl
     ·exact z.mono sub5
     ·exact k5
    ·rcases I.want with z|z
     ·exact .inl (z.mono sub5)
     ·rcases List.mem_cons.mp z with e|z
      ·exact .inl (by rw[e];exact k5)
      ·exact .inr z
   refine⟨_,rfl,_,rfl,g.s,C,dx',_,_,rfl,ho',T.cl,T.nKn,zi3 _ _ _,?_⟩
   rcases zx3 I.at_ (Same.refl _) hx with⟨e,he,ha,hg⟩|⟨hnk,hg⟩
   ·
    refine⟨g.kn,_,rfl,hg,_,rfl,zd1 rfl ⟨(by show 0≤sizeLine;decide),fun M hM=>?_⟩⟩
    have s4:=za4 hM (.lst [])
    refine⟨_,rfl,_,.inl ⟨_,SqL.of za0,rfl⟩,zc3 (by intro z;cases z) ?_⟩
    have w4:=s4 _ _ I.atW
    have S4:=I.at_.mono s4
    have b4:But1 g.kn H (upd H' M (.lst [])):=I.but.trans (But1.of s4)
    have t4:Tups H' (upd H' M (.lst [])):=.of s4
    generalize upd H' M (.lst [])=H4 at s4 w4 S4 b4 t4
    refine⟨_,rfl,.inl ⟨rfl,_,SqL.of w4⟩,W,_,_,rfl,rfl,w4,elst,?_⟩
    rw[epop]
    have S5:=S4.list w4 nWl nWg (ys.map V.ref)
    have b5:But1 g.kn H (upd H4 W (.lst (ys.map V.ref))):=fun x ob e hx=>by rw[za9 (za8 e nW)];exact b4 _ _ e hx
    have t5:Tups H' (upd H4 W (.lst (ys.map V.ref))):=t4.trans (zc6 w4)
    have w5:(upd H4 W (.lst (ys.map V.ref))) W=some (.lst (ys.map V.ref)):=za0
    generalize upd H4 W (.lst (ys.map V.ref))=H5 at S5 b5 t5 w5
    obtain⟨dx5,ho5⟩:=S5.ob
    rcases zx3 S5 (Same.refl _) (hx.mono t5) with⟨e',he',ha',hg'⟩|⟨hn',_⟩
    ·refine⟨_,rfl,_,rfl,g.s,C,dx5,_,_,rfl,ho5,T.cl,T.nKn,zi3 _ _ _,g.kn,_,rfl,hg',_,rfl,zc3 (by intro z;cases z) ?_⟩
     exact popped H5 Ks' _ _ S5 (fun e he=>he) b5 w5 t5 ⟨e,he,ha⟩
    ·exact absurd ⟨e,he,ha⟩ hn'
   ·refine⟨g.kn,_,rfl,hg,_,rfl,zc3 (by intro z;cases z) ?_⟩
    refine⟨_,rfl,g.s,dx',_,rfl,ho',zm3 _ _ _ (by decide +kernel) (by decide +kernel) (by decide +kernel),_,rfl,?_⟩
    refine⟨g,Ks',tx,x,rfl,I.at_,hx,gx.1,fun M tms ms H4 s4 n4 e4 P4 hms=>?_⟩
    have w4:=s4 _ _ I.atW
    have S4:=I.at_.mono s4
    have b4:But1 g.kn H H4:=I.but.trans (But1.of s4)
    have t4:Tups H' H4:=.of s4
    have hml:=Paired.length P4
    have nMW:M≠W:=fun z=>by rw[z,I.atW] at n4;cases n4
    refine⟨_,rfl,_,.inl ⟨_,SqL.of e4,rfl⟩,?_⟩
    cases hmn:ms with
    |nil=>
     subst hmn
     have etm:tms=[]:=by cases P4;rfl
     subst etm
     refine zc3 (by intro z;cases z) ?_
     refine⟨_,rfl,.inl ⟨rfl,_,SqL.of w4⟩,W,_,_,rfl,rfl,w4,elst,?_⟩
     rw[epop]
     have S5:=S4.list w4 nWl nWg (ys.map V.ref)
     have b5:But1 g.kn H (upd H4 W (.lst (ys.map V.ref))):=fun x ob e hx=>by rw[za9 (za8 e nW)];exact b4 _ _ e hx
     have t5:Tups H' (upd H4 W (.lst (ys.map V.ref))):=t4.trans (zc6 w4)
     have w5:(upd H4 W (.lst (ys.map V.ref))) W=some (.lst (ys.map V.ref)):=za0
     generalize upd H4 W (.lst (ys.map V.ref))=H5 at S5 b5 t5 w5
     obtain⟨dx5,ho5⟩:=S5.ob
     have hx5:=hx.mono t5
     rcases zx3 S5 (Same.refl _) hx5 with⟨e',he',ha',hg'⟩|⟨hn',hg'⟩
     ·exact absurd ⟨e',he',ha'⟩ hnk
     ·refine⟨_,rfl,_,rfl,g.s,C,dx5,_,_,rfl,ho5,T.cl,T.nKn,zi3 _ _ _,g.kn,_,rfl,hg',_,rfl,zd1 rfl ?_⟩
      refine⟨_,rfl,g.s,dx5,_,rfl,ho5,zm3 _ _ _ (by decide +kernel) (by decide +kernel) (by decide +kernel),_,rfl,?_⟩
      refine⟨g,Ks',tx,x,rfl,S5,hx5,gx.1,gx.2.1,gx.2.2.1,gx.2.2.2,miss_ready hms,fun d E6 H6 s6 n6 e6 hE6 l6=>?_⟩
      refine⟨d,_,rfl,e6,fun o6=>?_⟩
      obtain⟨ix,hix,hin⟩:=hx5
      have S6:=S5.mono s6
      have hix6:=s6 _ _ hix
      obtain⟨dx6,ho6⟩:=S6.ob
      have hkn6:=S6.kn
      have nds:g.s≠d:=ze5 ho6 e6 (by intro z;cases z)
      have ndk:g.kn≠d:=ze5 hkn6 e6 (by intro z;cases z)
      have ndt:tx≠d:=ze5 hix6 e6 (by intro z;cases z)
      have kl:=ent_rel S6
      have kun:=S6.un
      have hvn:ya6 (Ks'.map zs4) (keyL ix x.2.1 x.2.2)=none:=by
       rcases val_spot S6 (c:=x.2.1) (m:=x.2.2) hin with⟨e',he',ha',_⟩|⟨_,z⟩
       ·exact absurd ⟨e',he',ha'⟩ hnk
       ·exact z
      refine⟨_,rfl,g.s,C,dx6,_,_,rfl,(by rw[za9 nds];exact ho6),T.cl,T.nKn,zi3 _ _ _,_,rfl,g.kn,_,rfl,DPut.t (k:=keyL ix x.2.1 x.2.2) (by rw[za9 ndk];exact hkn6) (by rw[za9 ndt];exact hix6) (Nat.lt_of_lt_of_le (show(Ks'.map zs4).length<1000001 by rw[List.length_map];omega) (zd2 (by omega))),?_⟩
      rw[putK_new _ hvn]
      have ekv:Ks'.map zs4++[(keyL ix x.2.1 x.2.2,V.ref d)]=(Ks'++[Ent.mk ix x.2.1 x.2.2 d o6 E6]).map zs4:=by rw[List.map_append];rfl
      rw[ekv]
      have nn:∀ {b:Addr} {ob:HO},H6 b=some ob→b≠g.kn→b≠d→(upd (upd H6 d (.frz o6 (.dK (zj2 E6)))) g.kn (.dT ((Ks'++[Ent.mk ix x.2.1 x.2.2 d o6 E6]).map zs4))) b=some ob:=fun e h1 h2=>by rw[za9 h1,za9 h2];exact e
      have t7:Tups H6 (upd (upd H6 d (.frz o6 (.dK (zj2 E6)))) g.kn (.dT ((Ks'++[Ent.mk ix x.2.1 x.2.2 d o6 E6]).map zs4))):=fun b xs e=>nn e (ze5 e hkn6 (by intro z;cases z)) (ze5 e e6 (by intro z;cases z))
      have kna:=S.knna
      have S7:SrAt CN C (upd (upd H6 d (.frz o6 (.dK (zj2 E6)))) g.kn (.dT ((Ks'++[Ent.mk ix x.2.1 x.2.2 d o6 E6]).map zs4))) g (Ks'++[Ent.mk ix x.2.1 x.2.2 d o6 E6]):=by
       obtain⟨_,h2,h3,h4,h5,h6,h7⟩:=S6
       obtain⟨⟨dxn,g1⟩,⟨as,g2,g3⟩,g4,g5,g6,g7⟩:=h2
       refine⟨⟨dx6,nn ho6 (ze5 ho6 hkn6 (by intro z;cases z)) nds⟩,⟨⟨dxn,nn g1 (ze5 g1 hkn6 (by intro z;cases z)) (ze5 g1 e6 (by intro z;cases z))⟩,⟨as,nn g2 (ze5 g2 hkn6 (by intro z;cases z)) (ze5 g2 e6 (by intro z;cases z)),g3.mono t7⟩,nn g4 kna.symm (ze5 g4 e6 (by intro z;cases z)),nn g5 (ze5 g5 hkn6 (by intro z;cases z)) (ze5 g5 e6 (by intro z;cases z)),g6,g7⟩,za0,?_,fun e he=>?_,h6,h7⟩
       ·rw[List.map_append]
        refine nd_snoc h4 fun z=>?_
        obtain⟨e',he',ee⟩:=List.mem_map.mp z
        have ee:(e'.i,e'.c,e'.m)=(ix,x.2.1,x.2.2):=ee
        have e1:e'.i=ix:=congrArg (·.1) ee
        have e2:e'.c=x.2.1:=congrArg (·.2.1) ee
        have e3:e'.m=x.2.2:=congrArg (·.2.2) ee
        exact hnk ⟨e',he',by rw[e1];exact hin,e2,e3⟩
       ·rcases List.mem_append.mp he with z|z
        ·have ok0:=h5 e z
         exact⟨ok0.at_,nn ok0.frz (ze5 ok0.frz hkn6 (by intro z;cases z)) (ze5 ok0.frz e6 (by intro z;cases z)),ok0.len⟩
        ·rw[List.mem_singleton.mp z]
         refine⟨⟨x.1,hin,?_,hE6⟩,by rw[za9 ndk.symm,za0],l6⟩
         have:=gx.2.2.1 _ (spots_self g.w x.1 x.2.1 x.2.2)
         rw[spotN_of gx.1] at this
         exact this
      have w7:(upd (upd H6 d (.frz o6 (.dK (zj2 E6)))) g.kn (.dT ((Ks'++[Ent.mk ix x.2.1 x.2.2 d o6 E6]).map zs4))) W=some (.lst (ys.map V.ref)):=nn (s6 _ _ w5) nWk (ze5 (s6 _ _ w5) e6 (by intro z;cases z))
      have b7:But1 g.kn H (upd (upd H6 d (.frz o6 (.dK (zj2 E6)))) g.kn (.dT ((Ks'++[Ent.mk ix x.2.1 x.2.2 d o6 E6]).map zs4))):=fun b ob e hb=>nn (s6 _ _ (b5 _ _ e hb)) hb (fun z=>by rw[z] at e hb;have:=b5 _ _ e hb;rw[n6] at this;cases this)
      exact popped _ (Ks'++[Ent.mk ix x.2.1 x.2.2 d o6 E6]) _ _ S7 (fun e he=>List.mem_append_left _ he) b7 w7 (t5.trans ((Tups.of s6).trans t7)) ⟨_,List.mem_append_right _ (List.mem_singleton.mpr rfl),hin,rfl,rfl⟩
    |cons y0 r0=>
     have hne:ms≠[]:=by rw[hmn];intro z;cases z
     have htn:tms≠[]:=fun z=>by rw[z,hmn] at hml;cases hml
     refine zd1 (by cases tms with|nil=>exact absurd rfl htn|cons _ _=>rfl) ?_
     obtain⟨st',c',lt'⟩:=miss_step (x:=x) (st:=sg) I.at_.book hms hne hc
     have gms:=miss_good I.at_.book gx hms
     have hsum:((ms.reverse).map fun y=>cw g.w y.1 y.2.1 y.2.2).sum=(ms.map fun y=>cw g.w y.1 y.2.1 y.2.2).sum:=by rw[List.map_reverse,List.sum_reverse]
     have hnew:zo0 g.w (ms.reverse.map (fun x=>(x,Stg.A))++(x,st')::rst)<n:=by
      rw[sumRem_push,hsum]
      have lt':(ms.map fun y=>cw g.w y.1 y.2.1 y.2.2).sum+rem g.w x st'<rem g.w x sg:=lt'
      show _+(rem g.w x st'+zo0 g.w rst)<n
      omega
     have hwl:=zx9 g.w ((x,sg)::rst)
     have hnl:=zx9 g.w (ms.reverse.map (fun x=>(x,Stg.A))++(x,st')::rst)
     rw[List.length_append,List.length_map,List.length_reverse,List.length_cons] at hnl
     have hyl:=Paired.length hys
     rw[List.length_reverse,List.length_map] at hyl
     refine⟨_,rfl,.inl ⟨rfl,_,SqL.of w4⟩,_,rfl,W,M,_,_,rfl,rfl,w4,e4,Nat.le_trans (show((ys++[tx]).map V.ref).length+(tms.map V.ref).length≤1000001 by rw[List.length_map,List.length_append,List.length_map,List.length_singleton];omega) (zd2 (by omega)),?_⟩
     have u5:Tups H4 (upd H4 W (.lst ((ys++[tx]).map V.ref++tms.map V.ref))):=zc6 w4
     have S5:=S4.list w4 nWl nWg ((ys++[tx]).map V.ref++tms.map V.ref)
     refine⟨_,hnew,ms.reverse.map (fun x=>(x,Stg.A))++(x,st')::rst,(ys++[tx])++tms,Ks',⟨_,_,rfl⟩,rfl,by omega,S5,I.sub,fun b ob e hb=>by rw[za9 (za8 e nW)];exact b4 _ _ e hb,by rw[za0,List.map_append (l₁:=ys++[tx])],?_,fun p hp=>?_,Stk.push _ ⟨c'.mono (fun _ z=>z) (fun y hy=>hy.elim .inl (fun z=>.inr (List.mem_reverse.mpr z))),Stk.mono (fun _ z=>z) (fun y hy=>hy.elim (fun z=>.inl (.inl z)) .inr) hst⟩,?_,(I.spot.mono t4).mono u5⟩
     ·have er:((ms.reverse.map (fun x=>(x,Stg.A))++(x,st')::rst).map (·.1)).reverse=((rst.map (·.1)).reverse++[x])++ms:=by
       rw[List.map_append,List.map_map,List.reverse_append,List.map_cons,List.reverse_cons]
       congr 1
       have:(ms.reverse.map ((·.1)∘fun x=>(x,Stg.A)))=ms.reverse:=by
        conv=>rhs;rw[←List.map_id ms.reverse]
        rfl
       rw[this,List.reverse_reverse]
      rw[er]
      exact zd5 (zd5 (Paired.mapP hys fun _ _ z=>(z.mono t4).mono u5) (.cons ((hx.mono t4).mono u5) .nil)) (Paired.mapP P4 fun _ _ z=>z.mono u5)
     ·rcases List.mem_append.mp hp with z|z
      ·obtain⟨y,hy,rfl⟩:=List.mem_map.mp z
       exact gms y (List.mem_reverse.mp hy)
      ·rcases List.mem_cons.mp z with rfl|z
       ·exact gx
       ·exact I.good p (List.mem_cons_of_mem _ z)
     ·rcases I.want with z|z
      ·exact .inl z
      ·refine .inr ?_
       rw[List.map_append]
       exact List.mem_append_right _ z
end
end Pq
namespace Pq
open PySem L2
def Reach(w:Nat)(U:List Spn):Sq→Nat→Prop
 |[],_=>True
 |x::r,c=>(∀y∈zi7 w x.1 c x.2,y∈U)∧cw w x.1 c x.2≤1000000∧∀o∈zk7 w x.1 c x.2,Reach w U r o.2.1
structure SqOk(w:Nat)(U:List Spn)(q:Sq)(c:Nat):Prop where
 sm:∀p∈q,SmN p.1
 few:∀k,cnt 1 (q.take k)≤63
 reach:Reach w U q c
theorem reach_at{w:Nat}{U:List Spn}:∀ {q:Sq} {c j:Nat} {a:Nd} {m:Nat},Reach w U q c→q[j]? = some (a,m)→∀o∈zl7 w (q.take j) c,(∀y∈zi7 w a o.2.1 m,y∈U)∧cw w a o.2.1 m≤1000000
 |[],c,j,a,m,_,h,_,_=>by simp at h
 |x::r,c,0,a,m,hr,h,o,ho=>by
  have h:x=(a,m):=by simpa using h
  subst h
  have ho:o∈[([],c,0)]:=ho
  rw[List.mem_singleton.mp ho]
  exact⟨hr.1,hr.2.1⟩
 |x::r,c,j+1,a,m,hr,h,o,ho=>by
  have h:r[j]? = some (a,m):=by simpa using h
  obtain⟨o1,h1,o2,h2,rfl⟩:=mem_bindR.mp (show o∈zh5 (zk7 w x.1 c x.2) (fun e=>zl7 w (r.take j) e) from ho)
  exact reach_at (hr.2.2 o1 h1) h o2 h2
theorem yh6{a b:Nd}:tot a≤tot (.choice a b)∧tot b≤tot (.choice a b):=by
 cases hn:ze9 (.choice a b) with
 |some l=>
  have hn':zs7 min (ze9 a) (ze9 b)=some l:=hn
  cases ha:ze9 a with
  |none=>rw[ha] at hn';cases hn'
  |some la=>
   cases hb:ze9 b with
   |none=>rw[ha,hb] at hn';cases hn'
   |some lb=>
    unfold tot
    rw[zg8 _ hn,zg8 _ ha,zg8 _ hb]
    exact⟨Nat.le_refl _,Nat.le_refl _⟩
 |none=>
  have e0:ze3 (.choice a b)=((ze3 a).1++(ze3 b).1,(ze3 a).2++(ze3 b).2):=by
   have hn:zs7 min (ze9 a) (ze9 b)=none:=hn
   conv=>lhs;unfold ze3
   rw[hn]
  unfold tot
  rw[e0]
  simp only[List.length_append]
  omega
theorem yh7{a b:Nd}:(ze3 b).1.length+(ze3 b).2.length*tot a=tot (.beside a b):=by
 cases hn:ze9 (.beside a b) with
 |some l=>
  have hn':zs7 (· + ·) (ze9 a) (ze9 b)=some l:=hn
  cases ha:ze9 a with
  |none=>rw[ha] at hn';cases hn'
  |some la=>
   cases hb:ze9 b with
   |none=>rw[ha,hb] at hn';cases hn'
   |some lb=>
    unfold tot
    rw[zg8 _ hn,zg8 _ ha,zg8 _ hb]
    rfl
 |none=>
  have h:=yk8 (m:=0) hn
  rw[←h]
  show _=(ze3 b).1.length+(ze3 b).2.length*((ze3 a).1.length+(ze3 a).2.length*1)
  rw[Nat.mul_one];rfl
theorem zm2:∀(a:Nd) (c m:Nat),tot (ze6 a c m).1=tot a
 |.nest k a,c,m=>by
  have:=zm2 a c (m+k)
  refine Eq.trans this ?_
  unfold tot
  show _=((ze3 a).1.map _).length+(ze3 a).2.length
  rw[List.length_map]
 |.align a,c,m=>by
  have:=zm2 a c c
  refine Eq.trans this ?_
  unfold tot
  show _=0+((ze3 a).1++(ze3 a).2).length
  rw[List.length_append,Nat.zero_add]
 |.text _,_,_=>rfl
 |.brk,_,_=>rfl
 |.beside _ _,_,_=>rfl
 |.choice _ _,_,_=>rfl
theorem SmN.tot:∀ {a:Nd},SmN a→tot a≤63
 |.text n,_=>by simp[Pq.tot,ze3]
 |.brk,_=>by simp[Pq.tot,ze3]
 |.nest k a,h=>by rw[←zm2 (.nest k a) 0 0,zm2 (.nest k a) 0 0];have:=SmN.tot (a:=a) h;have e:=zm2 (.nest k a) 0 0;have e2:=zm2 a 0 (0+k);have:Pq.tot (.nest k a)=Pq.tot a:=e.symm.trans e2;omega
 |.align a,h=>by have:=SmN.tot (a:=a) h;have e:=zm2 (.align a) 0 0;have e2:=zm2 a 0 0;have:Pq.tot (.align a)=Pq.tot a:=e.symm.trans e2;omega
 |.beside a b,h=>h.2.2
 |.choice a b,h=>h.2.2
theorem cnt_mono:∀(q:Sq) {n n':Nat},n≤n'→cnt n q≤cnt n' q
 |[],_,_,h=>h
 |x::q,n,n',h=>cnt_mono q (Nat.add_le_add_left (Nat.mul_le_mul_left _ h) _)
theorem cnt_cons(a:Nd)(m:Nat)(q:Sq):cnt 1 ((a,m)::q)=cnt (tot a) q:=by show cnt ((ze3 a).1.length+(ze3 a).2.length*1) q=_;rw[Nat.mul_one];rfl
theorem zu1{a:Nd}{m:Nat}{r:Sq}(h:∀k,cnt 1 (((a,m)::r).take k)≤63)(k:Nat):cnt (tot a) (r.take k)≤63:=by rw[←cnt_cons a m];exact h (k+1)
theorem few_of{a:Nd}{m:Nat}{r:Sq}(h:∀k,cnt (tot a) (r.take k)≤63)(k:Nat):cnt 1 (((a,m)::r).take k)≤63:=by
 cases k with
 |zero=>show 1≤63;decide
 |succ k=>show cnt 1 ((a,m)::r.take k)≤63;rw[cnt_cons];exact h k
theorem lrun_spot(w:Nat)(a:Nd)(m:Nat)(r:Sq)(c:Nat):zl7 w ((a,m)::r) c=zl7 w (ze6 a c m::r) c:=by
 show zh5 (zk7 w a c m) _=zh5 (zk7 w (ze6 a c m).1 c (ze6 a c m).2) _
 rw[←zp0]
theorem SqOk.spot{w:Nat}{U:List Spn}{a:Nd}{m:Nat}{r:Sq}{c:Nat}(h:SqOk w U ((a,m)::r) c):SqOk w U (ze6 a c m::r) c:=by
 obtain⟨h1,h2,h3,h4,h5⟩:=h
 refine⟨fun p hp=>?_,few_of fun k=>?_,?_⟩
 ·rcases List.mem_cons.mp hp with rfl|hp
  ·exact(h1 _ List.mem_cons_self).spot c m
  ·exact h1 p (List.mem_cons_of_mem _ hp)
 ·rw[zm2];exact zu1 h2 k
 ·refine⟨?_,?_,?_⟩
  ·rw[←zo1];exact h3
  ·rw[←yg2];exact h4
  ·rw[←zp0];exact h5
theorem SqOk.text{w:Nat}{U:List Spn}{n m:Nat}{r:Sq}{c:Nat}(h:SqOk w U ((.text n,m)::r) c):SqOk w U r (c+n):=by
 obtain⟨h1,h2,h3,h4,h5⟩:=h
 exact⟨fun p hp=>h1 p (List.mem_cons_of_mem _ hp),fun k=>zu1 h2 k,h5 _ (List.mem_singleton.mpr rfl)⟩
theorem SqOk.brk{w:Nat}{U:List Spn}{m:Nat}{r:Sq}{c:Nat}(h:SqOk w U ((.brk,m)::r) c):SqOk w U r m:=by
 obtain⟨h1,h2,h3,h4,h5⟩:=h
 exact⟨fun p hp=>h1 p (List.mem_cons_of_mem _ hp),fun k=>zu1 h2 k,h5 _ (List.mem_singleton.mpr rfl)⟩
theorem SqOk.beside{w:Nat}{U:List Spn}{a b:Nd}{m:Nat}{r:Sq}{c:Nat}(h:SqOk w U ((.beside a b,m)::r) c):SqOk w U ((a,m)::(b,m)::r) c:=by
 obtain⟨h1,h2,h3,h4,h5⟩:=h
 have s0:SmN (.beside a b):=h1 _ List.mem_cons_self
 have h4:3+cw w a c m+((zk7 w a c m).map fun o=>cw w b o.2.1 m).sum≤1000000:=h4
 refine⟨fun p hp=>?_,fun k=>?_,?_⟩
 ·rcases List.mem_cons.mp hp with rfl|hp
  ·exact s0.1
  ·rcases List.mem_cons.mp hp with rfl|hp
   ·exact s0.2.1
   ·exact h1 p (List.mem_cons_of_mem _ hp)
 ·cases k with
  |zero=>show 1≤63;decide
  |succ k=>
   cases k with
   |zero=>show cnt 1 [(a,m)]≤63;rw[cnt_one];exact s0.1.tot
   |succ k=>
    show cnt 1 ((a,m)::(b,m)::r.take k)≤63
    rw[cnt_cons]
    show cnt ((ze3 b).1.length+(ze3 b).2.length*tot a) (r.take k)≤63
    rw[yh7]
    exact zu1 h2 k
 ·refine⟨fun y hy=>h3 y (List.mem_cons_of_mem _ (List.mem_append_left _ hy)),(by show cw w a c m≤_;omega),fun o ho=>⟨fun y hy=>h3 y (List.mem_cons_of_mem _ (List.mem_append_right _ (List.mem_flatMap.mpr ⟨o,ho,hy⟩))),?_,fun o2 ho2=>?_⟩⟩
  ·have ho:o∈zk7 w a c m:=ho
   have:=zx8 (fun o:Run=>cw w b o.2.1 m) ho
   have this:cw w b o.2.1 m≤_:=this
   show cw w b o.2.1 m≤_
   omega
  ·exact h5 (o.1++o2.1,o2.2.1,o.2.2+o2.2.2) (mem_bindR.mpr ⟨o,ho,o2,ho2,rfl⟩)
theorem SqOk.left{w:Nat}{U:List Spn}{a b:Nd}{m:Nat}{r:Sq}{c:Nat}(h:SqOk w U ((.choice a b,m)::r) c):SqOk w U ((a,m)::r) c:=by
 obtain⟨h1,h2,h3,h4,h5⟩:=h
 have s0:SmN (.choice a b):=h1 _ List.mem_cons_self
 have h4:2+cw w a c m+cw w b c m≤1000000:=h4
 refine⟨fun p hp=>?_,few_of fun k=>Nat.le_trans (cnt_mono _ yh6.1) (zu1 h2 k),fun y hy=>h3 y (List.mem_cons_of_mem _ (List.mem_append_left _ hy)),(by show cw w a c m≤_;omega),fun o ho=>h5 (0::o.1,o.2) (List.mem_append_left _ (List.mem_map.mpr ⟨o,ho,rfl⟩))⟩
 rcases List.mem_cons.mp hp with rfl|hp
 ·exact s0.1
 ·exact h1 p (List.mem_cons_of_mem _ hp)
theorem SqOk.right{w:Nat}{U:List Spn}{a b:Nd}{m:Nat}{r:Sq}{c:Nat}(h:SqOk w U ((.choice a b,m)::r) c):SqOk w U ((b,m)::r) c:=by
 obtain⟨h1,h2,h3,h4,h5⟩:=h
 have s0:SmN (.choice a b):=h1 _ List.mem_cons_self
 have h4:2+cw w a c m+cw w b c m≤1000000:=h4
 refine⟨fun p hp=>?_,few_of fun k=>Nat.le_trans (cnt_mono _ yh6.2) (zu1 h2 k),fun y hy=>h3 y (List.mem_cons_of_mem _ (List.mem_append_right _ hy)),(by show cw w b c m≤_;omega),fun o ho=>h5 (1::o.1,o.2) (List.mem_append_right _ (List.mem_map.mpr ⟨o,ho,rfl⟩))⟩
 rcases List.mem_cons.mp hp with rfl|hp
 ·exact s0.2.1
 ·exact h1 p (List.mem_cons_of_mem _ hp)
def zg7:Nd→Nat
 |.text _=>1
 |.brk=>1
 |.nest _ a=>zg7 a+1
 |.align a=>zg7 a+1
 |.beside a b=>zg7 a+zg7 b+1
 |.choice a b=>zg7 a+zg7 b+1
theorem zs2(a:Nd):1≤zg7 a:=by cases a<;>simp[zg7]
theorem zz5:∀(a:Nd) (c m:Nat),zg7 (ze6 a c m).1≤zg7 a
 |.nest k a,c,m=>Nat.le_succ_of_le (zz5 a c (m+k))
 |.align a,c,m=>Nat.le_succ_of_le (zz5 a c c)
 |.text _,_,_=>Nat.le_refl _
 |.brk,_,_=>Nat.le_refl _
 |.beside _ _,_,_=>Nat.le_refl _
 |.choice _ _,_,_=>Nat.le_refl _
def zw4(q:Sq):Nat:=(q.map fun p=>zg7 p.1).sum
theorem zj4(p:Nd×Nat)(q:Sq):zw4 (p::q)=zg7 p.1+zw4 q:=rfl
theorem qsize_len:∀q:Sq,q.length≤zw4 q
 |[]=>Nat.zero_le _
 |p::q=>by have:=qsize_len q;have:=zs2 p.1;rw[zj4,List.length_cons];omega
theorem Least.eq{w:Nat}{a:Nd}{m:Nat}{r:Sq}{c k:Nat}(h:Least (zl7 w ((.choice a a,m)::r) c) k):Least (zl7 w ((a,m)::r) c) k:=by
 rw[zl2] at h
 obtain⟨⟨o,ho,e⟩,h2⟩:=h
 refine⟨?_,fun x hx=>h2 (0::x.1,x.2) (List.mem_append_left _ (List.mem_map.mpr ⟨x,hx,rfl⟩))⟩
 rcases List.mem_append.mp ho with z|z
 ·obtain⟨x,hx,rfl⟩:=List.mem_map.mp z;exact⟨x,hx,e⟩
 ·obtain⟨x,hx,rfl⟩:=List.mem_map.mp z;exact⟨x,hx,e⟩
theorem Least.side{w:Nat}{a b:Nd}{m:Nat}{r:Sq}{c k j:Nat}(h:Least (zl7 w ((.choice a b,m)::r) c) k)(h0:Least (zl7 w ((a,m)::r) c) j):(j=k∧Least (zl7 w ((a,m)::r) c) k)∨(j≠k∧Least (zl7 w ((b,m)::r) c) k∧∀o∈zl7 w ((a,m)::r) c,k<o.2.2):=by
 rw[zl2] at h
 obtain⟨⟨o,ho,e⟩,h2⟩:=h
 have l0:∀x∈zl7 w ((a,m)::r) c,k≤x.2.2:=fun x hx=>h2 (0::x.1,x.2) (List.mem_append_left _ (List.mem_map.mpr ⟨x,hx,rfl⟩))
 have l1:∀x∈zl7 w ((b,m)::r) c,k≤x.2.2:=fun x hx=>h2 (1::x.1,x.2) (List.mem_append_right _ (List.mem_map.mpr ⟨x,hx,rfl⟩))
 obtain⟨⟨o1,ho1,e1⟩,h3⟩:=h0
 by_cases hj:j=k
 ·subst hj;exact .inl ⟨rfl,⟨o1,ho1,e1⟩,h3⟩
 ·have hjk:k<j:=by have:=l0 o1 ho1;omega
  refine .inr ⟨hj,⟨?_,l1⟩,fun x hx=>Nat.lt_of_lt_of_le hjk (h3 x hx)⟩
  rcases List.mem_append.mp ho with z|z
  ·obtain⟨x,hx,rfl⟩:=List.mem_map.mp z
   have:=h3 x hx
   have e:x.2.2=k:=e
   omega
  ·obtain⟨x,hx,rfl⟩:=List.mem_map.mp z;exact⟨x,hx,e⟩
end Pq
namespace Pq
open PySem L2
def StepN(H:Hp)(T:List Raw)(t:Addr)(p:Nd×Nat):Prop:=∃i:Nat,H t=some (.tup [.int ((i:Nat):Int),.int ((p.2:Nat):Int)])∧NdAt T i p.1
theorem StepN.mono{H H':Hp}{T:List Raw}(h:Tups H H'){t:Addr}{p:Nd×Nat}:StepN H T t p→StepN H' T t p:=fun⟨i,e,q⟩=>⟨i,h _ _ e,q⟩
theorem SrAt.dk{CN C:Addr}{H:Hp}{g:Gh}{Ks:List Ent}(S:SrAt CN C H g Ks){d:Addr}{kvs:List (Key×V)}(w:H d=some (.dK kvs))(o:HO):SrAt CN C (upd H d o) g Ks:=by
 obtain⟨⟨dx,h1⟩,⟨⟨dxn,g1⟩,⟨as,g2,g3⟩,g4,g5,g6,g7⟩,h3,h4,h5,h6,h7⟩:=S
 have nn:∀ {b:Addr} {ob:HO},H b=some ob→b≠d→(upd H d o) b=some ob:=fun e h=>by rw[za9 h];exact e
 have tp:Tups H (upd H d o):=fun b xs e=>nn e (ze5 e w (by intro z;cases z))
 exact⟨⟨dx,nn h1 (ze5 h1 w (by intro z;cases z))⟩,⟨⟨dxn,nn g1 (ze5 g1 w (by intro z;cases z))⟩,⟨as,nn g2 (ze5 g2 w (by intro z;cases z)),g3.mono tp⟩,nn g4 (ze5 g4 w (by intro z;cases z)),nn g5 (ze5 g5 w (by intro z;cases z)),g6,g7⟩,nn h3 (ze5 h3 w (by intro z;cases z)),h4,
  fun e he=>⟨(h5 e he).at_,nn (h5 e he).frz (ze5 (h5 e he).frz w (by intro z;cases z)),(h5 e he).len⟩,h6,h7⟩
def yl9(CN C:Addr):Sp:=fun vs H Q _=>∃(g:Gh) (Ks:List Ent) (l:Addr) (ts:List Addr) (q:Sq) (c:Nat),vs=[.ref g.s,.ref l,.int (c:Nat)]∧SrAt CN C H g Ks∧H l=some (.lst (ts.map V.ref))∧Paired (StepN H g.T) ts q.reverse∧SqOk g.w g.U q c∧
 ∀(k:Nat) (Ks':List Ent) (H':Hp),SrAt CN C H' g Ks'→But1 g.kn H H'→Least (zl7 g.w q c) k→Q (.int (k:Nat)) H'
def seSide(CN C:Addr):Sp:=fun vs H Q _=>∃(g:Gh) (Ks:List Ent) (t l:Addr) (i j:Nat) (a b:Nd) (ts:List Addr) (r:Sq) (m c k:Nat),vs=[.ref g.s,.ref t,.int (m:Nat),.ref l,.int (c:Nat),.int (k:Nat)]∧SrAt CN C H g Ks∧RawAt H t (.choice i j)∧NdAt g.T i a∧NdAt g.T j b∧H l=some (.lst (ts.map V.ref))∧ts.length≤1000000∧Paired (StepN H g.T) ts r.reverse∧
 SqOk g.w g.U ((a,m)::r) c∧Least (zl7 g.w ((.choice a b,m)::r) c) k∧
 (∀(Ks':List Ent) (H':Hp),SrAt CN C H' g Ks'→But1 g.kn H H'→Least (zl7 g.w ((a,m)::r) c) k→Q (.int 0) H')∧
 (∀(Ks':List Ent) (H':Hp),SrAt CN C H' g Ks'→But1 g.kn H H'→Least (zl7 g.w ((b,m)::r) c) k→(∀o∈zl7 g.w ((a,m)::r) c,k<o.2.2)→Q (.int 1) H')
section
variable {P:Program}{w:World}{K:PySem.W.Frag}{mg:Str→Option Value}{base:Heap}{f:Addr}{fd:FuncData}{CN C:Addr}
theorem scLe:FnScope ["self","waiting","column","ends","step"] ["self","waiting","column"] (za7 zt0):=⟨rfl,rfl,rfl,by decide +kernel,rfl,by decide +kernel,by decide +kernel⟩
theorem ok_seLeast{fH:Addr}{hD:FuncData}(F:Fun K "least_cost" "Search.least_cost" zt0 f fd)(T:Srs K mg C)(BE:MO P w K mg base C CX0 6 fH hD "ends_behind" psBe (zw1 CN C false)):FnOk P w K mg base CX0 7 f fd ["self","waiting","column"] (yl9 CN C):=by
 refine F.okq scLe (fun vs H Q E h=>?_) (fun cdv A outer s H vs Q E hr h=>?_)
 ·obtain⟨g,Ks,l,ts,q,c,rfl,_⟩:=h
  rfl
 obtain⟨g,Ks,l,ts,sq,c,rfl,S,hl,hts,hok,q⟩:=h
 have nd:=scLe.nd
 refine⟨_,za1 (zb2 (i:=3) nd rfl (Or.inl rfl) (ym7 (ym8 (yd6 (pvq 2) za5 pps_nil) rfl rfl (by intro z;cases z) (by decide))))<|
  za1 (zp9 PassesOwn.never rfl (pi_revq rfl T.rev (za2 (pvq 1) za3)) (zn8 (i:=4) nd rfl (Or.inl rfl)) (
   za6 (zb2 (i:=3) nd rfl (Or.inl rfl) (ym7 (zc2 (pvq 0) T.cl BE.m BE.ok hr BE.b .nil zc7 (za2 (pvq 3) (zb7 (zb1 zb3 (pvq 4) za5 (fun _ _=>rfl)) (zb7 (zb1 zb3 (pvq 4) za5 (fun _ _=>rfl)) za3))))))))<|
  za6 (zb4 (zd9 (call_minV rfl) rfl T.min (by decide +kernel) (ze4 (pe_dvalsq (pvq 3)) za3))),?_⟩
 have hkn:=S.kn
 have nlk:l≠g.kn:=ze5 hl hkn (by intro z;cases z)
 have rev:Paired (StepN H g.T) ts.reverse sq:=by
  have z:=zz4 hts
  rwa [List.reverse_reverse] at z
 have hlen:(ts.map V.ref).length=sq.length:=by rw[List.length_map];have:=Paired.length rev;rwa [List.length_reverse] at this
 intro p hp
 have s1:=za4 hp (.dK [])
 refine⟨_,rfl,za0,[(.inl ((c:Nat):Int),.int ((0:Nat):Int))],rfl,(by show 1≤15;decide),?_⟩
 rw[encE_one]
 have s2:Same H (upd (upd H p (.dK [])) p (.dK (zj2 [(c,0)]))):=zj0 s1 hp _
 have e2:(upd (upd H p (.dK [])) p (.dK (zj2 [(c,0)]))) p=some (.dK (zj2 [(c,0)])):=za0
 generalize upd (upd H p (.dK [])) p (.dK (zj2 [(c,0)]))=H2 at s2 e2
 refine⟨p,_,rfl,e2,fun o2=>?_⟩
 have s3:Same H (upd H2 p (.frz o2 (.dK (zj2 [(c,0)])))):=fun b ob e=>by rw[za9 (za8 e hp)];exact s2 _ _ e
 have S3:SrAt CN C (upd H2 p (.frz o2 (.dK (zj2 [(c,0)])))) g Ks:=(S.mono s2).dk e2 _
 have e3:(upd H2 p (.frz o2 (.dK (zj2 [(c,0)])))) p=some (.frz o2 (.dK (zj2 [(c,0)]))):=za0
 generalize upd H2 p (.frz o2 (.dK (zj2 [(c,0)])))=H3 at s3 S3 e3
 refine⟨_,rfl,l,_,rfl,SqL.of (s3 _ _ hl),for_rev (K:=K) (a:=l) (xs:=ts.map V.ref) (fun j σ H4=>∃(v4:Option V) (d:Addr) (o:Obj) (E:Es) (Ks':List Ent),σ=[some (.ref g.s),some (.ref l),some (.int (c:Nat)),some (.ref d),v4]∧SrAt CN C H4 g Ks'∧But1 g.kn H H4∧H4 d=some (.frz o (.dK (zj2 E)))∧EndsOk g.w (sq.take j) c E∧E.length≤64)
  ⟨_,p,o2,[(c,0)],Ks,rfl,S3,But1.of s3,e3,by rw[List.take_zero];exact EndsOk.zero g.w c,by simp⟩ (fun j σ H4 _ ⟨_,_,_,_,_,_,_,b,_⟩=>SqL.of (b _ _ hl nlk)) ?_ ?_⟩
 ·rintro j x σ H4 hx ⟨v4,d,o,E,Ks',rfl,S4,b4,hd,hE,hEl⟩
  rw[←List.map_reverse] at hx
  obtain⟨t,⟨a,m⟩,rfl,hqj,i,hti,hi⟩:=zl0 rev hx
  have t4:Tups H H4:=zx7 b4 hkn
  have hti4:=t4 _ _ hti
  obtain⟨dx,ho⟩:=S4.ob
  have hre:=reach_at hok.reach hqj
  have hi:NdAt g.T i a:=hi
  have etk:sq.take (j+1)=sq.take j++[(a,m)]:=ze8 hqj
  refine⟨_,rfl,g.s,dx,_,rfl,ho,zm3 _ _ _ (by decide +kernel) (by decide +kernel) (by decide +kernel),_,rfl,_,rfl,t,_,_,.int (i:Nat),rfl,rfl,SqT.of hti4,rfl,_,rfl,t,_,_,.int (m:Nat),rfl,rfl,SqT.of hti4,rfl,?_⟩
  refine⟨g,Ks',d,o,E,sq.take j,c,i,m,a,rfl,S4,hd,hE,hEl,hi,hok.sm _ (List.mem_of_getElem? hqj),by rw[←etk];exact hok.few _,fun y hy=>?_,fun d5 E5 Ks5 H5 S5 _ b5 n5 hd5 hE5 hl5 _=>?_⟩
  ·obtain⟨sy,hsy⟩:=hE.sound y hy
   obtain⟨r1,r2⟩:=hre _ hsy
   exact⟨r1,r2,fun z=>by cases z⟩
  ·refine⟨d5,_,rfl,hd5,fun o5=>⟨_,d5,o5,E5,Ks5,rfl,S5.dk hd5 _,fun b ob e hb=>?_,za0,by rw[etk];exact hE5,hl5⟩⟩
   have e4:=b4 _ _ e hb
   rw[za9 (za8 e4 n5)]
   exact b5 _ _ e4 hb
 ·rintro σ H4 ⟨v4,d,o,E,Ks',rfl,S4,b4,hd,hE,hEl⟩
  rw[hlen,List.take_length] at hE
  refine⟨_,rfl,d,_,rfl,.inr ⟨o,hd⟩,fun v hv=>?_⟩
  have s5:=za4 hv (viewO v d)
  have hne:E≠[]:=fun z=>by
   obtain⟨x,hx⟩:=List.exists_mem_of_ne_nil _ (lrun_ne g.w sq c)
   obtain⟨y,hy,_⟩:=hE.compl x hx
   rw[z] at hy;cases hy
  refine⟨v,d,_,E.map (fun x=>((x.2:Nat):Int)),rfl,za0,.inr ⟨o,s5 _ _ hd⟩,by unfold zj2;rw[List.map_map,List.map_map];rfl,by simpa using hne,fun k hk hmin=>?_⟩
  obtain⟨x,hx,rfl⟩:=List.mem_map.mp hk
  exact q x.2 Ks' _ (S4.mono s5) (b4.trans (But1.of s5)) (hE.least ⟨x,hx,rfl⟩ fun y hy=>by have:=hmin _ (List.mem_map.mpr ⟨y,hy,rfl⟩);omega)
theorem scSd:FnScope ["self","choice","margin","waiting","column","cost","with_0"] ["self","choice","margin","waiting","column","cost"] (za7 zy3):=⟨rfl,rfl,rfl,by decide +kernel,rfl,by decide +kernel,by decide +kernel⟩
theorem ok_seSide{fL:Addr}{lD:FuncData}(F:Fun K "first_side" "Search.first_side" zy3 f fd)(T:Srs K mg C)(LC:MO P w K mg base C CX0 7 fL lD "least_cost" ["self","waiting","column"] (yl9 CN C)):FnOk P w K mg base CX0 8 f fd ["self","choice","margin","waiting","column","cost"] (seSide CN C):=by
 refine F.okq scSd (fun vs H Q E h=>?_) (fun cdv A outer s H vs Q E hr h=>?_)
 ·obtain⟨g,Ks,t,l,i,j,a,b,ts,r,m,c,k,rfl,_⟩:=h
  rfl
 obtain⟨g,Ks,t,l,i,j,a,b,ts,r,m,c,k,rfl,S,ht,hi,hj,hl,htl,hts,hok,hle,q0,q1⟩:=h
 have nd:=scSd.nd
 refine⟨_,za1 (zd0 (zb6 zh1 (zb1 zb3 (pvq 1) za5 (fun _ _=>rfl)) (zb1 zb3 (pvq 1) za5 (fun _ _=>rfl)) (zd7 _)) (za6 (zb4 za5)) zb9)<|
  za1 (zb2 (i:=6) nd rfl (Or.inl rfl) (zc4 op_cat (pvq 3) (zd4 (zf6 (zc5 (zb7 (zb1 zb3 (pvq 1) za5 (fun _ _=>rfl)) (za2 (pvq 2) za3))) za3))))<|
  za6 (zb4 (zk1 (zb6 zh1 (zc2 (pvq 0) T.cl LC.m LC.ok hr LC.b .nil zc7 (za2 (pvq 6) (za2 (pvq 4) za3))) (pvq 5) (zd7 _)) za5 za5)),?_⟩
 have ht:H t=some (.tup [.str "choice",.int ((i:Nat):Int),.int ((j:Nat):Int)]):=ht
 refine⟨_,rfl,t,_,_,.int (i:Nat),rfl,rfl,SqT.of ht,rfl,_,rfl,t,_,_,.int (j:Nat),rfl,rfl,SqT.of ht,rfl,rfl,_,rfl,?_⟩
 refine ite2 (fun e=>?_) (fun e=>?_)
 ·have e1:((i:Nat):Int)=((j:Nat):Int):=V.int.inj (of_decide_eq_true e)
  have e2:i=j:=by omega
  subst e2
  have e3:=NdAt.one hi hj
  subst e3
  exact q0 Ks H S But1.refl hle.eq
 ·refine⟨_,rfl,_,rfl,t,_,_,.int (i:Nat),rfl,rfl,SqT.of ht,rfl,_,rfl,(by show 2≤sizeLine;decide),fun u hu=>⟨(by show 1≤sizeLine;decide),fun l1 hl1=>?_⟩⟩
  have s1:=za4 hu (.tup [.int ((i:Nat):Int),.int ((m:Nat):Int)])
  have s2:=za4 hl1 (.lst [.ref u])
  refine⟨l,l1,_,_,rfl,rfl,s2 _ _ (s1 _ _ hl),za0,Nat.le_trans (show(ts.map V.ref).length+1≤1000001 by rw[List.length_map];omega) (zd2 (by omega)),fun l2 hl2=>?_⟩
  have s3:=s1.trans (s2.trans (za4 hl2 (.lst (ts.map V.ref++[.ref u]))))
  have hu3:=(s2.trans (za4 hl2 (.lst (ts.map V.ref++[.ref u])))) _ _ (za0 (H:=H) (a:=u) (o:=.tup [.int ((i:Nat):Int),.int ((m:Nat):Int)]))
  have e3:(upd (upd (upd H u (.tup [.int ((i:Nat):Int),.int ((m:Nat):Int)])) l1 (.lst [.ref u])) l2 (.lst (ts.map V.ref++[.ref u]))) l2=some (.lst ((ts++[u]).map V.ref)):=by rw[za0,List.map_append];rfl
  generalize upd (upd (upd H u (.tup [.int ((i:Nat):Int),.int ((m:Nat):Int)])) l1 (.lst [.ref u])) l2 (.lst (ts.map V.ref++[.ref u]))=H3 at s3 hu3 e3
  have S3:=S.mono s3
  obtain⟨dx,ho⟩:=S3.ob
  refine⟨_,rfl,g.s,dx,_,rfl,ho,zm3 _ _ _ (by decide +kernel) (by decide +kernel) (by decide +kernel),_,rfl,_,rfl,?_⟩
  refine⟨g,Ks,l2,ts++[u],(a,m)::r,c,rfl,S3,e3,by rw[List.reverse_cons];exact zd5 (Paired.mapP hts fun _ _ z=>z.mono (.of s3)) (.cons ⟨i,hu3,hi⟩ .nil),hok,fun k' Ks' H4 S4 b4 hk'=>?_⟩
  have b04:But1 g.kn H H4:=(But1.of s3).trans b4
  refine⟨_,rfl,rfl,_,rfl,?_⟩
  rcases hle.side hk' with⟨e1,h0⟩|⟨e1,h0,h1⟩
  ·exact zd1 (decide_eq_true (by rw[e1])) (q0 Ks' H4 S4 b04 h0)
  ·exact zc3 (fun z=>e1 (by have:=V.int.inj (of_decide_eq_true z);omega)) (q1 Ks' H4 S4 b04 h0 h1)
end
end Pq
namespace Pq
open PySem L2
def seFirst(CN C:Addr):Sp:=fun vs H Q _=>∃(g:Gh) (Ks:List Ent) (i k:Nat) (a:Nd),vs=[.ref g.s,.int (i:Nat),.int (k:Nat)]∧SrAt CN C H g Ks∧NdAt g.T i a∧SqOk g.w g.U [(a,0)] 0∧Least (zl7 g.w [(a,0)] 0) k∧zg7 a≤100000∧
 ∀(l:Addr) (ss:List Int) (Ks':List Ent) (H':Hp),SrAt CN C H' g Ks'→But1 g.kn H H'→H l=none→H' l=some (.lst (ss.map V.int))→Best (zl7 g.w [(a,0)] 0) ss k→Q (.ref l) H'
structure FsI(CN C:Addr)(H:Hp)(g:Gh)(i k:Nat)(a:Nd)(A W:Addr)(n:Nat)(σ:St)(H':Hp)(q:Sq)(c k':Nat)(ss:List Int)(ts:List Addr)(Ks':List Ent):Prop where
 st_:∃v6 v7 v8 v9 v10:Option V,σ=[some (.ref g.s),some (.int (i:Nat)),some (.int (k':Nat)),some (.ref A),some (.int (c:Nat)),some (.ref W),v6,v7,v8,v9,v10]
 n_:n=zw4 q
 le:ss.length+n≤zg7 a
 at_:SrAt CN C H' g Ks'
 but:But1 g.kn H H'
 atA:H' A=some (.lst (ss.map V.int))
 atW:H' W=some (.lst (ts.map V.ref))
 plW:Paired (StepN H' g.T) ts q.reverse
 ok:SqOk g.w g.U q c
 least:Least (zl7 g.w q c) k'
 best:∀s,Best (zl7 g.w q c) s k'→Best (zl7 g.w [(a,0)] 0) (ss++s) k
section
variable {P:Program}{w:World}{K:PySem.W.Frag}{mg:Str→Option Value}{base:Heap}{f:Addr}{fd:FuncData}{CN C:Addr}
theorem scFs:FnScope ["self","root","cost","sides","column","waiting","step","spot","node","margin","side"] ["self","root","cost"] (za7 zs9):=⟨rfl,rfl,rfl,by decide +kernel,rfl,by decide +kernel,by decide +kernel⟩
set_option maxHeartbeats 8000000 in
theorem ok_seFirst{fS fG fB fD:Addr}{sD gD bD dD:FuncData}(F:Fun K "first_sides" "Search.first_sides" zs9 f fd)(T:Srs K mg C)(TN:Nds K mg CN)(SP:MO P w K mg base C CX0 1 fS sD "spot_of" psEn (yi1 CN C))
  (SG:MO P w K mg base C CX0 1 fG gD "cost_of_signs" ["self","column","length"] (yd0 C)) (SK:MO P w K mg base C CX0 2 fB bD "cost_of_break" ["self","margin"] (ym0 C))
  (SD:MO P w K mg base C CX0 8 fD dD "first_side" ["self","choice","margin","waiting","column","cost"] (seSide CN C)):FnOk P w K mg base CX0 9 f fd ["self","root","cost"] (seFirst CN C):=by
 refine F.okq scFs (fun vs H Q E h=>?_) (fun cdv A outer s H vs Q E hr h=>?_)
 ·obtain⟨g,Ks,i,k,a,rfl,_⟩:=h
  rfl
 obtain⟨g,Ks,i,k,a,rfl,S,hi,hok,hle,hsz,q⟩:=h
 have nd:=scFs.nd
 have hr1:Room 1 _:=hr.mono (by decide)
 have hr2:Room 2 _:=hr.mono (by decide)
 refine⟨_,za1 (zb2 (i:=3) nd rfl (Or.inl rfl) (zd4 za3))<|
  za1 (zb2 (i:=4) nd rfl (Or.inl rfl) za5)<|
  za1 (zb2 (i:=5) nd rfl (Or.inl rfl) (zd4 (zf6 (zc5 (za2 (pvq 1) (zb0 za5 za3))) za3)))<|
  za1 (zl5 PassesOwn.never (zl4 (pvq 5) (fun _=>rfl)) (
   za1 (zb2 (i:=6) nd rfl (Or.inl rfl) (zu6 PySem.F.plainAttrs_list PySem.F.slot_list_pop PySem.F.type_list_pop ye6 (pvq 5)))<|
   za1 (zb2 (i:=7) nd rfl (Or.inl rfl) (zc2 (pvq 0) T.cl SP.m SP.ok hr1 SP.b .nil zc7 (zb7 (zb1 zb3 (pvq 6) za5 (fun _ _=>rfl)) (za2 (pvq 4) (zb7 (zb1 zb3 (pvq 6) za5 (fun _ _=>rfl)) za3)))))<|
   za1 (zb2 (i:=8) nd rfl (Or.inl rfl) (zb1 zf8 (zd3 (zd3 (pvq 0) rfl) rfl) (zb1 zb3 (pvq 7) za5 (fun _ _=>rfl)) (fun _ _=>rfl)))<|
   za1 (zb2 (i:=9) nd rfl (Or.inl rfl) (zb1 zb3 (pvq 7) za5 (fun _ _=>rfl)))<|
   za6 (zd0 (zb6 zh1 (zb1 zb3 (pvq 8) za5 (fun _ _=>rfl)) zb5 (zd7 _)) (za1 (ym3 (i:=2) nd rfl (Or.inl rfl) (zc2 (pvq 0) T.cl SG.m SG.ok hr1 SG.b .nil zc7 (za2 (pvq 4) (zb7 (zb1 zb3 (pvq 8) za5 (fun _ _=>rfl)) za3))) ip_sub) (za6 (ym3 (i:=4) nd rfl (Or.inl rfl) (zb1 zb3 (pvq 8) za5 (fun _ _=>rfl)) ip_add)))
    (za6 (zd0 (zb6 zh1 (zb1 zb3 (pvq 8) za5 (fun _ _=>rfl)) zb5 (zd7 _)) (za1 (ym3 (i:=2) nd rfl (Or.inl rfl) (zc2 (pvq 0) T.cl SK.m SK.ok hr2 SK.b .nil zc7 (za2 (pvq 9) za3)) ip_sub) (za6 (zb2 (i:=4) nd rfl (Or.inl rfl) (pvq 9))))
     (za6 (zd0 (zb6 zh1 (zb1 zb3 (pvq 8) za5 (fun _ _=>rfl)) zb5 (zd7 _)) (za6 (ze1 (zh8 PySem.F.plainAttrs_list PySem.F.slot_list_extend PySem.F.type_list_extend zp1 (pvq 5) (pa_lstq (zd4 (zf6 (zc5 (zb7 (zb1 zb3 (pvq 8) za5 (fun _ _=>rfl)) (za2 (pvq 9) za3))) (zf6 (zc5 (zb7 (zb1 zb3 (pvq 8) za5 (fun _ _=>rfl)) (za2 (pvq 9) za3))) za3))) za3))))
      (za1 (zb2 (i:=10) nd rfl (Or.inl rfl) (zc2 (pvq 0) T.cl SD.m SD.ok hr SD.b .nil zc7 (za2 (pvq 8) (za2 (pvq 9) (za2 (pvq 5) (za2 (pvq 4) (za2 (pvq 2) za3)))))))<|
       za1 (ze1 (zh8 PySem.F.plainAttrs_list PySem.F.slot_list_append PySem.F.type_list_append zg2 (pvq 3) (za2 (pvq 10) za3)))<|
       za6 (ze1 (zh8 PySem.F.plainAttrs_list PySem.F.slot_list_append PySem.F.type_list_append zg2 (pvq 5) (zf6 (zc5 (zb7 (zb1 zb3 (pvq 8) (zc4 zk6 za5 (pvq 10)) (fun _ _=>rfl)) (za2 (pvq 9) za3))) za3)))))))))))<|
  za6 (zb4 (pvq 3)),?_⟩
 have hkn:=S.kn
 obtain⟨as0,hla0,_⟩:=S.no.li
 have hga0:=S.no.le
 refine⟨(by show 0≤sizeLine;decide),fun A hA=>⟨_,rfl,(by show 2≤sizeLine;decide),fun t0 ht0=>⟨(by show 1≤sizeLine;decide),fun W hW=>?_⟩⟩⟩
 have s1:=za4 hA (.lst [])
 have s2:=za4 ht0 (.tup [.int ((i:Nat):Int),.int 0])
 have s3:=za4 hW (.lst [.ref t0])
 have s03:=s1.trans (s2.trans s3)
 have nW:H W=none:=(s1.trans s2).free hW
 have nAW:A≠W:=fun z=>by rw[←z,s2 _ _ za0] at hW;cases hW
 have nWl:W≠g.la:=fun z=>by rw[z,hla0] at nW;cases nW
 have nWg:W≠g.ga:=fun z=>by rw[z,hga0] at nW;cases nW
 have nAl:A≠g.la:=fun z=>by rw[z,hla0] at hA;cases hA
 have nAg:A≠g.ga:=fun z=>by rw[z,hga0] at hA;cases hA
 have nAk:A≠g.kn:=fun z=>by rw[z,hkn] at hA;cases hA
 have nWk:W≠g.kn:=fun z=>by rw[z,hkn] at nW;cases nW
 refine⟨fun n σ H'=>∃sq c k' ss ts Ks',FsI CN C H g i k a A W n σ H' sq c k' ss ts Ks',⟨zw4 [(a,0)],[(a,0)],0,k,[],[t0],Ks, ?init⟩, ?turn⟩
 case init=>
  refine⟨⟨_,_,_,_,_,rfl⟩,rfl,?_,S.mono s03,But1.of s03,(s2.trans s3) _ _ za0,za0,.cons ⟨i,s3 _ _ za0,hi⟩ .nil,hok,hle,fun s hs=>hs⟩
  show 0+(zg7 a+0)≤zg7 a
  omega
 case turn=>
  rintro n σ H' ⟨sq,c,k',ss,ts,Ks',I⟩
  obtain⟨v6,v7,v8,v9,v10,rfl⟩:=I.st_
  refine⟨_,rfl,_,.inl ⟨_,SqL.of I.atW,rfl⟩,?_⟩
  cases sq with
  |nil=>
   have ew:ts=[]:=by have:=I.plW;cases this;rfl
   subst ew
   refine zc3 (by simp) ?_
   have hl:Least [([],c,0)] k':=I.least
   have ek:k'=0:=by
    obtain⟨⟨o,ho,e⟩,_⟩:=hl
    rw[List.mem_singleton.mp ho] at e
    exact e.symm
   have hb:=I.best [] ⟨[],c,[],by rw[ek];rfl,fun o ho=>(by cases ho),fun o ho=>(by cases ho)⟩
   rw[List.append_nil] at hb
   exact⟨_,rfl,q A ss Ks' H' I.at_ I.but hA I.atA hb⟩
  |cons p r=>
   obtain⟨b,m⟩:=p
   obtain⟨ys,tx,ex,hys,ix,htx,hix⟩:∃ys tx,ts=ys++[tx]∧Paired (StepN H' g.T) ys r.reverse∧StepN H' g.T tx (b,m):=by
    have z:=I.plW
    rw[List.reverse_cons] at z
    exact zh9 z
   subst ex
   have hix:NdAt g.T ix b:=hix
   refine zd1 (by simp) ?_
   have hle:=I.le
   have hn:=I.n_
   rw[zj4] at hn
   have hn:n=zg7 b+zw4 r:=hn
   have hqr:=qsize_len r
   have hyl:=Paired.length hys
   rw[List.length_reverse] at hyl
   have epop:((ys++[tx]).map V.ref).dropLast=ys.map V.ref:=by rw[List.map_append];exact List.dropLast_concat
   have elst:((ys++[tx]).map V.ref)[((ys++[tx]).map V.ref).length - 1]? = some (.ref tx):=by simp
   refine⟨fun σ' H''=>∃n',n'<n∧∃sq c k' ss ts Ks',FsI CN C H g i k a A W n' σ' H'' sq c k' ss ts Ks',fun _ _ z=>z,?_⟩
   refine⟨_,rfl,.inl ⟨rfl,_,SqL.of I.atW⟩,W,_,_,rfl,rfl,I.atW,elst,?_⟩
   rw[epop]
   have S1:=I.at_.list I.atW nWl nWg (ys.map V.ref)
   have t1:Tups H' (upd H' W (.lst (ys.map V.ref))):=zc6 I.atW
   have b1:But1 g.kn H (upd H' W (.lst (ys.map V.ref))):=fun x ob e hx=>by rw[za9 (za8 e nW)];exact I.but _ _ e hx
   have w1:(upd H' W (.lst (ys.map V.ref))) W=some (.lst (ys.map V.ref)):=za0
   have a1:(upd H' W (.lst (ys.map V.ref))) A=some (.lst (ss.map V.int)):=by rw[za9 nAW];exact I.atA
   have htx1:=t1 _ _ htx
   have hys1:Paired (StepN (upd H' W (.lst (ys.map V.ref))) g.T) ys r.reverse:=Paired.mapP hys fun _ _ z=>z.mono t1
   generalize upd H' W (.lst (ys.map V.ref))=H1 at S1 t1 b1 w1 a1 htx1 hys1
   obtain⟨dx1,ho1⟩:=S1.ob
   refine⟨_,rfl,g.s,dx1,_,rfl,ho1,zm3 _ _ _ (by decide +kernel) (by decide +kernel) (by decide +kernel),_,rfl,tx,_,_,.int (ix:Nat),rfl,rfl,SqT.of htx1,rfl,_,rfl,_,rfl,tx,_,_,.int (m:Nat),rfl,rfl,SqT.of htx1,rfl,?_⟩
   refine⟨g.s,g.n,g.la,g.na,g.ga,g.kn,dx1,g.T,g.L,g.w,ix,c,m,b,rfl,ho1,S1.no,hix,fun tu H2 s2' n2 hsp=>?_⟩
   have S2:=S1.mono s2'
   have b2:But1 g.kn H H2:=b1.trans (But1.of s2')
   have w2:=s2' _ _ w1
   have a2:=s2' _ _ a1
   have hys2:Paired (StepN H2 g.T) ys r.reverse:=Paired.mapP hys1 fun _ _ z=>z.mono (.of s2')
   obtain⟨iu,htu,hiu⟩:=hsp
   have ok2:=I.ok.spot
   have least2:=I.least
   have best2:=I.best
   rw[lrun_spot] at least2 best2
   have hns:=zz5 b c m
   have hco:=zm9 b c m
   have hiu:NdAt g.T iu (ze6 b c m).1:=hiu
   have htu:H2 tu=some (.tup [.int ((iu:Nat):Int),.int ((c:Nat):Int),.int (((ze6 b c m).2:Nat):Int)]):=htu
   generalize ze6 b c m=bm at ok2 least2 best2 hns hco hiu htu
   obtain⟨b',m'⟩:=bm
   have hns:zg7 b'≤zg7 b:=hns
   have hco:zr0 b'=true:=hco
   have hiu:NdAt g.T iu b':=hiu
   have htu:H2 tu=some (.tup [.int ((iu:Nat):Int),.int ((c:Nat):Int),.int ((m':Nat):Int)]):=htu
   clear s2' s1 s2 s3
   obtain⟨dx2,ho2⟩:=S2.ob
   obtain⟨dxn,hn2⟩:=S2.no.ob
   obtain⟨rw',hr0,hd,tl,ek,_⟩:=zt5 hiu
   obtain⟨as,tn,hla,hat,htr⟩:=ye3 S2.no hr0
   have hrt:H2 tn=some (.tup (.str hd::tl.map kV)):=by have:=htr;unfold RawAt at this;rw[ek] at this;exact this
   refine⟨_,rfl,g.s,C,dx2,_,_,rfl,ho2,T.cl,T.nNo,zn1 _ _ _,g.n,CN,dxn,_,_,rfl,hn2,TN.cl,TN.nLi,zl6 _ _ _,_,rfl,tu,_,_,.int (iu:Nat),rfl,rfl,SqT.of htu,rfl,g.la,_,_,_,rfl,rfl,SqL.of hla,hat,?_⟩
   refine⟨_,rfl,tu,_,_,.int (m':Nat),rfl,rfl,SqT.of htu,rfl,?_⟩
   refine⟨_,rfl,tn,_,_,.str hd,rfl,rfl,SqT.of hrt,(by show atI (V.str hd::tl.map kV) ((0:Nat):Int)=_;exact zh0 rfl),rfl,_,rfl,?_⟩
   cases b' with
   |nest _ _=>cases hco
   |align _=>cases hco
   |text l=>
    have hiu:g.T[iu]? = some (.text l):=hiu
    rw[hr0] at hiu
    cases hiu
    cases ek
    refine zd1 (by decide +kernel) ?_
    rw[lrun_text] at least2 best2
    obtain⟨k2,ek2,hl2⟩:=least2.shift
    refine⟨_,rfl,_,rfl,g.s,dx2,_,rfl,ho2,zm3 _ _ _ (by decide +kernel) (by decide +kernel) (by decide +kernel),_,rfl,_,rfl,tn,_,_,.int (l:Nat),rfl,rfl,SqT.of hrt,rfl,g.s,g.n,g.kn,dx2,g.w,c,l,rfl,ho2,_,_,rfl,rfl,?_⟩
    refine⟨_,rfl,_,rfl,tn,_,_,.int (l:Nat),rfl,rfl,SqT.of hrt,rfl,_,_,rfl,rfl,?_⟩
    have e1:((k':Nat):Int) - ((SB*ov g.w c l:Nat):Int)=((k2:Nat):Int):=by omega
    have e2:((c:Nat):Int)+((l:Nat):Int)=((c+l:Nat):Int):=by omega
    refine⟨zw4 r,by have:=zs2 b;omega,r,c+l,k2,ss,ys,Ks',⟨some (.ref tx),some (.ref tu),some (.ref tn),some (.int (m':Nat)),v10,by rw[←e1,←e2];rfl⟩,rfl,by omega,S2,b2,a2,w2,hys2,ok2.text,hl2,fun s hs=>best2 s (by rw[ek2];exact hs.shift)⟩
   |brk=>
    have hiu:g.T[iu]? = some .brk:=hiu
    rw[hr0] at hiu
    cases hiu
    cases ek
    refine zc3 (by decide +kernel) ?_
    refine⟨_,rfl,tn,_,_,.str "break",rfl,rfl,SqT.of hrt,rfl,rfl,_,rfl,zd1 (by decide +kernel) ?_⟩
    rw[lrun_brk] at least2 best2
    obtain⟨k2,ek2,hl2⟩:=least2.shift
    refine⟨_,rfl,_,rfl,g.s,dx2,_,rfl,ho2,zm3 _ _ _ (by decide +kernel) (by decide +kernel) (by decide +kernel),_,rfl,g.s,g.n,g.kn,dx2,g.w,m',rfl,ho2,_,_,rfl,rfl,?_⟩
    have e1:((k':Nat):Int) - ((1+SB*ov g.w 0 m':Nat):Int)=((k2:Nat):Int):=by omega
    refine⟨_,rfl,zw4 r,by have:=zs2 b;omega,r,m',k2,ss,ys,Ks',⟨some (.ref tx),some (.ref tu),some (.ref tn),some (.int (m':Nat)),v10,by rw[←e1];rfl⟩,rfl,by omega,S2,b2,a2,w2,hys2,ok2.brk,hl2,fun s hs=>best2 s (by rw[ek2];exact hs.shift)⟩
   |beside x y=>
    obtain⟨i1,i2,e,h1,h2⟩:=hiu
    rw[hr0] at e
    cases e
    cases ek
    refine zc3 (by decide +kernel) ?_
    refine⟨_,rfl,tn,_,_,.str "beside",rfl,rfl,SqT.of hrt,rfl,rfl,_,rfl,zc3 (by decide +kernel) ?_⟩
    refine⟨_,rfl,tn,_,_,.str "beside",rfl,rfl,SqT.of hrt,rfl,rfl,_,rfl,zd1 (by decide +kernel) ?_⟩
    rw[ye7] at least2 best2
    have hnb:zg7 x+zg7 y+1≤zg7 b:=hns
    refine⟨_,rfl,.inl ⟨rfl,_,SqL.of w2⟩,_,rfl,tn,_,_,.int (i2:Nat),rfl,rfl,SqT.of hrt,rfl,_,rfl,(by show 2≤sizeLine;decide),fun u1 hu1=>?_⟩
    have z1:=za4 hu1 (.tup [.int ((i2:Nat):Int),.int ((m':Nat):Int)])
    refine⟨_,rfl,tn,_,_,.int (i1:Nat),rfl,rfl,SqT.of (z1 _ _ hrt),rfl,_,rfl,(by show 2≤sizeLine;decide),fun u2 hu2=>?_⟩
    have z2:=za4 hu2 (.tup [.int ((i1:Nat):Int),.int ((m':Nat):Int)])
    refine⟨(by show 2≤sizeLine;decide),fun l1 hl1=>?_⟩
    have z3:=za4 hl1 (.lst [.ref u1,.ref u2])
    have z:=z1.trans (z2.trans z3)
    have g1:=(z2.trans z3) _ _ (za0 (H:=H2) (a:=u1) (o:=.tup [.int ((i2:Nat):Int),.int ((m':Nat):Int)]))
    have g2:=z3 _ _ (za0 (H:=upd H2 u1 (.tup [.int ((i2:Nat):Int),.int ((m':Nat):Int)])) (a:=u2) (o:=.tup [.int ((i1:Nat):Int),.int ((m':Nat):Int)]))
    have g3:(upd (upd (upd H2 u1 (.tup [.int ((i2:Nat):Int),.int ((m':Nat):Int)])) u2 (.tup [.int ((i1:Nat):Int),.int ((m':Nat):Int)])) l1 (.lst [.ref u1,.ref u2])) l1=some (.lst [.ref u1,.ref u2]):=za0
    generalize upd (upd (upd H2 u1 (.tup [.int ((i2:Nat):Int),.int ((m':Nat):Int)])) u2 (.tup [.int ((i1:Nat):Int),.int ((m':Nat):Int)])) l1 (.lst [.ref u1,.ref u2])=H3 at z g1 g2 g3
    clear z1 z2 z3
    have w3:=z _ _ w2
    refine⟨W,l1,_,_,rfl,rfl,w3,g3,Nat.le_trans (show(ys.map V.ref).length+2≤1000001 by rw[List.length_map];omega) (zd2 (by omega)),?_⟩
    have u3:Tups H3 (upd H3 W (.lst (ys.map V.ref++[.ref u1,.ref u2]))):=zc6 w3
    refine⟨zw4 ((x,m')::(y,m')::r),by rw[zj4,zj4];show zg7 x+(zg7 y+zw4 r)<n;omega,(x,m')::(y,m')::r,c,k',ss,ys++[u1,u2],Ks',⟨_,_,_,_,_,rfl⟩,rfl,by rw[zj4,zj4];show ss.length+(zg7 x+(zg7 y+zw4 r))≤_;omega,(S2.mono z).list w3 nWl nWg _,fun v ob e hv=>by rw[za9 (za8 e nW)];exact z _ _ (b2 _ _ e hv),by rw[za9 nAW];exact z _ _ a2,by rw[za0,List.map_append];rfl,?_,ok2.beside,least2,best2⟩
    rw[List.reverse_cons,List.reverse_cons,List.append_assoc]
    exact zd5 (Paired.mapP hys2 fun _ _ v=>(v.mono (.of z)).mono u3) (.cons ⟨i2,u3 _ _ g1,h2⟩ (.cons ⟨i1,u3 _ _ g2,h1⟩ .nil))
   |choice x y=>
    obtain⟨i1,i2,e,h1,h2⟩:=hiu
    rw[hr0] at e
    cases e
    cases ek
    refine zc3 (by decide +kernel) ?_
    refine⟨_,rfl,tn,_,_,.str "choice",rfl,rfl,SqT.of hrt,rfl,rfl,_,rfl,zc3 (by decide +kernel) ?_⟩
    refine⟨_,rfl,tn,_,_,.str "choice",rfl,rfl,SqT.of hrt,rfl,rfl,_,rfl,zc3 (by decide +kernel) ?_⟩
    have hnb:zg7 x+zg7 y+1≤zg7 b:=hns
    have npx:=zs2 x
    have npy:=zs2 y
    have fin:∀(sd j:Nat) (v:Nd) (Ks3:List Ent) (H3:Hp),SrAt CN C H3 g Ks3→But1 g.kn H2 H3→NdAt g.T j v→zg7 v<zg7 b→SqOk g.w g.U ((v,m')::r) c→Least (zl7 g.w ((v,m')::r) c) k'→(∀s,Best (zl7 g.w ((v,m')::r) c) s k'→Best (zl7 g.w [(a,0)] 0) (ss++((sd:Nat):Int)::s) k)→
      H3 A=some (.lst (ss.map V.int))∧(ss.map V.int).length<sizeLine∧∀(u:Addr),(upd H3 A (.lst (ss.map V.int++[.int ((sd:Nat):Int)]))) u=none→(upd (upd H3 A (.lst (ss.map V.int++[.int ((sd:Nat):Int)]))) u (.tup [.int ((j:Nat):Int),.int ((m':Nat):Int)])) W=some (.lst (ys.map V.ref))∧(ys.map V.ref).length<sizeLine∧
       ∀v6 v7 v8 v9 v10:Option V,∃n',n'<n∧∃sq2 c2 k2 ss2 ts2 K2,FsI CN C H g i k a A W n' [some (.ref g.s),some (.int (i:Nat)),some (.int ((k':Nat):Int)),some (.ref A),some (.int ((c:Nat):Int)),some (.ref W),v6,v7,v8,v9,v10] (upd (upd (upd H3 A (.lst (ss.map V.int++[.int ((sd:Nat):Int)]))) u (.tup [.int ((j:Nat):Int),.int ((m':Nat):Int)])) W (.lst (ys.map V.ref++[.ref u]))) sq2 c2 k2 ss2 ts2 K2:=fun sd j v Ks3 H3 S3 b3 hj hnv hokv hlv hbv=>by
     have a3:=b3 _ _ a2 nAk
     have w3:=b3 _ _ w2 nWk
     have t3:Tups H2 H3:=zx7 b3 S2.kn
     refine⟨a3,Nat.lt_of_lt_of_le (show(ss.map V.int).length<1000001 by rw[List.length_map];omega) (zd2 (by omega)),fun u hu=>?_⟩
     have t4:Tups H3 (upd H3 A (.lst (ss.map V.int++[.int ((sd:Nat):Int)]))):=zc6 a3
     have S4:=S3.list a3 nAl nAg (ss.map V.int++[.int ((sd:Nat):Int)])
     have w4:(upd H3 A (.lst (ss.map V.int++[.int ((sd:Nat):Int)]))) W=some (.lst (ys.map V.ref)):=by rw[za9 nAW.symm];exact w3
     have a4:(upd H3 A (.lst (ss.map V.int++[.int ((sd:Nat):Int)]))) A=some (.lst ((ss++[((sd:Nat):Int)]).map V.int)):=by rw[za0,List.map_append];rfl
     have b4:But1 g.kn H (upd H3 A (.lst (ss.map V.int++[.int ((sd:Nat):Int)]))):=fun z ob e hz=>by rw[za9 (za8 e hA)];exact b3 _ _ (b2 _ _ e hz) hz
     generalize upd H3 A (.lst (ss.map V.int++[.int ((sd:Nat):Int)]))=H4 at hu t4 S4 w4 a4 b4 ⊢
     have s5:=za4 hu (.tup [.int ((j:Nat):Int),.int ((m':Nat):Int)])
     have S5:=S4.mono s5
     have w5:=s5 _ _ w4
     have a5:=s5 _ _ a4
     have u5:(upd H4 u (.tup [.int ((j:Nat):Int),.int ((m':Nat):Int)])) u=some (.tup [.int ((j:Nat):Int),.int ((m':Nat):Int)]):=za0
     generalize upd H4 u (.tup [.int ((j:Nat):Int),.int ((m':Nat):Int)])=H5 at s5 S5 w5 a5 u5 ⊢
     refine⟨w5,Nat.lt_of_lt_of_le (show(ys.map V.ref).length<1000001 by rw[List.length_map];omega) (zd2 (by omega)),fun v6 v7 v8 v9 v10=>?_⟩
     have t6:Tups H5 (upd H5 W (.lst (ys.map V.ref++[.ref u]))):=zc6 w5
     refine⟨zw4 ((v,m')::r),by rw[zj4];show zg7 v+zw4 r<n;omega,(v,m')::r,c,k',ss++[((sd:Nat):Int)],ys++[u],Ks3,⟨_,_,_,_,_,rfl⟩,rfl,by rw[zj4,List.length_append];show ss.length+1+(zg7 v+zw4 r)≤_;omega,S5.list w5 nWl nWg _,fun z ob e hz=>by rw[za9 (za8 e nW)];exact s5 _ _ (b4 _ _ e hz),by rw[za9 nAW];exact a5,by rw[za0,List.map_append];rfl,?_,hokv,hlv,fun s hs=>by have:=hbv s hs;rw[List.append_assoc];exact this⟩
     rw[List.reverse_cons]
     exact zd5 (Paired.mapP hys2 fun _ _ z=>(((z.mono t3).mono t4).mono (.of s5)).mono t6) (.cons ⟨j,t6 _ _ u5,hj⟩ .nil)
    refine⟨_,rfl,g.s,dx2,_,rfl,ho2,zm3 _ _ _ (by decide +kernel) (by decide +kernel) (by decide +kernel),_,rfl,_,rfl,_,rfl,_,rfl,_,rfl,?_⟩
    refine⟨g,Ks',tn,W,i1,i2,x,y,ys,r,m',c,k',rfl,S2,hrt,h1,h2,w2,by omega,hys2,ok2.left,least2,fun Ks3 H3 S3 b3 hl3=>?_,fun Ks3 H3 S3 b3 hl3 hb3=>?_⟩
    ·obtain⟨f1,f2,f3⟩:=fin 0 i1 x Ks3 H3 S3 b3 h1 (by omega) ok2.left hl3 (fun s hs=>best2 _ (by rw[zl2];exact hs.left fun o ho=>(by rw[zl2] at least2;exact least2.2 (1::o.1,o.2) (List.mem_append_right _ (List.mem_map.mpr ⟨o,ho,rfl⟩)))))
     refine⟨_,rfl,.inl ⟨rfl,_,SqL.of f1⟩,_,rfl,A,_,_,rfl,rfl,f1,f2,?_⟩
     have a3:=b3 _ _ a2 nAk
     have w4:(upd H3 A (.lst (ss.map V.int++[.int 0]))) W=some (.lst (ys.map V.ref)):=by rw[za9 nAW.symm];exact b3 _ _ w2 nWk
     have hr4:(upd H3 A (.lst (ss.map V.int++[.int 0]))) tn=some (.tup [.str "choice",.int ((i1:Nat):Int),.int ((i2:Nat):Int)]):=(zc6 a3) _ _ (zx7 b3 S2.kn _ _ hrt)
     refine⟨_,rfl,.inl ⟨rfl,_,SqL.of w4⟩,_,rfl,_,rfl,_,_,rfl,rfl,tn,_,_,.int ((i1:Nat):Int),rfl,rfl,SqT.of hr4,rfl,_,rfl,(by show 2≤sizeLine;decide),fun u hu=>?_⟩
     obtain⟨f4,f5,f6⟩:=f3 u hu
     exact⟨W,_,_,rfl,rfl,f4,f5,f6 _ _ _ _ _⟩
    ·obtain⟨f1,f2,f3⟩:=fin 1 i2 y Ks3 H3 S3 b3 h2 (by omega) ok2.right hl3 (fun s hs=>best2 _ (by rw[zl2];exact hs.right hb3))
     refine⟨_,rfl,.inl ⟨rfl,_,SqL.of f1⟩,_,rfl,A,_,_,rfl,rfl,f1,f2,?_⟩
     have a3:=b3 _ _ a2 nAk
     have w4:(upd H3 A (.lst (ss.map V.int++[.int 1]))) W=some (.lst (ys.map V.ref)):=by rw[za9 nAW.symm];exact b3 _ _ w2 nWk
     have hr4:(upd H3 A (.lst (ss.map V.int++[.int 1]))) tn=some (.tup [.str "choice",.int ((i1:Nat):Int),.int ((i2:Nat):Int)]):=(zc6 a3) _ _ (zx7 b3 S2.kn _ _ hrt)
     refine⟨_,rfl,.inl ⟨rfl,_,SqL.of w4⟩,_,rfl,_,rfl,_,_,rfl,rfl,tn,_,_,.int ((i2:Nat):Int),rfl,rfl,SqT.of hr4,rfl,_,rfl,(by show 2≤sizeLine;decide),fun u hu=>?_⟩
     obtain⟨f4,f5,f6⟩:=f3 u hu
     exact⟨W,_,_,rfl,rfl,f4,f5,f6 _ _ _ _ _⟩
end
end Pq
namespace Pq
open PySem L2
structure NdFit(w:Nat)(a:Nd):Prop where
 sm:SmN a
 cw_:cw w a 0 0≤1000000
 sp:(zi7 w a 0 0).length≤1000000
 sz:zg7 a≤100000
theorem NdFit.sq{w:Nat}{a:Nd}(h:NdFit w a):SqOk w (zi7 w a 0 0) [(a,0)] 0:=
 ⟨fun p hp=>by rw[List.mem_singleton.mp hp];exact h.sm,few_of fun k=>by
  rw[List.take_nil];exact h.sm.tot,fun y hy=>hy,h.cw_,fun o _=>trivial⟩
def seInit(C:Addr):Sp:=fun vs H Q _=>∃(p dx n:Addr) (w:Nat),vs=[.ref p,.ref n,.int (w:Nat)]∧H p=some (.ins C dx [])∧
 ∀(kn:Addr) (H':Hp),(∃dx,H' p=some (.ins C dx (sf n kn w)))→H' kn=some (.dT [])→H kn=none→But1 p H H'→Q .non H'
def yl7:Sp:=fun vs H Q _=>∃(r:Addr) (p:Plan) (w:Nat),vs=[.ref r,.int (w:Nat)]∧PlanAt H p r∧p.Lay∧p.deep≤60∧p.size≤600∧p.grow≤1000000∧NdFit w (nOf p false)∧
 ∀(t l:Addr) (ss:List Int) (k:Nat) (H':Hp),Same H H'→H' t=some (.tup [.int ((k / SB:Nat):Int),.int ((k % SB:Nat):Int),.ref l])→H' l=some (.lst (ss.map V.int))→Best (zl7 w [(nOf p false,0)] 0) ss k→Q (.ref t) H'
section
variable {P:Program}{w:World}{K:PySem.W.Frag}{mg:Str→Option Value}{base:Heap}{f:Addr}{fd:FuncData}{CN C:Addr}
theorem scSI:FnScope ["self","nodes","width"] ["self","nodes","width"] (za7 zy4):=⟨rfl,rfl,rfl,by decide +kernel,rfl,by decide +kernel,by decide +kernel⟩
theorem ok_seInit(F:Fun K "__init__" "Search.__init__" zy4 f fd)(T:Srs K mg C):FnOk P w K mg base CX0 1 f fd ["self","nodes","width"] (seInit C):=by
 refine F.okq scSI (fun vs H Q E h=>?_) (fun cdv A outer s H vs Q E hr h=>?_)
 ·obtain⟨p,dx,n,w,rfl,_⟩:=h
  rfl
 obtain⟨p,dx,n,wd,rfl,hp,k⟩:=h
 refine⟨_,za1 (zq0 (pvq 0) (pvq 1) rfl) (za1 (zq0 (pvq 0) (pvq 2) rfl) (za6 (zq0 (pvq 0) pe_dnewTq rfl))),?_⟩
 refine⟨_,rfl,_,rfl,p,C,dx,[],rfl,hp,T.cl,T.nNo,(by show 0<1000;decide),?_⟩
 refine⟨_,rfl,_,rfl,p,C,dx,_,rfl,za0,T.cl,T.nWi,(by show 1<1000;decide),fun kn hkn=>?_⟩
 have npk:p≠kn:=fun z=>by rw[←z,za0] at hkn;cases hkn
 have hkn0:H kn=none:=by rw[za9 npk.symm,za9 npk.symm] at hkn;exact hkn
 refine⟨_,rfl,p,C,dx,_,rfl,(by rw[za9 npk];exact za0),T.cl,T.nKn,?_,?_⟩
 ·show(if("nodes":Str)="width" then[(("nodes":Str),V.int ((wd:Nat):Int))] else(("nodes":Str),V.ref n)::[(("width":Str),V.int ((wd:Nat):Int))]).length<1000
  rw[if_neg nw_];show 2<1000;decide
 ·rw[sf_init]
  exact k kn _ ⟨dx,za0⟩ (by rw[za9 npk.symm,za0]) hkn0 fun b o e hb=>by rw[za9 hb,za9 (za8 e hkn0),za9 hb,za9 hb];exact e
theorem scCh:FnScope ["plan","width","nodes","root","search","cost","beyond","line_ends"] ["plan","width"] (za7 zz1):=⟨rfl,rfl,rfl,by decide +kernel,rfl,by decide +kernel,by decide +kernel⟩
set_option maxHeartbeats 8000000 in
theorem ok_choose{fI fR fJ fL fF:Addr}{iD rD jD lD sD:FuncData}(F:Fun K "choose" "choose" zz1 f fd)(TN:Nds K mg CN)(T:Srs K mg C)(MN:Mk K CN fI)(mN:mg "Nodes"=some (.ref CN))(GI:FnOk P w K mg base CX0 1 fI iD ["self"] (ndInit CN))(bI:Binds K iD ["self"] [])
  (MS:Mk K C fJ) (mS:mg "Search"=some (.ref C)) (GJ:FnOk P w K mg base CX0 1 fJ jD ["self","nodes","width"] (seInit C)) (bJ:Binds K jD ["self","nodes","width"] [])
  (RT:MO P w K mg base CN CX0 6 fR rD "root_of" ["self","plan"] (ndRoot CN)) (LC:MO P w K mg base C CX0 7 fL lD "least_cost" ["self","waiting","column"] (yl9 CN C)) (FS:MO P w K mg base C CX0 9 fF sD "first_sides" ["self","root","cost"] (seFirst CN C)):FnOk P w K mg base CX0 10 f fd ["plan","width"] yl7:=by
 refine F.okq scCh (fun vs H Q E h=>?_) (fun cdv A outer s H vs Q E hr h=>?_)
 ·obtain⟨r,p,w,rfl,_⟩:=h
  rfl
 obtain⟨r,p,wd,rfl,hP,hlay,hdp,hz,hg,hfit,q⟩:=h
 have nd:=scCh.nd
 have hr2:Room 2 _:=hr.mono (by decide)
 have hr6:Room 6 _:=hr.mono (by decide)
 have hr7:Room 7 _:=hr.mono (by decide)
 obtain⟨tk,mB⟩:=T.sb
 refine⟨_,za1 (zb2 (i:=2) nd rfl (Or.inl rfl) (pe_make0q MN GI hr2 rfl mN bI .nil zc7))<|
  za1 (zb2 (i:=3) nd rfl (Or.inl rfl) (zc2 (pvq 2) TN.cl RT.m RT.ok hr6 RT.b .nil zc7 (za2 (pvq 0) za3)))<|
  za1 (zb2 (i:=4) nd rfl (Or.inl rfl) (pe_makeq MS GJ hr2 rfl mS bJ .nil zc7 (za2 (pvq 2) (za2 (pvq 1) za3))))<|
  za1 (zb2 (i:=5) nd rfl (Or.inl rfl) (zc2 (pvq 4) T.cl LC.m LC.ok hr7 LC.b .nil zc7 (pa_lstq (zd4 (zf6 (zc5 (za2 (pvq 3) (zb0 za5 za3))) za3)) (zb0 za5 za3))))<|
  za1 (zb2 (i:=6) nd rfl (Or.inl rfl) (zc4 op_fdivT (pvq 5) (zq1 rfl mB (v:=.int 1000000000000) ⟨_,rfl⟩)))<|
  za1 (zb2 (i:=7) nd rfl (Or.inl rfl) (zc4 zo8 (pvq 5) (zq1 rfl mB (v:=.int 1000000000000) ⟨_,rfl⟩)))<|
  za6 (zb4 (zc5 (za2 (pvq 6) (za2 (pvq 7) (ze4 (zc2 (pvq 4) T.cl FS.m FS.ok hr FS.b .nil zc7 (za2 (pvq 3) (za2 (pvq 5) za3))) za3))))),?_⟩
 intro n dxn nn ndxn nne
 refine⟨n,dxn,rfl,za0,fun la na ga H1 N1 k1 fla fna fga=>⟨rfl,?_⟩⟩
 have s0:Same H (upd (upd H dxn (.own n)) n (.ins CN dxn [])):=fun b o e=>by
  rw[za9 (za8 e nn),za9 (za8 e ndxn)]
  exact e
 have s1:Same H H1:=fun b o e=>k1 b o (s0 b o e) (za8 e nn)
 have nla:H la=none:=s0.free fla
 have nna:H na=none:=s0.free fna
 have nga:H ga=none:=s0.free fga
 clear k1 s0 fla fna fga nne ndxn
 obtain⟨dx1,hn1⟩:=N1.ob
 refine⟨_,rfl,n,dx1,_,rfl,hn1,zq6 _ _ _ (by decide +kernel) (by decide +kernel) (by decide +kernel),_,rfl,?_⟩
 refine⟨n,r,la,na,ga,p,rfl,N1,hP.mono (.of s1),hlay,hdp,hz,hg,fun i T2 L2 H2 N2 hi b2=>?_⟩
 have s2:Same H H2:=fun b o e=>b2 _ _ (s1 _ _ e) (za8 e nla) (za8 e nna) (za8 e nga)
 clear b2 s1 hn1 N1
 refine⟨_,rfl,_,rfl,fun sr dxs nsr ndxs nes=>?_⟩
 have s3:Same H2 (upd (upd H2 dxs (.own sr)) sr (.ins C dxs [])):=fun b o e=>by
  rw[za9 (za8 e nsr),za9 (za8 e ndxs)]
  exact e
 refine⟨sr,dxs,n,wd,rfl,za0,fun kn H4 hob hkn fkn k4=>⟨rfl,?_⟩⟩
 have s4:Same H2 H4:=fun b o e=>k4 b o (s3 b o e) (za8 e nsr)
 have s04:=s2.trans s4
 have N4:=N2.mono s4
 have nkn2:H2 kn=none:=s3.free fkn
 have nkn:H kn=none:=s2.free nkn2
 have knna:kn≠na:=fun z=>by rw[z,N2.nu] at nkn2;cases nkn2
 have S4:SrAt CN C H4 ⟨sr,n,la,na,ga,kn,T2,L2,wd,zi7 wd (nOf p false) 0 0⟩ []:=⟨hob,N4,hkn,List.nodup_nil,fun e he=>(by cases he),hfit.sp,knna⟩
 clear k4 s3 fkn nkn2 s4 N2 N4 hkn
 obtain⟨dx4,ho4⟩:=hob
 refine⟨_,rfl,sr,dx4,_,rfl,ho4,zm3 _ _ _ (by decide +kernel) (by decide +kernel) (by decide +kernel),_,rfl,(by show 2≤sizeLine;decide),fun t1 ht1=>⟨(by show 1≤sizeLine;decide),fun l1 hl1=>?_⟩⟩
 have z1:=za4 ht1 (.tup [.int ((i:Nat):Int),.int 0])
 have z2:=za4 hl1 (.lst [.ref t1])
 refine⟨⟨sr,n,la,na,ga,kn,T2,L2,wd,zi7 wd (nOf p false) 0 0⟩,[],l1,[t1],[(nOf p false,0)],0,rfl,S4.mono (z1.trans z2),za0,.cons ⟨i,z2 _ _ za0,hi⟩ .nil,hfit.sq,fun k Ks5 H5 S5 b5 hk=>?_⟩
 have s5:Same H H5:=fun b o e=>b5 _ _ ((z1.trans z2) _ _ (s04 _ _ e)) (za8 e nkn)
 refine⟨_,rfl,_,_,rfl,rfl,rfl,_,rfl,_,_,rfl,rfl,(by show(0:Int)<1000000000000;decide),?_⟩
 obtain⟨dx5,ho5⟩:=S5.ob
 refine⟨_,rfl,_,rfl,_,rfl,sr,dx5,_,rfl,ho5,zm3 _ _ _ (by decide +kernel) (by decide +kernel) (by decide +kernel),_,rfl,_,rfl,?_⟩
 refine⟨⟨sr,n,la,na,ga,kn,T2,L2,wd,zi7 wd (nOf p false) 0 0⟩,Ks5,i,k,nOf p false,rfl,S5,hi,hfit.sq,hk,hfit.sz,fun l ss Ks6 H6 S6 b6 nl6 hl6 hb6=>⟨(by show 3≤sizeLine;decide),fun t ht=>?_⟩⟩
 have s6:Same H H6:=fun b o e=>b6 _ _ (s5 _ _ e) (za8 e nkn)
 have z6:=za4 ht (.tup [.int (((k:Nat):Int) / 1000000000000),.int (((k:Nat):Int) % 1000000000000),.ref l])
 exact q t l ss k _ (s6.trans z6) (by rw[za0,Int.natCast_ediv,Int.natCast_emod];rfl) (z6 _ _ hl6) hb6
end
end Pq
namespace L2
open PySem PySem.Spec PyProof.Rows
open PySem.SeqAt PySem.MeetsSeq PySem.MeetsSeq2 PySem.MeetsSeq3
open PySem.AutoSeq1 (wpAny_loadPart')
theorem lex_drop{ns ms:List Int}{i:Nat}(h1:i<ns.length)(h2:i<ms.length):HT.lexLt (ns.drop i) (ms.drop i)=if ns[i]=ms[i] then HT.lexLt (ns.drop (i+1)) (ms.drop (i+1)) else decide (ns[i]<ms[i]):=by
 rw[List.drop_eq_getElem_cons h1,List.drop_eq_getElem_cons h2,HT.lexLt_cons]
theorem lex_end{ns ms:List Int}{i:Nat}(h:ns.length≤i∨ms.length≤i)(h1:i≤ns.length)(h2:i≤ms.length):HT.lexLt (ns.drop i) (ms.drop i)=decide (ns.length<ms.length):=by
 by_cases c:i<ms.length
 ·have e1:ns.drop i=[]:=List.drop_of_length_le (by omega)
  rw[e1,List.drop_eq_getElem_cons c,HT.lexLt_nil_cons,decide_eq_true (by omega)]
 ·have e2:ms.drop i=[]:=List.drop_of_length_le (by omega)
  rw[e2,decide_eq_false (by omega)]
  cases ns.drop i with
  |nil=>rfl
  |cons _ _=>rfl
theorem ints_at{vs:List Value}{ns:List Int}(h:IntsAre vs ns){i:Nat}(h1:i<vs.length)(h2:i<ns.length):∃t,vs[i]=.int ns[i] t:=by
 induction h generalizing i with
 |nil=>simp at h1
 |cons a t hr ih=>
  cases i with
  |zero=>exact⟨t,rfl⟩
  |succ i=>exact ih (i:=i) (by simpa using h1) (by simpa using h2)
theorem lt_loop_ints(l b:Addr)(items items2:Array Value)(n n2:Nat)(ns ms:List Int)(hi:IntsAre items.toList ns)(hj:IntsAre items2.toList ms)(k:Nat):∀i:Nat,min ns.length ms.length - i=k→i≤ns.length→i≤ms.length→
  Meets (Builtin.«list.__eq__.loop» ⟨[.ref l,.ref b,rawInt i,rawInt 0],[]⟩) (fun _ R s=>s.heap.get? l=some { cls:=.type "list",data:=.seq items n }∧s.heap.get? b=some { cls:=.type "list",data:=.seq items2 n2 }∧R (.ok (.ret (.bool (HT.lexLt (ns.drop i) (ms.drop i))))) s):=by
 have z1:items.size=ns.length:=by rw[←hi.length];simp
 have z2:items2.size=ms.length:=by rw[←hj.length];simp
 induction k with
 |zero=>
  intro i hk hi1 hi2 prog w A R s h;obtain⟨hp,g,d,tk,os⟩:=s;obtain⟨hl,hb,h⟩:=h
  rw[lex_end (by omega) hi1 hi2] at h
  wp_walk using wpAny_loadPart' hl,wpAny_loadPart' hb
  by_cases c:i<ns.length
  ·have e1:items[((i:Nat):Int).toNat]? = some items[i]:=by simp[z1,c]
   have e2:items2[((i:Nat):Int).toNat]? = none:=by simp;omega
   rw[e1,e2];wp_walk using wpAny_loadPart' hl,wpAny_loadPart' hb
   show R (.ok (.ret (.bool (decide (items.size<items2.size))))) _
   rw[z1,z2];exact h
  ·have e1:items[((i:Nat):Int).toNat]? = none:=by simp;omega
   rw[e1];wp_walk using wpAny_loadPart' hl,wpAny_loadPart' hb
   show R (.ok (.ret (.bool (decide (items.size<items2.size))))) _
   rw[z1,z2];exact h
 |succ k ih=>
  intro i hk hi1 hi2 prog w A R s h;obtain⟨hp,g,d,tk,os⟩:=s;obtain⟨hl,hb,h⟩:=h
  have c1:i<ns.length:=by omega
  have c2:i<ms.length:=by omega
  rw[lex_drop c1 c2] at h
  wp_walk using wpAny_loadPart' hl,wpAny_loadPart' hb
  have e1:items[((i:Nat):Int).toNat]? = some items[i]:=by simp[z1,c1]
  have e2:items2[((i:Nat):Int).toNat]? = some items2[i]:=by simp[z2,c2]
  have hc:((i:Int)+1)=((i+1:Nat):Int):=by omega
  obtain⟨t,ht⟩:=ints_at hi (i:=i) (by simp[z1,c1]) c1
  obtain⟨u,hu⟩:=ints_at hj (i:=i) (by simp[z2,c2]) c2
  have ht:items[i]=.int ns[i] t:=by simpa using ht
  have hu:items2[i]=.int ms[i] u:=by simpa using hu
  rw[e1,e2,ht,hu]
  obtain⟨e,he,hiff⟩:=HT.eqAt_int A.in1 ⟨hp,g,d,tk,os⟩ ns[i] t ms[i] u
  refine wpAny_bind (he prog w _ _ ?_)
  cases e with
  |true=>
   rw[if_pos (hiff.mp rfl)] at h
   wp_walk
   rw[hc];exact⟨plainId_quiet plain_eq_loop _,codeAny_builtin entry_eq_loop (by rw[Around.under_plainId plain_eq_loop _];exact ih (i+1) (by omega) (by omega) (by omega) prog w A R _ ⟨hl,hb,h⟩)⟩
  |false=>
   rw[if_neg (fun q=>absurd (hiff.mpr q) Bool.false_ne_true)] at h
   wp_walk using wpAny_loadPart' hl,wpAny_loadPart' hb
   rw[e1,e2,ht,hu]
   have hri:=HT.rcLt_int A.in1 ⟨hp,g,d,tk,os⟩ ns[i] t ms[i] u prog w
   wp_walk using hri
   exact h
theorem list_lt_ints(l b:Addr)(items items2:Array Value)(n n2:Nat)(ns ms:List Int)(hi:IntsAre items.toList ns)(hj:IntsAre items2.toList ms):
  Meets (Builtin.«list.__lt__» ⟨[.ref l,.ref b],[]⟩) (fun _ R s=>s.heap.get? l=some { cls:=.type "list",data:=.seq items n }∧s.heap.get? b=some { cls:=.type "list",data:=.seq items2 n2 }∧R (.ok (.ret (.bool (HT.lexLt ns ms)))) s):=by
 intro prog w A R s h;obtain⟨hp,g,d,tk,os⟩:=s;obtain⟨hl,hb,h⟩:=h
 have f3:=AutoSeq1.sub_list_list
 wp_walk using wpAny_loadPart' hl,wpAny_loadPart' hb
 exact⟨plainId_quiet plain_eq_loop _,codeAny_builtin entry_eq_loop (by rw[Around.under_plainId plain_eq_loop _];exact lt_loop_ints l b items items2 n n2 ns ms hi hj _ 0 rfl (Nat.zero_le _) (Nat.zero_le _) prog w A R _ ⟨hl,hb,h⟩)⟩
theorem rcLt_lists{prog:Program}{w:World}{A:Around}{s:Shared}{l b:Addr}{items items2:Array Value}{n n2:Nat}{ns ms:List Int}(hl:s.heap.get? l=some { cls:=.type "list",data:=.seq items n })(hb:s.heap.get? b=some { cls:=.type "list",data:=.seq items2 n2 })
  (hi:IntsAre items.toList ns) (hj:IntsAre items2.toList ms) (hu:A.units<cLine) (E Q:Value→Shared→Prop) (h:Q (.bool (HT.lexLt ns ms)) s):wpAny (model prog w) A (richCompare .Lt (.ref l) (.ref b)) Q E s:=
 richCompare_meets_room (op:=.Lt) ⟨_,hl,rfl⟩ ⟨_,hb,rfl⟩ PySem.F.slot_list_lt PySem.F.entry_list_lt (PySem.F.args_list_lt_2 _ _) (list_lt_ints l b items items2 n n2 ns ms hi hj) ⟨hl,hb,show Value.bool (HT.lexLt ns ms)≠Value.notImplemented∧Q (.bool (HT.lexLt ns ms)) s from⟨(fun x=>nomatch x),h⟩⟩ hu
abbrev RowT:=Int×Int×List Int
def lt3(x y:RowT):Bool:=if x.1=y.1 then(if x.2.1=y.2.1 then(if x.2.2=y.2.2 then false else HT.lexLt x.2.2 y.2.2) else decide (x.2.1<y.2.1)) else decide (x.1<y.1)
theorem tuple_ltAt(l b:Addr)(items items2:Array Value)(n n2:Nat)(dd dd2:Option Addr)(sl sl2:Array (Option Value))(hsz:items.size=items2.size)(e r:Nat→Bool)(hr:∀j,j<items.size→e j=true→r j=r (j+1))(hend:r items.size=false):
  Meets (Builtin.«tuple.__lt__» ⟨[.ref l,.ref b],[]⟩) (fun A R s=>s.heap.get? l=some { cls:=.type "tuple",dict:=dd,data:=.seq items n,slots:=sl }∧s.heap.get? b=some { cls:=.type "tuple",dict:=dd2,data:=.seq items2 n2,slots:=sl2 }∧(∀j (h1:j<items.size) (h2:j<items2.size),EqAt A.in1 s items[j] items2[j] (e j))∧
    (∀j (h1:j<items.size) (h2:j<items2.size),e j=false→∀(prog:Program) (w:World) (E Q:Value→Shared→Prop),Q (.bool (r j)) s→wpAny (model prog w) A.in1 (richCompare .Lt items[j] items2[j]) Q E s)∧R (.ok (.ret (.bool (r 0)))) s):=
 .of_wp fun prog w A R s h=>by
  obtain⟨hp,g,d,tk,os⟩:=s;obtain⟨hl,hb,he,hlt',h⟩:=h;have f2:=AutoSeq1.sub_tuple_tuple
  have hZ:(items.toList.zip items2.toList).length=items.size:=by simp[hsz]
  wp_walk using wpAny_loadPart' hl,wpAny_loadPart' hb,wpAny_forIn_list _ (fun rest b s'=>b.1=none∧s'=⟨hp,g,d,tk,os⟩∧∃i,i≤items.size∧rest=(items.toList.zip items2.toList).drop i∧R (.ok (.ret (.bool (r i)))) ⟨hp,g,d,tk,os⟩) _
  case turn=>
   rintro⟨y,x⟩ rest b s' ⟨hb',rfl,i,hi,hz,hR⟩
   have hlt:i<(items.toList.zip items2.toList).length:=by
    rcases Nat.lt_or_ge i (items.toList.zip items2.toList).length with h'|h'<;>first|exact h'|(rw[List.drop_of_length_le h'] at hz;cases hz)
   have h1:i<items.size:=by omega
   have h2:i<items2.size:=by omega
   rw[List.drop_eq_getElem_cons hlt] at hz;injection hz with hyx hrest
   obtain rfl:y=items[i]:=by have:=congrArg Prod.fst hyx;simpa using this
   obtain rfl:x=items2[i]:=by have:=congrArg Prod.snd hyx;simpa using this
   refine wpAny_bind (he i h1 h2 prog w _ _ ?_)
   cases hy:e i with
   |true=>
    rw[hr i h1 hy] at hR
    wp_walk
    exact⟨rfl,rfl,i+1,h1,hrest,hR⟩
   |false=>
    have hri:=hlt' i h1 h2 hy prog w
    wp_walk using hri
    exact⟨_,rfl,by simpa using hR⟩
  case fin=>
   rintro⟨b1,b2⟩ s' ⟨hb',rfl,i,hi,hz,hR⟩;simp only at hb';subst hb'
   have hge:items.size≤i:=by
    have:=congrArg List.length hz;rw[List.length_drop,hZ] at this;simp at this;omega
   obtain rfl:i=items.size:=by omega
   rw[hend] at hR
   wp_walk
   exact⟨_,rfl,by simpa [Builtin.Tuple.tupleCompareSizes,hsz] using hR⟩
  case h=>exact⟨rfl,rfl,0,Nat.zero_le _,rfl,h⟩
section
variable {prog:Program}{w:World}{A:Around}{R:Result→Shared→Prop}{I:Addr}{fp wr:List Addr}{n:Nat}{P:Nat→Value→Prop}{St:Nat→Heap→Prop}
def CmpIn(prog:Program)(w:World)(A:Around)(J:Heap→Prop)(P:Nat→Value→Prop)(bt:Nat→Nat→Bool):Prop:=
 ∀i j vi vj (s:Shared) (Q E:Value→Shared→Prop),J s.heap→P i vi→P j vj→Q (.bool (bt i j)) s→wpAny (model prog w) A (richCompare .Lt vi vj) Q E s
theorem min_turns(W:Walks prog w A.in1 I fp wr n P St)(bt:Nat→Nat→Bool)(J:Heap→Prop)(hcmp:CmpIn prog w A.in1 J P bt)(S:Addr)(hSf:S∉fp)(hJ:∀h h':Heap,J h→(∀b o,b∉wr→b≠S→h.get? b=some o→h'.get? b=some o)→J h'):∀(k j:Nat) (s:Shared) (vb:Value) (c:Nat),n - (j+1)=k→j+1≤n→J s.heap→St (j+1) s.heap→P (argBest bt j) vb→
  s.heap.get? S=some { cls:=.type "list",dict:=none,data:=.seq #[vb,vb] c,slots := #[] }→(∀v h' tk,P (argBest bt (n - 1)) v→(∀b o,b∉wr→b≠S→s.heap.get? b=some o→h'.get? b=some o)→R (.ok (.ret v)) { s with heap:=h',toks:=tk })→codeAny (model prog w) A (.builtin "min.loop" ⟨[.ref I,.none,.ref S],[]⟩) R s:=by
 have hSw:S∉wr:=fun h=>hSf (W.sub _ h);have hname:(toString "min"++toString ".loop":String)="min.loop":=by decide
 intro k
 induction k with
 |zero=>
  intro j s vb c hk hj hh hst hPb hS hR;have hin:j+1=n:=by omega
  refine codeAny_builtin F.entry_min_loop ?_;rw[Around.under_plainId F.plain_min_loop _];show wpAny _ A.in1 (seqItems? (.ref S) >>= _) _ _ s
  refine wpAny_bind (wpAny_seqItems hS rfl ?_);show wpAny _ A.in1 (tryCatch (pyNext (.ref I)) _ >>= _) _ _ s
  refine wpAny_bind (wpAny_tryCatch (W.done s _ _ (hin▸hst) fun h' tk hk'=>?_));have hS':=hk' S _ hSw hS
  show wpAny _ A.in1 (updateSeq S (fun _ => #[]) >>= _) _ _ _;refine wpAny_bind ?_;refine wpAny_updateSeq hS' rfl (wpAny_bind (wpAny_letGo (wpAny_pure ?_)))
  exact hR vb _ tk (by rw[←hin];exact hPb) fun b o hbw hbS e=>(Heap.get?_update_other _ _ (Ne.symm hbS)).trans (hk' b o hbw e)
 |succ k ih=>
  intro j s vb c hk hj hh hst hPb hS hR;have hlt:j+1<n:=by omega
  refine codeAny_builtin F.entry_min_loop ?_;rw[Around.under_plainId F.plain_min_loop _];show wpAny _ A.in1 (seqItems? (.ref S) >>= _) _ _ s
  refine wpAny_bind (wpAny_seqItems hS rfl ?_);show wpAny _ A.in1 (tryCatch (pyNext (.ref I)) _ >>= _) _ _ s
  refine wpAny_bind (wpAny_tryCatch (W.item (j+1) s _ _ hlt hst fun v h' tk hP hst' hk'=>?_));have hS':=hk' S _ hSw hS
  have hh1:J h':=hJ _ _ hh fun b o hbw _ e=>hk' b o hbw e
  show wpAny _ A.in1 (tryCatch (holding [v,v] (richCompare .Lt v vb >>= _)) _ >>= _) _ _ _;refine wpAny_bind (wpAny_tryCatch (wpAny_holding (wpAny_bind (hcmp (j+1) (argBest bt j) v vb _ _ _ hh1 hP hPb ?_))))
  refine wpAny_bind (wpAny_holding (wpAny_truthy_bool ?_));refine wpAny_bind (wpAny_letGo (wpAny_pure ?_))
  cases hb:bt (j+1) (argBest bt j) with
  |true=>
   simp only[if_true];refine wpAny_bind ?_;refine wpAny_updateSeq hS' rfl (wpAny_bind (wpAny_letGo ?_));rw[hname]
   refine wpAny_pure ⟨plainId_quiet F.plain_min_loop _,ih (j+1) _ v _ (by omega) hlt (hJ _ _ hh1 fun b o _ hbS e=>(Heap.get?_update_other _ _ (Ne.symm hbS)).trans e) (W.frame _ _ _ hst' fun b hbf o e=>?_) (by simp only[argBest,hb,if_true];exact hP) (Heap.get?_update_self _ hS' rfl) fun v' h'' tk'' hP' hk''=>?_⟩
   ·exact(Heap.get?_update_other _ _ (show S≠b from fun z=>hSf (z▸hbf))).trans e
   ·exact hR v' h'' tk'' hP' (fun b o hbw hbS e=>hk'' b o hbw hbS ((Heap.get?_update_other _ _ (Ne.symm hbS)).trans (hk' b o hbw e)))
  |false=>
   simp only[Bool.false_eq_true,if_false];refine wpAny_bind (wpAny_letGo ?_);rw[hname]
   refine wpAny_pure ⟨plainId_quiet F.plain_min_loop _,ih (j+1) _ vb c (by omega) hlt hh1 hst' (by simp only[argBest,hb,Bool.false_eq_true,if_false];exact hPb) hS' fun v' h'' tk'' hP' hk''=>hR v' h'' tk'' hP' fun b o hbw hbS e=>hk'' b o hbw hbS (hk' b o hbw e)⟩
theorem min_first(W:Walks prog w A.in1 I fp wr n P St)(bt:Nat→Nat→Bool)(J:Heap→Prop)(hcmp:CmpIn prog w A.in1 J P bt)(S:Addr)(hSf:S∉fp)(hJ:∀h h':Heap,J h→(∀b o,b∉wr→b≠S→h.get? b=some o→h'.get? b=some o)→J h')(hn:0<n){s:Shared}{c:Nat}(hh:J s.heap)(hst:St 0 s.heap)(hS:s.heap.get? S=some { cls:=.type "list",dict:=none,data:=.seq #[] c,slots := #[] })
  (hR:∀v h' tk,P (argBest bt (n - 1)) v→(∀b o,b∉wr→b≠S→s.heap.get? b=some o→h'.get? b=some o)→R (.ok (.ret v)) { s with heap:=h',toks:=tk }):codeAny (model prog w) A (.builtin "min.loop" ⟨[.ref I,.none,.ref S],[]⟩) R s:=by
 have hSw:S∉wr:=fun h=>hSf (W.sub _ h);have hname:(toString "min"++toString ".loop":String)="min.loop":=by decide
 refine codeAny_builtin F.entry_min_loop ?_;rw[Around.under_plainId F.plain_min_loop _];show wpAny _ A.in1 (seqItems? (.ref S) >>= _) _ _ s
 refine wpAny_bind (wpAny_seqItems hS rfl ?_);show wpAny _ A.in1 (tryCatch (pyNext (.ref I)) _ >>= _) _ _ s
 refine wpAny_bind (wpAny_tryCatch (W.item 0 s _ _ hn hst fun v h' tk hP hst' hk'=>?_));have hS':=hk' S _ hSw hS
 have hh1:J h':=hJ _ _ hh fun b o hbw _ e=>hk' b o hbw e
 show wpAny _ A.in1 (updateSeq S (fun _ => #[v,v]) >>= _) _ _ _;refine wpAny_bind ?_;refine wpAny_updateSeq hS' rfl ?_;rw[hname]
 refine wpAny_pure ⟨plainId_quiet F.plain_min_loop _,min_turns W bt J hcmp S hSf hJ _ 0 _ v _ rfl hn (hJ _ _ hh1 fun b o _ hbS e=>(Heap.get?_update_other _ _ (Ne.symm hbS)).trans e) (W.frame _ _ _ hst' fun b hbf o e=>?_) hP (Heap.get?_update_self _ hS' rfl) fun v' h'' tk'' hP' hk''=>?_⟩
 ·exact(Heap.get?_update_other _ _ (show S≠b from fun z=>hSf (z▸hbf))).trans e
 ·exact hR v' h'' tk'' hP' (fun b o hbw hbS e=>hk'' b o hbw hbS ((Heap.get?_update_other _ _ (Ne.symm hbS)).trans (hk' b o hbw e)))
end
section
variable {prog:Program}{w:World}{A:Around}{E:Value→Shared→Prop}{s:Shared}
def OldIn(h0 h:Heap):Prop:=∀b o,h0.get? b=some o→h.get? b=some o
theorem min_list_at{l:Addr}{items:Array Value}{Q:Value→Shared→Prop}(hh:A.handled=none)(hl:s.heap.IsList l items)(hn:0<items.size)(bt:Nat→Nat→Bool)(hcmp:CmpIn prog w A.in1 (OldIn s.heap) (fun i v=>items[i]? = some v) bt)
  (hQ:∀v h' tk,items[argBest bt (items.size - 1)]? = some v→OldIn s.heap h'→Q v { s with heap:=h',toks:=tk }):wpAny (model prog w) A (call (.builtin "min") [.ref l]) Q E s:=by
 have hname:(toString "min"++toString ".loop":String)="min.loop":=by decide
 have hlt:l<s.heap.objs.size:=by obtain⟨o,e,_⟩:=id hl;exact Heap.lt_size e
 refine call_function_tree F.kind_min F.plain_min F.entry_min (F.args_min1 _) ?_;show wpAny _ A.in1 (Builtin.Builtins.bindParams "min" ["key","default"] 0 ⟨[],[]⟩ >>= _) _ _ s
 refine wpAny_bind (wpAny_of_eq (show Builtin.Builtins.bindParams "min" ["key","default"] 0 ⟨[],[]⟩=pure [none,none] from rfl) (wpAny_bind (wpAny_pure (wpAny_bind (wpAny_pyIter_list hl ?_)))))
 refine wpAny_bind (wpAny_newObj_type ?_)
 have old1:∀b o,s.heap.get? b=some o→(s.heap.push { cls:=.type "list_iterator",data:=.fields #[.ref l,.int 0 0] }).get? b=some o:=fun b o e=>Heap.get?_push_of_some _ e
 have hW:=Walks.list (prog:=prog) (w:=w) (A:=A.in1) (by exact hh) s.heap.objs.size l (Nat.ne_of_lt hlt) items
 have hsz:(s.heap.push { cls:=.type "list_iterator",data:=.fields #[.ref l,.int 0 0] }).objs.size=s.heap.objs.size+1:=by simp[Heap.push]
 rw[hname]
 refine wpAny_pure ⟨plainId_quiet F.plain_min_loop _,min_first hW bt (OldIn s.heap) hcmp _ (by rw[hsz];intro z;rcases List.mem_cons.mp z with z|z;exact absurd z (Nat.succ_ne_self _);exact absurd (List.mem_singleton.mp z) (Nat.ne_of_gt (Nat.lt_succ_of_lt hlt))) (fun h h' o k b ob e=>k b ob (fun z=>absurd (List.mem_singleton.mp z) (Nat.ne_of_lt (Heap.lt_size e))) (by rw[hsz];exact Nat.ne_of_lt (Nat.lt_succ_of_lt (Heap.lt_size e))) (o b ob e)) hn (fun b o e=>Heap.get?_push_of_some _ (old1 b o e)) ⟨?_,?_⟩ (Heap.get?_push_size _ rfl) fun v h' tk hP hk=>?_⟩
 ·exact⟨_,Heap.get?_push_of_some _ (Heap.get?_push_size _ rfl),rfl,rfl⟩
 ·obtain⟨o,e,q⟩:=id hl;exact⟨o,Heap.get?_push_of_some _ (old1 _ _ e),q⟩
 ·exact hQ v h' tk hP fun b o e=>hk b o (fun z=>absurd (List.mem_singleton.mp z) (Nat.ne_of_lt (Heap.lt_size e))) (by rw[hsz];exact Nat.ne_of_lt (Nat.lt_succ_of_lt (Heap.lt_size e))) (Heap.get?_push_of_some _ (old1 b o e))
end
section
variable {X:Cx}
def RowAt3(H:Hp)(r:Addr)(x:RowT):Prop:=∃l,H r=some (.tup [.int x.1,.int x.2.1,.ref l])∧H l=some (.lst (x.2.2.map V.int))
theorem lt3_at {prog : Program} {w : World} {A : Around} {s : Shared} {H : Hp} (hok : HOk prog w H s.heap) (hu : A.units + 4 < cLine) {r r' : Addr} {x y : RowT} (hx : RowAt3 H r x) (hy : RowAt3 H r' y) (Q E : Value → Shared → Prop) (h : Q (.bool (lt3 x y)) s) : wpAny (model prog w) A (richCompare .Lt (.ref r) (.ref r')) Q E s := by
  obtain ⟨l, h1, h2⟩ := hx
  obtain ⟨l', h3, h4⟩ := hy
  obtain ⟨z1, its, r1, ⟨⟨cls, dd, data, sl⟩, ho, hc, n, hd⟩⟩ := hok r _ h1
  obtain ⟨z2, its2, r2, ⟨⟨cls2, dd2, data2, sl2⟩, ho2, hc2, n2, hd2⟩⟩ := hok r' _ h3
  obtain ⟨z3, li, m1, q1, e1⟩ := hok l _ h2
  obtain ⟨z4, li2, m2, q2, e2⟩ := hok l' _ h4
  simp only at hc hd hc2 hd2
  subst hc hd hc2 hd2
  cases r1 with
  | cons a1 r1 =>
  cases r1 with
  | cons a2 r1 =>
  cases r1 with
  | cons a3 r1 =>
  cases r1
  cases r2 with
  | cons b1 r2 =>
  cases r2 with
  | cons b2 r2 =>
  cases r2 with
  | cons b3 r2 =>
  cases r2
  obtain ⟨t1, rfl⟩ := a1
  obtain ⟨t2, rfl⟩ := a2
  cases a3
  obtain ⟨u1, rfl⟩ := b1
  obtain ⟨u2, rfl⟩ := b2
  cases b3
  have i1 := ya2 q1
  have i2 := ya2 q2
  obtain ⟨as, ra⟩ := (DV.lst h2 (yc3 x.2.2)).reads hok _ (.ref l) (.ref l) rfl
  obtain ⟨bs, rb⟩ := (DV.lst h4 (yc3 y.2.2)).reads hok _ (.ref l') (.ref l') rfl
  have eL : SeqAt.EqAt A.in1 s (.ref l) (.ref l') (decide (x.2.2 = y.2.2)) := by
    have := SeqAt.eqAt_reads _ _ A.in1 s _ _ _ _ ra rb (zr3 x.2.2) (zr3 y.2.2) (by have := ya3 x.2.2; have e : A.in1.units = A.units + 1 := rfl; omega)
    rw [eqv_ints] at this
    exact this
  let e : Nat → Bool := fun j => if j = 0 then decide (x.1 = y.1) else if j = 1 then decide (x.2.1 = y.2.1) else decide (x.2.2 = y.2.2)
  let rr : Nat → Bool := fun j => if j = 0 then lt3 x y else if j = 1 then (if x.2.1 = y.2.1 then (if x.2.2 = y.2.2 then false else HT.lexLt x.2.2 y.2.2) else decide (x.2.1 < y.2.1)) else if j = 2 then (if x.2.2 = y.2.2 then false else HT.lexLt x.2.2 y.2.2) else false
  refine richCompare_meets_room (op := .Lt) ⟨_, ho, rfl⟩ ⟨_, ho2, rfl⟩ PySem.F.slot_tuple_lt PySem.F.entry_tuple_lt (PySem.F.args_tuple_lt_2 _ _) (tuple_ltAt r r' [Value.int x.1 t1, Value.int x.2.1 t2, Value.ref l].toArray [Value.int y.1 u1, Value.int y.2.1 u2, Value.ref l'].toArray n n2 dd dd2 sl sl2 rfl e rr (fun j hj hej => ?_) rfl) ⟨ho, ho2, fun j hj1 hj2 => ?_, fun j hj1 hj2 hej prog' w' E' Q' hq => ?_, show Value.bool (lt3 x y) ≠ Value.notImplemented ∧ Q (.bool (lt3 x y)) s from ⟨(fun x => nomatch x), h⟩⟩ (by omega)
  · have hj : j < 3 := hj
    match j, hj with
    | 0, _ =>
      have : x.1 = y.1 := of_decide_eq_true hej
      show lt3 x y = _
      unfold lt3
      rw [if_pos this]; rfl
    | 1, _ =>
      have : x.2.1 = y.2.1 := of_decide_eq_true hej
      show (if x.2.1 = y.2.1 then _ else _) = _
      rw [if_pos this]; rfl
    | 2, _ =>
      have : x.2.2 = y.2.2 := of_decide_eq_true hej
      show (if x.2.2 = y.2.2 then _ else _) = _
      rw [if_pos this]; rfl
  · have hj : j < 3 := hj1
    match j, hj with
    | 0, _ => have := SeqAt.EqAt.int_int (A := A.in1) (s := s) x.1 t1 y.1 u1; have e0 : (x.1 == y.1) = decide (x.1 = y.1) := by by_cases c : x.1 = y.1 <;> simp [c]
              rw [e0] at this; exact this
    | 1, _ => have := SeqAt.EqAt.int_int (A := A.in1) (s := s) x.2.1 t2 y.2.1 u2; have e0 : (x.2.1 == y.2.1) = decide (x.2.1 = y.2.1) := by by_cases c : x.2.1 = y.2.1 <;> simp [c]
              rw [e0] at this; exact this
    | 2, _ => exact eL
  · have hj : j < 3 := hj1
    match j, hj with
    | 0, _ =>
      have c : ¬ x.1 = y.1 := of_decide_eq_false hej
      have hq : Q' (.bool (lt3 x y)) s := hq
      unfold lt3 at hq
      rw [if_neg c] at hq
      exact HT.rcLt_int _ s x.1 t1 y.1 u1 prog' w' E' Q' hq
    | 1, _ =>
      have c : ¬ x.2.1 = y.2.1 := of_decide_eq_false hej
      have hq : Q' (.bool (if x.2.1 = y.2.1 then _ else _)) s := hq
      rw [if_neg c] at hq
      exact HT.rcLt_int _ s x.2.1 t2 y.2.1 u2 prog' w' E' Q' hq
    | 2, _ =>
      have c : ¬ x.2.2 = y.2.2 := of_decide_eq_false hej
      have hq : Q' (.bool (if x.2.2 = y.2.2 then _ else _)) s := hq
      rw [if_neg c] at hq
      exact rcLt_lists e1 e2 (by simpa using i1) (by simpa using i2) (by have e : A.in1.units = A.units + 1 := rfl; omega) E' Q' hq
theorem ym2{H:Hp}:∀ {rs:List Addr} {rows:List RowT},Paired (RowAt3 H) rs rows→∀(i:Nat) (r:Addr),rs[i]? = some r→∃x,rows[i]? = some x∧RowAt3 H r x
 |_,_,.nil,i,r,e=>by simp at e
 |_,_,.cons q t,0,r,e=>by simp at e;subst e;exact⟨_,rfl,q⟩
 |_,_,.cons q t,i+1,r,e=>by
  obtain⟨x,h1,h2⟩:=ym2 t i r (by simpa using e)
  exact⟨x,by simpa using h1,h2⟩
theorem call_min3(hc:X.calm=true)(hu:X.A.units+64<cLine):CallR X (.builtin "min") (fun xs H Q=>∃(a:Addr) (rs:List Addr) (rows:List RowT),xs=[.ref a]∧H a=some (.lst (rs.map V.ref))∧Paired (RowAt3 H) rs rows∧rows≠[]∧
  ∀(r:Addr),rs[argBest (fun i j=>lt3 (rows.getD i (0,0,[])) (rows.getD j (0,0,[]))) (rows.length - 1)]? = some r→Q (.ref r) H):=by
 intro pins s σ H xs us Q I r h
 obtain⟨a,rs,rows,rfl,ha,hp,hne,q⟩:=h
 obtain⟨u,rfl,ru⟩:=zv6 r
 cases ru
 obtain⟨its,n,rv,e,z⟩:=I.lst ha
 have hlen:=Paired.length hp
 have hil:its.length=rs.length:=by have:=rv.length;rw[List.length_map] at this;exact this.symm
 have hn:0<rows.length:=by cases rows with|nil=>exact absurd rfl hne|cons _ _=>simp
 have item:∀(i:Nat) (v:Value),its.toArray[i]? = some v→∃r x,v=.ref r∧rs[i]? = some r∧rows[i]? = some x∧RowAt3 H r x:=fun i v hv=>by
  have hv:its[i]? = some v:=by simpa using hv
  have hi:i<rs.length:=by have:=(List.getElem?_eq_some_iff.mp hv).1;omega
  obtain⟨x,hx1,hx2⟩:=ym2 hp i rs[i] (List.getElem?_eq_getElem hi)
  refine⟨rs[i],x,?_,List.getElem?_eq_getElem hi,hx1,hx2⟩
  have:=Vals.get rv (i:=i) (x:=.ref rs[i]) (by rw[List.getElem?_map,List.getElem?_eq_getElem hi];rfl)
  obtain⟨u,hu1,hu2⟩:=this
  rw[hv] at hu1
  cases hu1
  exact hu2
 refine min_list_at (items:=its.toArray) (I.ok.hd hc) ⟨_,e,rfl,n,rfl⟩ (by rw[List.size_toArray];omega) (fun i j=>lt3 (rows.getD i (0,0,[])) (rows.getD j (0,0,[]))) (fun i j vi vj s' Q' E' o hi hj hq=>?_) (fun v h' tk hv o=>?_)
 ·obtain⟨ri,x,rfl,_,hx1,hx2⟩:=item i vi hi
  obtain⟨rj,y,rfl,_,hy1,hy2⟩:=item j vj hj
  have hok':HOk X.prog X.w H s'.heap:=I.hok.kept o
  have hq:Q' (.bool (lt3 (rows.getD i (0,0,[])) (rows.getD j (0,0,[])))) s':=hq
  rw[List.getD_eq_getElem?_getD,List.getD_eq_getElem?_getD,hx1,hy1] at hq
  exact lt3_at hok' (by have e:X.A.in1.units=X.A.units+1:=rfl;omega) hx2 hy2 Q' E' hq
 ·rw[List.size_toArray,hil,hlen] at hv
  obtain⟨ri,x,rfl,h1,_,_⟩:=item _ v hv
  exact⟨.ref ri,H,I.kept (t':=tk) o,rfl,q ri h1⟩
end
end L2
namespace Pq
open PySem L2
theorem yc0:∀(a b:List Nat),zc9 (a++10::b)=zc9 a++zc9 b
 |[],b=>by show zc9 (10::b)=_;rw[zf5,if_pos rfl];rfl
 |c::a,b=>by
  have ih:=yc0 a b
  show zc9 (c::(a++10::b))=_
  rw[zf5,zf5,ih]
  by_cases h:c=10
  ·rw[if_pos h,if_pos h];rfl
  ·rw[if_neg h,if_neg h]
   cases e:zc9 a with
   |nil=>exact absurd e (zw3 a)
   |cons r rs=>rfl
theorem row_last:∀(n:Nat) (t:List Nat),t.length=n→∃us u,zc9 t=us++[u]∧u.length=col t
 |0,t,h=>by
  have:t=[]:=List.eq_nil_of_length_eq_zero h
  subst this
  exact⟨[],[],rfl,rfl⟩
 |n+1,t,h=>by
  have hne:t≠[]:=fun z=>by rw[z] at h;cases h
  have e:=(List.dropLast_concat_getLast hne)
  obtain⟨us,u,h1,h2⟩:=row_last n t.dropLast (by rw[List.length_dropLast];omega)
  generalize t.getLast hne=c at e
  generalize t.dropLast=s at e h1 h2
  subst e
  by_cases hc:c=10
  ·subst hc
   refine⟨us++[u],[],?_,?_⟩
   ·have:s++[10]=s++10::[]:=rfl
    rw[this,yc0,h1];rfl
   ·have:=zp2 s 0;simp at this;simp[this]
  ·obtain⟨us',u',q1,q2⟩:=zj8 s [c] (by simpa using fun z=>hc z.symm)
   rw[h1] at q1
   have e1:=List.append_inj' q1 rfl
   obtain⟨rfl,e2⟩:=e1
   have e2:u=u':=by simpa using e2
   subst e2
   refine⟨us,u++[c],q2,?_⟩
   rw[List.length_append,h2,ze7 s [c] (by simpa using hc)]
def byd(w:Nat)(t:List Nat):Nat:=((zc9 t).map fun r=>r.length - w).sum
def lns(t:List Nat):Nat:=(zc9 t).length - 1
def totC(w:Nat)(t:List Nat):Nat:=SB*byd w t+lns t
theorem lns_ge(t:List Nat):1≤(zc9 t).length:=by
 cases e:zc9 t with
 |nil=>exact absurd e (zw3 t)
 |cons _ _=>simp
theorem yc8(w:Nat)(t x:List Nat)(h:∀c∈x,c≠10):totC w (t++x)=totC w t+SB*ov w (col t) x.length:=by
 obtain⟨us,u,h1,h2⟩:=row_last _ t rfl
 obtain⟨us',u',q1,q2⟩:=zj8 t x (fun z=>h 10 z rfl)
 rw[h1] at q1
 obtain⟨rfl,e2⟩:=List.append_inj' q1 rfl
 have e2:u=u':=by simpa using e2
 subst e2
 have e3:byd w (t++x)=byd w t+ov w (col t) x.length:=by
  unfold byd
  rw[q2,h1,List.map_append,List.map_append,List.sum_append,List.sum_append,←h2]
  simp only[List.map_cons,List.map_nil,List.sum_cons,List.sum_nil,List.length_append]
  unfold ov
  omega
 have e4:lns (t++x)=lns t:=by
  unfold lns
  rw[q2,h1,List.length_append,List.length_append];rfl
 unfold totC
 rw[e3,e4,Nat.mul_add];omega
theorem totC_brk(w:Nat)(t:List Nat)(m:Nat):totC w (t++10::List.replicate m 32)=totC w t+(1+SB*ov w 0 m):=by
 have e0:zc9 (List.replicate m 32)=[List.replicate m 32]:=zw2 _ fun z=>by have:=List.eq_of_mem_replicate z;omega
 have e3:byd w (t++10::List.replicate m 32)=byd w t+ov w 0 m:=by
  unfold byd
  rw[yc0,e0,List.map_append,List.sum_append]
  simp only[List.map_cons,List.map_nil,List.sum_cons,List.sum_nil,List.length_replicate]
  unfold ov
  omega
 have e4:lns (t++10::List.replicate m 32)=lns t+1:=by
  have:=lns_ge t
  unfold lns
  rw[yc0,e0,List.length_append,List.length_singleton];omega
 unfold totC
 rw[e3,e4,Nat.mul_add];omega
theorem zl1(w:Nat):∀(a:Nd) {l:Nat} (c m m':Nat),ze9 a=some l→zk7 w a c m=zk7 w a c m'
 |.text _,_,_,_,_,_=>rfl
 |.brk,_,_,_,_,h=>by cases h
 |.nest _ _,_,_,_,_,h=>by cases h
 |.align _,_,_,_,_,h=>by cases h
 |.beside a b,l,c,m,m',h=>by
  have h:zs7 (· + ·) (ze9 a) (ze9 b)=some l:=h
  cases ha:ze9 a with
  |none=>rw[ha] at h;cases h
  |some la=>
   cases hb:ze9 b with
   |none=>rw[ha,hb] at h;cases h
   |some lb=>
    show zh5 _ _=zh5 _ _
    rw[zl1 w a c m m' ha]
    congr 1
    funext e
    exact zl1 w b e m m' hb
 |.choice a b,l,c,m,m',h=>by
  have h:zs7 min (ze9 a) (ze9 b)=some l:=h
  cases ha:ze9 a with
  |none=>rw[ha] at h;cases h
  |some la=>
   cases hb:ze9 b with
   |none=>rw[ha,hb] at h;cases h
   |some lb=>
    show _++_=_++_
    rw[zl1 w a c m m' ha,zl1 w b c m m' hb]
def RunOf(w:Nat)(p:Plan)(t:List Nat)(m:Nat)(f:Bool)(o:Run)(s:List Int):Prop:=o.1=s∧∃t',lay p s t m f=some (t',[])∧o.2.1=col t'∧totC w t'=totC w t+o.2.2
theorem zq3{α β γ δ:Type}{R:α→β→Prop}{S:γ→δ→Prop}{g:α→γ}{h:β→δ}(hg:∀a b,R a b→S (g a) (h b)):∀ {as:List α} {bs:List β},Paired R as bs→Paired S (as.map g) (bs.map h)
 |_,_,.nil=>.nil
 |_,_,.cons r t=>.cons (hg _ _ r) (zq3 hg t)
theorem ye0{α β γ δ:Type}{R:α→β→Prop}{S:γ→δ→Prop}{g:α→List γ}{h:β→List δ}(hg:∀a b,R a b→Paired S (g a) (h b)):∀ {as:List α} {bs:List β},Paired R as bs→Paired S (as.flatMap g) (bs.flatMap h)
 |_,_,.nil=>.nil
 |_,_,.cons r t=>by rw[List.flatMap_cons,List.flatMap_cons];exact zd5 (hg _ _ r) (ye0 hg t)
theorem zn2(w:Nat):∀(p:Plan) (t:List Nat) (m:Nat) (f:Bool),p.Flat→Paired (RunOf w p t m f) (zk7 w (nOf p f) (col t) m) p.sides
 |.text x,t,m,f,h=>.cons ⟨rfl,t++x,rfl,(ze7 t x h).symm,yc8 w t x h⟩ .nil
 |.line,t,m,false,_=>.cons ⟨rfl,_,rfl,(zp2 t m).symm,totC_brk w t m⟩ .nil
 |.line,t,m,true,_=>.cons ⟨rfl,t++[32],rfl,(ze7 t [32] (by simp)).symm,yc8 w t [32] (by simp)⟩ .nil
 |.cut,t,m,false,_=>.cons ⟨rfl,_,rfl,(zp2 t m).symm,totC_brk w t m⟩ .nil
 |.cut,t,m,true,_=>.cons ⟨rfl,t++[],rfl,(ze7 t [] (by simp)).symm,yc8 w t [] (by simp)⟩ .nil
 |.nest n p,t,m,f,h=>by
  have ih:=zn2 w p t (m+n) f h
  have e:zk7 w (nOf (.nest n p) f) (col t) m=zk7 w (nOf p f) (col t) (m+n):=by
   have e0:nOf (.nest n p) f=if(ze9 (nOf p f)).isSome then nOf p f else .nest n (nOf p f):=rfl
   rw[e0]
   cases hl:ze9 (nOf p f) with
   |some l=>rw[if_pos (by rfl:(some l).isSome=true)];exact zl1 w _ _ _ _ hl
   |none=>rw[if_neg (by decide:¬((none:Option Nat).isSome=true))];rfl
  rw[e];exact ih
 |.align p,t,m,f,h=>by
  have ih:=zn2 w p t (col t) f h
  have e:zk7 w (nOf (.align p) f) (col t) m=zk7 w (nOf p f) (col t) (col t):=by
   have e0:nOf (.align p) f=if(ze9 (nOf p f)).isSome then nOf p f else .align (nOf p f):=rfl
   rw[e0]
   cases hl:ze9 (nOf p f) with
   |some l=>rw[if_pos (by rfl:(some l).isSome=true)];exact zl1 w _ _ _ _ hl
   |none=>rw[if_neg (by decide:¬((none:Option Nat).isSome=true))];rfl
  rw[e];exact ih
 |.flat p,t,m,f,h=>zn2 w p t m true h
 |.beside p q,t,m,f,h=>by
  refine ye0 (fun o s ⟨e1,t1,e2,e3,e4⟩=>?_) (zn2 w p t m f h.1)
  rw[e3]
  refine zq3 (fun o2 s2 ⟨q1,t2,q2,q3,q4⟩=>?_) (zn2 w q t1 m f h.2)
  refine⟨by rw[e1,q1],t2,?_,q3,by show totC w t2=totC w t+(o.2.2+o2.2.2);omega⟩
  show(lay p (s++s2) t m f).bind (fun r=>lay q r.2 r.1 m f)=_
  have:=zn3 p _ _ s2 _ _ _ _ e2
  rw[this];exact q2
 |.choice p q,t,m,f,h=>by
  refine zd5 (zq3 (fun o s ⟨e1,t1,e2,e3,e4⟩=>?_) (zn2 w p t m f h.1)) (zq3 (fun o s ⟨e1,t1,e2,e3,e4⟩=>?_) (zn2 w q t m f h.2))
  ·exact⟨by rw[←e1],t1,by show(if(0:Int)=0 then lay p s t m f else _)=_;rw[if_pos rfl];exact e2,e3,e4⟩
  ·exact⟨by rw[←e1],t1,by show(if(1:Int)=0 then _ else if(1:Int)=1 then lay q s t m f else none)=_;rw[if_neg (by decide),if_pos rfl];exact e2,e3,e4⟩
theorem totC_nil(w:Nat):totC w []=0:=by
 unfold totC byd lns
 show SB*(0 - w+0)+0=0
 rw[Nat.zero_sub];rfl
def DLt(a b:List Int):Prop:=∃pre x y a' b',a=pre++x::a'∧b=pre++y::b'∧x<y
theorem DLt.cons{a b:List Int}(c:Int)(h:DLt a b):DLt (c::a) (c::b):=by
 obtain⟨pre,x,y,a',b',rfl,rfl,hxy⟩:=h
 exact⟨c::pre,x,y,a',b',rfl,rfl,hxy⟩
theorem DLt.pre{a b:List Int}(c:List Int)(h:DLt a b):DLt (c++a) (c++b):=by
 obtain⟨pre,x,y,a',b',rfl,rfl,hxy⟩:=h
 exact⟨c++pre,x,y,a',b',by rw[List.append_assoc],by rw[List.append_assoc],hxy⟩
theorem DLt.post{a b:List Int}(c d:List Int)(h:DLt a b):DLt (a++c) (b++d):=by
 obtain⟨pre,x,y,a',b',rfl,rfl,hxy⟩:=h
 exact⟨pre,x,y,a'++c,b'++d,by rw[List.append_assoc];rfl,by rw[List.append_assoc];rfl,hxy⟩
theorem DLt.lex{a b:List Int}(h:DLt a b):HT.lexLt a b=true∧HT.lexLt b a=false∧a≠b:=by
 obtain⟨pre,x,y,a',b',rfl,rfl,hxy⟩:=h
 refine⟨?_,?_,fun z=>?_⟩
 ·induction pre with
  |nil=>show HT.lexLt (x::a') (y::b')=true;rw[HT.lexLt_cons,if_neg (by omega),decide_eq_true hxy]
  |cons c pre ih=>show HT.lexLt (c::_) (c::_)=true;rw[HT.lexLt_cons,if_pos rfl];exact ih
 ·induction pre with
  |nil=>show HT.lexLt (y::b') (x::a')=false;rw[HT.lexLt_cons,if_neg (by omega),decide_eq_false (by omega)]
  |cons c pre ih=>show HT.lexLt (c::_) (c::_)=false;rw[HT.lexLt_cons,if_pos rfl];exact ih
 ·have:=List.append_cancel_left z
  simp at this
  omega
theorem zg3:∀p:Plan,p.sides.Pairwise DLt
 |.text _=>by simp[Plan.sides]
 |.line=>by simp[Plan.sides]
 |.cut=>by simp[Plan.sides]
 |.nest _ p=>zg3 p
 |.align p=>zg3 p
 |.flat p=>zg3 p
 |.choice p q=>by
  show(p.sides.map (fun r=>0::r)++q.sides.map fun r=>1::r).Pairwise DLt
  rw[List.pairwise_append,List.pairwise_map,List.pairwise_map]
  refine⟨(zg3 p).imp fun h=>h.cons 0,(zg3 q).imp fun h=>h.cons 1,fun a ha b hb=>?_⟩
  obtain⟨x,_,rfl⟩:=List.mem_map.mp ha
  obtain⟨y,_,rfl⟩:=List.mem_map.mp hb
  exact⟨[],0,1,x,y,rfl,rfl,by decide⟩
 |.beside p q=>by
  show(p.sides.flatMap fun r=>q.sides.map fun m=>r++m).Pairwise DLt
  have hq:=zg3 q
  have key:∀L:List (List Int),L.Pairwise DLt→(L.flatMap fun r=>q.sides.map fun m=>r++m).Pairwise DLt:=fun L hL=>by
   induction L with
   |nil=>simp
   |cons r L ih=>
    rw[List.pairwise_cons] at hL
    rw[List.flatMap_cons,List.pairwise_append,List.pairwise_map]
    refine⟨hq.imp fun h=>h.pre r,ih hL.2,fun a ha b hb=>?_⟩
    obtain⟨m,_,rfl⟩:=List.mem_map.mp ha
    obtain⟨r2,hr2,hb⟩:=List.mem_flatMap.mp hb
    obtain⟨m2,_,rfl⟩:=List.mem_map.mp hb
    exact(hL.1 r2 hr2).post m m2
  exact key _ (zg3 p)
theorem lt3_iff{b1 l1 b2 l2:Nat}{s1 s2:List Int}(h1:l1<SB)(h2:l2<SB):(SB*b1+l1<SB*b2+l2→lt3 ((b1:Int),(l1:Int),s1) ((b2:Int),(l2:Int),s2)=true)∧(SB*b2+l2<SB*b1+l1→lt3 ((b1:Int),(l1:Int),s1) ((b2:Int),(l2:Int),s2)=false)∧
  (SB*b1+l1=SB*b2+l2→b1=b2∧l1=l2):=by
 simp only[SB] at*
 refine⟨fun h=>?_,fun h=>?_,fun h=>by omega⟩
 ·unfold lt3
  by_cases c:b1=b2
  ·subst c
   rw[if_pos rfl,if_neg (by show ¬(l1:Int)=(l2:Int);omega)]
   exact decide_eq_true (by show(l1:Int)<(l2:Int);omega)
  ·rw[if_neg (by show ¬(b1:Int)=(b2:Int);omega)]
   exact decide_eq_true (by show(b1:Int)<(b2:Int);omega)
 ·unfold lt3
  by_cases c:b1=b2
  ·subst c
   rw[if_pos rfl,if_neg (by show ¬(l1:Int)=(l2:Int);omega)]
   exact decide_eq_false (by show ¬(l1:Int)<(l2:Int);omega)
  ·rw[if_neg (by show ¬(b1:Int)=(b2:Int);omega)]
   exact decide_eq_false (by show ¬(b1:Int)<(b2:Int);omega)
theorem yl0(bt:Nat→Nat→Bool)(i:Nat):∀k,i≤k→(∀j,j≤k→j≠i→bt i j=true∧bt j i=false)→argBest bt k=i
 |0,h,_=>by show 0=i;omega
 |k+1,h,hb=>by
  show(if bt (k+1) (argBest bt k) then k+1 else argBest bt k)=i
  by_cases c:i=k+1
  ·have hle:∀k,argBest bt k≤k:=fun k=>by
    induction k with
    |zero=>exact Nat.le_refl _
    |succ k ih=>show(if bt (k+1) (argBest bt k) then k+1 else argBest bt k)≤k+1;split<;>omega
   have h1:=hle k
   have:=(hb (argBest bt k) (by omega) (by omega)).1
   rw[←c,this,if_pos rfl]
  ·have ih:=yl0 bt i k (by omega) fun j hj hne=>hb j (by omega) hne
   rw[ih,(hb (k+1) (Nat.le_refl _) (fun z=>c z.symm)).2]
   rfl
end Pq
namespace Pq
open PySem L2
def zl9(p:Plan)(s:List Int):List Nat:=match lay p s [] 0 false with
 |some x=>x.1
 |none=>[]
def row3(w:Nat)(p:Plan)(s:List Int):RowT:=(((byd w (zl9 p s):Nat):Int),((lns (zl9 p s):Nat):Int),s)
theorem zz8{p:Plan}{s:List Int}{t:List Nat}(h:lay p s [] 0 false=some (t,[])):zl9 p s=t:=by unfold zl9;rw[h]
theorem paired_at{α β:Type}{R:α→β→Prop}:∀ {as:List α} {bs:List β} {i:Nat} {b:β},Paired R as bs→bs[i]? = some b→∃a,as[i]? = some a∧R a b
 |_,_,_,_,.nil,e=>by simp at e
 |_,_,0,_,.cons r _,e=>by simp at e;subst e;exact⟨_,rfl,r⟩
 |_,_,i+1,b,.cons _ t,e=>by
  obtain⟨a,h1,h2⟩:=paired_at (i:=i) (b:=b) t (by simpa using e)
  exact⟨a,by simpa using h1,h2⟩
theorem yj4{α β:Type}{R:α→β→Prop}:∀ {as:List α} {bs:List β} {i:Nat} {a:α},Paired R as bs→as[i]? = some a→∃b,bs[i]? = some b∧R a b
 |_,_,_,_,.nil,e=>by simp at e
 |_,_,0,_,.cons r _,e=>by simp at e;subst e;exact⟨_,rfl,r⟩
 |_,_,i+1,b,.cons _ t,e=>by
  obtain⟨a,h1,h2⟩:=yj4 (i:=i) (a:=b) t (by simpa using e)
  exact⟨a,by simpa using h1,h2⟩
theorem yg5{w:Nat}{p:Plan}{ss:List Int}{k:Nat}(hf:p.Flat)(hl:∀s∈p.sides,lns (zl9 p s)<SB)(hb:Best (zl7 w [(nOf p false,0)] 0) ss k):
  ∃t i,lay p ss [] 0 false=some (t,[])∧k / SB=byd w t∧k % SB=lns t∧ss∈p.sides∧p.sides[i]? = some ss∧argBest (fun i j=>lt3 ((p.sides.map (row3 w p)).getD i (0,0,[])) ((p.sides.map (row3 w p)).getD j (0,0,[]))) (p.sides.length - 1)=i:=by
 obtain⟨pre,e,post,hR,h1,h2⟩:=hb
 rw[zh2] at hR
 have P0:=zn2 w p [] 0 false hf
 have ec:col []=0:=rfl
 rw[ec,hR] at P0
 have hlen:=Paired.length P0
 have hRi:(pre++(ss,e,k)::post)[pre.length]? = some (ss,e,k):=by simp
 obtain⟨s0,hs0,hr0,t,ht,hct,htot⟩:=yj4 P0 hRi
 have hs0':ss=s0:=hr0
 subst hs0'
 rw[totC_nil,Nat.zero_add] at htot
 have htot:totC w t=k:=htot
 have hmem:=List.mem_of_getElem? hs0
 have hlt:lns t<SB:=by have:=hl ss hmem;rwa [zz8 ht] at this
 have hi:pre.length<p.sides.length:=(List.getElem?_eq_some_iff.mp hs0).1
 have SBpos:0<SB:=by decide
 refine⟨t,pre.length,ht,?_,?_,hmem,hs0,yl0 _ pre.length _ (by omega) fun j hj hne=>?_⟩
 ·rw[←htot];unfold totC
  rw[Nat.mul_add_div SBpos,Nat.div_eq_of_lt hlt,Nat.add_zero]
 ·rw[←htot];unfold totC
  rw[Nat.mul_add_mod,Nat.mod_eq_of_lt hlt]
 ·have hjl:j<p.sides.length:=by omega
  have hsj:p.sides[j]? = some p.sides[j]:=List.getElem?_eq_getElem hjl
  generalize p.sides[j]=sj at hsj
  obtain⟨o,ho,hoe,tj,htj,hcj,htotj⟩:=paired_at P0 hsj
  rw[totC_nil,Nat.zero_add] at htotj
  have hmj:=List.mem_of_getElem? hsj
  have hltj:lns tj<SB:=by have:=hl sj hmj;rwa [zz8 htj] at this
  have er:∀(i:Nat) (s:List Int),p.sides[i]? = some s→(p.sides.map (row3 w p)).getD i (0,0,[])=row3 w p s:=fun i s hs=>by
   rw[List.getD_eq_getElem?_getD,List.getElem?_map,hs];rfl
  have ei:=er _ _ hs0
  have ej:=er _ _ hsj
  show lt3 _ _=true∧lt3 _ _=false
  rw[ei,ej]
  unfold row3
  rw[zz8 ht,zz8 htj]
  obtain⟨a1,a2,a3⟩:=lt3_iff (b1:=byd w t) (b2:=byd w tj) (s1:=ss) (s2:=sj) hlt hltj
  obtain⟨c1,c2,c3⟩:=lt3_iff (b1:=byd w tj) (b2:=byd w t) (s1:=sj) (s2:=ss) hltj hlt
  have kt:SB*byd w t+lns t=k:=htot
  have kj:SB*byd w tj+lns tj=o.2.2:=htotj
  rcases Nat.lt_or_ge j pre.length with hj'|hj'
  ·have hop:o∈pre:=by
    rw[List.getElem?_append_left hj'] at ho
    exact List.mem_of_getElem? ho
   have:=h1 o hop
   exact⟨a1 (by omega),c2 (by omega)⟩
  ·have hop:o∈post:=by
    rw[List.getElem?_append_right hj'] at ho
    obtain⟨d,hd⟩:∃d,j - pre.length=d+1:=⟨j - pre.length - 1,by omega⟩
    rw[hd] at ho
    exact List.mem_of_getElem? (by simpa using ho)
   have:=h2 o hop
   rcases Nat.lt_or_eq_of_le this with hlt'|heq
   ·exact⟨a1 (by omega),c2 (by omega)⟩
   ·obtain⟨e1,e2⟩:=a3 (by omega)
    have hd:DLt ss sj:=by
     have hord:=List.pairwise_iff_getElem.mp (zg3 p) pre.length j hi hjl (by omega)
     have x1:=(List.getElem?_eq_some_iff.mp hs0).2
     have x2:=(List.getElem?_eq_some_iff.mp hsj).2
     rw[x1,x2] at hord
     exact hord
    obtain⟨d1,d2,d3⟩:=hd.lex
    rw[e1,e2]
    unfold lt3
    simp only[if_true]
    rw[if_neg d3,if_neg (fun z=>d3 z.symm)]
    exact⟨d1,d2⟩
end Pq
namespace Pq
open PySem L2
theorem pc:¬(("pieces":Str)="column"):=by decide +kernel
def flds(l:Addr)(c:Int):List (Str×V):=zr8 "column" (.int c) (zr8 "pieces" (.ref l) [])
theorem yn9(l:Addr)(c:Int):flds l c=([("pieces",V.ref l),("column",V.int c)]:List (Str×V)):=by
 show(if("pieces":Str)="column" then[(("pieces":Str),V.int c)] else(("pieces":Str),V.ref l)::zr8 "column" (V.int c) [])=([("pieces",V.ref l),("column",V.int c)]:List (Str×V))
 rw[if_neg pc]
 all_goals rfl
theorem zv3(l:Addr)(c:Int):(flds l c).lookup ("pieces":Str)=some (.ref l):=by
 unfold flds
 rw[zj1,if_neg pc,zj1,if_pos rfl]
theorem yf7(l:Addr)(c:Int):(flds l c).lookup ("column":Str)=some (.int c):=by
 unfold flds
 rw[zj1,if_pos rfl]
theorem flds_no(l:Addr)(c:Int){m:Str}(h1:¬m="column")(h2:¬m="pieces"):(flds l c).lookup m=none:=by
 unfold flds
 rw[zj1,if_neg h1,zj1,if_neg h2]
 all_goals rfl
theorem flds_put(l:Addr)(c y:Int):zr8 "column" (.int y) (flds l c)=flds l y:=by
 rw[yn9,yn9]
 show(if("pieces":Str)="column" then _ else(("pieces":Str),V.ref l)::(if("column":Str)="column" then[(("column":Str),V.int y)] else _))=([("pieces",V.ref l),("column",V.int y)]:List (Str×V))
 rw[if_neg pc,if_pos rfl]
structure SheetAt(C:Addr)(H:Hp)(p l:Addr)(pcs:List (List Nat))(c:Nat):Prop where
 ob:∃dx,H p=some (.ins C dx (flds l (c:Int)))
 ls:H l=some (.lst (pcs.map fun x=>V.str (tx x)))
theorem SheetAt.ne{C:Addr}{H:Hp}{p l:Addr}{pcs:List (List Nat)}{c:Nat}(S:SheetAt C H p l pcs c):p≠l:=by
 obtain⟨⟨dx,h1⟩,h2⟩:=S
 exact ze5 h1 h2 (by intro z;cases z)
theorem SheetAt.mono{C:Addr}{H H':Hp}{p l:Addr}{pcs:List (List Nat)}{c:Nat}(S:SheetAt C H p l pcs c)(s:Same H H'):SheetAt C H' p l pcs c:=by
 obtain⟨⟨dx,h1⟩,h2⟩:=S
 exact⟨⟨dx,s _ _ h1⟩,s _ _ h2⟩
def But(p l:Addr)(H H':Hp):Prop:=∀b o,H b=some o→b≠p→b≠l→H' b=some o
theorem But.trans{p l:Addr}{H H1 H2:Hp}(a:But p l H H1)(b:But p l H1 H2):But p l H H2:=fun c o e n1 n2=>b c o (a c o e n1 n2) n1 n2
def yl5(C:Addr):Sp:=fun vs H Q _=>∃(p dx:Addr),vs=[.ref p]∧H p=some (.ins C dx [])∧∀(l:Addr) (H':Hp),H l=none→SheetAt C H' p l [] 0→(∀b o,H b=some o→b≠p→H' b=some o)→Q .non H'
def spPut(C:Addr):Sp:=fun vs H Q _=>∃(p l:Addr) (pcs:List (List Nat)) (c:Nat) (x:List Nat),vs=[.ref p,.str (tx x)]∧SheetAt C H p l pcs c∧pcs.length≤1000000∧x.length≤1000000∧
 ∀H',SheetAt C H' p l (pcs++[x]) (c+x.length)→But p l H H'→Q .non H'
def spRow(C:Addr):Sp:=fun vs H Q _=>∃(p l:Addr) (pcs:List (List Nat)) (c m:Nat),vs=[.ref p,.int m]∧SheetAt C H p l pcs c∧pcs.length≤999999∧m≤1000000∧
 ∀H',SheetAt C H' p l (pcs++[[10],List.replicate m 32]) m→But p l H H'→Q .non H'
structure Sht(K:PySem.W.Frag)(mg:Str→Option Value)(C:Addr):Prop where
 cl:Cls K C
 nP:NoAttr K C "pieces"
 nC:NoAttr K C "column"
 len:mg "len"=none
section
variable {P:Program}{w:World}{K:PySem.W.Frag}{mg:Str→Option Value}{base:Heap}{f g:Addr}{fd gd:FuncData}{C:Addr}
theorem scShI:FnScope ["self"] ["self"] (za7 zy1):=⟨rfl,rfl,rfl,by decide +kernel,rfl,by decide +kernel,by decide +kernel⟩
theorem ok_shInit(F:Fun K "__init__" "Sheet.__init__" zy1 f fd)(T:Sht K mg C):FnOk P w K mg base CX0 1 f fd ["self"] (yl5 C):=by
 refine F.okq scShI (fun vs H Q E h=>?_) (fun cdv A outer s H vs Q E hr h=>?_)
 ·obtain⟨p,dx,rfl,_⟩:=h
  rfl
 obtain⟨p,dx,rfl,hp,k⟩:=h
 refine⟨_,za1 (zq0 (pvq 0) (zd4 za3) rfl) (za6 (zq0 (pvq 0) za5 rfl)),?_⟩
 refine⟨(by show 0≤sizeLine;decide),fun l hl=>?_⟩
 have npl:p≠l:=za8 hp hl
 refine⟨_,rfl,p,C,dx,[],rfl,(by rw[za9 npl];exact hp),T.cl,T.nP,(by show 0<1000;decide),_,rfl,p,C,dx,_,rfl,za0,T.cl,T.nC,(by show 1<1000;decide),?_⟩
 refine k l _ hl ⟨⟨dx,za0⟩,by rw[za9 npl.symm,za9 npl.symm,za0];rfl⟩ fun b o e hb=>?_
 rw[za9 hb,za9 hb,za9 (za8 e hl)]
 exact e
theorem scShP:FnScope ["self","signs"] ["self","signs"] (za7 yi7):=⟨rfl,rfl,rfl,by decide +kernel,rfl,by decide +kernel,by decide +kernel⟩
theorem ok_put(F:Fun K "put" "Sheet.put" yi7 f fd)(T:Sht K mg C):FnOk P w K mg base CX0 1 f fd ["self","signs"] (spPut C):=by
 refine F.okq scShP (fun vs H Q E h=>?_) (fun cdv A outer s H vs Q E hr h=>?_)
 ·obtain⟨p,l,pcs,c,x,rfl,_⟩:=h
  rfl
 obtain⟨p,l,pcs,c,x,rfl,S,hz,hx,k⟩:=h
 have npl:=S.ne
 obtain⟨⟨dx,h1⟩,h2⟩:=id S
 refine⟨_,za1 (ze1 (zh8 PySem.F.plainAttrs_list PySem.F.slot_list_append PySem.F.type_list_append zg2 (zd3 (pvq 0) rfl) (za2 (pvq 1) za3)))
  (za6 (ps_fldaugq (pvq 0) (zd9 zn5 rfl T.len PySem.boot_len (za2 (pvq 1) za3)) in_add)),?_⟩
 have h1':∀o,(upd H l o) p=some (.ins C dx (flds l (c:Int))):=fun o=>by rw[za9 npl];exact h1
 refine⟨_,rfl,p,C,dx,_,_,rfl,h1,T.cl,T.nP,zv3 _ _,.inl ⟨rfl,_,SqL.of h2⟩,_,rfl,l,_,_,rfl,rfl,h2,Nat.lt_of_lt_of_le (show(pcs.map fun x=>V.str (tx x)).length<1000001 by rw[List.length_map];omega) (zd2 (by omega)),?_⟩
 refine⟨_,rfl,p,C,dx,_,_,rfl,h1' _,T.cl,T.nC,yf7 _ _,_,rfl,_,rfl,zd2 (by rw[zf1];omega),_,_,rfl,rfl,dx,_,h1' _,(by rw[yn9];show 2<1000;decide),?_⟩
 refine k _ ⟨⟨dx,?_⟩,?_⟩ fun b o e n1 n2=>?_
 ·rw[za0,flds_put,zf1]
  rfl
 ·rw[za9 npl.symm,za0,List.map_append]
  rfl
 ·rw[za9 n1,za9 n2]
  exact e
theorem scShR:FnScope ["self","margin"] ["self","margin"] (za7 yi6):=⟨rfl,rfl,rfl,by decide +kernel,rfl,by decide +kernel,by decide +kernel⟩
theorem ok_row(F:Fun K "begin_row" "Sheet.begin_row" yi6 f fd)(T:Sht K mg C)(G:FnOk P w K mg base CX0 1 g gd ["self","signs"] (spPut C))(bG:Binds K gd ["self","signs"] [])(mG:Meth K C "put" g):FnOk P w K mg base CX0 2 f fd ["self","margin"] (spRow C):=by
 refine F.okq scShR (fun vs H Q E h=>?_) (fun cdv A outer s H vs Q E hr h=>?_)
 ·obtain⟨p,l,pcs,c,m,rfl,_⟩:=h
  rfl
 obtain⟨p,l,pcs,c,m,rfl,S,hz,hm,k⟩:=h
 have npl:=S.ne
 obtain⟨⟨dx,h1⟩,h2⟩:=id S
 refine⟨_,za1 (ze1 (zh8 PySem.F.plainAttrs_list PySem.F.slot_list_append PySem.F.type_list_append zg2 (zd3 (pvq 0) rfl) (zb0 zb5 za3)))<|
  za1 (zq0 (pvq 0) za5 rfl)<|
  za6 (ze1 (zc2 (pvq 0) T.cl mG G hr bG .nil zc7 (zk2 (zc4 op_mulS zb5 (pvq 1)) za3))),?_⟩
 have h1':∀o,(upd H l o) p=some (.ins C dx (flds l (c:Int))):=fun o=>by rw[za9 npl];exact h1
 refine⟨_,rfl,p,C,dx,_,_,rfl,h1,T.cl,T.nP,zv3 _ _,.inl ⟨rfl,_,SqL.of h2⟩,l,_,_,rfl,rfl,h2,Nat.lt_of_lt_of_le (show(pcs.map fun x=>V.str (tx x)).length<1000001 by rw[List.length_map];omega) (zd2 (by omega)),?_⟩
 refine⟨_,rfl,p,C,dx,_,rfl,h1' _,T.cl,T.nC,(by rw[yn9];show 2<1000;decide),?_⟩
 rw[flds_put,yh0]
 refine⟨_,rfl,p,dx,_,rfl,za0,flds_no _ _ (by decide +kernel) (by decide +kernel),_,rfl,_,_,rfl,rfl,by omega,by omega,(by rw[bl_tx,zf1];simp;omega),?_⟩
 rw[bl_tx,mul_one 32 m (by omega)]
 have S1:SheetAt C (upd (upd H l (.lst ((pcs.map fun x=>V.str (tx x))++[.str (tx [10])]))) p (.ins C dx (flds l 0))) p l (pcs++[[10]]) 0:=⟨⟨dx,za0⟩,by rw[za9 npl.symm,za0,List.map_append];rfl⟩
 refine⟨p,l,pcs++[[10]],0,List.replicate m 32,rfl,S1,by simp;omega,by simp;omega,fun H' S' b'=>?_⟩
 refine k H' ?_ fun b o e n1 n2=>b' b o (by rw[za9 n1,za9 n2];exact e) n1 n2
 have e1:(pcs++[[10]])++[List.replicate m 32]=pcs++[[10],List.replicate m 32]:=by simp
 have e2:0+(List.replicate m 32).length=m:=by simp
 rw[e1,e2] at S'
 exact S'
end
end Pq
namespace Pq
open PySem L2
def spSide(CB:Addr):Sp:=fun vs H Q E=>∃(r b a1 a2:Addr) (bits:List Int) (m:Nat),vs=[.ref r,.ref b,.int m]∧H r=some (.tup [.str "choice",.ref a1,.ref a2])∧H b=some (.lst (bits.map V.int))∧
 (bits[m]? = none→E (.ref CB) none H)∧(∀x,bits[m]? = some x→x=0→∀H',Same H H'→Q (.ref a1) H')∧(∀x,bits[m]? = some x→x=1→∀H',Same H H'→Q (.ref a2) H')∧
 (∀x,bits[m]? = some x→x≠0→x≠1→∀H',Same H H'→E (.ref CB) none H')
def spLeaf(C:Addr):Sp:=fun vs H Q _=>∃(p l r:Addr) (pcs:List (List Nat)) (c m:Nat) (fl:Bool) (q:Plan),vs=[.ref p,.ref r,.int m,.bl fl]∧SheetAt C H p l pcs c∧PlanAt H q r∧IsLeaf q∧q.grow≤1000000∧pcs.length≤999999∧m≤1000000∧
 ∀H',SheetAt C H' p l (pcs++zf7 q m fl) (zl3 q c m fl)→But p l H H'→Q .non H'
def StepAt(H:Hp)(v:V)(s:Step):Prop:=∃t a,v=.ref t∧H t=some (.tup [.ref a,.int (s.2.1:Nat),.bl s.2.2])∧PlanAt H s.1 a
theorem StepAt.mono{H H':Hp}(h:Tups H H'){v:V}{s:Step}:StepAt H v s→StepAt H' v s:=fun⟨t,a,e,e1,q⟩=>⟨t,a,e,h _ _ e1,q.mono h⟩
abbrev StepsAt(H:Hp):List V→List Step→Prop:=Paired (StepAt H)
theorem StepsAt.mono{H H':Hp}(h:Tups H H'){vs:List V}{ss:List Step}(r:StepsAt H vs ss):StepsAt H' vs ss:=Paired.mapP r fun _ _ e=>e.mono h
def spNext:Sp:=fun vs H Q _=>∃(r:Addr) (q:Plan) (m c:Nat) (fl:Bool),vs=[.ref r,.int m,.bl fl,.int c]∧PlanAt H q r∧IsMid q∧∀(l:Addr) (xs:List V) (H':Hp),Same H H'→H l=none→H' l=some (.lst xs)→StepsAt H' xs (zu8 q m fl c)→Q (.ref l) H'
section
variable {P:Program}{w:World}{K:PySem.W.Frag}{mg:Str→Option Value}{base:Heap}{f g:Addr}{fd gd:FuncData}{C CB:Addr}
theorem scSide:FnScope ["choice","bits","met","bit"] ["choice","bits","met"] (za7 sSide):=⟨rfl,rfl,rfl,by decide +kernel,rfl,by decide +kernel,by decide +kernel⟩
theorem ok_side(F:Fun K "side_taken" "side_taken" sSide f fd)(ml:mg "len"=none)(mC:mg "BadBits"=some (.ref CB))(hC:ExcOk K CB):FnOk P w K mg base (CXe P w) 1 f fd ["choice","bits","met"] (spSide CB):=by
 refine F.okEq scSide (fun vs H Q E h=>?_) (fun cdv A outer s H vs Q E hr h=>?_)
 ·obtain⟨r,b,a1,a2,bits,m,rfl,_⟩:=h
  rfl
 obtain⟨r,b,a1,a2,bits,m,rfl,hP,hb,q1,q2,q3,q4⟩:=h
 have nd:=scSide.nd
 refine⟨_,za1 (zd0 (zb6 op_ge (pvq 2) (zd9 zj6 rfl ml PySem.boot_len (za2 (pvq 1) za3)) (zd7 _)) (za6 (yd5 yd3 hC rfl rfl mC (zb0 zb5 za3))) zb9)<|
  za1 (zb2 (i:=3) nd rfl (Or.inl rfl) (zb1 zf8 (pvq 1) (pvq 2) (fun _ _=>rfl)))<|
  za1 (zd0 (zb6 yb0 (pvq 3) (zc5 (zb0 za5 (zb0 za5 za3))) rfl) (za6 (yd5 yd3 hC rfl rfl mC (zb0 zb5 za3))) zb9)<|
  za6 (zb4 (zb1 zb3 (pvq 0) (zc4 zk6 za5 (pvq 3)) (fun _ _=>rfl))),?_⟩
 have hl:(bits.map V.int).length=bits.length:=List.length_map _
 refine⟨_,rfl,_,rfl,b,_,rfl,.inl (SqL.of hb),_,_,rfl,rfl,_,rfl,?_⟩
 refine ite2 (fun c=>?_) (fun c=>?_)
 ·have c':(((bits.map V.int).length:Nat):Int)≤(m:Int):=of_decide_eq_true c
  rw[hl] at c'
  exact⟨(by show 1≤sizeLine;decide),q1 (List.getElem?_eq_none (by omega))⟩
 have c':¬(((bits.map V.int).length:Nat):Int)≤(m:Int):=of_decide_eq_false (Bool.eq_false_iff.mpr c)
 rw[hl] at c'
 have hm:m<bits.length:=by omega
 have e:bits[m]? = some bits[m]:=List.getElem?_eq_getElem hm
 have e':atI (bits.map V.int) (m:Int)=some (.int bits[m]):=zh0 (by rw[List.getElem?_map,e];rfl)
 refine⟨_,rfl,_,rfl,b,_,_,_,rfl,rfl,SqL.of hb,e',?_⟩
 generalize bits[m]=x at e
 refine⟨_,rfl,(by show 2≤sizeLine;decide),fun p0 hp0=>⟨p0,_,rfl,.inr (SqT.of za0),rfl,rfl,_,rfl,?_⟩⟩
 have s0:=za4 hp0 (.tup [.int 0,.int 1])
 have hin:inV (.int x) [.int 0,.int 1]=decide (x=0∨x=1):=by
  show((0==x)||((1==x)||false))=_
  by_cases h0:x=0
  ·subst h0;rfl
  ·by_cases h1:x=1
   ·subst h1;rfl
   ·have z0:((0:Int)==x)=false:=beq_eq_false_iff_ne.mpr (Ne.symm h0)
    have z1:((1:Int)==x)=false:=beq_eq_false_iff_ne.mpr (Ne.symm h1)
    rw[z0,z1,decide_eq_false (by omega)];rfl
 refine ite2 (fun c2=>?_) (fun c2=>?_)
 ·have c3:(!inV (.int x) [.int 0,.int 1])=true:=c2
  rw[hin] at c3
  have c4:¬(x=0∨x=1):=by simpa using c3
  exact⟨(by show 1≤sizeLine;decide),q4 x e (fun z=>c4 (.inl z)) (fun z=>c4 (.inr z)) _ s0⟩
 ·have c3:¬(!inV (.int x) [.int 0,.int 1])=true:=c2
  rw[hin] at c3
  have c4:x=0∨x=1:=by
   by_cases h:x=0∨x=1
   ·exact h
   ·exact absurd (by rw[decide_eq_false h];rfl) c3
  rcases c4 with c4|c4
  ·subst c4
   exact⟨_,rfl,_,rfl,_,_,rfl,rfl,r,_,_,.ref a1,rfl,rfl,SqT.of (s0 _ _ hP),rfl,q2 0 e rfl _ s0⟩
  ·subst c4
   exact⟨_,rfl,_,rfl,_,_,rfl,rfl,r,_,_,.ref a2,rfl,rfl,SqT.of (s0 _ _ hP),rfl,q3 1 e rfl _ s0⟩
theorem leafB_of{q:Plan}(h:IsLeaf q):zv2 q=true:=by cases q<;>first|rfl|exact h.elim
theorem scLeaf:FnScope ["sheet","plan","margin","in_one_row"] ["sheet","plan","margin","in_one_row"] (za7 sLeaf):=⟨rfl,rfl,rfl,by decide +kernel,rfl,by decide +kernel,by decide +kernel⟩
theorem ok_leaf{fp fr fs:Addr}{pd rd sd:FuncData}(F:Fun K "write_leaf" "write_leaf" sLeaf f fd)(T:Sht K mg C)(GP:FnOk P w K mg base CX0 1 fp pd ["self","signs"] (spPut C))(bP:Binds K pd ["self","signs"] [])(mP:Meth K C "put" fp)
  (GR:FnOk P w K mg base CX0 2 fr rd ["self","margin"] (spRow C)) (bR:Binds K rd ["self","margin"] []) (mR:Meth K C "begin_row" fr)
  (GS:FnOk P w K mg base CX0 1 fs sd ["leaf"] yl4) (bS:Binds K sd ["leaf"] []) (kS:PySem.W.keepIn K (.ref fs)=true) (mS:mg "signs_in_one_row"=some (.ref fs)):FnOk P w K mg base CX0 3 f fd ["sheet","plan","margin","in_one_row"] (spLeaf C):=by
 refine F.okq scLeaf (fun vs H Q E h=>?_) (fun cdv A outer s H vs Q E hr h=>?_)
 ·obtain⟨p,l,r,pcs,c,m,fl,q,rfl,_⟩:=h
  rfl
 obtain⟨p,l,r,pcs,c,m,fl,q,rfl,S,hP,hq,hg,hz,hm,k⟩:=h
 have hr1:Room 1 _:=hr.mono (by decide)
 refine⟨_,za6 (zd0 (PW.ptq (zu3 (zb6 zh1 (zb1 zb3 (pvq 1) za5 (fun _ _=>rfl)) zb5 (zd7 _)) (zr7 (zp8 (pvq 3)))))
   (za6 (ze1 (zc2 (pvq 0) T.cl mP GP hr1 bP .nil zc7 (ze4 (zc0 GS hr1 rfl mS kS bS .nil zc7 (za2 (pvq 1) za3)) za3))))
   (za6 (ze1 (zc2 (pvq 0) T.cl mR GR hr bR .nil zc7 (za2 (pvq 2) za3))))),?_⟩
 obtain⟨⟨dx,h1⟩,h2⟩:=id S
 obtain⟨xs,hx⟩:=zo6 hP
 refine⟨_,rfl,r,_,_,.str (zm0 q),rfl,rfl,SqT.of hx,(by show atI (V.str (zm0 q)::xs) ((0:Nat):Int)=_;exact zh0 rfl),rfl,_,rfl,?_⟩
 have put:(zu4 q).length≤1000000→zf7 q m fl=[zu4 q]→zl3 q c m fl=c+(zu4 q).length→∃v,([some (V.ref p),some (V.ref r),some (V.int (m:Int)),some (V.bl fl)]:St)[0]? = some (some v)∧∃a dx' fs',v=.ref a∧H a=some (.ins C dx' fs')∧fs'.lookup ("put":Str)=none∧
   ∃v2,([some (V.ref p),some (V.ref r),some (V.int (m:Int)),some (V.bl fl)]:St)[1]? = some (some v2)∧yl4 [v2] H (fun x H1=>spPut C (v::([x]++[])) H1 (fun _ H2=>Q .non H2) E0) E0:=fun hl e1 e2=>by
  refine⟨_,rfl,p,dx,_,rfl,h1,flds_no _ _ (by decide +kernel) (by decide +kernel),_,rfl,r,q,rfl,hP,leafB_of hq,p,l,pcs,c,zu4 q,rfl,S,by omega,hl,fun H' S' b'=>k H' ?_ b'⟩
  rw[e1,e2];exact S'
 have row:zf7 q m fl=[[10],List.replicate m 32]→zl3 q c m fl=m→∃v,([some (V.ref p),some (V.ref r),some (V.int (m:Int)),some (V.bl fl)]:St)[0]? = some (some v)∧∃a dx' fs',v=.ref a∧H a=some (.ins C dx' fs')∧fs'.lookup ("begin_row":Str)=none∧
   ∃v2,([some (V.ref p),some (V.ref r),some (V.int (m:Int)),some (V.bl fl)]:St)[2]? = some (some v2)∧spRow C (v::([v2]++[])) H (fun _ H2=>Q .non H2) E0:=fun e1 e2=>by
  refine⟨_,rfl,p,dx,_,rfl,h1,flds_no _ _ (by decide +kernel) (by decide +kernel),_,rfl,p,l,pcs,c,m,rfl,S,hz,hm,fun H' S' b'=>k H' ?_ b'⟩
  rw[e1,e2];exact S'
 rw[yf5]
 cases q with
 |text x=>exact zu0 (zu0 (put hg rfl rfl))
 |line=>
  refine yb2 ⟨_,rfl,_,rfl,?_⟩
  cases fl with
  |true=>exact zu0 (put (by decide) rfl rfl)
  |false=>exact yb2 (row rfl rfl)
 |cut=>
  refine yb2 ⟨_,rfl,_,rfl,?_⟩
  cases fl with
  |true=>exact zu0 (put (by decide) rfl rfl)
  |false=>exact yb2 (row rfl rfl)
 |_=>exact hq.elim
theorem scNext:FnScope ["plan","margin","in_one_row","column","kind"] ["plan","margin","in_one_row","column"] (za7 sNext):=⟨rfl,rfl,rfl,by decide +kernel,rfl,by decide +kernel,by decide +kernel⟩
theorem ok_next(F:Fun K "next_steps" "next_steps" sNext f fd):FnOk P w K mg base CX0 1 f fd ["plan","margin","in_one_row","column"] spNext:=by
 refine F.okq scNext (fun vs H Q E h=>?_) (fun cdv A outer s H vs Q E hr h=>?_)
 ·obtain⟨r,q,m,c,fl,rfl,_⟩:=h
  rfl
 obtain⟨r,q,m,c,fl,rfl,hP,hq,k⟩:=h
 have nd:=scNext.nd
 refine⟨_,za1 (zb2 (i:=4) nd rfl (Or.inl rfl) (zb1 zb3 (pvq 0) za5 (fun _ _=>rfl)))<|
  za1 (zd0 (zb6 zh1 (pvq 4) zb5 (zd7 _)) (za6 (zb4 (zd4 (zf6 (zc5 (zb7 (zb1 zb3 (pvq 0) za5 (fun _ _=>rfl)) (zk2 (zc4 zk6 (pvq 1) (zb1 zb3 (pvq 0) za5 (fun _ _=>rfl))) (za2 (pvq 2) za3)))) za3)))) zb9)<|
  za1 (zd0 (zb6 zh1 (pvq 4) zb5 (zd7 _)) (za6 (zb4 (zd4 (zf6 (zc5 (zb7 (zb1 zb3 (pvq 0) za5 (fun _ _=>rfl)) (za2 (pvq 3) (za2 (pvq 2) za3)))) za3)))) zb9)<|
  za1 (zd0 (zb6 zh1 (pvq 4) zb5 (zd7 _)) (za6 (zb4 (zd4 (zf6 (zc5 (zb7 (zb1 zb3 (pvq 0) za5 (fun _ _=>rfl)) (za2 (pvq 1) (zb0 yj3 za3)))) za3)))) zb9)<|
  za6 (zb4 (zd4 (zf6 (zc5 (zb7 (zb1 zb3 (pvq 0) za5 (fun _ _=>rfl)) (za2 (pvq 1) (za2 (pvq 2) za3)))) (zf6 (zc5 (zb7 (zb1 zb3 (pvq 0) za5 (fun _ _=>rfl)) (za2 (pvq 1) (za2 (pvq 2) za3)))) za3)))),?_⟩
 cases q with
 |nest j p1=>
  obtain⟨a1,hP,hP1⟩:=hP
  refine⟨_,rfl,r,_,_,_,rfl,rfl,SqT.of hP,rfl,?_⟩
  refine⟨_,rfl,rfl,_,rfl,zd1 (by decide +kernel) ?_⟩
  refine⟨_,rfl,r,_,_,_,rfl,rfl,SqT.of hP,rfl,_,rfl,_,rfl,r,_,_,_,rfl,rfl,SqT.of hP,rfl,_,_,rfl,rfl,_,rfl,(by show 3≤sizeLine;decide),fun t ht=>⟨(by show 1≤sizeLine;decide),fun l hl=>?_⟩⟩
  have s1:=za4 ht (.tup [.ref a1,.int ((m:Int)+(j:Int)),.bl fl])
  have s2:=za4 hl (.lst [.ref t])
  exact k l _ _ (s1.trans s2) (s1.free hl) za0 (.cons ⟨t,a1,rfl,s2 _ _ za0,hP1.mono (.of (s1.trans s2))⟩ .nil)
 |align p1=>
  obtain⟨a1,hP,hP1⟩:=hP
  refine⟨_,rfl,r,_,_,_,rfl,rfl,SqT.of hP,rfl,?_⟩
  refine⟨_,rfl,rfl,_,rfl,zc3 (by decide +kernel) ?_⟩
  refine⟨_,rfl,rfl,_,rfl,zd1 (by decide +kernel) ?_⟩
  refine⟨_,rfl,r,_,_,_,rfl,rfl,SqT.of hP,rfl,_,rfl,_,rfl,(by show 3≤sizeLine;decide),fun t ht=>⟨(by show 1≤sizeLine;decide),fun l hl=>?_⟩⟩
  have s1:=za4 ht (.tup [.ref a1,.int (c:Int),.bl fl])
  have s2:=za4 hl (.lst [.ref t])
  exact k l _ _ (s1.trans s2) (s1.free hl) za0 (.cons ⟨t,a1,rfl,s2 _ _ za0,hP1.mono (.of (s1.trans s2))⟩ .nil)
 |flat p1=>
  obtain⟨a1,hP,hP1⟩:=hP
  refine⟨_,rfl,r,_,_,_,rfl,rfl,SqT.of hP,rfl,?_⟩
  refine⟨_,rfl,rfl,_,rfl,zc3 (by decide +kernel) ?_⟩
  refine⟨_,rfl,rfl,_,rfl,zc3 (by decide +kernel) ?_⟩
  refine⟨_,rfl,rfl,_,rfl,zd1 (by decide +kernel) ?_⟩
  refine⟨_,rfl,r,_,_,_,rfl,rfl,SqT.of hP,rfl,_,rfl,(by show 3≤sizeLine;decide),fun t ht=>⟨(by show 1≤sizeLine;decide),fun l hl=>?_⟩⟩
  have s1:=za4 ht (.tup [.ref a1,.int (m:Int),.bl true])
  have s2:=za4 hl (.lst [.ref t])
  exact k l _ _ (s1.trans s2) (s1.free hl) za0 (.cons ⟨t,a1,rfl,s2 _ _ za0,hP1.mono (.of (s1.trans s2))⟩ .nil)
 |beside p1 p2=>
  obtain⟨a1,a2,hP,hP1,hP2⟩:=hP
  refine⟨_,rfl,r,_,_,_,rfl,rfl,SqT.of hP,rfl,?_⟩
  refine⟨_,rfl,rfl,_,rfl,zc3 (by decide +kernel) ?_⟩
  refine⟨_,rfl,rfl,_,rfl,zc3 (by decide +kernel) ?_⟩
  refine⟨_,rfl,rfl,_,rfl,zc3 (by decide +kernel) ?_⟩
  refine⟨_,rfl,r,_,_,_,rfl,rfl,SqT.of hP,rfl,_,rfl,_,rfl,(by show 3≤sizeLine;decide),fun t ht=>?_⟩
  have s1:=za4 ht (.tup [.ref a2,.int (m:Int),.bl fl])
  refine⟨_,rfl,r,_,_,_,rfl,rfl,SqT.of (s1 _ _ hP),rfl,_,rfl,_,rfl,(by show 3≤sizeLine;decide),fun t' ht'=>⟨(by show 2≤sizeLine;decide),fun l hl=>?_⟩⟩
  have s2:=za4 ht' (.tup [.ref a1,.int (m:Int),.bl fl])
  have s3:=za4 hl (.lst [.ref t,.ref t'])
  exact k l _ _ (s1.trans (s2.trans s3)) ((s1.trans s2).free hl) za0 (.cons ⟨t,a2,rfl,s3 _ _ (s2 _ _ za0),hP2.mono (.of (s1.trans (s2.trans s3)))⟩ (.cons ⟨t',a1,rfl,s3 _ _ za0,hP1.mono (.of (s1.trans (s2.trans s3)))⟩ .nil))
 |_=>exact hq.elim
end
end Pq
namespace Pq
open PySem L2
theorem But.tups{C p l:Addr}{H H':Hp}{pcs:List (List Nat)}{c:Nat}(b:But p l H H')(S:SheetAt C H p l pcs c):Tups H H':=fun a xs e=>by
 obtain⟨⟨dx,h1⟩,h2⟩:=S
 exact b a _ e (ze5 e h1 (by intro z;cases z)) (ze5 e h2 (by intro z;cases z))
theorem join_tx:∀pcs:List (List Nat),Txt.join (Str.ofString "") (pcs.map tx)=tx pcs.flatten:=fun pcs=>by
 show Builtin.Str.glued _ _=_
 rw[StrLaws.glued_eq_join,em_tx]
 induction pcs with
 |nil=>rfl
 |cons a r ih=>
  cases r with
  |nil=>simp[Str.join]
  |cons b r=>
   show tx a++tx []++Str.join (tx []) ((b::r).map tx)=_
   rw[ih,zn9,zn9]
   simp
theorem sum_tx:∀pcs:List (List Nat),((pcs.map tx).map (·.length)).sum=pcs.flatten.length
 |[]=>rfl
 |a::r=>by
  rw[List.map_cons,List.map_cons,List.sum_cons,sum_tx r,zf1,List.flatten_cons,List.length_append]
theorem nextS_len(q:Plan)(m:Nat)(f:Bool)(c:Nat):(zu8 q m f c).length≤2:=by
 cases q<;>simp[zu8]
def spLaid(CB:Addr):Sp:=fun vs H Q E=>∃(r b:Addr) (p:Plan) (bits:List Int),vs=[.ref r,.ref b]∧PlanAt H p r∧H b=some (.lst (bits.map V.int))∧p.Flat∧p.size*(p.grow+1)≤400000∧p.size≤100000∧p.grow≤100000∧
 (∀t,lay p bits [] 0 false=some (t,[])→∀H',Same H H'→Q (.str (tx t)) H')∧((∀t,lay p bits [] 0 false≠some (t,[]))→∀H',Same H H'→E (.ref CB) none H')
structure Turns(C r b sh l wl:Addr)(p:Plan)(bits:List Int)(H:Hp)(n:Nat)(σ:St)(H':Hp)(met:Nat)(st:List Step)(xs:List V)(pcs:List (List Nat)):Prop where
 st_:∃v5 v6 v7 v8:Option V,σ=[some (.ref r),some (.ref b),some (.ref sh),some (.int (met:Nat)),some (.ref wl),v5,v6,v7,v8]
 work_:n=zv5 st
 same:Same H H'
 sheet:SheetAt C H' sh l pcs (col pcs.flatten)
 wait:H' wl=some (.lst xs)
 steps:StepsAt H' xs st.reverse
 met_:met≤bits.length
 all:zg5 st (bits.drop met) pcs.flatten=lay p bits [] 0 false
 fit:Fit p.grow st
 cols:col pcs.flatten+sumG st≤p.grow
 len:pcs.flatten.length+zv5 st*(p.grow+1)≤p.size*(p.grow+1)
 cnt:pcs.length+2*zv5 st≤2*p.size
section
variable {P:Program}{w:World}{K:PySem.W.Frag}{mg:Str→Option Value}{base:Heap}{f g:Addr}{fd gd:FuncData}{C CB:Addr}
theorem scLaid:FnScope ["plan","bits","sheet","met","waiting","step","part","margin","in_one_row"] ["plan","bits"] (za7 sLaid):=⟨rfl,rfl,rfl,by decide +kernel,rfl,by decide +kernel,by decide +kernel⟩
theorem ok_laid{fI fS fW fN fL:Addr}{iD sD wD nD lD:FuncData}(F:Fun K "laid" "laid" sLaid f fd)(T:Sht K mg C)(M:Mk K C fI)(mSh:mg "Sheet"=some (.ref C))(mC:mg "BadBits"=some (.ref CB))(hC:ExcOk K CB)
  (GI:FnOk P w K mg base CX0 1 fI iD ["self"] (yl5 C)) (bI:Binds K iD ["self"] [])
  (GS:FnOk P w K mg base (CXe P w) 1 fS sD ["choice","bits","met"] (spSide CB)) (bS:Binds K sD ["choice","bits","met"] []) (kS:PySem.W.keepIn K (.ref fS)=true) (mS:mg "side_taken"=some (.ref fS))
  (GW:FnOk P w K mg base CX0 1 fW wD ["plan"] yl6) (bW:Binds K wD ["plan"] []) (kW:PySem.W.keepIn K (.ref fW)=true) (mW:mg "is_leaf"=some (.ref fW))
  (GN:FnOk P w K mg base CX0 1 fN nD ["plan","margin","in_one_row","column"] spNext) (bN:Binds K nD ["plan","margin","in_one_row","column"] []) (kN:PySem.W.keepIn K (.ref fN)=true) (mN:mg "next_steps"=some (.ref fN))
  (GL:FnOk P w K mg base CX0 3 fL lD ["sheet","plan","margin","in_one_row"] (spLeaf C)) (bL:Binds K lD ["sheet","plan","margin","in_one_row"] []) (kL:PySem.W.keepIn K (.ref fL)=true) (mL:mg "write_leaf"=some (.ref fL)):
  FnOk P w K mg base (CXe P w) 4 f fd ["plan","bits"] (spLaid CB):=by
 refine F.okEq scLaid (fun vs H Q E h=>?_) (fun cdv A outer s H vs Q E hr h=>?_)
 ·obtain⟨r,b,p,bits,rfl,_⟩:=h
  rfl
 obtain⟨r,b,p,bits,rfl,hP,hb,hF,hz,hz1,hz2,q1,q2⟩:=h
 have nd:=scLaid.nd
 have hr1:Room 1 _:=hr.mono (by decide)
 have hr2:Room 2 _:=hr.mono (by decide)
 refine⟨_,za1 (zb2 (i:=2) nd rfl (Or.inl rfl) (pe_make0q M GI hr2 rfl mSh bI .nil zc7))<|
  za1 (zb2 (i:=3) nd rfl (Or.inl rfl) za5)<|
  za1 (zb2 (i:=4) nd rfl (Or.inl rfl) (zd4 (zf6 (zc5 (za2 (pvq 0) (zb0 za5 (zb0 yj3 za3)))) za3)))<|
  za1 (zl5 PassesOwn.leaving (zl4 (pvq 4) (fun _=>rfl)) (
   za1 (zb2 (i:=5) nd rfl (Or.inl rfl) (zu6 PySem.F.plainAttrs_list PySem.F.slot_list_pop PySem.F.type_list_pop ye6 (pvq 4)))<|
   za1 (zb2 (i:=6) nd rfl (Or.inl rfl) (zb1 zb3 (pvq 5) za5 (fun _ _=>rfl)))<|
   za1 (zb2 (i:=7) nd rfl (Or.inl rfl) (zb1 zb3 (pvq 5) za5 (fun _ _=>rfl)))<|
   za1 (zb2 (i:=8) nd rfl (Or.inl rfl) (zb1 zb3 (pvq 5) za5 (fun _ _=>rfl)))<|
   za6 (zd0 (zb6 zh1 (zb1 zb3 (pvq 6) za5 (fun _ _=>rfl)) zb5 (zd7 _))
    (za1 (ze1 (zh8 PySem.F.plainAttrs_list PySem.F.slot_list_append PySem.F.type_list_append zg2 (pvq 4) (zf6 (zc5 (ze4 (zc0 GS hr1 rfl mS kS bS .nil (pass_e fun _ _ _ h=>h) (za2 (pvq 6) (za2 (pvq 1) (za2 (pvq 3) za3)))) (za2 (pvq 7) (za2 (pvq 8) za3)))) za3)))
     (za6 (ym3 (i:=3) nd rfl (Or.inl rfl) za5 ip_add)))
    (za6 (zd0 (zp8 (zc0 GW hr1 rfl mW kW bW .nil zc7 (za2 (pvq 6) za3)))
     (za6 (ze1 (zc0 GL hr rfl mL kL bL .nil zc7 (za2 (pvq 2) (za2 (pvq 6) (za2 (pvq 7) (za2 (pvq 8) za3)))))))
     (za6 (ze1 (zh8 PySem.F.plainAttrs_list PySem.F.slot_list_extend PySem.F.type_list_extend zp1 (pvq 4) (ze4 (zc0 GN hr1 rfl mN kN bN .nil zc7 (za2 (pvq 6) (za2 (pvq 7) (za2 (pvq 8) (yn0 (zd3 (pvq 2) rfl) za3))))) za3)))))))))<|
  za1 (zd0 (zb6 op_lt (pvq 3) (zd9 zj6 rfl T.len PySem.boot_len (za2 (pvq 1) za3)) (zd7 _)) (za6 (yd5 yd3 hC rfl rfl mC (zb0 zb5 za3))) zb9)<|
  za6 (zb4 (zh8 PySem.F.plainAttrs_str PySem.F.slot_str_join PySem.F.type_str_join mt_join zb5 (yn0 (zd3 (pvq 2) rfl) za3))),?_⟩
 intro sh dx nsh ndx nex
 refine⟨sh,dx,rfl,za0,fun l H1 fl0 S1 kp=>⟨rfl,?_⟩⟩
 have s0:Same H (upd (upd H dx (.own sh)) sh (.ins C dx [])):=fun b o e=>by
  rw[za9 (za8 e nsh),za9 (za8 e ndx)]
  exact e
 have s1:Same H H1:=fun b o e=>kp b o (s0 b o e) (za8 e nsh)
 have nl:H l=none:=s0.free fl0
 refine⟨_,rfl,(by show 3≤sizeLine;decide),fun t0 ht0=>⟨(by show 1≤sizeLine;decide),fun wl hwl=>?_⟩⟩
 have s2:=za4 ht0 (.tup [.ref r,.int 0,.bl false])
 have s3:=za4 hwl (.lst [.ref t0])
 have nwl:H wl=none:=(s1.trans s2).free hwl
 obtain⟨⟨dx1,hsh1⟩,hl1⟩:=id S1
 have wsh:wl≠sh:=fun z=>by rw[z,s2 _ _ hsh1] at hwl;cases hwl
 have wll:wl≠l:=fun z=>by rw[z,s2 _ _ hl1] at hwl;cases hwl
 have bwl:b≠wl:=za8 hb nwl
 refine⟨fun n σ H'=>∃met st xs pcs,Turns C r b sh l wl p bits H n σ H' met st xs pcs,⟨zv5 [(p,0,false)],0,[(p,0,false)],[.ref t0],[], ?init⟩, ?turn⟩
 case init=>
  refine⟨⟨_,_,_,_,rfl⟩,rfl,s1.trans (s2.trans s3),(S1.mono s2).mono s3,za0,.cons ⟨t0,r,rfl,s3 _ _ za0,hP.mono (.of (s1.trans (s2.trans s3)))⟩ .nil,Nat.zero_le _,layAll_one p bits [],⟨?_,hF,trivial⟩,?_,?_,?_⟩
  ·simp[sumG]
  ·simp[sumG,col]
  ·simp[zv5]
  ·simp[zv5]
 case turn=>
  rintro n σ H' ⟨met,st,xs,pcs,W⟩
  obtain⟨v5,v6,v7,v8,rfl⟩:=W.st_
  obtain⟨⟨dxs,hsh⟩,hpl⟩:=id W.sheet
  refine⟨_,rfl,_,.inl ⟨xs,SqL.of W.wait,rfl⟩,?_⟩
  cases st with
  |nil=>
   have ex:xs=[]:=by have:=W.steps;cases this;rfl
   subst ex
   have hall:some (pcs.flatten,bits.drop met)=lay p bits [] 0 false:=W.all
   refine zc3 (by simp) ?_
   have hlen:(bits.map V.int).length=bits.length:=List.length_map _
   refine⟨_,rfl,_,rfl,b,_,rfl,.inl (SqL.of (W.same _ _ hb)),_,_,rfl,rfl,_,rfl,?_⟩
   refine ite2 (fun c=>?_) (fun c=>?_)
   ·have c':(met:Int)<(((bits.map V.int).length:Nat):Int):=of_decide_eq_true c
    rw[hlen] at c'
    refine⟨(by show 1≤sizeLine;decide),q2 (fun t ht=>?_) H' W.same⟩
    rw[←hall] at ht
    have e:bits.drop met=[]:=congrArg Prod.snd (Option.some.inj ht)
    have e2:=congrArg List.length e
    rw[List.length_drop] at e2
    simp at e2
    omega
   ·have c':¬(met:Int)<(((bits.map V.int).length:Nat):Int):=of_decide_eq_false (Bool.eq_false_iff.mpr c)
    rw[hlen] at c'
    have e:bits.drop met=[]:=List.drop_eq_nil_of_le (by omega)
    rw[e] at hall
    have hlen2:=W.len
    refine⟨rfl,_,rfl,sh,C,dxs,_,_,rfl,hsh,T.cl,T.nP,zv3 _ _,_,l,pcs.map tx,rfl,rfl,SqL.of (by rw[hpl,List.map_map];rfl),?_,?_⟩
    ·rw[sum_tx,em_tx,zf1]
     simp
     have:pcs.flatten.length≤400000:=by omega
     simpa using (by omega:pcs.flatten.length≤16777216)
    ·rw[join_tx]
     exact q1 _ hall.symm H' W.same
  |cons sp rst=>
   obtain⟨q,m,fl⟩:=sp
   obtain⟨ys,v,ex,hys,tt,a,rfl,htt,hq⟩:∃ys v,xs=ys++[v]∧StepsAt H' ys rst.reverse∧StepAt H' v (q,m,fl):=by
    have z:=W.steps
    rw[List.reverse_cons] at z
    exact zh9 z
   subst ex
   have hfit:=W.fit
   have hcols:=W.cols
   have hlenW:=W.len
   have hcnt:=W.cnt
   have hmet:=W.met_
   have hwk:zv5 ((q,m,fl)::rst)=q.size+zv5 rst:=rfl
   have hps:=yb9 q
   refine zd1 (by simp) ?_
   have u1:Tups H' (upd H' wl (.lst ys)):=zc6 W.wait
   have g1:Same H (upd H' wl (.lst ys)):=fun c o e=>by rw[za9 (za8 e nwl)];exact W.same _ _ e
   have w1:(upd H' wl (.lst ys)) wl=some (.lst ys):=za0
   have S2:SheetAt C (upd H' wl (.lst ys)) sh l pcs (col pcs.flatten):=⟨⟨dxs,by rw[za9 wsh.symm];exact hsh⟩,by rw[za9 wll.symm];exact hpl⟩
   have htt1:=u1 _ _ htt
   have hq1:=hq.mono u1
   have hys1:=StepsAt.mono u1 hys
   have hb1:=g1 _ _ hb
   have hlast:(ys++[V.ref tt])[(ys++[V.ref tt]).length - 1]? = some (.ref tt):=by simp
   refine⟨fun σ' H''=>∃n',n'<n∧∃met' st' xs' pcs',Turns C r b sh l wl p bits H n' σ' H'' met' st' xs' pcs',fun σ' H'' z=>z,?_⟩
   refine⟨_,rfl,.inl ⟨rfl,_,SqL.of W.wait⟩,wl,_,_,rfl,rfl,W.wait,hlast,?_⟩
   rw[List.dropLast_concat]
   generalize upd H' wl (.lst ys)=H2 at*
   refine⟨_,rfl,tt,_,_,_,rfl,rfl,SqT.of htt1,rfl,_,rfl,tt,_,_,_,rfl,rfl,SqT.of htt1,rfl,_,rfl,tt,_,_,_,rfl,rfl,SqT.of htt1,rfl,?_⟩
   have hylen:ys.length≤100000:=by
    have e1:=zf9 hys1
    have e2:=len_work rst
    rw[List.length_reverse] at e1
    have e3:zv5 rst*(p.grow+1)≤p.size*(p.grow+1):=by rw[hwk,Nat.add_mul] at hlenW;omega
    have e4:=Nat.le_of_mul_le_mul_right e3 (by omega)
    omega
   by_cases hch:∃p1 p2,q=.choice p1 p2
   ·obtain⟨p1,p2,rfl⟩:=hch
    obtain⟨a1,a2,hq0,hp1,hp2⟩:=hq1
    have hall:=W.all
    have take:∀(pj:Plan) (aj:Addr) (H3:Hp) (t:Addr),PlanAt H2 pj aj→Same H2 H3→H3 t=none→pj.size<(Plan.choice p1 p2).size→pj.grow≤(Plan.choice p1 p2).grow→pj.Flat→met+1≤bits.length→
      zg5 ((pj,m,fl)::rst) (bits.drop (met+1)) pcs.flatten=lay p bits [] 0 false→
      Turns C r b sh l wl p bits H (zv5 ((pj,m,fl)::rst)) [some (.ref r),some (.ref b),some (.ref sh),some (.int ((met+1:Nat):Int)),some (.ref wl),some (.ref tt),some (.ref a),some (.int (m:Int)),some (.bl fl)]
       (upd (upd H3 t (.tup [.ref aj,.int (m:Int),.bl fl])) wl (.lst (ys++[.ref t]))) (met+1) ((pj,m,fl)::rst) (ys++[.ref t]) pcs:=fun pj aj H3 t hj s3 ht3 hsz hgr hfl hme ha=>by
     have s4:=za4 ht3 (.tup [.ref aj,.int (m:Int),.bl fl])
     have s5:=s3.trans s4
     have u5:Tups (upd H3 t (.tup [.ref aj,.int (m:Int),.bl fl])) (upd (upd H3 t (.tup [.ref aj,.int (m:Int),.bl fl])) wl (.lst (ys++[.ref t]))):=zc6 (s5 _ _ w1)
     have u6:=(Tups.of s5).trans u5
     obtain⟨f1,f2,f3⟩:=hfit
     obtain⟨⟨dy,k1⟩,k2⟩:=S2
     have hwj:zv5 ((pj,m,fl)::rst)=pj.size+zv5 rst:=rfl
     have hsj:sumG ((pj,m,fl)::rst)=pj.grow+sumG rst:=rfl
     have hs0:sumG ((Plan.choice p1 p2,m,fl)::rst)=(Plan.choice p1 p2).grow+sumG rst:=rfl
     have hle:zv5 ((pj,m,fl)::rst)≤zv5 ((Plan.choice p1 p2,m,fl)::rst):=by rw[hwj,hwk];omega
     have hmul:=Nat.mul_le_mul_right (p.grow+1) hle
     refine⟨⟨_,_,_,_,rfl⟩,rfl,fun c o e=>by rw[za9 (za8 e nwl)];exact s5 _ _ (g1 _ _ e),⟨⟨dy,by rw[za9 wsh.symm];exact s5 _ _ k1⟩,by rw[za9 wll.symm];exact s5 _ _ k2⟩,za0,?_,hme,ha,⟨by omega,hfl,f3⟩,by omega,by omega,by omega⟩
     rw[List.reverse_cons]
     exact zd5 (StepsAt.mono u6 hys1) (.cons ⟨t,aj,rfl,u5 _ _ za0,hj.mono u6⟩ .nil)
    have hsz1:p1.size<(Plan.choice p1 p2).size:=by have:=yb9 p2;simp only[Plan.size];omega
    have hsz2:p2.size<(Plan.choice p1 p2).size:=by have:=yb9 p1;simp only[Plan.size];omega
    have hgr1:p1.grow≤(Plan.choice p1 p2).grow:=by simp only[Plan.grow];omega
    have hgr2:p2.grow≤(Plan.choice p1 p2).grow:=by simp only[Plan.grow];omega
    have hfl2:p1.Flat∧p2.Flat:=hfit.2.1
    have dropc:∀x,bits[met]? = some x→bits.drop met=x::bits.drop (met+1)∧met+1≤bits.length:=fun x e=>by
     obtain⟨h1,h2⟩:=List.getElem?_eq_some_iff.mp e
     exact⟨by rw[List.drop_eq_getElem_cons h1,h2],h1⟩
    have hwn:n=zv5 ((Plan.choice p1 p2,m,fl)::rst):=W.work_
    have ltw:∀pj:Plan,pj.size<(Plan.choice p1 p2).size→zv5 ((pj,m,fl)::rst)<n:=fun pj h=>by
     have hwj:zv5 ((pj,m,fl)::rst)=pj.size+zv5 rst:=rfl
     rw[hwn,hwj,hwk];omega
    refine⟨_,rfl,a,_,_,_,rfl,rfl,SqT.of hq0,rfl,?_⟩
    refine⟨rfl,_,rfl,zd1 (by decide +kernel) ?_⟩
    refine⟨_,rfl,.inl ⟨rfl,_,SqL.of w1⟩,_,rfl,_,rfl,_,rfl,a,b,a1,a2,bits,met,rfl,hq0,hb1,fun e=>?_,fun x e ex H3 s3=>?_,fun x e ex H3 s3=>?_,fun x e e0 e1 H3 s3=>?_⟩
    ·refine q2 (fun t ht=>?_) H2 g1
     have e2:bits.drop met=[]:=List.drop_eq_nil_of_le (List.getElem?_eq_none_iff.mp e)
     rw[e2,zz9] at hall
     rw[←hall] at ht
     cases ht
    ·subst ex
     obtain⟨d1,d2⟩:=dropc _ e
     rw[d1,yh3] at hall
     refine⟨_,rfl,_,rfl,(by show 3≤sizeLine;decide),fun t ht=>⟨wl,ys,_,rfl,rfl,za4 ht _ _ _ (s3 _ _ w1),Nat.lt_of_lt_of_le (show ys.length<100001 by omega) (zd2 (by omega)),?_⟩⟩
     exact⟨_,rfl,_,_,rfl,rfl,_,ltw p1 hsz1,_,_,_,_,take p1 a1 H3 t hp1 s3 ht hsz1 hgr1 hfl2.1 d2 hall⟩
    ·subst ex
     obtain⟨d1,d2⟩:=dropc _ e
     rw[d1,yh2] at hall
     refine⟨_,rfl,_,rfl,(by show 3≤sizeLine;decide),fun t ht=>⟨wl,ys,_,rfl,rfl,za4 ht _ _ _ (s3 _ _ w1),Nat.lt_of_lt_of_le (show ys.length<100001 by omega) (zd2 (by omega)),?_⟩⟩
     exact⟨_,rfl,_,_,rfl,rfl,_,ltw p2 hsz2,_,_,_,_,take p2 a2 H3 t hp2 s3 ht hsz2 hgr2 hfl2.2 d2 hall⟩
    ·refine q2 (fun t ht=>?_) H3 (g1.trans s3)
     rw[(dropc _ e).1,ya0 _ _ _ _ _ _ _ _ e0 e1] at hall
     rw[←hall] at ht
     cases ht
   have hcase:(IsMid q∧zv2 q=false)∨(IsLeaf q∧zv2 q=true):=by
    cases q with
    |choice p1 p2=>exact absurd ⟨p1,p2,rfl⟩ hch
    |text x=>exact .inr ⟨trivial,rfl⟩
    |line=>exact .inr ⟨trivial,rfl⟩
    |cut=>exact .inr ⟨trivial,rfl⟩
    |nest j p1=>exact .inl ⟨trivial,rfl⟩
    |align p1=>exact .inl ⟨trivial,rfl⟩
    |flat p1=>exact .inl ⟨trivial,rfl⟩
    |beside p1 p2=>exact .inl ⟨trivial,rfl⟩
   obtain⟨zs,hq0⟩:=zo6 hq1
   have hne:¬(V.str (zm0 q)=V.str "choice"):=by
    cases q with
    |choice p1 p2=>exact absurd ⟨p1,p2,rfl⟩ hch
    |_=>simp only[zm0];decide +kernel
   refine⟨_,rfl,a,_,_,.str (zm0 q),rfl,rfl,SqT.of hq0,(by show atI (V.str (zm0 q)::zs) ((0:Nat):Int)=_;exact zh0 rfl),?_⟩
   refine⟨rfl,_,rfl,zc3 (by rw[decide_eq_false hne];decide) ?_⟩
   refine⟨_,rfl,a,q,rfl,hq1,_,rfl,?_⟩
   have s3:Same H2 H2:=Same.refl H2
   have w3:=s3 _ _ w1
   have S3:=S2.mono s3
   have hq3:=hq1.mono (.of s3)
   have hys3:=StepsAt.mono (.of s3) hys1
   have g3:=g1.trans s3
   have hall:=W.all
   have hwn:n=zv5 ((q,m,fl)::rst):=W.work_
   obtain⟨⟨dy,k1⟩,k2⟩:=id S3
   rcases hcase with⟨hm,hkd⟩|⟨hm,hkd⟩
   ·rw[hkd]
    refine yb2 ?_
    refine⟨_,rfl,.inl ⟨rfl,_,SqL.of w3⟩,_,rfl,_,rfl,_,rfl,_,rfl,sh,C,dy,_,_,rfl,k1,T.cl,T.nC,yf7 _ _,a,q,m,col pcs.flatten,fl,rfl,hq3,hm,fun l2 xn H4 s4 n2 h2 hst=>?_⟩
    have e2:=zf9 hst
    have e3:=nextS_len q m fl (col pcs.flatten)
    refine⟨wl,l2,ys,xn,rfl,rfl,s4 _ _ w3,h2,zd2 (by omega),?_⟩
    have u5:Tups H4 (upd H4 wl (.lst (ys++xn))):=zc6 (s4 _ _ w3)
    obtain⟨f1,f2⟩:=mid_fit hm m fl (col pcs.flatten) p.grow rst hfit hcols
    have hlt:=mid_work hm m fl (col pcs.flatten) rst
    have hmul:=Nat.mul_le_mul_right (p.grow+1) (Nat.le_of_lt hlt)
    refine⟨_,by rw[hwn];exact hlt,met,_,ys++xn,pcs,⟨_,_,_,_,rfl⟩,rfl,fun c o e=>by rw[za9 (za8 e nwl)];exact s4 _ _ (g3 _ _ e),⟨⟨dy,by rw[za9 wsh.symm];exact s4 _ _ k1⟩,by rw[za9 wll.symm];exact s4 _ _ k2⟩,za0,?_,hmet,?_,f1,f2,by omega,by omega⟩
    ·rw[List.reverse_append,List.reverse_reverse]
     exact zd5 (StepsAt.mono ((Tups.of s4).trans u5) hys3) (StepsAt.mono u5 hst)
    ·rw[←hall,mid_lay hm]
   ·rw[hkd]
    refine zu0 ?_
    obtain⟨f1,f2,f3⟩:=hfit
    have hs0:sumG ((q,m,fl)::rst)=q.grow+sumG rst:=rfl
    refine⟨_,rfl,_,rfl,_,rfl,_,rfl,sh,l,a,pcs,col pcs.flatten,m,fl,q,rfl,S3,hq3,hm,by omega,by omega,by omega,fun H4 S4 bt=>?_⟩
    have ef:(pcs++zf7 q m fl).flatten=pcs.flatten++(zf7 q m fl).flatten:=List.flatten_append
    have ec:=leaf_col hm f2 m fl pcs.flatten
    have el:=leaf_len hm m fl
    have en:=leaf_cnt q m fl
    have hmul:(q.size+zv5 rst)*(p.grow+1)=q.size*(p.grow+1)+zv5 rst*(p.grow+1):=Nat.add_mul _ _ _
    have hmul2:1*(p.grow+1)≤q.size*(p.grow+1):=Nat.mul_le_mul_right _ hps
    rw[hwk] at hlenW hcnt
    refine⟨_,(by rw[hwn,hwk];omega),met,rst,ys,pcs++zf7 q m fl,⟨_,_,_,_,rfl⟩,rfl,fun c o e=>bt _ _ (g3 _ _ e) (za8 e nsh) (za8 e nl),?_,bt _ _ w3 wsh wll,StepsAt.mono (bt.tups S3) hys3,hmet,?_,f3,?_,?_,?_⟩
    ·rw[ef,ec];exact S4
    ·rw[ef,←leaf_lay hm];exact hall
    ·rw[ef,ec];exact leafCol_le hm _ _ _ _ _ (by omega) (by omega)
    ·rw[ef,List.length_append];omega
    ·rw[List.length_append];omega
end
end Pq
namespace Pq
open PySem L2
section
variable {P:Program}{w:World}{K:PySem.W.Frag}{mg:Str→Option Value}{base:Heap}{f g:Addr}{fd gd:FuncData}
abbrev zn7:List Str:=["_law_plan_here"]
theorem scSides:FnScope ["_law_plan_here","_law_row","_law_found","_law_behind"] zn7 (za7 yd2):=⟨rfl,rfl,rfl,by decide +kernel,rfl,by decide +kernel,by decide +kernel⟩
theorem ok_sides{n:Nat}(F:Fun K "_law_sides" "_law_sides" yd2 f fd)(mF:mg "_law_sides"=some (.ref f))(bF:Binds K fd zn7 [])
  (G:FnOk P w K mg base CX0 n f fd zn7 (yc9 n)):FnOk P w K mg base CX0 (n+1) f fd zn7 (yc9 (n+1)):=by
 refine F.okq scSides (fun vs H Q E h=>?_) (fun cdv A outer s H vs Q E hr h=>?_)
 ·obtain⟨r,p,rfl,_⟩:=h
  rfl
 obtain⟨r,p,rfl,hP,hd,hz,hw,q⟩:=h
 have nd:=scSides.nd
 refine⟨_,za1 (zd0 (zb6 zh1 (zb1 zb3 (pvq 0) za5 (fun _ _=>rfl)) zb5 (zd7 _)) (za6 (zb4 (zc4 op_cat
   (zq2 rfl (zr1 (by decide) rfl rfl (by decide +kernel)) (zk0 (zc0 G hr rfl mF F.kp bF .nil zc7 (zb7 (zb1 zb3 (pvq 0) za5 (fun _ _=>rfl)) za3))) (fun _ _ _ _=>zt6) (fun _ _ _ _=>zc4 op_cat (zd4 (zb0 za5 za3)) (pvq 0)))
   (zq2 rfl (zr1 (by decide) rfl rfl (by decide +kernel)) (zk0 (zc0 G hr rfl mF F.kp bF .nil zc7 (zb7 (zb1 zb3 (pvq 0) za5 (fun _ _=>rfl)) za3))) (fun _ _ _ _=>zt6) (fun _ _ _ _=>zc4 op_cat (zd4 (zb0 za5 za3)) (pvq 0)))))) zb9)<|
  za1 (zd0 (zb6 zh1 (zb1 zb3 (pvq 0) za5 (fun _ _=>rfl)) zb5 (zd7 _)) (
   za1 (zb2 (i:=2) nd rfl (Or.inl rfl) (zd4 za3))<|
   za1 (zb2 (i:=3) nd rfl (Or.inl rfl) (zc0 G hr rfl mF F.kp bF .nil zc7 (zb7 (zb1 zb3 (pvq 0) za5 (fun _ _=>rfl)) za3)))<|
   za1 (zp9 PassesOwn.never rfl (zk0 (zc0 G hr rfl mF F.kp bF .nil zc7 (zb7 (zb1 zb3 (pvq 0) za5 (fun _ _=>rfl)) za3))) (zn8 (i:=1) nd rfl (Or.inr rfl))
    (za6 (ze1 (zh8 PySem.F.plainAttrs_list PySem.F.slot_list_extend PySem.F.type_list_extend zp1 (pvq 2) (zw9
     (zq2 (cl:=[("_law_row",s.heap.objs.size+1)]) (ys:=["_law_row"]) (js:=[1]) rfl ⟨rfl, ?c1,by decide,rfl,by decide +kernel,rfl,by decide +kernel, ?c2,rfl, ?c3⟩ (zk0 (pvq 3)) (fun _ _ _ _=>zt6) (fun _ _ _ _=>zc4 op_cat (pvq 1) (pvq 0))) za3)))))<|
   za6 (zb4 (pvq 2))) zb9)<|
  za1 (zd0 (zb6 zs1 (zb1 zb3 (pvq 0) za5 (fun _ _=>rfl)) (zc5 (zb0 zb5 (zb0 zb5 (zb0 zb5 za3)))) rfl) (za6 (zb4 (zd4 (pa_lstq (zd4 za3) za3)))) zb9)<|
  za6 (zb4 (zc0 G hr rfl mF F.kp bF .nil zc7 (zb7 (zb1 zb3 (pvq 0) (yd8 yc6 za5) (fun _ _=>rfl)) za3))),?_⟩
 case c1=>exact fun y c h=>h
 case c2=>
  intro y h
  have h':(y,NameKind.cell)∈([(".0",.local),("_law_more",.local),("_law_row",.cell)]:List (Str×NameKind))∨(y,NameKind.free)∈([(".0",.local),("_law_more",.local),("_law_row",.cell)]:List (Str×NameKind)):=by
   rcases h with h|h
   ·exact .inl (PySem.mem_of_lookup h)
   ·exact .inr (PySem.mem_of_lookup h)
  have e:y="_law_row":=by
   rcases h' with h'|h'<;>simp at h'
   exact h'
  subst e
  exact⟨_,rfl⟩
 case c3=>
  intro k j h
  cases k with
  |zero=>cases h;exact⟨"_law_row",rfl,rfl,.inl rfl,⟨_,rfl⟩,.inl rfl⟩
  |succ k=>cases h
 cases p with
 |choice p1 p2=>
  obtain⟨a1,a2,hP,hP1,hP2⟩:=hP
  have hd':max p1.deep p2.deep+1≤n:=hd
  obtain⟨n,rfl⟩:∃n',n=n'+1:=⟨n - 1,by omega⟩
  rw[zr6] at hz
  have hw':p1.size+p2.size+1≤100000:=hw
  refine⟨_,rfl,r,_,_,_,rfl,rfl,SqT.of hP,rfl,rfl,_,rfl,zd1 (by decide +kernel) ?_⟩
  refine⟨_,rfl,r,_,_,_,rfl,rfl,SqT.of hP,rfl,a1,p1,rfl,hP1,by omega,by omega,by omega,fun rr1 H1 s1 R1=>?_⟩
  obtain⟨as1,e1,w1,n1,m1⟩:=R1
  refine⟨rr1,rfl,⟨_,SqL.of e1⟩,fun D hD=>comp_pre 0 e1 w1 (by omega) (fun row hr=>Nat.le_trans (zi9 p1 row hr) (by omega)) hD fun bs1 H2 s2 g1 v1 f1=>?_⟩
  have s12:=s1.trans s2
  refine⟨_,rfl,r,_,_,_,rfl,rfl,SqT.of (s12 _ _ hP),rfl,a2,p2,rfl,hP2.mono (.of s12),by omega,by omega,by omega,fun rr2 H3 s3 R3=>?_⟩
  obtain⟨as2,e3,w3,n3,m3⟩:=R3
  refine⟨rr2,rfl,⟨_,SqL.of e3⟩,fun D2 hD2=>comp_pre 1 e3 w3 (by omega) (fun row hr=>Nat.le_trans (zi9 p2 row hr) (by omega)) hD2 fun bs2 H4 s4 g2 v2 f2=>?_⟩
  have l1:=zf9 v1
  have l2:=zf9 v2
  rw[List.length_map] at l1 l2
  refine⟨D,D2,_,_,rfl,rfl,(s3.trans s4) _ _ g1,g2,zd2 (by rw[List.length_map,List.length_map];omega),fun p hp=>?_⟩
  have s5:=za4 hp (.lst (bs1.map V.ref++bs2.map V.ref))
  refine q p _ (s12.trans (s3.trans (s4.trans s5))) ⟨bs1++bs2,by rw[za0,List.map_append],Rows.append ((v1.mono (s3.trans s4)).mono s5) (v2.mono s5),(s12.trans (s3.trans s4)).free hp,fun b hb=>?_⟩
  rcases List.mem_append.mp hb with z|z
  ·exact s1.free (f1 b z).2
  ·exact(s12.trans s3).free (f2 b z).2
 |beside p1 p2=>
  obtain⟨a1,a2,hP,hP1,hP2⟩:=hP
  have hd':max p1.deep p2.deep+1≤n:=hd
  obtain⟨n,rfl⟩:∃n',n=n'+1:=⟨n - 1,by omega⟩
  rw[ya8] at hz
  have hw':p1.size+p2.size+1≤100000:=hw
  have k1:=sides_pos p1
  have k2:=sides_pos p2
  have z1:p1.sides.length≤100000:=Nat.le_trans (by have:=Nat.mul_le_mul_left p1.sides.length k2;omega) hz
  have z2:p2.sides.length≤100000:=Nat.le_trans (by have:=Nat.mul_le_mul_right p2.sides.length k1;omega) hz
  refine⟨_,rfl,r,_,_,_,rfl,rfl,SqT.of hP,rfl,rfl,_,rfl,zc3 (by decide +kernel) ?_⟩
  refine⟨_,rfl,r,_,_,_,rfl,rfl,SqT.of hP,rfl,rfl,_,rfl,zd1 (by decide +kernel) ?_⟩
  refine⟨(by show 0≤sizeLine;decide),fun fo hfo=>?_⟩
  have s0:=za4 hfo (.lst [])
  refine⟨_,rfl,r,_,_,_,rfl,rfl,SqT.of (s0 _ _ hP),rfl,a2,p2,rfl,hP2.mono (.of s0),by omega,z2,by omega,fun rr2 H2 s2 R2=>?_⟩
  obtain⟨as2,e2,w2,n2,m2⟩:=R2
  have s02:=s0.trans s2
  refine⟨_,rfl,r,_,_,_,rfl,rfl,SqT.of (s02 _ _ hP),rfl,a1,p1,rfl,hP1.mono (.of s02),by omega,z1,by omega,fun rr1 H3 s3 R3=>?_⟩
  obtain⟨as1,e1,w1,n1,m1⟩:=R3
  have efo:H3 fo=some (.lst []):=s3 _ _ (s2 _ _ za0)
  have ne2:rr2≠fo:=fun z=>by rw[z,za0] at n2;cases n2
  have ne1:rr1≠fo:=fun z=>by rw[z,s2 _ _ za0] at n1;cases n1
  have nas1:∀a∈as1,a≠fo:=fun a ha z=>by have:=m1 a ha;rw[z,s2 _ _ za0] at this;cases this
  have nas2:∀a∈as2,a≠fo:=fun a ha z=>by have:=m2 a ha;rw[z,za0] at this;cases this
  have hlen:(as1.map V.ref).length=p1.sides.length:=by rw[List.length_map,zf9 w1]
  have D0:Rows (del H3 fo) as1 p1.sides:=by
   have:∀ {as:List Addr} {rows:List (List Int)},Rows H3 as rows→(∀a∈as,a≠fo)→Rows (del H3 fo) as rows:=by
    intro as rows w
    induction w with
    |nil=>intro _;exact .nil
    |cons e t ih=>intro hne;exact .cons (by rw[yg0 (hne _ List.mem_cons_self)];exact e) (ih fun a ha=>hne a (List.mem_cons_of_mem _ ha))
   exact this w1 nas1
  have D2:Rows (del H3 fo) as2 p2.sides:=by
   have:∀ {as:List Addr} {rows:List (List Int)},Rows H3 as rows→(∀a∈as,a≠fo)→Rows (del H3 fo) as rows:=by
    intro as rows w
    induction w with
    |nil=>intro _;exact .nil
    |cons e t ih=>intro hne;exact .cons (by rw[yg0 (hne _ List.mem_cons_self)];exact e) (ih fun a ha=>hne a (List.mem_cons_of_mem _ ha))
   exact this (w2.mono s3) nas2
  have dP1:del H3 fo rr1=some (.lst (as1.map V.ref)):=by rw[yg0 ne1];exact e1
  have dP2:del H3 fo rr2=some (.lst (as2.map V.ref)):=by rw[yg0 ne2];exact s3 _ _ e2
  refine⟨rr1,rfl,⟨_,SqL.of e1⟩,yc2 (K:=K) (a:=rr1) (xs:=as1.map V.ref) (fun i σ H4=>∃(v:Option V) (ys:List V),σ=[some (.ref r),v,some (.ref fo),some (.ref rr2)]∧Grown (del H3 fo) fo ((p1.sides.take i).flatMap fun a=>p2.sides.map (a ++ ·)) H4 ys)
   ⟨_,[],rfl,⟨del_same,efo,[],rfl,.nil,fun _ h=>nomatch h⟩⟩ (fun i σ H4 _ ⟨_,_,_,g⟩=>SqL.of (g.same _ _ dP1)) ?_ ?_⟩
  ·rintro i x σ H4 hx ⟨v,ys,rfl,g⟩
   obtain⟨ax,row,rfl,hrow,ex⟩:=D0.get hx
   have hi:i<p1.sides.length:=(List.getElem?_eq_some_iff.mp hrow).1
   have hm:row∈p1.sides:=List.mem_of_getElem? hrow
   refine⟨_,rfl,.inl ⟨rfl,_,SqL.of g.at_⟩,_,rfl,rr2,rfl,⟨_,SqL.of (g.same _ _ dP2)⟩,fun D hD=>comp_post (g.same _ _ dP2) (g.same _ _ ex) (D2.mono g.same) (by omega) (Nat.le_trans (zi9 p1 row hm) (by omega)) (fun row' hr'=>Nat.le_trans (zi9 p2 row' hr') (by omega)) hD fun bs H5 s5 gD v5 f5=>?_⟩
   have l5:=zf9 v5
   rw[List.length_map] at l5
   have lg:=g.len
   have lt:((p1.sides.take i).flatMap fun a=>p2.sides.map (a ++ ·)).length=(p1.sides.take i).length*p2.sides.length:=zf0 _ _ _ fun _ _=>List.length_map _
   rw[lt,List.length_take] at lg
   have lm:min i p1.sides.length*p2.sides.length≤p1.sides.length*p2.sides.length:=Nat.mul_le_mul_right _ (Nat.min_le_right _ _)
   refine⟨fo,D,ys,_,rfl,rfl,s5 _ _ g.at_,gD,zd2 (by rw[List.length_map];omega),_,ys++bs.map V.ref,rfl,?_⟩
   have e:((p1.sides.take (i+1)).flatMap fun a=>p2.sides.map (a ++ ·))=((p1.sides.take i).flatMap fun a=>p2.sides.map (a ++ ·))++p2.sides.map (row ++ ·):=by rw[ze8 hrow,List.flatMap_append];simp
   rw[e]
   exact g.ext del_at s5 v5 fun b hb=>⟨(fun z=>by have:=(f5 b hb).2;rw[z,g.at_] at this;cases this),g.same.free (f5 b hb).2⟩
  ·rintro σ H4 ⟨v,ys,rfl,g⟩
   rw[hlen,List.take_length] at g
   obtain⟨bs,e,v4,f4⟩:=g.bs
   have back:∀b,b≠fo→del H3 fo b=none→H b=none:=fun b hb z=>by
    rw[yg0 hb] at z
    exact(s02.trans s3).free z
   refine⟨_,rfl,q fo H4 (fun b o hb=>?_) ⟨bs,by rw[←e];exact g.at_,v4,hfo,fun b hb=>back b (f4 b hb).1 (f4 b hb).2⟩⟩
   have hne:b≠fo:=za8 hb hfo
   exact g.same b o (by rw[yg0 hne];exact s3 _ _ (s02 _ _ hb))
 |text x=>
  have hP:H r=some (.tup [.str "text",.str (tx x)]):=hP
  refine⟨_,rfl,r,_,_,_,rfl,rfl,SqT.of hP,rfl,rfl,_,rfl,zc3 (by decide +kernel) ?_⟩
  refine⟨_,rfl,r,_,_,_,rfl,rfl,SqT.of hP,rfl,rfl,_,rfl,zc3 (by decide +kernel) ?_⟩
  refine⟨_,rfl,r,_,_,_,rfl,rfl,SqT.of hP,rfl,(by show 3≤sizeLine;decide),fun p0 hp0=>⟨p0,_,rfl,.inr (SqT.of za0),rfl,rfl,_,rfl,zd1 (by decide +kernel) ?_⟩⟩
  refine⟨(by show 0≤sizeLine;decide),fun l hl=>⟨(by show 1≤sizeLine;decide),fun l2 hl2=>?_⟩⟩
  have s0:=za4 hp0 (.tup [.str "text",.str "line",.str "cut"])
  have s1:=za4 hl (.lst [])
  have s2:=za4 hl2 (.lst [.ref l])
  exact q l2 _ (s0.trans (s1.trans s2)) ⟨[l],za0,.cons (s2 _ _ za0) .nil,(s0.trans s1).free hl2,fun b hb=>by rw[List.mem_singleton.mp hb];exact s0.free hl⟩
 |line=>
  have hP:H r=some (.tup [.str "line"]):=hP
  refine⟨_,rfl,r,_,_,_,rfl,rfl,SqT.of hP,rfl,rfl,_,rfl,zc3 (by decide +kernel) ?_⟩
  refine⟨_,rfl,r,_,_,_,rfl,rfl,SqT.of hP,rfl,rfl,_,rfl,zc3 (by decide +kernel) ?_⟩
  refine⟨_,rfl,r,_,_,_,rfl,rfl,SqT.of hP,rfl,(by show 3≤sizeLine;decide),fun p0 hp0=>⟨p0,_,rfl,.inr (SqT.of za0),rfl,rfl,_,rfl,zd1 (by decide +kernel) ?_⟩⟩
  refine⟨(by show 0≤sizeLine;decide),fun l hl=>⟨(by show 1≤sizeLine;decide),fun l2 hl2=>?_⟩⟩
  have s0:=za4 hp0 (.tup [.str "text",.str "line",.str "cut"])
  have s1:=za4 hl (.lst [])
  have s2:=za4 hl2 (.lst [.ref l])
  exact q l2 _ (s0.trans (s1.trans s2)) ⟨[l],za0,.cons (s2 _ _ za0) .nil,(s0.trans s1).free hl2,fun b hb=>by rw[List.mem_singleton.mp hb];exact s0.free hl⟩
 |cut=>
  have hP:H r=some (.tup [.str "cut"]):=hP
  refine⟨_,rfl,r,_,_,_,rfl,rfl,SqT.of hP,rfl,rfl,_,rfl,zc3 (by decide +kernel) ?_⟩
  refine⟨_,rfl,r,_,_,_,rfl,rfl,SqT.of hP,rfl,rfl,_,rfl,zc3 (by decide +kernel) ?_⟩
  refine⟨_,rfl,r,_,_,_,rfl,rfl,SqT.of hP,rfl,(by show 3≤sizeLine;decide),fun p0 hp0=>⟨p0,_,rfl,.inr (SqT.of za0),rfl,rfl,_,rfl,zd1 (by decide +kernel) ?_⟩⟩
  refine⟨(by show 0≤sizeLine;decide),fun l hl=>⟨(by show 1≤sizeLine;decide),fun l2 hl2=>?_⟩⟩
  have s0:=za4 hp0 (.tup [.str "text",.str "line",.str "cut"])
  have s1:=za4 hl (.lst [])
  have s2:=za4 hl2 (.lst [.ref l])
  exact q l2 _ (s0.trans (s1.trans s2)) ⟨[l],za0,.cons (s2 _ _ za0) .nil,(s0.trans s1).free hl2,fun b hb=>by rw[List.mem_singleton.mp hb];exact s0.free hl⟩
 |nest k p1=>
  obtain⟨a1,hP,hP1⟩:=hP
  have hd':p1.deep+1≤n:=hd
  obtain⟨n,rfl⟩:∃n',n=n'+1:=⟨n - 1,by omega⟩
  have hw':p1.size+1≤100000:=hw
  refine⟨_,rfl,r,_,_,_,rfl,rfl,SqT.of hP,rfl,rfl,_,rfl,zc3 (by decide +kernel) ?_⟩
  refine⟨_,rfl,r,_,_,_,rfl,rfl,SqT.of hP,rfl,rfl,_,rfl,zc3 (by decide +kernel) ?_⟩
  refine⟨_,rfl,r,_,_,_,rfl,rfl,SqT.of hP,rfl,(by show 3≤sizeLine;decide),fun p0 hp0=>⟨p0,_,rfl,.inr (SqT.of za0),rfl,rfl,_,rfl,zc3 (by decide +kernel) ?_⟩⟩
  have s0:=za4 hp0 (.tup [.str "text",.str "line",.str "cut"])
  refine⟨_,rfl,_,rfl,r,_,_,_,rfl,rfl,SqT.of (s0 _ _ hP),rfl,a1,p1,rfl,hP1.mono (.of s0),by omega,hz,by omega,fun rr H1 s1 R1=>?_⟩
  obtain⟨as,e,v,n1,m1⟩:=R1
  exact q rr H1 (s0.trans s1) ⟨as,e,v,s0.free n1,fun b hb=>s0.free (m1 b hb)⟩
 |align p1=>
  obtain⟨a1,hP,hP1⟩:=hP
  have hd':p1.deep+1≤n:=hd
  obtain⟨n,rfl⟩:∃n',n=n'+1:=⟨n - 1,by omega⟩
  have hw':p1.size+1≤100000:=hw
  refine⟨_,rfl,r,_,_,_,rfl,rfl,SqT.of hP,rfl,rfl,_,rfl,zc3 (by decide +kernel) ?_⟩
  refine⟨_,rfl,r,_,_,_,rfl,rfl,SqT.of hP,rfl,rfl,_,rfl,zc3 (by decide +kernel) ?_⟩
  refine⟨_,rfl,r,_,_,_,rfl,rfl,SqT.of hP,rfl,(by show 3≤sizeLine;decide),fun p0 hp0=>⟨p0,_,rfl,.inr (SqT.of za0),rfl,rfl,_,rfl,zc3 (by decide +kernel) ?_⟩⟩
  have s0:=za4 hp0 (.tup [.str "text",.str "line",.str "cut"])
  refine⟨_,rfl,_,rfl,r,_,_,_,rfl,rfl,SqT.of (s0 _ _ hP),rfl,a1,p1,rfl,hP1.mono (.of s0),by omega,hz,by omega,fun rr H1 s1 R1=>?_⟩
  obtain⟨as,e,v,n1,m1⟩:=R1
  exact q rr H1 (s0.trans s1) ⟨as,e,v,s0.free n1,fun b hb=>s0.free (m1 b hb)⟩
 |flat p1=>
  obtain⟨a1,hP,hP1⟩:=hP
  have hd':p1.deep+1≤n:=hd
  obtain⟨n,rfl⟩:∃n',n=n'+1:=⟨n - 1,by omega⟩
  have hw':p1.size+1≤100000:=hw
  refine⟨_,rfl,r,_,_,_,rfl,rfl,SqT.of hP,rfl,rfl,_,rfl,zc3 (by decide +kernel) ?_⟩
  refine⟨_,rfl,r,_,_,_,rfl,rfl,SqT.of hP,rfl,rfl,_,rfl,zc3 (by decide +kernel) ?_⟩
  refine⟨_,rfl,r,_,_,_,rfl,rfl,SqT.of hP,rfl,(by show 3≤sizeLine;decide),fun p0 hp0=>⟨p0,_,rfl,.inr (SqT.of za0),rfl,rfl,_,rfl,zc3 (by decide +kernel) ?_⟩⟩
  have s0:=za4 hp0 (.tup [.str "text",.str "line",.str "cut"])
  refine⟨_,rfl,_,rfl,r,_,_,_,rfl,rfl,SqT.of (s0 _ _ hP),rfl,a1,p1,rfl,hP1.mono (.of s0),by omega,hz,by omega,fun rr H1 s1 R1=>?_⟩
  obtain⟨as,e,v,n1,m1⟩:=R1
  exact q rr H1 (s0.trans s1) ⟨as,e,v,s0.free n1,fun b hb=>s0.free (m1 b hb)⟩
end
end Pq
namespace Pq
open PySem L2
abbrev yg9:List Str:=["_law_plan_here","_law_bits","_law_text_here","_law_margin","_law_flat"]
def spLay:Nat→Sp
 |0=>fun _ _ _ _=>False
 |n+1=>fun vs H Q _=>∃(r b:Addr) (p:Plan) (bits:List Int) (t:List Nat) (m:Nat) (fl:Bool) (t':List Nat) (rest:List Int),vs=[.ref r,.ref b,.str (tx t),.int m,.bl fl]∧PlanAt H p r∧p.deep≤n∧
  H b=some (.lst (bits.map V.int))∧lay p bits t m fl=some (t',rest)∧t'.length≤1000000∧
  ∀(q b':Addr) (H':Hp),Same H H'→H' q=some (.tup [.str (tx t'),.ref b'])→H' b'=some (.lst (rest.map V.int))→Q (.ref q) H'
section
variable {P:Program}{w:World}{K:PySem.W.Frag}{mg:Str→Option Value}{base:Heap}{f g:Addr}{fd gd:FuncData}
theorem scLay:FnScope ["_law_plan_here","_law_bits","_law_text_here","_law_margin","_law_flat","_law_word","_law_first"] yg9 (za7 sLay):=⟨rfl,rfl,rfl,by decide +kernel,rfl,by decide +kernel,by decide +kernel⟩
theorem ok_lay{n:Nat}(F:Fun K "_law_lay" "_law_lay" sLay f fd)(mF:mg "_law_lay"=some (.ref f))(bF:Binds K fd yg9 [])(ml:mg "len"=none)(mi:mg "int"=none)
  (G:FnOk P w K mg base CX0 n f fd yg9 (spLay n)):FnOk P w K mg base CX0 (n+1) f fd yg9 (spLay (n+1)):=by
 refine F.okq scLay (fun vs H Q E h=>?_) (fun cdv A outer s H vs Q E hr h=>?_)
 ·obtain⟨r,b,p,bits,t,m,fl,t',rest,rfl,_⟩:=h
  rfl
 obtain⟨r,b,p,bits,t,m,fl,t',rest,rfl,hP,hd,hb,hlay,hz,q⟩:=h
 have nd:=scLay.nd
 refine⟨_,za1 (zb2 (i:=5) nd rfl (Or.inl rfl) (zb1 zb3 (pvq 0) za5 (fun _ _=>rfl)))<|
  za1 (zd0 (zb6 zh1 (pvq 5) zb5 (zd7 _)) (za6 (zb4 (zc5 (zk2 (zc4 zt7 (pvq 2) (zb1 zb3 (pvq 0) za5 (fun _ _=>rfl))) (za2 (pvq 1) za3))))) zb9)<|
  za1 (zd0 (zb6 zs1 (pvq 5) (zc5 (zb0 zb5 (zb0 zb5 za3))) rfl) (za6 (zb4 (zc5 (zk2 (zc4 zt7 (pvq 2)
   (zk1 (zp8 (pvq 4)) (zb1 zf8 (zd4 (zb0 zb5 (zb0 zb5 za3))) (yj2 call_int1 rfl mi PyProof.Rows.boot_int (zw9 (zw7 zh1 (pvq 5) zb5 (zd7 _)) za3)) (fun _ _=>rfl)) (zc4 zt7 zb5 (zc4 op_mulS zb5 (pvq 3)))))
   (za2 (pvq 1) za3))))) zb9)<|
  za1 (zd0 (zb6 zh1 (pvq 5) zb5 (zd7 _)) (za1 (zb2 (i:=6) nd rfl (Or.inl rfl) (zc0 G hr rfl mF F.kp bF .nil zc7 (zb7 (zb1 zb3 (pvq 0) za5 (fun _ _=>rfl)) (za2 (pvq 1) (za2 (pvq 2) (za2 (pvq 3) (za2 (pvq 4) za3)))))))
   (za6 (zb4 (zc0 G hr rfl mF F.kp bF .nil zc7 (zb7 (zb1 zb3 (pvq 0) za5 (fun _ _=>rfl)) (zb7 (zb1 zb3 (pvq 6) za5 (fun _ _=>rfl)) (zb7 (zb1 zb3 (pvq 6) za5 (fun _ _=>rfl)) (za2 (pvq 3) (za2 (pvq 4) za3))))))))) zb9)<|
  za1 (zd0 (zb6 zh1 (pvq 5) zb5 (zd7 _)) (za6 (zb4 (zc0 G hr rfl mF F.kp bF .nil zc7 (zb7 (zb1 zb3 (pvq 0) (zc4 zk6 za5 (zb1 zf8 (pvq 1) za5 (fun _ _=>rfl))) (fun _ _=>rfl))
   (zb7 (yd9 sl_list (pvq 1) (ym4 za5) po_none) (za2 (pvq 2) (za2 (pvq 3) (za2 (pvq 4) za3)))))))) zb9)<|
  za1 (zd0 (zb6 zh1 (pvq 5) zb5 (zd7 _)) (za6 (zb2 (i:=3) nd rfl (Or.inl rfl) (zc4 zk6 (pvq 3) (zb1 zb3 (pvq 0) za5 (fun _ _=>rfl))))) zb9)<|
  za1 (zd0 (zb6 zh1 (pvq 5) zb5 (zd7 _)) (za6 (zb2 (i:=3) nd rfl (Or.inl rfl) (zc4 yj5 (zc4 yj5 (zd9 zn5 rfl ml PySem.boot_len (za2 (pvq 2) za3))
   (zh8 PySem.F.plainAttrs_str PySem.F.slot_str_rfind PySem.F.type_str_rfind mt_rfind (pvq 2) (zb0 zb5 za3))) za5))) zb9)<|
  za6 (zb4 (zc0 G hr rfl mF F.kp bF .nil zc7 (zb7 (zb1 zb3 (pvq 0) (yd8 yc6 za5) (fun _ _=>rfl)) (za2 (pvq 1) (za2 (pvq 2) (za2 (pvq 3)
   (zw9 (pe_orq (pvq 4) (ym6 (zw7 zh1 (pvq 5) zb5 (zd7 _)))) za3))))))),?_⟩
 have z6:∀k:Nat,k≤2000000→k≤sizeLine:=fun k hk=>zd2 (by omega)
 have hext:=zq9 p bits rest t t' m fl hlay
 cases p with
 |text x=>
  have hP:H r=some (.tup [.str "text",.str (tx x)]):=hP
  have hlay:some (t++x,bits)=some (t',rest):=hlay
  cases hlay
  refine⟨_,rfl,r,_,_,_,rfl,rfl,SqT.of hP,rfl,?_⟩
  refine⟨_,rfl,rfl,_,rfl,zd1 (by decide +kernel) ?_⟩
  refine⟨_,rfl,_,rfl,r,_,_,_,rfl,rfl,SqT.of hP,rfl,_,_,rfl,rfl,z6 _ (by rw[zf1,zf1];rw[List.length_append] at hz;omega),_,rfl,(by show 2≤sizeLine;decide),fun qa hqa=>?_⟩
  exact q qa b _ (za4 hqa _) (by rw[za0,zn9]) ((za4 hqa _) _ _ hb)
 |line=>
  have hP:H r=some (.tup [.str "line"]):=hP
  have hlay:some (brk [32] t m fl,bits)=some (t',rest):=hlay
  cases hlay
  refine⟨_,rfl,r,_,_,_,rfl,rfl,SqT.of hP,rfl,?_⟩
  refine⟨_,rfl,rfl,_,rfl,zc3 (by decide +kernel) ?_⟩
  refine⟨_,rfl,(by show 2≤sizeLine;decide),fun p1 hp1=>⟨p1,_,rfl,.inr (SqT.of za0),rfl,rfl,_,rfl,zd1 (by decide +kernel) ?_⟩⟩
  have s1:=za4 hp1 (.tup [.str "line",.str "cut"])
  refine⟨_,rfl,_,rfl,_,rfl,?_⟩
  cases fl with
  |true=>
   refine zu0 ?_
   refine⟨(by show 2≤sizeLine;decide),fun l hl=>?_⟩
   refine⟨_,rfl,rfl,.inr ⟨_,rfl,l,_,_,.str " ",rfl,rfl,SqL.of za0,(by decide +kernel),?_⟩⟩
   refine⟨_,_,rfl,rfl,z6 _ (by rw[bl_tx,zf1,zf1];simp[brk] at hz;simp;omega),_,rfl,(by show 2≤sizeLine;decide),fun qa hqa=>?_⟩
   exact q qa b _ (s1.trans ((za4 hl _).trans (za4 hqa _))) (by rw[za0,bl_tx,zn9];rfl) ((za4 hqa _) _ _ ((za4 hl _) _ _ (s1 _ _ hb)))
  |false=>
   refine yb2 ?_
   have hz':t.length+1+m≤1000000:=by simp[brk] at hz;omega
   refine⟨_,rfl,_,_,rfl,rfl,(by omega),(by omega),(by rw[bl_tx,zf1];simp;omega),?_⟩
   rw[bl_tx,mul_one 32 m (by omega)]
   refine⟨_,_,rfl,rfl,z6 _ (by rw[yh0,zf1,zf1];simp;omega),_,_,rfl,rfl,z6 _ (by rw[yh0,zn9,zf1,zf1];simp;omega),_,rfl,(by show 2≤sizeLine;decide),fun qa hqa=>?_⟩
   refine q qa b _ (s1.trans (za4 hqa _)) ?_ ((za4 hqa _) _ _ (s1 _ _ hb))
   rw[za0,yh0,zn9,zn9]
   simp[brk]
 |cut=>
  have hP:H r=some (.tup [.str "cut"]):=hP
  have hlay:some (brk [] t m fl,bits)=some (t',rest):=hlay
  cases hlay
  refine⟨_,rfl,r,_,_,_,rfl,rfl,SqT.of hP,rfl,?_⟩
  refine⟨_,rfl,rfl,_,rfl,zc3 (by decide +kernel) ?_⟩
  refine⟨_,rfl,(by show 2≤sizeLine;decide),fun p1 hp1=>⟨p1,_,rfl,.inr (SqT.of za0),rfl,rfl,_,rfl,zd1 (by decide +kernel) ?_⟩⟩
  have s1:=za4 hp1 (.tup [.str "line",.str "cut"])
  refine⟨_,rfl,_,rfl,_,rfl,?_⟩
  cases fl with
  |true=>
   refine zu0 ?_
   refine⟨(by show 2≤sizeLine;decide),fun l hl=>?_⟩
   refine⟨_,rfl,rfl,.inr ⟨_,rfl,l,_,_,.str "",rfl,rfl,SqL.of za0,(by decide +kernel),?_⟩⟩
   refine⟨_,_,rfl,rfl,z6 _ (by rw[em_tx,zf1,zf1];simp[brk] at hz;simp;omega),_,rfl,(by show 2≤sizeLine;decide),fun qa hqa=>?_⟩
   exact q qa b _ (s1.trans ((za4 hl _).trans (za4 hqa _))) (by rw[za0,em_tx,zn9];rfl) ((za4 hqa _) _ _ ((za4 hl _) _ _ (s1 _ _ hb)))
  |false=>
   refine yb2 ?_
   have hz':t.length+1+m≤1000000:=by simp[brk] at hz;omega
   refine⟨_,rfl,_,_,rfl,rfl,(by omega),(by omega),(by rw[bl_tx,zf1];simp;omega),?_⟩
   rw[bl_tx,mul_one 32 m (by omega)]
   refine⟨_,_,rfl,rfl,z6 _ (by rw[yh0,zf1,zf1];simp;omega),_,_,rfl,rfl,z6 _ (by rw[yh0,zn9,zf1,zf1];simp;omega),_,rfl,(by show 2≤sizeLine;decide),fun qa hqa=>?_⟩
   refine q qa b _ (s1.trans (za4 hqa _)) ?_ ((za4 hqa _) _ _ (s1 _ _ hb))
   rw[za0,yh0,zn9,zn9]
   simp[brk]
 |beside p1 p2=>
  obtain⟨a1,a2,hP,hP1,hP2⟩:=hP
  have hd':max p1.deep p2.deep+1≤n:=hd
  obtain⟨n,rfl⟩:∃n',n=n'+1:=⟨n - 1,by omega⟩
  have hlay:(lay p1 bits t m fl).bind (fun r=>lay p2 r.2 r.1 m fl)=some (t',rest):=hlay
  cases e1:lay p1 bits t m fl with
  |none=>rw[e1] at hlay;cases hlay
  |some x=>
   obtain⟨t1,b1⟩:=x
   rw[e1] at hlay
   have hlay:lay p2 b1 t1 m fl=some (t',rest):=hlay
   have hz1:=zq9 p2 b1 rest t1 t' m fl hlay
   refine⟨_,rfl,r,_,_,_,rfl,rfl,SqT.of hP,rfl,?_⟩
   refine⟨_,rfl,rfl,_,rfl,zc3 (by decide +kernel) ?_⟩
   refine⟨_,rfl,(by show 2≤sizeLine;decide),fun p0 hp0=>⟨p0,_,rfl,.inr (SqT.of za0),rfl,rfl,_,rfl,zc3 (by decide +kernel) ?_⟩⟩
   have s0:=za4 hp0 (.tup [.str "line",.str "cut"])
   refine⟨_,rfl,rfl,_,rfl,zd1 (by decide +kernel) ?_⟩
   refine⟨_,rfl,r,_,_,_,rfl,rfl,SqT.of (s0 _ _ hP),rfl,_,rfl,_,rfl,_,rfl,_,rfl,a1,b,p1,bits,t,m,fl,t1,b1,rfl,hP1.mono (.of s0),by omega,s0 _ _ hb,e1,by omega,fun q1 b' H1 s1 g1 g2=>?_⟩
   refine⟨_,rfl,r,_,_,_,rfl,rfl,SqT.of (s1 _ _ (s0 _ _ hP)),rfl,_,rfl,q1,_,_,_,rfl,rfl,SqT.of g1,rfl,_,rfl,q1,_,_,_,rfl,rfl,SqT.of g1,rfl,_,rfl,_,rfl,a2,b',p2,b1,t1,m,fl,t',rest,rfl,hP2.mono (.of (s0.trans s1)),by omega,g2,hlay,hz,fun q2 b2 H2 s2 g3 g4=>?_⟩
   exact q q2 b2 H2 (s0.trans (s1.trans s2)) g3 g4
 |choice p1 p2=>
  obtain⟨a1,a2,hP,hP1,hP2⟩:=hP
  have hd':max p1.deep p2.deep+1≤n:=hd
  obtain⟨n,rfl⟩:∃n',n=n'+1:=⟨n - 1,by omega⟩
  cases bits with
  |nil=>cases hlay
  |cons x bits=>
   have hlay:(if x=0 then lay p1 bits t m fl else if x=1 then lay p2 bits t m fl else none)=some (t',rest):=hlay
   refine⟨_,rfl,r,_,_,_,rfl,rfl,SqT.of hP,rfl,?_⟩
   refine⟨_,rfl,rfl,_,rfl,zc3 (by decide +kernel) ?_⟩
   refine⟨_,rfl,(by show 2≤sizeLine;decide),fun p0 hp0=>⟨p0,_,rfl,.inr (SqT.of za0),rfl,rfl,_,rfl,zc3 (by decide +kernel) ?_⟩⟩
   have s0:=za4 hp0 (.tup [.str "line",.str "cut"])
   refine⟨_,rfl,rfl,_,rfl,zc3 (by decide +kernel) ?_⟩
   refine⟨_,rfl,rfl,_,rfl,zd1 (by decide +kernel) ?_⟩
   have cut1:cutV ((x::bits).map V.int) (some 1) none=bits.map V.int:=cut_tail _ _
   have hx:x=0∧lay p1 bits t m fl=some (t',rest)∨x=1∧lay p2 bits t m fl=some (t',rest):=by
    by_cases c0:x=0
    ·rw[if_pos c0] at hlay;exact .inl ⟨c0,hlay⟩
    ·rw[if_neg c0] at hlay
     by_cases c1:x=1
     ·rw[if_pos c1] at hlay;exact .inr ⟨c1,hlay⟩
     ·rw[if_neg c1] at hlay;cases hlay
   refine⟨_,rfl,_,rfl,b,_,_,.int x,rfl,rfl,SqL.of (s0 _ _ hb),zh0 (j:=0) rfl,_,_,rfl,rfl,?_⟩
   rcases hx with⟨rfl,hl⟩|⟨rfl,hl⟩
   ·refine⟨r,_,_,.ref a1,rfl,rfl,SqT.of (s0 _ _ hP),rfl,_,rfl,_,rfl,b,_,rfl,SqL.of (s0 _ _ hb),fun c hc=>?_⟩
    rw[cut1]
    have s1:=za4 hc (.lst (bits.map V.int))
    refine⟨_,rfl,_,rfl,_,rfl,a1,c,p1,bits,t,m,fl,t',rest,rfl,hP1.mono (.of (s0.trans s1)),by omega,za0,hl,hz,fun q2 b2 H2 s2 g3 g4=>?_⟩
    exact q q2 b2 H2 (s0.trans (s1.trans s2)) g3 g4
   ·refine⟨r,_,_,.ref a2,rfl,rfl,SqT.of (s0 _ _ hP),rfl,_,rfl,_,rfl,b,_,rfl,SqL.of (s0 _ _ hb),fun c hc=>?_⟩
    rw[cut1]
    have s1:=za4 hc (.lst (bits.map V.int))
    refine⟨_,rfl,_,rfl,_,rfl,a2,c,p2,bits,t,m,fl,t',rest,rfl,hP2.mono (.of (s0.trans s1)),by omega,za0,hl,hz,fun q2 b2 H2 s2 g3 g4=>?_⟩
    exact q q2 b2 H2 (s0.trans (s1.trans s2)) g3 g4
 |nest k p1=>
  obtain⟨a1,hP,hP1⟩:=hP
  have hd':p1.deep+1≤n:=hd
  obtain⟨n,rfl⟩:∃n',n=n'+1:=⟨n - 1,by omega⟩
  have hlay:lay p1 bits t (m+k) fl=some (t',rest):=hlay
  refine⟨_,rfl,r,_,_,_,rfl,rfl,SqT.of hP,rfl,?_⟩
  refine⟨_,rfl,rfl,_,rfl,zc3 (by decide +kernel) ?_⟩
  refine⟨_,rfl,(by show 2≤sizeLine;decide),fun p0 hp0=>⟨p0,_,rfl,.inr (SqT.of za0),rfl,rfl,_,rfl,zc3 (by decide +kernel) ?_⟩⟩
  have s0:=za4 hp0 (.tup [.str "line",.str "cut"])
  refine⟨_,rfl,rfl,_,rfl,zc3 (by decide +kernel) ?_⟩
  refine⟨_,rfl,rfl,_,rfl,zc3 (by decide +kernel) ?_⟩
  refine⟨_,rfl,rfl,_,rfl,zd1 (by decide +kernel) ?_⟩
  refine⟨_,rfl,_,rfl,r,_,_,_,rfl,rfl,SqT.of (s0 _ _ hP),rfl,_,_,rfl,rfl,?_⟩
  refine⟨_,rfl,rfl,_,rfl,zc3 (by decide +kernel) ?_⟩
  refine⟨_,rfl,_,rfl,r,_,_,_,rfl,rfl,SqT.of (s0 _ _ hP),rfl,_,rfl,_,rfl,_,rfl,_,rfl,_,rfl,?_⟩
  cases fl with
  |true=>
   refine zu0 ?_
   exact⟨a1,b,p1,bits,t,m+k,true,t',rest,rfl,hP1.mono (.of s0),by omega,s0 _ _ hb,hlay,hz,fun q2 b2 H2 s2 g3 g4=>q q2 b2 H2 (s0.trans s2) g3 g4⟩
  |false=>
   refine yb2 ?_
   refine⟨_,rfl,rfl,?_⟩
   exact⟨a1,b,p1,bits,t,m+k,false,t',rest,(by rw[show decide (V.str "nest"=V.str "flat")=false by decide +kernel];rfl),hP1.mono (.of s0),by omega,s0 _ _ hb,hlay,hz,fun q2 b2 H2 s2 g3 g4=>q q2 b2 H2 (s0.trans s2) g3 g4⟩
 |align p1=>
  obtain⟨a1,hP,hP1⟩:=hP
  have hd':p1.deep+1≤n:=hd
  obtain⟨n,rfl⟩:∃n',n=n'+1:=⟨n - 1,by omega⟩
  have hlay:lay p1 bits t (col t) fl=some (t',rest):=hlay
  have ec:((tx t).length:Int) - Txt.rfind (tx t) (Str.ofString "\n") - 1=(col t:Int):=by rw[yh0];exact rfind_col t
  refine⟨_,rfl,r,_,_,_,rfl,rfl,SqT.of hP,rfl,?_⟩
  refine⟨_,rfl,rfl,_,rfl,zc3 (by decide +kernel) ?_⟩
  refine⟨_,rfl,(by show 2≤sizeLine;decide),fun p0 hp0=>⟨p0,_,rfl,.inr (SqT.of za0),rfl,rfl,_,rfl,zc3 (by decide +kernel) ?_⟩⟩
  have s0:=za4 hp0 (.tup [.str "line",.str "cut"])
  refine⟨_,rfl,rfl,_,rfl,zc3 (by decide +kernel) ?_⟩
  refine⟨_,rfl,rfl,_,rfl,zc3 (by decide +kernel) ?_⟩
  refine⟨_,rfl,rfl,_,rfl,zc3 (by decide +kernel) ?_⟩
  refine⟨_,rfl,rfl,_,rfl,zd1 (by decide +kernel) ?_⟩
  refine⟨_,rfl,_,rfl,z6 _ (by rw[zf1];omega),_,rfl,rfl,_,_,rfl,rfl,_,_,rfl,rfl,_,_,rfl,rfl,?_⟩
  refine⟨_,rfl,_,rfl,r,_,_,_,rfl,rfl,SqT.of (s0 _ _ hP),rfl,_,rfl,_,rfl,_,rfl,_,rfl,_,rfl,?_⟩
  cases fl with
  |true=>
   refine zu0 ?_
   exact⟨a1,b,p1,bits,t,col t,true,t',rest,(by rw[←ec];rfl),hP1.mono (.of s0),by omega,s0 _ _ hb,hlay,hz,fun q2 b2 H2 s2 g3 g4=>q q2 b2 H2 (s0.trans s2) g3 g4⟩
  |false=>
   refine yb2 ?_
   refine⟨_,rfl,rfl,?_⟩
   exact⟨a1,b,p1,bits,t,col t,false,t',rest,(by rw[show decide (V.str "align"=V.str "flat")=false by decide +kernel,←ec];rfl),hP1.mono (.of s0),by omega,s0 _ _ hb,hlay,hz,fun q2 b2 H2 s2 g3 g4=>q q2 b2 H2 (s0.trans s2) g3 g4⟩
 |flat p1=>
  obtain⟨a1,hP,hP1⟩:=hP
  have hd':p1.deep+1≤n:=hd
  obtain⟨n,rfl⟩:∃n',n=n'+1:=⟨n - 1,by omega⟩
  have hlay:lay p1 bits t m true=some (t',rest):=hlay
  refine⟨_,rfl,r,_,_,_,rfl,rfl,SqT.of hP,rfl,?_⟩
  refine⟨_,rfl,rfl,_,rfl,zc3 (by decide +kernel) ?_⟩
  refine⟨_,rfl,(by show 2≤sizeLine;decide),fun p0 hp0=>⟨p0,_,rfl,.inr (SqT.of za0),rfl,rfl,_,rfl,zc3 (by decide +kernel) ?_⟩⟩
  have s0:=za4 hp0 (.tup [.str "line",.str "cut"])
  refine⟨_,rfl,rfl,_,rfl,zc3 (by decide +kernel) ?_⟩
  refine⟨_,rfl,rfl,_,rfl,zc3 (by decide +kernel) ?_⟩
  refine⟨_,rfl,rfl,_,rfl,zc3 (by decide +kernel) ?_⟩
  refine⟨_,rfl,rfl,_,rfl,zc3 (by decide +kernel) ?_⟩
  refine⟨_,rfl,_,rfl,r,_,_,_,rfl,rfl,SqT.of (s0 _ _ hP),rfl,_,rfl,_,rfl,_,rfl,_,rfl,_,rfl,?_⟩
  cases fl with
  |true=>
   refine zu0 ?_
   exact⟨a1,b,p1,bits,t,m,true,t',rest,rfl,hP1.mono (.of s0),by omega,s0 _ _ hb,hlay,hz,fun q2 b2 H2 s2 g3 g4=>q q2 b2 H2 (s0.trans s2) g3 g4⟩
  |false=>
   refine yb2 ?_
   refine⟨_,rfl,rfl,?_⟩
   exact⟨a1,b,p1,bits,t,m,true,t',rest,(by rw[show decide (V.str "flat"=V.str "flat")=true by decide +kernel];rfl),hP1.mono (.of s0),by omega,s0 _ _ hb,hlay,hz,fun q2 b2 H2 s2 g3 g4=>q q2 b2 H2 (s0.trans s2) g3 g4⟩
end
end Pq
namespace Pq
open PySem L2
def trB:Nat→Nat×Nat
 |0=>(1,0)
 |d+1=>(max (2*(trB d).1) ((trB d).1+(trB d).2*((trB d).1 - 1)),max (trB d).1 (max (1+(trB d).2) (max (2*(trB d).2) ((trB d).2*(trB d).2))))
def cwB:Nat→Nat|0=>1|d+1=>3+cwB d+zd8 d*cwB d
structure Bd(d:Nat)(a:Nd):Prop where
 noc:∀w c m,(zk7 w a c m).length≤zd8 d
 cw_:∀w c m,cw w a c m≤cwB d
 sp:∀w c m,(zi7 w a c m).length≤cwB d
 sz:zg7 a+1≤2 ^ (d+1)
 sm:SmN a
 tot_:tot a≤(trB d).1
 nr:ze9 a=none→(ze3 a).2.length≤(trB d).2
theorem trB_pos:∀d,1≤(trB d).1
 |0=>Nat.le_refl _
 |d+1=>by have:=trB_pos d;show 1≤max _ _;omega
theorem Bd.text(n:Nat):Bd 0 (.text n):=⟨fun _ _ _=>Nat.le_refl _,fun _ _ _=>Nat.le_refl _,fun _ _ _=>Nat.le_refl _,Nat.le_refl _,trivial,Nat.le_refl 1,fun h=>by cases h⟩
theorem Bd.brk:Bd 0 .brk:=⟨fun _ _ _=>Nat.le_refl _,fun _ _ _=>Nat.le_refl _,fun _ _ _=>Nat.le_refl _,Nat.le_refl _,trivial,by decide,fun _=>by decide⟩
theorem zo2(d:Nat):zd8 d≤zd8 (d+1)∧zd8 d*zd8 d≤zd8 (d+1)∧zd8 d+zd8 d≤zd8 (d+1):=by
 have s:=zo3 d
 have s1:zd8 d*1≤zd8 d*zd8 d:=Nat.mul_le_mul_left _ s
 show zd8 d≤2*(zd8 d*zd8 d)∧zd8 d*zd8 d≤2*(zd8 d*zd8 d)∧zd8 d+zd8 d≤2*(zd8 d*zd8 d)
 omega
theorem yg1(d:Nat):3+cwB d+cwB d≤cwB (d+1):=by
 have s:=zo3 d
 have:1*cwB d≤zd8 d*cwB d:=Nat.mul_le_mul_right _ s
 show 3+cwB d+cwB d≤3+cwB d+zd8 d*cwB d
 omega
theorem yc7(d:Nat):(trB d).1≤(trB (d+1)).1∧2*(trB d).1≤(trB (d+1)).1∧(trB d).1+(trB d).2*((trB d).1 - 1)≤(trB (d+1)).1∧(trB d).1≤(trB (d+1)).2∧1+(trB d).2≤(trB (d+1)).2∧2*(trB d).2≤(trB (d+1)).2∧(trB d).2*(trB d).2≤(trB (d+1)).2:=by
 show _≤max _ _∧_≤max _ _∧_≤max _ _∧_≤max _ (max _ (max _ _))∧_≤max _ (max _ (max _ _))∧_≤max _ (max _ (max _ _))∧_≤max _ (max _ (max _ _))
 omega
theorem zw6(d:Nat):2 ^ (d+1)+2 ^ (d+1)=2 ^ (d+1+1):=by rw[Nat.pow_succ 2 (d+1)];omega
theorem Bd.up{d:Nat}{a:Nd}(h:Bd d a):Bd (d+1) a:=by
 have s:=zo2 d
 have c:=yg1 d
 have t:=yc7 d
 have p:=zw6 d
 refine⟨fun w c m=>Nat.le_trans (h.noc w c m) s.1,fun w c m=>Nat.le_trans (h.cw_ w c m) (by omega),fun w c m=>Nat.le_trans (h.sp w c m) (by omega),by have:=h.sz;omega,h.sm,Nat.le_trans h.tot_ t.1,fun hn=>Nat.le_trans (h.nr hn) (by omega)⟩
theorem Bd.nest{d:Nat}{a:Nd}(h:Bd d a)(k:Nat):Bd (d+1) (.nest k a):=by
 have s:=zo2 d
 have c:=yg1 d
 have t:=yc7 d
 have p:=zw6 d
 have ts:tot (.nest k a)=tot a:=by
  unfold tot
  show((ze3 a).1.map _).length+(ze3 a).2.length=_
  rw[List.length_map]
 refine⟨fun w c m=>Nat.le_trans (h.noc w c (m+k)) s.1,fun w c m=>Nat.le_trans (h.cw_ w c (m+k)) (by omega),fun w c m=>Nat.le_trans (h.sp w c (m+k)) (by omega),by have:=h.sz;show zg7 a+1+1≤_;omega,h.sm,by rw[ts];exact Nat.le_trans h.tot_ t.1,fun _=>?_⟩
 have:=h.tot_
 unfold tot at this
 show(ze3 a).2.length≤_
 omega
theorem Bd.align{d:Nat}{a:Nd}(h:Bd d a):Bd (d+1) (.align a):=by
 have s:=zo2 d
 have c:=yg1 d
 have t:=yc7 d
 have p:=zw6 d
 have h0:=h.tot_
 unfold tot at h0
 have hl:((ze3 a).1++(ze3 a).2).length=(ze3 a).1.length+(ze3 a).2.length:=List.length_append
 refine⟨fun w c m=>Nat.le_trans (h.noc w c c) s.1,fun w c m=>Nat.le_trans (h.cw_ w c c) (by omega),fun w c m=>Nat.le_trans (h.sp w c c) (by omega),by have:=h.sz;show zg7 a+1+1≤_;omega,h.sm,?_,fun _=>?_⟩
 ·unfold tot
  show 0+((ze3 a).1++(ze3 a).2).length≤_
  omega
 ·show((ze3 a).1++(ze3 a).2).length≤_
  omega
theorem ya7{α:Type}(f:α→Nat)(n:Nat):∀l:List α,(∀x∈l,f x≤n)→(l.map f).sum≤l.length*n
 |[],_=>Nat.zero_le _
 |x::l,h=>by
  have h1:=h x List.mem_cons_self
  have h2:=ya7 f n l fun y hy=>h y (List.mem_cons_of_mem _ hy)
  rw[List.map_cons,List.sum_cons,List.length_cons,Nat.add_mul];omega
theorem zv1{α β:Type}(f:α→List β)(n:Nat):∀l:List α,(∀x∈l,(f x).length≤n)→(l.flatMap f).length≤l.length*n
 |[],_=>Nat.zero_le _
 |x::l,h=>by
  have h1:=h x List.mem_cons_self
  have h2:=zv1 f n l fun y hy=>h y (List.mem_cons_of_mem _ hy)
  rw[List.flatMap_cons,List.length_append,List.length_cons,Nat.add_mul];omega
theorem Bd.choice{d:Nat}{a b:Nd}(ha:Bd d a)(hb:Bd d b)(h63:(trB (d+1)).1≤63):Bd (d+1) (.choice a b):=by
 have s:=zo2 d
 have cs:=yg1 d
 have t:=yc7 d
 have p:=zw6 d
 have tp:=trB_pos d
 have tt:tot (.choice a b)≤(trB (d+1)).1:=by
  cases hn:ze9 (.choice a b) with
  |some l=>unfold tot;rw[zg8 _ hn];show 0+1≤_;omega
  |none=>
   have e0:ze3 (.choice a b)=((ze3 a).1++(ze3 b).1,(ze3 a).2++(ze3 b).2):=by
    have hn:zs7 min (ze9 a) (ze9 b)=none:=hn
    conv=>lhs;unfold ze3
    rw[hn]
   have h1:=ha.tot_
   have h2:=hb.tot_
   unfold tot at*
   rw[e0]
   simp only[List.length_append]
   omega
 refine⟨fun w c m=>?_,fun w c m=>?_,fun w c m=>?_,?_,⟨ha.sm,hb.sm,Nat.le_trans tt h63⟩,tt,fun hn=>?_⟩
 ·show((zk7 w a c m).map (fun o=>((0:Int)::o.1,o.2))++(zk7 w b c m).map (fun o=>((1:Int)::o.1,o.2))).length≤_
  rw[List.length_append,List.length_map,List.length_map]
  have:=ha.noc w c m
  have:=hb.noc w c m
  omega
 ·have:=ha.cw_ w c m
  have:=hb.cw_ w c m
  show 2+cw w a c m+cw w b c m≤_
  omega
 ·have:=ha.sp w c m
  have:=hb.sp w c m
  show(zi7 w a c m++zi7 w b c m).length+1≤_
  rw[List.length_append];omega
 ·have:=ha.sz
  have:=hb.sz
  show zg7 a+zg7 b+1+1≤_
  omega
 ·have e0:ze3 (.choice a b)=((ze3 a).1++(ze3 b).1,(ze3 a).2++(ze3 b).2):=by
   have hn:zs7 min (ze9 a) (ze9 b)=none:=hn
   conv=>lhs;unfold ze3
   rw[hn]
  rw[e0]
  simp only[List.length_append]
  cases xa:ze9 a with
  |none=>
   have h1:=ha.nr xa
   cases xb:ze9 b with
   |none=>have h2:=hb.nr xb;omega
   |some lb=>rw[zg8 b xb];show _+1≤_;omega
  |some la=>
   cases xb:ze9 b with
   |none=>have h2:=hb.nr xb;rw[zg8 a xa];show 1+_≤_;omega
   |some lb=>
    have hn:zs7 min (ze9 a) (ze9 b)=none:=hn
    rw[xa,xb] at hn;cases hn
theorem Bd.beside{d:Nat}{a b:Nd}(ha:Bd d a)(hb:Bd d b)(h63:(trB (d+1)).1≤63):Bd (d+1) (.beside a b):=by
 have s:=zo2 d
 have cs:=yg1 d
 have t:=yc7 d
 have p:=zw6 d
 have tp:=trB_pos d
 have tt:tot (.beside a b)≤(trB (d+1)).1:=by
  rw[←yh7]
  have h1:=ha.tot_
  have h2:=hb.tot_
  cases xb:ze9 b with
  |some lb=>rw[zg8 b xb];show 0+1*tot a≤_;omega
  |none=>
   have h3:=hb.nr xb
   have m1:(ze3 b).2.length*tot a≤(ze3 b).2.length*(trB d).1:=Nat.mul_le_mul_left _ h1
   have m2:(ze3 b).2.length*((trB d).1 - 1)≤(trB d).2*((trB d).1 - 1):=Nat.mul_le_mul_right _ h3
   have m3:(ze3 b).2.length*(trB d).1=(ze3 b).2.length*((trB d).1 - 1)+(ze3 b).2.length:=by
    obtain⟨q,hq⟩:∃q,(trB d).1=q+1:=⟨(trB d).1 - 1,by omega⟩
    rw[hq,Nat.add_sub_cancel,Nat.mul_add,Nat.mul_one]
   unfold tot at h2
   omega
 refine⟨fun w c m=>?_,fun w c m=>?_,fun w c m=>?_,?_,⟨ha.sm,hb.sm,Nat.le_trans tt h63⟩,tt,fun hn=>?_⟩
 ·have h1:=ha.noc w c m
  have h2:=zv1 (fun o:Run=>(zk7 w b o.2.1 m).map fun q=>((o.1++q.1,q.2.1,o.2.2+q.2.2):Run)) (zd8 d) (zk7 w a c m) fun o _=>by rw[List.length_map];exact hb.noc w _ m
  have h3:(zk7 w a c m).length*zd8 d≤zd8 d*zd8 d:=Nat.mul_le_mul_right _ h1
  exact Nat.le_trans h2 (Nat.le_trans h3 s.2.1)
 ·have h1:=ha.noc w c m
  have h2:=ya7 (fun o:Run=>cw w b o.2.1 m) (cwB d) (zk7 w a c m) fun o _=>hb.cw_ w _ m
  have h3:(zk7 w a c m).length*cwB d≤zd8 d*cwB d:=Nat.mul_le_mul_right _ h1
  have h4:=ha.cw_ w c m
  show 3+cw w a c m+((zk7 w a c m).map fun o=>cw w b o.2.1 m).sum≤3+cwB d+zd8 d*cwB d
  omega
 ·have h1:=ha.noc w c m
  have h2:=zv1 (fun o:Run=>zi7 w b o.2.1 m) (cwB d) (zk7 w a c m) fun o _=>hb.sp w _ m
  have h3:(zk7 w a c m).length*cwB d≤zd8 d*cwB d:=Nat.mul_le_mul_right _ h1
  have h4:=ha.sp w c m
  show(zi7 w a c m++(zk7 w a c m).flatMap fun o=>zi7 w b o.2.1 m).length+1≤3+cwB d+zd8 d*cwB d
  rw[List.length_append];omega
 ·have:=ha.sz
  have:=hb.sz
  show zg7 a+zg7 b+1+1≤_
  omega
 ·have e0:ze3 (.beside a b)=((ze3 b).1++(ze3 a).1.flatMap (fun x=>(ze3 b).2.map (x + ·)),(ze3 a).2.flatMap fun x=>(ze3 b).2.map (x + ·)):=by
   have hn:zs7 (· + ·) (ze9 a) (ze9 b)=none:=hn
   conv=>lhs;unfold ze3
   rw[hn]
  rw[e0]
  show((ze3 a).2.flatMap fun x=>(ze3 b).2.map (x + ·)).length≤_
  rw[zf0 _ (ze3 b).2.length (ze3 a).2 (fun _ _=>by rw[List.length_map])]
  cases xa:ze9 a with
  |none=>
   have h1:=ha.nr xa
   cases xb:ze9 b with
   |none=>have h2:=hb.nr xb;have:=Nat.mul_le_mul h1 h2;omega
   |some lb=>rw[zg8 b xb];show _*1≤_;omega
  |some la=>
   cases xb:ze9 b with
   |none=>have h2:=hb.nr xb;rw[zg8 a xa];show 1*_≤_;omega
   |some lb=>
    have hn:zs7 (· + ·) (ze9 a) (ze9 b)=none:=hn
    rw[xa,xb] at hn;cases hn
theorem leaf_bd(ns:List Int)(k:Int)(f:Bool):Bd 0 (nOf (zi6 ns k) f):=by
 unfold zi6
 split
 ·exact Bd.text _
 ·split
  ·exact Bd.text _
  ·split
   ·cases f
    ·exact Bd.brk
    ·exact Bd.text 1
   ·cases f
    ·exact Bd.brk
    ·exact Bd.text 0
theorem Bd.ups{a:Nd}(h:Bd 0 a):∀d,Bd d a
 |0=>h
 |d+1=>(Bd.ups h d).up
theorem trB_le:∀d,d≤4→(trB d).1≤63
 |0,_=>by decide
 |1,_=>by decide
 |2,_=>by decide
 |3,_=>by decide
 |4,_=>by decide
theorem plan_bd(ns:List Int):∀(d:Nat) (k:Int) (f:Bool),d≤4→Bd d (nOf (zf3 ns d k) f)
 |0,k,f,_=>leaf_bd ns k f
 |d+1,k,f,hd=>by
  have h63:=trB_le (d+1) hd
  have h1:=fun f=>plan_bd ns d (2*k+1) f (by omega)
  have h2:=fun f=>plan_bd ns d (2*k+2) f (by omega)
  unfold zf3
  repeat' split
  ·exact(leaf_bd ns k f).ups (d+1)
  ·show Bd (d+1) (if _ then _ else _)
   split
   ·exact(h1 f).up
   ·exact(h1 f).nest _
  ·show Bd (d+1) (if _ then _ else _)
   split
   ·exact(h1 f).up
   ·exact(h1 f).align
  ·exact(h1 true).up
  ·exact(h1 true).choice (h1 f) h63
  ·exact(h1 f).beside (h2 f) h63
  ·exact(h1 f).choice (h2 f) h63
end Pq
namespace Pq
open PySem L2
theorem comp_map {K : PySem.W.Frag} {a D : Addr} {τ : St} {te : TE} {H1 : Hp} {Q : Hp → Prop} {xs : List V} (F : V → V) (ha : SqL K H1 a xs) (hz : xs.length ≤ 1000000) (hD : H1 D = none)
    (step : ∀ (x : V) (H : Hp) (R : VK), x ∈ xs → Same H1 H → (∀ H5, Same H H5 → R (F x) H5) → te (some x :: τ) H R) (k : ∀ H', Same H1 H' → H' D = some (.lst (xs.map F)) → Q H') :
    ∃ W : Nat → Nat → Hp → List V → Prop, (∃ m, W 0 m (upd H1 D (.lst [])) []) ∧ ∀ i m H' ys, W i m H' ys →
      ((Itl K a).stop i H' ∧ Q H') ∨ ((Itl K a).go i H' ∧ ∃ N : Hp → List V → Prop, (∀ H' ys', N H' ys' → ∃ m', m' < m ∧ W (i + 1) m' H' ys') ∧ ∀ x H2, (Itl K a).yld i H' x H2 → tNoIf (some x :: τ) H2 fun b H4 =>
        if b = true then te (some x :: τ) H4 fun y H5 => H5 D = some (.lst ys) ∧ ys.length < sizeLine ∧ N (upd H5 D (.lst (ys ++ [y]))) (ys ++ [y])
        else N H4 ys) := by
  refine zx4 (xs := xs) (fun i H ys => Same H1 H ∧ H D = some (.lst ys) ∧ ys = (xs.take i).map F) ⟨za4 hD _, za0, by simp⟩ (fun i H ys _ g => g.1.seq ha) (fun i x H ys hx g => ?_) (fun H ys g => ?_)
  · obtain ⟨g1, g2, g3⟩ := g
    have hi : i < xs.length := (List.getElem?_eq_some_iff.mp hx).1
    refine step x H _ (List.mem_of_getElem? hx) g1 fun H5 s5 => ⟨s5 _ _ g2, Nat.lt_of_lt_of_le (show ys.length < 1000001 by rw [g3, List.length_map, List.length_take]; omega) (zd2 (by omega)), zj0 (g1.trans s5) hD _, za0, ?_⟩
    rw [ze8 hx, List.map_append, ← g3]; rfl
  · obtain ⟨g1, g2, g3⟩ := g
    rw [List.take_length] at g3
    exact k H g1 (by rw [← g3]; exact g2)
def spWhole:Sp:=fun vs H Q _=>∃i:Int,vs=[.int i]∧Q (.bl true) H
def spWidth(K:PySem.W.Frag):Sp:=fun vs H Q _=>∃(a:Addr) (ns:List Int) (k:Int),vs=[.ref a,.int k]∧SqL K H a (ns.map V.int)∧ns.length≤63∧∀(wd:Nat) (H':Hp),Same H H'→Q (.int (wd:Nat)) H'
def spCostL:Sp:=fun vs H Q _=>∃(t:List Nat) (wd:Nat),vs=[.str (tx t),.int (wd:Nat)]∧t.length≤900000∧∀(c:Addr) (H':Hp),Same H H'→H' c=some (.tup [.int ((byd wd t:Nat):Int),.int ((lns t:Nat):Int)])→Q (.ref c) H'
def Row4At(wd:Nat)(p:Plan)(H:Hp)(r:Addr)(s:List Int):Prop:=∃b,H r=some (.tup [.int ((byd wd (zl9 p s):Nat):Int),.int ((lns (zl9 p s):Nat):Int),.ref b,.str (tx (zl9 p s))])∧H b=some (.lst (s.map V.int))
theorem Row4At.mono{wd:Nat}{p:Plan}{H H':Hp}(h:Same H H'){r:Addr}{s:List Int}:Row4At wd p H r s→Row4At wd p H' r s:=fun⟨b,e,q⟩=>⟨b,h _ _ e,h _ _ q⟩
def Row4B(wd:Nat)(p:Plan)(D:Addr)(H:Hp)(r:Addr)(s:List Int):Prop:=∃b,b≠D∧H r=some (.tup [.int ((byd wd (zl9 p s):Nat):Int),.int ((lns (zl9 p s):Nat):Int),.ref b,.str (tx (zl9 p s))])∧H b=some (.lst (s.map V.int))
def spAllL:Sp:=fun vs H Q _=>∃(r:Addr) (p:Plan) (wd:Nat),vs=[.ref r,.int (wd:Nat)]∧PlanAt H p r∧p.deep≤8∧p.sides.length≤100000∧p.size≤100000∧p.leaves*(p.grow+1)≤400000∧
 ∀(l:Addr) (rs:List Addr) (H':Hp),Same H H'→H' l=some (.lst (rs.map V.ref))→Paired (Row4At wd p H') rs p.sides→Q (.ref l) H'
def spPrinted:Sp:=fun vs H Q _=>∃(r:Addr) (p:Plan) (w:Nat),vs=[.ref r,.int (w:Nat)]∧PlanAt H p r∧p.Lay∧p.Flat∧p.deep≤60∧p.size≤600∧p.size*(p.grow+1)≤400000∧p.grow≤100000∧NdFit w (nOf p false)∧(∀s∈p.sides,lns (zl9 p s)<SB)∧
 ∀(ss:List Int) (k:Nat) (t:List Nat) (H':Hp),Same H H'→Best (zl7 w [(nOf p false,0)] 0) ss k→lay p ss [] 0 false=some (t,[])→Q (.str (tx t)) H'
theorem side_text{p:Plan}{s:List Int}(h:s∈p.sides)(hz:p.leaves*(p.grow+1)≤400000):lay p s [] 0 false=some (zl9 p s,[])∧(zl9 p s).length≤400000:=by
 obtain⟨t,ht⟩:=(fits_iff p s [] 0 false).mp h
 have:=(zl8 p s [] [] t 0 false ht).2
 rw[zz8 ht]
 refine⟨ht,?_⟩
 have e:max (col []) 0+p.grow+1=p.grow+1:=by show max 0 0+_+_=_;omega
 rw[e] at this
 simp at this
 omega
section
variable {P:Program}{w:World}{K:PySem.W.Frag}{mg:Str→Option Value}{base:Heap}{f g:Addr}{fd gd:FuncData}
theorem scWhole:FnScope ["_law_found"] ["_law_found"] (za7 yi4):=⟨rfl,rfl,rfl,by decide +kernel,rfl,by decide +kernel,by decide +kernel⟩
theorem ok_whole(F:Fun K "_law_whole" "_law_whole" yi4 f fd)(mI:mg "isinstance"=none)(mi:mg "int"=none)(mb:mg "bool"=none)(iB:PySem.W.kitOne K (.type "int") (.type "bool")=some false):FnOk P w K mg base CX0 1 f fd ["_law_found"] spWhole:=by
 refine F.okq scWhole (fun vs H Q E h=>?_) (fun cdv A outer s H vs Q E hr h=>?_)
 ·obtain⟨i,rfl,_⟩:=h
  rfl
 obtain⟨i,rfl,q⟩:=h
 refine⟨_,za6 (zb4 (pe_andq (zd9 zx6 rfl mI PyProof.Rows.boot_isinstance (za2 (pvq 0) (za2 (zw8 (v:=.ty "int") rfl mi PyProof.Rows.boot_int rfl) za3)))
  (ym6 (pe_notq (zd9 zx6 rfl mI PyProof.Rows.boot_isinstance (za2 (pvq 0) (za2 (zw8 (v:=.ty "bool") rfl mb PyProof.Rows.boot_bool rfl) za3))))))),?_⟩
 refine⟨_,rfl,_,_,_,_,_,rfl,.of (.int i),rfl,yc1,_,rfl,zu0 ?_⟩
 exact⟨_,rfl,_,_,_,_,_,rfl,.of (.int i),rfl,iB,_,rfl,q⟩
theorem scWidth:FnScope ["_law_script","_law_k","_law_number"] ["_law_script","_law_k"] (za7 yi3):=⟨rfl,rfl,rfl,by decide +kernel,rfl,by decide +kernel,by decide +kernel⟩
theorem ok_width{fm:Addr}{md:FuncData}(F:Fun K "_law_width" "_law_width" yi3 f fd)(GM:FnOk P w K mg base CX0 2 fm md ["_law_script","_law_k"] (spMix K))(bM:Binds K md ["_law_script","_law_k"] [])(kM:PySem.W.keepIn K (.ref fm)=true)(mM:mg "_law_mix"=some (.ref fm)):
  FnOk P w K mg base CX0 3 f fd ["_law_script","_law_k"] (spWidth K):=by
 refine F.okq scWidth (fun vs H Q E h=>?_) (fun cdv A outer s H vs Q E hr h=>?_)
 ·obtain⟨a,ns,k,rfl,_⟩:=h
  rfl
 obtain⟨a,ns,k,rfl,hS,h63,q⟩:=h
 refine⟨_,za1 (zb2 (i:=2) scWidth.nd rfl (Or.inl rfl) (zc0 GM hr rfl mM kM bM .nil zc7 (za2 (pvq 0) (za2 (pvq 1) za3))))
  (za6 (zb4 (zb1 zf8 (zd4 (zb0 za5 (zb0 za5 (zb0 za5 (zb0 za5 (zb0 za5 (zb0 za5 (zk2 (zc4 zo8 (zc4 zu7 (pvq 2) za5) za5) za3)))))))) (zc4 zo8 (pvq 2) za5) (fun _ _=>rfl)))),?_⟩
 refine⟨_,rfl,_,rfl,a,ns,k,rfl,hS,h63,?_⟩
 generalize mix ns k=m
 refine⟨_,rfl,_,_,rfl,rfl,⟨by decide,by decide⟩,_,_,rfl,rfl,(by show(0:Int)<60;decide),(by show 7≤sizeLine;decide),fun l hl=>?_⟩
 have hb0:0≤m % 7:=Int.emod_nonneg _ (by decide)
 have hb1:m % 7<(([0,1,3,8,20,200,m / 7 % 60]:List Int).length:Int):=Int.emod_lt_of_pos _ (by decide)
 refine⟨_,rfl,_,_,rfl,rfl,(by show(0:Int)<7;decide),l,_,_,_,rfl,rfl,SqL.of za0,at_ints (ns:=[0,1,3,8,20,200,m / 7 % 60]) hb0 hb1,?_⟩
 have hnn:∀i:Nat,0≤([0,1,3,8,20,200,m / 7 % 60]:List Int).getD i 0:=fun i=>by
  have h6:0≤m / 7 % 60:=Int.emod_nonneg _ (by decide)
  match i with
  |0=>show(0:Int)≤0;decide
  |1=>show(0:Int)≤1;decide
  |2=>show(0:Int)≤3;decide
  |3=>show(0:Int)≤8;decide
  |4=>show(0:Int)≤20;decide
  |5=>show(0:Int)≤200;decide
  |6=>exact h6
  |n+7=>show(0:Int)≤0;decide
 have:=hnn (m % 7).toNat
 generalize ([0,1,3,8,20,200,m / 7 % 60]:List Int).getD (m % 7).toNat 0=v at this
 obtain⟨wn,rfl⟩:=Int.eq_ofNat_of_zero_le this
 exact q wn _ (za4 hl _)
theorem scCostL:FnScope ["_law_text_here","_law_width_here","_law_over","_law_row"] ["_law_text_here","_law_width_here"] (za7 sCost):=⟨rfl,rfl,rfl,by decide +kernel,rfl,by decide +kernel,by decide +kernel⟩
theorem ok_costL(F:Fun K "_law_cost" "_law_cost" sCost f fd)(mm:mg "max"=none)(ml:mg "len"=none):FnOk P w K mg base CX0 1 f fd ["_law_text_here","_law_width_here"] spCostL:=by
 refine F.okq scCostL (fun vs H Q E h=>?_) (fun cdv A outer s H vs Q E hr h=>?_)
 ·obtain⟨t,wd,rfl,_⟩:=h
  rfl
 obtain⟨t,wd,rfl,hz,q⟩:=h
 have nd:=scCostL.nd
 refine⟨_,za1 (zb2 (i:=2) nd rfl (Or.inl rfl) za5)<|
  za1 (zp9 PassesOwn.never rfl (zk0 (zh8 PySem.F.plainAttrs_str PySem.F.slot_str_split PySem.F.type_str_split mt_split (pvq 0) (zb0 zb5 za3))) (zn8 (i:=3) nd rfl (Or.inl rfl))
   (za6 (zb2 (i:=2) nd rfl (Or.inl rfl) (zc4 zk6 (pvq 2) (zd9 (call_max2 rfl) rfl mm PyProof.Rows.boot_max (zb0 za5 (zk2 (zc4 yj5 (zd9 zn5 rfl ml PySem.boot_len (za2 (pvq 3) za3)) (pvq 1)) za3)))))))<|
  za6 (zb4 (zc5 (za2 (pvq 2) (ze4 (zh8 PySem.F.plainAttrs_str PySem.F.slot_str_count PySem.F.type_str_count mt_count (pvq 0) (zb0 zb5 za3)) za3)))),?_⟩
 have hrl:=yi9 t
 have e:(Txt.split (tx t) (Str.ofString "\n")).map V.str=(zc9 t).map (fun r=>V.str (tx r)):=by rw[yh0,yh8,List.map_map];rfl
 have hsl:(tx t).length+2≤sizeLine:=zd2 (by rw[zf1];omega)
 refine⟨_,rfl,rfl,_,_,rfl,rfl,(by decide +kernel),hsl,fun l hl=>?_⟩
 rw[e]
 have s1:=za4 hl (.lst ((zc9 t).map fun r=>V.str (tx r)))
 have el:(upd H l (.lst ((zc9 t).map fun r=>V.str (tx r)))) l=some (.lst ((zc9 t).map fun r=>V.str (tx r))):=za0
 refine⟨l,rfl,⟨_,SqL.of el⟩,yc2 (K:=K) (a:=l) (xs:=(zc9 t).map fun r=>V.str (tx r)) (fun i σ H2=>H2=upd H l (.lst ((zc9 t).map fun r=>V.str (tx r)))∧∃v3:Option V,σ=[some (.str (tx t)),some (.int (wd:Nat)),some (.int (((((zc9 t).take i).map fun r=>r.length - wd).sum:Nat):Int)),v3])
  ⟨rfl,_,rfl⟩ (fun i σ H2 _ ⟨e2,_⟩=>by rw[e2];exact SqL.of el) ?_ ?_⟩
 ·rintro i x σ H2 hx ⟨rfl,v3,rfl⟩
  obtain⟨r,hr',rfl⟩:∃r,(zc9 t)[i]? = some r∧x=.str (tx r):=by
   rw[List.getElem?_map] at hx
   cases z:(zc9 t)[i]? with
   |none=>rw[z] at hx;cases hx
   |some r=>rw[z] at hx;cases hx;exact⟨r,rfl,rfl⟩
  have hrr:=rowsOf_le t r (List.mem_of_getElem? hr')
  refine⟨_,rfl,_,rfl,_,rfl,zd2 (by rw[zf1];omega),_,rfl,_,_,rfl,rfl,_,_,rfl,_,_,rfl,rfl,rfl,some (.str (tx r)),?_⟩
  have e5:(((((zc9 t).take i).map fun r=>r.length - wd).sum:Nat):Int)+(if((tx r).length:Int) - ((wd:Nat):Int) > 0 then((tx r).length:Int) - ((wd:Nat):Int) else 0)=(((((zc9 t).take (i+1)).map fun r=>r.length - wd).sum:Nat):Int):=by
   rw[ze8 hr',List.map_append,List.sum_append,zf1]
   simp only[List.map_cons,List.map_nil,List.sum_cons,List.sum_nil]
   split<;>omega
  rw[←e5];rfl
 ·rintro σ H2 ⟨rfl,v3,rfl⟩
  rw[List.length_map,List.take_length]
  refine⟨_,rfl,_,rfl,rfl,_,_,rfl,rfl,(by show 2≤sizeLine;decide),fun c hc=>?_⟩
  refine q c _ (s1.trans (za4 hc _)) ?_
  rw[za0,yh0,count_rows]
  have:=lns_ge t
  have e6:(((zc9 t).length:Nat):Int) - 1=((lns t:Nat):Int):=by unfold lns;omega
  rw[e6];rfl
theorem scAllL:FnScope ["_law_plan_here","_law_width_here","_law_found","_law_row","_law_text_here"] ["_law_plan_here","_law_width_here"] (za7 sAll):=⟨rfl,rfl,rfl,by decide +kernel,rfl,by decide +kernel,by decide +kernel⟩
theorem ok_allL{fS fY fC:Addr}{sD yD cD:FuncData}(F:Fun K "_law_all" "_law_all" sAll f fd)
  (GS:FnOk P w K mg base CX0 9 fS sD zn7 (yc9 9)) (bS:Binds K sD zn7 []) (kS:PySem.W.keepIn K (.ref fS)=true) (mS:mg "_law_sides"=some (.ref fS))
  (GY:FnOk P w K mg base CX0 9 fY yD yg9 (spLay 9)) (bY:Binds K yD yg9 []) (kY:PySem.W.keepIn K (.ref fY)=true) (mY:mg "_law_lay"=some (.ref fY))
  (GC:FnOk P w K mg base CX0 1 fC cD ["_law_text_here","_law_width_here"] spCostL) (bC:Binds K cD ["_law_text_here","_law_width_here"] []) (kC:PySem.W.keepIn K (.ref fC)=true) (mC:mg "_law_cost"=some (.ref fC)):FnOk P w K mg base CX0 10 f fd ["_law_plan_here","_law_width_here"] spAllL:=by
 refine F.okq scAllL (fun vs H Q E h=>?_) (fun cdv A outer s H vs Q E hr h=>?_)
 ·obtain⟨r,p,wd,rfl,_⟩:=h
  rfl
 obtain⟨r,p,wd,rfl,hP,hd,hsl,hsz,hlv,q⟩:=h
 have nd:=scAllL.nd
 have hr1:Room 1 _:=hr.mono (by decide)
 refine⟨_,za1 (zb2 (i:=2) nd rfl (Or.inl rfl) (zd4 za3))<|
  za1 (zp9 PassesOwn.never rfl (zk0 (zc0 GS hr rfl mS kS bS .nil zc7 (za2 (pvq 0) za3))) (zn8 (i:=3) nd rfl (Or.inl rfl))
   (za1 (zb2 (i:=4) nd rfl (Or.inl rfl) (zb1 zb3 (zc0 GY hr rfl mY kY bY .nil zc7 (za2 (pvq 0) (za2 (pvq 3) (zb0 zb5 (zb0 za5 (zb0 yj3 za3)))))) za5 (fun _ _=>rfl)))<|
   za6 (ze1 (zh8 PySem.F.plainAttrs_list PySem.F.slot_list_append PySem.F.type_list_append zg2 (pvq 2) (zk2 (zc4 op_catT (zc0 GC hr1 rfl mC kC bC .nil zc7 (za2 (pvq 4) (za2 (pvq 1) za3))) (zc5 (za2 (pvq 3) (za2 (pvq 4) za3)))) za3)))))<|
  za6 (zb4 (pvq 2)),?_⟩
 refine⟨(by show 0≤sizeLine;decide),fun D hD=>?_⟩
 have s0:=za4 hD (.lst [])
 refine⟨_,rfl,r,p,rfl,hP.mono (.of s0),hd,hsl,hsz,fun rr H1 s1 hN=>?_⟩
 obtain⟨as,hrr,hrows,nrr,nas⟩:=hN
 have nrD:rr≠D:=fun z=>by rw[z,za0] at nrr;cases nrr
 have hD1:H1 D=some (.lst []):=s1 _ _ za0
 have hal:=Paired.length hrows
 refine⟨rr,rfl,⟨_,SqL.of hrr⟩,yc2 (K:=K) (a:=rr) (xs:=as.map V.ref) (fun i σ H2=>∃(v3 v4:Option V) (rs:List Addr),σ=[some (.ref r),some (.int (wd:Nat)),some (.ref D),v3,v4]∧H2 D=some (.lst (rs.map V.ref))∧Paired (Row4B wd p D H2) rs (p.sides.take i)∧But1 D H1 H2)
  ⟨_,_,[],rfl,hD1,by rw[List.take_zero];exact .nil,But1.refl⟩ (fun i σ H2 _ ⟨_,_,_,_,_,_,b⟩=>SqL.of (b _ _ hrr nrD)) ?_ ?_⟩
 ·rintro i x σ H2 hx ⟨v3,v4,rs,rfl,hd2,hrs,b2⟩
  obtain⟨b,ss,rfl,hss,hb⟩:=hrows.get hx
  have hmem:=List.mem_of_getElem? hss
  have hi:i<p.sides.length:=(List.getElem?_eq_some_iff.mp hss).1
  have nbD:b≠D:=fun z=>by
   have:=nas b (by have:=List.mem_of_getElem? hx;obtain⟨c,hc,e⟩:=List.mem_map.mp this;cases e;exact hc)
   rw[z,za0] at this;cases this
  have hb2:=b2 _ _ hb nbD
  have t2:Tups H H2:=fun c xs e=>b2 _ _ ((s0.trans s1) _ _ e) (za8 e hD)
  obtain⟨ht,htl⟩:=side_text hmem hlv
  refine⟨_,rfl,_,rfl,r,b,p,ss,[],0,false,zl9 p ss,[],(by rw[em_tx];rfl),hP.mono t2,hd,hb2,ht,by omega,fun q' b' H3 s3 e3 e3'=>?_⟩
  refine⟨q',_,_,.str (tx (zl9 p ss)),rfl,rfl,SqT.of e3,rfl,?_⟩
  refine⟨_,rfl,.inl ⟨rfl,_,SqL.of (s3 _ _ hd2)⟩,_,rfl,_,rfl,zl9 p ss,wd,rfl,by omega,fun c H4 s4 e4=>?_⟩
  refine⟨_,rfl,_,rfl,(by show 2≤sizeLine;decide),fun u hu=>?_⟩
  have s5:=za4 hu (.tup [.ref b,.str (tx (zl9 p ss))])
  refine⟨c,u,_,_,rfl,rfl,SqT.of (s5 _ _ e4),SqT.of za0,by simp,(by show 2+2≤sizeLine;decide),(fun z=>by cases z),fun _ v hv=>?_⟩
  have s6:=za4 hv (.tup ([.int ((byd wd (zl9 p ss):Nat):Int),.int ((lns (zl9 p ss):Nat):Int)]++[.ref b,.str (tx (zl9 p ss))]))
  have s26:Same H2 _:=s3.trans (s4.trans (s5.trans s6))
  have hd6:=s26 _ _ hd2
  have hb6:=s26 _ _ hb2
  have hv6:(upd (upd H4 u (.tup [.ref b,.str (tx (zl9 p ss))])) v (.tup ([.int ((byd wd (zl9 p ss):Nat):Int),.int ((lns (zl9 p ss):Nat):Int)]++[.ref b,.str (tx (zl9 p ss))]))) v=some (.tup [.int ((byd wd (zl9 p ss):Nat):Int),.int ((lns (zl9 p ss):Nat):Int),.ref b,.str (tx (zl9 p ss))]):=za0
  generalize upd (upd H4 u (.tup [.ref b,.str (tx (zl9 p ss))])) v (.tup ([.int ((byd wd (zl9 p ss):Nat):Int),.int ((lns (zl9 p ss):Nat):Int)]++[.ref b,.str (tx (zl9 p ss))]))=H6 at s26 hd6 hb6 hv6
  have hrl:=Paired.length hrs
  rw[List.length_take] at hrl
  refine⟨D,_,_,rfl,rfl,hd6,Nat.lt_of_lt_of_le (show(rs.map V.ref).length<1000001 by rw[List.length_map];omega) (zd2 (by omega)),?_⟩
  have nvD:v≠D:=ze5 hv6 hd6 (by intro z;cases z)
  have keep:∀ {a:Addr} {ob:HO},H6 a=some ob→a≠D→(upd H6 D (.lst (rs.map V.ref++[.ref v]))) a=some ob:=fun e h=>by rw[za9 h];exact e
  refine⟨_,_,rs++[v],rfl,by rw[za0,List.map_append];rfl,?_,fun a ob e h=>keep (s26 _ _ (b2 _ _ e h)) h⟩
  rw[ze8 hss]
  exact zd5 (Paired.mapP hrs fun r' s' ⟨bb,q0,q1,q2⟩=>⟨bb,q0,keep (s26 _ _ q1) (ze5 q1 hd2 (by intro z;cases z)),keep (s26 _ _ q2) q0⟩) (.cons ⟨b,nbD,keep hv6 nvD,keep hb6 nbD⟩ .nil)
 ·rintro σ H2 ⟨v3,v4,rs,rfl,hd2,hrs,b2⟩
  have e:(as.map V.ref).length=p.sides.length:=by rw[List.length_map,hal]
  rw[e,List.take_length] at hrs
  exact⟨_,rfl,q D rs H2 (fun c ob eo=>b2 _ _ ((s0.trans s1) _ _ eo) (za8 eo hD)) hd2 (Paired.mapP hrs fun _ _ ⟨bb,_,q1,q2⟩=>⟨bb,q1,q2⟩)⟩
theorem scPr:FnScope ["plan","width"] ["plan","width"] (za7 zt2):=⟨rfl,rfl,rfl,by decide +kernel,rfl,by decide +kernel,by decide +kernel⟩
theorem ok_printed{CB fL fC:Addr}{lD cD:FuncData}(F:Fun K "printed" "printed" zt2 f fd)
  (GL:FnOk P w K mg base (CXe P w) 4 fL lD ["plan","bits"] (spLaid CB)) (bL:Binds K lD ["plan","bits"] []) (kL:PySem.W.keepIn K (.ref fL)=true) (mL:mg "laid"=some (.ref fL))
  (GC:FnOk P w K mg base CX0 10 fC cD ["plan","width"] yl7) (bC:Binds K cD ["plan","width"] []) (kC:PySem.W.keepIn K (.ref fC)=true) (mC:mg "choose"=some (.ref fC)):FnOk P w K mg base CX0 11 f fd ["plan","width"] spPrinted:=by
 refine F.okq scPr (fun vs H Q E h=>?_) (fun cdv A outer s H vs Q E hr h=>?_)
 ·obtain⟨r,p,wd,rfl,_⟩:=h
  rfl
 obtain⟨r,p,wd,rfl,hP,hlay,hflat,hd,hz,hz2,hg,hfit,hln,q⟩:=h
 refine⟨_,za6 (zb4 (zc0 GL (hr.mono (by decide)) rfl mL kL bL .nil pass_no (za2 (pvq 0) (zb7 (zb1 zb3 (zc0 GC hr rfl mC kC bC .nil zc7 (za2 (pvq 0) (za2 (pvq 1) za3))) za5 (fun _ _=>rfl)) za3)))),?_⟩
 refine⟨_,rfl,_,rfl,_,rfl,r,p,wd,rfl,hP,hlay,hd,hz,by omega,hfit,fun t l ss k H1 s1 e1 el hb=>?_⟩
 refine⟨t,_,_,.ref l,rfl,rfl,SqT.of e1,rfl,?_⟩
 obtain⟨tt,i,ht,_⟩:=yg5 hflat hln hb
 exact⟨r,l,p,ss,rfl,hP.mono (.of s1),el,hflat,hz2,by omega,hg,fun t' ht' H2 s2=>q ss k t' H2 (s1.trans s2) hb ht',fun hno=>absurd ht (hno tt)⟩
end
end Pq
namespace L2
open PySem PySem.Spec PyProof.Rows
section
variable {X:Cx}
theorem call_allB(hc:X.calm=true):CallR X (.builtin "all") (fun xs H Q=>∃(a:Addr) (bs:List Bool),xs=[.ref a]∧H a=some (.lst (bs.map V.bl))∧Q (.bl (bs.all id)) H):=by
 intro pins s σ H xs us Q I r h
 obtain⟨a,bs,rfl,ha,q⟩:=h
 obtain⟨u,rfl,ru⟩:=zv6 r
 cases ru
 obtain⟨its,n,rv,e,z⟩:=I.lst ha
 have hil:its.length=bs.length:=by have:=rv.length;rw[List.length_map] at this;exact this.symm
 have hlt:a<s.heap.objs.size:=Heap.lt_size e
 have item:∀(i:Nat) (v:Value),its.toArray[i]? = some v→v=.bool (bs.getD i false):=fun i v hv=>by
  have hv:its[i]? = some v:=by simpa using hv
  have hi:i<bs.length:=by have:=(List.getElem?_eq_some_iff.mp hv).1;omega
  obtain⟨u,hu1,hu2⟩:=Vals.get rv (i:=i) (x:=.bl bs[i]) (by rw[List.getElem?_map,List.getElem?_eq_getElem hi];rfl)
  rw[hv] at hu1
  cases hu1
  rw[List.getD_eq_getElem?_getD,List.getElem?_eq_getElem hi]
  exact hu2
 refine call_all_walk (wpAny_pyIter_list (items:=its.toArray) ⟨_,e,rfl,n,rfl⟩ ?_)
 refine⟨s.heap.objs.size,_,_,_,_,_,fun i=>bs.getD i false,rfl,Walks.list (prog:=X.prog) (w:=X.w) (A:=X.A.in1) (by exact I.ok.hd hc) s.heap.objs.size a (Nat.ne_of_lt hlt) its.toArray,⟨⟨_,Heap.get?_push_size _ rfl,rfl,rfl⟩,⟨_,Heap.get?_push_of_some _ e,rfl,n,rfl⟩⟩,fun i v s' Q' E' hv hq=>?_,fun h' tk k=>?_⟩
 ·rw[item i v hv]
  exact wpAny_truthy_bool hq
 ·have e2:(List.range its.toArray.size).all (fun i=>bs.getD i false)=bs.all id:=by
   rw[List.size_toArray,hil]
   rw[Bool.eq_iff_iff,List.all_eq_true,List.all_eq_true]
   constructor
   ·intro h x hx
    obtain⟨i,hi,rfl⟩:=List.mem_iff_getElem.mp hx
    have:=h i (List.mem_range.mpr hi)
    rw[List.getD_eq_getElem?_getD,List.getElem?_eq_getElem hi] at this
    exact this
   ·intro h i hi
    have hi:=List.mem_range.mp hi
    rw[List.getD_eq_getElem?_getD,List.getElem?_eq_getElem hi]
    exact h _ (List.getElem_mem hi)
  rw[e2]
  exact⟨.bl _,H,I.kept (t':=tk) fun b o eb=>k b o (fun z=>absurd (List.mem_singleton.mp z) (Nat.ne_of_lt (Heap.lt_size eb))) (Heap.get?_push_of_some _ eb),rfl,q⟩
end
end L2
namespace Pq
open PySem L2
section
variable {P:Program}{w:World}{K:PySem.W.Frag}{mg:Str→Option Value}{base:Heap}{f g:Addr}{fd gd:FuncData}
theorem scSign:FnScope ["_law_number","_law_low","_law_high"] ["_law_number"] (za7 sSign):=⟨rfl,rfl,rfl,by decide +kernel,rfl,by decide +kernel,by decide +kernel⟩
theorem signs_tx:(Str.ofString " !\"#$&'()*+,-./0123456789:;<=>?@ABCDEFGHIJKLMNO"++Str.ofString "PQRSTUVWXYZ[\\]^_`abcdefghijklmnopqrstuvwxyz{|}~")=tx signs:=by decide +kernel
theorem ok_sign(F:Fun K "_law_sign" "_law_sign" sSign f fd):FnOk P w K mg base CX0 1 f fd ["_law_number"] spSign:=by
 refine F.okq scSign (fun vs H Q E h=>?_) (fun cdv A outer s H vs Q E hr h=>?_)
 ·obtain⟨n,rfl,_⟩:=h
  rfl
 obtain⟨n,rfl,q⟩:=h
 refine⟨_,za1 (zb2 (i:=1) scSign.nd rfl (Or.inl rfl) zb5) (za1 (zb2 (i:=2) scSign.nd rfl (Or.inl rfl) zb5)
  (za6 (zb4 (zb1 ix_str (zc4 zt7 (pvq 1) (pvq 2)) (zc4 zo8 (pvq 0) za5) (fun _ _=>rfl))))),?_⟩
 have hb:0≤n % 94∧n % 94<94:=⟨Int.emod_nonneg _ (by decide),Int.emod_lt_of_pos _ (by decide)⟩
 refine⟨_,rfl,_,rfl,_,_,rfl,rfl,(by decide +kernel),_,rfl,_,_,rfl,rfl,(by show(0:Int)<94;decide),_,_,sign n,rfl,rfl,(by rw[signs_tx];decide +kernel),?_,q⟩
 rw[signs_tx]
 show atI signs (n % 94)=some (sign n)
 have e:n % 94=(((n % 94).toNat:Nat):Int):=by omega
 rw[e]
 refine zh0 ?_
 have hk:(n % 94).toNat<signs.length:=by show(n % 94).toNat<94;omega
 rw[List.getElem?_eq_getElem hk]
 unfold sign
 rw[List.getD_eq_getElem?_getD,List.getElem?_eq_getElem hk]<;>rfl
theorem scText:FnScope ["_law_script","_law_k","_law_number"] ["_law_script","_law_k"] (za7 sText):=⟨rfl,rfl,rfl,by decide +kernel,rfl,by decide +kernel,by decide +kernel⟩
theorem ok_text{fm fs:Addr}{md sd:FuncData}(F:Fun K "_law_text" "_law_text" sText f fd)(GM:FnOk P w K mg base CX0 2 fm md ["_law_script","_law_k"] (spMix K))(bM:Binds K md ["_law_script","_law_k"] [])(kM:PySem.W.keepIn K (.ref fm)=true)(mM:mg "_law_mix"=some (.ref fm))
  (GS:FnOk P w K mg base CX0 1 fs sd ["_law_number"] spSign) (bS:Binds K sd ["_law_number"] []) (kS:PySem.W.keepIn K (.ref fs)=true) (mS:mg "_law_sign"=some (.ref fs)):FnOk P w K mg base CX0 3 f fd ["_law_script","_law_k"] (spText K):=by
 refine F.okq scText (fun vs H Q E h=>?_) (fun cdv A outer s H vs Q E hr h=>?_)
 ·obtain⟨a,ns,k,rfl,_⟩:=h
  rfl
 obtain⟨a,ns,k,rfl,hS,h63,q⟩:=h
 have hr1:Room 1 _:=hr.mono (by decide)
 refine⟨_,za1 (zb2 (i:=2) scText.nd rfl (Or.inl rfl) (zc0 GM hr rfl mM kM bM .nil zc7 (za2 (pvq 0) (za2 (pvq 1) za3))))
  (za6 (zb4 (zc4 op_mulS (zc0 GS hr1 rfl mS kS bS .nil zc7 (zk2 (zc4 zu7 (pvq 2) za5) za3))
   (zb1 zf8 (zd4 (zb0 za5 (zb0 za5 (zb0 za5 (zb0 za5 (zb0 za5 (zb0 za5 (zb0 za5 (zb0 za5 za3))))))))) (zc4 zo8 (pvq 2) za5) (fun _ _=>rfl))))),?_⟩
 refine⟨_,rfl,_,rfl,a,ns,k,rfl,hS,h63,?_⟩
 have hb:0≤mix ns k % 8∧mix ns k % 8<8:=⟨Int.emod_nonneg _ (by decide),Int.emod_lt_of_pos _ (by decide)⟩
 have hL:=lens_le (mix ns k % 8).toNat
 have hL0:0≤lens.getD (mix ns k % 8).toNat 0:=by
  have all:∀m:Nat,m<8→0≤lens.getD m 0:=by decide
  exact all _ (by omega)
 refine⟨_,rfl,_,_,rfl,rfl,⟨by decide,by decide⟩,_,rfl,(by show 8≤sizeLine;decide),fun p hp=>?_⟩
 refine⟨_,rfl,_,_,rfl,rfl,(by show(0:Int)<8;decide),p,_,_,_,rfl,rfl,SqL.of za0,at_ints (ns:=lens) hb.1 hb.2,?_⟩
 refine⟨_,_,rfl,rfl,hL0,by omega,by rw[zf1];show 1*_≤_;omega,?_⟩
 rw[mul_one _ _ hL0]
 exact q _ (za4 hp _)
end
end Pq
namespace Pq
open PySem L2
section
variable {P:Program}{w:World}{K:PySem.W.Frag}{mg:Str→Option Value}{base:Heap}{f g:Addr}{fd gd:FuncData}
abbrev ya9:List Str:=["_law_script","_law_k","_law_deep"]
theorem scPlan:FnScope ["_law_script","_law_k","_law_deep","_law_number","_law_way","_law_one","_law_other"] ya9 (za7 ym1):=⟨rfl,rfl,rfl,by decide +kernel,rfl,by decide +kernel,by decide +kernel⟩
theorem ye2{n d:Nat}{fm ft:Addr}{md td:FuncData}(hn:3≤n)(F:Fun K "_law_plan" "_law_plan" ym1 f fd)(mF:mg "_law_plan"=some (.ref f))(bF:Binds K fd ya9 [])
  (GM:FnOk P w K mg base CX0 2 fm md ["_law_script","_law_k"] (spMix K)) (bM:Binds K md ["_law_script","_law_k"] []) (kM:PySem.W.keepIn K (.ref fm)=true) (mM:mg "_law_mix"=some (.ref fm))
  (GT:FnOk P w K mg base CX0 3 ft td ["_law_script","_law_k"] (spText K)) (bT:Binds K td ["_law_script","_law_k"] []) (kT:PySem.W.keepIn K (.ref ft)=true) (mT:mg "_law_text"=some (.ref ft))
  (G:FnOk P w K mg base CX0 n f fd ya9 (spPlan K d)):FnOk P w K mg base CX0 (n+1) f fd ya9 (spPlan K (d+1)):=by
 refine F.okq scPlan (fun vs H Q E h=>?_) (fun cdv A outer s H vs Q E hr h=>?_)
 ·obtain⟨a,ns,k,rfl,_⟩:=h
  rfl
 obtain⟨a,ns,k,rfl,hS,h63,q⟩:=h
 have hr2:Room 2 _:=hr.mono (by omega)
 have hr3:Room 3 _:=hr.mono hn
 have nd:=scPlan.nd
 refine⟨_,za1 (zb2 (i:=3) nd rfl (Or.inl rfl) (zc0 GM hr2 rfl mM kM bM .nil zc7 (za2 (pvq 0) (za2 (pvq 1) za3))))<|
  za1 (zb2 (i:=4) nd rfl (Or.inl rfl) (zc4 zo8 (pvq 3) za5))<|
  za1 (zd0 (PW.ptq (zu3 (zb6 zh1 (pvq 2) za5 (zd7 _)) (zr7 (zb6 zh1 (pvq 4) za5 (zd7 _)))))
   (za6 (zb4 (zb1 zf8 (zd4 (zf6 (zc5 (zb0 zb5 (ze4 (zc0 GT hr3 rfl mT kT bT .nil zc7 (za2 (pvq 0) (zk2 (zc4 zk6 (pvq 1) za5) za3))) za3)))
    (zf6 (zc5 (zb0 zb5 (zb0 zb5 za3))) (zf6 (zc5 (zb0 zb5 za3)) (zf6 (zc5 (zb0 zb5 za3)) za3))))) (zc4 zo8 (zc4 zu7 (pvq 3) za5) za5) (fun _ _=>rfl)))) zb9)<|
  za1 (zb2 (i:=5) nd rfl (Or.inl rfl) (zc0 G hr rfl mF F.kp bF .nil zc7 (za2 (pvq 0) (zk2 (zc4 zk6 (zc4 yj6 za5 (pvq 1)) za5) (zk2 (zc4 yj5 (pvq 2) za5) za3)))))<|
  za1 (zd0 (zb6 zh1 (pvq 4) za5 (zd7 _)) (za6 (zb4 (zc5 (zb0 zb5 (zb7 (zb1 zf8 (zd4 (zb0 za5 (zb0 za5 (zb0 za5 (zb0 za5 (zb0 za5 za3)))))) (zc4 zo8 (zc4 zu7 (pvq 3) za5) za5) (fun _ _=>rfl)) (za2 (pvq 5) za3)))))) zb9)<|
  za1 (zd0 (zb6 zh1 (pvq 4) za5 (zd7 _)) (za6 (zb4 (zc5 (zb0 zb5 (za2 (pvq 5) za3))))) zb9)<|
  za1 (zd0 (zb6 zh1 (pvq 4) za5 (zd7 _)) (za6 (zb4 (zc5 (zb0 zb5 (za2 (pvq 5) za3))))) zb9)<|
  za1 (zd0 (zb6 op_lt (pvq 4) za5 (zd7 _)) (za6 (zb4 (zc5 (zb0 zb5 (zf6 (zc5 (zb0 zb5 (za2 (pvq 5) za3))) (za2 (pvq 5) za3)))))) zb9)<|
  za1 (zb2 (i:=6) nd rfl (Or.inl rfl) (zc0 G hr rfl mF F.kp bF .nil zc7 (za2 (pvq 0) (zk2 (zc4 zk6 (zc4 yj6 za5 (pvq 1)) za5) (zk2 (zc4 yj5 (pvq 2) za5) za3)))))<|
  za6 (zb4 (zc5 (zb7 (zb1 zf8 (zd4 (zb0 zb5 (zb0 zb5 za3))) (zc4 zu7 (zc4 zo8 (zc4 zu7 (pvq 3) za5) za5) za5) (fun _ _=>rfl)) (za2 (pvq 5) (za2 (pvq 6) za3))))),?_⟩
 have hm:=mix_nonneg ns k
 refine⟨_,rfl,_,rfl,a,ns,k,rfl,hS,h63,_,rfl,_,_,rfl,rfl,(by show(0:Int)<12;decide),?_⟩
 have w0:0≤mix ns k % 12:=Int.emod_nonneg _ (by decide)
 have w1:mix ns k % 12<12:=Int.emod_lt_of_pos _ (by decide)
 have i0:0≤mix ns k / 12 % 4:=Int.emod_nonneg _ (by decide)
 have i1:mix ns k / 12 % 4<4:=Int.emod_lt_of_pos _ (by decide)
 have j0:0≤mix ns k / 12 % 5:=Int.emod_nonneg _ (by decide)
 have j1:mix ns k / 12 % 5<5:=Int.emod_lt_of_pos _ (by decide)
 have qleaf:zf3 ns d k=zi6 ns k→∀(r:Addr) (H':Hp),Same H H'→PlanAt H' (zi6 ns k) r→Q (.ref r) H':=fun z r H' s1 s2=>q r H' s1 (by rw[z];exact s2)
 refine⟨_,rfl,rfl,_,rfl,?_⟩
 refine ite2 (fun c1 =>?g1) (fun c1 =>?g2)
 case' g2=>refine⟨_,rfl,rfl,_,rfl,?_⟩
 case' g2=>refine ite2 (fun c2 =>?g3) (fun c2 =>?g4)
 case' g3=>
  have z:zf3 ns d k=zi6 ns k:=by
   have c3:mix ns k % 12=0:=V.int.inj (of_decide_eq_true c2)
   cases d with
   |zero=>rfl
   |succ d=>unfold zf3;rw[if_pos c3]
 case' g1=>
  have z:zf3 ns d k=zi6 ns k:=by
   have c3:(d:Int)=0:=V.int.inj (of_decide_eq_true c1)
   have c4:d=0:=by omega
   subst c4
   rfl
  refine zu0 ?_
 case g1|g3=>
  replace qleaf:=qleaf z
  refine⟨_,rfl,_,rfl,_,_,rfl,rfl,a,ns,k+1,rfl,hS,h63,fun H1 s1=>?_⟩
  refine⟨(by show 2≤sizeLine;decide),fun p1 hp1=>⟨(by show 2≤sizeLine;decide),fun p2 hp2=>⟨(by show 1≤sizeLine;decide),fun p3 hp3=>⟨(by show 1≤sizeLine;decide),fun p4 hp4=>⟨(by show 4≤sizeLine;decide),fun l hl=>?_⟩⟩⟩⟩⟩
  refine⟨_,rfl,_,_,rfl,rfl,⟨by decide,by decide⟩,_,_,rfl,rfl,(by show(0:Int)<4;decide),?_⟩
  have t1:=za4 hp1 (.tup [.str "text",.str (tx (zv8 ns (k+1)))])
  have t2:=za4 hp2 (.tup [.str "text",.str "ab"])
  have t3:=za4 hp3 (.tup [.str "line"])
  have t4:=za4 hp4 (.tup [.str "cut"])
  have t5:=za4 hl (.lst [.ref p1,.ref p2,.ref p3,.ref p4])
  have all:=s1.trans (t1.trans (t2.trans (t3.trans (t4.trans t5))))
  have hi:mix ns k / 12 % 4=0∨mix ns k / 12 % 4=1∨mix ns k / 12 % 4=2∨mix ns k / 12 % 4=3:=by omega
  rcases hi with hi|hi|hi|hi
  ·refine⟨l,_,_,.ref p1,rfl,rfl,SqL.of za0,ya5 i0 (by rw[hi];rfl),qleaf p1 _ all ?_⟩
   unfold zi6;rw[if_pos hi]
   exact t5 _ _ (t4 _ _ (t3 _ _ (t2 _ _ za0)))
  ·refine⟨l,_,_,.ref p2,rfl,rfl,SqL.of za0,ya5 i0 (by rw[hi];rfl),qleaf p2 _ all ?_⟩
   unfold zi6;rw[if_neg (by rw[hi];decide),if_pos hi]
   have e:(Str.ofString "ab")=tx [97,98]:=by decide +kernel
   show _=some (HO.tup [.str "text",.str (tx [97,98])])
   rw[←e]
   exact t5 _ _ (t4 _ _ (t3 _ _ za0))
  ·refine⟨l,_,_,.ref p3,rfl,rfl,SqL.of za0,ya5 i0 (by rw[hi];rfl),qleaf p3 _ all ?_⟩
   unfold zi6;rw[if_neg (by rw[hi];decide),if_neg (by rw[hi];decide),if_pos hi]
   exact t5 _ _ (t4 _ _ za0)
  ·refine⟨l,_,_,.ref p4,rfl,rfl,SqL.of za0,ya5 i0 (by rw[hi];rfl),qleaf p4 _ all ?_⟩
   unfold zi6;rw[if_neg (by rw[hi];decide),if_neg (by rw[hi];decide),if_neg (by rw[hi];decide)]
   exact t5 _ _ za0
 case g4=>
  have w2:¬mix ns k % 12=0:=fun e=>c2 (decide_eq_true (congrArg V.int e))
  have d1:¬(d:Int)=0:=fun e=>c1 (decide_eq_true (congrArg V.int e))
  cases d with
  |zero=>exact absurd rfl d1
  |succ d=>
   have ed:((d+1:Nat):Int) - 1=(d:Int):=by omega
   refine⟨_,rfl,_,rfl,_,_,rfl,rfl,.inl ⟨by decide,by decide⟩,_,_,rfl,rfl,_,rfl,_,_,rfl,rfl,a,ns,2*k+1,(by show[V.ref a,V.int (2*k+1),V.int (((d+1:Nat):Int) - 1)]=_;rw[ed]),hS,h63,fun r1 H1 s1 P1=>?_⟩
   refine⟨_,rfl,rfl,_,rfl,?_⟩
   refine ite2 (fun c3=>?_) (fun c3=>?_)
   ·have c3':mix ns k % 12=1:=V.int.inj (of_decide_eq_true c3)
    refine⟨(by show 5≤sizeLine;decide),fun l hl=>⟨_,rfl,_,_,rfl,rfl,⟨by decide,by decide⟩,_,_,rfl,rfl,(by show(0:Int)<5;decide),l,_,_,_,rfl,rfl,SqL.of za0,at_ints (ns:=[0,1,2,7,40]) j0 j1,_,rfl,(by show 3≤sizeLine;decide),fun p hp=>?_⟩⟩
    refine q p _ (s1.trans ((za4 hl _).trans (za4 hp _))) ?_
    unfold zf3;rw[if_neg w2,if_pos c3']
    refine⟨r1,?_,P1.mono (.of ((za4 hl _).trans (za4 hp _)))⟩
    rw[za0]
    have e:∀m:Nat,m<5→(([0,1,2,7,40]:List Int).getD m 0)=((steps5.getD m 0:Nat):Int):=by decide
    rw[e _ (by omega)]
   have c3':¬mix ns k % 12=1:=fun e=>c3 (decide_eq_true (congrArg V.int e))
   refine⟨_,rfl,rfl,_,rfl,?_⟩
   refine ite2 (fun c4=>?_) (fun c4=>?_)
   ·have c4':mix ns k % 12=2:=V.int.inj (of_decide_eq_true c4)
    refine⟨_,rfl,(by show 2≤sizeLine;decide),fun p hp=>?_⟩
    refine q p _ (s1.trans (za4 hp _)) ?_
    unfold zf3;rw[if_neg w2,if_neg c3',if_pos c4']
    exact⟨r1,za0,P1.mono (.of (za4 hp _))⟩
   have c4':¬mix ns k % 12=2:=fun e=>c4 (decide_eq_true (congrArg V.int e))
   refine⟨_,rfl,rfl,_,rfl,?_⟩
   refine ite2 (fun c5=>?_) (fun c5=>?_)
   ·have c5':mix ns k % 12=3:=V.int.inj (of_decide_eq_true c5)
    refine⟨_,rfl,(by show 2≤sizeLine;decide),fun p hp=>?_⟩
    refine q p _ (s1.trans (za4 hp _)) ?_
    unfold zf3;rw[if_neg w2,if_neg c3',if_neg c4',if_pos c5']
    exact⟨r1,za0,P1.mono (.of (za4 hp _))⟩
   have c5':¬mix ns k % 12=3:=fun e=>c5 (decide_eq_true (congrArg V.int e))
   refine⟨_,rfl,_,_,rfl,rfl,_,rfl,?_⟩
   refine ite2 (fun c6=>?_) (fun c6=>?_)
   ·have c6':mix ns k % 12<5:=of_decide_eq_true c6
    refine⟨_,rfl,(by show 2≤sizeLine;decide),fun p hp=>⟨_,rfl,(by show 3≤sizeLine;decide),fun p' hp'=>?_⟩⟩
    refine q p' _ (s1.trans ((za4 hp _).trans (za4 hp' _))) ?_
    unfold zf3;rw[if_neg w2,if_neg c3',if_neg c4',if_neg c5',if_pos c6']
    exact⟨p,r1,za0,⟨r1,(za4 hp' _) _ _ za0,P1.mono (.of ((za4 hp _).trans (za4 hp' _)))⟩,P1.mono (.of ((za4 hp _).trans (za4 hp' _)))⟩
   have c6':¬mix ns k % 12<5:=fun e=>c6 (decide_eq_true e)
   refine⟨_,rfl,_,rfl,_,_,rfl,rfl,.inl ⟨by decide,by decide⟩,_,_,rfl,rfl,_,rfl,_,_,rfl,rfl,a,ns,2*k+2,(by show[V.ref a,V.int (2*k+2),V.int (((d+1:Nat):Int) - 1)]=_;rw[ed]),s1.seq hS,h63,fun r2 H2 s2 P2=>?_⟩
   have hj:0≤mix ns k / 12 % 5 / 4:=Int.ediv_nonneg j0 (by decide)
   have hj':mix ns k / 12 % 5 / 4=0∨mix ns k / 12 % 5 / 4=1:=by omega
   refine⟨(by show 2≤sizeLine;decide),fun l hl=>⟨_,rfl,_,_,rfl,rfl,⟨by decide,by decide⟩,_,_,rfl,rfl,(by show(0:Int)<5;decide),_,_,rfl,rfl,⟨by decide,by decide⟩,?_⟩⟩
   have t1:=za4 hl (.lst [.str "beside",.str "choice"])
   rcases hj' with hj'|hj'
   ·refine⟨l,_,_,.str "beside",rfl,rfl,SqL.of za0,ya5 hj (by rw[hj'];rfl),_,rfl,_,rfl,(by show 3≤sizeLine;decide),fun p hp=>?_⟩
    refine q p _ (s1.trans (s2.trans (t1.trans (za4 hp _)))) ?_
    unfold zf3;rw[if_neg w2,if_neg c3',if_neg c4',if_neg c5',if_neg c6',if_pos hj']
    exact⟨r1,r2,za0,P1.mono (.of (s2.trans (t1.trans (za4 hp _)))),P2.mono (.of (t1.trans (za4 hp _)))⟩
   ·refine⟨l,_,_,.str "choice",rfl,rfl,SqL.of za0,ya5 hj (by rw[hj'];rfl),_,rfl,_,rfl,(by show 3≤sizeLine;decide),fun p hp=>?_⟩
    refine q p _ (s1.trans (s2.trans (t1.trans (za4 hp _)))) ?_
    unfold zf3;rw[if_neg w2,if_neg c3',if_neg c4',if_neg c5',if_neg c6',if_neg (by rw[hj'];decide)]
    exact⟨r1,r2,za0,P1.mono (.of (s2.trans (t1.trans (za4 hp _)))),P2.mono (.of (t1.trans (za4 hp _)))⟩
end
end Pq
namespace Pq
open PySem L2
def spLaw(K:PySem.W.Frag):Sp:=fun vs H Q _=>∃(a:Addr) (ns:List Int),vs=[.ref a]∧SqL K H a (ns.map V.int)∧ns.length≤63∧∀H',Q (.bl true) H'
abbrev nLaw:List Str:=["_law_script","_law_plan_here","_law_width_here","_law_rows","_law_due","_law_found","_law_text_here"]
theorem scLaw:FnScope nLaw ["_law_script"] (za7 sLaw):=⟨rfl,rfl,rfl,by decide +kernel,rfl,by decide +kernel,by decide +kernel⟩
def dat3(x:RowT):PyData:=.tuple [.int x.1,.int x.2.1,.list (x.2.2.map .int)]
theorem eqv_dat3(x y:RowT):PyData.eqv (dat3 x) (dat3 y)=decide (x=y):=by
 obtain⟨a,b,l⟩:=x
 obtain⟨c,d,m⟩:=y
 show(PyData.eqv (.int a) (.int c)&&(PyData.eqv (.int b) (.int d)&&(PyData.eqv (.list (l.map .int)) (.list (m.map .int))&&true)))=_
 rw[eqv_ints]
 have e1:PyData.eqv (.int a) (.int c)=decide (a=c):=by show(a==c)=_;by_cases h:a=c<;>simp[h]
 have e2:PyData.eqv (.int b) (.int d)=decide (b=d):=by show(b==d)=_;by_cases h:b=d<;>simp[h]
 rw[e1,e2]
 by_cases h1:a=c<;>by_cases h2:b=d<;>by_cases h3:l=m<;>simp[h1,h2,h3]
theorem zr4(x:RowT):(dat3 x).canLay0=true:=by
 show(PyData.canLay0 (.int x.1)&&(PyData.canLay0 (.int x.2.1)&&(PyData.canLay0 (.list (x.2.2.map .int))&&true)))=true
 rw[zr3];rfl
theorem yk6(x:RowT):(dat3 x).depth≤2:=by
 have:=ya3 x.2.2
 show max (PyData.depth (.int x.1)) (max (PyData.depth (.int x.2.1)) (max (PyData.depth (.list (x.2.2.map .int))) 0))+1≤2
 have h1:PyData.depth (.int x.1)=0:=rfl
 have h2:PyData.depth (.int x.2.1)=0:=rfl
 omega
theorem _root_.L2.RowAt3.dv{H:Hp}{r:Addr}{x:RowT}:RowAt3 H r x→DV H (.ref r) (dat3 x):=fun⟨l,h1,h2⟩=>.tup h1 (.cons (.int _) (.cons (.int _) (.cons (.lst h2 (yc3 _)) .nil)))
theorem _root_.L2.RowAt3.mono{H H':Hp}(s:Same H H'){r:Addr}{x:RowT}:RowAt3 H r x→RowAt3 H' r x:=fun⟨l,h1,h2⟩=>⟨l,s _ _ h1,s _ _ h2⟩
def RowB3(D:Addr)(H:Hp)(r:Addr)(x:RowT):Prop:=∃l,l≠D∧H r=some (.tup [.int x.1,.int x.2.1,.ref l])∧H l=some (.lst (x.2.2.map V.int))
theorem notw:¬(HT.sIx 4 4 (some 3)=4):=by decide
theorem cut3(a b c d:V):cutV [a,b,c,d] none (some 3)=[a,b,c]:=rfl
section
variable {P:Program}{w:World}{K:PySem.W.Frag}{mg:Str→Option Value}{base:Heap}{f:Addr}{fd:FuncData}
structure LawT(K:PySem.W.Frag)(mg:Str→Option Value):Prop where
 len:mg "len"=none
 min:mg "min"=none
 all:mg "all"=none
 isi:mg "isinstance"=none
 tup:mg "tuple"=none
 lst:mg "list"=none
 str:mg "str"=none
set_option maxHeartbeats 16000000 in
theorem ok_law{fP fW fA fC fH fR:Addr}{pD wD aD cD hD rD:FuncData}(F:Fun K "law" "law" sLaw f fd)(T:LawT K mg)
  (GP:FnOk P w K mg base CX0 8 fP pD ya9 (spPlan K 5)) (bP:Binds K pD ya9 []) (kP:PySem.W.keepIn K (.ref fP)=true) (mP:mg "_law_plan"=some (.ref fP))
  (GW:FnOk P w K mg base CX0 3 fW wD ["_law_script","_law_k"] (spWidth K)) (bW:Binds K wD ["_law_script","_law_k"] []) (kW:PySem.W.keepIn K (.ref fW)=true) (mW:mg "_law_width"=some (.ref fW))
  (GA:FnOk P w K mg base CX0 10 fA aD ["_law_plan_here","_law_width_here"] spAllL) (bA:Binds K aD ["_law_plan_here","_law_width_here"] []) (kA:PySem.W.keepIn K (.ref fA)=true) (mA:mg "_law_all"=some (.ref fA))
  (GC:FnOk P w K mg base CX0 10 fC cD ["plan","width"] yl7) (bC:Binds K cD ["plan","width"] []) (kC:PySem.W.keepIn K (.ref fC)=true) (mC:mg "choose"=some (.ref fC))
  (GH:FnOk P w K mg base CX0 1 fH hD ["_law_found"] spWhole) (bH:Binds K hD ["_law_found"] []) (kH:PySem.W.keepIn K (.ref fH)=true) (mH:mg "_law_whole"=some (.ref fH))
  (GR:FnOk P w K mg base CX0 11 fR rD ["plan","width"] spPrinted) (bR:Binds K rD ["plan","width"] []) (kR:PySem.W.keepIn K (.ref fR)=true) (mR:mg "printed"=some (.ref fR)):
  FnOk P w K mg base CX0 12 f fd ["_law_script"] (spLaw K):=by
 refine F.okq scLaw (fun vs H Q E h=>?_) (fun cdv A outer s H vs Q E hr h=>?_)
 ·obtain⟨a,ns,rfl,_⟩:=h
  rfl
 obtain⟨a,ns,rfl,hS,h63,q⟩:=h
 have nd:=scLaw.nd
 have hu:=hr.units
 have hr8:Room 8 _:=hr.mono (by decide)
 have hr3:Room 3 _:=hr.mono (by decide)
 have hr10:Room 10 _:=hr.mono (by decide)
 have hr1:Room 1 _:=hr.mono (by decide)
 refine⟨_,za1 (zb2 (i:=1) nd rfl (Or.inl rfl) (zc0 GP hr8 rfl mP kP bP .nil zc7 (za2 (pvq 0) (zb0 za5 (zb0 za5 za3)))))<|
  za1 (zb2 (i:=2) nd rfl (Or.inl rfl) (zc0 GW hr3 rfl mW kW bW .nil zc7 (za2 (pvq 0) (zb0 za5 za3))))<|
  za1 (zb2 (i:=3) nd rfl (Or.inl rfl) (zc0 GA hr10 rfl mA kA bA .nil zc7 (za2 (pvq 1) (za2 (pvq 2) za3))))<|
  za1 (zb2 (i:=4) nd rfl (Or.inr rfl) (zd9 (call_min3 rfl hu) rfl T.min PyProof.Rows.boot_min (zw9 (zq2 rfl (zr1 (by decide) rfl rfl (by decide +kernel)) (zk0 (pvq 3)) (fun _ _ _ _=>zt6) (fun _ _ _ _=>yd9 (show SlR _ (rSlT K) from sl_tup) (pvq 0) po_none (ym4 za5))) za3)))<|
  za1 (zb2 (i:=5) nd rfl (Or.inl rfl) (zc0 GC hr10 rfl mC kC bC .nil zc7 (za2 (pvq 1) (za2 (pvq 2) za3))))<|
  za1 (zd0 (PW.ptq (zu3 (yd4 (zp8 (zd9 zx6 rfl T.isi PyProof.Rows.boot_isinstance (za2 (pvq 5) (za2 (zw8 (v:=.ty "tuple") rfl T.tup PyProof.Rows.boot_tuple rfl) za3)))))
   (zu3 (zb6 op_ne (zd9 zj6 rfl T.len PySem.boot_len (za2 (pvq 5) za3)) za5 (zd7 _))
   (zr7 (yd4 (zp8 (zd9 zx6 rfl T.isi PyProof.Rows.boot_isinstance (zb7 (zb1 zb3 (pvq 5) za5 (fun _ _=>rfl)) (za2 (zw8 (v:=.ty "list") rfl T.lst PyProof.Rows.boot_list rfl) za3))))))))) (za6 (zb4 yj3)) zb9)<|
  za1 (zd0 (PW.ptq (zu3 (yd4 (zp8 (zc0 GH hr1 rfl mH kH bH .nil zc7 (zb7 (zb1 zb3 (pvq 5) za5 (fun _ _=>rfl)) za3))))
   (zu3 (yd4 (zp8 (zc0 GH hr1 rfl mH kH bH .nil zc7 (zb7 (zb1 zb3 (pvq 5) za5 (fun _ _=>rfl)) za3))))
   (zr7 (yd4 (zp8 (zd9 (call_allB rfl) rfl T.all (by decide +kernel) (zw9 (zq2 rfl (zr1 (by decide) rfl rfl (by decide +kernel)) (zk0 (zb1 zb3 (pvq 5) za5 (fun _ _=>rfl))) (fun _ _ _ _=>zt6) (fun _ _ _ _=>zc0 GH hr1 rfl mH kH bH .nil zc7 (za2 (pvq 0) za3))) za3)))))))) (za6 (zb4 yj3)) zb9)<|
  za1 (zd0 (zb6 (op_neD hu) (pvq 5) (pvq 4) (zd7 _)) (za6 (zb4 yj3)) zb9)<|
  za1 (zb2 (i:=6) nd rfl (Or.inl rfl) (zc0 GR hr rfl mR kR bR .nil zc7 (za2 (pvq 1) (za2 (pvq 2) za3))))<|
  za6 (zb4 (pe_andq (zd9 zx6 rfl T.isi PyProof.Rows.boot_isinstance (za2 (pvq 6) (za2 (zw8 (v:=.ty "str") rfl T.str PyProof.Rows.boot_str rfl) za3)))
   (ym6 (zw7 zh1 (pvq 6) (zb1 zf8 (zq2 (cl:=[("_law_due",s.heap.objs.size+1)]) (ys:=["_law_due"]) (js:=[4]) rfl (zv4 rfl ⟨rfl,trivial⟩ (by decide) rfl (by decide +kernel) rfl (by decide +kernel) rfl ⟨⟨rfl,.inl rfl,⟨_,rfl⟩,.inl rfl⟩,trivial⟩)
    (zk0 (pvq 3)) (fun _ _ _ _=>pifs_oneq (zb6 (op_eqD hu) (yd9 (show SlR _ (rSlT K) from sl_tup) (pvq 0) po_none (ym4 za5)) (pvq 1) (zd7 _))) (fun _ _ _ _=>zb1 (show IxR _ (rIxT K) from zb3) (pvq 0) za5 (fun _ _=>rfl))) za5 (fun _ _=>rfl)) (zd7 _))))),?_⟩
 obtain⟨pg,pl,ps,pn,pd⟩:=zs0 ns 4 1
 have pf:=zu5 ns 4 1
 have pl':=zz3 ns 4 1
 have pb:=plan_bd ns 4 1 false (by decide)
 have g4:growB 4=1240:=by decide
 have l4:zz7 4=16:=by decide
 have z4:sizeB 4=46:=by decide
 have n4:zd8 4=32768:=by decide
 have c4:cwB 4=21288:=by decide
 rw[g4] at pg;rw[l4] at pl;rw[z4] at ps;rw[n4] at pn
 refine⟨_,rfl,a,ns,1,rfl,hS,h63,fun r H1 s1 P1=>?_⟩
 generalize zf3 ns 4 1=p at pg pl ps pn pd pf pl' pb P1
 have hlv:p.leaves*(p.grow+1)≤400000:=by
  have:=Nat.mul_le_mul pl (Nat.add_le_add_right pg 1)
  omega
 have hsg:p.size*(p.grow+1)≤400000:=by
  have:=Nat.mul_le_mul ps (Nat.add_le_add_right pg 1)
  omega
 have hln:∀s∈p.sides,lns (zl9 p s)<SB:=fun s hs=>by
  obtain⟨_,h2⟩:=side_text hs hlv
  have:=yi9 (zl9 p s)
  have e:SB=1000000000000:=rfl
  unfold lns
  omega
 refine⟨_,rfl,a,ns,60,rfl,s1.seq hS,h63,fun wd H2 s2=>?_⟩
 have e32:2 ^ (4+1)=32:=by decide
 have hfit:NdFit wd (nOf p false):=by
  refine⟨pb.sm,?_,?_,?_⟩
  ·have:=pb.cw_ wd 0 0;omega
  ·have:=pb.sp wd 0 0;omega
  ·have:=pb.sz;omega
 have P2:=P1.mono (.of s2)
 refine⟨_,rfl,_,rfl,r,p,wd,rfl,P2,by omega,by omega,by omega,hlv,fun l rs H3 s3 e3 R3=>?_⟩
 have hrl:=Paired.length R3
 have P3:=P2.mono (.of s3)
 refine⟨_,rfl,l,rfl,⟨_,SqL.of e3⟩,fun D hD=>zx4 (K:=K) (a:=l) (xs:=rs.map V.ref) (fun j H4 ys=>∃qs:List Addr,ys=qs.map V.ref∧H4 D=some (.lst ys)∧Paired (RowB3 D H4) qs ((p.sides.map (row3 wd p)).take j)∧But1 D (upd H3 D (.lst [])) H4)
  ⟨[],rfl,za0,by rw[List.take_zero];exact .nil,But1.refl⟩ (fun j H4 ys _ ⟨_,_,_,_,b⟩=>SqL.of (b _ _ (by rw[za9 (za8 e3 hD)];exact e3) (za8 e3 hD))) (fun j x H4 ys hx ⟨qs,ey,e4,P4,b4⟩=>?_) (fun H4 ys ⟨qs,ey,e4,P4,b4⟩=>?_)⟩
 ·obtain⟨rj,sj,rfl,hsj,bb,h1,h2⟩:=zl0 R3 hx
  have s34:Same H3 H4:=fun b ob e=>b4 _ _ ((za4 hD _) _ _ e) (za8 e hD)
  have hql:=Paired.length P4
  rw[List.length_take,List.length_map] at hql
  have hj:j<p.sides.length:=(List.getElem?_eq_some_iff.mp hsj).1
  refine⟨_,rfl,_,rfl,rj,_,rfl,SqT.of (s34 _ _ h1),(fun z=>notw z.2),fun u hu=>?_⟩
  rw[cut3]
  have s5:=za4 hu (.tup [.int ((byd wd (zl9 p sj):Nat):Int),.int ((lns (zl9 p sj):Nat):Int),.ref bb])
  have e5:=s5 _ _ e4
  have u5:(upd H4 u (.tup [.int ((byd wd (zl9 p sj):Nat):Int),.int ((lns (zl9 p sj):Nat):Int),.ref bb])) u=some (.tup [.int ((byd wd (zl9 p sj):Nat):Int),.int ((lns (zl9 p sj):Nat):Int),.ref bb]):=za0
  have nbD:bb≠D:=za8 h2 hD
  have nuD:u≠D:=ze5 u5 e5 (by intro z;cases z)
  refine⟨e5,?_,qs++[u],by rw[ey,List.map_append];rfl,za0,?_,b4.trans ((But1.of s5).trans zn6)⟩
  ·rw[ey]
   exact Nat.lt_of_lt_of_le (show(qs.map V.ref).length<1000001 by rw[List.length_map];omega) (zd2 (by omega))
  ·rw[ze8 (x:=row3 wd p sj) (by rw[List.getElem?_map,hsj];rfl)]
   have keep:∀ {c:Addr} {ob:HO},H4 c=some ob→c≠D→(upd (upd H4 u (.tup [.int ((byd wd (zl9 p sj):Nat):Int),.int ((lns (zl9 p sj):Nat):Int),.ref bb])) D (.lst (ys++[.ref u]))) c=some ob:=fun e h=>by rw[za9 h];exact s5 _ _ e
   exact zd5 (Paired.mapP P4 fun r' x' ⟨l',q0,q1,q2⟩=>⟨l',q0,keep q1 (ze5 q1 e4 (by intro z;cases z)),keep q2 q0⟩) (.cons ⟨bb,nbD,by rw[za9 nuD];exact u5,keep (s34 _ _ h2) nbD⟩ .nil)
 have s34:Same H3 H4:=fun b ob e=>b4 _ _ ((za4 hD _) _ _ e) (za8 e hD)
 have elen:(rs.map V.ref).length=(p.sides.map (row3 wd p)).length:=by rw[List.length_map,List.length_map,hrl]
 rw[elen,List.take_length] at P4
 have P4:Paired (RowAt3 H4) qs (p.sides.map (row3 wd p)):=Paired.mapP P4 fun _ _ ⟨l',_,q1,q2⟩=>⟨l',q1,q2⟩
 have hne:p.sides.map (row3 wd p)≠[]:=fun z=>zn0 p (List.map_eq_nil_iff.mp z)
 refine⟨D,qs,p.sides.map (row3 wd p),rfl,by rw[e4,ey],P4,hne,fun rm hrm=>?_⟩
 clear b4 e4 ey hD
 rw[List.length_map] at hrm
 have P5:=P3.mono (.of s34)
 refine⟨_,rfl,_,rfl,r,p,wd,rfl,P5,pl',by omega,by omega,by omega,hfit,fun t l2 ss k H5 s5 e5 el5 hb=>?_⟩
 obtain⟨tt,i,ht,hk1,hk2,hmem,hsi,hab⟩:=yg5 pf hln hb
 rw[hab] at hrm
 have hlt:=zz8 ht
 rw[hk1,hk2] at e5
 obtain⟨x0,hx0,hrow⟩:=ym2 P4 i rm hrm
 rw[List.getElem?_map,hsi] at hx0
 have hx0:row3 wd p ss=x0:=Option.some.inj hx0
 subst hx0
 have hrow5:=hrow.mono s5
 have hfound:RowAt3 H5 t (row3 wd p ss):=by
  refine⟨l2,?_,el5⟩
  show H5 t=some (.tup [.int ((byd wd (zl9 p ss):Nat):Int),.int ((lns (zl9 p ss):Nat):Int),.ref l2])
  rw[hlt];exact e5
 refine⟨_,rfl,_,_,_,_,_,rfl,.of (.tup e5),rfl,yc1,_,rfl,zc3 (by decide) ?_⟩
 refine⟨_,rfl,t,_,rfl,.inr (SqT.of e5),rfl,_,rfl,zc3 (by show ¬(!decide (V.int ((3:Nat):Int)=V.int 3))=true;decide) ?_⟩
 refine⟨_,rfl,t,_,_,.ref l2,rfl,rfl,SqT.of e5,rfl,_,_,_,_,_,rfl,.of (.lst el5),rfl,yc1,_,rfl,zc3 (by decide) ?_⟩
 refine⟨_,rfl,t,_,_,.int ((byd wd tt:Nat):Int),rfl,rfl,SqT.of e5,rfl,_,rfl,_,rfl,zc3 (by decide) ?_⟩
 refine⟨_,rfl,t,_,_,.int ((lns tt:Nat):Int),rfl,rfl,SqT.of e5,rfl,_,rfl,_,rfl,zc3 (by decide) ?_⟩
 have hssl:ss.length≤100:=by have:=zi9 p ss hmem;omega
 refine⟨_,rfl,t,_,_,.ref l2,rfl,rfl,SqT.of e5,rfl,l2,rfl,⟨_,SqL.of el5⟩,fun D2 hD2=>comp_map (xs:=ss.map V.int) (fun _=>.bl true) (SqL.of el5) (by rw[List.length_map];omega) hD2 (fun x H6 R hx s6 hR=>?_) (fun H6 s6 e6=>?_)⟩
 ·obtain⟨n,_,rfl⟩:=List.mem_map.mp hx
  exact⟨_,rfl,n,rfl,hR H6 (Same.refl _)⟩
 have e6:H6 D2=some (.lst ((ss.map fun _=>true).map V.bl)):=by rw[e6,List.map_map,List.map_map];rfl
 have eall:(ss.map fun _=>true).all id=true:=by rw[List.all_map];simp
 refine⟨D2,ss.map (fun _=>true),rfl,e6,?_⟩
 rw[eall]
 refine⟨_,rfl,zc3 (by decide) ?_⟩
 have hf6:=hfound.mono s6
 have hd6:=hrow5.mono s6
 refine⟨_,rfl,_,rfl,dat3 (row3 wd p ss),dat3 (row3 wd p ss),hf6.dv,hd6.dv,zr4 _,zr4 _,Nat.le_trans (yk6 _) (by decide),_,rfl,zc3 ?_ ?_⟩
 ·rw[eqv_dat3,decide_eq_true rfl];decide
 have s36:Same H3 H6:=s34.trans (s5.trans s6)
 have P6:=P3.mono (.of s36)
 refine⟨_,rfl,_,rfl,r,p,wd,rfl,P6,pl',pf,by omega,by omega,hsg,by omega,hfit,hln,fun ss' k' t' H7 s7 hb' ht'=>?_⟩
 obtain⟨tt',i',ht2,_,_,_,hsi',hab'⟩:=yg5 pf hln hb'
 rw[hab] at hab'
 subst hab'
 rw[hsi] at hsi'
 cases hsi'
 rw[ht] at ht'
 have ht':tt=t':=by injection ht' with z;exact congrArg Prod.fst z
 subst ht'
 clear ht2 hb'
 have s37:=s36.trans s7
 have e7:=s37 _ _ e3
 have hd7:=hd6.mono s7
 refine⟨_,rfl,_,_,_,_,_,rfl,.of (.str _),rfl,yc1,_,rfl,zu0 ?_⟩
 have hil:i<p.sides.length:=(List.getElem?_eq_some_iff.mp hsi).1
 refine⟨_,rfl,_,rfl,l,rfl,⟨_,SqL.of e7⟩,fun D9 hD9=>zr2 (K:=K) (a:=l) (xs:=rs.map V.ref) (fun j H9 ys=>H9 D9=some (.lst ys)∧But1 D9 (upd H7 D9 (.lst [])) H9∧ys=if i<j then[.str (tx tt)] else[])
  ⟨za0,But1.refl,by rw[if_neg (Nat.not_lt_zero _)]⟩ (fun j H9 ys _ ⟨_,b,_⟩=>SqL.of (b _ _ (by rw[za9 (za8 e7 hD9)];exact e7) (za8 e7 hD9))) (fun j x H9 ys hx ⟨e9,b9,ey9⟩=>?_) (fun H9 ys ⟨e9,b9,ey9⟩=>?_)⟩
 ·obtain⟨rj,sj,rfl,hsj,bb,h1,h2⟩:=zl0 R3 hx
  have s79:Same H7 H9:=fun b ob e=>b9 _ _ ((za4 hD9 _) _ _ e) (za8 e hD9)
  have h1':=(s37.trans s79) _ _ h1
  have h2':=(s37.trans s79) _ _ h2
  refine⟨_,rfl,_,rfl,rj,_,rfl,SqT.of h1',(fun z=>notw z.2),fun u hu=>?_⟩
  rw[cut3]
  have s10:=za4 hu (.tup [.int ((byd wd (zl9 p sj):Nat):Int),.int ((lns (zl9 p sj):Nat):Int),.ref bb])
  have hu3:RowAt3 (upd H9 u (.tup [.int ((byd wd (zl9 p sj):Nat):Int),.int ((lns (zl9 p sj):Nat):Int),.ref bb])) u (row3 wd p sj):=⟨bb,za0,s10 _ _ h2'⟩
  have hd10:=(hd7.mono s79).mono s10
  have e10:=s10 _ _ e9
  have h10:=s10 _ _ h1'
  have b10:But1 D9 (upd H7 D9 (.lst [])) (upd H9 u (.tup [.int ((byd wd (zl9 p sj):Nat):Int),.int ((lns (zl9 p sj):Nat):Int),.ref bb])):=b9.trans (But1.of s10)
  generalize upd H9 u (.tup [.int ((byd wd (zl9 p sj):Nat):Int),.int ((lns (zl9 p sj):Nat):Int),.ref bb])=H10 at hu3 hd10 e10 h10 b10
  refine⟨_,rfl,dat3 (row3 wd p sj),dat3 (row3 wd p ss),hu3.dv,hd10.dv,zr4 _,zr4 _,Nat.le_trans (yk6 _) (by decide),_,rfl,?_⟩
  rw[eqv_dat3]
  by_cases hji:j=i
  ·subst hji
   rw[hsi] at hsj
   cases hsj
   refine zd1 (decide_eq_true rfl) ?_
   refine⟨_,rfl,rj,_,_,.str (tx (zl9 p ss)),rfl,rfl,SqT.of h10,rfl,e10,?_,za0,b10.trans zn6,?_⟩
   ·rw[ey9,if_neg (Nat.lt_irrefl _)];show 0<sizeLine;decide
   ·rw[ey9,if_neg (Nat.lt_irrefl _),if_pos (Nat.lt_succ_self _),hlt];rfl
  ·refine zc3 (fun z=>hji ?_) ⟨e10,b10,?_⟩
   ·have e:=of_decide_eq_true z
    have e2:sj=ss:=congrArg (fun x=>x.2.2) e
    subst e2
    have hjl:j<p.sides.length:=(List.getElem?_eq_some_iff.mp hsj).1
    rcases Nat.lt_trichotomy j i with c|c|c
    ·have:=List.pairwise_iff_getElem.mp (zg3 p) j i hjl hil c
     rw[(List.getElem?_eq_some_iff.mp hsj).2,(List.getElem?_eq_some_iff.mp hsi).2] at this
     exact absurd rfl this.lex.2.2
    ·exact c
    ·have:=List.pairwise_iff_getElem.mp (zg3 p) i j hil hjl c
     rw[(List.getElem?_eq_some_iff.mp hsj).2,(List.getElem?_eq_some_iff.mp hsi).2] at this
     exact absurd rfl this.lex.2.2
   ·rw[ey9]
    by_cases c:i<j
    ·rw[if_pos c,if_pos (by omega)]
    ·rw[if_neg c,if_neg (by omega)]
 ·have e8:i<(rs.map V.ref).length:=by rw[List.length_map,hrl];exact hil
  rw[if_pos e8] at ey9
  subst ey9
  refine⟨D9,_,_,.str (tx tt),rfl,rfl,SqL.of e9,rfl,rfl,?_⟩
  have fin:Q (.bl (decide (V.str (tx tt)=V.str (tx tt)))) H9:=by rw[decide_eq_true rfl];exact q H9
  exact fin
end
end Pq
namespace Pq
open PySem L2
theorem brk_of{P:Program}{w:World}{K:PySem.W.Frag}{base:Heap}{dB:Addr}{hA hB:Int}{u1 u2 t1 t2:Tok}{ep:Nat}(X:K.In base)
  (l:K.lookup dB=some ⟨.type "dict",none,.dict #[⟨hA,.str "line" u1,.str " " t1⟩,⟨hB,.str "cut" u2,.str "" t2⟩] ep, #[]⟩) (eA:hA=hashStr w "line") (eB:hB=hashStr w "cut"):base.DictOf (ze2 P w) dB (vsB t1 t2):=by
 refine⟨_,_,_,X _ _ l,⟨rfl,rfl,rfl⟩,rfl,fun e he=>?_,.cons (zs3 "line" u1) rfl (.cons (zs3 "cut" u2) rfl .nil),?_⟩
 ·have he':e=⟨hA,.str "line" u1,.str " " t1⟩∨e=⟨hB,.str "cut" u2,.str "" t2⟩:=by simpa using he
  rcases he' with rfl|rfl
  ·exact⟨Sum.inr "line",zs3 "line" u1,eA⟩
  ·exact⟨Sum.inr "cut",zs3 "cut" u2,eB⟩
 ·have h:¬(("line":Str)="cut"):=by decide +kernel
  simp[vsB,h]
theorem lay_all{P:Program}{w:World}{K:PySem.W.Frag}{mg:Str→Option Value}{base:Heap}{f:Addr}{fd:FuncData}(F:Fun K "_law_lay" "_law_lay" sLay f fd)(mF:mg "_law_lay"=some (.ref f))(bF:Binds K fd yg9 [])(ml:mg "len"=none)(mi:mg "int"=none):∀n,FnOk P w K mg base CX0 n f fd yg9 (spLay n)
 |0=>fn_no fun _ _ _ _ h=>h
 |n+1=>ok_lay F mF bF ml mi (lay_all F mF bF ml mi n)
theorem sides_all{P:Program}{w:World}{K:PySem.W.Frag}{mg:Str→Option Value}{base:Heap}{f:Addr}{fd:FuncData}(F:Fun K "_law_sides" "_law_sides" yd2 f fd)(mF:mg "_law_sides"=some (.ref f))(bF:Binds K fd zn7 []):∀n,FnOk P w K mg base CX0 n f fd zn7 (yc9 n)
 |0=>fn_no fun _ _ _ _ h=>h
 |n+1=>ok_sides F mF bF (sides_all F mF bF n)
theorem all_mk{l:PySem.W.OpenLaw}{w:World}{K:PySem.W.Frag}{h:Heap}{mg:Str→Option Value}{fa C CN CS CB dB aW fil fsg fcc fwi fou fsd flf fnx fld fae fud fch fpr fce fmi fwh fsi ftx fpl fly fss fcs fal fwd fla fini fput frow fxin fxnu fxle fxro fxlf fxtw fxpl fxrd fsin fssg fsbk fssp fsen fsmi fswo fsbe fsle fsfs fsfd:Addr}(X:K.In h)(G:h.Ns mainGlobals mg)(hfa:mg "law"=some (.ref fa))
  {odil anil odsg ansg odcc ancc odwi anwi odou anou odsd ansd odlf anlf odnx annx odld anld odae anae odud anud odch anch odpr anpr odce ance odmi anmi odwh anwh odsi ansi odtx antx odpl anpl odly anly odss anss odcs ancs odal anal odwd anwd odla anla odini anini odput anput odrow anrow odxin anxin odxnu anxnu odxle anxle odxro anxro odxlf anxlf odxtw anxtw odxpl anxpl odxrd anxrd odsin ansin odssg anssg odsbk ansbk odssp anssp odsen ansen odsmi ansmi odswo answo odsbe ansbe odsle ansle odsfs ansfs odsfd ansfd:Option Addr} {slil slsg slcc slwi slou slsd sllf slnx slld slae slud slch slpr slce slmi slwh slsi sltx slpl slly slss slcs slal slwd slla slini slput slrow slxin slxnu slxle slxro slxlf slxtw slxpl slxrd slsin slssg slsbk slssp slsen slsmi slswo slsbe slsle slsfs slsfd:Array (Option Value)} {ocil kVil dcil pmil cdil ctil ocsg kVsg dcsg pmsg cdsg ctsg occc kVcc dccc pmcc cdcc ctcc ocwi kVwi dcwi pmwi cdwi ctwi ocou kVou dcou pmou cdou ctou ocsd kVsd dcsd pmsd cdsd ctsd oclf kVlf dclf pmlf cdlf ctlf ocnx kVnx dcnx pmnx cdnx ctnx ocld kVld dcld pmld cdld ctld ocae kVae dcae pmae cdae ctae ocud kVud dcud pmud cdud ctud occh kVch dcch pmch cdch ctch ocpr kVpr dcpr pmpr cdpr ctpr occe kVce dcce pmce cdce ctce ocmi kVmi dcmi pmmi cdmi ctmi ocwh kVwh dcwh pmwh cdwh ctwh ocsi kVsi dcsi pmsi cdsi ctsi octx kVtx dctx pmtx cdtx cttx ocpl kVpl dcpl pmpl cdpl ctpl ocly kVly dcly pmly cdly ctly ocss kVss dcss pmss cdss ctss occs kVcs dccs pmcs cdcs ctcs ocal kVal dcal pmal cdal ctal ocwd kVwd dcwd pmwd cdwd ctwd ocla kVla dcla pmla cdla ctla ocini kVini dcini pmini cdini ctini ocput kVput dcput pmput cdput ctput ocrow kVrow dcrow pmrow cdrow ctrow ocxin kVxin dcxin pmxin cdxin ctxin ocxnu kVxnu dcxnu pmxnu cdxnu ctxnu ocxle kVxle dcxle pmxle cdxle ctxle ocxro kVxro dcxro pmxro cdxro ctxro ocxlf kVxlf dcxlf pmxlf cdxlf ctxlf ocxtw kVxtw dcxtw pmxtw cdxtw ctxtw ocxpl kVxpl dcxpl pmxpl cdxpl ctxpl ocxrd kVxrd dcxrd pmxrd cdxrd ctxrd ocsin kVsin dcsin pmsin cdsin ctsin ocssg kVssg dcssg pmssg cdssg ctssg ocsbk kVsbk dcsbk pmsbk cdsbk ctsbk ocssp kVssp dcssp pmssp cdssp ctssp ocsen kVsen dcsen pmsen cdsen ctsen ocsmi kVsmi dcsmi pmsmi cdsmi ctsmi ocswo kVswo dcswo pmswo cdswo ctswo ocsbe kVsbe dcsbe pmsbe cdsbe ctsbe ocsle kVsle dcsle pmsle cdsle ctsle ocsfs kVsfs dcsfs pmsfs cdsfs ctsfs ocsfd kVsfd dcsfd pmsfd cdsfd ctsfd:Value} {oB oW:Obj} {hA hB nS:Int} {kx1 kx2 ky1 ky2 y1 y2 y3:Str} {u1 u2 t1 t2 w1 w2 w3 tS:Tok} {ep nW:Nat}
  (z_C:PySem.W.nsIn K mainGlobals "Sheet"=some (some (.ref C)))
  (z_CN:PySem.W.nsIn K mainGlobals "Nodes"=some (some (.ref CN)))
  (z_CS:PySem.W.nsIn K mainGlobals "Search"=some (some (.ref CS)))
  (eB:PySem.W.nsIn K mainGlobals "BadBits"=some (some (.ref CB)))
  (bD:PySem.W.nsIn K mainGlobals "BREAKS_IN_ONE_ROW"=some (some (.ref dB)))
  (ail:PySem.W.nsIn K mainGlobals "is_leaf"=some (some (.ref fil))) (lil:K.lookup fil=some ⟨ocil,odil,.func (PySem.W.fnOf "is_leaf" "is_leaf" (zc1 zy9) (zb8 zy9) (za7 zy9) .none kVil dcil pmil anil cdil ctil),slil⟩) (cil:PySem.W.codeIn K cdil "is_leaf"=true) (kil:PySem.W.keepIn K (.ref fil)=true)
  (asg:PySem.W.nsIn K mainGlobals "signs_in_one_row"=some (some (.ref fsg))) (lsg:K.lookup fsg=some ⟨ocsg,odsg,.func (PySem.W.fnOf "signs_in_one_row" "signs_in_one_row" (zc1 yi5) (zb8 yi5) (za7 yi5) .none kVsg dcsg pmsg ansg cdsg ctsg),slsg⟩) (csg:PySem.W.codeIn K cdsg "signs_in_one_row"=true) (ksg:PySem.W.keepIn K (.ref fsg)=true)
  (acc:PySem.W.nsIn K mainGlobals "core_of"=some (some (.ref fcc))) (lcc:K.lookup fcc=some ⟨occc,odcc,.func (PySem.W.fnOf "core_of" "core_of" (zc1 zz0) (zb8 zz0) (za7 zz0) .none kVcc dccc pmcc ancc cdcc ctcc),slcc⟩) (ccc:PySem.W.codeIn K cdcc "core_of"=true) (kcc:PySem.W.keepIn K (.ref fcc)=true)
  (awi:PySem.W.nsIn K mainGlobals "cores_within"=some (some (.ref fwi))) (lwi:K.lookup fwi=some ⟨ocwi,odwi,.func (PySem.W.fnOf "cores_within" "cores_within" (zc1 zy0) (zb8 zy0) (za7 zy0) .none kVwi dcwi pmwi anwi cdwi ctwi),slwi⟩) (cwi:PySem.W.codeIn K cdwi "cores_within"=true) (kwi:PySem.W.keepIn K (.ref fwi)=true)
  (aou:PySem.W.nsIn K mainGlobals "cores_from_outside"=some (some (.ref fou))) (lou:K.lookup fou=some ⟨ocou,odou,.func (PySem.W.fnOf "cores_from_outside" "cores_from_outside" (zc1 zt3) (zb8 zt3) (za7 zt3) .none kVou dcou pmou anou cdou ctou),slou⟩) (cou:PySem.W.codeIn K cdou "cores_from_outside"=true) (kou:PySem.W.keepIn K (.ref fou)=true)
  (asd:PySem.W.nsIn K mainGlobals "side_taken"=some (some (.ref fsd))) (lsd:K.lookup fsd=some ⟨ocsd,odsd,.func (PySem.W.fnOf "side_taken" "side_taken" (zc1 sSide) (zb8 sSide) (za7 sSide) .none kVsd dcsd pmsd ansd cdsd ctsd),slsd⟩) (csd:PySem.W.codeIn K cdsd "side_taken"=true) (ksd:PySem.W.keepIn K (.ref fsd)=true)
  (alf:PySem.W.nsIn K mainGlobals "write_leaf"=some (some (.ref flf))) (llf:K.lookup flf=some ⟨oclf,odlf,.func (PySem.W.fnOf "write_leaf" "write_leaf" (zc1 sLeaf) (zb8 sLeaf) (za7 sLeaf) .none kVlf dclf pmlf anlf cdlf ctlf),sllf⟩) (clf:PySem.W.codeIn K cdlf "write_leaf"=true) (klf:PySem.W.keepIn K (.ref flf)=true)
  (anx:PySem.W.nsIn K mainGlobals "next_steps"=some (some (.ref fnx))) (lnx:K.lookup fnx=some ⟨ocnx,odnx,.func (PySem.W.fnOf "next_steps" "next_steps" (zc1 sNext) (zb8 sNext) (za7 sNext) .none kVnx dcnx pmnx annx cdnx ctnx),slnx⟩) (cnx:PySem.W.codeIn K cdnx "next_steps"=true) (knx:PySem.W.keepIn K (.ref fnx)=true)
  (ald:PySem.W.nsIn K mainGlobals "laid"=some (some (.ref fld))) (lld:K.lookup fld=some ⟨ocld,odld,.func (PySem.W.fnOf "laid" "laid" (zc1 sLaid) (zb8 sLaid) (za7 sLaid) .none kVld dcld pmld anld cdld ctld),slld⟩) (cld:PySem.W.codeIn K cdld "laid"=true) (kld:PySem.W.keepIn K (.ref fld)=true)
  (aae:PySem.W.nsIn K mainGlobals "add_ends"=some (some (.ref fae))) (lae:K.lookup fae=some ⟨ocae,odae,.func (PySem.W.fnOf "add_ends" "add_ends" (zc1 zp7) (zb8 zp7) (za7 zp7) .none kVae dcae pmae anae cdae ctae),slae⟩) (cae:PySem.W.codeIn K cdae "add_ends"=true) (kae:PySem.W.keepIn K (.ref fae)=true)
  (aud:PySem.W.nsIn K mainGlobals "undominated"=some (some (.ref fud))) (lud:K.lookup fud=some ⟨ocud,odud,.func (PySem.W.fnOf "undominated" "undominated" (zc1 yd1) (zb8 yd1) (za7 yd1) .none kVud dcud pmud anud cdud ctud),slud⟩) (cud:PySem.W.codeIn K cdud "undominated"=true) (kud:PySem.W.keepIn K (.ref fud)=true)
  (ach:PySem.W.nsIn K mainGlobals "choose"=some (some (.ref fch))) (lch:K.lookup fch=some ⟨occh,odch,.func (PySem.W.fnOf "choose" "choose" (zc1 zz1) (zb8 zz1) (za7 zz1) .none kVch dcch pmch anch cdch ctch),slch⟩) (cch:PySem.W.codeIn K cdch "choose"=true) (kch:PySem.W.keepIn K (.ref fch)=true)
  (apr:PySem.W.nsIn K mainGlobals "printed"=some (some (.ref fpr))) (lpr:K.lookup fpr=some ⟨ocpr,odpr,.func (PySem.W.fnOf "printed" "printed" (zc1 zt2) (zb8 zt2) (za7 zt2) .none kVpr dcpr pmpr anpr cdpr ctpr),slpr⟩) (cpr:PySem.W.codeIn K cdpr "printed"=true) (kpr:PySem.W.keepIn K (.ref fpr)=true)
  (ace:PySem.W.nsIn K mainGlobals "_law_cell"=some (some (.ref fce))) (lce:K.lookup fce=some ⟨occe,odce,.func (PySem.W.fnOf "_law_cell" "_law_cell" (zc1 sCell) (zb8 sCell) (za7 sCell) .none kVce dcce pmce ance cdce ctce),slce⟩) (cce:PySem.W.codeIn K cdce "_law_cell"=true) (kce:PySem.W.keepIn K (.ref fce)=true)
  (ami:PySem.W.nsIn K mainGlobals "_law_mix"=some (some (.ref fmi))) (lmi:K.lookup fmi=some ⟨ocmi,odmi,.func (PySem.W.fnOf "_law_mix" "_law_mix" (zc1 sMix) (zb8 sMix) (za7 sMix) .none kVmi dcmi pmmi anmi cdmi ctmi),slmi⟩) (cmi:PySem.W.codeIn K cdmi "_law_mix"=true) (kmi:PySem.W.keepIn K (.ref fmi)=true)
  (awh:PySem.W.nsIn K mainGlobals "_law_whole"=some (some (.ref fwh))) (lwh:K.lookup fwh=some ⟨ocwh,odwh,.func (PySem.W.fnOf "_law_whole" "_law_whole" (zc1 yi4) (zb8 yi4) (za7 yi4) .none kVwh dcwh pmwh anwh cdwh ctwh),slwh⟩) (cwh:PySem.W.codeIn K cdwh "_law_whole"=true) (kwh:PySem.W.keepIn K (.ref fwh)=true)
  (asi:PySem.W.nsIn K mainGlobals "_law_sign"=some (some (.ref fsi))) (lsi:K.lookup fsi=some ⟨ocsi,odsi,.func (PySem.W.fnOf "_law_sign" "_law_sign" (zc1 sSign) (zb8 sSign) (za7 sSign) .none kVsi dcsi pmsi ansi cdsi ctsi),slsi⟩) (csi:PySem.W.codeIn K cdsi "_law_sign"=true) (ksi:PySem.W.keepIn K (.ref fsi)=true)
  (atx:PySem.W.nsIn K mainGlobals "_law_text"=some (some (.ref ftx))) (ltx:K.lookup ftx=some ⟨octx,odtx,.func (PySem.W.fnOf "_law_text" "_law_text" (zc1 sText) (zb8 sText) (za7 sText) .none kVtx dctx pmtx antx cdtx cttx),sltx⟩) (ctx:PySem.W.codeIn K cdtx "_law_text"=true) (ktx:PySem.W.keepIn K (.ref ftx)=true)
  (apl:PySem.W.nsIn K mainGlobals "_law_plan"=some (some (.ref fpl))) (lpl:K.lookup fpl=some ⟨ocpl,odpl,.func (PySem.W.fnOf "_law_plan" "_law_plan" (zc1 ym1) (zb8 ym1) (za7 ym1) .none kVpl dcpl pmpl anpl cdpl ctpl),slpl⟩) (cpl:PySem.W.codeIn K cdpl "_law_plan"=true) (kpl:PySem.W.keepIn K (.ref fpl)=true)
  (aly:PySem.W.nsIn K mainGlobals "_law_lay"=some (some (.ref fly))) (lly:K.lookup fly=some ⟨ocly,odly,.func (PySem.W.fnOf "_law_lay" "_law_lay" (zc1 sLay) (zb8 sLay) (za7 sLay) .none kVly dcly pmly anly cdly ctly),slly⟩) (cly:PySem.W.codeIn K cdly "_law_lay"=true) (kly:PySem.W.keepIn K (.ref fly)=true)
  (ass:PySem.W.nsIn K mainGlobals "_law_sides"=some (some (.ref fss))) (lss:K.lookup fss=some ⟨ocss,odss,.func (PySem.W.fnOf "_law_sides" "_law_sides" (zc1 yd2) (zb8 yd2) (za7 yd2) .none kVss dcss pmss anss cdss ctss),slss⟩) (css:PySem.W.codeIn K cdss "_law_sides"=true) (kss:PySem.W.keepIn K (.ref fss)=true)
  (acs:PySem.W.nsIn K mainGlobals "_law_cost"=some (some (.ref fcs))) (lcs:K.lookup fcs=some ⟨occs,odcs,.func (PySem.W.fnOf "_law_cost" "_law_cost" (zc1 sCost) (zb8 sCost) (za7 sCost) .none kVcs dccs pmcs ancs cdcs ctcs),slcs⟩) (ccs:PySem.W.codeIn K cdcs "_law_cost"=true) (kcs:PySem.W.keepIn K (.ref fcs)=true)
  (aal:PySem.W.nsIn K mainGlobals "_law_all"=some (some (.ref fal))) (lal:K.lookup fal=some ⟨ocal,odal,.func (PySem.W.fnOf "_law_all" "_law_all" (zc1 sAll) (zb8 sAll) (za7 sAll) .none kVal dcal pmal anal cdal ctal),slal⟩) (cal:PySem.W.codeIn K cdal "_law_all"=true) (kal:PySem.W.keepIn K (.ref fal)=true)
  (awd:PySem.W.nsIn K mainGlobals "_law_width"=some (some (.ref fwd))) (lwd:K.lookup fwd=some ⟨ocwd,odwd,.func (PySem.W.fnOf "_law_width" "_law_width" (zc1 yi3) (zb8 yi3) (za7 yi3) .none kVwd dcwd pmwd anwd cdwd ctwd),slwd⟩) (cwd:PySem.W.codeIn K cdwd "_law_width"=true) (kwd:PySem.W.keepIn K (.ref fwd)=true)
  (ala:PySem.W.nsIn K mainGlobals "law"=some (some (.ref fla))) (lla:K.lookup fla=some ⟨ocla,odla,.func (PySem.W.fnOf "law" "law" (zc1 sLaw) (zb8 sLaw) (za7 sLaw) .none kVla dcla pmla anla cdla ctla),slla⟩) (cla:PySem.W.codeIn K cdla "law"=true) (kla:PySem.W.keepIn K (.ref fla)=true)
  (aini:PySem.W.findIn K (.ref C) "__init__"=some (some (.ref fini))) (iini:PySem.W.isFn K (.ref fini)=true) (lini:K.lookup fini=some ⟨ocini,odini,.func (PySem.W.fnOf "__init__" "Sheet.__init__" (zc1 zy1) (zb8 zy1) (za7 zy1) .none kVini dcini pmini anini cdini ctini),slini⟩) (cini:PySem.W.codeIn K cdini "Sheet.__init__"=true) (kini:PySem.W.keepIn K (.ref fini)=true)
  (aput:PySem.W.findIn K (.ref C) "put"=some (some (.ref fput))) (iput:PySem.W.isFn K (.ref fput)=true) (lput:K.lookup fput=some ⟨ocput,odput,.func (PySem.W.fnOf "put" "Sheet.put" (zc1 yi7) (zb8 yi7) (za7 yi7) .none kVput dcput pmput anput cdput ctput),slput⟩) (cput:PySem.W.codeIn K cdput "Sheet.put"=true) (kput:PySem.W.keepIn K (.ref fput)=true)
  (arow:PySem.W.findIn K (.ref C) "begin_row"=some (some (.ref frow))) (irow:PySem.W.isFn K (.ref frow)=true) (lrow:K.lookup frow=some ⟨ocrow,odrow,.func (PySem.W.fnOf "begin_row" "Sheet.begin_row" (zc1 yi6) (zb8 yi6) (za7 yi6) .none kVrow dcrow pmrow anrow cdrow ctrow),slrow⟩) (crow:PySem.W.codeIn K cdrow "Sheet.begin_row"=true) (krow:PySem.W.keepIn K (.ref frow)=true)
  (axin:PySem.W.findIn K (.ref CN) "__init__"=some (some (.ref fxin))) (ixin:PySem.W.isFn K (.ref fxin)=true) (lxin:K.lookup fxin=some ⟨ocxin,odxin,.func (PySem.W.fnOf "__init__" "Nodes.__init__" (zc1 zy8) (zb8 zy8) (za7 zy8) .none kVxin dcxin pmxin anxin cdxin ctxin),slxin⟩) (cxin:PySem.W.codeIn K cdxin "Nodes.__init__"=true) (kxin:PySem.W.keepIn K (.ref fxin)=true)
  (axnu:PySem.W.findIn K (.ref CN) "number_of"=some (some (.ref fxnu))) (ixnu:PySem.W.isFn K (.ref fxnu)=true) (lxnu:K.lookup fxnu=some ⟨ocxnu,odxnu,.func (PySem.W.fnOf "number_of" "Nodes.number_of" (zc1 zo4) (zb8 zo4) (za7 zo4) .none kVxnu dcxnu pmxnu anxnu cdxnu ctxnu),slxnu⟩) (cxnu:PySem.W.codeIn K cdxnu "Nodes.number_of"=true) (kxnu:PySem.W.keepIn K (.ref fxnu)=true)
  (axle:PySem.W.findIn K (.ref CN) "length_of"=some (some (.ref fxle))) (ixle:PySem.W.isFn K (.ref fxle)=true) (lxle:K.lookup fxle=some ⟨ocxle,odxle,.func (PySem.W.fnOf "length_of" "Nodes.length_of" (zc1 zo5) (zb8 zo5) (za7 zo5) .none kVxle dcxle pmxle anxle cdxle ctxle),slxle⟩) (cxle:PySem.W.codeIn K cdxle "Nodes.length_of"=true) (kxle:PySem.W.keepIn K (.ref fxle)=true)
  (axro:PySem.W.findIn K (.ref CN) "root_of"=some (some (.ref fxro))) (ixro:PySem.W.isFn K (.ref fxro)=true) (lxro:K.lookup fxro=some ⟨ocxro,odxro,.func (PySem.W.fnOf "root_of" "Nodes.root_of" (zc1 zy5) (zb8 zy5) (za7 zy5) .none kVxro dcxro pmxro anxro cdxro ctxro),slxro⟩) (cxro:PySem.W.codeIn K cdxro "Nodes.root_of"=true) (kxro:PySem.W.keepIn K (.ref fxro)=true)
  (axlf:PySem.W.findIn K (.ref CN) "pair_of_leaf"=some (some (.ref fxlf))) (ixlf:PySem.W.isFn K (.ref fxlf)=true) (lxlf:K.lookup fxlf=some ⟨ocxlf,odxlf,.func (PySem.W.fnOf "pair_of_leaf" "Nodes.pair_of_leaf" (zc1 zy7) (zb8 zy7) (za7 zy7) .none kVxlf dcxlf pmxlf anxlf cdxlf ctxlf),slxlf⟩) (cxlf:PySem.W.codeIn K cdxlf "Nodes.pair_of_leaf"=true) (kxlf:PySem.W.keepIn K (.ref fxlf)=true)
  (axtw:PySem.W.findIn K (.ref CN) "pair_of_two"=some (some (.ref fxtw))) (ixtw:PySem.W.isFn K (.ref fxtw)=true) (lxtw:K.lookup fxtw=some ⟨ocxtw,odxtw,.func (PySem.W.fnOf "pair_of_two" "Nodes.pair_of_two" (zc1 yi8) (zb8 yi8) (za7 yi8) .none kVxtw dcxtw pmxtw anxtw cdxtw ctxtw),slxtw⟩) (cxtw:PySem.W.codeIn K cdxtw "Nodes.pair_of_two"=true) (kxtw:PySem.W.keepIn K (.ref fxtw)=true)
  (axpl:PySem.W.findIn K (.ref CN) "pair_of_plan"=some (some (.ref fxpl))) (ixpl:PySem.W.isFn K (.ref fxpl)=true) (lxpl:K.lookup fxpl=some ⟨ocxpl,odxpl,.func (PySem.W.fnOf "pair_of_plan" "Nodes.pair_of_plan" (zc1 zy6) (zb8 zy6) (za7 zy6) .none kVxpl dcxpl pmxpl anxpl cdxpl ctxpl),slxpl⟩) (cxpl:PySem.W.codeIn K cdxpl "Nodes.pair_of_plan"=true) (kxpl:PySem.W.keepIn K (.ref fxpl)=true)
  (axrd:PySem.W.findIn K (.ref CN) "pair_round"=some (some (.ref fxrd))) (ixrd:PySem.W.isFn K (.ref fxrd)=true) (lxrd:K.lookup fxrd=some ⟨ocxrd,odxrd,.func (PySem.W.fnOf "pair_round" "Nodes.pair_round" (zc1 zt4) (zb8 zt4) (za7 zt4) .none kVxrd dcxrd pmxrd anxrd cdxrd ctxrd),slxrd⟩) (cxrd:PySem.W.codeIn K cdxrd "Nodes.pair_round"=true) (kxrd:PySem.W.keepIn K (.ref fxrd)=true)
  (asin:PySem.W.findIn K (.ref CS) "__init__"=some (some (.ref fsin))) (isin:PySem.W.isFn K (.ref fsin)=true) (lsin:K.lookup fsin=some ⟨ocsin,odsin,.func (PySem.W.fnOf "__init__" "Search.__init__" (zc1 zy4) (zb8 zy4) (za7 zy4) .none kVsin dcsin pmsin ansin cdsin ctsin),slsin⟩) (csin:PySem.W.codeIn K cdsin "Search.__init__"=true) (ksin:PySem.W.keepIn K (.ref fsin)=true)
  (assg:PySem.W.findIn K (.ref CS) "cost_of_signs"=some (some (.ref fssg))) (issg:PySem.W.isFn K (.ref fssg)=true) (lssg:K.lookup fssg=some ⟨ocssg,odssg,.func (PySem.W.fnOf "cost_of_signs" "Search.cost_of_signs" (zc1 zs8) (zb8 zs8) (za7 zs8) .none kVssg dcssg pmssg anssg cdssg ctssg),slssg⟩) (cssg:PySem.W.codeIn K cdssg "Search.cost_of_signs"=true) (kssg:PySem.W.keepIn K (.ref fssg)=true)
  (asbk:PySem.W.findIn K (.ref CS) "cost_of_break"=some (some (.ref fsbk))) (isbk:PySem.W.isFn K (.ref fsbk)=true) (lsbk:K.lookup fsbk=some ⟨ocsbk,odsbk,.func (PySem.W.fnOf "cost_of_break" "Search.cost_of_break" (zc1 zt1) (zb8 zt1) (za7 zt1) .none kVsbk dcsbk pmsbk ansbk cdsbk ctsbk),slsbk⟩) (csbk:PySem.W.codeIn K cdsbk "Search.cost_of_break"=true) (ksbk:PySem.W.keepIn K (.ref fsbk)=true)
  (assp:PySem.W.findIn K (.ref CS) "spot_of"=some (some (.ref fssp))) (issp:PySem.W.isFn K (.ref fssp)=true) (lssp:K.lookup fssp=some ⟨ocssp,odssp,.func (PySem.W.fnOf "spot_of" "Search.spot_of" (zc1 zy2) (zb8 zy2) (za7 zy2) .none kVssp dcssp pmssp anssp cdssp ctssp),slssp⟩) (cssp:PySem.W.codeIn K cdssp "Search.spot_of"=true) (kssp:PySem.W.keepIn K (.ref fssp)=true)
  (asen:PySem.W.findIn K (.ref CS) "ends_of"=some (some (.ref fsen))) (isen:PySem.W.isFn K (.ref fsen)=true) (lsen:K.lookup fsen=some ⟨ocsen,odsen,.func (PySem.W.fnOf "ends_of" "Search.ends_of" (zc1 zp6) (zb8 zp6) (za7 zp6) .none kVsen dcsen pmsen ansen cdsen ctsen),slsen⟩) (csen:PySem.W.codeIn K cdsen "Search.ends_of"=true) (ksen:PySem.W.keepIn K (.ref fsen)=true)
  (asmi:PySem.W.findIn K (.ref CS) "missing_for"=some (some (.ref fsmi))) (ismi:PySem.W.isFn K (.ref fsmi)=true) (lsmi:K.lookup fsmi=some ⟨ocsmi,odsmi,.func (PySem.W.fnOf "missing_for" "Search.missing_for" (zc1 zh4) (zb8 zh4) (za7 zh4) .none kVsmi dcsmi pmsmi ansmi cdsmi ctsmi),slsmi⟩) (csmi:PySem.W.codeIn K cdsmi "Search.missing_for"=true) (ksmi:PySem.W.keepIn K (.ref fsmi)=true)
  (aswo:PySem.W.findIn K (.ref CS) "worked_out"=some (some (.ref fswo))) (iswo:PySem.W.isFn K (.ref fswo)=true) (lswo:K.lookup fswo=some ⟨ocswo,odswo,.func (PySem.W.fnOf "worked_out" "Search.worked_out" (zc1 zj7) (zb8 zj7) (za7 zj7) .none kVswo dcswo pmswo answo cdswo ctswo),slswo⟩) (cswo:PySem.W.codeIn K cdswo "Search.worked_out"=true) (kswo:PySem.W.keepIn K (.ref fswo)=true)
  (asbe:PySem.W.findIn K (.ref CS) "ends_behind"=some (some (.ref fsbe))) (isbe:PySem.W.isFn K (.ref fsbe)=true) (lsbe:K.lookup fsbe=some ⟨ocsbe,odsbe,.func (PySem.W.fnOf "ends_behind" "Search.ends_behind" (zc1 zm7) (zb8 zm7) (za7 zm7) .none kVsbe dcsbe pmsbe ansbe cdsbe ctsbe),slsbe⟩) (csbe:PySem.W.codeIn K cdsbe "Search.ends_behind"=true) (ksbe:PySem.W.keepIn K (.ref fsbe)=true)
  (asle:PySem.W.findIn K (.ref CS) "least_cost"=some (some (.ref fsle))) (isle:PySem.W.isFn K (.ref fsle)=true) (lsle:K.lookup fsle=some ⟨ocsle,odsle,.func (PySem.W.fnOf "least_cost" "Search.least_cost" (zc1 zt0) (zb8 zt0) (za7 zt0) .none kVsle dcsle pmsle ansle cdsle ctsle),slsle⟩) (csle:PySem.W.codeIn K cdsle "Search.least_cost"=true) (ksle:PySem.W.keepIn K (.ref fsle)=true)
  (asfs:PySem.W.findIn K (.ref CS) "first_sides"=some (some (.ref fsfs))) (isfs:PySem.W.isFn K (.ref fsfs)=true) (lsfs:K.lookup fsfs=some ⟨ocsfs,odsfs,.func (PySem.W.fnOf "first_sides" "Search.first_sides" (zc1 zs9) (zb8 zs9) (za7 zs9) .none kVsfs dcsfs pmsfs ansfs cdsfs ctsfs),slsfs⟩) (csfs:PySem.W.codeIn K cdsfs "Search.first_sides"=true) (ksfs:PySem.W.keepIn K (.ref fsfs)=true)
  (asfd:PySem.W.findIn K (.ref CS) "first_side"=some (some (.ref fsfd))) (isfd:PySem.W.isFn K (.ref fsfd)=true) (lsfd:K.lookup fsfd=some ⟨ocsfd,odsfd,.func (PySem.W.fnOf "first_side" "Search.first_side" (zc1 zy3) (zb8 zy3) (za7 zy3) .none kVsfd dcsfd pmsfd ansfd cdsfd ctsfd),slsfd⟩) (csfd:PySem.W.codeIn K cdsfd "Search.first_side"=true) (ksfd:PySem.W.keepIn K (.ref fsfd)=true)
  (pg_C:PySem.W.plainGet K C Str.empty=true)
  (hd_C:PySem.W.hasDictIn K C=true)
  (po_C:PySem.W.plainOver K C=true)
  (sa_C:PySem.W.findIn K (.ref C) "__setattr__"=some (some (.builtin "object.__setattr__")))
  (mk_C:PySem.W.makesIn K C=true)
  (kc_C:PySem.W.keepIn K (.ref C)=true)
  (n_C_pieces:PySem.W.findIn K (.ref C) "pieces"=some none)
  (n_C_column:PySem.W.findIn K (.ref C) "column"=some none)
  (pg_CN:PySem.W.plainGet K CN Str.empty=true)
  (hd_CN:PySem.W.hasDictIn K CN=true)
  (po_CN:PySem.W.plainOver K CN=true)
  (sa_CN:PySem.W.findIn K (.ref CN) "__setattr__"=some (some (.builtin "object.__setattr__")))
  (mk_CN:PySem.W.makesIn K CN=true)
  (kc_CN:PySem.W.keepIn K (.ref CN)=true)
  (n_CN_listed:PySem.W.findIn K (.ref CN) "listed"=some none)
  (n_CN_numbers:PySem.W.findIn K (.ref CN) "numbers"=some none)
  (n_CN_lengths:PySem.W.findIn K (.ref CN) "lengths"=some none)
  (pg_CS:PySem.W.plainGet K CS Str.empty=true)
  (hd_CS:PySem.W.hasDictIn K CS=true)
  (po_CS:PySem.W.plainOver K CS=true)
  (sa_CS:PySem.W.findIn K (.ref CS) "__setattr__"=some (some (.builtin "object.__setattr__")))
  (mk_CS:PySem.W.makesIn K CS=true)
  (kc_CS:PySem.W.keepIn K (.ref CS)=true)
  (n_CS_nodes:PySem.W.findIn K (.ref CS) "nodes"=some none)
  (n_CS_width:PySem.W.findIn K (.ref CS) "width"=some none)
  (n_CS_known:PySem.W.findIn K (.ref CS) "known"=some none)
  (zlen:PySem.W.nsIn K mainGlobals "len"=some none)
  (zint:PySem.W.nsIn K mainGlobals "int"=some none)
  (zlist:PySem.W.nsIn K mainGlobals "list"=some none)
  (zstr:PySem.W.nsIn K mainGlobals "str"=some none)
  (zbool:PySem.W.nsIn K mainGlobals "bool"=some none)
  (zisinstance:PySem.W.nsIn K mainGlobals "isinstance"=some none)
  (ztuple:PySem.W.nsIn K mainGlobals "tuple"=some none)
  (zmin:PySem.W.nsIn K mainGlobals "min"=some none)
  (zmax:PySem.W.nsIn K mainGlobals "max"=some none)
  (zreversed:PySem.W.nsIn K mainGlobals "reversed"=some none)
  (zsorted:PySem.W.nsIn K mainGlobals "sorted"=some none)
  (zdict:PySem.W.nsIn K mainGlobals "dict"=some none)
  (zall:PySem.W.nsIn K mainGlobals "all"=some none)
  (xo:PySem.W.excIn K CB bmVal "ValueError.__new__"=true)
  (iB:PySem.W.kitOne K (.type "int") (.type "bool")=some false)
  (lB:K.lookup dB=some oB)
  (lC:oB=⟨.type "dict",none,.dict #[⟨hA,.str kx1 u1,.str ky1 t1⟩,⟨hB,.str kx2 u2,.str ky2 t2⟩] ep, #[]⟩)
  (q1:kx1=("line":Str))
  (q2:kx2=("cut":Str))
  (q3:ky1=(" ":Str))
  (q4:ky2=("":Str))
  (gW:PySem.W.nsIn K mainGlobals "WRAPPERS"=some (some (.ref aW)))
  (lW:K.lookup aW=some oW)
  (dW1:oW.cls=.type "tuple")
  (dW2:oW.data=.seq #[.str y1 w1,.str y2 w2,.str y3 w3] nW)
  (r1:y1=("nest":Str))
  (r2:y2=("align":Str))
  (r3:y3=("flat":Str))
  (gS:PySem.W.nsIn K mainGlobals "SIGN_BEYOND"=some (some (.int nS tS)))
  (r4:nS=1000000000000)
  (q5:hA=hashStr w "line")
  (q6:hB=hashStr w "cut")
  (q7:(dB==sysModules)=false):
  ∃fd:FuncData,(∀(s:Shared) (v:Value),BindsTo s fd ⟨[v],[]⟩ [("_law_script",v)])∧∀base:Heap,K.In base→base.Ns mainGlobals mg→FnOk l.prog w K mg base CX0 12 fa fd ["_law_script"] (spLaw K):=by
 subst q1 q2 q3 q4 lC r1 r2 r3 r4
 have e:=hfa.symm.trans (PySem.W.mg_of X G ala)
 cases e
 have g:∀ {x:Str} {v:Value},PySem.W.nsIn K mainGlobals x=some (some v)→mg x=some v:=fun e=>PySem.W.mg_of X G e
 have g0:∀ {x:Str},PySem.W.nsIn K mainGlobals x=some none→mg x=none:=fun e=>PySem.W.mg_none_of X G e
 have T:Sht K mg C:=⟨⟨pg_C,hd_C,po_C,sa_C⟩,n_C_pieces,n_C_column,g0 zlen⟩
 have TN:Nds K mg CN:=⟨⟨pg_CN,hd_CN,po_CN,sa_CN⟩,n_CN_listed,n_CN_numbers,n_CN_lengths,g0 zlen,g0 zmin,g0 zreversed⟩
 have TS:Srs K mg CS:=⟨⟨pg_CS,hd_CS,po_CS,sa_CS⟩,n_CS_nodes,n_CS_width,n_CS_known,⟨tS,g gS⟩,g0 zmin,g0 zmax,g0 zreversed,g0 zdict⟩
 have Tw:Wrp K mg aW:=⟨g gW,fun H=>.inr ⟨oW,_,nW,lW,dW1,dW2,by show 3≤sizeLine;decide,.cons ⟨_,rfl⟩ (.cons ⟨_,rfl⟩ (.cons ⟨_,rfl⟩ .nil))⟩⟩
 have Fil:=ze0 (st:=zy9) lil cil kil
 have Fsg:=ze0 (st:=yi5) lsg csg ksg
 have Fcc:=ze0 (st:=zz0) lcc ccc kcc
 have Fwi:=ze0 (st:=zy0) lwi cwi kwi
 have Fou:=ze0 (st:=zt3) lou cou kou
 have Fsd:=ze0 (st:=sSide) lsd csd ksd
 have Flf:=ze0 (st:=sLeaf) llf clf klf
 have Fnx:=ze0 (st:=sNext) lnx cnx knx
 have Fld:=ze0 (st:=sLaid) lld cld kld
 have Fae:=ze0 (st:=zp7) lae cae kae
 have Fud:=ze0 (st:=yd1) lud cud kud
 have Fch:=ze0 (st:=zz1) lch cch kch
 have Fpr:=ze0 (st:=zt2) lpr cpr kpr
 have Fce:=ze0 (st:=sCell) lce cce kce
 have Fmi:=ze0 (st:=sMix) lmi cmi kmi
 have Fwh:=ze0 (st:=yi4) lwh cwh kwh
 have Fsi:=ze0 (st:=sSign) lsi csi ksi
 have Ftx:=ze0 (st:=sText) ltx ctx ktx
 have Fpl:=ze0 (st:=ym1) lpl cpl kpl
 have Fly:=ze0 (st:=sLay) lly cly kly
 have Fss:=ze0 (st:=yd2) lss css kss
 have Fcs:=ze0 (st:=sCost) lcs ccs kcs
 have Fal:=ze0 (st:=sAll) lal cal kal
 have Fwd:=ze0 (st:=yi3) lwd cwd kwd
 have Fla:=ze0 (st:=sLaw) lla cla kla
 have Fini:=ze0 (st:=zy1) lini cini kini
 have Fput:=ze0 (st:=yi7) lput cput kput
 have Frow:=ze0 (st:=yi6) lrow crow krow
 have Fxin:=ze0 (st:=zy8) lxin cxin kxin
 have Fxnu:=ze0 (st:=zo4) lxnu cxnu kxnu
 have Fxle:=ze0 (st:=zo5) lxle cxle kxle
 have Fxro:=ze0 (st:=zy5) lxro cxro kxro
 have Fxlf:=ze0 (st:=zy7) lxlf cxlf kxlf
 have Fxtw:=ze0 (st:=yi8) lxtw cxtw kxtw
 have Fxpl:=ze0 (st:=zy6) lxpl cxpl kxpl
 have Fxrd:=ze0 (st:=zt4) lxrd cxrd kxrd
 have Fsin:=ze0 (st:=zy4) lsin csin ksin
 have Fssg:=ze0 (st:=zs8) lssg cssg kssg
 have Fsbk:=ze0 (st:=zt1) lsbk csbk ksbk
 have Fssp:=ze0 (st:=zy2) lssp cssp kssp
 have Fsen:=ze0 (st:=zp6) lsen csen ksen
 have Fsmi:=ze0 (st:=zh4) lsmi csmi ksmi
 have Fswo:=ze0 (st:=zj7) lswo cswo kswo
 have Fsbe:=ze0 (st:=zm7) lsbe csbe ksbe
 have Fsle:=ze0 (st:=zt0) lsle csle ksle
 have Fsfs:=ze0 (st:=zs9) lsfs csfs ksfs
 have Fsfd:=ze0 (st:=zy3) lsfd csfd ksfd
 have bil:=Fil.binds (ps:=["plan"]) fun _ _ _ _ _ _ us hl=>match us,hl with|[_],_=>rfl
 have bsg:=Fsg.binds (ps:=["leaf"]) fun _ _ _ _ _ _ us hl=>match us,hl with|[_],_=>rfl
 have bcc:=Fcc.binds (ps:=["plan"]) fun _ _ _ _ _ _ us hl=>match us,hl with|[_],_=>rfl
 have bwi:=Fwi.binds (ps:=["core"]) fun _ _ _ _ _ _ us hl=>match us,hl with|[_],_=>rfl
 have bou:=Fou.binds (ps:=["plan"]) fun _ _ _ _ _ _ us hl=>match us,hl with|[_],_=>rfl
 have bsd:=Fsd.binds (ps:=["choice","bits","met"]) fun _ _ _ _ _ _ us hl=>match us,hl with|[_,_,_],_=>rfl
 have blf:=Flf.binds (ps:=["sheet","plan","margin","in_one_row"]) fun _ _ _ _ _ _ us hl=>match us,hl with|[_,_,_,_],_=>rfl
 have bnx:=Fnx.binds (ps:=["plan","margin","in_one_row","column"]) fun _ _ _ _ _ _ us hl=>match us,hl with|[_,_,_,_],_=>rfl
 have bld:=Fld.binds (ps:=["plan","bits"]) fun _ _ _ _ _ _ us hl=>match us,hl with|[_,_],_=>rfl
 have bae:=Fae.binds (ps:=["ends","more","spent"]) fun _ _ _ _ _ _ us hl=>match us,hl with|[_,_,_],_=>rfl
 have bud:=Fud.binds (ps:=["ends"]) fun _ _ _ _ _ _ us hl=>match us,hl with|[_],_=>rfl
 have bch:=Fch.binds (ps:=["plan","width"]) fun _ _ _ _ _ _ us hl=>match us,hl with|[_,_],_=>rfl
 have bpr:=Fpr.binds (ps:=["plan","width"]) fun _ _ _ _ _ _ us hl=>match us,hl with|[_,_],_=>rfl
 have bce:=Fce.binds (ps:=["_law_script","_law_k"]) fun _ _ _ _ _ _ us hl=>match us,hl with|[_,_],_=>rfl
 have bmi:=Fmi.binds (ps:=["_law_script","_law_k"]) fun _ _ _ _ _ _ us hl=>match us,hl with|[_,_],_=>rfl
 have bwh:=Fwh.binds (ps:=["_law_found"]) fun _ _ _ _ _ _ us hl=>match us,hl with|[_],_=>rfl
 have bsi:=Fsi.binds (ps:=["_law_number"]) fun _ _ _ _ _ _ us hl=>match us,hl with|[_],_=>rfl
 have btx:=Ftx.binds (ps:=["_law_script","_law_k"]) fun _ _ _ _ _ _ us hl=>match us,hl with|[_,_],_=>rfl
 have bpl:=Fpl.binds (ps:=ya9) fun _ _ _ _ _ _ us hl=>match us,hl with|[_,_,_],_=>rfl
 have bly:=Fly.binds (ps:=yg9) fun _ _ _ _ _ _ us hl=>match us,hl with|[_,_,_,_,_],_=>rfl
 have bss:=Fss.binds (ps:=zn7) fun _ _ _ _ _ _ us hl=>match us,hl with|[_],_=>rfl
 have bcs:=Fcs.binds (ps:=["_law_text_here","_law_width_here"]) fun _ _ _ _ _ _ us hl=>match us,hl with|[_,_],_=>rfl
 have bal:=Fal.binds (ps:=["_law_plan_here","_law_width_here"]) fun _ _ _ _ _ _ us hl=>match us,hl with|[_,_],_=>rfl
 have bwd:=Fwd.binds (ps:=["_law_script","_law_k"]) fun _ _ _ _ _ _ us hl=>match us,hl with|[_,_],_=>rfl
 have bini:=Fini.binds (ps:=["self"]) fun _ _ _ _ _ _ us hl=>match us,hl with|[_],_=>rfl
 have Mini:Meth K C "__init__" fini:=⟨aini,iini,kini⟩
 have bput:=Fput.binds (ps:=["self","signs"]) fun _ _ _ _ _ _ us hl=>match us,hl with|[_,_],_=>rfl
 have Mput:Meth K C "put" fput:=⟨aput,iput,kput⟩
 have brow:=Frow.binds (ps:=["self","margin"]) fun _ _ _ _ _ _ us hl=>match us,hl with|[_,_],_=>rfl
 have Mrow:Meth K C "begin_row" frow:=⟨arow,irow,krow⟩
 have bxin:=Fxin.binds (ps:=["self"]) fun _ _ _ _ _ _ us hl=>match us,hl with|[_],_=>rfl
 have Mxin:Meth K CN "__init__" fxin:=⟨axin,ixin,kxin⟩
 have bxnu:=Fxnu.binds (ps:=psN) fun _ _ _ _ _ _ us hl=>match us,hl with|[_,_],_=>rfl
 have Mxnu:Meth K CN "number_of" fxnu:=⟨axnu,ixnu,kxnu⟩
 have bxle:=Fxle.binds (ps:=psN) fun _ _ _ _ _ _ us hl=>match us,hl with|[_,_],_=>rfl
 have Mxle:Meth K CN "length_of" fxle:=⟨axle,ixle,kxle⟩
 have bxro:=Fxro.binds (ps:=["self","plan"]) fun _ _ _ _ _ _ us hl=>match us,hl with|[_,_],_=>rfl
 have Mxro:Meth K CN "root_of" fxro:=⟨axro,ixro,kxro⟩
 have bxlf:=Fxlf.binds (ps:=["self","leaf"]) fun _ _ _ _ _ _ us hl=>match us,hl with|[_,_],_=>rfl
 have Mxlf:Meth K CN "pair_of_leaf" fxlf:=⟨axlf,ixlf,kxlf⟩
 have bxtw:=Fxtw.binds (ps:=psTw) fun _ _ _ _ _ _ us hl=>match us,hl with|[_,_,_,_],_=>rfl
 have Mxtw:Meth K CN "pair_of_two" fxtw:=⟨axtw,ixtw,kxtw⟩
 have bxpl:=Fxpl.binds (ps:=psPl) fun _ _ _ _ _ _ us hl=>match us,hl with|[_,_,_],_=>rfl
 have Mxpl:Meth K CN "pair_of_plan" fxpl:=⟨axpl,ixpl,kxpl⟩
 have bxrd:=Fxrd.binds (ps:=["self","wrapper","pair"]) fun _ _ _ _ _ _ us hl=>match us,hl with|[_,_,_],_=>rfl
 have Mxrd:Meth K CN "pair_round" fxrd:=⟨axrd,ixrd,kxrd⟩
 have bsin:=Fsin.binds (ps:=["self","nodes","width"]) fun _ _ _ _ _ _ us hl=>match us,hl with|[_,_,_],_=>rfl
 have Msin:Meth K CS "__init__" fsin:=⟨asin,isin,ksin⟩
 have bssg:=Fssg.binds (ps:=["self","column","length"]) fun _ _ _ _ _ _ us hl=>match us,hl with|[_,_,_],_=>rfl
 have Mssg:Meth K CS "cost_of_signs" fssg:=⟨assg,issg,kssg⟩
 have bsbk:=Fsbk.binds (ps:=["self","margin"]) fun _ _ _ _ _ _ us hl=>match us,hl with|[_,_],_=>rfl
 have Msbk:Meth K CS "cost_of_break" fsbk:=⟨asbk,isbk,ksbk⟩
 have bssp:=Fssp.binds (ps:=psEn) fun _ _ _ _ _ _ us hl=>match us,hl with|[_,_,_,_],_=>rfl
 have Mssp:Meth K CS "spot_of" fssp:=⟨assp,issp,kssp⟩
 have bsen:=Fsen.binds (ps:=psEn) fun _ _ _ _ _ _ us hl=>match us,hl with|[_,_,_,_],_=>rfl
 have Msen:Meth K CS "ends_of" fsen:=⟨asen,isen,ksen⟩
 have bsmi:=Fsmi.binds (ps:=["self","spot"]) fun _ _ _ _ _ _ us hl=>match us,hl with|[_,_],_=>rfl
 have Msmi:Meth K CS "missing_for" fsmi:=⟨asmi,ismi,ksmi⟩
 have bswo:=Fswo.binds (ps:=["self","spot"]) fun _ _ _ _ _ _ us hl=>match us,hl with|[_,_],_=>rfl
 have Mswo:Meth K CS "worked_out" fswo:=⟨aswo,iswo,kswo⟩
 have bsbe:=Fsbe.binds (ps:=psBe) fun _ _ _ _ _ _ us hl=>match us,hl with|[_,_,_,_],_=>rfl
 have Msbe:Meth K CS "ends_behind" fsbe:=⟨asbe,isbe,ksbe⟩
 have bsle:=Fsle.binds (ps:=["self","waiting","column"]) fun _ _ _ _ _ _ us hl=>match us,hl with|[_,_,_],_=>rfl
 have Msle:Meth K CS "least_cost" fsle:=⟨asle,isle,ksle⟩
 have bsfs:=Fsfs.binds (ps:=["self","root","cost"]) fun _ _ _ _ _ _ us hl=>match us,hl with|[_,_,_],_=>rfl
 have Msfs:Meth K CS "first_sides" fsfs:=⟨asfs,isfs,ksfs⟩
 have bsfd:=Fsfd.binds (ps:=["self","choice","margin","waiting","column","cost"]) fun _ _ _ _ _ _ us hl=>match us,hl with|[_,_,_,_,_,_],_=>rfl
 have Msfd:Meth K CS "first_side" fsfd:=⟨asfd,isfd,ksfd⟩
 refine⟨PySem.W.fnOf "law" "law" (zc1 sLaw) (zb8 sLaw) (za7 sLaw) .none kVla dcla pmla anla cdla ctla,fun s v=>.of_eq rfl,fun base XB _=>?_⟩
 have B:Brk l.prog w mg base dB t1 t2:=⟨g bD,q7,brk_of XB lB q5 q6⟩
 have Gce:=ok_cell (P:=l.prog) (w:=w) (base:=base) Fce (g0 zlen)
 have Gmi:=ok_mix (P:=l.prog) (w:=w) (base:=base) Fmi Gce bce kce (g ace)
 have Gsi:FnOk l.prog w K mg base CX0 1 fsi _ ["_law_number"] spSign:=ok_sign Fsi
 have Gtx:=ok_text Ftx Gmi bmi kmi (g ami) Gsi bsi ksi (g asi)
 have Gpl0:FnOk l.prog w K mg base CX0 3 fpl _ ya9 (spPlan K 0):=fn_no (fd:=PySem.W.fnOf "_law_plan" "_law_plan" (zc1 ym1) (zb8 ym1) (za7 ym1) .none kVpl dcpl pmpl anpl cdpl ctpl) fun _ _ _ _ h=>h
 have Gpl1:=ye2 (by decide) Fpl (g apl) bpl Gmi bmi kmi (g ami) Gtx btx ktx (g atx) Gpl0
 have Gpl2:=ye2 (by decide) Fpl (g apl) bpl Gmi bmi kmi (g ami) Gtx btx ktx (g atx) Gpl1
 have Gpl3:=ye2 (by decide) Fpl (g apl) bpl Gmi bmi kmi (g ami) Gtx btx ktx (g atx) Gpl2
 have Gpl4:=ye2 (by decide) Fpl (g apl) bpl Gmi bmi kmi (g ami) Gtx btx ktx (g atx) Gpl3
 have Gpl5:=ye2 (by decide) Fpl (g apl) bpl Gmi bmi kmi (g ami) Gtx btx ktx (g atx) Gpl4
 have Gly:∀n,FnOk l.prog w K mg base CX0 n fly _ yg9 (spLay n):=lay_all Fly (g aly) bly (g0 zlen) (g0 zint)
 have Gss:∀n,FnOk l.prog w K mg base CX0 n fss _ zn7 (yc9 n):=sides_all Fss (g ass) bss
 have Gil:=ok_isLeaf (P:=l.prog) (w:=w) Fil B
 have Gsg:=ok_signs (P:=l.prog) (w:=w) Fsg B
 have Gcc:FnOk l.prog w K mg base CX0 1 fcc _ ["plan"] yb8:=ok_coreOf Fcc Tw
 have Gwi:=ok_kids Fwi Gil bil kil (g ail) Gcc bcc kcc (g acc)
 have Gou:=ok_cores Fou (g0 zlen) Gwi bwi kwi (g awi) Gcc bcc kcc (g acc)
 have Gini:FnOk l.prog w K mg base CX0 1 fini _ ["self"] (yl5 C):=ok_shInit Fini T
 have Gput:FnOk l.prog w K mg base CX0 1 fput _ ["self","signs"] (spPut C):=ok_put Fput T
 have Grow:=ok_row Frow T Gput bput Mput
 have Gsd:FnOk l.prog w K mg base (CXe l.prog w) 1 fsd _ ["choice","bits","met"] (spSide CB):=ok_side Fsd (g0 zlen) (g eB) xo
 have Glf:=ok_leaf Flf T Gput bput Mput Grow brow Mrow Gsg bsg ksg (g asg)
 have Gnx:FnOk l.prog w K mg base CX0 1 fnx _ ["plan","margin","in_one_row","column"] spNext:=ok_next Fnx
 have Gld:=ok_laid Fld T ⟨mk_C,aini,iini,kc_C⟩ (g z_C) (g eB) xo Gini bini Gsd bsd ksd (g asd) Gil bil kil (g ail) Gnx bnx knx (g anx) Glf blf klf (g alf)
 have Gni:FnOk l.prog w K mg base CX0 1 fxin _ ["self"] (ndInit CN):=ok_ndInit Fxin TN
 have Oxle:MO l.prog w K mg base CN CX0 1 fxle _ "length_of" psN (yn2 CN):=⟨ok_ndLength Fxle TN,bxle,Mxle⟩
 have Oxnu:MO l.prog w K mg base CN CX0 2 fxnu _ "number_of" psN (zx0 CN):=⟨ok_ndNumber Fxnu TN Oxle,bxnu,Mxnu⟩
 have Oxlf:MO l.prog w K mg base CN CX0 3 fxlf _ "pair_of_leaf" ["self","leaf"] (ndLeaf CN):=⟨ok_ndLeaf Fxlf TN Oxnu Gsg bsg ksg (g asg),bxlf,Mxlf⟩
 have Oxrd:MO l.prog w K mg base CN CX0 3 fxrd _ "pair_round" ["self","wrapper","pair"] (ndRound CN):=⟨ok_ndRound Fxrd TN Oxnu,bxrd,Mxrd⟩
 have Oxpl:MO l.prog w K mg base CN CX0 4 fxpl _ "pair_of_plan" psPl (ndPlan CN):=⟨ok_ndPlan Fxpl TN Tw Oxrd,bxpl,Mxpl⟩
 have Oxtw:MO l.prog w K mg base CN CX0 5 fxtw _ "pair_of_two" psTw (ndTwo CN):=⟨ok_ndTwo Fxtw TN Oxnu Oxpl,bxtw,Mxtw⟩
 have Oxro:MO l.prog w K mg base CN CX0 6 fxro _ "root_of" ["self","plan"] (ndRoot CN):=⟨ok_ndRoot Fxro TN Oxlf Oxtw Oxpl Gou bou kou (g aou),bxro,Mxro⟩
 have Gae:FnOk l.prog w K mg base CX0 1 fae _ ["ends","more","spent"] spAdd:=ok_add Fae
 have Gun:FnOk l.prog w K mg base CX0 1 fud _ ["ends"] yl3:=ok_undom Fud (g0 zsorted)
 have Gsi0:FnOk l.prog w K mg base CX0 1 fsin _ ["self","nodes","width"] (seInit CS):=ok_seInit Fsin TS
 have Ossg:MO l.prog w K mg base CS CX0 1 fssg _ "cost_of_signs" ["self","column","length"] (yd0 CS):=⟨ok_seSigns Fssg TS,bssg,Mssg⟩
 have Osbk:MO l.prog w K mg base CS CX0 2 fsbk _ "cost_of_break" ["self","margin"] (ym0 CS):=⟨ok_seBreak Fsbk TS Ossg,bsbk,Msbk⟩
 have Ossp:MO l.prog w K mg base CS CX0 1 fssp _ "spot_of" psEn (yi1 CN CS):=⟨ok_seSpot Fssp TS TN,bssp,Mssp⟩
 have Osm0:MO l.prog w K mg base CS CX0 1 fsmi (PySem.W.fnOf "missing_for" "Search.missing_for" (zc1 zh4) (zb8 zh4) (za7 zh4) .none kVsmi dcsmi pmsmi ansmi cdsmi ctsmi) "missing_for" ["self","spot"] (fun _ _ _ _=>False):=⟨fn_no fun _ _ _ _ h=>h,bsmi,Msmi⟩
 have Osw0:MO l.prog w K mg base CS CX0 1 fswo (PySem.W.fnOf "worked_out" "Search.worked_out" (zc1 zj7) (zb8 zj7) (za7 zj7) .none kVswo dcswo pmswo answo cdswo ctswo) "worked_out" ["self","spot"] (fun _ _ _ _=>False):=⟨fn_no fun _ _ _ _ h=>h,bswo,Mswo⟩
 have Ose0:MO l.prog w K mg base CS CX0 2 fsen _ "ends_of" psEn (yi2 CN CS true):=⟨ok_seEnds0 Fsen TS Ossp Osm0 Osw0,bsen,Msen⟩
 have Osb0:MO l.prog w K mg base CS CX0 3 fsbe _ "ends_behind" psBe (zw1 CN CS true):=⟨ye1 (by decide) Fsbe TS Ose0 Gae bae kae (g aae) Gun bud kud (g aud),bsbe,Msbe⟩
 have Osmi:MO l.prog w K mg base CS CX0 2 fsmi _ "missing_for" ["self","spot"] (seMiss CN CS):=⟨ok_seMiss Fsmi TS TN Ossp,bsmi,Msmi⟩
 have Oswo:MO l.prog w K mg base CS CX0 4 fswo _ "worked_out" ["self","spot"] (seWork CN CS):=⟨ok_seWork Fswo TS TN Ossg Osbk Ose0 Osb0 Gae bae kae (g aae) Gun bud kud (g aud),bswo,Mswo⟩
 have Osen:MO l.prog w K mg base CS CX0 5 fsen _ "ends_of" psEn (yi2 CN CS false):=⟨ok_seEnds1 Fsen TS Ossp Osmi Oswo,bsen,Msen⟩
 have Osbe:MO l.prog w K mg base CS CX0 6 fsbe _ "ends_behind" psBe (zw1 CN CS false):=⟨ye1 (by decide) Fsbe TS Osen Gae bae kae (g aae) Gun bud kud (g aud),bsbe,Msbe⟩
 have Osle:MO l.prog w K mg base CS CX0 7 fsle _ "least_cost" ["self","waiting","column"] (yl9 CN CS):=⟨ok_seLeast Fsle TS Osbe,bsle,Msle⟩
 have Osfd:MO l.prog w K mg base CS CX0 8 fsfd _ "first_side" ["self","choice","margin","waiting","column","cost"] (seSide CN CS):=⟨ok_seSide Fsfd TS Osle,bsfd,Msfd⟩
 have Osfs:MO l.prog w K mg base CS CX0 9 fsfs _ "first_sides" ["self","root","cost"] (seFirst CN CS):=⟨ok_seFirst Fsfs TS TN Ossp Ossg Osbk Osfd,bsfs,Msfs⟩
 have Gch:=ok_choose Fch TN TS ⟨mk_CN,axin,ixin,kc_CN⟩ (g z_CN) Gni bxin ⟨mk_CS,asin,isin,kc_CS⟩ (g z_CS) Gsi0 bsin Oxro Osle Osfs
 have Gpr:=ok_printed Fpr Gld bld kld (g ald) Gch bch kch (g ach)
 have Gcs:FnOk l.prog w K mg base CX0 1 fcs _ ["_law_text_here","_law_width_here"] spCostL:=ok_costL Fcs (g0 zmax) (g0 zlen)
 have Gal:=ok_allL Fal (Gss 9) bss kss (g ass) (Gly 9) bly kly (g aly) Gcs bcs kcs (g acs)
 have Gwh:FnOk l.prog w K mg base CX0 1 fwh _ ["_law_found"] spWhole:=ok_whole Fwh (g0 zisinstance) (g0 zint) (g0 zbool) iB
 have Gwd:=ok_width Fwd Gmi bmi kmi (g ami)
 exact ok_law Fla ⟨g0 zlen,g0 zmin,g0 zall,g0 zisinstance,g0 ztuple,g0 zlist,g0 zstr⟩ Gpl5 bpl kpl (g apl) Gwd bwd kwd (g awd) Gal bal kal (g aal) Gch bch kch (g ach) Gwh bwh kwh (g awh) Gpr bpr kpr (g apr)
theorem walk{l:PySem.W.OpenLaw}{q:Program}{loose:List Str}{XP:(Str→Option Value)→Heap→Prop}{YP:World→Heap→Prop}{d:DefRec}{K:Params→PySem.W.Frag}(hn:l.most=some 63)(hdf:d.params.defaults=[])
  (hY:∀(w:World) (h:Heap),YP w h→(K w.params).In h)
  (F:∀(w:World) (mg:Str→Option Value) (fa:Addr) (h:Heap),(K w.params).In h→h.Ns mainGlobals mg→mg d.name=some (.ref fa)→
   ∃fd:FuncData,(∀(s:Shared) (u:Value),BindsTo s fd ⟨[u],[]⟩ [("_law_script",u)])∧∀base:Heap,(K w.params).In base→base.Ns mainGlobals mg→FnOk l.prog w (K w.params) mg base CX0 12 fa fd ["_law_script"] (spLaw (K w.params))):
  PySem.W.WalkO q loose XP YP l.row.toRowW d [] (fun f vs=>PySem.call f vs):=
 L2.walk_of (n:=63) (k:=12) (x:="_law_script") (CX:=fun _=>CX0) (sp:=fun w=>spLaw (K w.params)) hn (by decide) hdf ⟨rfl,by decide,by decide⟩ hY F (fun _ _ a ns hl _ hS=>⟨a,ns,rfl,hS,hl,fun _=>rfl⟩) fun _ _ _ _ _ z=>z
end Pq
namespace PySem.W.Fast
theorem tw9120400985520293382:True:=⟨⟩
theorem tw2747475982818387345:True:=⟨⟩
theorem tw8765261764005128872:True:=⟨⟩
theorem tw2810270095479768033:True:=⟨⟩
theorem tw13054761192500298656:True:=⟨⟩
theorem tw9620471964758904384:True:=⟨⟩
theorem tw2402862379853983534:True:=⟨⟩
theorem tw634849638890868065:True:=⟨⟩
theorem tw5528746261962656308:True:=⟨⟩
theorem tw2258156074560011891:True:=⟨⟩
theorem tw16572720182506873457:True:=⟨⟩
theorem tw701976997665608840:True:=⟨⟩
theorem tw12986385136595907219:True:=⟨⟩
theorem tw4803366252248849719:True:=⟨⟩
theorem tw1603922548622437327:True:=⟨⟩
theorem tw8051954260159321511:True:=⟨⟩
theorem tw6572579596195032736:True:=⟨⟩
theorem tw13166234974034042517:True:=⟨⟩
theorem tw1448976955797715539:True:=⟨⟩
theorem tw2643161898513871580:True:=⟨⟩
theorem tw8845714420502311163:True:=⟨⟩
theorem tw8403368409766637887:True:=⟨⟩
theorem tw9162712881081486231:True:=⟨⟩
theorem tw5818592268955149853:True:=⟨⟩
theorem tw8991660911655198880:True:=⟨⟩
theorem tw15393172020342640805:True:=⟨⟩
theorem tw7484096958596988500:True:=⟨⟩
theorem tw4063218072569771625:True:=⟨⟩
theorem tw10940306070901839055:True:=⟨⟩
theorem tw17554147663067687498:True:=⟨⟩
theorem tw17538292443530191380:True:=⟨⟩
theorem tw670378218026986647:True:=⟨⟩
theorem tw144241723664424154:True:=⟨⟩
theorem tw163361772512888444:True:=⟨⟩
theorem tw137984702804201942:True:=⟨⟩
theorem tw4289248828653723828:True:=⟨⟩
theorem tw5768368367494431146:True:=⟨⟩
theorem tw8729197005042300877:True:=⟨⟩
theorem tw958706037371249761:True:=⟨⟩
theorem tw12348313248132896156:True:=⟨⟩
theorem tw10610941516927905006:True:=⟨⟩
theorem tw8602888057176653764:True:=⟨⟩
theorem tw10582483450315188898:True:=⟨⟩
theorem tw586916376590311968:True:=⟨⟩
theorem tw442973797955095007:True:=⟨⟩
theorem tw16319008062117676118:True:=⟨⟩
theorem tw6478895792247853202:True:=⟨⟩
theorem tw955756093668786997:True:=⟨⟩
theorem tw9468263099204724697:True:=⟨⟩
theorem tw8377777317688002053:True:=⟨⟩
theorem tw14774146590030647098:True:=⟨⟩
theorem tw122839491779409774:True:=⟨⟩
theorem tw14744164898160202251:True:=⟨⟩
theorem tw2100215421756180216:True:=⟨⟩
theorem tw2808455160677458533:True:=⟨⟩
theorem tw12215874288335412804:True:=⟨⟩
theorem tw15341902424494318344:True:=⟨⟩
theorem tw4047689889966032261:True:=⟨⟩
theorem tw603627655682294656:True:=⟨⟩
theorem tw4909217129674365961:True:=⟨⟩
theorem tw1379477353183103171:True:=⟨⟩
theorem tw15476904200800203130:True:=⟨⟩
theorem tw12079090850143645810:True:=⟨⟩
theorem tw10098982382845531953:True:=⟨⟩
theorem tw16662666404817353641:True:=⟨⟩
theorem tw187213844696144301:True:=⟨⟩
theorem tw4224360909046667079:True:=⟨⟩
theorem tw2023734329503313567:True:=⟨⟩
theorem tw4135128970768371426:True:=⟨⟩
theorem tw11961048912445753702:True:=⟨⟩
theorem tw7713875479404714033:True:=⟨⟩
theorem tw9880161839923780819:True:=⟨⟩
theorem tw4768805136537108371:True:=⟨⟩
theorem tw9522172210624442932:True:=⟨⟩
theorem tw10323023499013898174:True:=⟨⟩
theorem tw14884082807619528368:True:=⟨⟩
theorem tw8318387284663996021:True:=⟨⟩
theorem tw12130405589991723787:True:=⟨⟩
theorem tw15795115715578725304:True:=⟨⟩
theorem tw5866747121396928991:True:=⟨⟩
theorem tw8608868202030406355:True:=⟨⟩
theorem tw17749545856314116581:True:=⟨⟩
theorem tw4887302081442155870:True:=⟨⟩
theorem tw7515719738571105922:True:=⟨⟩
theorem tw7275213882293882989:True:=⟨⟩
theorem tw13191761370393973096:True:=⟨⟩
theorem tw4972957635909805069:True:=⟨⟩
theorem tw15550914924117507635:True:=⟨⟩
theorem tw6148814686586774158:True:=⟨⟩
theorem tw7257949867402632375:True:=⟨⟩
theorem tw13035106708175327497:True:=⟨⟩
theorem tw3695319111819527320:True:=⟨⟩
theorem tw7967635210466787363:True:=⟨⟩
theorem tw4204259779284377025:True:=⟨⟩
theorem tw14290889893157011948:True:=⟨⟩
theorem tw9233660106223024556:True:=⟨⟩
theorem tw2752313090332143931:True:=⟨⟩
theorem tw18147846677692344192:True:=⟨⟩
theorem tw13081638551614436023:True:=⟨⟩
theorem tw12115449107316614897:True:=⟨⟩
theorem tw10962909095188479870:True:=⟨⟩
theorem tw2251163495268512892:True:=⟨⟩
theorem tw3792653001356923729:True:=⟨⟩
theorem tw11142802710623096879:True:=⟨⟩
theorem tw11929106963251496702:True:=⟨⟩
theorem tw16840847902064130149:True:=⟨⟩
theorem tw2182878679307543721:True:=⟨⟩
theorem tw6816938245570507233:True:=⟨⟩
theorem tw3339140239026467608:True:=⟨⟩
theorem tw15046986063906776122:True:=⟨⟩
theorem tw3592376850862067481:True:=⟨⟩
theorem tw4296325632834247921:True:=⟨⟩
theorem tw16819087623184856253:True:=⟨⟩
theorem tw9535625749442791027:True:=⟨⟩
theorem tw4550018972589692322:True:=⟨⟩
theorem tw11669510762207187089:True:=⟨⟩
theorem tw11980354248920743774:True:=⟨⟩
theorem tw17311208660103117858:True:=⟨⟩
theorem tw2557332292497294264:True:=⟨⟩
theorem tw13325907785961803896:True:=⟨⟩
theorem tw4297499245091996732:True:=⟨⟩
theorem tw14865939227896622317:True:=⟨⟩
theorem tw984342388825416055:True:=⟨⟩
theorem tw12876816960111454018:True:=⟨⟩
theorem tw16933166651511289168:True:=⟨⟩
theorem tw17108086027972368034:True:=⟨⟩
theorem tw17339933249981990856:True:=⟨⟩
theorem tw11176622010077774576:True:=⟨⟩
theorem tw11285823110065052810:True:=⟨⟩
theorem tw768870881981253211:True:=⟨⟩
theorem tw11941408695228801198:True:=⟨⟩
theorem tw8721535617663536521:True:=⟨⟩
theorem tw18294587051701214153:True:=⟨⟩
theorem tw8249093965870840473:True:=⟨⟩
theorem tw16916204430041247961:True:=⟨⟩
theorem tw9619542920784323862:True:=⟨⟩
theorem tw6170159605846313288:True:=⟨⟩
theorem tw15376890919553830355:True:=⟨⟩
theorem tw13183439886581037072:True:=⟨⟩
theorem tw13863271780938082469:True:=⟨⟩
theorem tw18247111381843383451:True:=⟨⟩
theorem tw16558150535006224302:True:=⟨⟩
theorem tw6158128385665307629:True:=⟨⟩
theorem tw5789923607222966256:True:=⟨⟩
theorem tw4445032395875705570:True:=⟨⟩
theorem tw9452740789224359265:True:=⟨⟩
theorem tw9350516595589349408:True:=⟨⟩
theorem tw11542972750803964857:True:=⟨⟩
theorem tw12581120698853680898:True:=⟨⟩
theorem tw2560902617251000656:True:=⟨⟩
theorem tw9409506680788575808:True:=⟨⟩
theorem tw18065422756881724025:True:=⟨⟩
theorem tw10971494012217147765:True:=⟨⟩
theorem tw10837911594729334885:True:=⟨⟩
theorem tw3358460560724608514:True:=⟨⟩
theorem tw3518951277744453355:True:=⟨⟩
theorem tw14779485641489905396:True:=⟨⟩
theorem tw17329942546634249972:True:=⟨⟩
theorem tw3653404905405870385:True:=⟨⟩
theorem tw8413852878515641487:True:=⟨⟩
theorem tw15702068076419013721:True:=⟨⟩
theorem tw15380237936819803414:True:=⟨⟩
theorem tw13905631540404679205:True:=⟨⟩
theorem tw5629353004157205056:True:=⟨⟩
theorem tw2131817858311220256:True:=⟨⟩
theorem tw16826916224940730685:True:=⟨⟩
theorem tw7983707285915205935:True:=⟨⟩
theorem tw2989660867894985682:True:=⟨⟩
theorem tw2890181358779991821:True:=⟨⟩
theorem tw15208266069121016673:True:=⟨⟩
theorem tw9205463492159519837:True:=⟨⟩
theorem tw7991533423377962654:True:=⟨⟩
theorem tw9435713202321108507:True:=⟨⟩
theorem tw3014875073477737679:True:=⟨⟩
theorem tw12721295814299316391:True:=⟨⟩
theorem tw15134854204787317572:True:=⟨⟩
theorem tw673851403516494849:True:=⟨⟩
theorem tw650831814312860117:True:=⟨⟩
theorem tw9630806123740800848:True:=⟨⟩
theorem tw7287256786062678251:True:=⟨⟩
theorem tw5727307692335228150:True:=⟨⟩
theorem tw5088913143064576052:True:=⟨⟩
theorem tw9329643800063639552:True:=⟨⟩
theorem tw146428687332600545:True:=⟨⟩
theorem tw350351061647574202:True:=⟨⟩
theorem tw8836478377944797053:True:=⟨⟩
theorem tw2181040525439232384:True:=⟨⟩
theorem tw15056052797570707476:True:=⟨⟩
theorem tw7413249380964671329:True:=⟨⟩
theorem tw8277454422810902960:True:=⟨⟩
theorem tw7165397472694525684:True:=⟨⟩
theorem tw15886364315779036930:True:=⟨⟩
theorem tw2785134341918674379:True:=⟨⟩
theorem tw12885700528096523347:True:=⟨⟩
theorem tw6957814391857234034:True:=⟨⟩
theorem tw2174101795533956493:True:=⟨⟩
theorem tw635355896645666932:True:=⟨⟩
theorem tw3422109440614076595:True:=⟨⟩
theorem tw5958355835864833628:True:=⟨⟩
theorem tw16123693927002731794:True:=⟨⟩
theorem tw13655668437326244523:True:=⟨⟩
theorem tw4416516245214704108:True:=⟨⟩
theorem tw3436655714335772669:True:=⟨⟩
theorem tw2983245755897929628:True:=⟨⟩
theorem tw18090307195471633516:True:=⟨⟩
theorem tw7140423374764398463:True:=⟨⟩
theorem tw5705553324278921828:True:=⟨⟩
theorem tw8161304967395311046:True:=⟨⟩
theorem tw9341521335665626985:True:=⟨⟩
theorem tw9452531960565086205:True:=⟨⟩
theorem tw1173360424879521498:True:=⟨⟩
theorem tw15778014663292537211:True:=⟨⟩
theorem tw9341764753266058472:True:=⟨⟩
theorem tw3133356037682547575:True:=⟨⟩
theorem tw5528779742657509137:True:=⟨⟩
theorem tw9586731481325854391:True:=⟨⟩
end PySem.W.Fast
open PySem PySem.W PyProof.Rows
set_option maxRecDepth 100000 in
set_option maxHeartbeats 0 in
theorem PySem.Challenge.cw_printwell_k10_whole_best_holds : PySem.Challenge.rw_printwell_k10_whole_best.Holds := by
  w_on; o_law; k_head; (case hw => w_witness2)
  k_fill
  refine Pq.walk (l := PySem.Challenge.rw_printwell_k10_whole_best) rfl rfl (fun w h Y => PySem.W.kIn_of Y) ?F
  case F =>
    intro w mg fa h KX G hmg
    refine' Pq.all_mk KX G hmg ?z_C ?z_CN ?z_CS ?eB ?bD ?ail ?lil ?cil ?kil ?asg ?lsg ?csg ?ksg ?acc ?lcc ?ccc ?kcc ?awi ?lwi ?cwi ?kwi ?aou ?lou ?cou ?kou ?asd ?lsd ?csd ?ksd ?alf ?llf ?clf ?klf ?anx ?lnx ?cnx ?knx ?ald ?lld ?cld ?kld ?aae ?lae ?cae ?kae ?aud ?lud ?cud ?kud ?ach ?lch ?cch ?kch ?apr ?lpr ?cpr ?kpr ?ace ?lce ?cce ?kce ?ami ?lmi ?cmi ?kmi ?awh ?lwh ?cwh ?kwh ?asi ?lsi ?csi ?ksi ?atx ?ltx ?ctx ?ktx ?apl ?lpl ?cpl ?kpl ?aly ?lly ?cly ?kly ?ass ?lss ?css ?kss ?acs ?lcs ?ccs ?kcs ?aal ?lal ?cal ?kal ?awd ?lwd ?cwd ?kwd ?ala ?lla ?cla ?kla ?aini ?iini ?lini ?cini ?kini ?aput ?iput ?lput ?cput ?kput ?arow ?irow ?lrow ?crow ?krow ?axin ?ixin ?lxin ?cxin ?kxin ?axnu ?ixnu ?lxnu ?cxnu ?kxnu ?axle ?ixle ?lxle ?cxle ?kxle ?axro ?ixro ?lxro ?cxro ?kxro ?axlf ?ixlf ?lxlf ?cxlf ?kxlf ?axtw ?ixtw ?lxtw ?cxtw ?kxtw ?axpl ?ixpl ?lxpl ?cxpl ?kxpl ?axrd ?ixrd ?lxrd ?cxrd ?kxrd ?asin ?isin ?lsin ?csin ?ksin ?assg ?issg ?lssg ?cssg ?kssg ?asbk ?isbk ?lsbk ?csbk ?ksbk ?assp ?issp ?lssp ?cssp ?kssp ?asen ?isen ?lsen ?csen ?ksen ?asmi ?ismi ?lsmi ?csmi ?ksmi ?aswo ?iswo ?lswo ?cswo ?kswo ?asbe ?isbe ?lsbe ?csbe ?ksbe ?asle ?isle ?lsle ?csle ?ksle ?asfs ?isfs ?lsfs ?csfs ?ksfs ?asfd ?isfd ?lsfd ?csfd ?ksfd ?pg_C ?hd_C ?po_C ?sa_C ?mk_C ?kc_C ?n_C_pieces ?n_C_column ?pg_CN ?hd_CN ?po_CN ?sa_CN ?mk_CN ?kc_CN ?n_CN_listed ?n_CN_numbers ?n_CN_lengths ?pg_CS ?hd_CS ?po_CS ?sa_CS ?mk_CS ?kc_CS ?n_CS_nodes ?n_CS_width ?n_CS_known ?zlen ?zint ?zlist ?zstr ?zbool ?zisinstance ?ztuple ?zmin ?zmax ?zreversed ?zsorted ?zdict ?zall ?xo ?iB ?lB ?lC ?q1 ?q2 ?q3 ?q4 ?gW ?lW ?dW1 ?dW2 ?r1 ?r2 ?r3 ?gS ?r4 ?q5 ?q6 ?q7
    (case z_C => k_is)
    (case z_CN => k_is)
    (case z_CS => k_is)
    (case eB => k_is)
    (case bD => k_is)
    (case ail => k_is)
    (case lil => k_is)
    (case cil => k_is)
    (case kil => k_is)
    (case asg => k_is)
    (case lsg => k_is)
    (case csg => k_is)
    (case ksg => k_is)
    (case acc => k_is)
    (case lcc => k_is)
    (case ccc => k_is)
    (case kcc => k_is)
    (case awi => k_is)
    (case lwi => k_is)
    (case cwi => k_is)
    (case kwi => k_is)
    (case aou => k_is)
    (case lou => k_is)
    (case cou => k_is)
    (case kou => k_is)
    (case asd => k_is)
    (case lsd => k_is)
    (case csd => k_is)
    (case ksd => k_is)
    (case alf => k_is)
    (case llf => k_is)
    (case clf => k_is)
    (case klf => k_is)
    (case anx => k_is)
    (case lnx => k_is)
    (case cnx => k_is)
    (case knx => k_is)
    (case ald => k_is)
    (case lld => k_is)
    (case cld => k_is)
    (case kld => k_is)
    (case aae => k_is)
    (case lae => k_is)
    (case cae => k_is)
    (case kae => k_is)
    (case aud => k_is)
    (case lud => k_is)
    (case cud => k_is)
    (case kud => k_is)
    (case ach => k_is)
    (case lch => k_is)
    (case cch => k_is)
    (case kch => k_is)
    (case apr => k_is)
    (case lpr => k_is)
    (case cpr => k_is)
    (case kpr => k_is)
    (case ace => k_is)
    (case lce => k_is)
    (case cce => k_is)
    (case kce => k_is)
    (case ami => k_is)
    (case lmi => k_is)
    (case cmi => k_is)
    (case kmi => k_is)
    (case awh => k_is)
    (case lwh => k_is)
    (case cwh => k_is)
    (case kwh => k_is)
    (case asi => k_is)
    (case lsi => k_is)
    (case csi => k_is)
    (case ksi => k_is)
    (case atx => k_is)
    (case ltx => k_is)
    (case ctx => k_is)
    (case ktx => k_is)
    (case apl => k_is)
    (case lpl => k_is)
    (case cpl => k_is)
    (case kpl => k_is)
    (case aly => k_is)
    (case lly => k_is)
    (case cly => k_is)
    (case kly => k_is)
    (case ass => k_is)
    (case lss => k_is)
    (case css => k_is)
    (case kss => k_is)
    (case acs => k_is)
    (case lcs => k_is)
    (case ccs => k_is)
    (case kcs => k_is)
    (case aal => k_is)
    (case lal => k_is)
    (case cal => k_is)
    (case kal => k_is)
    (case awd => k_is)
    (case lwd => k_is)
    (case cwd => k_is)
    (case kwd => k_is)
    (case ala => k_is)
    (case lla => k_is)
    (case cla => k_is)
    (case kla => k_is)
    (case aini => k_is)
    (case iini => k_is)
    (case lini => k_is)
    (case cini => k_is)
    (case kini => k_is)
    (case aput => k_is)
    (case iput => k_is)
    (case lput => k_is)
    (case cput => k_is)
    (case kput => k_is)
    (case arow => k_is)
    (case irow => k_is)
    (case lrow => k_is)
    (case crow => k_is)
    (case krow => k_is)
    (case axin => k_is)
    (case ixin => k_is)
    (case lxin => k_is)
    (case cxin => k_is)
    (case kxin => k_is)
    (case axnu => k_is)
    (case ixnu => k_is)
    (case lxnu => k_is)
    (case cxnu => k_is)
    (case kxnu => k_is)
    (case axle => k_is)
    (case ixle => k_is)
    (case lxle => k_is)
    (case cxle => k_is)
    (case kxle => k_is)
    (case axro => k_is)
    (case ixro => k_is)
    (case lxro => k_is)
    (case cxro => k_is)
    (case kxro => k_is)
    (case axlf => k_is)
    (case ixlf => k_is)
    (case lxlf => k_is)
    (case cxlf => k_is)
    (case kxlf => k_is)
    (case axtw => k_is)
    (case ixtw => k_is)
    (case lxtw => k_is)
    (case cxtw => k_is)
    (case kxtw => k_is)
    (case axpl => k_is)
    (case ixpl => k_is)
    (case lxpl => k_is)
    (case cxpl => k_is)
    (case kxpl => k_is)
    (case axrd => k_is)
    (case ixrd => k_is)
    (case lxrd => k_is)
    (case cxrd => k_is)
    (case kxrd => k_is)
    (case asin => k_is)
    (case isin => k_is)
    (case lsin => k_is)
    (case csin => k_is)
    (case ksin => k_is)
    (case assg => k_is)
    (case issg => k_is)
    (case lssg => k_is)
    (case cssg => k_is)
    (case kssg => k_is)
    (case asbk => k_is)
    (case isbk => k_is)
    (case lsbk => k_is)
    (case csbk => k_is)
    (case ksbk => k_is)
    (case assp => k_is)
    (case issp => k_is)
    (case lssp => k_is)
    (case cssp => k_is)
    (case kssp => k_is)
    (case asen => k_is)
    (case isen => k_is)
    (case lsen => k_is)
    (case csen => k_is)
    (case ksen => k_is)
    (case asmi => k_is)
    (case ismi => k_is)
    (case lsmi => k_is)
    (case csmi => k_is)
    (case ksmi => k_is)
    (case aswo => k_is)
    (case iswo => k_is)
    (case lswo => k_is)
    (case cswo => k_is)
    (case kswo => k_is)
    (case asbe => k_is)
    (case isbe => k_is)
    (case lsbe => k_is)
    (case csbe => k_is)
    (case ksbe => k_is)
    (case asle => k_is)
    (case isle => k_is)
    (case lsle => k_is)
    (case csle => k_is)
    (case ksle => k_is)
    (case asfs => k_is)
    (case isfs => k_is)
    (case lsfs => k_is)
    (case csfs => k_is)
    (case ksfs => k_is)
    (case asfd => k_is)
    (case isfd => k_is)
    (case lsfd => k_is)
    (case csfd => k_is)
    (case ksfd => k_is)
    (case pg_C => k_is)
    (case hd_C => k_is)
    (case po_C => k_is)
    (case sa_C => k_is)
    (case mk_C => k_is)
    (case kc_C => k_is)
    (case n_C_pieces => k_is)
    (case n_C_column => k_is)
    (case pg_CN => k_is)
    (case hd_CN => k_is)
    (case po_CN => k_is)
    (case sa_CN => k_is)
    (case mk_CN => k_is)
    (case kc_CN => k_is)
    (case n_CN_listed => k_is)
    (case n_CN_numbers => k_is)
    (case n_CN_lengths => k_is)
    (case pg_CS => k_is)
    (case hd_CS => k_is)
    (case po_CS => k_is)
    (case sa_CS => k_is)
    (case mk_CS => k_is)
    (case kc_CS => k_is)
    (case n_CS_nodes => k_is)
    (case n_CS_width => k_is)
    (case n_CS_known => k_is)
    (case zlen => k_is)
    (case zint => k_is)
    (case zlist => k_is)
    (case zstr => k_is)
    (case zbool => k_is)
    (case zisinstance => k_is)
    (case ztuple => k_is)
    (case zmin => k_is)
    (case zmax => k_is)
    (case zreversed => k_is)
    (case zsorted => k_is)
    (case zdict => k_is)
    (case zall => k_is)
    (case xo => k_exc)
    (case iB => kit_is)
    (case lB => k_is)
    (case lC => exact rfl)
    (case q1 => rfl)
    (case q2 => rfl)
    (case q3 => rfl)
    (case q4 => rfl)
    (case gW => k_is)
    (case lW => k_is)
    (case dW1 => exact rfl)
    (case dW2 => exact rfl)
    (case r1 => rfl)
    (case r2 => rfl)
    (case r3 => rfl)
    (case gS => k_is)
    (case r4 => rfl)
    (case q5 => kernel_rfl)
    (case q6 => kernel_rfl)
    (case q7 => rfl)

