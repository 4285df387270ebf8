import PyProof.Rows.All
import Wide.All
import OpenK.AllK
import Wide.FinOn
import PyProof.EqAt
import PyProof.EqKinds
import PyProof.TupleCall
import Open.SpecLaws
import KE.OsHead
import KE.OsGo
import KE.BitLaws
import PyProof.Rows.SortShellAny
import PyFlatLaws
import Sd19Spec
import PySd19
import PySem.Challenge.RW_pagedmemory_s01_answers
set_option Elab.async false
set_option linter.all false
set_option maxRecDepth 100000
namespace L2
open PySem PySem.Spec PyProof.Rows
abbrev Key:=Sum Int Str
def keyIs:Key→Value→Bool
 | .inl k,v=>Value.isInt k v
 | .inr x,v=>Value.isStrOf x v
def keyH (w:World):Key→Int
 | .inl k=>hashInt k
 | .inr x=>hashStr w x
theorem keyIs_shape:∀{k:Key} {v:Value},keyIs k v=true→(∃i t,k=Sum.inl i∧v=Value.int i t)∨(∃x t,k=Sum.inr x∧v=Value.str x t)
  | .inl i,v,h=>by
    obtain⟨t,e⟩:=Value.isInt_shape (k:=i) (v:=v) h
    exact .inl ⟨i,t,rfl,e⟩
  | .inr x,v,h=>by
    obtain⟨t,e⟩:=Value.isStrOf_shape (x:=x) (v:=v) h
    exact .inr ⟨x,t,rfl,e⟩
theorem keyIs_int (i:Int) (t:Tok):keyIs (.inl i) (.int i t)=true:=by simp[keyIs,Value.isInt]
theorem keyIs_str (x:Str) (t:Tok):keyIs (.inr x) (.str x t)=true:=by simp[keyIs,Value.isStrOf]
theorem key_ll (a b:Int):decide ((Sum.inl a:Key)=Sum.inl b)=(a==b):=by
 by_cases e:a=b
 ·subst e;simp
 ·have h:¬(Sum.inl a:Key)=Sum.inl b:=fun q=>e (Sum.inl.inj q)
  rw[decide_eq_false h]
  exact(beq_eq_false_iff_ne.mpr e).symm
theorem key_rr (a b:Str):decide ((Sum.inr a:Key)=Sum.inr b)=decide (a=b):=by
 by_cases e:a=b
 ·subst e;simp
 ·have h:¬(Sum.inr a:Key)=Sum.inr b:=fun q=>e (Sum.inr.inj q)
  rw[decide_eq_false h,decide_eq_false e]
theorem key_lr (a:Int) (b:Str):decide ((Sum.inl a:Key)=Sum.inr b)=false:=decide_eq_false (fun q=>nomatch q)
theorem key_rl (a:Str) (b:Int):decide ((Sum.inr a:Key)=Sum.inl b)=false:=decide_eq_false (fun q=>nomatch q)
def mixKind (prog:Program) (w:World):PySem.KeyKind prog w Key where
  is:=keyIs
  hash:=keyH w
  inj := fun v a b ha hb => by
    rcases keyIs_shape ha with⟨i,t,rfl,rfl⟩|⟨x,t,rfl,rfl⟩
    · rcases keyIs_shape hb with⟨j,u,rfl,e⟩|⟨y,u,rfl,e⟩
      · injection e with e1 _;rw[e1]
      · exact nomatch e
    · rcases keyIs_shape hb with⟨j,u,rfl,e⟩|⟨y,u,rfl,e⟩
      · exact nomatch e
      · injection e with e1 _;rw[e1]
  byValue:=fun k v h=>by
    rcases keyIs_shape h with⟨i,t,rfl,rfl⟩|⟨x,t,rfl,rfl⟩<;>rfl
  pyHash:=fun hv h=>by
    rcases keyIs_shape hv with⟨i,t,rfl,rfl⟩|⟨x,t,rfl,rfl⟩
    · exact wpAny_pyHash_int h
    · exact wpAny_pyHash_str h
  eqBool:=fun hu hv h=>by
    rcases keyIs_shape hu with⟨i,t,rfl,rfl⟩|⟨x,t,rfl,rfl⟩
    · rcases keyIs_shape hv with⟨j,u,rfl,rfl⟩|⟨y,u,rfl,rfl⟩
      · rw[key_ll]at h;exact wpAny_eqBool_int h
      · rw[key_lr]at h;exact SeqAt.EqAt.int_str i t y u _ _ _ _ h
    · rcases keyIs_shape hv with⟨j,u,rfl,rfl⟩|⟨y,u,rfl,rfl⟩
      · rw[key_rl]at h;exact SeqAt.EqAt.str_int x t j u _ _ _ _ h
      · rw[key_rr]at h;exact wpAny_eqBool_str h
  «strs»:=fun k x t v h=>by
    rcases keyIs_shape h with⟨i,u,rfl,e⟩|⟨y,u,rfl,e⟩
    · exact nomatch e
    · injection e with e1 _
      subst e1
      cases v<;>rfl
theorem mixKind_int (prog:Program) (w:World) (i:Int) (t:Tok):(mixKind prog w).is (.inl i) (.int i t)=true:=keyIs_int i t
theorem mixKind_str (prog:Program) (w:World) (x:Str) (t:Tok):(mixKind prog w).is (.inr x) (.str x t)=true:=keyIs_str x t
end L2
namespace L2
open PySem PySem.Spec PyProof.Rows
inductive V where
 | non|bl (b:Bool)|int (i:Int)|str (x:Str)|byt (b:Array UInt8)|flt (b:UInt64)|ref (a:Addr)|ty (n:String)
 deriving DecidableEq
def RelV:V→Value→Prop
 | .non,u=>u=Value.none
 | .bl b,u=>u=Value.bool b
 | .int i,u=>∃t,u=Value.int i t
 | .str x,u=>∃t,u=Value.str x t
 | .byt b,u=>∃t,u=Value.bytes b t
 | .flt b,u=>∃t,u=Value.float b t
 | .ref a,u=>u=Value.ref a
 | .ty n,u=>u=Value.type n
abbrev Vals:List V→List Value→Prop:=Paired RelV
theorem Vals.length {xs:List V} {us:List Value} (r:Vals xs us):xs.length=us.length:=Paired.length r
theorem Vals.get:∀{xs:List V} {us:List Value} {i:Nat} {x:V},Vals xs us→xs[i]? = some x→∃u,us[i]? = some u∧RelV x u
  | _,_,_,_,.nil,e=>by simp at e
  | _,_,0,_,.cons r _,e=>by simp at e;subst e;exact⟨_,rfl,r⟩
  | _,_,i+1,x,.cons _ t,e=>by
    obtain⟨u,h1,h2⟩:=Vals.get (i:=i) (x:=x) t (by simpa using e)
    exact⟨u,by simpa using h1,h2⟩
theorem Vals.set {x:V} {u:Value} (r:RelV x u):∀{xs:List V} {us:List Value} (i:Nat),Vals xs us→Vals (xs.set i x) (us.set i u)
 | _,_,_,.nil=>.nil
 | _,_,0,.cons _ t=>.cons r t
 | _,_,i+1,.cons q t=>.cons q (Vals.set r i t)
theorem Vals.append:∀{xs ys:List V} {us ws:List Value},Vals xs us→Vals ys ws→Vals (xs++ys) (us++ws)
 | _,_,_,_,.nil,s=>s
 | _,_,_,_,.cons r t,s=>.cons r (Vals.append t s)
theorem Vals.take:∀{xs:List V} {us:List Value} (n:Nat),Vals xs us→Vals (xs.take n) (us.take n)
 | _,_,0,_=>.nil
 | _,_,_+1,.nil=>.nil
 | _,_,n+1,.cons r t=>.cons r (Vals.take n t)
theorem Vals.drop:∀{xs:List V} {us:List Value} (n:Nat),Vals xs us→Vals (xs.drop n) (us.drop n)
 | _,_,0,r=>r
 | _,_,_+1,.nil=>.nil
 | _,_,n+1,.cons _ t=>Vals.drop n t
def RelO:Option V→Option Value→Prop
 | some v,some u=>RelV v u
 | none,none=>True
 | _,_=>False
def KV {κ:Type}:List (κ×V)→List (κ×Value)→Prop:=Paired fun(p:κ×V) (q:κ×Value)=>p.1=q.1∧RelV p.2 q.2
def kV:Key→V
 | .inl i=>.int i
 | .inr x=>.str x
inductive HO where
 | lst (xs:List V)
 | tup (xs:List V)
 | dK (kvs:List (Key×V))|dT (kvs:List (List Key×V))
 | set (S:Int→Bool) (n:Nat)
 | ins (C dx:Addr) (fs:List (Str×V))
 | own (x:Addr)
 | xd (fs:List (Str×V))
 | met (f x:Addr)
 | rng (lo hi:Int)
 | frz (o:Obj) (u:HO)
 | tbl (ps:Array Value)
 | ext (φ:Heap→Prop)
abbrev Hp:=Addr→Option HO
def upd (H:Hp) (a:Addr) (o:HO):Hp:=fun b=>if b=a then some o else H b
theorem upd_same {H:Hp} {a:Addr} {o:HO}:upd H a o a=some o:=by unfold upd;rw[if_pos rfl]
theorem upd_ne {H:Hp} {a b:Addr} {o:HO} (h:b≠a):upd H a o b=H b:=by unfold upd;rw[if_neg h]
theorem upd_upd {H:Hp} {a:Addr} {o u:HO}:upd (upd H a o) a u=upd H a u:=by
 funext b;unfold upd;split<;>rfl
theorem ne_of {H:Hp} {a b:Addr} {o u:HO} (h:H a=some o) (h':H b=some u) (d:o≠u):a≠b:=by
 intro e;subst e;rw[h]at h';exact d (Option.some.inj h')
theorem ne_of_none {H:Hp} {a b:Addr} {o:HO} (h:H a=some o) (h':H b=none):a≠b:=by
 intro e;subst e;rw[h]at h';cases h'
section
variable (P:Program) (w:World)
def ObjOk (H:Hp) (h:Heap) (a:Addr):HO→Prop
 | .lst xs=>xs.length≤sizeLine∧∃(its:List Value) (n:Nat),Vals xs its∧h.get? a=some { cls:=.type "list",data:=.seq its.toArray n }
 | .tup xs=>xs.length≤sizeLine∧∃its:List Value,Vals xs its∧IsTup h a its.toArray
 | .dK kvs=>kvs.length≤sizeLine∧(a==sysModules)=false∧∃vs,KV kvs vs∧h.DictOf (mixKind P w) a vs
 | .dT kvs=>kvs.length≤sizeLine∧(a==sysModules)=false∧∃xs:List (List Key×Addr×Value),
   Paired (fun(p:List Key×V) (q:List Key×Addr×Value)=>p.1=q.1∧H q.2.1=some (.tup (p.1.map kV))∧RelV p.2 q.2.2) kvs xs ∧
   ∃o es ep,h.get? a=some o∧o.ExactDict∧o.data=.dict es ep∧es.toList=xs.map (entryOfKey (tupleKind (mixKind P w)))∧(xs.map (·.1)).Nodup
 | .set S n=>h.SetOf (intKind P w) a S n
 | .ins C dx fs=>H dx=some (.own a)∧fs.length≤1000∧dx≠a∧h.get? a=some (PySem.W.instObj C dx) ∧
   ∃mA,h.Ns1 dx mA∧(∀f,RelO (fs.lookup f) (mA f))∧PySem.Within mA (fs.map (·.1))
 | .own _=>∃o,h.get? a=some o
 | .xd fs=>∃mA,h.Ns1 a mA∧∀f,RelO (fs.lookup f) (mA f)
 | .rng lo hi=>∃t u v,h.get? a=some { cls:=.type "range",data:=.fields #[.int lo t,.int hi u,.int 1 v] }
 | .frz o u=>h.get? a=some o∧ObjOk H h a u
 | .tbl ps=>h.get? a=some { cls:=.none,data:=.fields ps }
 | .met f x=>h.get? a=some (PySem.W.methodObj (.ref f) (.ref x))
 | .ext φ=>φ h∧(∃o,h.get? a=some o)∧∀h1 h2:Heap,φ h1→(∀o,h1.get? a=some o→h2.get? a=some o)→φ h2
def HOk (H:Hp) (h:Heap):Prop:=∀a o,H a=some o→ObjOk P w H h a o
end
section
variable {P:Program} {w:World} {H H':Hp} {h h':Heap} {a:Addr} {o:HO}
theorem ObjOk.lt (x:ObjOk P w H h a o):a<h.objs.size:=by
 cases o with
 | lst xs=>obtain⟨_,_,_,_,e⟩:=x;exact Heap.lt_size e
 | tup xs=>obtain⟨_,_,_,p⟩:=x;exact p.lt
 | dK kvs=>obtain⟨_,_,_,_,o,_,_,e,_⟩:=x;exact Heap.lt_size e
 | dT kvs=>obtain⟨_,_,_,_,o,_,_,e,_⟩:=x;exact Heap.lt_size e
 | set S n=>obtain⟨o,_,_,_,e,_⟩:=x;exact Heap.lt_size e
 | ins C dx fs=>obtain⟨_,_,_,e,_⟩:=x;exact Heap.lt_size e
 | own y=>obtain⟨_,e⟩:=x;exact Heap.lt_size e
 | xd fs=>obtain⟨_,⟨_,_,_,e,_⟩,_⟩:=x;exact Heap.lt_size e
 | rng lo hi=>obtain⟨_,_,_,e⟩:=x;exact Heap.lt_size e
 | frz ob u=>obtain⟨e,_⟩:=x;exact Heap.lt_size e
 | tbl ps=>exact Heap.lt_size (show h.get? a=some _ from x)
 | met f y=>exact Heap.lt_size (show h.get? a=some _ from x)
 | ext φ=>obtain⟨_,⟨_,e⟩,_⟩:=x;exact Heap.lt_size e
theorem Paired.mapP {α β:Type} {F G:α→β→Prop}:∀{l₁:List α} {l₂:List β},Paired F l₁ l₂→(∀a b,F a b→G a b)→Paired G l₁ l₂
 | _,_,.nil,_=>.nil
 | _,_,.cons r t,f=>.cons (f _ _ r) (Paired.mapP t f)
theorem ObjOk.stay (x:ObjOk P w H h a o) (k:∀b u,(b=a∨H b=some (.own a))→h.get? b=some u→h'.get? b=some u)
    (ho:∀b,H b=some (.own a)→H' b=some (.own a)) (ht:∀b xs,H b=some (.tup xs)→H' b=some (.tup xs)):ObjOk P w H' h' a o:=by
  induction o with
  | lst xs=>obtain⟨z,its,n,r,e⟩:=x;exact⟨z,its,n,r,k _ _ (.inl rfl) e⟩
  | tup xs=>obtain⟨z,its,r,ob,e,c⟩:=x;exact⟨z,its,r,ob,k _ _ (.inl rfl) e,c⟩
  | dK kvs=>obtain⟨z,y,vs,r,ob,es,ep,e,c⟩:=x;exact⟨z,y,vs,r,ob,es,ep,k _ _ (.inl rfl) e,c⟩
  | dT kvs =>
    obtain⟨z,y,xs,r,ob,es,ep,e,c⟩:=x
    exact⟨z,y,xs,Paired.mapP r fun p q z=>⟨z.1,ht _ _ z.2.1,z.2.2⟩,ob,es,ep,k _ _ (.inl rfl) e,c⟩
  | set S n=>obtain⟨ob,es,ep,t,e,c⟩:=x;exact⟨ob,es,ep,t,k _ _ (.inl rfl) e,c⟩
  | ins C dx fs =>
    obtain⟨d,z,ne,e,mA,⟨od,es,ep,e2,c⟩,r⟩:=x
    exact⟨ho _ d,z,ne,k _ _ (.inl rfl) e,mA,⟨od,es,ep,k _ _ (.inr d) e2,c⟩,r⟩
  | own y=>obtain⟨ob,e⟩:=x;exact⟨ob,k _ _ (.inl rfl) e⟩
  | xd fs=>obtain⟨mA,⟨od,es,ep,e,c⟩,r⟩:=x;exact⟨mA,⟨od,es,ep,k _ _ (.inl rfl) e,c⟩,r⟩
  | rng lo hi=>obtain⟨t,u,v,e⟩:=x;exact⟨t,u,v,k _ _ (.inl rfl) e⟩
  | frz ob u ih=>obtain⟨e,q⟩:=x;exact⟨k _ _ (.inl rfl) e,ih q⟩
  | tbl ps =>
    have e:h.get? a=some { cls:=.none,data:=.fields ps }:=x
    show h'.get? a=some { cls:=.none,data:=.fields ps }
    exact k a _ (.inl rfl) e
  | met f y =>
    have e:h.get? a=some (PySem.W.methodObj (.ref f) (.ref y)):=x
    show h'.get? a=some (PySem.W.methodObj (.ref f) (.ref y))
    exact k a _ (.inl rfl) e
  | ext φ=>obtain⟨p,⟨o,e⟩,st⟩:=x;exact⟨st _ _ p fun o q=>k _ _ (.inl rfl) q,⟨o,k _ _ (.inl rfl) e⟩,st⟩
theorem HOk.lt (x:HOk P w H h) (e:H a=some o):a<h.objs.size:=(x a o e).lt
theorem HOk.fresh (x:HOk P w H h) (e:h.objs.size≤a):H a=none:=by
 cases q:H a with
 | none=>rfl
 | some u=>exact absurd (Nat.lt_of_lt_of_le (x.lt q) e) (Nat.lt_irrefl _)
theorem HOk.kept (x:HOk P w H h) (k:∀b u,h.get? b=some u→h'.get? b=some u):HOk P w H h':=fun a o e =>
 (x a o e).stay (fun b u _ q=>k b u q) (fun _ q=>q) fun _ _ q=>q
theorem HOk.laid (x:HOk P w H h) (k:∀b u,h.get? b=some u→h'.get? b=some u) (hp:h.objs.size≤a) (new:ObjOk P w (upd H a o) h' a o):HOk P w (upd H a o) h':=fun b u e=>by
 have hn:=x.fresh hp
 by_cases hb:b=a
 ·subst hb;rw[upd_same]at e;cases e;exact new
 ·rw[upd_ne hb]at e
  exact(x b u e).stay (fun c v _ q=>k c v q) (fun c q=>by rw[upd_ne (ne_of_none q hn)];exact q) fun c xs q=>by rw[upd_ne (ne_of_none q hn)];exact q
end
def Rd (H:Hp) (a:Addr) (u:HO):Prop:=H a=some u∨∃o,H a=some (.frz o u)
theorem Rd.ok {P:Program} {w:World} {H:Hp} {h:Heap} {a:Addr} {u:HO} (r:Rd H a u) (x:HOk P w H h):ObjOk P w H h a u:=by
 rcases r with r|⟨o,r⟩
 ·exact x a u r
 ·obtain⟨_,q⟩:=x a _ r
  exact q
def Mut:Option HO→Prop
 | some (.lst _)=>True
 | some (.dK _)=>True
 | some (.dT _)=>True
 | some (.set _ _)=>True
 | some (.ins _ _ _)=>True
 | some (.ext _)=>True
 | _=>False
section
variable {P:Program} {w:World} {H:Hp} {h h':Heap} {x e:Addr} {o':HO}
theorem HOk.write (ok:HOk P w H h) (mu:Mut (H x)) (he:e=x∨H e=some (.own x)) (k:∀b u,b≠e→h.get? b=some u→h'.get? b=some u) (heo:∃u,h'.get? e=some u)
    (new:ObjOk P w (upd H x o') h' x o'):HOk P w (upd H x o') h':=fun b u q=>by
  have nown:∀c y,H c=some (.own y)→c≠x:=fun c y r z=>by subst z;rw[r]at mu;exact mu
  have ntup:∀c xs,H c=some (.tup xs)→c≠x:=fun c xs r z=>by subst z;rw[r]at mu;exact mu
  by_cases hb:b=x
  · subst hb;rw[upd_same]at q;cases q;exact new
  · rw [upd_ne hb] at q
    by_cases hbe:b=e
    · have q':H b=some (.own x):=by
        rcases he with z|z
        · exact absurd (hbe.trans z) hb
        · rw[hbe];exact z
      rw[q]at q';cases q'
      obtain⟨v,hv⟩:=heo
      exact⟨v,by rw[hbe];exact hv⟩
    · refine(ok b u q).stay (fun c v hc r=>k c v ?_ r) (fun c r=>by rw[upd_ne (nown c b r)];exact r) fun c xs r=>by rw[upd_ne (ntup c xs r)];exact r
      rcases hc with rfl|hc
      · exact hbe
      · rintro rfl
        rcases he with z|z
        · exact nown c b hc z
        · rw[hc]at z;cases z;exact hb rfl
end
structure Un (fs ex:List Addr) (H H':Hp) (h h':Heap):Prop where
 keep:∀b o,h.get? b=some o→H b=none→b∉fs→b∉ex→h'.get? b=some o
 slot:∀b o,h.get? b=some o→H b=none→b∈fs→b∉ex→∃sl,h'.get? b=some { o with slots:=sl }
 free:∀b o,h.get? b=some o→H b=none→b∉ex→H' b=none
 there:∀b o,h.get? b=some o→b∉ex→∃o',h'.get? b=some o'
 tups:∀b xs,H b=some (.tup xs)→H' b=some (.tup xs)
 frzs:∀b o u,H b=some (.frz o u)→H' b=some (.frz o u)
 tbls:∀b ps,H b=some (.tbl ps)→∃more,H' b=some (.tbl (ps++more))
section
variable {fs fs' ex ex':List Addr} {H H1 H2:Hp} {h h1 h2 h':Heap} {a x e:Addr} {o:HO}
theorem Un.any (u:Un fs ex H H1 h h1) {b:Addr} {ob:Obj} (q:h.get? b=some ob) (n:H b=none) (hx:b∉ex):∃sl,h1.get? b=some { ob with slots:=sl }:=by
 by_cases hb:b∈fs
 ·exact u.slot b ob q n hb hx
 ·exact⟨ob.slots,u.keep b ob q n hb hx⟩
theorem Un.kept (k:∀b u,h.get? b=some u→h'.get? b=some u):Un fs ex H H h h' :=
 ⟨fun b ob q _ _ _=>k b ob q,fun b ob q _ _ _=>⟨ob.slots,k b ob q⟩,fun _ _ _ n _=>n,fun b ob q _=>⟨ob,k b ob q⟩,fun _ _ q=>q,fun _ _ _ q=>q,fun _ ps q=>⟨#[],by rw[q];simp⟩⟩
theorem Un.refl:Un fs ex H H h h:=Un.kept fun _ _ q=>q
theorem Un.laid (k:∀b u,h.get? b=some u→h'.get? b=some u) (hp:h.objs.size≤a) (hn:H a=none):Un fs ex H (upd H a o) h h' where
 keep:=fun b u q _ _ _=>k b u q
 slot:=fun b u q _ _ _=>⟨u.slots,k b u q⟩
 free:=fun b u q n _=>by rw[upd_ne (Nat.ne_of_lt (Nat.lt_of_lt_of_le (Heap.lt_size q) hp))];exact n
 there:=fun b u q _=>⟨u,k b u q⟩
 tups:=fun b xs q=>by rw[upd_ne (ne_of_none q hn)];exact q
 frzs:=fun b u xs q=>by rw[upd_ne (ne_of_none q hn)];exact q
 tbls:=fun b ps q=>⟨#[],by rw[upd_ne (ne_of_none q hn),q];simp⟩
theorem Un.write (mu:Mut (H x)) (he:e=x∨H e=some (.own x)) (k:∀b u,b≠e→h.get? b=some u→h'.get? b=some u) (heo:∃u,h'.get? e=some u):Un fs ex H (upd H x o) h h':=by
 have hx:∀b,H b=none→b≠x:=fun b n z=>by subst z;rw[n]at mu;exact mu
 have hb:∀b,H b=none→b≠e:=fun b n z=>by
  subst z
  rcases he with r|r
  ·exact hx b n r
  ·rw[n]at r;cases r
 have hm:∀b u,H b=some u→¬Mut (some u)→b≠x:=fun b u q nm z=>by subst z;rw[q]at mu;exact nm mu
 refine⟨fun b u q n _ _=>k b u (hb b n) q,fun b u q n _ _=>⟨u.slots,k b u (hb b n) q⟩,fun b u q n _=>by rw[upd_ne (hx b n)];exact n,fun b u q _=>?_,
  fun b xs q=>by rw[upd_ne (hm b _ q fun z=>z)];exact q,fun b u xs q=>by rw[upd_ne (hm b _ q fun z=>z)];exact q,fun b ps q=>⟨#[],by rw[upd_ne (hm b _ q fun z=>z),q];simp⟩⟩
 by_cases hbe:b=e
 ·subst hbe;exact heo
 ·exact⟨u,k b u hbe q⟩
end
def trk (h:Heap) (H:Hp):List Addr:=(List.range h.objs.size).filter fun a=>(H a).isSome
def hidT (h:Heap) (H:Hp):Heap:=PySem.W.hideAll h (trk h H)
theorem hidT_size (h:Heap) (H:Hp):(hidT h H).objs.size=h.objs.size:=PySem.W.hideAll_size _ _
theorem hidT_get {h:Heap} {H:Hp} {b:Addr} {o:Obj} (e:h.get? b=some o) (n:H b=none):(hidT h H).get? b=some o :=
 PySem.W.hideAll_get _ e fun hm=>by
  have q:(H b).isSome=true:=(List.mem_filter.mp hm).2
  rw[n]at q;simp at q
theorem of_hidT {h:Heap} {H:Hp} {b:Addr} {o:Obj} (e:(hidT h H).get? b=some o):h.get? b=some o∧H b=none:=by
  have e':h.get? b=some o:=PySem.W.of_hideAll (trk h H) e
  refine⟨e',?_⟩
  cases q:H b with
  | none=>rfl
  | some x =>
    have hm:b∈trk h H:=List.mem_filter.mpr ⟨List.mem_range.mpr (Heap.lt_size e'),by simp[q]⟩
    have z:(hidT h H).get? b=none:=PySem.W.hideAll_none (trk h H) hm
    rw[z]at e;cases e
end L2
namespace L2
open PySem PySem.Spec PyProof.Rows
structure Mod (K:PySem.W.Frag) (mg:Str→Option Value) (base:Heap):Prop where
 kin:K.In base
 glob:base.Ns mainGlobals mg
 blt:∃mb,base.Ns builtinsNs mb∧∀x:Str,x ≠ "__name__" → mb x=bootBuiltins x
 nolimit:base.NoLimit
structure Cx where
 prog:Program
 w:World
 K:PySem.W.Frag
 mg:Str→Option Value
 base:Heap
 A:Around
 N:List Str
 s_0:Shared
 H_0:Hp
 env:Env
 outer:List Env
 stack:List Env
 ex:List Addr
 fn:Str→Bool
 calm:Bool
 pn:List (Addr×Obj)
 xe:Value→Shared→Prop
def frs (l:List Env):List Addr:=l.filterMap (·.frame)
abbrev Cx.fs (X:Cx):List Addr:=frs X.outer
def Vis (sc:Scope) (x:Str):Prop:=sc.names.lookup x=some .local∨sc.names.lookup x=some .cell∨sc.names.lookup x=some .free
def Loc (sc:Scope) (x:Str):Prop:=sc.names.lookup x=some .local∨sc.names.lookup x=some .cell
def Look (env:Env) (h:Heap) (m:Str→Option Value) (x:Str) (u:Value):Prop :=
 (env.kindOf x=some .local∧m x=some u)∨((env.kindOf x=some .cell∨env.kindOf x=some .free)∧∃c,env.cells.lookup x=some c∧h.IsCell c (some u))
structure Cx.Ok (X:Cx):Prop where
 mod:Mod X.K X.mg X.base
 kind:X.env.scope.kind=.function
 glob:X.env.globals=mainGlobals
 blt:X.env.builtins=builtinsNs
 above:X.s_0.heap.objs.size≤X.env.locals
 inj:∀x y c,X.env.cells.lookup x=some c→X.env.cells.lookup y=some c→x=y
 has:∀x,(X.env.kindOf x=some .cell∨X.env.kindOf x=some .free)→∃c,X.env.cells.lookup x=some c
 cab:∀x c,X.fn x=true→X.env.cells.lookup x=some c→X.s_0.heap.objs.size≤c
 hd:X.calm=true→X.A.handled=none
 frames:X.A.frames=some X.stack
 stk:X.stack=X.outer∨(X.stack=X.env::X.outer∧X.env.frame=some X.env.locals)
 exf:∀b∈X.ex,b≠X.env.locals∧∀x c,X.env.cells.lookup x=some c→c≠b
 bs:∀b o,X.base.get? b=some o→X.s_0.heap.get? b=some o∧X.H_0 b=none
 bsz:X.base.objs.size≤X.s_0.heap.objs.size
 noex:∀b o,X.base.get? b=some o→b∉X.ex
 exfs:∀b∈X.ex,b∉X.fs
 funs:X.s_0.heap.FunFrames X.base X.outer
 frf:∀b∈X.fs,X.H_0 b=none
structure Inv (X:Cx) (pins:List (Addr×Obj)) (σ:List (Option V)) (H:Hp) (s:Shared):Prop where
 ok:X.Ok
 os:s.os=X.s_0.os
 bare:AllBare s.gens
 base:Un X.fs X.ex X.H_0 H X.s_0.heap s.heap
 loc:∃m,s.heap.Ns X.env.locals m∧∀(i:Nat) (x:Str) (v:V),X.N[i]? = some x→σ[i]? = some (some v)→Vis X.env.scope x→∃u,RelV v u∧Look X.env s.heap m x u
 cell:∀x c,X.env.cells.lookup x=some c→∃v,s.heap.IsCell c v
 free:H X.env.locals=none
 freeC:∀x c,X.env.cells.lookup x=some c→H c=none
 pin:∀p∈X.pn++pins,s.heap.get? p.1=some p.2∧H p.1=none∧p.1≠X.env.locals∧p.1∉X.fs∧∀v,p.2.data≠.cell v
 hok:HOk X.prog X.w H s.heap
 len:σ.length=X.N.length
section
variable {X:Cx} {pins:List (Addr×Obj)} {σ:List (Option V)} {H H':Hp} {s:Shared} {h':Heap}
theorem Cx.Ok.nofr (ok:X.Ok) {b:Addr} {o:Obj} (e:X.base.get? b=some o):b∉X.fs:=fun hb=>by
 have:=(ok.funs.mem hb).1
 rw[e]at this;cases this
theorem Inv.bs (I:Inv X pins σ H s):∀b o,X.base.get? b=some o→s.heap.get? b=some o∧H b=none:=fun b o e =>
 ⟨I.base.keep b o (I.ok.bs b o e).1 (I.ok.bs b o e).2 (I.ok.nofr e) (I.ok.noex b o e),I.base.free b o (I.ok.bs b o e).1 (I.ok.bs b o e).2 (I.ok.noex b o e)⟩
theorem Inv.bk (I:Inv X pins σ H s):∀b o,X.base.get? b=some o→s.heap.get? b=some o:=fun b o e=>(I.bs b o e).1
theorem Inv.mod (I:Inv X pins σ H s):Mod X.K X.mg X.base:=I.ok.mod
theorem Inv.kIn (I:Inv X pins σ H s):X.K.In s.heap:=I.ok.mod.kin.keeps I.bk
theorem Inv.fr (I:Inv X pins σ H s):∃m,Fr X.base X.env.locals s.heap m :=
 let ⟨m,hn,_⟩:=I.loc
 ⟨m,hn,I.bk,Nat.le_trans I.ok.bsz I.ok.above⟩
theorem Inv.lt (I:Inv X pins σ H s):X.env.locals<s.heap.objs.size:=let ⟨_,hn,_⟩:=I.loc;hn.lt
theorem Inv.sz (I:Inv X pins σ H s):X.s_0.heap.objs.size≤s.heap.objs.size:=Nat.le_trans I.ok.above (Nat.le_of_lt I.lt)
theorem Inv.nofs (I:Inv X pins σ H s) {a:Addr} (h:s.heap.objs.size≤a):a∉X.fs:=fun hb=>by
 obtain⟨_,o,ho,_⟩:=I.ok.funs.mem hb
 exact absurd (Nat.lt_of_lt_of_le (Heap.lt_size ho) (Nat.le_trans I.sz h)) (Nat.lt_irrefl _)
theorem Inv.cne (I:Inv X pins σ H s):∀x c,X.env.cells.lookup x=some c→c≠X.env.locals:=fun x c e z=>by
 obtain⟨v,o,ho,hd⟩:=I.cell x c e
 obtain⟨m,⟨o',es,ep,ho',hd',_⟩,_⟩:=I.loc
 rw[z,ho']at ho;cases ho;rw[hd']at hd;cases hd
theorem Inv.funs (I:Inv X pins σ H s):s.heap.FunFrames X.base X.outer:=by
  have all:∀(l:List Env),(∀b∈frs l,b∈X.fs)→X.s_0.heap.FunFrames X.base l→s.heap.FunFrames X.base l:=by
    intro l
    induction l with
    | nil=>intro _ _;trivial
    | cons env r ih =>
      intro hs hl
      obtain⟨hk,⟨L,o,hf,hn,ho,hd⟩,hr⟩:=hl
      have hL:L∈X.fs:=hs L (by unfold frs;rw[List.filterMap_cons,hf];exact List.mem_cons_self)
      obtain⟨sl,e⟩:=I.base.slot L o ho (I.ok.frf L hL) hL fun z=>I.ok.exfs L z hL
      exact⟨hk,⟨L,_,hf,hn,e,hd⟩,ih (fun b hb=>hs b (by unfold frs;rw[List.filterMap_cons,hf];exact List.mem_cons_of_mem _ hb)) hr⟩
  exact all X.outer (fun _ hb=>hb) I.ok.funs
theorem Inv.stack (I:Inv X pins σ H s):s.heap.FunFrames X.base X.stack:=by
 rcases I.ok.stk with e|⟨e,hf⟩
 ·rw[e];exact I.funs
 ·rw[e]
  obtain⟨m,hn,_⟩:=I.loc
  refine .cons (by rw[I.ok.kind];decide) hf hn ?_ I.funs
  exact Heap.get?_none_of_le (Nat.le_trans I.ok.bsz I.ok.above)
theorem Inv.stkSub (I:Inv X pins σ H s):∀b∈frs X.stack,b∈X.env.locals::X.fs:=fun b hb=>by
 rcases I.ok.stk with e|⟨e,hf⟩
 ·rw[e]at hb;exact List.mem_cons_of_mem _ hb
 ·rw[e]at hb
  unfold frs at hb
  rw[List.filterMap_cons,hf]at hb
  exact hb
theorem Inv.stkFree (I:Inv X pins σ H s):∀b∈frs X.stack,H b=none:=fun b hb=>by
 rcases List.mem_cons.mp (I.stkSub b hb)with e|hb
 ·rw[e];exact I.free
 ·obtain⟨_,o,ho,_⟩:=I.ok.funs.mem hb
  exact I.base.free b o ho (I.ok.frf b hb) fun z=>I.ok.exfs b z hb
theorem Inv.step {g':Array GenState} {t':Nat} {d':Drawn} {ch:List Addr} (I:Inv X pins σ H s)
  (hch:∀b∈ch,(b∈X.ex∨X.s_0.heap.objs.size≤b)∧b≠X.env.locals∧(∀x c,X.env.cells.lookup x=some c→c≠b)∧∀p∈X.pn++pins,p.1≠b)
  (keep:∀b o,b≠X.env.locals→b∉X.fs→b∉ch→s.heap.get? b=some o→H b=none→h'.get? b=some o)
  (slot:∀b o,b≠X.env.locals→b∈X.fs→b∉ch→s.heap.get? b=some o→H b=none→∃sl,h'.get? b=some { o with slots:=sl }) (free:∀b o,b∉ch→s.heap.get? b=some o→H b=none→H' b=none)
  (there:∀b o,b∉ch→s.heap.get? b=some o→∃o',h'.get? b=some o')
  (tups:∀b xs,H b=some (.tup xs)→H' b=some (.tup xs)) (frzs:∀b o u,H b=some (.frz o u)→H' b=some (.frz o u)) (tbls:∀b ps,H b=some (.tbl ps)→∃more,H' b=some (.tbl (ps++more)))
  (ns:∀m,s.heap.Ns X.env.locals m→h'.Ns X.env.locals m) (hok:HOk X.prog X.w H' h') (hg:AllBare g') :
  Inv X pins σ H' { s with heap:=h',gens:=g',drawn:=d',toks:=t' }:=by
 have neL:∀b o,X.s_0.heap.get? b=some o→b≠X.env.locals:=fun b o e=>Nat.ne_of_lt (Nat.lt_of_lt_of_le (Heap.lt_size e) I.ok.above)
 have neC:∀b o,X.s_0.heap.get? b=some o→b∉X.ex→b∉ch:=fun b o e hx hb=>by
  rcases (hch b hb).1 with z|z
  ·exact hx z
  ·exact absurd (Nat.lt_of_lt_of_le (Heap.lt_size e) z) (Nat.lt_irrefl _)
 have cellK:∀x c,X.env.cells.lookup x=some c→∀v,s.heap.IsCell c v→h'.IsCell c v:=fun x c e v ⟨o,ho,hd⟩=>by
  have nch:c∉ch:=fun z=>(hch c z).2.2.1 x c e rfl
  by_cases hc:c∈X.fs
  ·obtain⟨sl,q⟩:=slot c o (I.cne x c e) hc nch ho (I.freeC x c e)
   exact⟨_,q,hd⟩
  ·exact⟨o,keep c o (I.cne x c e) hc nch ho (I.freeC x c e),hd⟩
 refine⟨I.ok,I.os,hg,⟨fun b o e n hb hx=>?_,fun b o e n hb hx=>?_,fun b o e n hx=>?_,fun b o e hx=>?_,fun b xs e=>tups b xs (I.base.tups b xs e),fun b o xs e=>frzs b o xs (I.base.frzs b o xs e),fun b ps e=>?_⟩,?_,fun x c e=>?_,?_,fun x c e=>?_,fun p hp=>?_,hok,I.len⟩
 ·exact keep b o (neL b o e) hb (neC b o e hx) (I.base.keep b o e n hb hx) (I.base.free b o e n hx)
 ·obtain⟨sl,e1⟩:=I.base.slot b o e n hb hx
  obtain⟨sl',e2⟩:=slot b _ (neL b o e) hb (neC b o e hx) e1 (I.base.free b o e n hx)
  exact⟨sl',e2⟩
 ·obtain⟨o',e1⟩:=I.base.there b o e hx
  exact free b o' (neC b o e hx) e1 (I.base.free b o e n hx)
 ·obtain⟨o',e1⟩:=I.base.there b o e hx
  exact there b o' (neC b o e hx) e1
 ·obtain⟨m1,e1⟩:=I.base.tbls b ps e
  obtain⟨m2,e2⟩:=tbls b _ e1
  exact⟨m1++m2,by rw[e2,Array.append_assoc]⟩
 ·obtain⟨m,hn,hl⟩:=I.loc
  refine⟨m,ns m hn,fun i x v e1 e2 e3=>?_⟩
  obtain⟨u,r,l⟩:=hl i x v e1 e2 e3
  refine⟨u,r,?_⟩
  rcases l with l|⟨k,c,e,z⟩
  ·exact .inl l
  ·exact .inr ⟨k,c,e,cellK x c e _ z⟩
 ·obtain⟨v,z⟩:=I.cell x c e
  exact⟨v,cellK x c e v z⟩
 ·obtain⟨m,⟨o,_,_,ho,_⟩,_⟩:=I.loc
  exact free _ o (fun z=>(hch _ z).2.1 rfl) ho I.free
 ·obtain⟨v,o,ho,hd⟩:=I.cell x c e
  exact free c o (fun z=>(hch c z).2.2.1 x c e rfl) ho (I.freeC x c e)
 ·obtain⟨e,n,ne,nf,d⟩:=I.pin p hp
  have nch:p.1∉ch:=fun z=>(hch p.1 z).2.2.2 p hp rfl
  exact⟨keep p.1 p.2 ne nf nch e n,free p.1 p.2 nch e n,ne,nf,d⟩
theorem Inv.un {t':Nat} (I:Inv X pins σ H s) (u:Un X.fs [] H H' s.heap h') (hok:HOk X.prog X.w H' h'):Inv X pins σ H' { s with heap:=h',toks:=t' }:=by
 obtain⟨m,⟨o,es,ep,ho,r⟩,_⟩:=id I.loc
 obtain⟨sl,hL⟩:=u.any ho I.free (by simp)
 exact I.step (g':=s.gens) (d':=s.drawn) (ch:=[]) (fun _ z=>nomatch z) (fun b o _ hb _ e n=>u.keep b o e n hb (by simp)) (fun b o _ hb _ e n=>u.slot b o e n hb (by simp)) (fun b o _ e n=>u.free b o e n (by simp)) (fun b o _ e=>u.there b o e (by simp)) u.tups u.frzs u.tbls (fun m' hm=>by
  obtain⟨o',es',ep',ho',r'⟩:=hm
  rw[ho]at ho';cases ho'
  exact⟨_,es',ep',hL,r'⟩) hok I.bare
theorem Inv.call {g':Array GenState} {t':Nat} {d':Drawn} {ch:List Addr} (I:Inv X pins σ H s) (u:Un (frs X.stack) ch H H' s.heap h') (hok:HOk X.prog X.w H' h') (hg:AllBare g')
  (hch:∀b∈ch,(b∈X.ex∨X.s_0.heap.objs.size≤b)∧b≠X.env.locals∧(∀x c,X.env.cells.lookup x=some c→c≠b)∧∀p∈X.pn++pins,p.1≠b) :
  Inv X pins σ H' { s with heap:=h',gens:=g',drawn:=d',toks:=t' }:=by
 obtain⟨m,⟨o,es,ep,ho,r⟩,_⟩:=id I.loc
 obtain⟨sl,hL⟩:=u.any ho I.free fun z=>(hch _ z).2.1 rfl
 exact I.step (ch:=ch) hch (fun b o hL hb hc e n=>u.keep b o e n (fun z=>(List.mem_cons.mp (I.stkSub b z)).elim hL hb) hc) (fun b o _ _ hc e n=>u.any e n hc) (fun b o hc e n=>u.free b o e n hc) (fun b o hc e=>u.there b o e hc) u.tups u.frzs u.tbls (fun m' hm=>by
  obtain⟨o',es',ep',ho',r'⟩:=hm
  rw[ho]at ho';cases ho'
  exact⟨_,es',ep',hL,r'⟩) hok hg
theorem Inv.turned {t':Nat} {it:Addr} (I:Inv X pins σ H s) (k:∀b o,b≠it→s.heap.get? b=some o→h'.get? b=some o) (hn:H it=none) (hL:it≠X.env.locals)
  (h1:it∈X.ex∨X.s_0.heap.objs.size≤it) (h2:∀x c,X.env.cells.lookup x=some c→c≠it) (h3:∀p∈X.pn++pins,p.1≠it):Inv X pins σ H { s with heap:=h',toks:=t' }:=by
 have nit:∀b u,H b=some u→b≠it:=fun b u e z=>by rw[z,hn]at e;cases e
 refine I.step (g':=s.gens) (d':=s.drawn) (ch:=[it]) (fun b hb=>?_) (fun b o _ _ hc e _=>k b o (fun z=>hc (by simp[z])) e) (fun b o _ _ hc e _=>⟨o.slots,k b o (fun z=>hc (by simp[z])) e⟩) (fun _ _ _ _ n=>n)
  (fun b o hc e=>⟨o,k b o (fun z=>hc (by simp[z])) e⟩) (fun _ _ e=>e) (fun _ _ _ e=>e) (fun b ps e=>⟨#[],by rw[e];simp⟩) (fun m hm=>?_) (fun b u e=>?_) I.bare
 ·have e:b=it:=by simpa using hb
  subst e
  exact⟨h1,hL,h2,h3⟩
 ·obtain⟨o,es,ep,ho,r⟩:=hm
  exact⟨o,es,ep,k _ o (Ne.symm hL) ho,r⟩
 ·refine(I.hok b u e).stay (fun c v hc q=>k c v ?_ q) (fun _ q=>q) fun _ _ q=>q
  rcases hc with z|z
  ·rw[z];exact nit b u e
  ·exact nit c _ z
theorem Inv.tok (I:Inv X pins σ H s) (t:Nat):Inv X pins σ H { s with toks:=t }:=I.un (h':=s.heap) (t':=t) Un.refl I.hok
theorem Inv.kept {t':Nat} (I:Inv X pins σ H s) (k:∀b u,s.heap.get? b=some u→h'.get? b=some u):Inv X pins σ H { s with heap:=h',toks:=t' }:=I.un (Un.kept k) (I.hok.kept k)
theorem Inv.laid {a:Addr} {o:HO} {t':Nat} (I:Inv X pins σ H s) (k:∀b u,s.heap.get? b=some u→h'.get? b=some u) (hp:s.heap.objs.size≤a) (new:ObjOk X.prog X.w (upd H a o) h' a o) :
  Inv X pins σ (upd H a o) { s with heap:=h',toks:=t' }:=I.un (Un.laid k hp (I.hok.fresh hp)) (I.hok.laid k hp new)
theorem Inv.write {x e:Addr} {o:HO} {t':Nat} (I:Inv X pins σ H s) (mu:Mut (H x)) (he:e=x∨H e=some (.own x)) (k:∀b u,b≠e→s.heap.get? b=some u→h'.get? b=some u) (heo:∃u,h'.get? e=some u)
  (new:ObjOk X.prog X.w (upd H x o) h' x o):Inv X pins σ (upd H x o) { s with heap:=h',toks:=t' }:=I.un (Un.write mu he k heo) (I.hok.write mu he k heo new)
theorem Inv.weak {σ':List (Option V)} (I:Inv X pins σ H s) (hl:σ'.length=σ.length) (w:∀(i:Nat) v,σ'[i]? = some (some v)→σ[i]? = some (some v)):Inv X pins σ' H s :=
 ⟨I.ok,I.os,I.bare,I.base,let ⟨m,hn,hl'⟩:=I.loc;⟨m,hn,fun i x v e1 e2 e3=>hl' i x v e1 (w i v e2) e3⟩,I.cell,I.free,I.freeC,I.pin,I.hok,hl.trans I.len⟩
theorem Inv.pins_of {pins':List (Addr×Obj)} (I:Inv X pins σ H s) (h:∀p∈pins',s.heap.get? p.1=some p.2∧H p.1=none∧p.1≠X.env.locals∧p.1∉X.fs∧∀v,p.2.data≠.cell v):Inv X pins' σ H s :=
 ⟨I.ok,I.os,I.bare,I.base,I.loc,I.cell,I.free,I.freeC,fun p hp=>(List.mem_append.mp hp).elim (fun z=>I.pin p (List.mem_append_left _ z)) (h p),I.hok,I.len⟩
theorem nodup_ix {N:List Str} (hN:N.Nodup) {i j:Nat} {x:Str} (a:N[i]? = some x) (b:N[j]? = some x):i=j:=by
 obtain⟨h1,e1⟩:=List.getElem?_eq_some_iff.mp a
 obtain⟨h2,e2⟩:=List.getElem?_eq_some_iff.mp b
 exact(List.getElem_inj hN).mp (e1.trans e2.symm)
theorem store_ok2 {M:Model} {A:Around} {E:Value→Shared→Prop} {i:Nat} {x:Str} {v:V} {u:Value} {Q:Unit→Shared→Prop} (I:Inv X pins σ H s) (hN:X.N.Nodup) (hi:X.N[i]? = some x) (hx:Loc X.env.scope x) (r:RelV v u)
    (h:∀s',Inv X pins (σ.set i (some v)) H s'→(∃a,Heap.SameBut a s.heap s'.heap∧(a=X.env.locals∨X.env.cells.lookup x=some a))→Q () s') (hf:X.fn x=true∨X.env.scope.names.lookup x=some .local:=by first|exact .inl rfl|exact .inr rfl|assumption):wpAny M A (storeName X.env x u) Q E s:=by
  obtain⟨m,hn,hl⟩:=id I.loc
  have hcls:(X.env.scope.kind==.class||(X.env.scope.kind==.module&&X.env.locals != X.env.globals))=false:=by rw[I.ok.kind];rfl
  have hiσ:i<σ.length:=by rw[I.len];exact(List.getElem?_eq_some_iff.mp hi).1
  have cne:=I.cne
  have tracked:∀{a:Addr} {h':Heap},(∃o,s.heap.get? a=some o∧H a=none)→Heap.SameBut a s.heap h'→HOk X.prog X.w H h':=fun {a h'} ha hs b ob e=>by
    obtain⟨_,_,hfree⟩:=ha
    refine(I.hok b ob e).stay (fun c w' hc q=>(hs.2 c ?_).trans q) (fun _ q=>q) fun _ _ q=>q
    rintro rfl
    rcases hc with rfl|hc
    · rw[hfree]at e;cases e
    · rw[hfree]at hc;cases hc
  rcases hx with hk|hk
  · refine wpAny_storeName_local hk hn (fun h' hn' hs=>?_) hcls
    obtain⟨oL,_,_,hoL,_⟩:=id hn
    refine h _ ⟨I.ok,I.os,I.bare,⟨fun b o e n hb hx=>?_,fun b o e n hb hx=>?_,I.base.free,fun b o e hx=>?_,I.base.tups,I.base.frzs,I.base.tbls⟩,⟨_,hn',fun j y v' e1 e2 e3=>?_⟩,fun y c e=>?_,I.free,I.freeC,fun p hp=>?_,tracked ⟨oL,hoL,I.free⟩ hs,by simpa using I.len⟩ ⟨_,hs,.inl rfl⟩
    · exact(hs.2 b (Nat.ne_of_lt (Nat.lt_of_lt_of_le (Heap.lt_size e) I.ok.above))).trans (I.base.keep b o e n hb hx)
    · obtain⟨sl,e1⟩:=I.base.slot b o e n hb hx
      exact⟨sl,(hs.2 b (Nat.ne_of_lt (Nat.lt_of_lt_of_le (Heap.lt_size e) I.ok.above))).trans e1⟩
    · obtain⟨o',e1⟩:=I.base.there b o e hx
      exact⟨o',(hs.2 b (Nat.ne_of_lt (Nat.lt_of_lt_of_le (Heap.lt_size e) I.ok.above))).trans e1⟩
    · by_cases hj:j=i
      · subst hj
        rw[hi]at e1;cases e1
        rw[List.getElem?_set_self hiσ]at e2
        cases e2
        exact⟨u,r,.inl ⟨hk,by simp⟩⟩
      · rw[List.getElem?_set_ne (Ne.symm hj)]at e2
        obtain⟨u',r',q⟩:=hl j y v' e1 e2 e3
        refine⟨u',r',?_⟩
        rcases q with⟨k,e⟩|⟨k,c,e,z⟩
        · refine .inl ⟨k,?_⟩
          have:y≠x:=fun e=>hj (nodup_ix hN e1 (e▸hi))
          simp[this,e]
        · exact .inr ⟨k,c,e,z.sameBut hs (cne y c e)⟩
    · obtain⟨w',z⟩:=I.cell y c e
      exact⟨w',z.sameBut hs (cne y c e)⟩
    · obtain⟨e,n,ne,nf,d⟩:=I.pin p hp
      exact⟨(hs.2 p.1 ne).trans e,n,ne,nf,d⟩
  · have hfn:X.fn x=true:=by
      rcases hf with z|z
      · exact z
      · rw[z]at hk;cases hk
    obtain⟨c,hc⟩:=I.ok.has x (.inl hk)
    obtain⟨w',z⟩:=I.cell x c hc
    refine wpAny_storeName_cell I.ok.kind hk hc z (fun h' hc' hs=>?_)
    obtain⟨oc,hoc,hocd⟩:=id z
    refine h { s with heap:=h' } ⟨I.ok,I.os,I.bare,⟨fun b o e n hb hx=>?_,fun b o e n hb hx=>?_,I.base.free,fun b o e hx=>?_,I.base.tups,I.base.frzs,I.base.tbls⟩,⟨m,hn.sameBut hs (Ne.symm (cne x c hc)),fun j y v' e1 e2 e3=>?_⟩,fun y c' e=>?_,I.free,I.freeC,fun p hp=>?_,tracked ⟨oc,hoc,I.freeC x c hc⟩ hs,by simpa using I.len⟩ ⟨c,hs,.inr hc⟩
    · exact(hs.2 b (Nat.ne_of_lt (Nat.lt_of_lt_of_le (Heap.lt_size e) (I.ok.cab x c hfn hc)))).trans (I.base.keep b o e n hb hx)
    · obtain⟨sl,e1⟩:=I.base.slot b o e n hb hx
      exact⟨sl,(hs.2 b (Nat.ne_of_lt (Nat.lt_of_lt_of_le (Heap.lt_size e) (I.ok.cab x c hfn hc)))).trans e1⟩
    · obtain⟨o',e1⟩:=I.base.there b o e hx
      exact⟨o',(hs.2 b (Nat.ne_of_lt (Nat.lt_of_lt_of_le (Heap.lt_size e) (I.ok.cab x c hfn hc)))).trans e1⟩
    · by_cases hj:j=i
      · subst hj
        rw[hi]at e1;cases e1
        rw[List.getElem?_set_self hiσ]at e2
        cases e2
        exact⟨u,r,.inr ⟨.inl hk,c,hc,hc'⟩⟩
      · rw[List.getElem?_set_ne (Ne.symm hj)]at e2
        obtain⟨u',r',q⟩:=hl j y v' e1 e2 e3
        refine⟨u',r',?_⟩
        rcases q with q|⟨k,c',e,z'⟩
        · exact .inl q
        · refine .inr ⟨k,c',e,z'.sameBut hs ?_⟩
          rintro rfl
          exact hj (nodup_ix hN e1 (I.ok.inj _ _ _ e hc▸hi))
    · by_cases hcc:c'=c
      · subst hcc;exact⟨_,hc'⟩
      · obtain⟨w2,z2⟩:=I.cell y c' e
        exact⟨w2,z2.sameBut hs hcc⟩
    · obtain⟨e,n,ne,nf,d⟩:=I.pin p hp
      refine⟨(hs.2 p.1 ?_).trans e,n,ne,nf,d⟩
      intro q
      rw[q,hoc]at e
      have q':oc=p.2:=Option.some.inj e
      exact d w' (by rw[←q'];exact hocd)
theorem store_ok {M:Model} {A:Around} {E:Value→Shared→Prop} {i:Nat} {x:Str} {v:V} {u:Value} {Q:Unit→Shared→Prop} (I:Inv X pins σ H s) (hN:X.N.Nodup) (hi:X.N[i]? = some x) (hx:Loc X.env.scope x) (r:RelV v u)
  (h:∀s',Inv X pins (σ.set i (some v)) H s'→Q () s') (hf:X.fn x=true∨X.env.scope.names.lookup x=some .local:=by first|exact .inl rfl|exact .inr rfl|assumption):wpAny M A (storeName X.env x u) Q E s :=
 store_ok2 I hN hi hx r (fun s' I' _=>h s' I') hf
theorem Inv.call' {s':Shared} {ch:List Addr} (I:Inv X pins σ H s) (ho:s'.os=s.os) (u:Un (frs X.stack) ch H H' s.heap s'.heap) (hok:HOk X.prog X.w H' s'.heap) (hg:AllBare s'.gens)
  (hch:∀b∈ch,(b∈X.ex∨X.s_0.heap.objs.size≤b)∧b≠X.env.locals∧(∀x c,X.env.cells.lookup x=some c→c≠b)∧∀p∈X.pn++pins,p.1≠b):Inv X pins σ H' s':=by
 obtain⟨h',g',d',t',o'⟩:=s'
 have e:o'=s.os:=ho
 subst e
 exact I.call (g':=g') (t':=t') (d':=d') u hok hg hch
end
abbrev XK:=Value→Option Addr→Hp→Prop
abbrev St:=List (Option V)
abbrev VK:=V→Hp→Prop
abbrev TE:=St→Hp→VK→Prop
abbrev TT:=St→Hp→(Bool→Hp→Prop)→Prop
abbrev TA:=St→Hp→(List V→Hp→Prop)→Prop
structure Ends where
 nx:St→Hp→Prop
 rt:VK
 bk:St→Hp→Prop:=fun _ _=>False
 ct:St→Hp→Prop:=fun _ _=>False
abbrev TS:=Ends→St→Hp→Prop
def EP (X:Cx) (pins:List (Addr×Obj)) (σ:St) (Q:VK) (u:Value) (s':Shared):Prop:=∃v H',Inv X pins σ H' s'∧RelV v u∧Q v H'
def TP (X:Cx) (pins:List (Addr×Obj)) (σ:St) (Q:Bool→Hp→Prop) (b:Bool) (s':Shared):Prop:=∃H',Inv X pins σ H' s'∧Q b H'
def AP (X:Cx) (pins:List (Addr×Obj)) (σ:St) (Q:List V→Hp→Prop) (us:List Value) (s':Shared):Prop:=∃vs H',Inv X pins σ H' s'∧Vals vs us∧Q vs H'
def SP (X:Cx) (pins:List (Addr×Obj)) (D:Ends) (f:Flow) (s':Shared):Prop :=
 match f with
 | .next=>∃σ' H',Inv X pins σ' H' s'∧D.nx σ' H'
 | .brk=>∃σ' H',Inv X pins σ' H' s'∧D.bk σ' H'
 | .cont=>∃σ' H',Inv X pins σ' H' s'∧D.ct σ' H'
 | .ret u=>∃v σ' H',Inv X pins σ' H' s'∧RelV v u∧D.rt v H'
def PE (X:Cx) (e:Expr) (t:TE):Prop :=
 ∀(pins:List (Addr×Obj)) (s:Shared) (σ:St) (H:Hp) (Q:VK),Inv X pins σ H s→t σ H Q→wpAny (model X.prog X.w) X.A (eval e X.env) (EP X pins σ Q) X.xe s
def PT (X:Cx) (e:Expr) (t:TT):Prop :=
 ∀(pins:List (Addr×Obj)) (s:Shared) (σ:St) (H:Hp) (Q:Bool→Hp→Prop),Inv X pins σ H s→t σ H Q→wpAny (model X.prog X.w) X.A (isTrue e X.env (eval e X.env)) (TP X pins σ Q) X.xe s
def PW (X:Cx) (e:Expr) (t:TT):Prop :=
 ∀(whole:Sem Value) (pins:List (Addr×Obj)) (s:Shared) (σ:St) (H:Hp) (Q:Bool→Hp→Prop),Inv X pins σ H s→t σ H Q→wpAny (model X.prog X.w) X.A (isTrue e X.env whole) (TP X pins σ Q) X.xe s
theorem PW.pt {X:Cx} {e:Expr} {t:TT} (h:PW X e t):PT X e t:=h _
def PA (X:Cx) (es:List Expr) (t:TA):Prop :=
 ∀(pos:Pos) (pins:List (Addr×Obj)) (s:Shared) (σ:St) (H:Hp) (Q:List V→Hp→Prop),Inv X pins σ H s→t σ H Q→wpAny (model X.prog X.w) X.A (spliced (backTo pos (starEach es X.env))) (AP X pins σ Q) X.xe s
def PS (X:Cx) (st:Stmt) (t:TS):Prop :=
 ∀(pins:List (Addr×Obj)) (s:Shared) (σ:St) (H:Hp) (D:Ends),Inv X pins σ H s→t D σ H→wpAny (model X.prog X.w) X.A (exec st X.env) (SP X pins D) X.xe s
def PSs (X:Cx) (st:List Stmt) (t:TS):Prop :=
 ∀(pins:List (Addr×Obj)) (s:Shared) (σ:St) (H:Hp) (D:Ends),Inv X pins σ H s→t D σ H→wpAny (model X.prog X.w) X.A (execs st X.env) (SP X pins D) X.xe s
theorem thn {α:Type} {t:Sem α} {Q Q':α→Shared→Prop} {M:Model} {A:Around} {E:Value→Shared→Prop} {s:Shared} (h:wpAny M A t Q E s) (hQ:∀a s,Q a s→Q' a s):wpAny M A t Q' E s:=wpAny_mono h hQ fun _ _ x=>x
end L2
namespace L2
open PySem PySem.Spec PyProof.Rows
section
variable {X:Cx}
theorem bin {a b:Expr} {ta tb:TE} (ha:PE X a ta) (hb:PE X b tb) {pins:List (Addr×Obj)} {s:Shared} {σ:St} {H:Hp} {R:V→V→Hp→Prop} (I:Inv X pins σ H s) (h:ta σ H fun x H1=>tb σ H1 fun y H2=>R x y H2)
  {α:Type} {Q:α→Shared→Prop} {f:Value→Value→Sem α}
  (hf:∀v u s2 x y H2,Inv X pins σ H2 s2→RelV x v→RelV y u→R x y H2→wpAny (model X.prog X.w) X.A (f v u) Q X.xe s2) :
  wpAny (model X.prog X.w) X.A (eval a X.env) (fun v s₁=>wpAny (model X.prog X.w) X.A (eval b X.env) (fun u s₂=>wpAny (model X.prog X.w) X.A (f v u) Q X.xe s₂) X.xe s₁) X.xe s:=by
 refine thn (ha pins s σ H _ I h) fun v s1 ⟨x,H1,I1,r1,q1⟩=>?_
 refine thn (hb pins s1 σ H1 _ I1 q1) fun u s2 ⟨y,H2,I2,r2,q2⟩=>?_
 exact hf v u s2 x y H2 I2 r1 r2 q2
def tVar (i:Nat):TE:=fun σ H Q=>∃v,σ[i]? = some (some v)∧Q v H
def tC (v:V):TE:=fun _ H Q=>Q v H
theorem pe_var {i:Nat} {x:Str} {pos:Pos} (hN:X.N[i]? = some x) (hv:Vis X.env.scope x) (hd:(x==("__debug__" : Str))=false:=by decide) (hcd:(x==("__classdict__" : Str))=false:=by decide):PE X (.Name x pos) (tVar i):=by
 intro pins s σ H Q I h
 obtain⟨v,e,h⟩:=h
 obtain⟨m,hn,hl⟩:=I.loc
 obtain⟨u,r,l⟩:=hl i x v hN e hv
 have fin:EP X pins σ Q u s:=⟨v,H,I,r,h⟩
 rcases l with⟨hk,hm⟩|⟨hk,c,hc,hcell⟩
 ·exact wpAny_Name (wpAny_loadName_local I.ok.kind hk hn hm fin) hd
 ·rcases hk with hk|hk
  ·exact wpAny_Name (wpAny_loadName_cell I.ok.kind hk hc hcell fin) hd
  ·exact wpAny_Name (wpAny_loadName_free I.ok.kind hk hc hcell fin hcd) hd
theorem pe_int {i j pos}:PE X (.Constant (.int i) j pos) (tC (.int i)):=fun _ _ _ H _ I h=>wpAny_Constant_int ⟨.int i,H,I.tok _,⟨_,rfl⟩,h⟩
theorem pe_bl {b j pos}:PE X (.Constant (.bool b) j pos) (tC (.bl b)):=fun _ _ _ H _ I h=>Constant_bool ⟨.bl b,H,I,rfl,h⟩
def Gl (X:Cx) (x:Str):Prop:=X.env.kindOf x=some .globalImplicit
theorem ld_glob {E:Value→Shared→Prop} {pins:List (Addr×Obj)} {s:Shared} {σ:St} {H:Hp} {x:Str} {u:Value} {pos:Pos} {Q:Value→Shared→Prop} (I:Inv X pins σ H s) (hg:Gl X x) (hm:X.mg x=some u) (h:Q u s)
  (hd:(x==("__debug__" : Str))=false:=by decide):wpAny (model X.prog X.w) X.A (eval (.Name x pos) X.env) Q E s :=
 Calls.Name_function_global I.ok.kind hg (Calls.loadGlobal_global (by rw[I.ok.glob];exact I.mod.glob.keeps I.bk) hm h) hd
theorem ld_blt {E:Value→Shared→Prop} {pins:List (Addr×Obj)} {s:Shared} {σ:St} {H:Hp} {x:Str} {u:Value} {pos:Pos} {Q:Value→Shared→Prop} (I:Inv X pins σ H s) (hg:Gl X x) (hm:X.mg x=none) (hv:bootBuiltins x=some u) (h:Q u s)
  (hn:x ≠ "__name__" := by decide) (hd:(x==("__debug__" : Str))=false:=by decide):wpAny (model X.prog X.w) X.A (eval (.Name x pos) X.env) Q E s:=by
 obtain⟨mb,h1,h2⟩:=I.mod.blt
 exact Calls.Name_function_global I.ok.kind hg (Calls.loadGlobal_builtin (by rw[I.ok.glob];exact I.mod.glob.keeps I.bk) hm (by rw[I.ok.blt];exact h1.keeps I.bk) ((h2 x hn).trans hv) h) hd
theorem pe_glob {x:Str} {v:V} {u:Value} {pos:Pos} (hg:Gl X x) (hm:X.mg x=some u) (r:RelV v u) (hd:(x==("__debug__" : Str))=false:=by decide):PE X (.Name x pos) (tC v) :=
 fun _ _ _ H _ I h=>ld_glob I hg hm ⟨v,H,I,r,h⟩ hd
variable {a b:Expr} {ta tb:TE} {pos:Pos}
def PC (X:Cx) (op:CmpOp) (a b:Expr) (t:TE):Prop :=
  ∀ (pins : List (Addr × Obj)) (s : Shared) (σ : St) (H : Hp) (Q : VK), Inv X pins σ H s → t σ H Q →
    wpAny (model X.prog X.w) X.A (eval a X.env) (fun v s₁=>wpAny (model X.prog X.w) X.A (eval b X.env) (fun u s₂=>wpAny (model X.prog X.w) X.A (compareOp op v u) (EP X pins σ Q) X.xe s₂) X.xe s₁) X.xe s
def tB (t:TE):TT:=fun σ H Q=>t σ H fun x H1=>∃c,x=.bl c∧Q c H1
theorem pt_cmp {op:CmpOp} {t:TE} (h:PC X op a b t) (h1:behindInMarks op b=false:=by first|exact nobehind _ (by decide) (by decide)|rfl):PT X (.Compare a [op] [b] pos) (tB t):=by
 intro pins s σ H Q I hw
 refine wpAny_isTrue_Compare1 (thn (h pins s σ H _ I hw) fun v s1 h1=>thn h1 fun u s2 h2=>thn h2 fun c s3 ⟨x,H1,I1,r1,q1⟩=>?_) h1
 obtain⟨d,rfl,q⟩:=q1
 cases r1
 exact wpAny_truthy_bool ⟨H1,I1,q⟩
theorem pt_val {e:Expr} {t:TE} (h:PE X e t) (he:∀whole,isTrue e X.env whole=(do let v ←whole;standAt e.pos;holding [v] (truthy v)):=by intro _;rfl):PT X e (tB t):=by
 intro pins s σ H Q I hw
 refine isTrue_plain (thn (h pins s σ H _ I hw) fun v s1 ⟨x,H1,I1,r1,q1⟩=>?_) (he _)
 obtain⟨d,rfl,q⟩:=q1
 cases r1
 exact wpAny_truthy_bool ⟨H1,I1,q⟩
variable {tA tB':TT} {rest:List Expr}
def tAnd (t u:TT):TT:=fun σ H Q=>t σ H fun c H1=>if c=true then u σ H1 Q else Q false H1
def tOr (t u:TT):TT:=fun σ H Q=>t σ H fun c H1=>if c=true then Q true H1 else u σ H1 Q
def tNot (t:TT):TT:=fun σ H Q=>t σ H fun c H1=>Q (!c) H1
theorem pw_and1 (ha:PT X a tA):PW X (.BoolOp .And [a] pos) tA:=by
 intro wh pins s σ H Q I h
 refine isTrue_and (thn (ha pins s σ H Q I h) fun c s1 e=>?_)
 cases c with
 | true=>exact isTrue_and_nil e
 | false=>exact e
theorem pw_or1 (ha:PT X a tA):PW X (.BoolOp .Or [a] pos) tA:=by
 intro wh pins s σ H Q I h
 refine isTrue_or (thn (ha pins s σ H Q I h) fun c s1 e=>?_)
 cases c with
 | false=>exact isTrue_or_nil e
 | true=>exact e
theorem pw_and (ha:PT X a tA) (hb:PW X (.BoolOp .And (b::rest) pos) tB'):PW X (.BoolOp .And (a::b::rest) pos) (tAnd tA tB'):=by
 intro wh pins s σ H Q I h
 refine isTrue_and (thn (ha pins s σ H _ I h) fun c s1 ⟨H1,I1,q1⟩=>?_)
 cases c with
 | true=>exact hb wh pins s1 σ H1 Q I1 q1
 | false=>exact⟨H1,I1,q1⟩
theorem pw_or (ha:PT X a tA) (hb:PW X (.BoolOp .Or (b::rest) pos) tB'):PW X (.BoolOp .Or (a::b::rest) pos) (tOr tA tB'):=by
 intro wh pins s σ H Q I h
 refine isTrue_or (thn (ha pins s σ H _ I h) fun c s1 ⟨H1,I1,q1⟩=>?_)
 cases c with
 | true=>exact⟨H1,I1,q1⟩
 | false=>exact hb wh pins s1 σ H1 Q I1 q1
theorem pt_not (ha:PT X a tA):PT X (.UnaryOp .Not a pos) (tNot tA):=by
 intro pins s σ H Q I h
 exact isTrue_not (ha pins s σ H (fun c H1=>Q (!c) H1) I h)
def tAndV (ta tb:TE):TE:=fun σ H Q=>ta σ H fun x H1=>∃c,x=.bl c∧if c=true then tb σ H1 Q else Q (.bl false) H1
def tOrV (ta tb:TE):TE:=fun σ H Q=>ta σ H fun x H1=>∃c,x=.bl c∧if c=true then Q (.bl true) H1 else tb σ H1 Q
def tNotV (ta:TE):TE:=fun σ H Q=>ta σ H fun x H1=>∃c,x=.bl c∧Q (.bl (!c)) H1
theorem pe_one {op} {t:TE} (h:PE X a t):PE X (.BoolOp op [a] pos) t:=fun pins s σ H Q I hw=>BoolOp_one (h pins s σ H Q I hw)
theorem pe_and (ha:PE X a ta) (hb:PE X (.BoolOp .And (b::rest) pos) tb):PE X (.BoolOp .And (a::b::rest) pos) (tAndV ta tb):=by
 intro pins s σ H Q I h
 refine BoolOp_and (thn (ha pins s σ H _ I h) fun v s1 ⟨x,H1,I1,r1,q1⟩=>?_)
 obtain⟨c,rfl,q1⟩:=q1
 cases r1
 refine wpAny_truthy_bool ?_
 cases c with
 | true=>exact hb pins s1 σ H1 Q I1 q1
 | false=>exact⟨.bl false,H1,I1,rfl,q1⟩
theorem pe_or (ha:PE X a ta) (hb:PE X (.BoolOp .Or (b::rest) pos) tb):PE X (.BoolOp .Or (a::b::rest) pos) (tOrV ta tb):=by
 intro pins s σ H Q I h
 refine BoolOp_or (thn (ha pins s σ H _ I h) fun v s1 ⟨x,H1,I1,r1,q1⟩=>?_)
 obtain⟨c,rfl,q1⟩:=q1
 cases r1
 refine wpAny_truthy_bool ?_
 cases c with
 | false=>exact hb pins s1 σ H1 Q I1 q1
 | true=>exact⟨.bl true,H1,I1,rfl,q1⟩
theorem pe_not (ha:PE X a ta):PE X (.UnaryOp .Not a pos) (tNotV ta):=by
 intro pins s σ H Q I h
 refine UnaryOp_ (thn (ha pins s σ H _ I h) fun v s1 ⟨x,H1,I1,r1,q1⟩=>?_)
 obtain⟨c,rfl,q1⟩:=q1
 cases r1
 exact not_of (wpAny_truthy_bool ⟨.bl (!c),H1,I1,rfl,q1⟩)
end
end L2
namespace L2
open PySem PySem.Spec PyProof.Rows
def SqL (K:PySem.W.Frag) (H:Hp) (a:Addr) (xs:List V):Prop :=
  Rd H a (.lst xs) ∨
    ∃(o:Obj) (its:Array Value) (n:Nat),K.lookup a=some o∧o.cls=.type "list" ∧ o.dict=none∧o.data=.seq its n∧its.size≤sizeLine∧Vals xs its.toList
def SqT (K:PySem.W.Frag) (H:Hp) (a:Addr) (xs:List V):Prop :=
  Rd H a (.tup xs) ∨
    ∃(o:Obj) (its:Array Value) (n:Nat),K.lookup a=some o∧o.cls=.type "tuple" ∧ o.data=.seq its n∧its.size≤sizeLine∧Vals xs its.toList
def absV:Value→Option V
 | .none=>some .non
 | .bool b=>some (.bl b)
 | .int i _=>some (.int i)
 | .str x _=>some (.str x)
 | .bytes b _=>some (.byt b)
 | .float b _=>some (.flt b)
 | .ref a=>some (.ref a)
 | .type n=>some (.ty n)
 | _=>none
theorem RelV.abs {x:V} {u:Value} (r:RelV x u):absV u=some x:=by
 cases x with
 | non=>cases r;rfl
 | bl _=>cases r;rfl
 | int _=>obtain⟨t,rfl⟩:=r;rfl
 | str _=>obtain⟨t,rfl⟩:=r;rfl
 | byt _=>obtain⟨t,rfl⟩:=r;rfl
 | flt _=>obtain⟨t,rfl⟩:=r;rfl
 | ref _=>cases r;rfl
 | ty _=>cases r;rfl
theorem RelV.inj {x y:V} {u:Value} (r:RelV x u) (q:RelV y u):x=y:=Option.some.inj (r.abs.symm.trans q.abs)
theorem Vals.inj:∀{xs ys:List V} {us:List Value},Vals xs us→Vals ys us→xs=ys
 | _,_,_,.nil,.nil=>rfl
 | _,_,_,.cons r t,.cons r' t'=>by rw[r.inj r',Vals.inj t t']
section
variable {X:Cx} {pins:List (Addr×Obj)} {σ:St} {H:Hp} {s:Shared} {a:Addr} {xs ys:List V}
theorem SqL.of {K:PySem.W.Frag} (h:H a=some (.lst xs)):SqL K H a xs:=.inl (.inl h)
theorem SqT.of {K:PySem.W.Frag} (h:H a=some (.tup xs)):SqT K H a xs:=.inl (.inl h)
theorem Inv.list (I:Inv X pins σ H s) (h:SqL X.K H a xs):∃its:List Value,Vals xs its∧PlainL s.heap a its.toArray∧xs.length≤sizeLine:=by
 rcases h with h|⟨o,its,n,hk,hc,hd,hs,hz,r⟩
 ·obtain⟨z,its,n,r,e⟩:=h.ok I.hok
  exact⟨its,r,⟨_,n,e,rfl,rfl,rfl⟩,z⟩
 ·refine⟨its.toList,r,⟨o,n,I.kIn a o hk,hc,hd,by simpa using hs⟩,?_⟩
  have e:=r.length
  simp only[Array.length_toList]at e
  omega
theorem Inv.tuple (I:Inv X pins σ H s) (h:SqT X.K H a xs):∃its:List Value,Vals xs its∧IsTup s.heap a its.toArray∧xs.length≤sizeLine:=by
 rcases h with h|⟨o,its,n,hk,hc,hs,hz,r⟩
 ·obtain⟨z,its,r,p⟩:=h.ok I.hok
  exact⟨its,r,p,z⟩
 ·refine⟨its.toList,r,⟨o,I.kIn a o hk,hc,n,by simpa using hs⟩,?_⟩
  have e:=r.length
  simp only[Array.length_toList]at e
  omega
theorem Inv.list_inj (I:Inv X pins σ H s) (h:SqL X.K H a xs) (h':SqL X.K H a ys):xs=ys:=by
 obtain⟨its,r,⟨o,n,e,_,_,d⟩,_⟩:=I.list h
 obtain⟨its',r',⟨o',n',e',_,_,d'⟩,_⟩:=I.list h'
 rw[e]at e';cases e'
 rw[d]at d'
 injection d' with d1 _
 have:its=its':=by simpa using congrArg Array.toList d1
 subst this
 exact r.inj r'
theorem Inv.tuple_inj (I:Inv X pins σ H s) (h:SqT X.K H a xs) (h':SqT X.K H a ys):xs=ys:=by
 obtain⟨its,r,⟨o,e,_,n,d⟩,_⟩:=I.tuple h
 obtain⟨its',r',⟨o',e',_,n',d'⟩,_⟩:=I.tuple h'
 rw[e]at e';cases e'
 rw[d]at d'
 injection d' with d1 _
 have:its=its':=by simpa using congrArg Array.toList d1
 subst this
 exact r.inj r'
end
abbrev Cx.wish (X:Cx) (E:Value→Shared→Prop):Cx:={ X with xe:=E }
abbrev Cx.nox (X:Cx):Cx:=X.wish fun _ _=>False
theorem Cx.Ok.wish {X:Cx} (ok:X.Ok) (E:Value→Shared→Prop):(X.wish E).Ok :=
 ⟨ok.mod,ok.kind,ok.glob,ok.blt,ok.above,ok.inj,ok.has,ok.cab,ok.hd,ok.frames,ok.stk,ok.exf,ok.bs,ok.bsz,ok.noex,ok.exfs,ok.funs,ok.frf⟩
theorem Cx.Ok.unwish {X:Cx} {E:Value→Shared→Prop} (ok:(X.wish E).Ok):X.Ok :=
 ⟨ok.mod,ok.kind,ok.glob,ok.blt,ok.above,ok.inj,ok.has,ok.cab,ok.hd,ok.frames,ok.stk,ok.exf,ok.bs,ok.bsz,ok.noex,ok.exfs,ok.funs,ok.frf⟩
section
variable {X:Cx} {pins:List (Addr×Obj)} {σ:St} {H:Hp} {s:Shared} {E:Value→Shared→Prop}
theorem Inv.wish (I:Inv X pins σ H s) (E:Value→Shared→Prop):Inv (X.wish E) pins σ H s:=⟨I.ok.wish E,I.os,I.bare,I.base,I.loc,I.cell,I.free,I.freeC,I.pin,I.hok,I.len⟩
theorem Inv.unwish (I:Inv (X.wish E) pins σ H s):Inv X pins σ H s:=⟨I.ok.unwish,I.os,I.bare,I.base,I.loc,I.cell,I.free,I.freeC,I.pin,I.hok,I.len⟩
theorem SP.unwish {D:Ends} {f:Flow} {s':Shared} (h:SP (X.wish E) pins D f s'):SP X pins D f s':=by
 cases f with
 | next=>obtain⟨σ',H',I,q⟩:=h;exact⟨σ',H',I.unwish,q⟩
 | brk=>obtain⟨σ',H',I,q⟩:=h;exact⟨σ',H',I.unwish,q⟩
 | cont=>obtain⟨σ',H',I,q⟩:=h;exact⟨σ',H',I.unwish,q⟩
 | ret u=>obtain⟨v,σ',H',I,r,q⟩:=h;exact⟨v,σ',H',I.unwish,r,q⟩
theorem PSs.nox {st:List Stmt} {t:TS} (h:PSs X.nox st t):PSs X st t:=fun pins s σ H D I hw =>
 wpAny_mono (h pins s σ H D (I.wish _) hw) (fun _ _ q=>q.unwish) fun _ _ z=>False.elim z
end
section
variable {X:Cx} {st:Stmt} {rest:List Stmt} {t u:TS} {e:Expr} {te:TE} {pos:Pos}
def tNext:TS:=fun D σ H=>D.nx σ H
def tSeq (t u:TS):TS:=fun D σ H=>t { D with nx:=u D } σ H
theorem pss_nil:PSs X [] tNext:=fun _ _ σ H _ I h=>wpAny_execs_nil ⟨σ,H,I,h⟩
theorem pss_cons (h1:PS X st t) (h2:PSs X rest u):PSs X (st::rest) (tSeq t u):=by
  intro pins s σ H D I h
  refine wpAny_execs_cons (thn (h1 pins s σ H { D with nx:=u D } I h) fun f s1 q=>?_)
  cases f with
  | next =>
    obtain⟨σ',H',I',q⟩:=q
    exact h2 pins s1 σ' H' D I' q
  | ret v=>exact q
  | brk=>exact q
  | cont=>exact q
theorem pss_one (h1:PS X st t):PSs X [st] t:=by
 intro pins s σ H D I h
 refine wpAny_execs_cons (thn (h1 pins s σ H D I h) fun f s1 q=>?_)
 cases f with
 | next=>exact wpAny_execs_nil q
 | ret v=>exact q
 | brk=>exact q
 | cont=>exact q
def tBreak:TS:=fun D σ H=>D.bk σ H
theorem ps_break:PS X (.Break pos) tBreak:=fun _ _ σ H _ I h=>wpAny_Break ⟨σ,H,I,h⟩
theorem Inv.quiet {pins:List (Addr×Obj)} {σ:St} {H:Hp} {s:Shared} (I:Inv X pins σ H s):interactive X.env=false:=by simp[interactive,I.ok.kind]
def tDrop (te:TE):TS:=fun D σ H=>te σ H fun _ H1=>D.nx σ H1
theorem ps_expr (he:PE X e te) (hs:swapsWith e none pos.line X.env=pure false:=by rfl):PS X (.Expr e pos) (tDrop te):=by
 intro pins s σ H D I h
 exact wpAny_Expr_any (thn (he pins s σ H _ I h) fun v s1 ⟨x,H1,I1,r1,q1⟩=>⟨σ,H1,I1,q1⟩) I.quiet hs
def tRet (te:TE):TS:=fun D σ H=>te σ H D.rt
theorem ps_ret (he:PE X e te):PS X (.Return (some e) pos) (tRet te):=by
 intro pins s σ H D I h
 exact wpAny_Return_some (thn (he pins s σ H _ I h) fun v s1 ⟨x,H1,I1,r1,q1⟩=>⟨x,σ,H1,I1,r1,q1⟩)
def tRetN:TS:=fun D _ H=>D.rt .non H
theorem ps_retN:PS X (.Return none pos) tRetN:=fun _ _ σ H _ I h=>wpAny_Return_none ⟨.non,σ,H,I,rfl,h⟩
def tIfS (c:TT) (t u:TS):TS:=fun D σ H=>c σ H fun b H1=>if b=true then t D σ H1 else u D σ H1
theorem ps_if {c:Expr} {a b:List Stmt} {tc:TT} (hc:PT X c tc) (ha:PSs X a t) (hb:PSs X b u):PS X (.If c a b pos) (tIfS tc t u):=by
 intro pins s σ H D I h
 refine wpAny_If (thn (hc pins s σ H _ I h) fun d s1 ⟨H1,I1,q1⟩=>?_)
 cases d with
 | true=>exact ha pins s1 σ H1 D I1 q1
 | false=>exact hb pins s1 σ H1 D I1 q1
def tNever:TS:=fun _ _ _=>False
theorem ps_never:PS X st tNever:=fun _ _ _ _ _ _ h=>h.elim
end
abbrev TG:=V→St→Hp→(St→Hp→Prop)→Prop
abbrev TGs:=List V→St→Hp→(St→Hp→Prop)→Prop
def PG (X:Cx) (target:Expr) (t:TG):Prop :=
  ∀ (pins : List (Addr × Obj)) (s : Shared) (σ : St) (H : Hp) (v : V) (u : Value) (Q : St → Hp → Prop), Inv X pins σ H s → RelV v u → t v σ H Q →
    wpAny (model X.prog X.w) X.A (assign target X.env u) (fun _ s'=>∃σ' H',Inv X pins σ' H' s'∧Q σ' H') X.xe s
def PGs (X:Cx) (ts:List Expr) (t:TGs):Prop :=
  ∀ (pins : List (Addr × Obj)) (s : Shared) (σ : St) (H : Hp) (vs : List V) (us : List Value) (Q : St → Hp → Prop), Inv X pins σ H s → Vals vs us → t vs σ H Q →
    wpAny (model X.prog X.w) X.A (assignInOrder ((assignEach ts X.env).map (·.2)) us) (fun _ s'=>∃σ' H',Inv X pins σ' H' s'∧Q σ' H') X.xe s
abbrev TSet:=V→V→V→Hp→(Hp→Prop)→Prop
def PSet (X:Cx) (t:TSet):Prop :=
  ∀ (pins : List (Addr × Obj)) (s : Shared) (σ : St) (H : Hp) (o i v : V) (ov iv u : Value) (Q : Hp → Prop), Inv X pins σ H s → RelV o ov → RelV i iv → RelV v u → t o i v H Q →
    wpAny (model X.prog X.w) X.A (setItem ov iv u) (fun _ s'=>∃H',Inv X pins σ H' s'∧Q H') X.xe s
abbrev TIp:=V→V→Hp→VK→Prop
def PIp (X:Cx) (op:Operator) (t:TIp):Prop :=
  ∀ (pins : List (Addr × Obj)) (s : Shared) (σ : St) (H : Hp) (x y : V) (v u : Value) (Q : VK), Inv X pins σ H s → RelV x v → RelV y u → t x y H Q →
    wpAny (model X.prog X.w) X.A (inplaceOp op v u) (EP X pins σ Q) X.xe s
section
variable {X:Cx} {pos:Pos}
def gName (i:Nat):TG:=fun v σ H Q=>Q (σ.set i (some v)) H
theorem pg_name {i:Nat} {x:Str} (hN:X.N.Nodup) (hi:X.N[i]? = some x) (hx:Loc X.env.scope x) (hf:X.fn x=true∨X.env.scope.names.lookup x=some .local:=by first|exact .inl rfl|exact .inr rfl|assumption):PG X (.Name x pos) (gName i):=by
 intro pins s σ H v u Q I r h
 exact wpAny_assign_Name (store_ok I hN hi hx r (fun s' I'=>⟨_,H,I',h⟩) hf)
def gNil:TGs:=fun vs σ H Q=>vs=[]∧Q σ H
def gCons (t:TG) (u:TGs):TGs:=fun vs σ H Q=>∃v r,vs=v::r∧t v σ H fun σ' H'=>u r σ' H' Q
theorem pgs_nil:PGs X [] gNil:=by
 intro pins s σ H vs us Q I r h
 obtain⟨e,h⟩:=h
 subst e
 cases r
 exact assignInOrder_nil ⟨σ,H,I,h⟩
theorem pgs_cons {e:Expr} {es:List Expr} {t:TG} {u:TGs} (h1:PG X e t) (h2:PGs X es u)
    (hs:(assignEach (e::es) X.env).map (·.2)=assign e X.env::(assignEach es X.env).map (·.2):=by rfl):PGs X (e::es) (gCons t u):=by
  intro pins s σ H vs us Q I r h
  obtain⟨v,vr,e1,h⟩:=h
  subst e1
  cases r with
  | cons r rr =>
    rw[hs]
    refine assignInOrder_cons (thn (h1 pins s σ H _ _ _ I r h) fun _ s1 ⟨σ1,H1,I1,q1⟩=>?_)
    exact h2 pins s1 σ1 H1 _ _ Q I1 rr q1
def gTup (K:PySem.W.Frag) (n:Nat) (t:TGs):TG:=fun v σ H Q=>∃a xs,v=.ref a∧SqT K H a xs∧xs.length=n∧t xs σ H Q
theorem pg_tup {es:List Expr} {k:Nat} {t:TGs} {n:Nat} (hc:X.calm=true) (h:PGs X es t)
  (hn:(assignEach es X.env).length=n:=by rfl) (hst:(assignEach es X.env).findIdx? (·.1)=none:=by rfl):PG X (.Tuple es k pos) (gTup X.K n t):=by
 intro pins s σ H v u Q I r hw
 obtain⟨a,xs,e1,hq,hl,hw⟩:=hw
 subst e1
 cases r
 obtain⟨its,rv,ht,hz⟩:=I.tuple hq
 refine assign_Tuple_tuple (I.ok.hd hc) ht (by simp[hn,←hl,rv.length]) hst fun h' hx=>?_
 have I1:Inv X pins σ H { s with heap:=h' }:=I.kept (t':=s.toks) fun b o e=>hx b o (Nat.ne_of_lt (Heap.lt_size e)) e
 exact h pins _ σ H xs _ Q I1 (by simpa using rv) hw
def gSub (to ti:TE) (t:TSet):TG:=fun v σ H Q=>to σ H fun o H1=>ti σ H1 fun i H2=>t o i v H2 fun H3=>Q σ H3
theorem pg_sub {o i:Expr} {to ti:TE} {t:TSet} (ho:PE X o to) (hi:PE X i ti) (hs:PSet X t)
  (ha:∀v,assign (.Subscript o i pos) X.env v=(do
   let ov ←holding [v] (eval o X.env)
   let iv ←holding [v,ov] (eval i X.env)
   standAt pos
   holding [v,ov,iv] (setItem ov iv v)
   release [v,ov,iv] []):=by intro _;rfl):PG X (.Subscript o i pos) (gSub to ti t):=by
 intro pins s σ H v u Q I r h
 rw[ha]
 refine wpAny_bind (wpAny_holding (thn (ho pins s σ H _ I h) fun ov s1 ⟨x,H1,I1,r1,q1⟩=>?_))
 refine wpAny_bind (wpAny_holding (thn (hi pins s1 σ H1 _ I1 q1) fun iv s2 ⟨y,H2,I2,r2,q2⟩=>?_))
 refine wpAny_bind (wpAny_standAt (wpAny_bind (wpAny_holding (thn (hs pins s2 σ H2 x y v ov iv u _ I2 r1 r2 r q2) fun _ s3 ⟨H3,I3,q3⟩=>?_))))
 exact wpAny_release ⟨σ,H3,I3,q3⟩
def tAsg (te:TE) (g:TG):TS:=fun D σ H=>te σ H fun x H1=>g x σ H1 D.nx
theorem ps_asg {tg e:Expr} {te:TE} {g:TG} (he:PE X e te) (hg:PG X tg g) (hs:swapsWithSole [tg] e pos.line X.env=pure false:=by rfl) (hw:swappedStores [tg] e X.env=pure none:=by rfl)
  (h1:(assignEach [tg] X.env).map (·.2)=[assign tg X.env]:=by rfl):PS X (.Assign [tg] e pos) (tAsg te g):=by
 intro pins s σ H D I h
 refine wpAny_Assign_stores (thn (he pins s σ H _ I h) fun v s1 ⟨x,H1,I1,r1,q1⟩=>?_) hs hw
 rw[h1]
 exact thn (hg pins s1 σ H1 x v _ I1 r1 q1) fun _ s2 q=>q
theorem ps_set {i:Nat} {x:Str} {e:Expr} {te:TE} {pos':Pos} (hN:X.N.Nodup) (hi:X.N[i]? = some x) (hx:Loc X.env.scope x) (he:PE X e te) (hs:swapsWith e (some (.Name x pos')) pos.line X.env=pure false:=by rfl) (hf:X.fn x=true∨X.env.scope.names.lookup x=some .local:=by first|exact .inl rfl|exact .inr rfl|assumption) :
  PS X (.Assign [.Name x pos'] e pos) (tAsg te (gName i)):=by
 intro pins s σ H D I h
 refine wpAny_Assign_Name (thn (he pins s σ H _ I h) fun v s1 ⟨y,H1,I1,r1,q1⟩=>?_) hs
 exact store_ok I1 hN hi hx r1 (fun s2 I2=>⟨_,H1,I2,q1⟩) hf
def tAug (i:Nat) (te:TE) (ti:TIp):TS:=fun D σ H=>∃x,σ[i]? = some (some x)∧te σ H fun y H1=>ti x y H1 fun z H2=>D.nx (σ.set i (some z)) H2
theorem ps_aug {i:Nat} {x:Str} {e:Expr} {te:TE} {op:Operator} {ti:TIp} {pos':Pos} (hN:X.N.Nodup) (hi:X.N[i]? = some x) (hx:Loc X.env.scope x) (he:PE X e te) (ho:PIp X op ti) (hf:X.fn x=true∨X.env.scope.names.lookup x=some .local:=by first|exact .inl rfl|exact .inr rfl|assumption) :
    PS X (.AugAssign (.Name x pos') op e pos) (tAug i te ti):=by
  intro pins s σ H D I h
  obtain⟨v,e1,h⟩:=h
  obtain⟨m,hn,hl⟩:=I.loc
  have vis:Vis X.env.scope x:=by rcases hx with k|k;exact .inl k;exact .inr (.inl k)
  obtain⟨u,r,l⟩:=hl i x v hi e1 vis
  refine wpAny_AugAssign_Name ?_
  have go:wpAny (model X.prog X.w) X.A (eval e X.env) (fun w s₂=>wpAny (model X.prog X.w) X.A (inplaceOp op u w) (fun r s₃=>wpAny (model X.prog X.w) X.A (storeName X.env x r) (fun _=>SP X pins D .next) X.xe s₃) X.xe s₂) X.xe s:=by
    refine thn (he pins s σ H _ I h) fun w s1 ⟨y,H1,I1,r1,q1⟩=>?_
    refine thn (ho pins s1 σ H1 v y u w _ I1 r r1 q1) fun z s2 ⟨zv,H2,I2,r2,q2⟩=>?_
    exact store_ok I2 hN hi hx r2 (fun s3 I3=>⟨_,H2,I3,q2⟩) hf
  rcases l with⟨hk,hm⟩|⟨hk,c,hc,hcell⟩
  · exact wpAny_loadName_local I.ok.kind hk hn hm go
  · rcases hk with hk|hk
    · exact wpAny_loadName_cell I.ok.kind hk hc hcell go
    · rcases hx with k|k
      · have:X.env.scope.names.lookup x=some .free:=hk
        rw[k]at this;cases this
      · have:X.env.scope.names.lookup x=some .free:=hk
        rw[k]at this;cases this
def tAugS (to ti te:TE) (tget:V→V→Hp→VK→Prop) (tip:TIp) (tset:TSet):TS:=fun D σ H=>to σ H fun o H1=>ti σ H1 fun i H2=>tget o i H2 fun x H3=>te σ H3 fun y H4=>tip x y H4 fun z H5=>tset o i z H5 fun H6=>D.nx σ H6
def PGet (X:Cx) (t:V→V→Hp→VK→Prop):Prop :=
  ∀ (pins : List (Addr × Obj)) (s : Shared) (σ : St) (H : Hp) (o i : V) (ov iv : Value) (Q : VK), Inv X pins σ H s → RelV o ov → RelV i iv → t o i H Q →
    wpAny (model X.prog X.w) X.A (getItem ov iv) (EP X pins σ Q) X.xe s
theorem ps_augS {o i e:Expr} {to ti te:TE} {tget:V→V→Hp→VK→Prop} {tip:TIp} {tset:TSet} {op:Operator} {tpos:Pos} (ho:PE X o to) (hi:PE X i ti) (hg:PGet X tget) (he:PE X e te) (hp:PIp X op tip) (hs:PSet X tset)
  (ha:∀ov iv new,augStore i ov iv new=(do holding [new,ov,iv] (setItem ov iv new);release [new,ov,iv] [];pure .next):=by intros;rfl):PS X (.AugAssign (.Subscript o i tpos) op e pos) (tAugS to ti te tget tip tset):=by
 intro pins s σ H D I h
 refine wpAny_AugAssign_SubscriptAny (thn (ho pins s σ H _ I h) fun ov s1 ⟨x1,H1,I1,r1,q1⟩=>?_) ha
 refine thn (hi pins s1 σ H1 _ I1 q1) fun iv s2 ⟨x2,H2,I2,r2,q2⟩=>?_
 refine thn (hg pins s2 σ H2 x1 x2 ov iv _ I2 r1 r2 q2) fun old s3 ⟨x3,H3,I3,r3,q3⟩=>?_
 refine thn (he pins s3 σ H3 _ I3 q3) fun v s4 ⟨x4,H4,I4,r4,q4⟩=>?_
 refine thn (hp pins s4 σ H4 x3 x4 old v _ I4 r3 r4 q4) fun new s5 ⟨x5,H5,I5,r5,q5⟩=>?_
 exact thn (hs pins s5 σ H5 x1 x2 x5 ov iv new _ I5 r1 r2 r5 q5) fun _ s6 ⟨H6,I6,q6⟩=>⟨σ,H6,I6,q6⟩
def ipI (f:Int→Int→Int):TIp:=fun x y H Q=>∃i j,x=.int i∧y=.int j∧Q (.int (f i j)) H
theorem ip_add:PIp X .Add (ipI fun i j=>i+j):=by
 intro pins s σ H x y v u Q I r1 r2 h
 obtain⟨i,j,e1,e2,q⟩:=h
 subst e1;subst e2
 obtain⟨t,rfl⟩:=r1
 obtain⟨t',rfl⟩:=r2
 exact iadd_int ⟨.int _,H,I.tok _,⟨_,rfl⟩,q⟩
theorem ip_sub:PIp X .Sub (ipI fun i j=>i - j):=by
 intro pins s σ H x y v u Q I r1 r2 h
 obtain⟨i,j,e1,e2,q⟩:=h
 subst e1;subst e2
 obtain⟨t,rfl⟩:=r1
 obtain⟨t',rfl⟩:=r2
 exact isub_int ⟨.int _,H,I.tok _,⟨_,rfl⟩,q⟩
end
section
variable {X:Cx} {pos:Pos}
def tWhile (c:TT) (tb:TS):TS:=fun D σ H=>∃W:Nat→St→Hp→Prop,(∃m,W m σ H)∧∀m σ H,W m σ H →
 c σ H fun b H1=>if b=true then ∃N:St→Hp→Prop,(∀σ' H',N σ' H'→∃m',m'<m∧W m' σ' H')∧tb { D with nx:=N,ct:=N,bk:=D.nx } σ H1 else D.nx σ H1
theorem ps_while {c:Expr} {body:List Stmt} {tc:TT} {tb:TS} (hp:PassesOwn (model X.prog X.w) X.A X.env X.xe) (hc:PT X c tc) (hb:PSs X body tb):PS X (.While c body [] pos) (tWhile tc tb):=by
  intro pins s σ H D I h
  obtain⟨W,⟨m0,w0⟩,turn⟩:=h
  refine wpAny_While (codeAny_whileLoop (fun n s'=>∃σ' H',Inv X pins σ' H' s'∧W n σ' H') ?_ m0 ⟨σ,H,I,w0⟩)
  rintro n s1 ⟨σ1,H1,I1,w1⟩
  refine wpAny_passesOwn hp (thn (hc pins s1 σ1 H1 _ I1 (turn n σ1 H1 w1)) fun b s2 ⟨H2,I2,q2⟩=>?_)
  cases b with
  | true =>
    obtain⟨N,hN,q2⟩:=q2
    rw[if_pos rfl]
    refine wpAny_passesOwn hp (thn (hb pins s2 σ1 H2 _ I2 q2) fun f s3 q3=>?_)
    cases f with
    | next =>
      obtain⟨σ3,H3,I3,n3⟩:=q3
      obtain⟨m',hm,w3⟩:=hN σ3 H3 n3
      exact⟨m',hm,σ3,H3,I3,w3⟩
    | cont =>
      obtain⟨σ3,H3,I3,n3⟩:=q3
      obtain⟨m',hm,w3⟩:=hN σ3 H3 n3
      exact⟨m',hm,σ3,H3,I3,w3⟩
    | brk=>exact q3
    | ret v=>exact q3
  | false =>
    rw[if_neg Bool.false_ne_true]
    exact wpAny_execs_nil ⟨σ1,H2,I2,q2⟩
end
structure It where
 go:Nat→Hp→Prop
 yld:Nat→Hp→V→Hp→Prop
 stop:Nat→Hp→Prop
def FpOk (X:Cx) (pins:List (Addr×Obj)) (H:Hp) (b:Addr):Prop :=
 H b=none∧b≠X.env.locals∧b∉X.fs∧(b∈X.ex∨X.s_0.heap.objs.size≤b)∧(∀x c,X.env.cells.lookup x=some c→c≠b)∧∀p∈X.pn++pins,p.1≠b
theorem Inv.fpOk {X:Cx} {pins:List (Addr×Obj)} {σ:St} {H H':Hp} {s:Shared} {b:Addr} (I:Inv X pins σ H s) (hb:s.heap.objs.size≤b) (hn:H' b=none):FpOk X pins H' b:=by
 refine⟨hn,Nat.ne_of_gt (Nat.lt_of_lt_of_le I.lt hb),I.nofs hb,.inr (Nat.le_trans I.sz hb),fun x c e z=>?_,fun p hp z=>?_⟩
 ·obtain⟨v,q⟩:=I.cell x c e
  exact absurd (Nat.lt_of_lt_of_le q.lt (by rw[z];exact hb)) (Nat.lt_irrefl _)
 ·exact absurd (Nat.lt_of_lt_of_le (Heap.lt_size (I.pin p hp).1) (by rw[z];exact hb)) (Nat.lt_irrefl _)
structure Turn (P:Program) (w:World) (K:PySem.W.Frag) (tg:Expr) (J:It) (fp:List Addr) (it:Addr) (tn:Nat→Heap→Prop):Prop where
 mem:it∈fp
 obj:∀i h,tn i h→∀b∈fp,∃o,h.get? b=some o∧∀v,o.data≠.cell v
 keep:∀i h h',tn i h→(∀b∈fp,∀o,h.get? b=some o→h'.get? b=some o)→tn i h'
 item:∀(X:Cx),X.prog=P→X.w=w→X.K=K→X.calm=true→∀(i:Nat) (pins:List (Addr×Obj)) (s:Shared) (σ:St) (H:Hp) (E:Value→Shared→Prop),Inv X pins σ H s→(∀b∈fp,FpOk X pins H b)→tn i s.heap→J.go i H →
  wpAny (model P w) X.A (pyNext (.ref it)) (fun r s1=>∃u,r=some u ∧
   wpAny (model P w) X.A (letOwnedTupleGo tg (.ref it) u) (fun _ s2=>∃x H',Inv X pins σ H' s2∧RelV x u∧J.yld i H x H'∧tn (i+1) s2.heap∧∀b∈fp,H' b=none) E s1) E s
 done:∀(X:Cx),X.prog=P→X.w=w→X.K=K→X.calm=true→∀(i:Nat) (pins:List (Addr×Obj)) (s:Shared) (σ:St) (H:Hp) (E:Value→Shared→Prop),Inv X pins σ H s→(∀b∈fp,FpOk X pins H b)→tn i s.heap→J.stop i H →
  wpAny (model P w) X.A (pyNext (.ref it)) (fun r s1=>r=none∧Inv X pins σ H s1) E s
 self:∀(A:Around) (i:Nat) (s:Shared) (Q:Value→Shared→Prop) (E:Value→Shared→Prop),tn i s.heap→Q (.ref it) s→wpAny (model P w) A (pyIter (.ref it)) Q E s
abbrev TI:=St→Hp→(It→Hp→Prop)→Prop
def PIE (X:Cx) (pins:List (Addr×Obj)) (σ:St) (tg:Expr) (R:It→Hp→Prop) (itv:Value) (s2:Shared):Prop :=
 ∃(it:Addr) (fp:List Addr) (tn:Nat→Heap→Prop) (J:It) (H':Hp),itv=.ref it∧Inv X pins σ H' s2∧Turn X.prog X.w X.K tg J fp it tn∧tn 0 s2.heap∧(∀b∈fp,FpOk X pins H' b)∧R J H'
def PI (X:Cx) (tg iter:Expr) (wi:TI):Prop :=
  ∀ (pins : List (Addr × Obj)) (s : Shared) (σ : St) (H : Hp) (R : It → Hp → Prop), Inv X pins σ H s → wi σ H R →
    wpAny (model X.prog X.w) X.A (eval iter X.env) (fun v s1=>wpAny (model X.prog X.w) X.A (pyIter v) (PIE X pins σ tg R) X.xe s1) X.xe s
theorem go_of {M:Model} {A:Around} {E:Value→Shared→Prop} {s:Shared} {tg:Expr} {it:Addr} {u:Value} {o:Obj} {n:String} {vs:Array Value} {Q:Unit→Shared→Prop} (ho:s.heap.get? it=some o) (hc:o.cls=.type n) (hd:o.data=.fields vs)
    (hn:["enumerate","zip","dict_itemiterator","dict_reverseitemiterator","odict_iterator","itertools.zip_longest","itertools.pairwise"].contains n=false) (hQ:Q () s):wpAny M A (letOwnedTupleGo tg (.ref it) u) Q E s:=by
  unfold letOwnedTupleGo
  cases tg <;> first
    | exact wpAny_pure hQ
    | (cases u<;>first
        | exact wpAny_pure hQ
        | (refine wpAny_bind (wpAny_load ho ?_)
           rw[hc,hd]
           show wpAny M A (if(["enumerate","zip","dict_itemiterator","dict_reverseitemiterator","odict_iterator","itertools.zip_longest","itertools.pairwise"].contains n&&vs[0]? == some (rawInt _))=true then _ else _) Q E s
           rw[if_neg (by intro h;rw[hn,Bool.false_and]at h;cases h)]
           exact wpAny_pure hQ))
def Itl (K:PySem.W.Frag) (a:Addr):It :=
 ⟨fun i H=>∃xs x,SqL K H a xs∧xs[i]? = some x,fun i H x H'=>H'=H∧∀xs,SqL K H a xs→xs[i]? = some x,fun i H=>∃xs,SqL K H a xs∧xs.length≤i⟩
def Itt (K:PySem.W.Frag) (a:Addr):It :=
 ⟨fun i H=>∃xs x,SqT K H a xs∧xs[i]? = some x,fun i H x H'=>H'=H∧∀xs,SqT K H a xs→xs[i]? = some x,fun i H=>∃xs,SqT K H a xs∧xs.length≤i⟩
def Itr (lo:Int) (n:Nat):It:=⟨fun i _=>i<n,fun i H x H'=>H'=H∧x=.int (lo+i),fun i _=>n≤i⟩
theorem turn_list {P:Program} {w:World} {K:PySem.W.Frag} {tg:Expr} (a it:Addr):Turn P w K tg (Itl K a) [it] it (fun i h=>h.IsListIter it a i) where
 mem:=by simp
 obj:=fun i h st b hb=>by
  have e:b=it:=by simpa using hb
  subst e
  obtain⟨o,e,c,d⟩:=st
  exact⟨o,e,fun v z=>by rw[d]at z;cases z⟩
 keep:=fun i h h' st k=>st.at fun o e=>k it (by simp) o e
 item:=by
  intro X hP hw hK hc i pins s σ H E I hf st hg
  subst hP hw hK
  obtain⟨xs,x,hq,hx⟩:=hg
  obtain⟨its,rv,p,hz⟩:=I.list hq
  obtain⟨u,hu,ru⟩:=rv.get hx
  obtain⟨f0,f1,f2,f3,f4,f5⟩:=hf it (by simp)
  refine wpAny_pyNext_list_item st p.isList (x:=u) (by simpa using hu) fun h' st' sb=>?_
  have I1:Inv X pins σ H { s with heap:=h' }:=I.turned (t':=s.toks) (fun b o hb e=>(sb.2 b hb).trans e) f0 f1 f3 f4 f5
  obtain⟨o,e,c,d⟩:=id st'
  exact⟨u,rfl,go_of (s:={ s with heap:=h' }) e c d (by decide) ⟨x,H,I1,ru,⟨rfl,fun ys hy=>by rw[I.list_inj hy hq];exact hx⟩,st',fun b hb=>(hf b hb).1⟩⟩
 done:=by
  intro X hP hw hK hc i pins s σ H E I hf st hg
  subst hP hw hK
  obtain⟨xs,hq,hx⟩:=hg
  obtain⟨its,rv,p,hz⟩:=I.list hq
  obtain⟨f0,f1,f2,f3,f4,f5⟩:=hf it (by simp)
  have hl:=rv.length
  exact wpAny_pyNext_list_end (I.ok.hd hc) st p.isList (by simp;omega) fun h' eb=>⟨rfl,I.turned (t':=s.toks) (fun b o hb e=>eb b o hb e) f0 f1 f3 f4 f5⟩
 self:=fun _ _ _ _ _ st h=>wpAny_pyIter_listiter st h
theorem turn_tuple {P:Program} {w:World} {K:PySem.W.Frag} {tg:Expr} (a it:Addr):Turn P w K tg (Itt K a) [it] it (fun i h=>h.IsTupleIter it a i) where
 mem:=by simp
 obj:=fun i h st b hb=>by
  have e:b=it:=by simpa using hb
  subst e
  obtain⟨o,e,c,d⟩:=st
  exact⟨o,e,fun v z=>by rw[d]at z;cases z⟩
 keep:=fun i h h' st k=>st.at fun o e=>k it (by simp) o e
 item:=by
  intro X hP hw hK hc i pins s σ H E I hf st hg
  subst hP hw hK
  obtain⟨xs,x,hq,hx⟩:=hg
  obtain⟨its,rv,p,hz⟩:=I.tuple hq
  obtain⟨u,hu,ru⟩:=rv.get hx
  obtain⟨f0,f1,f2,f3,f4,f5⟩:=hf it (by simp)
  refine wpAny_pyNext_tuple_item st (show s.heap.IsTuple a its.toArray from p) (x:=u) (by simpa using hu) fun h' st' sb=>?_
  have I1:Inv X pins σ H { s with heap:=h' }:=I.turned (t':=s.toks) (fun b o hb e=>(sb.2 b hb).trans e) f0 f1 f3 f4 f5
  obtain⟨o,e,c,d⟩:=id st'
  exact⟨u,rfl,go_of (s:={ s with heap:=h' }) e c d (by decide) ⟨x,H,I1,ru,⟨rfl,fun ys hy=>by rw[I.tuple_inj hy hq];exact hx⟩,st',fun b hb=>(hf b hb).1⟩⟩
 done:=by
  intro X hP hw hK hc i pins s σ H E I hf st hg
  subst hP hw hK
  obtain⟨xs,hq,hx⟩:=hg
  obtain⟨its,rv,p,hz⟩:=I.tuple hq
  obtain⟨f0,f1,f2,f3,f4,f5⟩:=hf it (by simp)
  have hl:=rv.length
  exact wpAny_pyNext_tuple_end (I.ok.hd hc) st (show s.heap.IsTuple a its.toArray from p) (by simp;omega) fun h' eb=>⟨rfl,I.turned (t':=s.toks) (fun b o hb e=>eb b o hb e) f0 f1 f3 f4 f5⟩
 self:=fun _ _ _ _ _ st h=>wpAny_pyIter_tupleiter st h
theorem turn_range {P:Program} {w:World} {K:PySem.W.Frag} {tg:Expr} (it:Addr) (lo:Int) (n:Nat):Turn P w K tg (Itr lo n) [it] it (fun i h=>IsRangeIter h it (lo+(i:Nat) * 1) ((n:Int) - (i:Nat)) 1) where
  mem:=by simp
  obj := fun i h st b hb => by
    have e:b=it:=by simpa using hb
    subst e
    exact⟨_,st,fun v z=>by
      have z':Data.fields _=Data.cell v:=z
      cases z'⟩
  keep:=fun i h h' st k=>k it (by simp) _ st
  item:=by
    intro X hP hw hK hc i pins s σ H E I hf st hg
    subst hP hw hK
    obtain⟨f0,f1,f2,f3,f4,f5⟩:=hf it (by simp)
    have W:=Walks.range (prog:=X.prog) (w:=X.w) (I.ok.hd hc) it lo 1 n
    refine W.item i s _ _ hg st fun v h' tk hv st' kk=>?_
    obtain⟨t,rfl⟩:=hv
    have I1:Inv X pins σ H { s with heap:=h',toks:=tk }:=I.turned (fun b o hb e=>kk b o (by simpa using hb) e) f0 f1 f3 f4 f5
    refine⟨_,rfl,go_of (s:={ s with heap:=h',toks:=tk }) (n := "range_iterator") st' rfl rfl (by decide) ⟨.int (lo+i),H,I1,⟨t,?_⟩,⟨rfl,rfl⟩,st',fun b hb=>(hf b hb).1⟩⟩
    rw[Int.mul_one]
  done:=by
    intro X hP hw hK hc i pins s σ H E I hf st hg
    subst hP hw hK
    obtain⟨f0,f1,f2,f3,f4,f5⟩:=hf it (by simp)
    exact wpAny_pyNext_range_end (I.ok.hd hc) st (by have:n≤i:=hg;omega) fun h' eb=>⟨rfl,I.turned (t':=s.toks) (fun b o hb e=>eb b o hb e) f0 f1 f3 f4 f5⟩
  self:=fun _ _ _ _ _ st h=>wpAny_pyIter_rangeiter st h
end L2
namespace L2
open PySem PySem.Spec PyProof.Rows
section
variable {X:Cx} {tg:Expr}
def iList (K:PySem.W.Frag) (tl:TE):TI:=fun σ H R=>tl σ H fun x H1=>∃a,x=.ref a∧(∃xs,SqL K H1 a xs)∧R (Itl K a) H1
def iTup (K:PySem.W.Frag) (tl:TE):TI:=fun σ H R=>tl σ H fun x H1=>∃a,x=.ref a∧(∃xs,SqT K H1 a xs)∧R (Itt K a) H1
theorem pi_list {l:Expr} {tl:TE} (hl:PE X l tl):PI X tg l (iList X.K tl):=by
 intro pins s σ H R I h
 refine thn (hl pins s σ H _ I h) fun v s1 ⟨x,H1,I1,r1,q1⟩=>?_
 obtain⟨a,e,⟨xs,hq⟩,q⟩:=q1
 subst e
 cases r1
 obtain⟨its,rv,p,hz⟩:=I1.list hq
 refine wpAny_pyIter_list p.isList ?_
 refine⟨s1.heap.objs.size,[s1.heap.objs.size],_,_,H1,rfl,I1.kept (t':=s1.toks) fun b o e=>Heap.get?_push_of_some _ e,turn_list a _,⟨_,Heap.get?_push_size _ rfl,rfl,rfl⟩,fun b hb=>?_,q⟩
 have e:b=s1.heap.objs.size:=by simpa using hb
 subst e
 exact I1.fpOk (Nat.le_refl _) (I1.hok.fresh (Nat.le_refl _))
theorem pi_tup {l:Expr} {tl:TE} (hl:PE X l tl):PI X tg l (iTup X.K tl):=by
 intro pins s σ H R I h
 refine thn (hl pins s σ H _ I h) fun v s1 ⟨x,H1,I1,r1,q1⟩=>?_
 obtain⟨a,e,⟨xs,hq⟩,q⟩:=q1
 subst e
 cases r1
 obtain⟨its,rv,p,hz⟩:=I1.tuple hq
 refine wpAny_pyIter_tuple (show s1.heap.IsTuple a its.toArray from p) ?_
 refine⟨s1.heap.objs.size,[s1.heap.objs.size],_,_,H1,rfl,I1.kept (t':=s1.toks) fun b o e=>Heap.get?_push_of_some _ e,turn_tuple a _,⟨_,Heap.get?_push_size _ rfl,rfl,rfl⟩,fun b hb=>?_,q⟩
 have e:b=s1.heap.objs.size:=by simpa using hb
 subst e
 exact I1.fpOk (Nat.le_refl _) (I1.hok.fresh (Nat.le_refl _))
theorem range_it {pins:List (Addr×Obj)} {σ:St} {H:Hp} {s:Shared} {R:It→Hp→Prop} {E:Value→Shared→Prop} {lo hi:Int} {t u v:Tok} {tk:Nat} (I:Inv X pins σ H s) (h1:-(2 ^ 62)≤lo) (h2:lo<2 ^ 62) (h3:-(2 ^ 62)≤hi) (h4:hi<2 ^ 62)
  (q:R (Itr lo (hi - lo).toNat) H):wpAny (model X.prog X.w) X.A (pyIter (.ref s.heap.objs.size)) (PIE X pins σ tg R) E { s with heap:=s.heap.push { cls:=.type "range",data:=.fields #[.int lo t,.int hi u,.int 1 v] },toks:=tk }:=by
 refine wpAny_pyIter_range (IsRange.new ..) (small_one h1 h2 h3 h4) ?_
 have I1:Inv X pins σ H { s with heap:=s.heap.push { cls:=.type "range",data:=.fields #[.int lo t,.int hi u,.int 1 v] },toks:=tk }:=I.kept fun b o e=>Heap.get?_push_of_some _ e
 refine⟨(s.heap.push { cls:=.type "range",data:=.fields #[.int lo t,.int hi u,.int 1 v] }).objs.size,[(s.heap.push { cls:=.type "range",data:=.fields #[.int lo t,.int hi u,.int 1 v] }).objs.size],_,_,H,rfl,
  I1.kept (t':=tk) fun b o e=>Heap.get?_push_of_some _ e,turn_range _ lo (hi - lo).toNat,?_,fun b hb=>?_,q⟩
 ·have e1:lo+((0:Nat):Int) * 1=lo:=by simp
  have e2:(((hi - lo).toNat:Nat):Int) - ((0:Nat):Int)=Builtin.Range.rangeSize lo hi 1:=by rw[rangeSize_one];split<;>omega
  show IsRangeIter _ _ (lo+((0:Nat):Int) * 1) ((((hi - lo).toNat:Nat):Int) - ((0:Nat):Int)) 1
  rw[e1,e2]
  exact Heap.get?_push_size _ rfl
 ·have e:b=(s.heap.push { cls:=.type "range",data:=.fields #[.int lo t,.int hi u,.int 1 v] }).objs.size:=by simpa using hb
  subst e
  exact I1.fpOk (Nat.le_refl _) (I1.hok.fresh (Nat.le_refl _))
def iRng1 (ta:TA):TI:=fun σ H R=>ta σ H fun vs H1=>∃j:Int,vs=[.int j]∧-(2 ^ 62)≤j∧j<2 ^ 62∧R (Itr 0 j.toNat) H1
def iRng2 (ta:TA):TI:=fun σ H R=>ta σ H fun vs H1=>∃i j:Int,vs=[.int i,.int j]∧(-(2 ^ 62)≤i∧i<2 ^ 62∧-(2 ^ 62)≤j∧j<2 ^ 62)∧R (Itr i (j - i).toNat) H1
theorem pi_range1 {a:Expr} {ta:TA} {p pos:Pos} (hg:Gl X "range") (hm:X.mg "range" = none) (ha:PA X [a] ta) (hs:starEach [a] X.env=[(false,eval a X.env)]:=by rfl):PI X tg (.Call (.Name "range" p) [a] [] pos) (iRng1 ta):=by
  intro pins s σ H R I h
  refine Call_ (ld_blt I hg hm boot_range (PyProof.Rows.callWith_type1 (thn (ha pos pins s σ H _ I h) fun us s1 ⟨vs,H1,I1,r1,q1⟩=>?_) hs rfl))
  obtain⟨j,e,q1,q2,q⟩:=q1
  subst e
  cases r1 with
  | cons r rr =>
    cases rr
    obtain⟨t,rfl⟩:=r
    exact call_range_1 (range_it I1 (by omega) (by omega) q1 q2 (by simpa using q))
theorem pi_range2 {a b:Expr} {ta:TA} {p pos:Pos} (hg:Gl X "range") (hm:X.mg "range" = none) (ha:PA X [a,b] ta) (hs:starEach [a,b] X.env=[(false,eval a X.env),(false,eval b X.env)]:=by rfl) (hs2:starEach [b] X.env=[(false,eval b X.env)]:=by rfl) :
    PI X tg (.Call (.Name "range" p) [a,b] [] pos) (iRng2 ta):=by
  intro pins s σ H R I h
  refine Call_ (ld_blt I hg hm boot_range (PyProof.Rows.callWith_type1 (thn (ha pos pins s σ H _ I h) fun us s1 ⟨vs,H1,I1,r1,q1⟩=>?_) (by rw[hs,hs2]) (by rw[hs2];rfl)))
  obtain⟨i,j,e,⟨q1,q2,q3,q4⟩,q⟩:=q1
  subst e
  cases r1 with
  | cons r rr =>
    cases rr with
    | cons r' rr =>
      cases rr
      obtain⟨t,rfl⟩:=r
      obtain⟨t',rfl⟩:=r'
      exact call_range_2 (range_it I1 q1 q2 q3 q4 q)
def tFor (wi:TI) (g:TG) (tb:TS):TS:=fun D σ H=>wi σ H fun J H1=>∃W:Nat→Nat→St→Hp→Prop,(∃m,W 0 m σ H1)∧∀i m σ H,W i m σ H →
 (J.stop i H∧D.nx σ H)∨(J.go i H∧∃N:St→Hp→Prop,(∀σ' H',N σ' H'→∃m',m'<m∧W (i+1) m' σ' H')∧∀x H',J.yld i H x H'→g x σ H' fun σ2 H2=>tb { D with nx:=N,ct:=N,bk:=D.nx } σ2 H2)
def pinsAt (fp:List Addr) (h:Heap):List (Addr×Obj):=fp.filterMap fun b=>(h.get? b).map fun o=>(b,o)
theorem mem_pinsAt {fp:List Addr} {h:Heap} {b:Addr} {o:Obj} (hb:b∈fp) (e:h.get? b=some o):(b,o)∈pinsAt fp h:=List.mem_filterMap.mpr ⟨b,hb,by rw[e];rfl⟩
theorem of_pinsAt {fp:List Addr} {h:Heap} {p:Addr×Obj} (hp:p∈pinsAt fp h):p.1∈fp∧h.get? p.1=some p.2:=by
  obtain⟨b,hb,e⟩:=List.mem_filterMap.mp hp
  cases q:h.get? b with
  | none=>rw[q]at e;cases e
  | some o =>
    rw[q]at e
    have e':(b,o)=p:=Option.some.inj e
    subst e'
    exact⟨hb,q⟩
theorem Inv.pinned {pins:List (Addr×Obj)} {σ:St} {H:Hp} {s:Shared} {fp:List Addr} (I:Inv X pins σ H s) (hf:∀b∈fp,FpOk X pins H b) (ho:∀b∈fp,∃o,s.heap.get? b=some o∧∀v,o.data≠.cell v):Inv X (pins++pinsAt fp s.heap) σ H s :=
 I.pins_of fun p hp=>(List.mem_append.mp hp).elim (fun z=>I.pin p (List.mem_append_right _ z)) fun z=>by
  obtain⟨hb,e⟩:=of_pinsAt z
  obtain⟨f0,f1,f2,_⟩:=hf p.1 hb
  obtain⟨o,e',d⟩:=ho p.1 hb
  rw[e]at e';cases e'
  exact⟨e,f0,f1,f2,d⟩
theorem Inv.unpinned {pins pl:List (Addr×Obj)} {σ:St} {H:Hp} {s:Shared} (I:Inv X (pins++pl) σ H s):Inv X pins σ H s:=I.pins_of fun p hp=>I.pin p (List.mem_append_right _ (List.mem_append_left _ hp))
theorem ps_for {iter:Expr} {body:List Stmt} {wi:TI} {g:TG} {tb:TS} {pos:Pos} (hp:PassesOwn (model X.prog X.w) X.A X.env X.xe) (hc:X.calm=true) (hi:PI X tg iter wi) (hg:PG X tg g) (hb:PSs X body tb)
  (hs:∀x,foldedSetIterable iter X.env x=pure x:=by intro _;rfl):PS X (.For tg iter body [] pos) (tFor wi g tb):=by
 intro pins s σ H D I h
 refine wpAny_For (thn (hi pins s σ H _ I h) fun v s1 h1=>thn h1 fun itv s2 h2=>?_) hs
 obtain⟨it,fp,tn,J,H2,e,I2,T,st2,f2,W,⟨m0,w0⟩,turn⟩:=h2
 subst e
 have stat:∀{H':Hp},(∀b∈fp,H' b=none)→∀b∈fp,FpOk X pins H' b:=fun hn b hb=>⟨hn b hb,(f2 b hb).2⟩
 refine codeAny_forLoop_any (fun n s'=>∃i σ' H',Inv X pins σ' H' s'∧tn i s'.heap∧(∀b∈fp,H' b=none)∧W i n σ' H') ?_ m0 ⟨0,σ,H2,I2,st2,fun b hb=>(f2 b hb).1,w0⟩
 rintro n s3 ⟨i,σ3,H3,I3,st3,fr3,w3⟩
 rcases turn i n σ3 H3 w3 with⟨stop,qn⟩|⟨go,N,hN,step⟩
 ·refine wpAny_passesOwn hp (thn (T.done X rfl rfl rfl hc i pins s3 σ3 H3 X.xe I3 (stat fr3) st3 stop) fun r s4 ⟨hr,I4⟩=>?_)
  subst hr
  exact wpAny_execs_nil ⟨σ3,H3,I4,qn⟩
 ·refine wpAny_passesOwn hp (thn (T.item X rfl rfl rfl hc i pins s3 σ3 H3 X.xe I3 (stat fr3) st3 go) fun r s4 ⟨u,hr,h4⟩=>?_)
  subst hr
  refine wpAny_passesOwn hp (thn h4 fun _ s5 ⟨x,H5,I5,r5,y5,st5,fr5⟩=>?_)
  have I5':=I5.pinned (stat fr5) (T.obj _ _ st5)
  refine wpAny_passesOwn hp (thn (hg _ s5 σ3 H5 x u _ I5' r5 (step x H5 y5)) fun _ s6 ⟨σ6,H6,I6,q6⟩=>?_)
  refine wpAny_passesOwn hp (thn (hb _ s6 σ6 H6 _ I6 q6) fun f s7 q7=>?_)
  have again:∀{σ7:St} {H7:Hp},Inv X (pins++pinsAt fp s5.heap) σ7 H7 s7→N σ7 H7→∃m,m<n∧∃i σ' H',Inv X pins σ' H' s7∧tn i s7.heap∧(∀b∈fp,H' b=none)∧W i m σ' H':=fun {σ7 H7} I7 n7=>by
   obtain⟨m',hm,w7⟩:=hN σ7 H7 n7
   refine⟨m',hm,i+1,σ7,H7,I7.unpinned,T.keep _ _ _ st5 fun b hb o e=>(I7.pin (b,o) (List.mem_append_right _ (List.mem_append_right _ (mem_pinsAt hb e)))).1,fun b hb=>?_,w7⟩
   obtain⟨o,e,d⟩:=T.obj _ _ st5 b hb
   exact(I7.pin (b,o) (List.mem_append_right _ (List.mem_append_right _ (mem_pinsAt hb e)))).2.1
  cases f with
  | next=>obtain⟨σ7,H7,I7,n7⟩:=q7;exact again I7 n7
  | cont=>obtain⟨σ7,H7,I7,n7⟩:=q7;exact again I7 n7
  | brk=>obtain⟨σ7,H7,I7,q7⟩:=q7;exact⟨σ7,H7,I7.unpinned,q7⟩
  | ret v=>obtain⟨x7,σ7,H7,I7,r7,q7⟩:=q7;exact⟨x7,σ7,H7,I7.unpinned,r7,q7⟩
end
theorem for_list {K:PySem.W.Frag} {a:Addr} {xs:List V} {g:TG} {tb:TS} {D:Ends} {σ:St} {H:Hp} (Pv:Nat→St→Hp→Prop) (h0:Pv 0 σ H) (hl:∀i σ H,i≤xs.length→Pv i σ H→SqL K H a xs)
  (hs:∀i x σ H,xs[i]? = some x→Pv i σ H→g x σ H fun σ2 H2=>tb { D with nx:=Pv (i+1),ct:=Pv (i+1),bk:=D.nx } σ2 H2) (hd:∀σ H,Pv xs.length σ H→D.nx σ H) :
  ∃W:Nat→Nat→St→Hp→Prop,(∃m,W 0 m σ H)∧∀i m σ H,W i m σ H →
   ((Itl K a).stop i H∧D.nx σ H)∨((Itl K a).go i H∧∃N:St→Hp→Prop,(∀σ' H',N σ' H'→∃m',m'<m∧W (i+1) m' σ' H')∧∀x H',(Itl K a).yld i H x H'→g x σ H' fun σ2 H2=>tb { D with nx:=N,ct:=N,bk:=D.nx } σ2 H2):=by
 refine⟨fun i m σ H=>m=xs.length - i∧i≤xs.length∧Pv i σ H,⟨xs.length,by simp,Nat.zero_le _,h0⟩,?_⟩
 rintro i m σ H ⟨rfl,hi,p⟩
 have q:=hl i σ H hi p
 by_cases hlt:i<xs.length
 ·refine .inr ⟨⟨xs,xs[i],q,by simp[hlt]⟩,Pv (i+1),fun σ' H' p'=>⟨xs.length - (i+1),by omega,rfl,hlt,p'⟩,fun x H' y=>?_⟩
  obtain⟨e,y⟩:=y
  subst e
  exact hs i x σ _ (y xs q) p
 ·have e:i=xs.length:=by omega
  subst e
  exact .inl ⟨⟨xs,q,Nat.le_refl _⟩,hd σ H p⟩
theorem for_tup {K:PySem.W.Frag} {a:Addr} {xs:List V} {g:TG} {tb:TS} {D:Ends} {σ:St} {H:Hp} (Pv:Nat→St→Hp→Prop) (h0:Pv 0 σ H) (hl:∀i σ H,i≤xs.length→Pv i σ H→SqT K H a xs)
  (hs:∀i x σ H,xs[i]? = some x→Pv i σ H→g x σ H fun σ2 H2=>tb { D with nx:=Pv (i+1),ct:=Pv (i+1),bk:=D.nx } σ2 H2) (hd:∀σ H,Pv xs.length σ H→D.nx σ H) :
  ∃W:Nat→Nat→St→Hp→Prop,(∃m,W 0 m σ H)∧∀i m σ H,W i m σ H →
   ((Itt K a).stop i H∧D.nx σ H)∨((Itt K a).go i H∧∃N:St→Hp→Prop,(∀σ' H',N σ' H'→∃m',m'<m∧W (i+1) m' σ' H')∧∀x H',(Itt K a).yld i H x H'→g x σ H' fun σ2 H2=>tb { D with nx:=N,ct:=N,bk:=D.nx } σ2 H2):=by
 refine⟨fun i m σ H=>m=xs.length - i∧i≤xs.length∧Pv i σ H,⟨xs.length,by simp,Nat.zero_le _,h0⟩,?_⟩
 rintro i m σ H ⟨rfl,hi,p⟩
 have q:=hl i σ H hi p
 by_cases hlt:i<xs.length
 ·refine .inr ⟨⟨xs,xs[i],q,by simp[hlt]⟩,Pv (i+1),fun σ' H' p'=>⟨xs.length - (i+1),by omega,rfl,hlt,p'⟩,fun x H' y=>?_⟩
  obtain⟨e,y⟩:=y
  subst e
  exact hs i x σ _ (y xs q) p
 ·have e:i=xs.length:=by omega
  subst e
  exact .inl ⟨⟨xs,q,Nat.le_refl _⟩,hd σ H p⟩
theorem for_range {lo:Int} {n:Nat} {g:TG} {tb:TS} {D:Ends} {σ:St} {H:Hp} (Pv:Nat→St→Hp→Prop) (h0:Pv 0 σ H)
  (hs:∀i σ H,i<n→Pv i σ H→g (.int (lo+i)) σ H fun σ2 H2=>tb { D with nx:=Pv (i+1),ct:=Pv (i+1),bk:=D.nx } σ2 H2) (hd:∀σ H,Pv n σ H→D.nx σ H) :
  ∃W:Nat→Nat→St→Hp→Prop,(∃m,W 0 m σ H)∧∀i m σ H,W i m σ H →
   ((Itr lo n).stop i H∧D.nx σ H)∨((Itr lo n).go i H∧∃N:St→Hp→Prop,(∀σ' H',N σ' H'→∃m',m'<m∧W (i+1) m' σ' H')∧∀x H',(Itr lo n).yld i H x H'→g x σ H' fun σ2 H2=>tb { D with nx:=N,ct:=N,bk:=D.nx } σ2 H2):=by
 refine⟨fun i m σ H=>m=n - i∧i≤n∧Pv i σ H,⟨n,by simp,Nat.zero_le _,h0⟩,?_⟩
 rintro i m σ H ⟨rfl,hi,p⟩
 by_cases hlt:i<n
 ·refine .inr ⟨hlt,Pv (i+1),fun σ' H' p'=>⟨n - (i+1),by omega,rfl,hlt,p'⟩,fun x H' y=>?_⟩
  obtain⟨e,y⟩:=y
  subst e y
  exact hs i σ _ hlt p
 ·have e:i=n:=by omega
  subst e
  exact .inl ⟨Nat.le_refl _,hd σ H p⟩
theorem while_by {c:TT} {tb:TS} {D:Ends} {σ:St} {H:Hp} (Pv:St→Hp→Prop) (μ:St→Hp→Nat) (h0:Pv σ H)
  (hs:∀σ H,Pv σ H→c σ H fun b H1=>if b=true then tb { D with nx:=fun σ' H'=>Pv σ' H'∧μ σ' H'<μ σ H,ct:=fun σ' H'=>Pv σ' H'∧μ σ' H'<μ σ H,bk:=D.nx } σ H1 else D.nx σ H1)
  (mono:∀σ H Q Q',(∀b H1,Q b H1→Q' b H1)→c σ H Q→c σ H Q'):tWhile c tb D σ H:=by
 refine⟨fun m σ H=>m=μ σ H∧Pv σ H,⟨_,rfl,h0⟩,?_⟩
 rintro m σ H ⟨rfl,p⟩
 refine mono σ H _ _ (fun b H1 q=>?_) (hs σ H p)
 cases b with
 | true=>exact⟨_,fun σ' H' ⟨p',l⟩=>⟨_,l,rfl,p'⟩,q⟩
 | false=>exact q
end L2
namespace L2
open PySem PySem.Spec PyProof.Rows
abbrev R2:=V→V→Hp→VK→Prop
def OpR (X:Cx) (f:Value→Value→Sem Value) (r:R2):Prop :=
  ∀ (pins : List (Addr × Obj)) (s : Shared) (σ : St) (H : Hp) (x y : V) (v u : Value) (Q : VK), Inv X pins σ H s → RelV x v → RelV y u → r x y H Q →
    wpAny (model X.prog X.w) X.A (f v u) (EP X pins σ Q) X.xe s
def UnR (X:Cx) (f:Value→Sem Value) (r:V→Hp→VK→Prop):Prop :=
  ∀ (pins : List (Addr × Obj)) (s : Shared) (σ : St) (H : Hp) (x : V) (v : Value) (Q : VK), Inv X pins σ H s → RelV x v → r x H Q →
    wpAny (model X.prog X.w) X.A (f v) (EP X pins σ Q) X.xe s
def CallR (X:Cx) (f:Value) (r:List V→Hp→VK→Prop):Prop :=
  ∀ (pins : List (Addr × Obj)) (s : Shared) (σ : St) (H : Hp) (xs : List V) (us : List Value) (Q : VK), Inv X pins σ H s → Vals xs us → r xs H Q →
    wpAny (model X.prog X.w) X.A (call f us) (EP X pins σ Q) X.xe s
def tOp (r:R2) (ta tb:TE):TE:=fun σ H Q=>ta σ H fun x H1=>tb σ H1 fun y H2=>r x y H2 Q
def tUn (r:V→Hp→VK→Prop) (ta:TE):TE:=fun σ H Q=>ta σ H fun x H1=>r x H1 Q
def rI (C:Int→Int→Prop) (g:Int→Int→V):R2:=fun x y H Q=>∃i j,x=.int i∧y=.int j∧C i j∧Q (g i j) H
def rI0 (g:Int→Int→V):R2:=fun x y H Q=>∃i j,x=.int i∧y=.int j∧Q (g i j) H
def rU (g:Int→V):V→Hp→VK→Prop:=fun x H Q=>∃i,x=.int i∧Q (g i) H
section
variable {X:Cx} {a b c:Expr} {ta tb tc:TE} {pos:Pos}
theorem binT (ha:PE X a ta) (hb:PE X b tb) {pins:List (Addr×Obj)} {s:Shared} {σ:St} {H:Hp} {R:V→V→Hp→Prop} (I:Inv X pins σ H s)
  (h:ta σ H fun x H1=>tb σ H1 fun y H2=>R x y H2) {Q:Value→Shared→Prop} {f:Value→Value→Sem Value}
  (hf:∀v u s2 x y H2,Inv X pins σ H2 s2→RelV x v→RelV y u→R x y H2→wpAny (model X.prog X.w) X.A (f v u) Q X.xe s2) :
  wpAny (model X.prog X.w) X.A (eval a X.env) (fun v s₁=>wpAny (model X.prog X.w) X.A (eval b X.env) (fun u s₂=>wpAny (model X.prog X.w) X.A (f v u) Q X.xe s₂) X.xe s₁) X.xe s:=by
 refine thn (ha pins s σ H _ I h) fun v s1 ⟨x,H1,I1,r1,q1⟩=>?_
 refine thn (hb pins s1 σ H1 _ I1 q1) fun u s2 ⟨y,H2,I2,r2,q2⟩=>?_
 exact hf v u s2 x y H2 I2 r1 r2 q2
theorem pe_op {op:Operator} {r:R2} (ho:OpR X (binaryOp op) r) (ha:PE X a ta) (hb:PE X b tb):PE X (.BinOp a op b pos) (tOp r ta tb):=by
 intro pins s σ H Q I h
 exact wpAny_BinOp (binT ha hb I h fun v u s2 x y H2 I2 rx ry q=>ho pins s2 σ H2 x y v u Q I2 rx ry q)
theorem pe_un {op:UnaryOp} {r:V→Hp→VK→Prop} (ho:UnR X (unaryOp op) r) (ha:PE X a ta):PE X (.UnaryOp op a pos) (tUn r ta):=by
 intro pins s σ H Q I h
 exact UnaryOp_ (thn (ha pins s σ H _ I h) fun v s1 ⟨x,H1,I1,r1,q1⟩=>ho pins s1 σ H1 x v Q I1 r1 q1)
theorem opI {f:Value→Value→Sem Value} {C:Int→Int→Prop} {g:Int→Int→Int}
  (rule:∀(i j:Int) (t u:Tok) (s:Shared) (Q:Value→Shared→Prop) (E:Value→Shared→Prop),C i j→Q (.int (g i j) s.toks) { s with toks:=s.toks+1 }→wpAny (model X.prog X.w) X.A (f (.int i t) (.int j u)) Q E s) :
  OpR X f (rI C fun i j=>.int (g i j)):=by
 intro pins s σ H x y v u Q I rx ry h
 obtain⟨i,j,rfl,rfl,hc,q⟩:=h
 obtain⟨t,rfl⟩:=rx
 obtain⟨t',rfl⟩:=ry
 exact rule i j t t' s _ _ hc ⟨.int (g i j),H,I.tok _,⟨_,rfl⟩,q⟩
theorem opI0 {f:Value→Value→Sem Value} {g:Int→Int→Int}
  (rule:∀(i j:Int) (t u:Tok) (s:Shared) (Q:Value→Shared→Prop) (E:Value→Shared→Prop),Q (.int (g i j) s.toks) { s with toks:=s.toks+1 }→wpAny (model X.prog X.w) X.A (f (.int i t) (.int j u)) Q E s) :
  OpR X f (rI0 fun i j=>.int (g i j)):=by
 intro pins s σ H x y v u Q I rx ry h
 obtain⟨i,j,rfl,rfl,q⟩:=h
 obtain⟨t,rfl⟩:=rx
 obtain⟨t',rfl⟩:=ry
 exact rule i j t t' s _ _ ⟨.int (g i j),H,I.tok _,⟨_,rfl⟩,q⟩
theorem opB0 {f:Value→Value→Sem Value} {g:Int→Int→Bool}
  (rule:∀(i j:Int) (t u:Tok) (s:Shared) (Q:Value→Shared→Prop) (E:Value→Shared→Prop),Q (.bool (g i j)) s→wpAny (model X.prog X.w) X.A (f (.int i t) (.int j u)) Q E s) :
  OpR X f (rI0 fun i j=>.bl (g i j)):=by
 intro pins s σ H x y v u Q I rx ry h
 obtain⟨i,j,rfl,rfl,q⟩:=h
 obtain⟨t,rfl⟩:=rx
 obtain⟨t',rfl⟩:=ry
 exact rule i j t t' s _ _ ⟨.bl (g i j),H,I,rfl,q⟩
def CPow (i j:Int):Prop:=0≤j∧j≤1000000∧i.natAbs<2 ^ 64
def CMul (i j:Int):Prop:=(-(2 ^ 64)<i∧i<2 ^ 64)∨(-(2 ^ 64)<j∧j<2 ^ 64)
theorem CMul.ok {i j:Int} (h:CMul i j):IntMulOk i j:=by
 rcases h with⟨h1,h2⟩|⟨h1,h2⟩
 ·exact .of_left (intBits_le_64 h1 h2)
 ·exact .of_right (intBits_le_64 h1 h2)
theorem two_pow_nn (k:Nat):(0:Int)≤2 ^ k:=by
 rw[two_pow_cast]
 exact Int.natCast_nonneg _
theorem op_add:OpR X (binaryOp .Add) (rI0 fun i j=>.int (i+j)):=opI0 fun _ _ _ _ _ _ _ q=>add_int q
theorem op_sub:OpR X (binaryOp .Sub) (rI0 fun i j=>.int (i - j)):=opI0 fun _ _ _ _ _ _ _ q=>sub_int q
theorem op_mul:OpR X (binaryOp .Mult) (rI CMul fun i j=>.int (i * j)):=opI fun _ _ _ _ _ _ _ hc q=>mul_int q hc.ok
theorem op_mod:OpR X (binaryOp .Mod) (rI (fun _ j=>0<j) fun i j=>.int (i % j)):=opI fun i j _ _ _ _ _ hc q=>by
 have h1:(0:Int)<j:=hc
 exact mod_int' (by omega) (by rw[Int.fmod_eq_emod_of_nonneg i (by omega)];exact q)
theorem op_shl:OpR X (binaryOp .LShift) (rI CPow fun i j=>.int (i * 2 ^ j.toNat)):=opI fun _ _ _ _ _ _ _ hc q=>lshift_int_small hc.1 hc.2.1 hc.2.2 q
theorem op_shr:OpR X (binaryOp .RShift) (rI (fun _ j=>0≤j) fun i j=>.int (i / 2 ^ j.toNat)):=opI fun i j _ _ _ _ _ hc q =>
 rshift_int hc (by rw[Int.fdiv_eq_ediv_of_nonneg i (two_pow_nn _)];exact q)
theorem op_and:OpR X (binaryOp .BitAnd) (rI0 fun i j=>.int (Builtin.bitAnd i j)):=opI0 fun _ _ _ _ _ _ _ q=>and_int q
theorem op_or:OpR X (binaryOp .BitOr) (rI0 fun i j=>.int (Builtin.bitOr i j)):=opI0 fun _ _ _ _ _ _ _ q=>or_int q
theorem op_xor:OpR X (binaryOp .BitXor) (rI0 fun i j=>.int (Builtin.bitXor i j)):=opI0 fun _ _ _ _ _ _ _ q=>xor_int q
theorem unI {f:Value→Sem Value} {g:Int→Int}
  (rule:∀(i:Int) (t:Tok) (s:Shared) (Q:Value→Shared→Prop) (E:Value→Shared→Prop),Q (.int (g i) s.toks) { s with toks:=s.toks+1 }→wpAny (model X.prog X.w) X.A (f (.int i t)) Q E s) :
  UnR X f (rU fun i=>.int (g i)):=by
 intro pins s σ H x v Q I rx h
 obtain⟨i,rfl,q⟩:=h
 obtain⟨t,rfl⟩:=rx
 exact rule i t s _ _ ⟨.int (g i),H,I.tok _,⟨_,rfl⟩,q⟩
theorem un_neg:UnR X (unaryOp .USub) (rU fun i=>.int (-i)):=unI fun _ _ _ _ _ q=>neg_int q
theorem un_inv:UnR X (unaryOp .Invert) (rU fun i=>.int (Builtin.bitNot i)):=unI fun _ _ _ _ _ q=>invert_int q
end
def scal:V→V→Bool
 | .non,.non=>true|.non,.int _=>true|.int _,.non=>true|.non,.bl _=>true|.bl _,.non=>true|.non,.str _=>true|.str _,.non=>true
 | .int _,.int _=>true|.bl _,.bl _=>true|.str _,.str _=>true|.byt _,.byt _=>true
 | .int _,.str _=>true|.str _,.int _=>true|.bl _,.str _=>true|.str _,.bl _=>true
 | _,_=>false
def rEq:R2:=fun x y H Q=>scal x y=true∧Q (.bl (decide (x=y))) H
def rNe:R2:=fun x y H Q=>scal x y=true∧Q (.bl (!decide (x=y))) H
theorem dec_int {i j:Int}:decide (V.int i=V.int j)=(i==j):=by
 rw[Bool.eq_iff_iff]
 simp
theorem dec_bl {i j:Bool}:decide (V.bl i=V.bl j)=(i==j):=by
 rw[Bool.eq_iff_iff]
 simp
theorem dec_str {i j:Str}:decide (V.str i=V.str j)=(i==j):=by
 rw[Bool.eq_iff_iff]
 simp
theorem dec_byt {i j:Array UInt8}:decide (V.byt i=V.byt j)=(i.toList==j.toList):=by
 rw[Bool.eq_iff_iff]
 cases i
 cases j
 simp
section
variable {X:Cx} {a b c:Expr} {ta tb tc:TE} {pos:Pos}
theorem fin_bl {pins:List (Addr×Obj)} {σ:St} {H:Hp} {s:Shared} {Q:VK} {k k':Bool} (I:Inv X pins σ H s) (q:Q (.bl k) H) (e:k=k'):EP X pins σ Q (.bool k') s:=by
 subst e
 exact⟨.bl k,H,I,rfl,q⟩
theorem op_eq:OpR X (compareOp .Eq) rEq:=by
  intro pins s σ H x y v u Q I rx ry h
  obtain⟨hs,q⟩:=h
  cases x with
  | non =>
    cases rx
    cases y with
    | non=>cases ry;exact PySem.EqNone.eq_none_none (fin_bl I q (by simp))
    | bl j=>cases ry;exact PySem.EqNone.eq_none_bool (fin_bl I q (by simp))
    | int j=>obtain⟨t',rfl⟩:=ry;exact PySem.EqNone.eq_none_int (fin_bl I q (by simp))
    | str j=>obtain⟨t',rfl⟩:=ry;exact PySem.EqNone.eq_none_str (fin_bl I q (by simp))
    | _=>exact absurd (show false=true from hs) Bool.false_ne_true
  | bl i =>
    cases rx
    cases y with
    | non=>cases ry;exact PySem.EqNone.eq_bool_none (fin_bl I q (by simp))
    | bl j=>cases ry;exact eq_bool (fin_bl I q dec_bl)
    | str j=>obtain⟨t',rfl⟩:=ry;exact PySem.EqMixed.eq_bool_str (fin_bl I q (by simp))
    | _=>exact absurd (show false=true from hs) Bool.false_ne_true
  | int i =>
    obtain⟨t,rfl⟩:=rx
    cases y with
    | non=>cases ry;exact PySem.EqNone.eq_int_none (fin_bl I q (by simp))
    | int j=>obtain⟨t',rfl⟩:=ry;exact eq_int (fin_bl I q dec_int)
    | str j=>obtain⟨t',rfl⟩:=ry;exact PySem.EqMixed.eq_int_str (fin_bl I q (by simp))
    | _=>exact absurd (show false=true from hs) Bool.false_ne_true
  | str i =>
    obtain⟨t,rfl⟩:=rx
    cases y with
    | non=>cases ry;exact PySem.EqNone.eq_str_none (fin_bl I q (by simp))
    | bl j=>cases ry;exact PySem.EqMixed.eq_str_bool (fin_bl I q (by simp))
    | int j=>obtain⟨t',rfl⟩:=ry;exact PySem.EqMixed.eq_str_int (fin_bl I q (by simp))
    | str j=>obtain⟨t',rfl⟩:=ry;exact eq_str (fin_bl I q dec_str)
    | _=>exact absurd (show false=true from hs) Bool.false_ne_true
  | byt i =>
    obtain⟨t,rfl⟩:=rx
    cases y with
    | byt j=>obtain⟨t',rfl⟩:=ry;exact PySem.W.eq_bytes (fin_bl I q dec_byt)
    | _=>exact absurd (show false=true from hs) Bool.false_ne_true
  | _=>cases y<;>exact absurd (show false=true from hs) Bool.false_ne_true
theorem op_ne:OpR X (compareOp .NotEq) rNe:=by
  intro pins s σ H x y v u Q I rx ry h
  obtain⟨hs,q⟩:=h
  cases x with
  | non =>
    cases rx
    cases y with
    | non=>cases ry;exact PySem.EqNone.ne_none_none (fin_bl I q (by simp))
    | bl j=>cases ry;exact PySem.EqNone.ne_none_bool (fin_bl I q (by simp))
    | int j=>obtain⟨t',rfl⟩:=ry;exact PySem.EqNone.ne_none_int (fin_bl I q (by simp))
    | str j=>obtain⟨t',rfl⟩:=ry;exact PySem.EqNone.ne_none_str (fin_bl I q (by simp))
    | _=>exact absurd (show false=true from hs) Bool.false_ne_true
  | bl i =>
    cases rx
    cases y with
    | non=>cases ry;exact PySem.EqNone.ne_bool_none (fin_bl I q (by simp))
    | bl j=>cases ry;exact ne_bool (fin_bl I q (congrArg not dec_bl))
    | str j=>obtain⟨t',rfl⟩:=ry;exact PySem.EqMixed.ne_bool_str (fin_bl I q (by simp))
    | _=>exact absurd (show false=true from hs) Bool.false_ne_true
  | int i =>
    obtain⟨t,rfl⟩:=rx
    cases y with
    | non=>cases ry;exact PySem.EqNone.ne_int_none (fin_bl I q (by simp))
    | int j=>obtain⟨t',rfl⟩:=ry;exact ne_int (fin_bl I q (congrArg not dec_int))
    | str j=>obtain⟨t',rfl⟩:=ry;exact PySem.EqMixed.ne_int_str (fin_bl I q (by simp))
    | _=>exact absurd (show false=true from hs) Bool.false_ne_true
  | str i =>
    obtain⟨t,rfl⟩:=rx
    cases y with
    | non=>cases ry;exact PySem.EqNone.ne_str_none (fin_bl I q (by simp))
    | bl j=>cases ry;exact PySem.EqMixed.ne_str_bool (fin_bl I q (by simp))
    | int j=>obtain⟨t',rfl⟩:=ry;exact PySem.EqMixed.ne_str_int (fin_bl I q (by simp))
    | str j=>obtain⟨t',rfl⟩:=ry;exact ne_str (fin_bl I q (congrArg not dec_str))
    | _=>exact absurd (show false=true from hs) Bool.false_ne_true
  | byt i =>
    obtain⟨t,rfl⟩:=rx
    cases y with
    | byt j=>obtain⟨t',rfl⟩:=ry;exact PySem.W.ne_bytes (fin_bl I q (congrArg not dec_byt))
    | _=>exact absurd (show false=true from hs) Bool.false_ne_true
  | _=>cases y<;>exact absurd (show false=true from hs) Bool.false_ne_true
theorem op_lt:OpR X (compareOp .Lt) (rI0 fun i j=>.bl (decide (i<j))):=opB0 fun _ _ _ _ _ _ _ q=>lt_int q
theorem op_le:OpR X (compareOp .LtE) (rI0 fun i j=>.bl (decide (i≤j))):=opB0 fun _ _ _ _ _ _ _ q=>le_int q
theorem op_gt:OpR X (compareOp .Gt) (rI0 fun i j=>.bl (decide (j<i))):=opB0 fun _ _ _ _ _ _ _ q=>gt_int q
theorem op_ge:OpR X (compareOp .GtE) (rI0 fun i j=>.bl (decide (j≤i))):=opB0 fun _ _ _ _ _ _ _ q=>ge_int q
theorem nomark (b:Expr) {op:CmpOp} (h:op≠.In:=by decide) (h2:op≠.NotIn:=by decide):behindInMarks op b=false:=by
 have e1:(op==CmpOp.In)=false:=by cases op<;>first|rfl|exact absurd rfl h
 have e2:(op==CmpOp.NotIn)=false:=by cases op<;>first|rfl|exact absurd rfl h2
 cases b<;>simp[behindInMarks,e1,e2]
theorem pe_cmpR {op:CmpOp} {r:R2} (ho:OpR X (compareOp op) r) (ha:PE X a ta) (hb:PE X b tb) (hm:behindInMarks op b=false):PE X (.Compare a [op] [b] pos) (tOp r ta tb):=by
 intro pins s σ H Q I h
 exact wpAny_Compare1 (binT ha hb I h fun v u s2 x y H2 I2 rx ry q=>ho pins s2 σ H2 x y v u Q I2 rx ry q) hm
def tTest (t:TE):TT:=fun σ H Q=>t σ H fun x H'=>∃k,x=.bl k∧Q k H'
theorem pt_cmpR {op:CmpOp} {r:R2} (ho:OpR X (compareOp op) r) (ha:PE X a ta) (hb:PE X b tb) (hm:behindInMarks op b=false):PT X (.Compare a [op] [b] pos) (tTest (tOp r ta tb)):=by
 intro pins s σ H Q I h
 refine wpAny_isTrue_Compare1 (thn (ha pins s σ H _ I h) fun v s1 ⟨x,H1,I1,r1,q1⟩=>thn (hb pins s1 σ H1 _ I1 q1) fun u s2 ⟨y,H2,I2,r2,q2⟩ =>
  thn (ho pins s2 σ H2 x y v u _ I2 r1 r2 q2) fun c s3 ⟨z,H3,I3,r3,k,e,q3⟩=>?_) hm
 subst e
 cases r3
 exact wpAny_truthy_bool ⟨H3,I3,q3⟩
def tChain (r r':R2) (ta tb tc:TE):TE:=fun σ H Q=>ta σ H fun x H1=>tb σ H1 fun y H2=>r x y H2 fun z H3=>∃k,z=.bl k ∧
 (if k=true then tc σ H3 fun w' H4=>r' y w' H4 Q else Q (.bl false) H3)
theorem pe_chain {op op':CmpOp} {r r':R2} (ho:OpR X (compareOp op) r) (ho':OpR X (compareOp op') r') (ha:PE X a ta) (hb:PE X b tb) (hc:PE X c tc)
  (hm:lastMarks [op,op'] [b,c]=false:=by with_unfolding_all rfl):PE X (.Compare a [op,op'] [b,c] pos) (tChain r r' ta tb tc):=by
 intro pins s σ H Q I h
 refine Compare_chain (thn (ha pins s σ H _ I h) fun v s1 ⟨x,H1,I1,r1,q1⟩=>chain_link (thn (hb pins s1 σ H1 _ I1 q1) fun u s2 ⟨y,H2,I2,r2,q2⟩ =>
  thn (ho pins s2 σ H2 x y v u _ I2 r1 r2 q2) fun d s3 ⟨z,H3,I3,r3,k,e,q3⟩=>?_)) hm
 subst e
 cases r3
 refine wpAny_truthy_bool ?_
 cases k with
 | false=>exact ite_ff ⟨.bl false,H3,I3,rfl,q3⟩
 | true=>exact ite_tt (chain_last (thn (hc pins s3 σ H3 _ I3 q3) fun w' s4 ⟨z',H4,I4,r4,q4⟩=>ho' pins s4 σ H4 y z' u w' Q I4 r2 r4 q4))
theorem line63:(sizeLine:Nat)<2 ^ 63:=by rw[sizeLine_eq];decide
theorem vals1 {x:V} {us:List Value} (r:Vals [x] us):∃u,us=[u]∧RelV x u:=by
 cases r with
 | cons r1 r2=>cases r2;exact⟨_,rfl,r1⟩
theorem vals2 {x y:V} {us:List Value} (r:Vals [x,y] us):∃u w',us=[u,w']∧RelV x u∧RelV y w':=by
  cases r with
  | cons r1 r2 =>
    cases r2 with
    | cons r3 r4=>cases r4;exact⟨_,_,rfl,r1,r3⟩
theorem call_min2 (hc:X.calm=true):CallR X (.builtin "min") (fun xs H Q=>∃i j,xs=[.int i,.int j]∧Q (.int (if j<i then j else i)) H):=by
 intro pins s σ H xs us Q I r h
 obtain⟨i,j,rfl,q⟩:=h
 obtain⟨u,w',rfl,⟨t,rfl⟩,⟨t',rfl⟩⟩:=vals2 r
 refine min_two_ints (I.ok.hd hc) fun h' tk k=>⟨_,H,I.kept k,?_,q⟩
 by_cases hj:j<i
 ·rw[if_pos hj,if_pos hj];exact⟨_,rfl⟩
 ·rw[if_neg hj,if_neg hj];exact⟨_,rfl⟩
end
end L2
namespace L2
open PySem PySem.Spec PyProof.Rows
structure ObjM (h:Heap) (x dx C:Addr) (mA:Str→Option Value):Prop where
 obj:h.get? x=some (PySem.W.instObj C dx)
 ns:h.Ns1 dx mA
 ne:dx≠x
theorem lookIn_ns {h:Heap} {dx:Addr} {mA:Str→Option Value} (n:h.Ns1 dx mA):∃od,h.get? dx=some od∧∀name,PySem.W.lookIn name od=some (mA name):=by
 obtain⟨o,es,ep,ho,hd,hk,_,hm⟩:=n
 refine⟨o,ho,fun name=>?_⟩
 have e:=hm name
 unfold nsFind findBy at e
 rw[←Array.find?_toList]at e
 unfold PySem.W.lookIn
 rw[hd]
 dsimp only
 split
 ·rename_i y q
  rw[q]at e
  exact congrArg some e
 ·rename_i q
  rw[q]at e
  have a:es.toList.any (·.refKey)=false:=by
   rw[List.any_eq_false]
   intro y hy
   obtain⟨z,t,hkey⟩:=hk y (Array.mem_toList_iff.mp hy)
   simp[DictEntry.refKey,hkey]
  have a':¬es.toList.any (·.refKey)=true:=by rw[a];exact Bool.false_ne_true
  rw[if_neg a']
  exact congrArg some e
theorem ObjM.look {h:Heap} {x dx C:Addr} {mA:Str→Option Value} (I:ObjM h x dx C mA):∃od,PySem.W.InstAt h x (PySem.W.instObj C dx) C (some od)∧∀name,PySem.W.lookIn name od=some (mA name) :=
 let ⟨od,ho,hl⟩:=lookIn_ns I.ns
 ⟨od,⟨I.obj,rfl,rfl,ho⟩,hl⟩
section
variable {prog:Program} {w:World} {A:Around} {E:Value→Shared→Prop} {s:Shared} {K:PySem.W.Frag} {x dx C f:Addr} {mA:Str→Option Value} {name:Str} {v:Value}
theorem get_map {expr:Bool} {Q:Value→Shared→Prop} (X:K.In s.heap) (I:ObjM s.heap x dx C mA) (hg:PySem.W.plainGet K C name=true) (hh:PySem.W.hasDictIn K C=true)
  (ha:PySem.W.findIn K (.ref C) name=some none) (hv:mA name=some v) (hv':PySem.W.handedIn v=true) (h:Q v { s with toks:=s.toks+1 }) :
  wpAny (model prog w) A (getAttr (.ref x) name expr) Q E s:=by
 obtain⟨od,J,hl⟩:=I.look
 exact PySem.W.get_value X J (PySem.W.plainGet_of hg).1 (PySem.W.findObj_own hh ha rfl (by rw[hl,hv])) hv' h
theorem get_meth {pl:Sem Bool} {Q:Value×List Value→Shared→Prop} (X:K.In s.heap) (I:ObjM s.heap x dx C mA) (hg:PySem.W.plainGet K C name=true)
  (hf:PySem.W.findIn K (.ref C) name=some (some (.ref f))) (ht:PySem.W.isFn K (.ref f)=true) (hv:mA name=none) (h:Q (.ref f,[.ref x]) s) :
  wpAny (model prog w) A (getMethod (.ref x) name pl) Q E s:=by
 obtain⟨od,J,hl⟩:=I.look
 exact PySem.W.method_fn X J (PySem.W.plainGet_of hg).1 (PySem.W.plainGet_of hg).2 hf (beq_iff_eq.mp ht) (by show(PySem.W.lookIn name od).map (·.isSome)=some false;rw[hl,hv];rfl) h
theorem set_map {ns:List Str} {Q:Unit→Shared→Prop} (X:K.In s.heap) (I:ObjM s.heap x dx C mA)
  (hs:PySem.W.findIn K (.ref C) "__setattr__" = some (some (.builtin "object.__setattr__"))) (hp:PySem.W.plainOver K C=true) (ht:PySem.W.takerIn K C name=some none) (hh:PySem.W.hasDictIn K C=true)
  (hw:PySem.Within mA ns) (hsz:ns.length≤sizeLine)
  (h:∀h',ObjM h' x dx C (fun y=>if y=name then some v else mA y)→Heap.SameBut dx s.heap h'→Q () { s with heap:=h',toks:=s.toks+2 }) :
  wpAny (model prog w) A (setAttr (.ref x) name v) Q E s:=by
 obtain⟨od,J,hl⟩:=I.look
 refine PySem.W.set_plain X J hs (PySem.W.osa_open (s:={ s with toks:=s.toks+1 }) (r:=none) X J hp ht fun b=>?_)
 obtain⟨cd,hc,hd'⟩:=PySem.W.any_some hh
 have hx:s.heap.get? x=some ⟨.ref C,some dx,.plain,#[]⟩:=I.obj
 refine wpAny_bind (wpAny_pure (wpAny_bind (wpAny_bind (wpAny_loadPart hx (wpAny_bind (PySem.W.Looks.here (s:={ s with toks:=s.toks+1 }) (PySem.W.looks_clsIn X hc) ?_))))))
 rw[hd']
 refine wpAny_pure (a:=some dx) (wpAny_bind (wpAny_pure (wpAny_bind ?_)))
 refine wpAny_nsSet1 (s:={ s with toks:=s.toks+1 }) I.ns fun h' hn2 hs2=>?_
 obtain⟨oD,esD,epD,hoD,hdD,hcD⟩:=hn2.count (PySem.Within.cons name v hw)
 refine wpAny_bind (wpAny_lookBehind hoD (by rw[hdD];exact pastItsLine_dict (Nat.le_trans hcD (by rw[List.length_cons];omega))) ?_)
 exact wpAny_pure (h _ ⟨(hs2.2 _ (Ne.symm I.ne)).trans I.obj,hn2,I.ne⟩ hs2)
theorem make_map {R:Result→Shared→Prop} {vs:List Value} {kw:List (Str×Value)} (X:K.In s.heap) (hm:PySem.W.makesIn K C=true)
  (hi:PySem.W.findIn K (.ref C) "__init__" = some (some (.ref f))) (hf:PySem.W.typeIn K (.ref f)=some (.type "function"))
  (h:codeAny (model prog w) (A.under (.builtin "type.__call__" ⟨.ref C::vs,kw⟩)) (.call (.ref f) ⟨.ref (s.heap.objs.size+1)::vs,kw⟩) (PySem.W.InitBack (s.heap.objs.size+1) R)
   { s with heap:=(s.heap.push PySem.W.emptyDict).push (PySem.W.instObj C s.heap.objs.size) }) :
  codeAny (model prog w) A (.call (.ref C) ⟨vs,kw⟩) R s:=by
 obtain⟨hh,g,d,t,os⟩:=s
 exact PySem.W.make_core (PySem.W.makes_of X hm) (PySem.W.looks_findIn X hi) (fun self=>PySem.W.bind_fn X self hf) (.inl rfl) h
end
def putF (f:Str) (v:V):List (Str×V)→List (Str×V)
 | []=>[(f,v)]
 | (g,x)::r=>if g=f then(g,v)::r else(g,x)::putF f v r
theorem lookup_putF (f g:Str) (v:V):∀fs:List (Str×V),(putF f v fs).lookup g=if g=f then some v else fs.lookup g
  | []=>by
    show List.lookup g [(f,v)]=_
    by_cases h:g=f
    · have hb:(g==f)=true:=beq_iff_eq.mpr h
      simp only[List.lookup,hb,if_pos h]
    · have hb:(g==f)=false:=beq_eq_false_iff_ne.mpr h
      simp only[List.lookup,hb,if_neg h]
  | (k, x) :: r => by
    have ih:=lookup_putF f g v r
    rw[show putF f v ((k,x)::r)=(if k=f then(k,v)::r else(k,x)::putF f v r) from rfl]
    by_cases hk:k=f
    · rw[if_pos hk]
      by_cases h:g=k
      · have hb:(g==k)=true:=beq_iff_eq.mpr h
        simp only[List.lookup,hb,if_pos (h.trans hk)]
      · have hb:(g==k)=false:=beq_eq_false_iff_ne.mpr h
        simp only[List.lookup,hb,if_neg (fun e:g=f=>h (e.trans hk.symm))]
    · rw[if_neg hk]
      by_cases h:g=k
      · have hb:(g==k)=true:=beq_iff_eq.mpr h
        simp only[List.lookup,hb,if_neg (fun e:g=f=>hk (h.symm.trans e))]
      · have hb:(g==k)=false:=beq_eq_false_iff_ne.mpr h
        simp only[List.lookup,hb]
        exact ih
theorem keys_putF (f:Str) (v:V):∀fs:List (Str×V),f∈(putF f v fs).map (·.1)∧∀g,g∈fs.map (·.1)→g∈(putF f v fs).map (·.1)
  | []=>⟨by simp[putF],fun g h=>by simp at h⟩
  | (k, x) :: r => by
    obtain⟨i1,i2⟩:=keys_putF f v r
    rw[show putF f v ((k,x)::r)=(if k=f then(k,v)::r else(k,x)::putF f v r) from rfl]
    by_cases hk:k=f
    · rw[if_pos hk]
      subst hk
      exact⟨by simp,fun g h=>by simpa using h⟩
    · rw[if_neg hk]
      refine⟨?_,fun g h=>?_⟩
      · rw[List.map_cons]
        exact List.mem_cons_of_mem _ i1
      · rw[List.map_cons]at h ⊢
        rcases List.mem_cons.mp h with e|e
        · exact List.mem_cons.mpr (.inl e)
        · exact List.mem_cons_of_mem _ (i2 g e)
theorem length_putF (f:Str) (v:V):∀fs:List (Str×V),(putF f v fs).length≤fs.length+1
  | []=>by simp[putF]
  | (k,x)::r=>by
    have ih:=length_putF f v r
    rw[show putF f v ((k,x)::r)=(if k=f then(k,v)::r else(k,x)::putF f v r) from rfl]
    by_cases hk:k=f
    · rw[if_pos hk,List.length_cons,List.length_cons];omega
    · rw[if_neg hk,List.length_cons,List.length_cons];omega
theorem RelO.some_of {v:V} {o:Option Value} (r:RelO (some v) o):∃u,o=some u∧RelV v u:=by
 cases o with
 | none=>exact(show False from r).elim
 | some u=>exact⟨u,rfl,r⟩
theorem RelO.none_of {o:Option Value} (r:RelO none o):o=none:=by
 cases o with
 | none=>rfl
 | some u=>exact(show False from r).elim
theorem handed_of {v:V} {u:Value} (r:RelV v u):PySem.W.handedIn u=true:=by
 cases v with
 | non=>cases (show u=Value.none from r);rfl
 | bl b=>cases (show u=Value.bool b from r);rfl
 | int i=>obtain⟨t,e⟩:=(show ∃t,u=Value.int i t from r);cases e;rfl
 | str x=>obtain⟨t,e⟩:=(show ∃t,u=Value.str x t from r);cases e;rfl
 | byt b=>obtain⟨t,e⟩:=(show ∃t,u=Value.bytes b t from r);cases e;rfl
 | flt b=>obtain⟨t,e⟩:=(show ∃t,u=Value.float b t from r);cases e;rfl
 | ref a=>cases (show u=Value.ref a from r);rfl
 | ty n=>cases (show u=Value.type n from r);rfl
section
variable {P:Program} {w:World} {H H':Hp} {h h':Heap} {a C dx:Addr} {fs fs':List (Str×V)}
theorem ins_get (hok:HOk P w H h) (e:H a=some (.ins C dx fs)):∃mA,ObjM h a dx C mA∧(∀f,RelO (fs.lookup f) (mA f))∧PySem.Within mA (fs.map (·.1))∧fs.length≤1000∧H dx=some (.own a):=by
 obtain⟨d,z,ne,ob,mA,n,r,q⟩:=(show ObjOk P w H h a (.ins C dx fs) from hok a _ e)
 exact⟨mA,⟨ob,n,ne⟩,r,q,z,d⟩
end
structure Cls (K:PySem.W.Frag) (C:Addr):Prop where
 pg:PySem.W.plainGet K C Str.empty=true
 hd:PySem.W.hasDictIn K C=true
 po:PySem.W.plainOver K C=true
 sa:PySem.W.findIn K (.ref C) "__setattr__" = some (some (.builtin "object.__setattr__"))
theorem Cls.get {K:PySem.W.Frag} {C:Addr} (c:Cls K C) (f:Str):PySem.W.plainGet K C f=true:=c.pg
def NoAttr (K:PySem.W.Frag) (C:Addr) (f:Str):Prop:=PySem.W.findIn K (.ref C) f=some none
theorem NoAttr.taker {K:PySem.W.Frag} {C:Addr} {f:Str} (n:NoAttr K C f):PySem.W.takerIn K C f=some none:=by
 unfold PySem.W.takerIn
 rw[show PySem.W.findIn K (.ref C) f=some none from n]
 rfl
structure Meth (K:PySem.W.Frag) (C:Addr) (m:Str) (f:Addr):Prop where
 at_:PySem.W.findIn K (.ref C) m=some (some (.ref f))
 fn:PySem.W.isFn K (.ref f)=true
 kp:PySem.W.keepIn K (.ref f)=true
section
variable {X:Cx} {pins:List (Addr×Obj)} {σ:St} {H:Hp} {s:Shared} {a C dx:Addr} {fs:List (Str×V)} {f:Str} {v:V} {A:Around} {E:Value→Shared→Prop}
theorem getattr_ok {b:Bool} {Q:Value→Shared→Prop} (I:Inv X pins σ H s) (e:H a=some (.ins C dx fs)) (c:Cls X.K C) (n:NoAttr X.K C f) (l:fs.lookup f=some v)
  (h:∀u s',Inv X pins σ H s'→RelV v u→Q u s'):wpAny (model X.prog X.w) A (getAttr (.ref a) f b) Q E s:=by
 obtain⟨mA,O,r,_,_,_⟩:=ins_get I.hok e
 obtain⟨u,hu,ru⟩:=RelO.some_of (v:=v) (o:=mA f) (by rw[←l];exact r f)
 exact get_map I.kIn O (c.get f) c.hd n hu (handed_of ru) (h u _ (I.tok _) ru)
theorem getmeth_ok {m:Str} {g:Addr} {pl:Sem Bool} {Q:Value×List Value→Shared→Prop} (I:Inv X pins σ H s) (e:H a=some (.ins C dx fs)) (c:Cls X.K C) (k:Meth X.K C m g) (l:fs.lookup m=none)
  (h:Q (.ref g,[.ref a]) s):wpAny (model X.prog X.w) A (getMethod (.ref a) m pl) Q E s:=by
 obtain⟨mA,O,r,_,_,_⟩:=ins_get I.hok e
 have hn:mA m=none:=RelO.none_of (by rw[←l];exact r m)
 exact get_meth I.kIn O (c.get m) k.at_ k.fn hn h
theorem setattr_ok {y:V} {u:Value} {Q:Unit→Shared→Prop} (I:Inv X pins σ H s) (e:H a=some (.ins C dx fs)) (c:Cls X.K C) (n:NoAttr X.K C f) (hl:fs.length<1000) (ry:RelV y u)
  (h:∀s',Inv X pins σ (upd H a (.ins C dx (putF f y fs))) s'→Q () s'):wpAny (model X.prog X.w) A (setAttr (.ref a) f u) Q E s:=by
 obtain⟨mA,O,r,wi,_,ho⟩:=ins_get I.hok e
 have hz:(fs.map (·.1)).length≤sizeLine:=by rw[List.length_map,sizeLine_eq];omega
 refine set_map I.kIn O c.sa c.po n.taker c.hd wi hz fun h' O' sb=>h _ ?_
 have hd:∃o,h'.get? dx=some o:=let ⟨o,_,_,e',_⟩:=O'.ns;⟨o,e'⟩
 refine I.write (x:=a) (e:=dx) (by rw[e];exact True.intro) (.inr ho) (fun b q hb z=>(sb.2 b hb).trans z) hd ?_
 refine⟨by rw[upd_ne O.ne];exact ho,?_,O.ne,O'.obj,_,O'.ns,fun g=>?_,fun g hg=>?_⟩
 ·have:=length_putF f y fs;omega
 ·show RelO ((putF f y fs).lookup g) (if g=f then some u else mA g)
  rw[lookup_putF]
  by_cases q:g=f
  ·rw[if_pos q,if_pos q];exact ry
  ·rw[if_neg q,if_neg q];exact r g
 ·by_cases q:g=f
  ·rw[q];exact(keys_putF f y fs).1
  ·refine(keys_putF f y fs).2 g (wi g fun z=>hg ?_)
   show(if g=f then some u else mA g)=none
   rw[if_neg q];exact z
theorem Inv.made (I:Inv X pins σ H s):Inv X pins σ (upd (upd H s.heap.objs.size (.own (s.heap.objs.size+1))) (s.heap.objs.size+1) (.ins C s.heap.objs.size []))
  { s with heap:=(s.heap.push PySem.W.emptyDict).push (PySem.W.instObj C s.heap.objs.size) }:=by
 have e1:(s.heap.push PySem.W.emptyDict).get? s.heap.objs.size=some PySem.W.emptyDict:=Heap.get?_push_size s.heap rfl
 have e2:((s.heap.push PySem.W.emptyDict).push (PySem.W.instObj C s.heap.objs.size)).get? (s.heap.objs.size+1)=some (PySem.W.instObj C s.heap.objs.size):=by
  have:=Heap.get?_push_size (s.heap.push PySem.W.emptyDict) (o:=PySem.W.instObj C s.heap.objs.size) rfl
  rwa[Heap.size_push]at this
 have e3:(s.heap.push PySem.W.emptyDict).Ns s.heap.objs.size (fun _=>none):=⟨PySem.W.emptyDict,#[],_,e1,rfl,(fun e he=>absurd he (by simp)),fun _=>rfl⟩
 have I1:=I.laid (a:=s.heap.objs.size) (o:=.own (s.heap.objs.size+1)) (h':=s.heap.push PySem.W.emptyDict) (t':=s.toks) (fun b u q=>Heap.get?_push_of_some _ q) (Nat.le_refl _) ⟨_,e1⟩
 refine I1.laid (a:=s.heap.objs.size+1) (o:=.ins C s.heap.objs.size []) (t':=s.toks) (fun b u q=>Heap.get?_push_of_some _ q) (Nat.le_of_eq (Heap.size_push _ _)) ?_
 have ne:s.heap.objs.size≠s.heap.objs.size+1:=Nat.ne_of_lt (Nat.lt_succ_self _)
 refine⟨by rw[upd_ne ne,upd_same],Nat.zero_le _,ne,e2,fun _=>none,(Heap.Ns1.of_empty e3).at fun o q=>Heap.get?_push_of_some _ q,fun _=>True.intro,fun y hy=>absurd rfl hy⟩
theorem attr_of {prog:Program} {w:World} {env:Env} {e:Expr} {f:Str} {pos:Pos} {s:Shared} {Q:Value→Shared→Prop} (hb:attributeBase e f env (eval e env)=eval e env)
  (h:wpAny (model prog w) A (eval e env) (fun o s₁=>wpAny (model prog w) A (getAttr o f true) Q E s₁) E s):wpAny (model prog w) A (eval (.Attribute e f pos) env) Q E s :=
 Attribute_any_ h (by rw[arm_eval_Attribute,hb])
end
def tFld (K:PySem.W.Frag) (ta:TE) (f:Str):TE:=fun σ H Q=>ta σ H fun x H1=>∃a C dx fs v,x=.ref a∧H1 a=some (.ins C dx fs)∧Cls K C∧NoAttr K C f∧fs.lookup f=some v∧Q v H1
def sFld (K:PySem.W.Frag) (ta tv:TE) (f:Str):TS:=fun D σ H=>tv σ H fun y H1=>ta σ H1 fun x H2=>∃a C dx fs,x=.ref a∧H2 a=some (.ins C dx fs)∧Cls K C∧NoAttr K C f∧fs.length<1000 ∧
 D.nx σ (upd H2 a (.ins C dx (putF f y fs)))
def InOp (X:Cx) (op:Operator) (rd:V→V→Hp→VK→Prop):Prop :=
 ∀(pins:List (Addr×Obj)) (s:Shared) (σ:St) (H:Hp) (x y:V) (u v:Value) (Q:VK),Inv X pins σ H s→RelV x u→RelV y v→rd x y H Q→wpAny (model X.prog X.w) X.A (inplaceOp op u v) (EP X pins σ Q) X.xe s
def sFldAug (K:PySem.W.Frag) (ta tv:TE) (rd:V→V→Hp→VK→Prop) (f:Str):TS:=fun D σ H=>ta σ H fun x H1=>∃a C dx fs v,x=.ref a∧H1 a=some (.ins C dx fs)∧Cls K C∧NoAttr K C f∧fs.lookup f=some v ∧
 tv σ H1 fun y H2=>rd v y H2 fun z H3=>∃dx' fs',H3 a=some (.ins C dx' fs')∧fs'.length<1000∧D.nx σ (upd H3 a (.ins C dx' (putF f z fs')))
section
variable {X:Cx} {o e value:Expr} {f:Str} {pos pos' tpos:Pos} {ta tv:TE}
theorem pe_fld (he:PE X e ta) (hb:attributeBase e f X.env (eval e X.env)=eval e X.env):PE X (.Attribute e f pos) (tFld X.K ta f):=by
 intro pins s σ H Q I h
 refine attr_of hb (thn (he pins s σ H _ I h) fun u s1 ⟨x,H1,I1,rx,a,C,dx,fs,v,ex,ea,c,n,l,q⟩=>?_)
 subst ex
 obtain rfl:u=Value.ref a:=rx
 exact getattr_ok I1 ea c n l fun u' s2 I2 ru=>⟨v,H1,I2,ru,q⟩
theorem ps_fld (ha:PE X o ta) (hv:PE X value tv) (hs:swapsWith value (some (.Attribute o f pos')) pos.line X.env=pure false):PS X (.Assign [.Attribute o f pos'] value pos) (sFld X.K ta tv f):=by
 intro pins s σ H D I h
 refine plainObj_wpAny_Assign_Attribute (thn (hv pins s σ H _ I h) fun u s1 ⟨y,H1,I1,ry,q⟩=>thn (ha pins s1 σ H1 _ I1 q) fun ov s2 ⟨x,H2,I2,rx,a,C,dx,fs,ex,ea,c,n,l,q2⟩=>?_) hs
 subst ex
 obtain rfl:ov=Value.ref a:=rx
 exact setattr_ok I2 ea c n l ry fun s3 I3=>⟨σ,_,I3,q2⟩
theorem ps_fldaug {op:Operator} {rd:V→V→Hp→VK→Prop} (ha:PE X o ta) (hv:PE X value tv) (hop:InOp X op rd):PS X (.AugAssign (.Attribute o f tpos) op value pos) (sFldAug X.K ta tv rd f):=by
 intro pins s σ H D I h
 refine wpAny_AugAssign_AttributeAny (thn (ha pins s σ H _ I h) fun ov s1 ⟨x,H1,I1,rx,a,C,dx,fs,v,ex,ea,c,n,l,q⟩=>?_)
 subst ex
 obtain rfl:ov=Value.ref a:=rx
 refine getattr_ok I1 ea c n l fun u s2 I2 ru=>thn (hv pins s2 σ H1 _ I2 q) fun w3 s3 ⟨y,H2,I3,ry,q3⟩=>thn (hop pins s3 σ H2 v y u w3 _ I3 ru ry q3) fun w4 s4 ⟨z,H3,I4,rz,dx',fs',ea',l',q4⟩=>?_
 exact setattr_ok I4 ea' c n l' rz fun s5 I5=>⟨σ,_,I5,q4⟩
def rAdd:V→V→Hp→VK→Prop:=fun x y H Q=>∃i j,x=.int i∧y=.int j∧Q (.int (i+j)) H
theorem in_add:InOp X .Add rAdd:=by
 rintro pins s σ H x y u v Q I rx ry ⟨i,j,rfl,rfl,q⟩
 obtain⟨t,rfl⟩:=(show ∃t,u=Value.int i t from rx)
 obtain⟨t',rfl⟩:=(show ∃t',v=Value.int j t' from ry)
 exact PyProof.Rows.iadd_int ⟨.int (i+j),H,I.tok _,⟨_,rfl⟩,q⟩
theorem methcall_of {pl:Sem Bool} {m:Str} {apos:Pos} {args:List Expr} {pins:List (Addr×Obj)} {s:Shared} {σ:St} {H:Hp} {Q:Value→Shared→Prop} {te:TE} (he:PE X e te) (I:Inv X pins σ H s)
  (h:te σ H fun x H1=>∃a C dx fs g,x=.ref a∧H1 a=some (.ins C dx fs)∧Cls X.K C∧Meth X.K C m g∧fs.lookup m=none ∧
   ∀s1,Inv X pins σ H1 s1→wpAny (model X.prog X.w) X.A (callWith pos (.ref g) [.ref a] (backTo pos (starEach args X.env)) (backToKw pos (keywordEach [] X.env))) Q X.xe s1)
  (ht:eval (.Call (.Attribute e m apos) args [] pos) X.env=(do
   let ov ←eval e X.env
   standAt apos.atName
   let (f,first) ←holding [ov] (getMethod ov m pl)
   callWith pos f first (backTo pos (starEach args X.env)) (backToKw pos (keywordEach [] X.env)))) :
  wpAny (model X.prog X.w) X.A (eval (.Call (.Attribute e m apos) args [] pos) X.env) Q X.xe s:=by
 refine PySem.W.methodCall_KW (pl:=pl) (thn (he pins s σ H _ I h) fun u s1 ⟨x,H1,I1,rx,a,C,dx,fs,g,ex,ea,c,k,l,q⟩=>?_) ht
 subst ex
 obtain rfl:u=Value.ref a:=rx
 exact getmeth_ok I1 ea c k l (q s1 I1)
end
end L2
namespace L2
open PySem PySem.Spec PyProof.Rows
structure Room (k:Nat) (A:Around):Prop where
 hd:A.handled=none
 dp:A.depth+3 * k+5<recursionLimit
 un:A.units+16 * k+200<cLine
theorem Room.mono {j k:Nat} {A:Around} (r:Room k A) (h:j≤k):Room j A:=⟨r.hd,by have:=r.dp;omega,by have:=r.un;omega⟩
theorem Room.deeper {k:Nat} {A:Around} (r:Room (k+1) A) (env:Env):Room k (A.deeper env) :=
 ⟨r.hd,by have:=r.dp;show A.depth+1+3 * k+5<_;omega,by have:=r.un;show A.units+3+16 * k+200<_;omega⟩
theorem make_depth {A:Around} {C:Addr} {us:List Value} {kw:List (Str×Value)}:(A.under (.builtin "type.__call__" ⟨.ref C::us,kw⟩)).depth=A.depth+1:=by
 first|rfl|simp[Around.under,Code.weight,Code.isCreation,Code.isGuard,Code.isCaller,Code.frames,Code.isFrame,guardIds]
theorem make_units {A:Around} {C:Addr} {us:List Value} {kw:List (Str×Value)}:(A.under (.builtin "type.__call__" ⟨.ref C::us,kw⟩)).units=A.units+1:=by
 first|rfl|simp[Around.under,Code.cUnits,Code.frames,Code.isFrame]
theorem Room.make {k:Nat} {A:Around} (r:Room (k+1) A) (C:Addr) (us:List Value) (kw:List (Str×Value)):Room k (A.under (.builtin "type.__call__" ⟨.ref C::us,kw⟩)) :=
 ⟨r.hd,by have:=r.dp;rw[make_depth];omega,by have:=r.un;rw[make_units];omega⟩
theorem Room.depth {k:Nat} {A:Around} (r:Room k A):A.depth<recursionLimit:=by have:=r.dp;omega
theorem Room.units {k:Nat} {A:Around} (r:Room k A):A.units+64<cLine:=by have:=r.un;omega
def tNil:TA:=fun _ H Q=>Q [] H
def tCons (ta:TE) (tr:TA):TA:=fun σ H Q=>ta σ H fun x H1=>tr σ H1 fun xs H2=>Q (x::xs) H2
section
variable {X:Cx} {e:Expr} {es:List Expr} {te:TE} {t:TA} {pos:Pos}
theorem pa_nil:PA X [] tNil:=fun _ _ _ _ H Q I h=>Calls.spliced_nil ⟨[],H,I,.nil,h⟩
theorem pa_cons (ha:PE X e te) (hr:PA X es t) (hs:starEach (e::es) X.env=(false,eval e X.env)::starEach es X.env:=by rfl):PA X (e::es) (tCons te t):=by
 intro pos pins s σ H Q I h
 rw[hs]
 show wpAny _ _ (spliced ((false,eval e X.env)::backTo pos (starEach es X.env))) _ _ s
 refine Calls.spliced_cons (thn (ha pins s σ H _ I h) fun u s1 ⟨x,H1,I1,r1,q1⟩=>?_)
 exact thn (hr pos pins s1 σ H1 _ I1 q1) fun us s2 ⟨xs,H2,I2,r2,q2⟩=>⟨x::xs,H2,I2,.cons r1 r2,q2⟩
def tTup (t:TA):TE:=fun σ H Q=>t σ H fun xs H1=>xs.length≤sizeLine∧∀p,H1 p=none→Q (.ref p) (upd H1 p (.tup xs))
def tLst (t:TA):TE:=fun σ H Q=>t σ H fun xs H1=>xs.length≤sizeLine∧∀p,H1 p=none→Q (.ref p) (upd H1 p (.lst xs))
theorem pe_tup {x1} (h:PA X es t):PE X (.Tuple es x1 pos) (tTup t):=by
 intro pins s σ H Q I hq
 refine wpAny_Tuple_spliced (thn (h pos pins s σ H _ I hq) fun us s1 ⟨xs,H1,I1,r,z,q⟩=>⟨by rw[←r.length];exact z,?_⟩)
 have hf:H1 s1.heap.objs.size=none:=I1.hok.fresh (Nat.le_refl _)
 refine⟨.ref s1.heap.objs.size,upd H1 s1.heap.objs.size (.tup xs),I1.laid (t':=s1.toks) (fun b u e=>Heap.get?_push_of_some _ e) (Nat.le_refl _) ?_,rfl,q _ hf⟩
 exact⟨z,us,r,⟨_,Heap.get?_push_size _ rfl,rfl,_,rfl⟩⟩
theorem pe_lst (h:PA X es t):PE X (.List es pos) (tLst t):=by
 intro pins s σ H Q I hq
 refine wpAny_List_spliced (thn (h pos pins s σ H _ I hq) fun us s1 ⟨xs,H1,I1,r,z,q⟩=>⟨by rw[←r.length];exact z,?_⟩)
 have hf:H1 s1.heap.objs.size=none:=I1.hok.fresh (Nat.le_refl _)
 refine⟨.ref s1.heap.objs.size,upd H1 s1.heap.objs.size (.lst xs),I1.laid (t':=s1.toks) (fun b u e=>Heap.get?_push_of_some _ e) (Nat.le_refl _) ?_,rfl,q _ hf⟩
 exact⟨z,us,0,r,Heap.get?_push_size _ rfl⟩
end
abbrev Sp:=List V→Hp→VK→XK→Prop
abbrev CXT:=List Env→Hp→Shared→XK→Value→Shared→Prop
structure Env0 (P:Program) (w:World) (K:PySem.W.Frag) (mg:Str→Option Value) (base:Heap) (A:Around) (outer:List Env) (s:Shared) (H:Hp):Prop where
 frames:A.frames=some outer
 mod:Mod K mg base
 bs:∀b o,base.get? b=some o→s.heap.get? b=some o∧H b=none
 bsz:base.objs.size≤s.heap.objs.size
 funs:s.heap.FunFrames base outer
 frf:∀b∈frs outer,H b=none
 hok:HOk P w H s.heap
 bare:AllBare s.gens
def CE (outer:List Env) (P:Program) (w:World) (H:Hp) (s:Shared) (Q:VK) (u:Value) (s':Shared):Prop :=
 ∃v H',s'.os=s.os∧AllBare s'.gens∧Un (frs outer) [] H H' s.heap s'.heap∧HOk P w H' s'.heap∧RelV v u∧Q v H'
def CR (CX:CXT) (outer:List Env) (P:Program) (w:World) (H:Hp) (s:Shared) (Q:VK) (E:XK) (r:Result) (s':Shared):Prop :=
 match r with
 | .ok (.ret u)=>CE outer P w H s Q u s'
 | .ok _=>False
 | .error e=>CX outer H s E e s'
structure FnOk (P:Program) (w:World) (K:PySem.W.Frag) (mg:Str→Option Value) (base:Heap) (CX:CXT) (k:Nat) (f:Addr) (fd:FuncData) (ps:List Str) (sp:Sp):Prop where
 len:∀vs H Q E,sp vs H Q E→vs.length=ps.length
 run:∀(A:Around) (outer:List Env) (s:Shared) (H:Hp) (args:Args) (us:List Value) (vs:List V) (Q:VK) (E:XK),Room k A→Env0 P w K mg base A outer s H→BindsTo s fd args (ps.zip us)→Vals vs us→sp vs H Q E →
  codeAny (model P w) A (.call (.ref f) args) (CR CX outer P w H s Q E) s
theorem Env0.make {P:Program} {w:World} {K:PySem.W.Frag} {mg:Str→Option Value} {base:Heap} {A:Around} {outer:List Env} {s:Shared} {H:Hp} (e:Env0 P w K mg base A outer s H) (C:Addr) (us:List Value) (kw:List (Str×Value)) :
  Env0 P w K mg base (A.under (.builtin "type.__call__" ⟨.ref C::us,kw⟩)) outer s H:=⟨by first|exact e.frames|(simpa [Around.under,Code.envs,Code.isFrame,pushEnvs] using e.frames),e.mod,e.bs,e.bsz,e.funs,e.frf,e.hok,e.bare⟩
section
variable {X:Cx} {pins:List (Addr×Obj)} {σ:St} {H:Hp} {s s':Shared}
theorem Inv.env0 (I:Inv X pins σ H s):Env0 X.prog X.w X.K X.mg X.base X.A X.stack s H :=
 ⟨I.ok.frames,I.ok.mod,I.bs,Nat.le_trans I.ok.bsz I.sz,I.stack,I.stkFree,I.hok,I.bare⟩
theorem Inv.after {Q:VK} {u:Value} (I:Inv X pins σ H s) (h:CE X.stack X.prog X.w H s Q u s'):EP X pins σ Q u s':=by
 obtain⟨v,H',os,bare,un,hok,r,q⟩:=h
 obtain⟨hh,g,d,t,os'⟩:=s'
 obtain rfl:os'=s.os:=os
 exact⟨v,H',I.call (h':=hh) (g':=g) (d':=d) (t':=t) (ch:=[]) un hok bare (fun b z=>absurd z (by simp)),r,q⟩
end
def tCall (sp:Sp) (dvs:List V) (E:XK) (t:TA):TE:=fun σ H Q=>t σ H fun vs H1=>sp (vs++dvs) H1 Q E
def tMeth (C:Addr) (m:Str) (sp:Sp) (dvs:List V) (E:XK) (ta:TE) (t:TA):TE:=fun σ H Q=>ta σ H fun x H1=>∃a dx fs,x=.ref a∧H1 a=some (.ins C dx fs)∧fs.lookup m=none ∧
 t σ H1 fun vs H2=>sp (x::(vs++dvs)) H2 Q E
def tMake (C:Addr) (sp:Sp) (dvs:List V) (E:XK) (t:TA):TE:=fun σ H Q=>t σ H fun vs H1=>∀x dx,H1 x=none→H1 dx=none→dx≠x →
 sp (.ref x::(vs++dvs)) (upd (upd H1 dx (.own x)) x (.ins C dx [])) (fun v H2=>v=.non∧Q (.ref x) H2) E
def Binds (K:PySem.W.Frag) (fd:FuncData) (ps:List Str) (ds:List Value):Prop :=
 ∀(s:Shared) (us:List Value),K.In s.heap→(us++ds).length=ps.length→BindsTo s fd ⟨us,[]⟩ (ps.zip (us++ds))
theorem Binds.all {K:PySem.W.Frag} {fd:FuncData} {ps:List Str} (h:∀us:List Value,us.length=ps.length→bindArgs fd ⟨us,[]⟩=pure (ps.zip us)):Binds K fd ps []:=fun s us _ hl=>by
 rw[List.append_nil]at hl ⊢
 exact .of_eq (h us hl)
def Passes (CX:CXT) (X:Cx) (E:XK):Prop:=∀(pins:List (Addr×Obj)) (σ:St) (H:Hp) (s:Shared) (e:Value) (s':Shared),Inv X pins σ H s→CX X.stack H s E e s'→X.xe e s'
section
variable {X:Cx} {CX:CXT} {k:Nat} {f C:Addr} {fd:FuncData} {ps:List Str} {sp:Sp} {dvs:List V} {ds:List Value} {E:XK} {x m:Str} {p pos apos:Pos} {e o:Expr} {es:List Expr} {ta:TE} {t:TA}
theorem run_fn {pins:List (Addr×Obj)} {σ:St} {H:Hp} {s:Shared} {Q:VK} {us:List Value} {vs:List V} (F:FnOk X.prog X.w X.K X.mg X.base CX k f fd ps sp) (hr:Room k X.A) (hb:Binds X.K fd ps ds) (hd:Vals dvs ds) (hx:Passes CX X E)
    (I:Inv X pins σ H s) (r:Vals vs us) (h:sp (vs++dvs) H Q E):wpAny (model X.prog X.w) X.A (call (.ref f) us) (EP X pins σ Q) X.xe s:=by
  have r2:Vals (vs++dvs) (us++ds):=r.append hd
  have hl:(us++ds).length=ps.length:=by rw[←r2.length];exact F.len _ _ _ _ h
  refine wpAny_call (codeAny_mono (F.run X.A X.stack s H ⟨us,[]⟩ (us++ds) (vs++dvs) Q E hr I.env0 (hb s us I.kIn hl) r2 h) fun r s' hq=>?_)
  cases r with
  | error e=>exact hx pins σ H s e s' I hq
  | ok fl =>
    cases fl with
    | ret u=>exact I.after hq
    | next=>exact False.elim hq
    | brk=>exact False.elim hq
    | cont=>exact False.elim hq
theorem pe_call (F:FnOk X.prog X.w X.K X.mg X.base CX k f fd ps sp) (hr:Room k X.A) (hg:Gl X x) (hm:X.mg x=some (.ref f)) (hk:PySem.W.keepIn X.K (.ref f)=true) (hb:Binds X.K fd ps ds) (hd:Vals dvs ds) (hx:Passes CX X E)
  (ha:PA X (e::es) t) (hdb:(x==("__debug__" : Str))=false:=by decide) (he:starEach (e::es) X.env=(false,eval e X.env)::starEach es X.env:=by rfl) (hpl:(backTo pos (starEach es X.env)).any (·.1)=false:=by rfl) :
  PE X (.Call (.Name x p) (e::es) [] pos) (tCall sp dvs E t):=by
 intro pins s σ H Q I h
 refine wpAny_Call_Name_kw (ld_glob I hg hm ?_ hdb)
 refine PySem.W.callWith_K (h₀:=X.base) I.ok.mod.kin hk (thn (ha pos pins s σ H _ I h) fun us s1 ⟨vs,H1,I1,r,q⟩=>⟨I1.kIn,?_⟩) he hpl
 exact run_fn F hr hb hd hx I1 r q
theorem pe_meth {pl:Sem Bool} (he:PE X o ta) (c:Cls X.K C) (hm:Meth X.K C m f) (F:FnOk X.prog X.w X.K X.mg X.base CX k f fd ps sp) (hr:Room k X.A) (hb:Binds X.K fd ps ds) (hd:Vals dvs ds) (hx:Passes CX X E) (ha:PA X (e::es) t)
  (hst:starEach (e::es) X.env=(false,eval e X.env)::starEach es X.env:=by rfl) (hpl:(backTo pos (starEach es X.env)).any (·.1)=false:=by rfl)
  (ht:eval (.Call (.Attribute o m apos) (e::es) [] pos) X.env=(do
   let ov ←eval o X.env
   standAt apos.atName
   let (f,first) ←holding [ov] (getMethod ov m pl)
   callWith pos f first (backTo pos (starEach (e::es) X.env)) (backToKw pos (keywordEach [] X.env))):=by rfl) :
  PE X (.Call (.Attribute o m apos) (e::es) [] pos) (tMeth C m sp dvs E ta t):=by
 intro pins s σ H Q I h
 refine PySem.W.methodCall_KW (pl:=pl) (thn (he pins s σ H _ I h) fun u s1 ⟨x,H1,I1,rx,a,dx,fs,ex,ea,l,q⟩=>?_) ht
 subst ex
 obtain rfl:u=Value.ref a:=rx
 refine getmeth_ok I1 ea c hm l ?_
 refine PySem.W.callWith_K (first:=[.ref a]) (h₀:=X.base) I.ok.mod.kin hm.kp (thn (ha pos pins s1 σ H1 _ I1 q) fun us s2 ⟨vs,H2,I2,r,q2⟩=>⟨I2.kIn,?_⟩) hst hpl
 exact run_fn (us:=.ref a::us) (vs:=.ref a::vs) F hr hb hd hx I2 (.cons rfl r) q2
theorem pe_meth0 {pl:Sem Bool} (he:PE X o ta) (c:Cls X.K C) (hm:Meth X.K C m f) (F:FnOk X.prog X.w X.K X.mg X.base CX k f fd ps sp) (hr:Room k X.A) (hb:Binds X.K fd ps ds) (hd:Vals dvs ds) (hx:Passes CX X E)
  (ht:eval (.Call (.Attribute o m apos) [] [] pos) X.env=(do
   let ov ←eval o X.env
   standAt apos.atName
   let (f,first) ←holding [ov] (getMethod ov m pl)
   callWith pos f first (backTo pos (starEach [] X.env)) (backToKw pos (keywordEach [] X.env))):=by rfl) :
  PE X (.Call (.Attribute o m apos) [] [] pos) (tMeth C m sp dvs E ta tNil):=by
 intro pins s σ H Q I h
 refine PySem.W.methodCall_KW (pl:=pl) (thn (he pins s σ H _ I h) fun u s1 ⟨x,H1,I1,rx,a,dx,fs,ex,ea,l,q⟩=>?_) ht
 subst ex
 obtain rfl:u=Value.ref a:=rx
 refine getmeth_ok I1 ea c hm l ?_
 exact PySem.W.callWith_K0 (first:=[.ref a]) I1.kIn hm.kp (run_fn (us:=[.ref a]) (vs:=[.ref a]) F hr hb hd hx I1 (.cons rfl .nil) q)
structure Mk (K:PySem.W.Frag) (C f:Addr):Prop where
 makes:PySem.W.makesIn K C=true
 init:PySem.W.findIn K (.ref C) "__init__" = some (some (.ref f))
 fn:PySem.W.isFn K (.ref f)=true
 kp:PySem.W.keepIn K (.ref C)=true
theorem run_make {pins:List (Addr×Obj)} {σ:St} {H:Hp} {s:Shared} {Q:VK} {us:List Value} {vs:List V} (M:Mk X.K C f) (F:FnOk X.prog X.w X.K X.mg X.base CX k f fd ps sp) (hr:Room (k+1) X.A) (hb:Binds X.K fd ps ds) (hd:Vals dvs ds)
    (hx:Passes CX X E) (I:Inv X pins σ H s) (r:Vals vs us)
    (h:∀x dx,H x=none→H dx=none→dx≠x→sp (.ref x::(vs++dvs)) (upd (upd H dx (.own x)) x (.ins C dx [])) (fun v H2=>v=.non∧Q (.ref x) H2) E) :
    wpAny (model X.prog X.w) X.A (call (.ref C) us) (EP X pins σ Q) X.xe s:=by
  have hq:=h (s.heap.objs.size+1) s.heap.objs.size (I.hok.fresh (Nat.le_succ _)) (I.hok.fresh (Nat.le_refl _)) (Nat.ne_of_lt (Nat.lt_succ_self _))
  have I2:=Inv.made (C:=C) I
  have r2:Vals (V.ref (s.heap.objs.size+1)::(vs++dvs)) (Value.ref (s.heap.objs.size+1)::(us++ds)):=.cons rfl (r.append hd)
  have hl:(Value.ref (s.heap.objs.size+1)::us++ds).length=ps.length:=by
    have e:=r2.length
    rw[F.len _ _ _ _ hq]at e
    exact e.symm
  refine wpAny_call (make_map (f:=f) I.kIn M.makes M.init (beq_iff_eq.mp M.fn) (codeAny_mono (F.run _ X.stack _ _ ⟨Value.ref (s.heap.objs.size+1)::us,[]⟩ (Value.ref (s.heap.objs.size+1)::(us++ds)) _ _ E (hr.make C us [])
    (I2.env0.make C us []) (hb _ (Value.ref (s.heap.objs.size+1)::us) I2.kIn hl) r2 hq) fun r s' hq'=>?_))
  cases r with
  | error e=>exact hx pins σ _ _ e s' I2 hq'
  | ok fl =>
    cases fl with
    | ret u =>
      obtain⟨v,H',I3,rv,ev,q3⟩:=I2.after hq'
      subst ev
      exact⟨rv,⟨V.ref (s.heap.objs.size+1),H',I3,rfl,q3⟩⟩
    | next=>exact False.elim hq'
    | brk=>exact False.elim hq'
    | cont=>exact False.elim hq'
theorem pe_make (M:Mk X.K C f) (F:FnOk X.prog X.w X.K X.mg X.base CX k f fd ps sp) (hr:Room (k+1) X.A) (hg:Gl X x) (hm:X.mg x=some (.ref C)) (hb:Binds X.K fd ps ds) (hd:Vals dvs ds) (hx:Passes CX X E)
  (ha:PA X (e::es) t) (hdb:(x==("__debug__" : Str))=false:=by decide) (he:starEach (e::es) X.env=(false,eval e X.env)::starEach es X.env:=by rfl) (hpl:(backTo pos (starEach es X.env)).any (·.1)=false:=by rfl) :
  PE X (.Call (.Name x p) (e::es) [] pos) (tMake C sp dvs E t):=by
 intro pins s σ H Q I h
 refine wpAny_Call_Name_kw (ld_glob I hg hm ?_ hdb)
 refine PySem.W.callWith_K (h₀:=X.base) I.ok.mod.kin M.kp (thn (ha pos pins s σ H _ I h) fun us s1 ⟨vs,H1,I1,r,q⟩=>⟨I1.kIn,?_⟩) he hpl
 exact run_make M F hr hb hd hx I1 r q
theorem pe_make0 (M:Mk X.K C f) (F:FnOk X.prog X.w X.K X.mg X.base CX k f fd ps sp) (hr:Room (k+1) X.A) (hg:Gl X x) (hm:X.mg x=some (.ref C)) (hb:Binds X.K fd ps ds) (hd:Vals dvs ds) (hx:Passes CX X E)
  (hdb:(x==("__debug__" : Str))=false:=by decide):PE X (.Call (.Name x p) [] [] pos) (tMake C sp dvs E tNil):=by
 intro pins s σ H Q I h
 refine wpAny_Call_Name_kw (ld_glob I hg hm ?_ hdb)
 exact PySem.W.callWith_K0 I.kIn M.kp (run_make (us:=[]) M F hr hb hd hx I .nil h)
end
structure FnScope (N P:List Str) (sc:Scope):Prop where
 kind:sc.kind=.function
 co:sc.isCoroutine=false
 gen:sc.isGenerator=false
 nd:N.Nodup
 pre:N.take P.length=P
 par:∀x∈P,sc.names.lookup x=some .local∨sc.names.lookup x=some .cell
 nofree:∀y∈sc.names,y.2≠.free
theorem bindL_out {kindOf:Str→Option NameKind} {x:Str}:∀{binds:List (Str×Value)} {m:Str→Option Value},(∀v,(x,v)∉binds)→bindL kindOf binds m x=m x
  | [],_,_=>rfl
  | (n,v)::r,m,h=>by
    unfold bindL
    rw[bindL_out fun w hw=>h w (List.mem_cons_of_mem _ hw)]
    split
    · have:x≠n:=by rintro rfl;exact h v List.mem_cons_self
      simp[this]
    · rfl
theorem bindC_out {kindOf:Str→Option NameKind} {x:Str}:∀{binds:List (Str×Value)} {m:Str→Option Value},(∀v,(x,v)∉binds)→bindC kindOf binds m x=m x
  | [],_,_=>rfl
  | (n,v)::r,m,h=>by
    unfold bindC
    rw[bindC_out fun w hw=>h w (List.mem_cons_of_mem _ hw)]
    split
    · rfl
    · have:x≠n:=by rintro rfl;exact h v List.mem_cons_self
      simp[this]
theorem bindL_get {kindOf:Str→Option NameKind} {x:Str} {v:Value}:∀{P:List Str} {vs:List Value} {i:Nat} {m:Str→Option Value},P.Nodup→P[i]? = some x→vs[i]? = some v→kindOf x=some .local →
    bindL kindOf (P.zip vs) m x=some v
  | [],_,_,_,_,h,_,_=>by simp at h
  | _::_,[],_,_,_,_,h,_=>by simp at h
  | p::P,w::vs,0,m,nd,h1,h2,hk=>by
    simp at h1 h2;subst h1;subst h2
    show bindL kindOf ((p,w)::P.zip vs) m p=_
    unfold bindL
    rw[bindL_out fun v hv=>(List.nodup_cons.mp nd).1 (List.of_mem_zip hv).1,if_pos hk]
    simp
  | p::P,w::vs,i+1,m,nd,h1,h2,hk=>by
    show bindL kindOf ((p,w)::P.zip vs) m x=_
    unfold bindL
    exact bindL_get (i:=i) (List.nodup_cons.mp nd).2 (by simpa using h1) (by simpa using h2) hk
theorem bindC_get {kindOf:Str→Option NameKind} {x:Str} {v:Value}:∀{P:List Str} {vs:List Value} {i:Nat} {m:Str→Option Value},P.Nodup→P[i]? = some x→vs[i]? = some v→kindOf x≠some .local →
    bindC kindOf (P.zip vs) m x=some v
  | [],_,_,_,_,h,_,_=>by simp at h
  | _::_,[],_,_,_,_,h,_=>by simp at h
  | p::P,w::vs,0,m,nd,h1,h2,hk=>by
    simp at h1 h2;subst h1;subst h2
    show bindC kindOf ((p,w)::P.zip vs) m p=_
    unfold bindC
    rw[bindC_out fun v hv=>(List.nodup_cons.mp nd).1 (List.of_mem_zip hv).1,if_neg hk]
    simp
  | p::P,w::vs,i+1,m,nd,h1,h2,hk=>by
    show bindC kindOf ((p,w)::P.zip vs) m x=_
    unfold bindC
    exact bindC_get (i:=i) (List.nodup_cons.mp nd).2 (by simpa using h1) (by simpa using h2) hk
def start (N:List Str) (vs:List V):St:=vs.map some++List.replicate (N.length - vs.length) none
def cxOf (CX:CXT) (P:Program) (w:World) (K:PySem.W.Frag) (mg:Str→Option Value) (base:Heap) (N:List Str) (qual:Str) (scope:Scope) (f:Addr) (cd:Value) (A:Around) (outer:List Env) (s:Shared) (H:Hp) (E:XK):Cx where
 prog:=P
 w:=w
 K:=K
 mg:=mg
 base:=base
 A:=A.deeper (envOfC qual scope s.heap.objs.size f cd)
 N:=N
 s_0:=s
 H_0:=H
 env:=envOfC qual scope s.heap.objs.size f cd
 outer:=outer
 stack:=envOfC qual scope s.heap.objs.size f cd::outer
 ex:=[]
 calm:=true
 fn:=fun _=>true
 pn:=[]
 xe:=fun e s'=>wpAny (model P w) (A.deeper (envOfC qual scope s.heap.objs.size f cd)) (leaving (envOfC qual scope s.heap.objs.size f cd) e) (fun _ s''=>CX outer H s E e s'') (fun e' s''=>CX outer H s E e' s'') s'
theorem cell_has {sc:Scope} {n:Nat} {x:Str} (h:sc.names.lookup x=some .cell):∃c,(cellsFrom n sc.names []).lookup x=some c:=by
 have q:=PySem.W.cellsFrom_some sc.names n [] (.inl h)
 exact Option.isSome_iff_exists.mp q
theorem inv_start {CX:CXT} {P:Program} {w:World} {K:PySem.W.Frag} {mg:Str→Option Value} {base:Heap} {N ps:List Str} {qual:Str} {scope:Scope} {f:Addr} {cd:Value} {A:Around} {outer:List Env} {s s1:Shared} {H:Hp} {E:XK} {us:List Value} {vs:List V}
    (S:FnScope N ps scope) (hd:A.handled=none) (e0:Env0 P w K mg base A outer s H) (hl:vs.length=ps.length) (r:Vals vs us)
    (x:InCallC s s.heap.objs.size (bindL (envOfC qual scope s.heap.objs.size f cd).kindOf (ps.zip us) fun _=>none) (cellsFrom (s.heap.objs.size+1) scope.names []) (bindC (envOfC qual scope s.heap.objs.size f cd).kindOf (ps.zip us) fun _=>none) s1) :
    Inv (cxOf CX P w K mg base N qual scope f cd A outer s H E) [] (start N vs) H s1:=by
  have hpl:ps.length≤N.length:=by have:=congrArg List.length S.pre;rw[List.length_take]at this;omega
  obtain⟨h1,tk,rfl,hk⟩:=x.done
  have noA:∀b:Addr,b∉(cxOf CX P w K mg base N qual scope f cd A outer s H E).ex:=fun b z=>absurd (show b∈([]:List Addr) from z) (by simp)
  refine⟨⟨e0.mod,S.kind,rfl,rfl,Nat.le_refl _,fun y z c h1 h2=>?_,fun y hy=>?_,fun y c _ h=>?_,fun _=>hd,Around.frames_deeper e0.frames,.inr ⟨rfl,rfl⟩,fun b z=>absurd z (noA b),e0.bs,e0.bsz,fun b _ _=>noA b,fun b z=>absurd z (noA b),e0.funs,e0.frf⟩,
    rfl,e0.bare,Un.kept hk,⟨_,x.toInCall.ns,fun i y v h1 h2 h3=>?_⟩,fun y c h=>⟨_,x.cell y c h⟩,e0.hok.fresh (Nat.le_refl _),fun y c h=>?_,fun p hp=>absurd (show p∈([]:List (Addr×Obj)) from hp) (by simp),e0.hok.kept hk,?_⟩
  · exact name_of_addr x.apart (PySem.mem_of_lookup h1) (PySem.mem_of_lookup h2)
  · have hy:scope.names.lookup y=some .cell∨scope.names.lookup y=some .free:=hy
    rcases hy with hy|hy
    · exact cell_has hy
    · exact absurd rfl (S.nofree _ (PySem.mem_of_lookup hy))
  · exact Nat.le_of_lt (x.above y c (PySem.mem_of_lookup h))
  · have hi:i<vs.length:=by
      unfold start at h2
      by_cases hi:i<vs.length
      · exact hi
      · rw[List.getElem?_append_right (by simpa using hi)]at h2
        rw[List.getElem?_replicate]at h2
        split at h2<;>cases h2
    have ha:vs[i]? = some v:=by
      unfold start at h2
      rw[List.getElem?_append_left (by simpa using hi),List.getElem?_map]at h2
      cases e:vs[i]? with
      | none=>rw[e]at h2;cases h2
      | some a=>rw[e]at h2;cases h2;rfl
    obtain⟨u,hu,rv⟩:=r.get ha
    have hp:ps[i]? = some y:=by
      rw[←S.pre,List.getElem?_take_of_lt (by omega)];exact h1
    have ndP:ps.Nodup:=by rw[←S.pre];exact S.nd.sublist (List.take_sublist _ _)
    refine⟨u,rv,?_⟩
    rcases S.par y (List.mem_of_getElem? hp)with k|k
    · exact .inl ⟨k,bindL_get ndP hp hu k⟩
    · obtain⟨c,e⟩:=cell_has (n:=s.heap.objs.size+1) k
      refine .inr ⟨.inl k,c,e,?_⟩
      have q:=x.cell y c e
      rw[bindC_get ndP hp hu (by show scope.names.lookup y≠_;rw[k];decide)]at q
      exact q
  · exact e0.hok.fresh (Nat.le_of_lt (x.above y c (PySem.mem_of_lookup h)))
  · unfold start
    show _=N.length
    rw[List.length_append,List.length_map,List.length_replicate]
    omega
theorem fn_of {CX:CXT} {P:Program} {w:World} {K:PySem.W.Frag} {mg:Str→Option Value} {base:Heap} {k:Nat} {f:Addr} {name qual:Str} {params:Arguments} {body:List Stmt} {scope:Scope} {dV kV doc pm cdv ct oc:Value} {an od:Option Addr}
    {osl:Array (Option Value)} {N ps:List Str} {sp:Sp} (lk:K.lookup f=some ⟨oc,od,.func (PySem.W.fnOf name qual params body scope dV kV doc pm an cdv ct),osl⟩) (hcd:PySem.W.codeIn K cdv qual=true) (S:FnScope N ps scope)
    (len:∀vs H Q E,sp vs H Q E→vs.length=ps.length)
    (hbody:∀(A:Around) (outer:List Env) (s:Shared) (H:Hp) (vs:List V) (Q:VK) (E:XK),Room k (A.deeper (envOfC qual scope s.heap.objs.size f cdv))→sp vs H Q E →
      ∃t,PSs (cxOf CX P w K mg base N qual scope f cdv A outer s H E) body t∧t { nx:=fun _ H'=>Q .non H',rt:=Q } (start N vs) H) :
    FnOk P w K mg base CX (k+1) f (PySem.W.fnOf name qual params body scope dV kV doc pm an cdv ct) ps sp:=by
  refine⟨len,fun A outer s H args us vs Q E hr e0 hb r hsp=>?_⟩
  have hl:=len _ _ _ _ hsp
  have KX:K.In s.heap:=e0.mod.kin.keeps fun b o e=>(e0.bs b o e).1
  have lim:s.heap.NoLimit:=e0.mod.nolimit.keeps fun b o e=>(e0.bs b o e).1
  have hkind:∀y∈ps.zip us,scope.names.lookup y.1=some .local∨(scope.names.lookup y.1=some .cell∧((cellsFrom (s.heap.objs.size+1) scope.names []).lookup y.1).isSome=true):=fun⟨n,v⟩ hy=>by
    rcases S.par n (List.of_mem_zip hy).1 with q|q
    · exact .inl q
    · exact .inr ⟨q,PySem.W.cellsFrom_some _ _ _ (.inl q)⟩
  refine codeAny_call_function hr.depth (KX _ _ lk) rfl S.co S.gen rfl (PySem.W.codeRec_of KX hcd) (hb _ _ _ _ ?_)
  refine wpAny_newFunctionEnv_cells S.kind hkind fun env he s1 x=>?_
  subst he
  refine⟨lim.keeps x.toInCall.keep,codeAny_func ?_⟩
  obtain⟨t,ht,hq⟩:=hbody A outer s H vs Q E (hr.deeper _) hsp
  have I:Inv (cxOf CX P w K mg base N qual scope f cdv A outer s H E) [] (start N vs) H s1:=inv_start S hr.hd e0 hl r x
  refine wpAny_mono (ht [] s1 (start N vs) H _ I hq) (fun fl s' hs=>?_) fun e s' hs=>hs
  have fin:∀{σ':St} {H':Hp} {v:V} {u:Value},Inv (cxOf CX P w K mg base N qual scope f cdv A outer s H E) [] σ' H' s'→RelV v u→Q v H'→CE outer P w H s Q u s' :=
    fun {σ' H' v u} J rv q=>⟨v,H',J.os,J.bare,J.base,J.hok,rv,q⟩
  cases fl with
  | ret u =>
    obtain⟨v,σ',H',J,rv,q⟩:=hs
    exact fin J rv q
  | next =>
    obtain⟨σ',H',J,q⟩:=hs
    exact fin (v:=V.non) (u:=Value.none) J rfl q
  | brk =>
    obtain⟨_,_,_,q⟩:=hs
    exact False.elim q
  | cont =>
    obtain⟨_,_,_,q⟩:=hs
    exact False.elim q
end L2
namespace L2
open PySem PySem.Spec PyProof.Rows
section
variable {X:Cx} {x:Str} {p pos:Pos} {e:Expr} {es:List Expr} {t:TA} {id T:String} {r:List V→Hp→VK→Prop}
def tCB (r:List V→Hp→VK→Prop) (t:TA):TE:=fun σ H Q=>t σ H fun vs H1=>r vs H1 Q
theorem pe_callB (hc:CallR X (.builtin id) r) (hg:Gl X x) (hm:X.mg x=none) (hv:bootBuiltins x=some (.builtin id)) (ha:PA X (e::es) t) (hn:x ≠ "__name__" := by decide) (hdb:(x==("__debug__" : Str))=false:=by decide)
  (he:starEach (e::es) X.env=(false,eval e X.env)::starEach es X.env:=by rfl) (hpl:(backTo pos (starEach es X.env)).any (·.1)=false:=by rfl):PE X (.Call (.Name x p) (e::es) [] pos) (tCB r t):=by
 intro pins s σ H Q I h
 refine wpAny_Call_Name_kw (ld_blt I hg hm hv ?_ hn hdb)
 exact PyProof.Rows.callWith_builtin1 (thn (ha pos pins s σ H _ I h) fun us s1 ⟨vs,H1,I1,r1,q1⟩=>hc pins s1 σ H1 vs us Q I1 r1 q1) he hpl
theorem pe_callTy (hc:CallR X (.type T) r) (hg:Gl X x) (hm:X.mg x=none) (hv:bootBuiltins x=some (.type T)) (ha:PA X (e::es) t) (hn:x ≠ "__name__" := by decide) (hdb:(x==("__debug__" : Str))=false:=by decide)
  (he:starEach (e::es) X.env=(false,eval e X.env)::starEach es X.env:=by rfl) (hpl:(backTo pos (starEach es X.env)).any (·.1)=false:=by rfl):PE X (.Call (.Name x p) (e::es) [] pos) (tCB r t):=by
 intro pins s σ H Q I h
 refine wpAny_Call_Name_kw (ld_blt I hg hm hv ?_ hn hdb)
 exact PyProof.Rows.callWith_type1 (thn (ha pos pins s σ H _ I h) fun us s1 ⟨vs,H1,I1,r1,q1⟩=>hc pins s1 σ H1 vs us Q I1 r1 q1) he hpl
end
end L2
namespace HT
open PySem PyProof.Rows
section
variable {prog:Program} {w:World} {A:Around} {E:Value→Shared→Prop} {s:Shared}
def sIx (n d:Nat):Option Int→Nat
 | none=>d
 | some v=>if v<0 then(v+(n:Int)).toNat else min v.toNat n
theorem sIx_nat (n d k:Nat):sIx n d (some (k:Int))=min k n:=by
 show(if(k:Int)<0 then((k:Int)+(n:Int)).toNat else min (k:Int).toNat n)=min k n
 rw[if_neg (by omega),Int.toNat_natCast]
theorem sIx_le (n d:Nat) (hd:d≤n) (o:Option Int):sIx n d o≤n:=by
  cases o with
  | none=>exact hd
  | some v =>
    show(if v<0 then(v+(n:Int)).toNat else min v.toNat n)≤n
    by_cases hv:v<0
    · rw[if_pos hv];omega
    · rw[if_neg hv];exact Nat.min_le_right _ _
theorem clip_eq (v:Int) (n d:Nat):(if v<0 then max (v+(n:Int)) 0 else min v (n:Int))=((sIx n d (some v):Nat):Int):=by
 show(if v<0 then max (v+(n:Int)) 0 else min v (n:Int))=(((if v<0 then(v+(n:Int)).toNat else min v.toNat n):Nat):Int)
 by_cases hv:v<0
 ·simp only[if_pos hv];omega
 ·simp only[if_neg hv];omega
theorem adjust_gen (lo hi:Option Int) (n:Nat):Builtin.Slice.sliceAdjust lo hi 1 (n:Int)=(((sIx n 0 lo:Nat):Int),((sIx n n hi:Nat):Int)):=by
 have h1:¬((1:Int)<0):=by omega
 unfold Builtin.Slice.sliceAdjust
 simp only[h1,if_false]
 refine Prod.ext ?_ ?_
 ·cases lo with
  | none=>rfl
  | some v=>exact clip_eq v n 0
 ·cases hi with
  | none=>rfl
  | some v=>exact clip_eq v n n
theorem places_gen (i j:Nat):Builtin.Slice.slicePlaces (i:Int) (j:Int) 1=j - i:=by
 unfold Builtin.Slice.slicePlaces
 have h1:(1:Int) > 0:=by omega
 simp only[h1,if_true,Int.ediv_one]
 split<;>omega
theorem slicePart_ {v:Value} {o:Option Int} {Q:Option Int→Shared→Prop} (p:IsPart v o) (h:Q o s):wpAny (model prog w) A (Builtin.Slice.slicePartIndex v) Q E s:=by
 cases p with
 | none=>exact slicePart_none h
 | int i t=>exact slicePart_int h
theorem sliceApplied_gen {sl:Addr} {vl vu:Value} {lo hi:Option Int} {n:Nat} {Q:Int×Int×Nat→Shared→Prop} (hs:s.heap.IsSliceOf sl vl vu .none) (pl:IsPart vl lo) (pu:IsPart vu hi)
  (h:Q (((sIx n 0 lo:Nat):Int),1,sIx n n hi - sIx n 0 lo) s):wpAny (model prog w) A (Builtin.Slice.sliceApplied (.ref sl) (pure (n:Int))) Q E s:=by
 obtain⟨os,hos,hcs,hds⟩:=id hs
 unfold Builtin.Slice.sliceApplied Builtin.Slice.sliceFields
 refine wpAny_bind (wpAny_bind (wpAny_field hos hds (x:=vl) rfl (wpAny_bind (wpAny_field hos hds (x:=vu) rfl (wpAny_bind (wpAny_field hos hds (x:=.none) rfl (wpAny_pure ?_)))))))
 refine wpAny_bind (slicePart_none ?_)
 show wpAny _ _ (if((1:Int)==0)=true then _ else _) _ _ s
 rw[if_neg (by decide)]
 refine wpAny_bind (slicePart_ pl (wpAny_bind (slicePart_ pu (wpAny_bind (wpAny_pure ?_)))))
 show wpAny _ _ (match Builtin.Slice.sliceAdjust lo hi 1 (n:Int)with|(lo,hi)=>pure (lo,(1:Int),Builtin.Slice.slicePlaces lo hi 1)) _ _ s
 rw[adjust_gen lo hi n]
 show wpAny _ _ (pure (((sIx n 0 lo:Nat):Int),(1:Int),Builtin.Slice.slicePlaces ((sIx n 0 lo:Nat):Int) ((sIx n n hi:Nat):Int) 1)) _ _ s
 rw[places_gen]
 exact wpAny_pure h
theorem pick_gen (xs:Array Value) (i k:Nat):((List.range k).filterMap fun(m:Nat)=>xs[((i:Int)+(m:Int) * 1).toNat]?).toArray=((xs.toList.drop i).take k).toArray:=by
 have e:(fun(m:Nat)=>xs[((i:Int)+(m:Int) * 1).toNat]?)=fun m=>xs[i+m]?:=by
  funext m
  have:((i:Int)+(m:Int) * 1).toNat=i+m:=by omega
  rw[this]
 rw[e]
 have:=pick_run xs i k
 rw[List.filterMap_map]at this
 have e2:((fun x=>xs[x]?) ∘ fun x=>i+x)=fun m=>xs[i+m]?:=rfl
 rw[e2]at this
 rw[this]
theorem getItem_tuple_cut {t sl:Addr} {items:Array Value} {vl vu:Value} {lo hi:Option Int} {Q:Value→Shared→Prop} (ht:IsTup s.heap t items) (hs:s.heap.IsSliceOf sl vl vu .none) (pl:IsPart vl lo) (pu:IsPart vu hi)
  (hw:¬(sIx items.size 0 lo=0∧sIx items.size items.size hi=items.size))
  (h:Q (.ref s.heap.objs.size) { s with heap:=s.heap.push { cls:=.type "tuple",data:=.seq ((items.toList.drop (sIx items.size 0 lo)).take (sIx items.size items.size hi - sIx items.size 0 lo)).toArray } })
  (hsz:items.size≤sizeLine):wpAny (model prog w) A (getItem (.ref t) (.ref sl)) Q E s:=by
 have htake:sizeOk (.seq ((items.toList.drop (sIx items.size 0 lo)).take (sIx items.size items.size hi - sIx items.size 0 lo)).toArray):=by
  show((items.toList.drop (sIx items.size 0 lo)).take (sIx items.size items.size hi - sIx items.size 0 lo)).toArray.size≤sizeLine
  rw[List.size_toArray,List.length_take,List.length_drop,Array.length_toList]
  omega
 have hj:sIx items.size items.size hi≤items.size:=sIx_le _ _ (Nat.le_refl _) hi
 obtain⟨os,hos,hcs,hds⟩:=id hs
 have hTs:s.TypeIs (.ref sl) "slice" := ⟨os,hos,hcs⟩
 unfold getItem
 try with_reducible refine wpAny_holding ?_
 first|refine wpAny_bind (wpAny_pure ?_)|skip
 refine wpAny_bind (wpAny_sequenceKey ht.typeIs (by decide) ?_)
 refine wpAny_bind (wpAny_callSpecial?_slot (name:=Str.ofString "__getitem__") ht.typeIs PyProof.Rows.slot_tuple_getitem
  (wpAny_call_entry PyProof.Rows.slot_tuple_getitem ht.typeIs entry_tuple_getitem ?_ (args_tuple_getitem _ _)))
 show wpAny _ _ (Builtin.Tuple.tupleItemsOf (.ref t) >>= _) _ _ s
 refine wpAny_bind (tupleItemsOf_ ht ?_)
 refine wpAny_bind (wpAny_typeOf hTs ?_)
 rw[if_pos (by decide)]
 refine wpAny_bind (sliceApplied_gen hs pl pu ?_)
 have hno:¬((((sIx items.size 0 lo:Nat):Int)==0&&(1:Int)==1&&(sIx items.size items.size hi - sIx items.size 0 lo)==items.size)=true):=by
  intro q
  rw[Bool.and_eq_true,Bool.and_eq_true]at q
  have q1:((sIx items.size 0 lo:Nat):Int)=0:=eq_of_beq q.1.1
  have q2:sIx items.size items.size hi - sIx items.size 0 lo=items.size:=eq_of_beq q.2
  exact hw ⟨by omega,by omega⟩
 show wpAny _ _ (if(((sIx items.size 0 lo:Nat):Int)==0&&(1:Int)==1&&(sIx items.size items.size hi - sIx items.size 0 lo)==items.size)=true then _ else _) _ _ s
 rw[if_neg hno,pick_gen]
 first
  | exact wpAny_bind (m:=Builtin.Tuple.tupleExact _) (wpAny_newObj_type (wpAny_pure ⟨_,rfl,wpAny_pure h⟩) htake)
  | exact wpAny_bind (m:=Builtin.Tuple.tupleExact _) (wpAny_newObj_type (wpAny_bind (wpAny_pure (wpAny_pure ⟨_,rfl,wpAny_pure h⟩))) htake)
  | exact wpAny_bind (wpAny_bind (m:=Builtin.Tuple.tupleExact _) (wpAny_newObj_type (wpAny_pure (wpAny_pure ⟨_,rfl,wpAny_pure h⟩)) htake))
  | exact wpAny_bind (wpAny_bind (m:=Builtin.Tuple.tupleExact _) (wpAny_newObj_type (wpAny_pure ⟨_,rfl,wpAny_pure h⟩) htake))
end
end HT
namespace L2
open PySem PySem.Spec PyProof.Rows
abbrev TO:=St→Hp→(Option Int→Hp→Prop)→Prop
def PO (X:Cx) (e:Option Expr) (t:TO):Prop :=
  ∀ (pins : List (Addr × Obj)) (s : Shared) (σ : St) (H : Hp) (Q : Option Int → Hp → Prop), Inv X pins σ H s → t σ H Q →
    wpAny (model X.prog X.w) X.A (evalPart e X.env) (fun u s'=>∃o H',Inv X pins σ H' s'∧IsPart u o∧Q o H') X.xe s
def tNoPart:TO:=fun _ H Q=>Q none H
def tPart (t:TE):TO:=fun σ H Q=>t σ H fun x H1=>∃i,x=.int i∧Q (some i) H1
section
variable {X:Cx} {e:Expr} {te:TE} {lo hi:Option Expr} {tl th:TO} {pos p2:Pos}
theorem po_none:PO X none tNoPart:=by
 intro pins s σ H Q I h
 rw[evalPart_none]
 exact wpAny_pure ⟨none,H,I,.none,h⟩
theorem po_some (h:PE X e te):PO X (some e) (tPart te):=by
 intro pins s σ H Q I hw
 rw[evalPart_some]
 refine thn (h pins s σ H _ I hw) fun u s1 ⟨x,H1,I1,r1,q1⟩=>?_
 obtain⟨i,rfl,q⟩:=q1
 obtain⟨t,rfl⟩:=r1
 exact⟨some i,H1,I1,.int i t,q⟩
def SlR (X:Cx) (r:V→Option Int→Option Int→Hp→VK→Prop):Prop :=
  ∀ (pins : List (Addr × Obj)) (s : Shared) (σ : St) (H : Hp) (x : V) (v vl vu : Value) (lo hi : Option Int) (sl : Addr) (Q : VK), Inv X pins σ H s → RelV x v → s.heap.IsSliceOf sl vl vu .none → IsPart vl lo → IsPart vu hi → r x lo hi H Q →
    ∃T id,typeLookup (.type T) "__getitem__" = pure (some (.builtin id))∧s.TypeIs v T∧wpAny (model X.prog X.w) X.A (getItem v (.ref sl)) (EP X pins σ Q) X.xe s
def tSl (r:V→Option Int→Option Int→Hp→VK→Prop) (te:TE) (tl th:TO):TE:=fun σ H Q=>te σ H fun x H1=>tl σ H1 fun l H2=>th σ H2 fun u H3=>r x l u H3 Q
theorem pe_slice {r:V→Option Int→Option Int→Hp→VK→Prop} (hr:SlR X r) (he:PE X e te) (hl:PO X lo tl) (hu:PO X hi th):PE X (.Subscript e (.Slice lo hi none p2) pos) (tSl r te tl th):=by
 intro pins s σ H Q I h
 refine Subscript_ (thn (he pins s σ H _ I h) fun v s1 ⟨x,H1,I1,r1,q1⟩=>?_)
 refine wpAny_Slice (thn (hl pins s1 σ H1 _ I1 q1) fun vl s2 ⟨l,H2,I2,pl,q2⟩=>thn (hu pins s2 σ H2 _ I2 q2) fun vu s3 ⟨u,H3,I3,pu,q3⟩=>?_)
 rw[evalPart_none]
 refine wpAny_pure ?_
 have I4:Inv X pins σ H3 { s3 with heap:=s3.heap.push { cls:=.type "slice",data:=.fields #[vl,vu,.none] } }:=I3.kept (t':=s3.toks) fun b ob q=>Heap.get?_push_of_some _ q
 obtain⟨T,id,hT,ht,hg⟩:=hr pins { s3 with heap:=s3.heap.push { cls:=.type "slice",data:=.fields #[vl,vu,.none] } } σ H3 x v vl vu l u s3.heap.objs.size Q I4 r1 (Heap.IsSliceOf.new ..) pl pu q3
 show wpAny (model X.prog X.w) X.A (subscriptTail e (.Slice lo hi none p2) v (.ref s3.heap.objs.size)) (EP X pins σ Q) X.xe { s3 with heap:=s3.heap.push { cls:=.type "slice",data:=.fields #[vl,vu,.none] } }
 exact tail_any (ops:=[.ref s3.heap.objs.size,v]) ht hT hg (by with_unfolding_all rfl)
def cutV (xs:List V) (lo hi:Option Int):List V:=(xs.drop (HT.sIx xs.length 0 lo)).take (HT.sIx xs.length xs.length hi - HT.sIx xs.length 0 lo)
theorem cutV_length (xs:List V) (lo hi:Option Int):(cutV xs lo hi).length≤xs.length:=by
 unfold cutV
 rw[List.length_take,List.length_drop]
 omega
def rSlT (K:PySem.W.Frag):V→Option Int→Option Int→Hp→VK→Prop:=fun x lo hi H Q=>∃a xs,x=.ref a∧SqT K H a xs ∧
 ¬(HT.sIx xs.length 0 lo=0∧HT.sIx xs.length xs.length hi=xs.length)∧∀p,H p=none→Q (.ref p) (upd H p (.tup (cutV xs lo hi)))
theorem sl_tup:SlR X (rSlT X.K):=by
 intro pins s σ H x v vl vu lo hi sl Q I rx hs pl pu h
 obtain⟨a,xs,rfl,hx,hw,q⟩:=h
 cases rx
 obtain⟨its,r,ht,hz⟩:=I.tuple hx
 have hlen:its.toArray.size=xs.length:=by rw[List.size_toArray];exact r.length.symm
 refine⟨"tuple",_,PyProof.Rows.slot_tuple_getitem.lookup,ht.typeIs,?_⟩
 refine HT.getItem_tuple_cut ht hs pl pu (by rw[hlen];exact hw) ?_ (by rw[hlen];exact hz)
 rw[hlen]
 refine⟨.ref s.heap.objs.size,_,I.laid (t':=s.toks) (o:=.tup (cutV xs lo hi)) (fun b ob q=>Heap.get?_push_of_some _ q) (Nat.le_refl _) ?_,rfl,q _ (I.hok.fresh (Nat.le_refl _))⟩
 exact⟨Nat.le_trans (cutV_length xs lo hi) hz,_,(r.drop (HT.sIx xs.length 0 lo)).take (HT.sIx xs.length xs.length hi - HT.sIx xs.length 0 lo),IsTup.new _ _⟩
end
end L2
namespace L2
open PySem PySem.Spec PyProof.Rows
def ixN (n:Nat) (i:Int):Option Nat:=if 0≤i then(if i<n then some i.toNat else none)else if -(n:Int)≤i then some (i+n).toNat else none
def atI {α:Type} (xs:List α) (i:Int):Option α:=(ixN xs.length i).bind fun j=>xs[j]?
theorem ixN_seq {n:Nat} {i:Int} {j:Nat} (h:ixN n i=some j):seqIndex? i n=some j∧j<n∧-(n:Int)≤i∧i<n:=by
 unfold ixN at h
 by_cases h0:0≤i
 ·rw[if_pos h0]at h
  by_cases h1:i<n
  ·rw[if_pos h1]at h
   have e:i.toNat=j:=Option.some.inj h
   exact⟨by rw[seqIndex_of h0 h1,e],by omega,by omega,h1⟩
  ·rw[if_neg h1]at h;cases h
 ·rw[if_neg h0]at h
  by_cases h1:-(n:Int)≤i
  ·rw[if_pos h1]at h
   have e:(i+n).toNat=j:=Option.some.inj h
   exact⟨by rw[seqIndex_neg (by omega) h1,e],by omega,h1,by omega⟩
  ·rw[if_neg h1]at h;cases h
theorem atI_get {α:Type} {xs:List α} {i:Int} {v:α} (h:atI xs i=some v):∃j,seqIndex? i xs.length=some j∧xs[j]? = some v∧j<xs.length∧-(xs.length:Int)≤i∧i<xs.length:=by
  unfold atI at h
  cases e:ixN xs.length i with
  | none=>rw[e]at h;cases h
  | some j =>
    rw[e]at h
    obtain⟨h1,h2,h3,h4⟩:=ixN_seq e
    exact⟨j,h1,h,h2,h3,h4⟩
theorem atI_nat {α:Type} {xs:List α} {j:Nat} {v:α} (h:xs[j]? = some v):atI xs (j:Int)=some v:=by
 have hj:j<xs.length:=(List.getElem?_eq_some_iff.mp h).1
 have e:ixN xs.length (j:Int)=some j:=by
  unfold ixN
  rw[if_pos (by omega),if_pos (by omega)];simp
 unfold atI;rw[e];exact h
theorem atI_last {α:Type} (xs:List α) (v:α):atI (xs++[v]) (-1)=some v:=by
 have hl:(xs++[v]).length=xs.length+1:=by simp
 have e:ixN (xs++[v]).length (-1)=some xs.length:=by
  unfold ixN
  rw[hl,if_neg (by decide),if_pos (by omega)]
  congr 1
  omega
 unfold atI
 rw[e]
 show(xs++[v])[xs.length]? = some v
 simp
def PlainIx (b:Expr):Prop:=∀o i,subscripted b false o i=operate [o,i] (getItem o i)
def IxR (X:Cx) (r:R2):Prop :=
  ∀ (value slice : Expr) (pins : List (Addr × Obj)) (s : Shared) (σ : St) (H : Hp) (x y : V) (v u : Value) (Q : VK), Inv X pins σ H s → RelV x v → RelV y u → r x y H Q →
    subscripted slice false v u=operate [v,u] (getItem v u)→wpAny (model X.prog X.w) X.A (subscriptTail value slice v u) (EP X pins σ Q) X.xe s
def MtR (X:Cx) (id:String) (r:V→List V→Hp→VK→Prop):Prop :=
  ∀ (pins : List (Addr × Obj)) (s : Shared) (σ : St) (H : Hp) (x : V) (xs : List V) (v : Value) (us : List Value) (Q : VK), Inv X pins σ H s → RelV x v → Vals xs us → r x xs H Q →
    wpAny (model X.prog X.w) X.A (call (.builtin id) (v::us)) (EP X pins σ Q) X.xe s
section
variable {X:Cx} {a b:Expr} {ta tb:TE} {pos:Pos}
theorem pe_ix {r:R2} (hr:IxR X r) (ha:PE X a ta) (hb:PE X b tb) (hs:PlainIx b):PE X (.Subscript a b pos) (tOp r ta tb):=by
 intro pins s σ H Q I h
 exact Subscript_ (binT ha hb I h fun v u s2 x y H2 I2 rx ry q=>hr a b pins s2 σ H2 x y v u Q I2 rx ry q (hs _ _))
def rIxL (K:PySem.W.Frag):R2:=fun x y H Q=>∃p xs i v,x=.ref p∧y=.int i∧SqL K H p xs∧atI xs i=some v∧Q v H
def rIxT (K:PySem.W.Frag):R2:=fun x y H Q=>∃p xs i v,x=.ref p∧y=.int i∧SqT K H p xs∧atI xs i=some v∧Q v H
theorem ix_list:IxR X (rIxL X.K):=by
 intro value slice pins s σ H x y v u Q I rx ry h hs
 obtain⟨p,xs,i,z,rfl,rfl,hq,he,q⟩:=h
 cases rx
 obtain⟨t,rfl⟩:=ry
 obtain⟨its,r,pl,hz⟩:=I.list hq
 obtain⟨j,h1,h2,h3,h4,h5⟩:=atI_get he
 obtain⟨w,ew,rw'⟩:=r.get h2
 have hl:=r.length
 have hn:=line63
 have fin:EP X pins σ Q w s:=⟨z,H,I,rw',q⟩
 by_cases h0:0≤i
 ·have hj:i.toNat=j:=by
   rw[seqIndex_of h0 h5]at h1
   exact Option.some.inj h1
  exact item_listR pl.isList h0 (by omega) (by rw[hj];simpa using ew) fin hs
 ·have hj:(i+(its.toArray.size:Int)).toNat=j:=by
   rw[seqIndex_neg (by omega) h4]at h1
   rw[List.size_toArray,←hl]
   exact Option.some.inj h1
  exact subscriptTail_builtinR (x:=w) pl.isList.typeIs slot_list_getitem.lookup
   (wpAny_getItem_list_neg (Q:=fun r s'=>r=w∧EP X pins σ Q r s') pl.isList (by omega) (by rw[List.size_toArray]<;>omega) (by omega) (by rw[hj];simpa using ew) ⟨rfl,fin⟩) hs
theorem ix_tup:IxR X (rIxT X.K):=by
 intro value slice pins s σ H x y v u Q I rx ry h hs
 obtain⟨p,xs,i,z,rfl,rfl,hq,he,q⟩:=h
 cases rx
 obtain⟨t,rfl⟩:=ry
 obtain⟨its,r,pl,hz⟩:=I.tuple hq
 obtain⟨j,h1,h2,h3,h4,h5⟩:=atI_get he
 obtain⟨w,ew,rw'⟩:=r.get h2
 have hl:=r.length
 have hn:=line63
 have fin:EP X pins σ Q w s:=⟨z,H,I,rw',q⟩
 exact subscriptTail_builtinR (x:=w) pl.typeIs slot_tuple_getitem.lookup
  (getItem_tuple (j:=j) (Q:=fun r s'=>r=w∧EP X pins σ Q r s') pl (by omega) (by omega) (by rw[List.size_toArray,←hl];exact h1) (by simpa using ew) ⟨rfl,fin⟩) hs
theorem mapSeq_set (its:List Value) (n j:Nat) (u:Value):Obj.mapSeq (·.setIfInBounds j u) { cls:=.type "list",data:=.seq its.toArray n }={ cls:=.type "list",data:=.seq (its.set j u).toArray n }:=by
 simp[Obj.mapSeq]
theorem Inv.lst {pins:List (Addr×Obj)} {σ:St} {H:Hp} {s:Shared} {p:Addr} {xs:List V} (I:Inv X pins σ H s) (h:H p=some (.lst xs)) :
  ∃(its:List Value) (n:Nat),Vals xs its∧s.heap.get? p=some { cls:=.type "list",data:=.seq its.toArray n }∧xs.length≤sizeLine:=by
 obtain⟨z,its,n,r,e⟩:=I.hok p _ h
 exact⟨its,n,r,e,z⟩
theorem Inv.lstUpd {pins:List (Addr×Obj)} {σ:St} {H:Hp} {s:Shared} {p:Addr} {xs ys:List V} {its its':List Value} {n n':Nat} {f:Obj→Obj} (I:Inv X pins σ H s) (h:H p=some (.lst xs))
  (ho:s.heap.get? p=some { cls:=.type "list",data:=.seq its.toArray n }) (hf:f { cls:=.type "list",data:=.seq its.toArray n }={ cls:=.type "list",data:=.seq its'.toArray n' }) (r:Vals ys its') (hz:ys.length≤sizeLine) (t:Nat) :
  Inv X pins σ (upd H p (.lst ys)) { s with heap:=s.heap.update p f,toks:=t }:=by
 have e:(s.heap.update p f).get? p=some { cls:=.type "list",data:=.seq its'.toArray n' }:=by
  rw[Heap.get?_update_self f ho (by rw[hf]<;>rfl),hf]
 refine I.write (x:=p) (e:=p) (by rw[h];trivial) (.inl rfl) (fun b u hb q=>(Heap.get?_update_other _ _ (Ne.symm hb)).trans q) ⟨_,e⟩ ?_
 exact⟨hz,its',n',r,e⟩
def rSetL:V→V→V→Hp→(Hp→Prop)→Prop:=fun o i v H Q=>∃p xs k j,o=.ref p∧i=.int k∧H p=some (.lst xs)∧ixN xs.length k=some j∧Q (upd H p (.lst (xs.set j v)))
theorem set_list:PSet X rSetL:=by
 intro pins s σ H o i v ov iv u Q I ro ri rv h
 obtain⟨p,xs,k,j,rfl,rfl,hp,hj,q⟩:=h
 cases ro
 obtain⟨t,rfl⟩:=ri
 obtain⟨its,n,r,ho,hz⟩:=I.lst hp
 obtain⟨h1,h2,h3,h4⟩:=ixN_seq hj
 have hl:=r.length
 have hn:=line63
 have I':Inv X pins σ (upd H p (.lst (xs.set j v))) { s with heap:=s.heap.update p (Obj.mapSeq (·.setIfInBounds j u)) } :=
  I.lstUpd hp ho (mapSeq_set its n j u) (r.set rv j) (by rw[List.length_set];exact hz) s.toks
 by_cases h0:0≤k
 ·have hk:k.toNat=j:=by
   rw[seqIndex_of h0 h4]at h1
   exact Option.some.inj h1
  exact PySem.W.ki_setAt ho h0 (by omega) (by rw[List.size_toArray,←hl];exact h4) (by rw[hk];exact⟨_,I',q⟩)
 ·have hk:(k+(its.toArray.size:Int)).toNat=j:=by
   rw[seqIndex_neg (by omega) h3]at h1
   rw[List.size_toArray,←hl]
   exact Option.some.inj h1
  exact PySem.W.ki_setBack ho (by omega) (by rw[List.size_toArray,←hl];exact h3) (by omega) (by rw[hk];exact⟨_,I',q⟩)
theorem slice_bounds (lo hi:Option Int) (n:Nat):(sliceBounds lo hi none n).1=((HT.sIx n 0 lo:Nat):Int)∧(sliceBounds lo hi none n).2.1=((HT.sIx n n hi:Nat):Int)∧(sliceBounds lo hi none n).2.2=1:=by
  refine⟨?_,?_,rfl⟩
  · cases lo with
    | none=>simp[sliceBounds,HT.sIx]
    | some i =>
      simp only[sliceBounds,HT.sIx,Option.getD_none,show(1:Int) > 0 by decide,if_true]
      by_cases h:i<0
      · simp only[h,if_true]<;>omega
      · simp only[h,if_false]<;>omega
  · cases hi with
    | none=>simp[sliceBounds,HT.sIx]
    | some i =>
      simp only[sliceBounds,HT.sIx,Option.getD_none,show(1:Int) > 0 by decide,if_true]
      by_cases h:i<0
      · simp only[h,if_true]<;>omega
      · simp only[h,if_false]<;>omega
theorem slicePick_cut (its:List Value) (lo hi:Option Int):slicePick its.toArray lo hi none=((its.drop (HT.sIx its.length 0 lo)).take (HT.sIx its.length its.length hi - HT.sIx its.length 0 lo)).toArray:=by
 obtain⟨h1,h2,h3⟩:=slice_bounds lo hi its.toArray.size
 unfold slicePick
 rw[h1,h2,h3]
 simp only[sliceRange_one,pick_run,List.size_toArray]<;>rfl
def rSlL (K:PySem.W.Frag):V→Option Int→Option Int→Hp→VK→Prop:=fun x lo hi H Q=>∃a xs,x=.ref a∧SqL K H a xs∧∀p,H p=none→Q (.ref p) (upd H p (.lst (cutV xs lo hi)))
theorem sl_list:SlR X (rSlL X.K):=by
 intro pins s σ H x v vl vu lo hi sl Q I rx hs pl pu h
 obtain⟨a,xs,rfl,hx,q⟩:=h
 cases rx
 obtain⟨its,r,ht,hz⟩:=I.list hx
 have hlen:=r.length
 refine⟨"list",_,slot_list_getitem.lookup,ht.isList.typeIs,?_⟩
 refine wpAny_getItem_list_slice ht.isList hs pl pu .none (by simp) ?_ (by rw[List.size_toArray]<;>omega)
 rw[slicePick_cut,←hlen]
 refine⟨.ref s.heap.objs.size,_,I.laid (t':=s.toks) (o:=.lst (cutV xs lo hi)) (fun b ob q=>Heap.get?_push_of_some _ q) (Nat.le_refl _) ?_,rfl,q _ (I.hok.fresh (Nat.le_refl _))⟩
 exact⟨Nat.le_trans (cutV_length xs lo hi) hz,_,0,(r.drop (HT.sIx xs.length 0 lo)).take (HT.sIx xs.length xs.length hi - HT.sIx xs.length 0 lo),Heap.get?_push_size _ rfl⟩
def flatV:V→Bool
 | .non=>true
 | .bl _=>true
 | .int _=>true
 | .str _=>true
 | _=>false
def eqV:V→V→Bool
 | .non,.non=>true
 | .bl a,.bl b=>a==b
 | .bl a,.int b=>(if a then 1 else 0)==b
 | .int a,.bl b=>a==(if b then 1 else 0)
 | .int a,.int b=>a==b
 | .str a,.str b=>a==b
 | _,_=>false
theorem eqAt_V {A:Around} {s:Shared} {y x:V} {u v:Value} (ry:RelV y u) (rx:RelV x v) (fy:flatV y=true) (fx:flatV x=true):SeqAt.EqAt A s u v (eqV y x):=by
  cases y with
  | non =>
    cases ry
    cases x with
    | non=>cases rx;exact SeqAt.EqAt.same _
    | bl b=>cases rx;exact SeqAt.EqAt.none_bool b
    | int b=>obtain⟨t,rfl⟩:=rx;exact SeqAt.EqAt.none_int b t
    | str b=>obtain⟨t,rfl⟩:=rx;exact SeqAt.EqAt.none_str b t
    | _=>exact absurd (show false=true from fx) Bool.false_ne_true
  | bl a =>
    cases ry
    cases x with
    | non=>cases rx;exact SeqAt.EqAt.bool_none a
    | bl b=>cases rx;exact SeqAt.EqAt.bool_bool a b
    | int b=>obtain⟨t,rfl⟩:=rx;exact SeqAt.EqAt.bool_int a b t
    | str b=>obtain⟨t,rfl⟩:=rx;exact SeqAt.EqAt.bool_str a b t
    | _=>exact absurd (show false=true from fx) Bool.false_ne_true
  | int a =>
    obtain⟨t',rfl⟩:=ry
    cases x with
    | non=>cases rx;exact SeqAt.EqAt.int_none a t'
    | bl b=>cases rx;exact SeqAt.EqAt.int_bool a t' b
    | int b=>obtain⟨t,rfl⟩:=rx;exact SeqAt.EqAt.int_int a t' b t
    | str b=>obtain⟨t,rfl⟩:=rx;exact SeqAt.EqAt.int_str a t' b t
    | _=>exact absurd (show false=true from fx) Bool.false_ne_true
  | str a =>
    obtain⟨t',rfl⟩:=ry
    cases x with
    | non=>cases rx;exact SeqAt.EqAt.str_none a t'
    | bl b=>cases rx;exact SeqAt.EqAt.str_bool a t' b
    | int b=>obtain⟨t,rfl⟩:=rx;exact SeqAt.EqAt.str_int a t' b t
    | str b=>obtain⟨t,rfl⟩:=rx;exact SeqAt.EqAt.str_str a t' b t
    | _=>exact absurd (show false=true from fx) Bool.false_ne_true
  | _=>exact absurd (show false=true from fy) Bool.false_ne_true
def eqU (x:V) (u:Value):Bool:=match u with
 | .none=>eqV .non x
 | .bool b=>eqV (.bl b) x
 | .int i _=>eqV (.int i) x
 | .str z _=>eqV (.str z) x
 | _=>false
theorem eqU_of {x y:V} {u:Value} (r:RelV y u) (f:flatV y=true):eqU x u=eqV y x:=by
 cases y with
 | non=>cases r;rfl
 | bl b=>cases r;rfl
 | int i=>obtain⟨t,rfl⟩:=r;rfl
 | str z=>obtain⟨t,rfl⟩:=r;rfl
 | _=>exact absurd (show false=true from f) Bool.false_ne_true
theorem any_eqU {x:V}:∀{xs:List V} {us:List Value},Vals xs us→xs.all flatV=true→us.any (eqU x)=xs.any fun y=>eqV y x
  | _,_,.nil,_=>rfl
  | y::xs,u::us,.cons r t,f=>by
    rw[List.all_cons,Bool.and_eq_true]at f
    rw[List.any_cons,List.any_cons,eqU_of r f.1,any_eqU t f.2]
theorem mem_eqAt {A:Around} {s:Shared} {x:V} {v:Value} (rx:RelV x v) (fx:flatV x=true):∀{xs:List V} {us:List Value},Vals xs us→xs.all flatV=true→∀u∈us,SeqAt.EqAt A s u v (eqU x u)
  | _,_,.nil,_=>fun u hu=>by cases hu
  | y::xs,u::us,.cons r t,f=>fun u' hu=>by
    rw[List.all_cons,Bool.and_eq_true]at f
    rcases List.mem_cons.mp hu with rfl|hu
    · rw[eqU_of r f.1];exact eqAt_V r rx f.1 fx
    · exact mem_eqAt rx fx t f.2 u' hu
def inV (x:V) (xs:List V):Bool:=xs.any fun y=>eqV y x
def rIn (K:PySem.W.Frag) (neg:Bool):R2:=fun x y H Q=>∃p xs,y=.ref p∧(SqL K H p xs∨SqT K H p xs)∧flatV x=true∧xs.all flatV=true∧Q (.bl (if neg then !inV x xs else inV x xs)) H
theorem op_notIn_seq:OpR X (compareOp .NotIn) (rIn X.K true):=by
 intro pins s σ H x y v u Q I rx ry h
 obtain⟨p,xs,rfl,hq,fx,fs,q⟩:=h
 cases ry
 rcases hq with hq|hq
 ·obtain⟨its,r,pl,hz⟩:=I.list hq
  refine SeqAt.notIn_listAt (eqU x) pl.isList (fun w hw=>mem_eqAt rx fx r fs w (by simpa using hw)) ⟨.bl _,H,I,rfl,?_⟩
  rw[show its.toArray.any (eqU x)=its.any (eqU x) by simp,any_eqU r fs]
  exact q
 ·obtain⟨its,r,pl,hz⟩:=I.tuple hq
  refine SeqAt.notIn_tupleAt (eqU x) pl (fun w hw=>mem_eqAt rx fx r fs w (by simpa using hw)) ⟨.bl _,H,I,rfl,?_⟩
  rw[show its.toArray.any (eqU x)=its.any (eqU x) by simp,any_eqU r fs]
  exact q
theorem call_len_seq:CallR X (.builtin "len") (fun xs H Q=>∃p ys,xs=[.ref p]∧(SqL X.K H p ys∨SqT X.K H p ys)∧Q (.int ys.length) H):=by
 intro pins s σ H xs us Q I r h
 obtain⟨p,ys,rfl,hq,q⟩:=h
 obtain⟨u,rfl,rx⟩:=vals1 r
 cases rx
 have hn:=line63
 rcases hq with hq|hq
 ·obtain⟨its,r',pl,hz⟩:=I.list hq
  have hlen:=r'.length
  exact Calls.call_len_list pl.isList (by simp only[List.size_toArray]<;>omega) ⟨.int ys.length,H,I.tok _,⟨s.toks+1,by rw[List.size_toArray,hlen]⟩,q⟩
 ·obtain⟨its,r',pl,hz⟩:=I.tuple hq
  have hlen:=r'.length
  exact len_tuple pl (by simp only[List.size_toArray]<;>omega) ⟨.int ys.length,H,I.tok _,⟨s.toks+1,by rw[List.size_toArray,hlen]⟩,q⟩
theorem call_list_of:CallR X (.type "list") (fun xs H Q=>∃p ys,xs=[.ref p]∧(SqL X.K H p ys∨SqT X.K H p ys)∧∀l,H l=none→Q (.ref l) (upd H l (.lst ys))):=by
 intro pins s σ H xs us Q I r h
 obtain⟨p,ys,rfl,hq,q⟩:=h
 obtain⟨u,rfl,rx⟩:=vals1 r
 cases rx
 have fin:∀(its:List Value),Vals ys its→ys.length≤sizeLine→∀(h':Heap) (c':Nat),(∀b o',s.heap.get? b=some o'→h'.get? b=some o') →
   h'.get? s.heap.objs.size=some { cls:=.type "list",dict:=none,data:=.seq its.toArray c',slots:=#[] }→EP X pins σ Q (.ref s.heap.objs.size) { s with heap:=h' }:=fun its r' hz h' c' kp e =>
  ⟨.ref s.heap.objs.size,_,I.laid (t':=s.toks) kp (Nat.le_refl _) (show ObjOk X.prog X.w _ h' _ (.lst ys) from⟨hz,its,c',r',e⟩),rfl,q _ (I.hok.fresh (Nat.le_refl _))⟩
 rcases hq with hq|hq
 ·obtain⟨its,r',pl,hz⟩:=I.list hq
  have hlen:=r'.length
  obtain⟨o,ho,hc,n,hd⟩:=pl.isList
  exact call_list_seq p (.inl rfl) ho hc hd (fun h' c' kp e=>fin its r' hz h' c' kp e) (by simp only[List.size_toArray]<;>omega)
 ·obtain⟨its,r',pl,hz⟩:=I.tuple hq
  have hlen:=r'.length
  obtain⟨o,ho,hc,n,hd⟩:=pl
  exact call_list_seq p (.inr rfl) ho hc hd (fun h' c' kp e=>fin its r' hz h' c' kp e) (by simp only[List.size_toArray]<;>omega)
def tyV (K:PySem.W.Frag) (T:String) (x:V) (H:Hp):Prop:=match x with
 | .str _=>T = "str"
 | .int _=>T = "int"
 | .ref p=>(T = "list" ∧ ∃xs,SqL K H p xs)∨(T = "tuple" ∧ ∃o,K.lookup p=some o∧o.cls=.type "tuple" ∧ o.dict=none) ∨
   (T = "dict" ∧ ((∃kvs,H p=some (.dK kvs))∨∃kvs,H p=some (.dT kvs)))∨(T = "set" ∧ ∃S n,H p=some (.set S n))
 | _=>False
theorem tyV_is {pins:List (Addr×Obj)} {σ:St} {H:Hp} {s:Shared} {T:String} {x:V} {v:Value} (I:Inv X pins σ H s) (r:RelV x v) (ty:tyV X.K T x H) :
    s.TypeIs v T∧∀a,v=.ref a→∃ob,s.heap.get? a=some ob∧ob.dict=none:=by
  cases x with
  | str z =>
    obtain⟨t,rfl⟩:=r
    cases (show T = "str" from ty)
    exact⟨typeIs_str s z t,fun _ e=>nomatch e⟩
  | int i =>
    obtain⟨t,rfl⟩:=r
    cases (show T = "int" from ty)
    exact⟨typeIs_int s i t,fun _ e=>nomatch e⟩
  | ref p =>
    cases r
    rcases ty with⟨rfl,xs,hq⟩|⟨rfl,o,hk,hc,hd⟩|⟨rfl,hk⟩|⟨rfl,S,n,hk⟩
    · obtain⟨its,_,pl,_⟩:=I.list hq
      refine⟨pl.isList.typeIs,fun a e=>?_⟩
      cases e
      obtain⟨o,n,e,c,hd,_⟩:=pl
      exact⟨o,e,hd⟩
    · refine⟨⟨o,I.kIn p o hk,hc⟩,fun a e=>?_⟩
      cases e
      exact⟨o,I.kIn _ o hk,hd⟩
    · have z:∃o,s.heap.get? p=some o∧o.ExactDict:=by
        rcases hk with⟨kvs,hk⟩|⟨kvs,hk⟩
        · obtain⟨_,_,_,_,o,_,_,e,ex,_⟩:=I.hok p _ hk
          exact⟨o,e,ex⟩
        · obtain⟨_,_,_,_,o,_,_,e,ex,_⟩:=I.hok p _ hk
          exact⟨o,e,ex⟩
      obtain⟨o,e,ex⟩:=z
      refine⟨⟨o,e,ex.1⟩,fun a e2=>?_⟩
      cases e2
      exact⟨o,e,ex.2.1⟩
    · obtain⟨o,_,_,_,e,ex,_⟩:=I.hok p _ hk
      refine⟨⟨o,e,ex.1⟩,fun a e2=>?_⟩
      cases e2
      exact⟨o,e,ex.2.1⟩
  | _=>exact False.elim ty
def tBM (K:PySem.W.Frag) (T:String) (r:V→List V→Hp→VK→Prop) (to:TE) (t:TA):TE:=fun σ H Q=>to σ H fun x H1=>tyV K T x H1∧t σ H1 fun xs H2=>r x xs H2 Q
variable {o e:Expr} {es:List Expr} {to:TE} {t:TA} {name:Str} {apos cpos:Pos} {T id:String} {r:V→List V→Hp→VK→Prop}
theorem pe_bm (pa:PlainAttrs T) (slot:Slot T name id) (hty:typeOf (.builtin id)=pure (.type "method_descriptor")) (hm:MtR X id r) (ho:PE X o to) (ha:PA X (e::es) t)
  (hbase:attributeBase o name X.env (eval o X.env)=eval o X.env:=by rfl)
  (hfew:((backTo cpos (starEach (e::es) X.env)).all (fun x=>!x.1)&&(backToKw cpos (keywordEach [] X.env)).all (fun x=>x.1.isSome)
   && decide ((e::es).length+([]:List Keyword).length+(if([]:List Keyword).isEmpty then 0 else 1)<30))=true:=by rfl)
  (hline:(apos.endLine==cpos.line)=true:=by rfl) (hs:starEach (e::es) X.env=(false,eval e X.env)::starEach es X.env:=by rfl) (hplain:(backTo cpos (starEach es X.env)).any (·.1)=false:=by rfl) :
  PE X (.Call (.Attribute o name apos) (e::es) [] cpos) (tBM X.K T r to t):=by
 intro pins s σ H Q I h
 refine wpAny_Call_method_late hbase hfew hline rfl (thn (ho pins s σ H _ I h) fun v s1 ⟨x,H1,I1,r1,ty,q1⟩=>?_)
 obtain⟨h1,h2⟩:=tyV_is I1 r1 ty
 refine⟨T,id,pa,slot,hty,h1,h2,?_⟩
 have hA:=ha cpos pins s1 σ H1 _ I1 q1
 rw[hs]at hA ⊢
 refine Calls.callWith_builtin (by show(false||(backTo cpos (starEach es X.env)).any (·.1))=false;rw[hplain]<;>rfl) (Calls.evalArgs_plain ?_)
 exact thn hA fun us s2 ⟨vs,H2,I2,r2,q2⟩=>hm pins s2 σ H2 x vs v us Q I2 r1 r2 q2
end
end L2
namespace L2
open PySem PySem.Spec PyProof.Rows
def MtM (X:Cx) (id:String) (r:V→List V→Hp→VK→Prop):Prop :=
  ∀ (pins : List (Addr × Obj)) (s : Shared) (σ : St) (H : Hp) (x : V) (xs : List V) (v : Value) (us : List Value) (Q : VK), Inv X pins σ H s → RelV x v → Vals xs us → r x xs H Q →
    wpAny (model X.prog X.w) X.A (call (.builtin id) (v::us)) (EP X pins σ Q) X.xe s
theorem Vals.one:∀{x:V} {us:List Value},Vals [x] us→∃u,us=[u]∧RelV x u
 | _,_,.cons r .nil=>⟨_,rfl,r⟩
theorem Vals.rep {xs:List V} {us:List Value} (h:Vals xs us):∀k:Nat,Vals (List.replicate k xs).flatten (List.replicate k us).flatten
  | 0=>.nil
  | k+1=>by
    rw[List.replicate_succ,List.replicate_succ,List.flatten_cons,List.flatten_cons]
    exact Vals.append h (Vals.rep h k)
theorem foldl_rep (its:List Value):∀(k:Nat) (acc:List Value),
    List.foldl (fun x1 x2=>x1++x2) acc.toArray (List.replicate k its.toArray)=(acc++(List.replicate k its).flatten).toArray
  | 0,acc=>by simp
  | k + 1, acc => by
    have e:acc.toArray++its.toArray=(acc++its).toArray:=by simp
    have e2:(acc++its)++(List.replicate k its).flatten=acc++(List.replicate (k+1) its).flatten:=by
      rw[List.replicate_succ,List.flatten_cons,List.append_assoc]
    rw[←e2,←foldl_rep its k (acc++its),←e,List.replicate_succ,List.foldl_cons]
section
variable {X:Cx} {pins:List (Addr×Obj)} {σ:St} {H:Hp} {s:Shared} {l b:Addr} {xs ys zs:List V}
theorem Inv.lset {its its':List Value} {n:Nat} {f:Array Value→Array Value} {t':Nat} (I:Inv X pins σ H s) (hH:H l=some (.lst xs))
  (e:s.heap.get? l=some { cls:=.type "list",data:=.seq its.toArray n }) (hf:f its.toArray=its'.toArray) (hv:Vals ys its') (hz:ys.length≤sizeLine) :
  Inv X pins σ (upd H l (.lst ys)) { s with heap:=s.heap.update l (Obj.mapSeq f),toks:=t' }:=by
 have q:=PySem.IsL.update e f
 rw[hf]at q
 refine I.write (x:=l) (e:=l) (by rw[hH];exact trivial) (.inl rfl) (fun b' u hb hu=>(Heap.get?_update_other s.heap (Obj.mapSeq f) (Ne.symm hb)).trans hu) ⟨_,q⟩ ?_
 exact⟨hz,its',_,hv,q⟩
theorem Inv.lnew {its:List Value} {t':Nat} (I:Inv X pins σ H s) (hv:Vals ys its) (hz:ys.length≤sizeLine) :
  Inv X pins σ (upd H s.heap.objs.size (.lst ys)) { s with heap:=s.heap.push { cls:=.type "list",data:=.seq its.toArray },toks:=t' } :=
 I.laid (fun _ _ q=>Heap.get?_push_of_some _ q) (Nat.le_refl _) ⟨hz,its,0,hv,Heap.get?_push_size _ rfl⟩
theorem Inv.fresh (I:Inv X pins σ H s):H s.heap.objs.size=none:=I.hok.fresh (Nat.le_refl _)
theorem Inv.lstM (I:Inv X pins σ H s) (hH:H l=some (.lst xs)):xs.length≤sizeLine∧∃(its:List Value) (n:Nat),Vals xs its∧xs.length=its.length∧s.heap.get? l=some { cls:=.type "list",data:=.seq its.toArray n }:=by
 obtain⟨z,its,n,r,e⟩:=I.hok l _ hH
 exact⟨z,its,n,r,r.length,e⟩
theorem notLongL {n:Nat} (h:n≤sizeLine):Builtin.List.listTooLong n=false:=by
 unfold Builtin.List.listTooLong
 exact decide_eq_false (by omega)
end
section
variable {X:Cx}
def rAppend:V→List V→Hp→VK→Prop:=fun x vs H Q=>∃l xs y,x=.ref l∧vs=[y]∧H l=some (.lst xs)∧xs.length<sizeLine∧Q .non (upd H l (.lst (xs++[y])))
theorem mt_append:MtM X "list.append" rAppend:=by
 intro pins s σ H x vs v us Q I rx rv h
 obtain⟨l,xs,y,rfl,rfl,hH,hz,q⟩:=h
 cases rx
 obtain⟨u,rfl,ru⟩:=rv.one
 obtain⟨z,its,n,r,hl,e⟩:=I.lstM hH
 refine call_meets F.slot_list_append ⟨_,e,rfl⟩ F.entry_list_append (F.args_list_append_2 _ _) (PySem.list_append l its.toArray n u (by rw[List.size_toArray];omega)) ⟨e,?_⟩
 refine⟨.non,_,I.lset (its':=its++[u]) hH e (by simp) (r.append (.cons ru .nil)) ?_,rfl,q⟩
 rw[List.length_append,List.length_singleton]
 omega
def rExtend:V→List V→Hp→VK→Prop:=fun x vs H Q=>∃l b xs zs,x=.ref l∧vs=[.ref b]∧H l=some (.lst xs)∧H b=some (.lst zs)∧xs.length+zs.length≤sizeLine∧Q .non (upd H l (.lst (xs++zs)))
theorem mt_extend:MtM X "list.extend" rExtend:=by
 intro pins s σ H x vs v us Q I rx rv h
 obtain⟨l,b,xs,zs,rfl,rfl,hH,hB,hz,q⟩:=h
 cases rx
 obtain⟨u,rfl,ru⟩:=rv.one
 cases ru
 obtain⟨z,its,n,r,hl,e⟩:=I.lstM hH
 obtain⟨z2,its2,n2,r2,hl2,e2⟩:=I.lstM hB
 have hsz:its.toArray.size+its2.toArray.size≤sizeLine:=by rw[List.size_toArray,List.size_toArray];omega
 have hlong:¬(!its.toArray.isEmpty&&Builtin.List.listTooLong (its.toArray.size+its2.toArray.size))=true:=by
  rw[notLongL hsz,Bool.and_false]
  exact Bool.false_ne_true
 refine call_meets F.slot_list_extend ⟨_,e,rfl⟩ F.entry_list_extend (F.args_list_extend_2 _ _)
  (AutoSeq1.list_extend_list_list_0 l its.toArray n b its2.toArray n2 hlong (by rw[List.size_toArray];omega) (by omega)) ⟨e,e2,?_⟩
 refine⟨.non,_,I.lset (its':=its++its2) hH e (by simp) (r.append r2) ?_,rfl,q⟩
 rw[List.length_append]
 omega
def rCat:R2:=fun x y H Q=>∃l b xs zs,x=.ref l∧y=.ref b∧H l=some (.lst xs)∧H b=some (.lst zs)∧xs.length+zs.length≤sizeLine∧∀p,H p=none→Q (.ref p) (upd H p (.lst (xs++zs)))
theorem op_cat:OpR X (binaryOp .Add) rCat:=by
 intro pins s σ H x y v u Q I rx ry h
 obtain⟨l,b,xs,zs,rfl,rfl,hH,hB,hz,q⟩:=h
 cases rx
 cases ry
 obtain⟨z,its,n,r,hl,e⟩:=I.lstM hH
 obtain⟨z2,its2,n2,r2,hl2,e2⟩:=I.lstM hB
 refine PySem.P.add_list e e2 ?_ (by rw[List.size_toArray,List.size_toArray];omega)
 have ea:its.toArray++its2.toArray=(its++its2).toArray:=by simp
 rw[ea]
 exact⟨.ref _,_,I.lnew (t':=s.toks) (r.append r2) (by rw[List.length_append];omega),rfl,q _ I.fresh⟩
def rRep:R2:=fun x y H Q=>∃l k xs,x=.ref l∧y=.int k∧H l=some (.lst xs)∧-(2 ^ 63)≤k∧k<2 ^ 63∧xs.length * k.toNat≤sizeLine ∧
 ∀p,H p=none→Q (.ref p) (upd H p (.lst (List.replicate k.toNat xs).flatten))
theorem len_rep {α:Type} (xs:List α) (k:Nat):(List.replicate k xs).flatten.length=k * xs.length:=by
 induction k with
 | zero=>simp
 | succ k ih=>rw[List.replicate_succ,List.flatten_cons,List.length_append,ih,Nat.succ_mul,Nat.add_comm]
theorem op_rep:OpR X (binaryOp .Mult) rRep:=by
 intro pins s σ H x y v u Q I rx ry h
 obtain⟨l,k,xs,rfl,rfl,hH,h1,h2,hz,q⟩:=h
 cases rx
 obtain⟨t,rfl⟩:=ry
 obtain⟨z,its,n,r,hl,e⟩:=I.lstM hH
 have hlen:its.toArray.size * k.toNat≤sizeLine:=by rw[List.size_toArray,←hl];exact hz
 have hcap:¬its.toArray.size * k.toNat > (2 ^ 63 - 1) / 8:=by
  have:(sizeLine:Nat)≤(2 ^ 63 - 1) / 8:=by decide
  omega
 have hfit:¬(!Builtin.List.listFitsIndex k)=true:=by
  rw[fitsIndex_both h1 h2]
  exact Bool.false_ne_true
 have hlong:¬Builtin.List.listTooLong (its.toArray.size * k.toNat)=true:=by
  rw[notLongL hlen]
  exact Bool.false_ne_true
 have hnew:List.foldl (fun x1 x2=>x1++x2) #[] (List.replicate (if its.toArray.isEmpty=true then 0 else k.toNat) its.toArray)=(List.replicate k.toNat its).flatten.toArray:=by
  have f0:∀m:Nat,List.foldl (fun x1 x2=>x1++x2) #[] (List.replicate m its.toArray)=(List.replicate m its).flatten.toArray:=fun m=>by
   have:=foldl_rep its m []
   rw[List.nil_append]at this
   exact this
  rw[f0]
  cases its with
  | nil=>simp
  | cons a r'=>rw[if_neg (by simp)]
 refine wpAny_binaryOp_repeat_ref (T := "list") (U := "int") (by decide) ⟨_,e,rfl⟩ (fun s'=>typeIs_int s' k t) noFill_list_mul F.fills_int_mul F.slot_int_rmul repeat_list F.slot_int_index.lookup
  (call_meets F.slot_int_rmul (typeIs_int s k t) F.entry_int_rmul (F.args_int_rmul_2 _ _) (int___rmul___int_list k t l its.toArray n)
   ⟨e,rfl,⟨_,e,rfl⟩,call_meets F.slot_list_mul ⟨_,e,rfl⟩ F.entry_list_mul (F.args_list_mul_2 _ _) (AutoListH.list___mul___list_int_3 l its.toArray n k t hfit hcap hlong) ⟨e,?_⟩⟩)
 rw[hnew]
 exact⟨.ref _,_,I.lnew (t':=s.toks) (r.rep k.toNat) (by rw[len_rep,Nat.mul_comm];exact hz),rfl,q _ I.fresh⟩
end
end L2
namespace L2
open PySem PySem.Spec PyProof.Rows
theorem Vals.ints:∀{ns:List Int} {us:List Value},Vals (ns.map V.int) us→IntsAre us ns
  | [],us,h=>by
    rw[List.map_nil]at h
    cases h
    exact IntsAre.nil
  | n :: ns, us, h => by
    rw[List.map_cons]at h
    cases h with
    | cons r t =>
      obtain⟨k,rfl⟩:=r
      exact IntsAre.cons n k (Vals.ints t)
theorem vals_of_ints:∀{us:List Value} {ns:List Int},IntsAre us ns→Vals (ns.map V.int) us
 | _,_,.nil=>by rw[List.map_nil];exact Paired.nil
 | _,_,.cons n t h=>by rw[List.map_cons];exact Paired.cons (show RelV (V.int n) (Value.int n t) from⟨t,rfl⟩) (vals_of_ints h)
theorem Vals.bls:∀{bs:List Bool} {us:List Value},Vals (bs.map V.bl) us→us=bs.map Value.bool
  | [],us,h=>by
    rw[List.map_nil]at h
    cases h
    rfl
  | b :: bs, us, h => by
    rw[List.map_cons]at h
    cases h with
    | cons r t =>
      cases r
      rw[Vals.bls t,List.map_cons]
theorem Vals.ref1 {a:Addr} {us:List Value} (r:Vals [V.ref a] us):us=[Value.ref a]:=by
  cases r with
  | cons r t =>
    cases t
    cases r
    rfl
section
variable {prog:Program} {w:World} {A:Around} {E:Value→Shared→Prop} {s:Shared} {l:Addr} {its:List Value} {ns:List Int} {Q:Value→Shared→Prop}
theorem max_raw (hh:A.handled=none) (hl:s.heap.IsList l its.toArray) (hi:IntsAre its ns) (hne:0<ns.length)
  (h:∀h' tk M t',(∀b o,s.heap.get? b=some o→h'.get? b=some o)→M∈ns→(∀a,a∈ns→a≤M)→Q (.int M t') { s with heap:=h',toks:=tk }):wpAny (model prog w) A (call (.builtin "max") [.ref l]) Q E s:=by
 obtain⟨xs,e⟩:=hi.allInts.items
 have hn:numsOf (intItems xs).toList=ns:=by rw[←e];exact hi.numsOf
 rw[nums_intItems]at hn
 subst hn
 rw[e]at hl
 have hsz:0<xs.size:=by simpa using hne
 refine PySem.max_intList hh hl hsz fun v h' tk hv hk=>?_
 obtain⟨t,rfl⟩:=intItems_at hv
 obtain⟨h1,h2⟩:=argBest_gt (numAt xs) (xs.size - 1)
 refine h h' tk _ t hk ?_ fun a ha=>?_
 ·rw[numAt_eq];exact PySem.getD_mem (by rw[List.length_map,Array.length_toList];omega)
 ·obtain⟨j,hj,rfl⟩:=mem_getD ha
  rw[List.length_map,Array.length_toList]at hj
  rw[←numAt_eq];exact h2 j (by omega)
end
section
variable {X:Cx}
def rMax (K:PySem.W.Frag):List V→Hp→VK→Prop:=fun vs H Q=>∃(a:Addr) (ns:List Int),vs=[V.ref a]∧SqL K H a (ns.map V.int)∧0<ns.length∧∀m,m∈ns→(∀y,y∈ns→y≤m)→Q (.int m) H
theorem cr_max (hc:X.calm=true):CallR X (.builtin "max") (rMax X.K):=by
 intro pins s σ H vs us Q I r h
 obtain⟨a,ns,rfl,hs,hne,q⟩:=h
 obtain⟨its,rv,hl,_⟩:=I.list hs
 rw[Vals.ref1 r]
 exact max_raw (I.ok.hd hc) hl.isList rv.ints hne fun h' tk m t' hk h1 h2=>⟨.int _,H,I.kept hk,⟨_,rfl⟩,q m h1 h2⟩
end
section
variable {X:Cx}
def rIndex (K:PySem.W.Frag):V→List V→Hp→VK→Prop:=fun x xs H Q=>∃(a:Addr) (ys:List V) (y:V) (j:Nat) (z:V),x=V.ref a∧xs=[y]∧SqL K H a ys∧flatV y=true∧ys.all flatV=true∧ys[j]? = some z∧eqV z y=true ∧
 (∀(m:Nat) (z':V),m<j→ys[m]? = some z'→eqV z' y=false)∧Q (.int (j:Nat)) H
theorem flat_at {ys:List V} (f:ys.all flatV=true) {j:Nat} {z:V} (h:ys[j]? = some z):flatV z=true:=List.all_eq_true.mp f z (List.mem_of_getElem? h)
theorem mt_index:MtR X "list.index" (rIndex X.K):=by
  intro pins s σ H x xs v us Q I rx rxs h
  obtain⟨a,ys,y,j,z,rfl,rfl,hs,fy,fys,hz,hzj,hno,q⟩:=h
  cases rx
  cases rxs with
  | cons ry rt =>
    rename_i uy ut
    cases rt
    obtain⟨its,rv,⟨⟨cls,dd,data,sl⟩,n,ho,hc,hdn,hd⟩,hlen⟩:=I.list hs
    simp only at hc hd
    subst hc hd
    obtain⟨u,hu,ru⟩:=rv.get hz
    obtain⟨hjl,hje⟩:=List.getElem?_eq_some_iff.mp hu
    have hvl:=rv.length
    have hj:j<its.toArray.size:=by simpa using hjl
    have hsl:=sizeLine_eq
    refine call_meets PySem.F.slot_list_index ⟨_,ho,rfl⟩ PySem.F.entry_list_index (PySem.F.args_list_index_2 _ _)
      (SeqAt.list_indexAt a its.toArray n dd sl uy (eqU y) j hj (by omega) ?_ ?_) ⟨ho,fun u' hu'=>mem_eqAt ry fy rv fys u' (by simpa using hu'),?_⟩
    · have e1:its.toArray[j]=u:=by simpa using hje
      rw[e1,eqU_of ru (flat_at fys hz)]
      exact hzj
    · intro m hm hmj
      have hml:m<its.length:=by simpa using hm
      have hmy:m<ys.length:=by omega
      have hy':ys[m]? = some ys[m]:=List.getElem?_eq_getElem hmy
      obtain⟨u2,hu2,ru2⟩:=rv.get hy'
      obtain⟨_,hme⟩:=List.getElem?_eq_some_iff.mp hu2
      have e1:its.toArray[m]=u2:=by simpa using hme
      rw[e1,eqU_of ru2 (flat_at fys hy')]
      exact hno m _ hmj hy'
    · exact⟨.int (j:Nat),H,I.tok _,⟨_,rfl⟩,q⟩
end
theorem iter_any {prog:Program} {w:World} {A:Around} {E:Value→Shared→Prop} {s:Shared} {l:Addr} {items:Array Value} {Q:Value→Shared→Prop} (hl:s.heap.IsList l items)
  (h:∀s₂:Shared,s₂={ s with heap:=s.heap.push { cls:=.type "list_iterator",data:=.fields #[.ref l,.int 0 0] } } →
   (s₂.heap.IsListIter s.heap.objs.size l 0∧s₂.heap.IsList l items)→l≠s.heap.objs.size→Q (.ref s.heap.objs.size) s₂):wpAny (model prog w) A (pyIter (.ref l)) Q E s:=by
 have hlt:l<s.heap.objs.size:=by obtain⟨_,e,_⟩:=hl;exact Heap.lt_size e
 exact wpAny_pyIter_list hl (h _ rfl ⟨⟨_,Heap.get?_push_size _ rfl,rfl,rfl⟩,hl.push _⟩ (Nat.ne_of_lt hlt))
theorem truth_bools {prog:Program} {w:World} {A:Around} {bs:List Bool} {its:List Value} (e:its=bs.map Value.bool) :
  TruthOf prog w A (fun i v=>its.toArray[i]? = some v) (fun i=>bs.getD i false):=fun i v s Q E hv hq=>by
 have hv':its[i]? = some v:=by simpa using hv
 rw[e,List.getElem?_map]at hv'
 obtain⟨b,hb,rfl⟩:=Option.map_eq_some_iff.mp hv'
 have hg:bs.getD i false=b:=by rw[List.getD_eq_getElem?_getD,hb]<;>rfl
 have hq':Q (bs.getD i false) s:=hq
 rw[hg]at hq'
 exact wpAny_truthy_bool hq'
theorem any_range:∀bs:List Bool,(List.range bs.length).any (fun i=>bs.getD i false)=bs.any id
  | []=>rfl
  | b::bs=>by
    rw[List.length_cons,List.range_succ_eq_map,List.any_cons,List.any_map,List.any_cons,←any_range bs]
    all_goals rfl
theorem all_range:∀bs:List Bool,(List.range bs.length).all (fun i=>bs.getD i false)=bs.all id
  | []=>rfl
  | b::bs=>by
    rw[List.length_cons,List.range_succ_eq_map,List.all_cons,List.all_map,List.all_cons,←all_range bs]
    all_goals rfl
section
variable {X:Cx}
def rAny (K:PySem.W.Frag):List V→Hp→VK→Prop:=fun vs H Q=>∃(a:Addr) (bs:List Bool),vs=[V.ref a]∧SqL K H a (bs.map V.bl)∧Q (.bl (bs.any id)) H
def rAll (K:PySem.W.Frag):List V→Hp→VK→Prop:=fun vs H Q=>∃(a:Addr) (bs:List Bool),vs=[V.ref a]∧SqL K H a (bs.map V.bl)∧Q (.bl (bs.all id)) H
theorem cr_any (hc:X.calm=true):CallR X (.builtin "any") (rAny X.K):=by
 intro pins s σ H vs us Q I r h
 obtain⟨a,bs,rfl,hs,q⟩:=h
 obtain⟨its,rv,hl,_⟩:=I.list hs
 rw[Vals.ref1 r]
 have hb:=rv.bls
 refine call_any_walk (iter_any hl.isList fun s₂ e2 st hne=>?_)
 subst e2
 refine⟨_,_,_,_,_,_,_,rfl,Walks.list (A:=X.A.in1) (I.ok.hd hc) _ a hne its.toArray,st,truth_bools hb,fun h' tk hk=>?_⟩
 refine⟨.bl _,H,I.kept fun b o eo=>hk b o (fun hmem=>?_) (Heap.get?_push_of_some _ eo),?_,q⟩
 ·rcases List.mem_cons.mp hmem with e1|hmem
  ·exact absurd (e1▸Heap.lt_size eo) (Nat.lt_irrefl _)
  ·cases hmem
 ·show Value.bool _=Value.bool _
  rw[←any_range,hb,List.size_toArray,List.length_map]
theorem cr_all (hc:X.calm=true):CallR X (.builtin "all") (rAll X.K):=by
 intro pins s σ H vs us Q I r h
 obtain⟨a,bs,rfl,hs,q⟩:=h
 obtain⟨its,rv,hl,_⟩:=I.list hs
 rw[Vals.ref1 r]
 have hb:=rv.bls
 refine call_all_walk (iter_any hl.isList fun s₂ e2 st hne=>?_)
 subst e2
 refine⟨_,_,_,_,_,_,_,rfl,Walks.list (A:=X.A.in1) (I.ok.hd hc) _ a hne its.toArray,st,truth_bools hb,fun h' tk hk=>?_⟩
 refine⟨.bl _,H,I.kept fun b o eo=>hk b o (fun hmem=>?_) (Heap.get?_push_of_some _ eo),?_,q⟩
 ·rcases List.mem_cons.mp hmem with e1|hmem
  ·exact absurd (e1▸Heap.lt_size eo) (Nat.lt_irrefl _)
  ·cases hmem
 ·show Value.bool _=Value.bool _
  rw[←all_range,hb,List.size_toArray,List.length_map]
end
mutual
inductive Dp (K:PySem.W.Frag) (H:Hp):V→PyData→Prop
 | non:Dp K H .non .none
 | bl (b:Bool):Dp K H (.bl b) (.bool b)
 | int (i:Int):Dp K H (.int i) (.int i)
 | str (x:Str):Dp K H (.str x) (.str x)
 | lst {a:Addr} {xs:List V} {ds:List PyData}:SqL K H a xs→DpAll K H xs ds→Dp K H (.ref a) (.list ds)
 | tup {a:Addr} {xs:List V} {ds:List PyData}:SqT K H a xs→DpAll K H xs ds→Dp K H (.ref a) (.tuple ds)
inductive DpAll (K:PySem.W.Frag) (H:Hp):List V→List PyData→Prop
 | nil:DpAll K H [] []
 | cons {v:V} {vs:List V} {d:PyData} {ds:List PyData}:Dp K H v d→DpAll K H vs ds→DpAll K H (v::vs) (d::ds)
end
section
variable {X:Cx} {pins:List (Addr×Obj)} {σ:St} {H:Hp} {s:Shared}
mutual
theorem Dp.reads (I:Inv X pins σ H s):∀(d:PyData) (v:V) (u:Value),Dp X.K H v d→RelV v u→∃as,Reads s.heap u d as
  | .none,_,_,h,r=>by
    cases h
    cases r
    exact⟨_,Reads.none⟩
  | .bool b,_,_,h,r=>by
    cases h
    cases r
    exact⟨_,Reads.bool b⟩
  | .int i,_,_,h,r=>by
    cases h
    obtain⟨t,rfl⟩:=r
    exact⟨_,Reads.int i t⟩
  | .str x,_,_,h,r=>by
    cases h
    obtain⟨t,rfl⟩:=r
    exact⟨_,Reads.str x t⟩
  | .list ds,_,_,h,r=>by
    cases h with
    | lst hs ha =>
      cases r
      obtain⟨its,rv,⟨o,n,ho,hc,_,hd⟩,_⟩:=I.list hs
      obtain⟨as,hr⟩:=Dp.readsAll I ds _ its ha rv
      exact⟨_,Reads.list ho hc hd hr⟩
  | .tuple ds,_,_,h,r=>by
    cases h with
    | tup hs ha =>
      cases r
      obtain⟨its,rv,⟨o,ho,hc,n,hd⟩,_⟩:=I.tuple hs
      obtain⟨as,hr⟩:=Dp.readsAll I ds _ its ha rv
      exact⟨_,Reads.tuple ho hc hd hr⟩
  | .dict _,_,_,h,_=>by cases h
theorem Dp.readsAll (I:Inv X pins σ H s):∀(ds:List PyData) (vs:List V) (us:List Value),DpAll X.K H vs ds→Vals vs us→∃as,ReadsAll s.heap us ds as
  | [],_,_,h,r=>by
    cases h
    cases r
    exact⟨_,ReadsAll.nil⟩
  | d :: ds, _, _, h, r => by
    cases h with
    | cons h1 h2 =>
      cases r with
      | cons r1 r2 =>
        obtain⟨as,q1⟩:=Dp.reads I d _ _ h1 r1
        obtain⟨bs,q2⟩:=Dp.readsAll I ds _ _ h2 r2
        exact⟨_,ReadsAll.cons q1 q2⟩
end
end
section
variable {X:Cx}
def rNeD (K:PySem.W.Frag):R2:=fun x y H Q=>∃d e,Dp K H x d∧Dp K H y e∧SeqAt.shaped d=true∧SeqAt.shaped e=true∧Q (.bl (!PyData.eqv d e)) H
theorem op_neD (hu:X.A.units+64<cLine):OpR X (compareOp .NotEq) (rNeD X.K):=by
 intro pins s σ H x y v u Q I rx ry h
 obtain⟨d,e,hd,he,sd,se,q⟩:=h
 obtain⟨as,r1⟩:=Dp.reads I d x v hd rx
 obtain⟨bs,r2⟩:=Dp.reads I e y u he ry
 exact SeqAt.compareNe_shaped r1 r2 sd se hu ⟨.bl _,H,I,rfl,q⟩
end
end L2
namespace L2
open PySem PySem.Spec PyProof.Rows
abbrev CellAt (h:Heap) (c:Addr) (v:Option Value):Prop:=h.IsCell c v
def relS (scope sc:Scope):Scope :=
 { scope with names:=scope.names.map fun(n,k)=>if(k==.free&&sc.kind==.function&&sc.names.lookup n==some .cell)then(n,.cell)else(n,k) }
def cloFrom (cells:List (Str×Addr)):List (Str×NameKind)→List (Str×Addr)→List (Str×Addr)
 | [],acc=>acc
 | (n,k)::r,acc=>if k==.free then cloFrom cells r ((n,(cells.lookup n).getD 0)::acc)else cloFrom cells r acc
theorem closure_loop (env:Env) (f:Str×NameKind→List (Str×Addr)→Sem (ForInStep (List (Str×Addr))))
    (hf:∀n k c,f (n,k) c=if k==.free then(do let a ←cellOf env n;pure (.yield ((n,a)::c)))else pure (.yield c)) :
    ∀(names:List (Str×NameKind)) (acc:List (Str×Addr)),(∀y∈names,y.2=.free→∃c,env.cells.lookup y.1=some c)→forIn names acc f=pure (cloFrom env.cells names acc)
  | [],acc,_=>by rw[List.forIn_nil];rfl
  | (n,k)::r,acc,h=>by
    rw[List.forIn_cons,hf]
    have ih:=fun acc=>closure_loop env f hf r acc fun y hy=>h y (List.mem_cons_of_mem _ hy)
    unfold cloFrom
    by_cases hk:(k==NameKind.free)=true
    · rw[if_pos hk,if_pos hk]
      obtain⟨c,hc⟩:=h (n,k) List.mem_cons_self (by simpa using hk)
      have e:cellOf env n=pure c:=by unfold cellOf;rw[hc]
      rw[e]
      have e2:(env.cells.lookup n).getD 0=c:=by rw[hc];rfl
      rw[e2]
      exact ih _
    · rw[if_neg hk,if_neg hk]
      exact ih _
theorem closure_ok {scope:Scope} {env:Env} (h:∀y∈scope.names,y.2=.free→∃c,env.cells.lookup y.1=some c):closureFor scope env=pure (cloFrom env.cells scope.names []):=by
 simp only[closureFor]
 rw[closure_loop env _ (fun n k c=>rfl) scope.names [] h]
 rfl
theorem mem_lookup {α:Type}:∀{l:List (Str×α)} {n:Str} {c:α},(n,c)∈l→∃c',l.lookup n=some c'
  | (k,v)::r,n,c,h=>by
    rw[List.lookup_cons]
    cases hb:n==k with
    | true=>exact⟨_,rfl⟩
    | false =>
      rcases List.mem_cons.mp h with e|h
      · cases e;simp at hb
      · exact mem_lookup h
theorem cloFrom_mem {cells:List (Str×Addr)}:∀{names:List (Str×NameKind)} {acc:List (Str×Addr)} {n:Str} {c:Addr},(n,c)∈cloFrom cells names acc→(n,c)∈acc∨((n,.free)∈names∧c=(cells.lookup n).getD 0)
  | [],_,_,_,h=>.inl h
  | (m, k) :: r, acc, n, c, h => by
    unfold cloFrom at h
    split at h
    · rename_i hk
      have hk:k=.free:=by simpa using hk
      rcases cloFrom_mem h with h|⟨h1,h2⟩
      · rcases List.mem_cons.mp h with e|h
        · cases e;exact .inr ⟨hk▸List.mem_cons_self,rfl⟩
        · exact .inl h
      · exact .inr ⟨List.mem_cons_of_mem _ h1,h2⟩
    · rcases cloFrom_mem h with h|⟨h1,h2⟩
      · exact .inl h
      · exact .inr ⟨List.mem_cons_of_mem _ h1,h2⟩
theorem cloFrom_acc {cells:List (Str×Addr)}:∀{names:List (Str×NameKind)} {acc:List (Str×Addr)} {p:Str×Addr},p∈acc→p∈cloFrom cells names acc
  | [],_,_,h=>h
  | (m,k)::r,acc,p,h=>by
    unfold cloFrom
    split
    · exact cloFrom_acc (List.mem_cons_of_mem _ h)
    · exact cloFrom_acc h
theorem cloFrom_has {cells:List (Str×Addr)}:∀{names:List (Str×NameKind)} {acc:List (Str×Addr)} {n:Str},(n,.free)∈names→(n,(cells.lookup n).getD 0)∈cloFrom cells names acc
  | (m,k)::r,acc,n,h=>by
    unfold cloFrom
    rcases List.mem_cons.mp h with e|h
    · cases e
      exact cloFrom_acc List.mem_cons_self
    · split
      · exact cloFrom_has h
      · exact cloFrom_has h
theorem cells_mem:∀{names:List (Str×NameKind)} {h:Heap} {acc:List (Str×Addr)} {x:Str} {c:Addr},(x,c)∈cellsFrom h.objs.size names acc →
    (x,c)∈acc∨((x,.cell)∈names∧h.objs.size≤c∧CellAt (pushCells h names) c none)
  | [],_,_,_,_,h=>.inl h
  | (n, k) :: r, h, acc, x, c, hm => by
    unfold cellsFrom at hm
    unfold pushCells
    split at hm
    · rename_i hk
      rw[if_pos hk]
      have hk:k=.cell:=by simpa using hk
      rw[←Heap.size_push h { cls:=.type "cell",data:=.cell none }]at hm
      rcases cells_mem hm with hm|⟨h1,h2,h3⟩
      · rcases List.mem_cons.mp hm with e|hm
        · cases e
          exact .inr ⟨hk▸List.mem_cons_self,Nat.le_refl _,_,pushCells_keeps r _ _ _ (Heap.get?_push_size _ rfl),rfl⟩
        · exact .inl hm
      · rw[Heap.size_push]at h2
        exact .inr ⟨List.mem_cons_of_mem _ h1,Nat.le_of_succ_le h2,h3⟩
    · rename_i hk
      rw[if_neg hk]
      rcases cells_mem hm with hm|⟨h1,h2,h3⟩
      · exact .inl hm
      · exact .inr ⟨List.mem_cons_of_mem _ h1,h2,h3⟩
theorem cells_acc:∀{names:List (Str×NameKind)} {n:Nat} {acc:List (Str×Addr)} {p:Str×Addr},p∈acc→p∈cellsFrom n names acc
  | [],_,_,_,h=>h
  | (m,k)::r,n,acc,p,h=>by
    unfold cellsFrom
    split
    · exact cells_acc (List.mem_cons_of_mem _ h)
    · exact cells_acc h
theorem cells_has:∀{names:List (Str×NameKind)} {n:Nat} {acc:List (Str×Addr)} {x:Str},(x,.cell)∈names→∃c,(x,c)∈cellsFrom n names acc
  | (m,k)::r,n,acc,x,h=>by
    unfold cellsFrom
    rcases List.mem_cons.mp h with e|h
    · cases e
      exact⟨n,cells_acc List.mem_cons_self⟩
    · split
      · exact cells_has h
      · exact cells_has h
theorem cells_inj:∀{names:List (Str×NameKind)} {h:Heap} {acc:List (Str×Addr)} {x y:Str} {c:Addr},(∀p∈acc,p.2<h.objs.size)→(∀x y c,(x,c)∈acc→(y,c)∈acc→x=y) →
    (x,c)∈cellsFrom h.objs.size names acc→(y,c)∈cellsFrom h.objs.size names acc→x=y
  | [],_,_,_,_,_,_,hi,h1,h2=>hi _ _ _ h1 h2
  | (n, k) :: r, h, acc, x, y, c, hl, hi, h1, h2 => by
    unfold cellsFrom at h1 h2
    split at h1
    · rename_i hk
      rw[if_pos hk]at h2
      rw[←Heap.size_push h { cls:=.type "cell",data:=.cell none }]at h1 h2
      refine cells_inj (h:=h.push _) (fun p hp=>?_) (fun x y c a b=>?_) h1 h2
      · rw[Heap.size_push]
        rcases List.mem_cons.mp hp with rfl|hp
        · exact Nat.lt_succ_self _
        · exact Nat.lt_succ_of_lt (hl p hp)
      · rcases List.mem_cons.mp a with e|a<;>rcases List.mem_cons.mp b with e'|b
        · cases e;cases e';rfl
        · cases e;exact absurd (hl _ b) (Nat.lt_irrefl _)
        · cases e';exact absurd (hl _ a) (Nat.lt_irrefl _)
        · exact hi _ _ _ a b
    · rename_i hk
      rw[if_neg hk]at h2
      exact cells_inj hl hi h1 h2
theorem newEnv_comp {M:Model} {A:Around} {E:Value→Shared→Prop} {s:Shared} {scope:Scope} {globals:Addr} {closure:List (Str×Addr)} {qual:Str} {func:Option Addr} {code:Value} {around:Env} {builtins:Addr} {Q:Env→Shared→Prop}
  (h:Q (newEnv scope s.heap.objs.size globals (cellsFrom (s.heap.objs.size+1) scope.names closure) qual func code (some around) builtins)
   { s with heap:=pushCells (s.heap.push { cls:=.type "dict",data:=.dict #[] }) scope.names }) :
  wpAny M A (newFunctionEnv scope globals closure [] qual func code (some around) builtins) Q E s:=by
 simp only[newFunctionEnv,Option.isSome_some,if_true]
 refine wpAny_bind (wpAny_alloc ?_)
 refine wpAny_bind (wpAny_layCells _ (fun n k c=>rfl) scope.names closure _ _ ?_)
 rw[show({ s with heap:=s.heap.push { cls:=.type "dict",data:=.dict #[] } }:Shared).heap.objs.size=s.heap.objs.size+1 from Heap.size_push ..]
 rw[List.forIn_nil]
 exact wpAny_bind (wpAny_pure (wpAny_pure h))
theorem lookup_relS {sc:Scope}:∀{names:List (Str×NameKind)} {x:Str} {k:NameKind},
    (names.map fun(n,k)=>if(k==NameKind.free&&sc.kind==.function&&sc.names.lookup n==some .cell)then(n,NameKind.cell)else(n,k)).lookup x=some k →
    ∃k',names.lookup x=some k'∧(k=k'∨(k'=.free∧k=.cell))
  | [],_,_,h=>by simp at h
  | (n, k₀) :: r, x, k, h => by
    have ih:=@lookup_relS sc r x k
    have h':List.lookup x ((if(k₀==NameKind.free&&sc.kind==.function&&sc.names.lookup n==some .cell)=true then(n,NameKind.cell)else(n,k₀))::(r.map _))=some k:=h
    cases hx:x==n with
    | true =>
      simp only[List.lookup_cons,hx]
      by_cases hc:(k₀==NameKind.free&&sc.kind==.function&&sc.names.lookup n==some .cell)=true
      · rw[if_pos hc]at h'
        simp only[List.lookup_cons,hx]at h'
        cases h'
        simp only[Bool.and_eq_true,beq_iff_eq]at hc
        exact⟨k₀,rfl,.inr ⟨hc.1.1,rfl⟩⟩
      · rw[if_neg hc]at h'
        simp only[List.lookup_cons,hx]at h'
        cases h'
        exact⟨_,rfl,.inl rfl⟩
    | false =>
      simp only[List.lookup_cons,hx]
      by_cases hc:(k₀==NameKind.free&&sc.kind==.function&&sc.names.lookup n==some .cell)=true
      · rw[if_pos hc]at h'
        simp only[List.lookup_cons,hx]at h'
        exact ih h'
      · rw[if_neg hc]at h'
        simp only[List.lookup_cons,hx]at h'
        exact ih h'
structure BlkOk (N:List Str) (sc scope:Scope) (own:List (Str×Nat)):Prop where
 kind:scope.kind=.function
 uniq:∀y∈scope.names,scope.names.lookup y.1=some y.2
 ix:∀p∈own,N[p.2]? = some p.1
 free:∀y∈scope.names,y.2=.free→sc.names.lookup y.1=some .cell∨sc.names.lookup y.1=some .free
 own:∀y∈scope.names,y.2=.local∨y.2=.cell→y.1∈own.map (·.1)∨y.1∉N
def wipe (σ:St):List Nat→St
 | []=>σ
 | v::vs=>(wipe σ vs).set v none
theorem wipe_length (σ:St):∀vs:List Nat,(wipe σ vs).length=σ.length
 | []=>rfl
 | v::vs=>by unfold wipe;rw[List.length_set,wipe_length σ vs]
theorem wipe_some {σ:St} {i:Nat} {x:V}:∀{vs:List Nat},(wipe σ vs)[i]? = some (some x)→σ[i]? = some (some x)∧i∉vs
  | [],h=>⟨h,by simp⟩
  | v :: vs, h => by
    unfold wipe at h
    by_cases hi:v=i
    · subst hi
      by_cases hv:v<(wipe σ vs).length
      · rw[List.getElem?_set_self hv]at h;cases h
      · rw[List.getElem?_eq_none (by simpa using hv)]at h;cases h
    · rw[List.getElem?_set_ne hi]at h
      obtain⟨h1,h2⟩:=wipe_some h
      exact⟨h1,by simp only[List.mem_cons,not_or];exact⟨fun e=>hi e.symm,h2⟩⟩
abbrev Cx.blk (X:Cx) (s:Shared) (H:Hp) (scope:Scope) (cenv:Env) (fp:List Addr):Cx:={ X with s_0:=s,H_0:=H,env:=cenv,outer:=X.stack,ex:=fp,fn:=fun x=>scope.names.lookup x==some .cell,pn:=[],xe:=fun _ _=>False }
section
variable {X:Cx} {pins:List (Addr×Obj)} {σ:St} {H:Hp} {s:Shared}
theorem block_start {scope:Scope} {own:List (Str×Nat)} {fp:List Addr} (I:Inv X pins σ H s) (ok:BlkOk X.N X.env.scope scope own) (hN:X.N.Nodup) (hfp:∀b∈fp,FpOk X pins H b∧b<s.heap.objs.size) :
    Inv (X.blk s H scope (compEnvC scope (cellsFrom (s.heap.objs.size+1) scope.names (cloFrom X.env.cells scope.names [])) s.heap.objs.size X.env) fp) [] (wipe σ (own.map (·.2))) H { s with heap:=pushCells (s.heap.push { cls:=.type "dict",data:=.dict #[] }) scope.names }:=by
  have hfree:∀y∈scope.names,y.2=.free→∃c,X.env.cells.lookup y.1=some c:=fun y hy e=>by
    rcases ok.free y hy e with k|k
    · exact I.ok.has _ (.inl k)
    · exact I.ok.has _ (.inr k)
  generalize hcenv:compEnvC scope (cellsFrom (s.heap.objs.size+1) scope.names (cloFrom X.env.cells scope.names [])) s.heap.objs.size X.env=cenv
  have kp:∀b o,s.heap.get? b=some o→(pushCells (s.heap.push { cls:=.type "dict",data:=.dict #[] }) scope.names).get? b=some o:=fun b o e=>pushCells_keeps _ _ _ _ (Heap.get?_push_of_some _ e)
  have hL:cenv.locals=s.heap.objs.size:=by rw[←hcenv];rfl
  have hcl:cenv.cells=cellsFrom (s.heap.objs.size+1) scope.names (cloFrom X.env.cells scope.names []):=by rw[←hcenv];rfl
  have hsc:cenv.scope=relS scope X.env.scope:=by rw[←hcenv];rfl
  rw[←Heap.size_push s.heap { cls:=.type "dict",data:=.dict #[] }]at hcl
  have cm:∀{y c},(y,c)∈cloFrom X.env.cells scope.names []→X.env.cells.lookup y=some c∧c<s.heap.objs.size:=fun {y c} hm=>by
    rcases cloFrom_mem hm with hm|⟨h1,rfl⟩
    · cases hm
    · obtain⟨c,hc⟩:=hfree _ h1 rfl
      rw[hc]
      obtain⟨w,z⟩:=I.cell _ _ hc
      exact⟨rfl,z.lt⟩
  have mem:∀{y c},cenv.cells.lookup y=some c→(X.env.cells.lookup y=some c∧c<s.heap.objs.size)∨(s.heap.objs.size+1≤c∧CellAt (pushCells (s.heap.push { cls:=.type "dict",data:=.dict #[] }) scope.names) c none):=fun {y c} e=>by
    rw[hcl]at e
    rcases cells_mem (PySem.mem_of_lookup e)with hm|⟨_,h2,h3⟩
    · exact .inl (cm hm)
    · rw[Heap.size_push]at h2;exact .inr ⟨h2,h3⟩
  have look:∀{y},scope.names.lookup y=some .free→∃c,cenv.cells.lookup y=some c∧X.env.cells.lookup y=some c:=fun {y} hl=>by
    have hy:(y,NameKind.free)∈scope.names:=PySem.mem_of_lookup hl
    obtain⟨c',e'⟩:=mem_lookup (cells_acc (names:=scope.names) (n:=(s.heap.push { cls:=.type "dict",data:=.dict #[] }).objs.size) (cloFrom_has (cells:=X.env.cells) (acc:=[]) hy))
    rw[←hcl]at e'
    refine⟨c',e',?_⟩
    rw[hcl]at e'
    rcases cells_mem (PySem.mem_of_lookup e')with hm|⟨h1,_,_⟩
    · exact(cm hm).1
    · have:=ok.uniq _ h1
      rw[hl]at this;cases this
  have okB:(X.blk s H scope cenv fp).Ok:=by
    refine⟨I.ok.mod,by show cenv.scope.kind=_;rw[hsc];exact ok.kind,by show cenv.globals=_;rw[←hcenv];exact I.ok.glob,by show cenv.builtins=_;rw[←hcenv];exact I.ok.blt,by show s.heap.objs.size≤cenv.locals;rw[hL];exact Nat.le_refl _,
      fun y z c e1 e2=>?_,fun y hy=>?_,fun y c z e=>?_,I.ok.hd,I.ok.frames,.inl rfl,fun b hb=>⟨?_,fun y c e z=>?_⟩,I.bs,Nat.le_trans I.ok.bsz I.sz,fun b o e hb=>?_,fun b hb z=>?_,I.stack,I.stkFree⟩
    · have e1:cenv.cells.lookup y=some c:=e1
      have e2:cenv.cells.lookup z=some c:=e2
      rw[hcl]at e1 e2
      refine cells_inj (fun p hp=>?_) (fun y z c a b=>I.ok.inj y z c (cm a).1 (cm b).1) (PySem.mem_of_lookup e1) (PySem.mem_of_lookup e2)
      rw[Heap.size_push]
      exact Nat.lt_succ_of_lt (cm (y:=p.1) (c:=p.2) hp).2
    · show ∃c,cenv.cells.lookup y=some c
      have key:∀k,cenv.kindOf y=some k→(k=.cell∨k=.free)→∃c,cenv.cells.lookup y=some c:=fun k hk hk'=>by
        unfold Env.kindOf at hk
        rw[hsc]at hk
        obtain⟨k',e,r⟩:=lookup_relS hk
        have:k'=.cell∨k'=.free:=by
          rcases r with rfl|⟨rfl,_⟩
          · exact hk'
          · exact .inr rfl
        rcases this with rfl|rfl
        · obtain⟨c,hm⟩:=cells_has (n:=(s.heap.push { cls:=.type "dict",data:=.dict #[] }).objs.size) (acc:=cloFrom X.env.cells scope.names []) (PySem.mem_of_lookup e)
          obtain⟨c',e'⟩:=mem_lookup hm
          exact⟨c',by rw[hcl];exact e'⟩
        · obtain⟨c,h1,_⟩:=look e
          exact⟨c,h1⟩
      rcases hy with hy|hy
      · exact key _ hy (.inl rfl)
      · exact key _ hy (.inr rfl)
    · have z:(scope.names.lookup y==some NameKind.cell)=true:=z
      have z:scope.names.lookup y=some .cell:=by simpa using z
      have e:cenv.cells.lookup y=some c:=e
      rw[hcl]at e
      rcases cells_mem (PySem.mem_of_lookup e)with hm|⟨_,h2,_⟩
      · rcases cloFrom_mem hm with hm|⟨h1,_⟩
        · cases hm
        · have q:=ok.uniq _ h1
          rw[z]at q;cases q
      · rw[Heap.size_push]at h2
        exact Nat.le_of_succ_le h2
    · show b≠cenv.locals
      rw[hL];exact Nat.ne_of_lt (hfp b hb).2
    · have e:cenv.cells.lookup y=some c:=e
      rcases mem e with⟨h1,_⟩|⟨h1,_⟩
      · exact(hfp b hb).1.2.2.2.2.1 y c h1 z
      · have h2:s.heap.objs.size+1≤b:=by rw[←z];exact h1
        exact absurd (Nat.lt_of_lt_of_le (hfp b hb).2 (Nat.le_of_succ_le h2)) (Nat.lt_irrefl _)
    · rcases (hfp b hb).1.2.2.2.1 with z|z
      · exact I.ok.noex b o e z
      · exact absurd (Nat.lt_of_lt_of_le (Heap.lt_size e) (Nat.le_trans I.ok.bsz z)) (Nat.lt_irrefl _)
    · rcases List.mem_cons.mp (I.stkSub b z)with z|z
      · exact(hfp b hb).1.2.1 z
      · exact(hfp b hb).1.2.2.1 z
  refine⟨okB,rfl,I.bare,Un.kept kp,⟨fun _=>none,?_,fun i y av e1 e2 e3=>?_⟩,fun y c e=>?_,?_,fun y c e=>?_,fun p hp=>?_,I.hok.kept kp,by rw[wipe_length];exact I.len⟩
  · show Heap.Ns _ cenv.locals _
    rw[hL]
    exact Heap.Ns.keeps (Heap.Ns.new ..) fun b o e=>pushCells_keeps _ _ _ _ e
  · obtain ⟨e2, hne⟩ := wipe_some e2
    have hfr:scope.names.lookup y=some .free∧(cenv.kindOf y=some .cell∨cenv.kindOf y=some .free):=by
      have key:∀k,cenv.scope.names.lookup y=some k→k=.local∨k=.cell∨k=.free→scope.names.lookup y=some .free∧(cenv.kindOf y=some .cell∨cenv.kindOf y=some .free):=fun k hk hk'=>by
        have hk0:=hk
        rw[hsc]at hk
        obtain⟨k',e,r⟩:=lookup_relS hk
        have no:¬(k'=.local∨k'=.cell):=fun hh=>by
          rcases ok.own _ (PySem.mem_of_lookup e) hh with e'|e'
          · obtain⟨p,hp,hpy⟩:=List.mem_map.mp e'
            have e3:=ok.ix p hp
            have:p.1=y:=hpy
            rw[this]at e3
            exact hne (List.mem_map.mpr ⟨p,hp,nodup_ix hN e3 e1⟩)
          · exact e' (List.mem_of_getElem? e1)
        rcases r with rfl|⟨rfl,rfl⟩
        · rcases hk' with rfl|rfl|rfl
          · exact absurd (.inl rfl) no
          · exact absurd (.inr rfl) no
          · exact⟨e,.inr hk0⟩
        · exact⟨e,.inl hk0⟩
      have e3:Vis cenv.scope y:=e3
      rcases e3 with e3|e3|e3
      · exact key _ e3 (.inl rfl)
      · exact key _ e3 (.inr (.inl rfl))
      · exact key _ e3 (.inr (.inr rfl))
    obtain⟨m,hn,hl⟩:=I.loc
    have hvis:Vis X.env.scope y:=(ok.free _ (PySem.mem_of_lookup hfr.1) rfl).elim (fun k=>.inr (.inl k)) (fun k=>.inr (.inr k))
    obtain⟨w,r,q⟩:=hl i y av e1 e2 hvis
    refine⟨w,r,.inr ⟨hfr.2,?_⟩⟩
    obtain⟨c,h1,h2⟩:=look hfr.1
    rcases q with⟨k,_⟩|⟨_,c',e',z⟩
    · have k:X.env.scope.names.lookup y=some .local:=k
      rcases ok.free _ (PySem.mem_of_lookup hfr.1) rfl with k'|k'<;>rw[show X.env.scope.names.lookup y=_ from k']at k<;>cases k
    · rw[h2]at e';cases e'
      exact⟨c,h1,z.keeps kp⟩
  · have e:cenv.cells.lookup y=some c:=e
    rcases mem e with⟨h1,_⟩|⟨_,z⟩
    · obtain⟨w,z⟩:=I.cell y c h1
      exact⟨w,z.keeps kp⟩
    · exact⟨_,z⟩
  · show H cenv.locals=none
    rw[hL];exact I.hok.fresh (Nat.le_refl _)
  · have e:cenv.cells.lookup y=some c:=e
    rcases mem e with⟨h1,_⟩|⟨h1,_⟩
    · exact I.freeC y c h1
    · exact I.hok.fresh (Nat.le_of_succ_le h1)
  · exact absurd (show p∈([]:List (Addr×Obj))++[] from hp) (by simp)
theorem app_ok {E:Value→Shared→Prop} {D:Addr} {xs:List V} {y:V} {v:Value} {Q:Value→Shared→Prop} (I:Inv X pins σ H s) (hD:H D=some (.lst xs)) (hz:xs.length<sizeLine) (r:RelV y v)
  (h:∀s',Inv X pins σ (upd H D (.lst (xs++[y]))) s'→Q .none s'):wpAny (model X.prog X.w) X.A (call (.builtin "list.append") [.ref D,v]) Q E s:=by
 obtain⟨hz',its,n,ri,e⟩:=I.hok D _ hD
 have hl:=ri.length
 refine append_at (hsz:=by rw[List.size_toArray];omega) e fun h' sb ho'=>?_
 refine h { s with heap:=h' } (I.write (t':=s.toks) (by rw[hD];trivial) (.inl rfl) (fun b u hb q=>(sb.2 b hb).trans q) ⟨_,ho'⟩ ⟨by rw[List.length_append];exact hz,its++[v],n+1,ri.append (.cons r .nil),?_⟩)
 rw[ho']
 simp
def PTs (X:Cx) (ifs:List Expr) (t:TT):Prop :=
  ∀ (pins : List (Addr × Obj)) (s : Shared) (σ : St) (H : Hp) (Q : Bool → Hp → Prop), Inv X pins σ H s → t σ H Q →
    wpAny (model X.prog X.w) X.A (forIn ifs true fun c r=>if r=true then do let ok ←isTrue c X.env (eval c X.env);pure (ForInStep.yield ok)else pure (ForInStep.yield r)) (TP X pins σ Q) X.xe s
def tYes:TT:=fun _ H Q=>Q true H
theorem pts_nil:PTs X [] tYes:=fun _ _ _ H _ I h=>wpAny_tests_nil ⟨H,I,h⟩
theorem pts_one {c:Expr} {t:TT} (h:PT X c t):PTs X [c] t:=fun pins s σ H Q I hw=>wpAny_tests_one (h pins s σ H Q I hw)
end
theorem thnF {α:Type} {t:Sem α} {Q Q':α→Shared→Prop} {M:Model} {A:Around} {E:Value→Shared→Prop} {s:Shared} (h:wpAny M A t Q (fun _ _=>False) s) (hQ:∀a s,Q a s→Q' a s):wpAny M A t Q' E s:=wpAny_mono h hQ fun _ _ z=>False.elim z
theorem compLoop_any {prog:Program} {w:World} {A:Around} {R:Result→Shared→Prop} {s:Shared} {elt target iter:Expr} {ifs:List Expr} {scope:Scope} {pos:Pos} {it acc:Value} {env:Env} (I:Nat→Shared→Prop)
    (turn : ∀ n s, I n s → wpAny (model prog w) A (pyNext it) (fun r s₁ => match r with
      | none=>R (.ok .next) s₁
      | some v=>wpAny (model prog w) A (letOwnedTupleGo target it v) (fun _ s₁'=>wpAny (model prog w) A (assign target env v) (fun _ s₂ =>
          wpAny (model prog w) A (forIn ifs true fun c r=>if r=true then do let ok ←isTrue c env (eval c env);pure (ForInStep.yield ok)else pure (ForInStep.yield r)) (fun ok s₃ =>
            if ok=true then wpAny (model prog w) A (eval elt env) (fun x s₄ =>
              wpAny (model prog w) A (call (.builtin "list.append") [acc,x]) (fun _ s₅=>∃m,m<n∧I m s₅) (notedBy (model prog w) A env fun e s'=>R (.error e) s') s₄) (notedBy (model prog w) A env fun e s'=>R (.error e) s') s₃
            else ∃m,m<n∧I m s₃) (notedBy (model prog w) A env fun e s'=>R (.error e) s') s₂) (notedBy (model prog w) A env fun e s'=>R (.error e) s') s₁') (notedBy (model prog w) A env fun e s'=>R (.error e) s') s₁) (notedBy (model prog w) A env fun e s'=>R (.error e) s') s)
    (n:Nat) (h:I n s) :
    codeAny (model prog w) A (.compLoop (.ListComp elt [⟨target,iter,ifs,0⟩] scope pos) 0 it acc env) R s:=by
  refine codeAny_loop rfl I (fun n s hI=>?_) n h
  show wpAny _ A ((compTurn (.ListComp elt [⟨target,iter,ifs,0⟩] scope pos) 0 it acc env).onRaise (fun x=>do noteFrame x env;theTreesLotGoes x)) _ _ s
  refine wpAny_noted ?_
  rw[compTurn_list]
  refine wpAny_bind (wpAny_standAt (wpAny_bind (wpAny_mono (turn n s hI) (fun r s₁ h₁=>?_) fun _ _ h'=>h')))
  cases r with
  | none=>exact wpAny_pure h₁
  | some v =>
    refine wpAny_bind (wpAny_mono h₁ (fun _ s₁' h₁'=>?_) fun _ _ h'=>h')
    refine wpAny_bind (wpAny_mono h₁' (fun _ s₂ h₂=>wpAny_bind (wpAny_mono h₂ (fun ok s₃ h₃=>?_) fun _ _ h'=>h')) fun _ _ h'=>h')
    cases ok with
    | false=>exact wpAny_pure ⟨rfl,h₃⟩
    | true =>
      exact wpAny_bind (wpAny_bind (wpAny_mono h₃ (fun x s₄ h₄=>wpAny_bind (wpAny_mono h₄ (fun _ s₅ h₅=>wpAny_pure (wpAny_pure ⟨rfl,h₅⟩)) fun _ _ h'=>h')) fun _ _ h'=>h'))
section
variable {X:Cx}
def tLc (wi:TI) (g:TG) (tt:TT) (te:TE) (vs:List Nat):TE:=fun σ H Q=>wi σ H fun J H1=>∀D,H1 D=none→∃W:Nat→Nat→Hp→Prop,(∃m,W 0 m (upd H1 D (.lst [])))∧∀i m H,W i m H →
  (J.stop i H∧Q (.ref D) H)∨(J.go i H∧∃Nx:Hp→Prop,(∀H',Nx H'→∃m',m'<m∧W (i+1) m' H')∧∀x H',J.yld i H x H'→g x (wipe σ vs) H' fun σ2 H2=>wipe σ2 vs=wipe σ vs∧tt σ2 H2 fun b H3 =>
    if b=true then te σ2 H3 fun y H4=>∃acc,H4 D=some (.lst acc)∧acc.length<sizeLine∧Nx (upd H4 D (.lst (acc++[y])))else Nx H3)
theorem lc_core {pins:List (Addr×Obj)} {s:Shared} {σ:St} {H:Hp} {Q:VK} {elt tg iter:Expr} {ifs:List Expr} {scope:Scope} {own:List (Str×Nat)} {pos pos':Pos} {wi:TI} {g:TG} {tt:TT} {te:TE} {use:Option (Value→Sem Unit)} {Qf:Value→Shared→Prop}
    (hc:X.calm=true) (hN:X.N.Nodup) (I:Inv X pins σ H s) (hi:PI X tg iter wi) (ok:BlkOk X.N X.env.scope scope own)
    (hg:∀(s:Shared) (H:Hp) (C:Addr) (cl:List (Str×Addr)) (fp:List Addr),PG (X.blk s H scope (compEnvC scope cl C X.env) fp) tg g) (ht:∀(s:Shared) (H:Hp) (C:Addr) (cl:List (Str×Addr)) (fp:List Addr),PTs (X.blk s H scope (compEnvC scope cl C X.env) fp) ifs tt)
    (he:∀(s:Shared) (H:Hp) (C:Addr) (cl:List (Str×Addr)) (fp:List Addr),PE (X.blk s H scope (compEnvC scope cl C X.env) fp) elt te) (hs:∀x,foldedSetIterable iter X.env x=pure x)
    (h:tLc wi g tt te (own.map (·.2)) σ H Q)
    (hRR:∀D C s' m H',Inv X pins σ H' s'→Q (.ref D) H'→s'.heap.Ns C m→FpOk X pins H' C→compPost (model X.prog X.w) X.A X.xe use Qf (.ref D) C (.ok .next) s') :
    wpAny (model X.prog X.w) X.A (comprehension (.ListComp elt [⟨tg,iter,ifs,0⟩] scope pos) scope X.env pos' (newList []) false (eval iter X.env) use) Qf X.xe s:=by
  have hfree:∀y∈scope.names,y.2=.free→∃c,X.env.cells.lookup y.1=some c:=fun y hy e=>by
    rcases ok.free y hy e with k|k
    · exact I.ok.has _ (.inl k)
    · exact I.ok.has _ (.inr k)
  refine wpAny_comprehension_free (use:=use) rfl hs (closure_ok hfree) ok.kind (fun y hy e=>by rw[ok.uniq y hy,e])
    (thn (hi pins s σ H _ I h) fun xv s1 hx=>thn hx fun itv s2 h2=>?_)
  obtain⟨it,fp,tn,J,H2,e,I2,T,st2,f2,q⟩:=h2
  subst e
  refine wpAny_newObj_type (newEnv_comp ?_) (by show 0≤sizeLine;decide)
  generalize hD:s2.heap.objs.size=D
  have hDn:H2 D=none:=I2.hok.fresh (Nat.le_of_eq hD)
  obtain⟨W,⟨m0,w0⟩,turn⟩:=q D hDn
  generalize hs3:({ s2 with heap:=s2.heap.push { cls:=.type "list",data:=.seq ([]:List Value).toArray } }:Shared)=s3
  have I3:Inv X pins σ (upd H2 D (.lst [])) s3:=by
    rw[←hs3]
    refine I2.laid (t':=s2.toks) (fun b o e=>Heap.get?_push_of_some _ e) (Nat.le_of_eq hD) ⟨Nat.zero_le _,[],0,.nil,?_⟩
    rw[←hD]
    exact Heap.get?_push_size _ rfl
  have h3:s3.heap=s2.heap.push { cls:=.type "list",data:=.seq ([]:List Value).toArray }:=by rw[←hs3]
  have sz:∀b∈fp,b<s2.heap.objs.size:=fun b hb=>by
    obtain⟨o,e,_⟩:=T.obj _ _ st2 b hb
    exact Heap.lt_size e
  have f3:∀b∈fp,FpOk X pins (upd H2 D (.lst [])) b∧b<s3.heap.objs.size:=fun b hb=>by
    have hlt:=sz b hb
    refine⟨⟨?_,(f2 b hb).2⟩,by rw[h3,Heap.size_push];exact Nat.lt_succ_of_lt hlt⟩
    rw[upd_ne (by rw[←hD];exact Nat.ne_of_lt hlt)]
    exact(f2 b hb).1
  have st3:tn 0 s3.heap:=T.keep _ _ _ st2 fun b _ o e=>by rw[h3];exact Heap.get?_push_of_some _ e
  have I4:=block_start I3 ok hN f3
  have pg:=hg s3 (upd H2 D (.lst [])) s3.heap.objs.size (cellsFrom (s3.heap.objs.size+1) scope.names (cloFrom X.env.cells scope.names [])) fp
  have pt:=ht s3 (upd H2 D (.lst [])) s3.heap.objs.size (cellsFrom (s3.heap.objs.size+1) scope.names (cloFrom X.env.cells scope.names [])) fp
  have pe:=he s3 (upd H2 D (.lst [])) s3.heap.objs.size (cellsFrom (s3.heap.objs.size+1) scope.names (cloFrom X.env.cells scope.names [])) fp
  show codeAny _ _ (.compStart (.ListComp elt [⟨tg,iter,ifs,0⟩] scope pos) 0 (.ref it) (.ref D) (compEnvC scope (cellsFrom (s3.heap.objs.size+1) scope.names (cloFrom X.env.cells scope.names [])) s3.heap.objs.size X.env)) (compPost (model X.prog X.w) X.A X.xe use Qf (.ref D) s3.heap.objs.size) { s3 with heap:=pushCells (s3.heap.push { cls:=.type "dict",data:=.dict #[] }) scope.names }
  have nfp:∀b∈fp,(upd H2 D (.lst [])) b=none:=fun b hb=>(f3 b hb).1.1
  generalize hce:compEnvC scope (cellsFrom (s3.heap.objs.size+1) scope.names (cloFrom X.env.cells scope.names [])) s3.heap.objs.size X.env=ce at I4 pg pt pe ⊢
  have cL:ce.locals=s3.heap.objs.size:=by subst hce;rfl
  generalize hH3:upd H2 D (.lst [])=H3 at I3 I4 pg pt pe w0 nfp f3
  generalize hs4:({ s3 with heap:=pushCells (s3.heap.push { cls:=.type "dict",data:=.dict #[] }) scope.names }:Shared)=s4 at I4 ⊢
  have st4:tn 0 s4.heap:=T.keep _ _ _ st3 fun b _ o e=>by rw[←hs4];exact pushCells_keeps _ _ _ _ (Heap.get?_push_of_some _ e)
  have stat:∀{σ':St} {H':Hp} {s':Shared},Inv (X.blk s3 H3 scope ce fp) [] σ' H' s'→(∀b∈fp,H' b=none)→∀b∈fp,FpOk (X.blk s3 H3 scope ce fp) [] H' b:=fun {σ' H' s'} I' hn b hb =>
    ⟨hn b hb,(I'.ok.exf b hb).1,I'.ok.exfs b hb,.inl hb,fun x c e=>(I'.ok.exf b hb).2 x c e,fun p hp=>absurd (show p∈([]:List (Addr×Obj))++[] from hp) (by simp)⟩
  have loop:codeAny (model X.prog X.w) X.A (.compLoop (.ListComp elt [⟨tg,iter,ifs,0⟩] scope pos) 0 (.ref it) (.ref D) ce) (compPost (model X.prog X.w) X.A X.xe use Qf (.ref D) s3.heap.objs.size) s4:=by
    refine compLoop_any (fun n s'=>∃i H',Inv (X.blk s3 H3 scope ce fp) [] (wipe σ (own.map (·.2))) H' s'∧tn i s'.heap∧(∀b∈fp,H' b=none)∧W i n H') ?_ m0 ⟨0,H3,I4,st4,nfp,w0⟩
    rintro n s5 ⟨i,H5,I5,st5,n5,w5⟩
    rcases turn i n H5 w5 with⟨stop,qq⟩|⟨go,Nx,hNx,step⟩
    · have td:=T.done (X.blk s3 H3 scope ce fp) rfl rfl rfl hc i [] s5 _ H5 (fun _ _=>False) I5 (stat I5 n5) st5 stop
      refine thnF td fun r s6 ⟨hr,I6⟩=>?_
      subst hr
      have I7:Inv X pins σ H5 s6:=I3.call' (ch:=fp) I6.os I6.base I6.hok I6.bare fun b hb=>⟨(f3 b hb).1.2.2.2.1,(f3 b hb).1.2.1,(f3 b hb).1.2.2.2.2.1,(f3 b hb).1.2.2.2.2.2⟩
      have nC:H5 s3.heap.objs.size=none:=by
        have z:H5 ce.locals=none:=I6.free
        rw[cL]at z
        exact z
      obtain⟨m,hn,_⟩:=I6.loc
      have hn:s6.heap.Ns ce.locals m:=hn
      rw[cL]at hn
      exact hRR D s3.heap.objs.size s6 m H5 I7 qq hn (I3.fpOk (Nat.le_refl _) nC)
    · have ti:=T.item (X.blk s3 H3 scope ce fp) rfl rfl rfl hc i [] s5 _ H5 (fun _ _=>False) I5 (stat I5 n5) st5 go
      refine thnF ti fun r s6 ⟨u,hr,h6⟩=>?_
      subst hr
      refine thnF h6 fun _ s7 ⟨x,H7,I7,r7,y7,st7,n7⟩=>?_
      have I7':=I7.pinned (stat I7 n7) (T.obj _ _ st7)
      refine thnF (pg _ s7 _ H7 x u _ I7' r7 (step x H7 y7)) fun _ s8 ⟨σ8,H8,I8,hw8,q8⟩=>?_
      refine thnF (pt _ s8 σ8 H8 _ I8 q8) fun b s9 ⟨H9,I9,q9⟩=>?_
      have fin:∀{s':Shared} {H':Hp},Inv (X.blk s3 H3 scope ce fp) ([]++pinsAt fp s7.heap) σ8 H' s'→Nx H'→∃m,m<n∧∃i H',Inv (X.blk s3 H3 scope ce fp) [] (wipe σ (own.map (·.2))) H' s'∧tn i s'.heap∧(∀b∈fp,H' b=none)∧W i m H':=fun {s' H'} I' nx=>by
        obtain⟨m',hm,w'⟩:=hNx H' nx
        have pin':∀b∈fp,∀o,s7.heap.get? b=some o→s'.heap.get? b=some o∧H' b=none:=fun b hb o e =>
          let z:=I'.pin (b,o) (List.mem_append_right _ (List.mem_append_right _ (mem_pinsAt hb e)))
          ⟨z.1,z.2.1⟩
        have hl:(wipe σ (own.map (·.2))).length=σ8.length:=by rw[←hw8,wipe_length]
        refine⟨m',hm,i+1,H',(I'.unpinned (pins:=[])).weak hl (fun j v e=>?_),T.keep _ _ _ st7 fun b hb o e=>(pin' b hb o e).1,fun b hb=>?_,w'⟩
        · rw[←hw8]at e
          exact(wipe_some e).1
        · obtain⟨o,e,_⟩:=T.obj _ _ st7 b hb
          exact(pin' b hb o e).2
      cases b with
      | false =>
        simp only[Bool.false_eq_true,if_false]at q9 ⊢
        exact fin I9 q9
      | true =>
        simp only[if_true]at q9 ⊢
        refine thnF (pe _ s9 σ8 H9 _ I9 q9) fun z s10 ⟨yv,H10,I10,r10,acc,hD10,hz10,nx⟩=>?_
        exact app_ok (X:=X.blk s3 H3 scope ce fp) I10 hD10 hz10 r10 fun s11 I11=>fin I11 nx
  exact codeAny_compStart_list loop (T.self X.A 0 _ _ _ st4 loop)
theorem pe_lc {elt tg iter:Expr} {ifs:List Expr} {scope:Scope} {own:List (Str×Nat)} {pos:Pos} {wi:TI} {g:TG} {tt:TT} {te:TE} (hc:X.calm=true) (hN:X.N.Nodup) (hi:PI X tg iter wi) (ok:BlkOk X.N X.env.scope scope own)
  (hg:∀(s:Shared) (H:Hp) (C:Addr) (cl:List (Str×Addr)) (fp:List Addr),PG (X.blk s H scope (compEnvC scope cl C X.env) fp) tg g) (ht:∀(s:Shared) (H:Hp) (C:Addr) (cl:List (Str×Addr)) (fp:List Addr),PTs (X.blk s H scope (compEnvC scope cl C X.env) fp) ifs tt)
  (he:∀(s:Shared) (H:Hp) (C:Addr) (cl:List (Str×Addr)) (fp:List Addr),PE (X.blk s H scope (compEnvC scope cl C X.env) fp) elt te) (hs:∀x,foldedSetIterable iter X.env x=pure x:=by intro _;rfl) :
  PE X (.ListComp elt [⟨tg,iter,ifs,0⟩] scope pos) (tLc wi g tt te (own.map (·.2))):=by
 intro pins s σ H Q I h
 rw[eval_ListComp]
 refine lc_core hc hN I hi ok hg ht he hs h fun D C s' m H' I' q hn f=>⟨m,hn,fun h'' sb=>?_⟩
 obtain⟨f0,f1,f2,f3,f4,f5⟩:=f
 exact⟨.ref D,H',I'.turned (t':=s'.toks) (fun b o hb e=>(sb.2 b hb).trans e) f0 f1 f3 f4 f5,rfl,q⟩
theorem ps_setLc {i:Nat} {y:Str} {py:Pos} {elt tg iter:Expr} {ifs:List Expr} {scope:Scope} {own:List (Str×Nat)} {pos spos:Pos} {wi:TI} {g:TG} {tt:TT} {te:TE} (hc:X.calm=true) (hN:X.N.Nodup) (hy:X.N[i]? = some y) (hyl:X.env.scope.names.lookup y=some .local)
  (hsw:swapsWith (.ListComp elt [⟨tg,iter,ifs,0⟩] scope pos) (some (.Name y py)) spos.line X.env=pure true) (hi:PI X tg iter wi) (ok:BlkOk X.N X.env.scope scope own)
  (hg:∀(s:Shared) (H:Hp) (C:Addr) (cl:List (Str×Addr)) (fp:List Addr),PG (X.blk s H scope (compEnvC scope cl C X.env) fp) tg g) (ht:∀(s:Shared) (H:Hp) (C:Addr) (cl:List (Str×Addr)) (fp:List Addr),PTs (X.blk s H scope (compEnvC scope cl C X.env) fp) ifs tt)
  (he:∀(s:Shared) (H:Hp) (C:Addr) (cl:List (Str×Addr)) (fp:List Addr),PE (X.blk s H scope (compEnvC scope cl C X.env) fp) elt te) (hs:∀x,foldedSetIterable iter X.env x=pure x:=by intro _;rfl) :
  PS X (.Assign [.Name y py] (.ListComp elt [⟨tg,iter,ifs,0⟩] scope pos) spos) (tAsg (tLc wi g tt te (own.map (·.2))) (gName i)):=by
 intro pins s σ H D I h
 rw[exec_Assign_Name_used _ _ _ _ hsw]
 refine wpAny_bind (wpAny_standAt (wpAny_bind ?_))
 show wpAny _ X.A (do let _ ←comprehension (.ListComp elt [⟨tg,iter,ifs,0⟩] scope pos) scope X.env (firstIterPos [⟨tg,iter,ifs,0⟩] pos) (newList []) false (eval iter X.env) (some (assign (.Name y py) X.env))) _ _ s
 have h:tLc wi g tt te (own.map (·.2)) σ H (fun x H1=>gName i x σ H1 D.nx):=h
 refine wpAny_bind (thn (lc_core (Qf:=fun _ s'=>SP X pins D .next s') hc hN I hi ok hg ht he hs h fun L C s' m H' I' q hn f=>?_) fun _ s' hq=>wpAny_pure (wpAny_pure hq))
 show wpAny _ _ (assign (.Name y py) X.env (.ref L)) _ _ _
 refine wpAny_assign_Name (store_ok2 (v:=V.ref L) I' hN hy (.inl hyl) rfl (fun s2 I2 ⟨a,sb,ha⟩=>?_) (.inr hyl))
 obtain⟨f0,f1,f2,f3,f4,f5⟩:=f
 have haC:C≠a:=by
  rcases ha with z|z
  ·rw[z];exact f1
  ·exact fun e=>f4 y a z e.symm
 refine⟨m,hn.sameBut sb haC,fun h3 sb3=>?_⟩
 exact⟨_,H',I2.turned (t':=s2.toks) (fun b o hb e=>(sb3.2 b hb).trans e) f0 f1 f3 f4 f5,q⟩
end
end L2
namespace L2
open PySem PySem.Spec PyProof.Rows
section
variable {κ:Type} [DecidableEq κ]
def valV (kvs:List (κ×V)) (k:κ):Option V:=(kvs.find? fun kv=>decide (kv.1=k)).map (·.2)
def putK (kvs:List (κ×V)) (k:κ) (v:V):List (κ×V) :=
 if(kvs.any fun kv=>decide (kv.1=k))=true then kvs.map (fun kv=>if kv.1=k then(kv.1,v)else kv)else kvs++[(k,v)]
theorem valV_pos {p:κ×V} {r:List (κ×V)} {k:κ} (e:p.1=k):valV (p::r) k=some p.2:=by simp[valV,List.find?_cons,e]
theorem valV_neg {p:κ×V} {r:List (κ×V)} {k:κ} (e:¬p.1=k):valV (p::r) k=valV r k:=by simp[valV,List.find?_cons,e]
theorem valV_any (k:κ):∀kvs:List (κ×V),(kvs.any fun kv=>decide (kv.1=k))=(valV kvs k).isSome
  | []=>rfl
  | p::r=>by
    rw[List.any_cons]
    by_cases e:p.1=k
    · simp only[valV_pos e,decide_eq_true e,Bool.true_or,Option.isSome_some]
    · rw[valV_neg e,decide_eq_false e,Bool.false_or];exact valV_any k r
theorem valV_map (k j:κ) (y:V):∀kvs:List (κ×V),valV (kvs.map fun kv=>if kv.1=k then(kv.1,y)else kv) j=(valV kvs j).map fun x=>if j=k then y else x
  | []=>rfl
  | p :: r => by
    have ih:=valV_map k j y r
    rw[List.map_cons]
    by_cases h:p.1=k
    · rw[if_pos h]
      by_cases e:p.1=j
      · rw[valV_pos (p:=(p.1,y)) e,valV_pos e,Option.map_some,if_pos (e.symm.trans h)]
      · rw[valV_neg (p:=(p.1,y)) e,valV_neg e,ih]
    · rw[if_neg h]
      by_cases e:p.1=j
      · rw[valV_pos (p:=p) e,valV_pos e,Option.map_some,if_neg (fun z=>h (e.trans z))]
      · rw[valV_neg (p:=p) e,valV_neg e,ih]
theorem valV_snoc (k j:κ) (y:V):∀kvs:List (κ×V),valV kvs k=none→valV (kvs++[(k,y)]) j=if j=k then some y else valV kvs j
  | [],_=>by
    by_cases e:k=j
    · rw[if_pos e.symm];exact valV_pos (p:=(k,y)) e
    · rw[if_neg (fun z=>e z.symm)];exact valV_neg (p:=(k,y)) e
  | p::r,hn=>by
    rw[List.cons_append]
    have hk:¬p.1=k:=fun z=>by rw[valV_pos z]at hn;cases hn
    rw[valV_neg hk]at hn
    have ih:=valV_snoc k j y r hn
    by_cases e:p.1=j
    · rw[valV_pos e,valV_pos e,if_neg (fun z=>hk (e.trans z))]
    · rw[valV_neg e,valV_neg e,ih]
theorem valV_put (kvs:List (κ×V)) (k j:κ) (y:V):valV (putK kvs k y) j=if j=k then some y else valV kvs j:=by
 unfold putK
 by_cases a:(kvs.any fun kv=>decide (kv.1=k))=true
 ·rw[if_pos a,valV_map]
  rw[valV_any]at a
  by_cases e:j=k
  ·obtain⟨x,hx⟩:=Option.isSome_iff_exists.mp a
   rw[if_pos e,e,hx,Option.map_some,if_pos rfl]
  ·rw[if_neg e]
   cases valV kvs j with
   | none=>rfl
   | some x=>rw[Option.map_some,if_neg e]
 ·rw[if_neg a]
  refine valV_snoc k j y kvs ?_
  rw[valV_any]at a
  cases q:valV kvs k with
  | none=>rfl
  | some x=>rw[q]at a;exact(a rfl).elim
theorem length_putK (kvs:List (κ×V)) (k:κ) (v:V):(putK kvs k v).length≤kvs.length+1:=by
 unfold putK
 split
 ·rw[List.length_map];omega
 ·rw[List.length_append,List.length_cons,List.length_nil];omega
theorem putK_new {kvs:List (κ×V)} {k:κ} (v:V) (h:valV kvs k=none):putK kvs k v=kvs++[(k,v)]:=by
 unfold putK
 rw[valV_any,h]
 exact if_neg (by decide)
theorem RelO.isSome_eq {o:Option V} {u:Option Value} (r:RelO o u):o.isSome=u.isSome:=by
  cases o with
  | none=>cases u with
    | none=>rfl
    | some _=>exact(show False from r).elim
  | some _=>cases u with
    | none=>exact(show False from r).elim
    | some _=>rfl
theorem RelO.getD {o:Option V} {u:Option Value} {d:V} {d':Value} (r:RelO o u) (rd:RelV d d'):RelV (o.getD d) (u.getD d'):=by
  cases o with
  | none=>cases u with
    | none=>exact rd
    | some _=>exact(show False from r).elim
  | some _=>cases u with
    | none=>exact(show False from r).elim
    | some _=>exact r
theorem KV.val {kvs:List (κ×V)} {vs:List (κ×Value)} (r:KV kvs vs) (k:κ):RelO (valV kvs k) (valueAt vs k):=by
  unfold KV at r
  induction r with
  | nil=>exact True.intro
  | @cons p q ps qs h t ih =>
    obtain⟨h1,h2⟩:=h
    by_cases e:p.1=k
    · have e':q.1=k:=h1.symm.trans e
      have b:valueAt (q::qs) k=some q.2:=by simp[valueAt,List.find?_cons,e']
      rw[valV_pos e,b];exact h2
    · have e':¬q.1=k:=fun z=>e (h1.trans z)
      have b:valueAt (q::qs) k=valueAt qs k:=by simp[valueAt,List.find?_cons,e']
      rw[valV_neg e,b];exact ih
theorem KV.any {kvs:List (κ×V)} {vs:List (κ×Value)} (r:KV kvs vs) (k:κ):(kvs.any fun kv=>decide (kv.1=k))=vs.any fun kv=>decide (kv.1=k):=by
 unfold KV at r
 induction r with
 | nil=>rfl
 | cons h t ih=>rw[List.any_cons,List.any_cons,ih,h.1]
theorem KV.repl {kvs:List (κ×V)} {vs:List (κ×Value)} (r:KV kvs vs) (k:κ) {y:V} {u:Value} (ry:RelV y u) :
    KV (kvs.map fun kv=>if kv.1=k then(kv.1,y)else kv) (vs.map fun kv=>if kv.1=k then(kv.1,u)else kv):=by
  unfold KV at r ⊢
  induction r with
  | nil=>exact .nil
  | @cons p q ps qs h t ih =>
    rw[List.map_cons,List.map_cons]
    refine .cons ?_ ih
    obtain⟨h1,h2⟩:=h
    by_cases e:p.1=k
    · rw[if_pos e,if_pos (h1.symm.trans e)];exact⟨h1,ry⟩
    · rw[if_neg e,if_neg (fun z=>e (h1.trans z))];exact⟨h1,h2⟩
theorem KV.put {kvs:List (κ×V)} {vs:List (κ×Value)} (r:KV kvs vs) (k:κ) {y:V} {u:Value} (ry:RelV y u):KV (putK kvs k y) (stored vs k u):=by
 unfold putK stored
 rw[r.any k]
 by_cases e:(vs.any fun kv=>decide (kv.1=k))=true
 ·rw[if_pos e,if_pos e];exact r.repl k ry
 ·rw[if_neg e,if_neg e];exact Paired.snoc r ⟨rfl,ry⟩
theorem KV.length {kvs:List (κ×V)} {vs:List (κ×Value)} (r:KV kvs vs):kvs.length=vs.length:=Paired.length r
end
theorem kV_is {P:Program} {w:World} {k:Key} {u:Value} (r:RelV (kV k) u):(mixKind P w).is k u=true:=by
 cases k with
 | inl i=>obtain⟨t,e⟩:=(show ∃t,u=Value.int i t from r);subst e;exact mixKind_int P w i t
 | inr x=>obtain⟨t,e⟩:=(show ∃t,u=Value.str x t from r);subst e;exact mixKind_str P w x t
theorem items_are {P:Program} {w:World}:∀{ks:List Key} {us:List Value},Vals (ks.map kV) us→ItemsAre (mixKind P w) ks us
  | [],_,r=>by rw[List.map_nil]at r;cases r;exact .nil
  | k::ks,_,r=>by
    rw[List.map_cons]at r
    cases r with
    | cons h t=>exact .cons (kV_is h) (items_are t)
abbrev KT (H:Hp):List (List Key×V)→List (List Key×Addr×Value)→Prop:=Paired fun p q=>p.1=q.1∧H q.2.1=some (.tup (p.1.map kV))∧RelV p.2 q.2.2
theorem KT.val {H:Hp} {kvs:List (List Key×V)} {xs:List (List Key×Addr×Value)} (r:KT H kvs xs) (k:List Key):RelO (valV kvs k) ((atKey xs k).map (·.2)):=by
  induction r with
  | nil=>exact True.intro
  | @cons p q ps qs h t ih =>
    obtain⟨h1,_,h2⟩:=h
    by_cases e:p.1=k
    · have e':q.1=k:=h1.symm.trans e
      have b:atKey (q::qs) k=some q.2:=by simp[atKey,List.find?_cons,e']
      rw[valV_pos e,b];exact h2
    · have e':¬q.1=k:=fun z=>e (h1.trans z)
      have b:atKey (q::qs) k=atKey qs k:=by simp[atKey,List.find?_cons,e']
      rw[valV_neg e,b];exact ih
theorem KT.repl {H:Hp} {kvs:List (List Key×V)} {xs:List (List Key×Addr×Value)} (r:KT H kvs xs) (k:List Key) {y:V} {u:Value} (ry:RelV y u) :
    KT H (kvs.map fun kv=>if kv.1=k then(kv.1,y)else kv) (xs.map (putAt k u)):=by
  induction r with
  | nil=>exact .nil
  | @cons p q ps qs h t ih =>
    rw[List.map_cons,List.map_cons]
    refine .cons ?_ ih
    obtain⟨h1,h2,h3⟩:=h
    unfold putAt
    by_cases e:p.1=k
    · rw[if_pos e,if_pos (h1.symm.trans e)];exact⟨h1,h2,ry⟩
    · rw[if_neg e,if_neg (fun z=>e (h1.trans z))];exact⟨h1,h2,h3⟩
theorem KT.put {H:Hp} {kvs:List (List Key×V)} {xs:List (List Key×Addr×Value)} (r:KT H kvs xs) (k:List Key) {b:Addr} {y:V} {u:Value} (hb:H b=some (.tup (k.map kV))) (ry:RelV y u) :
  KT H (putK kvs k y) (storedH xs k b u):=by
 have e:(kvs.any fun kv=>decide (kv.1=k))=(atKey xs k).isSome:=by
  rw[valV_any,(r.val k).isSome_eq,Option.isSome_map]
 unfold putK storedH
 rw[e]
 by_cases q:(atKey xs k).isSome=true
 ·rw[if_pos q,if_pos q];exact r.repl k ry
 ·rw[if_neg q,if_neg q];exact Paired.snoc r ⟨rfl,hb,ry⟩
theorem KT.keeps {H H':Hp} {kvs:List (List Key×V)} {xs:List (List Key×Addr×Value)} (r:KT H kvs xs) (ht:∀b ys,H b=some (.tup ys)→H' b=some (.tup ys)):KT H' kvs xs :=
 Paired.mapP r fun _ _ z=>⟨z.1,ht _ _ z.2.1,z.2.2⟩
section
variable {P:Program} {w:World} {H:Hp} {h:Heap} {a:Addr}
theorem rd_of {u:HO} (ok:HOk P w H h) (e:Rd H a u):ObjOk P w H h a u:=e.ok ok
theorem dk_rd {kvs:List (Key×V)} (ok:HOk P w H h) (e:Rd H a (.dK kvs)):kvs.length≤sizeLine∧(a==sysModules)=false∧∃vs,KV kvs vs∧h.DictOf (mixKind P w) a vs :=
 show ObjOk P w H h a (.dK kvs) from rd_of ok e
theorem dk_of {kvs:List (Key×V)} (ok:HOk P w H h) (e:H a=some (.dK kvs)):kvs.length≤sizeLine∧(a==sysModules)=false∧∃vs,KV kvs vs∧h.DictOf (mixKind P w) a vs:=dk_rd ok (.inl e)
theorem key_of {ks:List Key} (ok:HOk P w H h) (e:H a=some (.tup (ks.map kV))):(tupleKind (mixKind P w)).is h ks a:=by
 obtain⟨_,its,r,o,h1,h2,n,h3⟩:=(show ObjOk P w H h a (.tup (ks.map kV)) from ok a _ e)
 exact⟨o,its.toArray,n,h1,h2,h3,by simpa using items_are r⟩
theorem dt_rd {kvs:List (List Key×V)} (ok:HOk P w H h) (e:Rd H a (.dT kvs)):kvs.length≤sizeLine∧(a==sysModules)=false ∧
    ∃xs,KT H kvs xs∧h.DictOfH (tupleKind (mixKind P w)) a xs:=by
  obtain⟨z,y,xs,r,o,es,ep,h1,h2,h3,h4,h5⟩:=(show ObjOk P w H h a (.dT kvs) from rd_of ok e)
  refine⟨z,y,xs,r,o,es,ep,h1,h2,h3,h4,fun x hx=>?_,h5⟩
  have all:∀{l:List (List Key×V)} {m:List (List Key×Addr×Value)},KT H l m→∀x∈m,(tupleKind (mixKind P w)).is h x.1 x.2.1:=by
    intro l m q
    induction q with
    | nil=>intro x hx;exact nomatch hx
    | @cons p q ps qs hq t ih =>
      intro x hx
      rcases List.mem_cons.mp hx with e|hx
      · subst e
        exact key_of ok (by rw[←hq.1];exact hq.2.1)
      · exact ih x hx
  exact all r x hx
theorem dt_of {kvs:List (List Key×V)} (ok:HOk P w H h) (e:H a=some (.dT kvs)):kvs.length≤sizeLine∧(a==sysModules)=false ∧
  ∃xs,KT H kvs xs∧h.DictOfH (tupleKind (mixKind P w)) a xs:=dt_rd ok (.inl e)
end
def DGet (H:Hp) (a:Addr) (y:V) (r:Option V):Prop :=
 (∃kvs k,Rd H a (.dK kvs)∧y=kV k∧r=valV kvs k)∨∃kvs k b,Rd H a (.dT kvs)∧y=.ref b∧H b=some (.tup (k.map kV))∧r=valV kvs k
def DPut (H:Hp) (a:Addr) (y v:V) (H':Hp):Prop :=
 (∃kvs k,H a=some (.dK kvs)∧y=kV k∧kvs.length<sizeLine∧H'=upd H a (.dK (putK kvs k v))) ∨
 ∃kvs k b,H a=some (.dT kvs)∧y=.ref b∧H b=some (.tup (k.map kV))∧kvs.length<sizeLine∧H'=upd H a (.dT (putK kvs k v))
theorem DGet.k {H:Hp} {a:Addr} {kvs:List (Key×V)} {k:Key} (e:H a=some (.dK kvs)):DGet H a (kV k) (valV kvs k):=.inl ⟨kvs,k,.inl e,rfl,rfl⟩
theorem DPut.k {H:Hp} {a:Addr} {kvs:List (Key×V)} {k:Key} {v:V} (e:H a=some (.dK kvs)) (hl:kvs.length<sizeLine):DPut H a (kV k) v (upd H a (.dK (putK kvs k v))):=.inl ⟨kvs,k,e,rfl,hl,rfl⟩
section
variable {X:Cx} {pins:List (Addr×Obj)} {σ:St} {H:Hp} {s:Shared} {a:Addr} {y v:V} {u r:Value} {o:Option V} {A:Around} {E:Value→Shared→Prop}
theorem Inv.big (I:Inv X pins σ H s):sysModules<s.heap.objs.size:=by
 have h:mainGlobals<s.heap.objs.size:=(I.mod.glob.keeps I.bk).lt
 exact Nat.lt_trans (by decide) h
theorem d_write {h':Heap} {t':Nat} {ob:HO} (I:Inv X pins σ H s) (mu:Mut (H a)) (hs:Heap.SameBut a s.heap h') (he:∃q,h'.get? a=some q) (new:ObjOk X.prog X.w (upd H a ob) h' a ob) :
  Inv X pins σ (upd H a ob) { s with heap:=h',toks:=t' } :=
 I.write (x:=a) (e:=a) mu (.inl rfl) (fun b q hb z=>(hs.2 b hb).trans z) he new
theorem dk_new {P:Program} {w:World} {H':Hp} {h':Heap} {kvs:List (Key×V)} {vs:List (Key×Value)} (z:kvs.length≤sizeLine) (hd:(a==sysModules)=false) (rel:KV kvs vs) (dd:h'.DictOf (mixKind P w) a vs) :
  ObjOk P w H' h' a (.dK kvs):=⟨z,hd,vs,rel,dd⟩
theorem d_setItem {H':Hp} {Q:Unit→Shared→Prop} (hu:A.units+1<cLine) (I:Inv X pins σ H s) (g:DPut H a y v H') (ry:RelV y u) (rv:RelV v r) (h:∀s',Inv X pins σ H' s'→Q () s') :
  wpAny (model X.prog X.w) A (setItem (.ref a) u r) Q E s:=by
 rcases g with⟨kvs,k,e,ey,l,eH⟩|⟨kvs,k,b,e,ey,eb,l,eH⟩
 ·subst ey eH
  obtain⟨z,hd,vs,rel,dd⟩:=dk_of I.hok e
  have hz:vs.length≤sizeLine:=by rw[←rel.length];exact z
  have hl:(putK kvs k v).length≤sizeLine:=by have:=length_putK kvs k v;omega
  refine wpAny_setItem_pairs (hsz:=hz) (kV_is ry) dd fun h' dd' hs=>h _ ?_
  have he:∃q,h'.get? a=some q:=let ⟨q,_,_,hq,_⟩:=dd';⟨q,hq⟩
  exact d_write I (by rw[e];exact True.intro) hs he (dk_new hl hd (rel.put k rv) dd')
 ·subst ey eH
  cases (show u=Value.ref b from ry)
  obtain⟨z,hd,xs,rel,dd⟩:=dt_of I.hok e
  have hz:xs.length≤sizeLine:=by rw[←Paired.length rel];exact z
  have hl:(putK kvs k v).length≤sizeLine:=by have:=length_putK kvs k v;omega
  refine wpAny_setItem_heap (hsz:=hz) (tupleKind_room_in1 hu) (key_of I.hok eb) dd fun h' dd' hs=>h _ ?_
  obtain⟨q,es,ep,hq,h2,h3,h4,_,h5⟩:=dd'
  refine d_write I (by rw[e];exact True.intro) hs ⟨q,hq⟩ ⟨hl,hd,_,(rel.put k eb rv).keeps fun c ys ec=>?_,q,es,ep,hq,h2,h3,h4,h5⟩
  rw[upd_ne (ne_of ec e (fun z=>nomatch z))]
  exact ec
end
def sDPut (td ty tv:TE):TS:=fun D σ H=>tv σ H fun v H1=>td σ H1 fun x H2=>ty σ H2 fun y H3=>∃a H4,x=.ref a∧DPut H3 a y v H4∧D.nx σ H4
section
variable {X:Cx} {o i e value:Expr} {pos pos' tpos:Pos} {td ty tv:TE}
theorem ps_dput (hu:X.A.units+1<cLine) (ho:PE X o td) (hi:PE X i ty) (hv:PE X value tv) (hs:swapsWith value (some (.Subscript o i pos')) pos.line X.env=pure false) :
  PS X (.Assign [.Subscript o i pos'] value pos) (sDPut td ty tv):=by
 intro pins s σ H D I h
 refine wpAny_Assign_Subscript (thn (hv pins s σ H _ I h) fun r s1 ⟨v,H1,I1,rv,q1⟩=>thn (ho pins s1 σ H1 _ I1 q1) fun u s2 ⟨x,H2,I2,rx,q2⟩=>thn (hi pins s2 σ H2 _ I2 q2) fun iv s3 ⟨y,H3,I3,ry,a,H4,ex,g,q3⟩=>?_) hs
 subst ex
 obtain rfl:u=Value.ref a:=rx
 exact d_setItem hu I3 g ry rv fun s4 I4=>⟨σ,H4,I4,q3⟩
end
theorem dk_empty {P:Program} {w:World} {H:Hp} (h:Heap) (hb:sysModules<h.objs.size):ObjOk P w H (h.push { cls:=.type "dict",data:=.dict #[] }) h.objs.size (.dK []) :=
 ⟨Nat.zero_le _,beq_eq_false_iff_ne.mpr (Ne.symm (Nat.ne_of_lt hb)),[],.nil,Heap.DictOf.new h⟩
def tDNewK:TE:=fun _ H Q=>∀p,H p=none→Q (.ref p) (upd H p (.dK []))
section
variable {X:Cx} {pos:Pos}
theorem pe_dnewK:PE X (.Dict [] [] pos) tDNewK:=fun pins s σ H Q I h =>
 wpAny_Dict_empty ⟨.ref s.heap.objs.size,_,I.laid (a:=s.heap.objs.size) (o:=.dK []) (t':=s.toks) (fun _ _ q=>Heap.get?_push_of_some _ q) (Nat.le_refl _) (dk_empty s.heap I.big),rfl,h _ (I.hok.fresh (Nat.le_refl _))⟩
end
structure M2 (X:Cx) (o:Expr) (m:Str) (apos:Pos) (e f:Expr) (cpos:Pos):Prop where
 base:attributeBase o m X.env (eval o X.env)=eval o X.env
 few:((backTo cpos (starEach [e,f] X.env)).all (fun x=>!x.1)&&(backToKw cpos (keywordEach [] X.env)).all (fun x=>x.1.isSome)
  && decide (([e,f]:List Expr).length+([]:List Keyword).length+(if([]:List Keyword).isEmpty then 0 else 1)<30))=true
 line:(apos.endLine==cpos.line)=true
 trees:backTo cpos (starEach [e,f] X.env)=[(false,eval e X.env),(false,eval f X.env)]
def IsD (H:Hp) (a:Addr):Prop:=(∃kvs,Rd H a (.dK kvs))∨∃kvs,Rd H a (.dT kvs)
theorem isD_at {X:Cx} {pins:List (Addr×Obj)} {σ:St} {H:Hp} {s:Shared} {a:Addr} (I:Inv X pins σ H s) (d:IsD H a) :
  s.TypeIs (.ref a) "dict" ∧ (∀b,Value.ref a=.ref b→∃ob,s.heap.get? b=some ob∧ob.dict=none)∧(a==sysModules)=false:=by
 rcases d with⟨kvs,e⟩|⟨kvs,e⟩
 ·obtain⟨_,hd,vs,_,dd⟩:=dk_rd I.hok e
  refine⟨dd.typeIs,fun b q=>?_,hd⟩
  cases q
  obtain⟨ob,_,_,h1,h2,_⟩:=dd
  exact⟨ob,h1,h2.2.1⟩
 ·obtain⟨_,hd,xs,_,dd⟩:=dt_rd I.hok e
  refine⟨dd.typeIs,fun b q=>?_,hd⟩
  cases q
  obtain⟨ob,_,_,h1,h2,_⟩:=dd
  exact⟨ob,h1,h2.2.1⟩
section
variable {X:Cx} {pins:List (Addr×Obj)} {σ:St} {H:Hp} {s:Shared} {a:Addr} {y d:V} {u r:Value} {o:Option V} {A:Around} {E:Value→Shared→Prop}
theorem d_get2 {Q:Value→Shared→Prop} (hu:A.units+1<cLine) (I:Inv X pins σ H s) (g:DGet H a y o) (ry:RelV y u) (rd:RelV d r) (h:∀w' s',Inv X pins σ H s'→RelV (o.getD d) w'→Q w' s') :
  wpAny (model X.prog X.w) A (call (.builtin "dict.get") [.ref a,u,r]) Q E s:=by
 rcases g with⟨kvs,k,e,ey,l⟩|⟨kvs,k,b,e,ey,eb,l⟩
 ·subst ey
  obtain⟨z,hd,vs,rel,dd⟩:=dk_rd I.hok e
  refine call_meetsIn PySem.F.slot_dict_get dd.typeIs PySem.F.entry_dict_get (PySem.F.args_dict_get_3 _ _ _) (meets_dict_get_default (mixKind X.prog X.w) a (kV_is ry) hd r) ⟨_,dd.mapOf,h _ _ (I.tok _) ?_⟩
  rw[l]
  exact(rel.val k).getD rd
 ·subst ey
  cases (show u=Value.ref b from ry)
  obtain⟨z,hd,xs,rel,dd⟩:=dt_rd I.hok e
  refine call_meetsIn PySem.F.slot_dict_get dd.typeIs PySem.F.entry_dict_get (PySem.F.args_dict_get_3 _ _ _) (meetsH_dict_get_default (tupleKind (mixKind X.prog X.w)) a b hd r) ⟨tupleKind_room_in1 hu,k,xs,key_of I.hok eb,dd,h _ _ (I.tok _) ?_⟩
  rw[l]
  exact(rel.val k).getD rd
end
def tDGet2 (td ty tx:TE):TE:=fun σ H Q=>td σ H fun x H1=>∃a,x=.ref a∧IsD H1 a∧ty σ H1 fun y H2=>tx σ H2 fun z H3=>∃o,DGet H3 a y o∧Q (o.getD z) H3
section
variable {X:Cx} {o e f:Expr} {apos cpos:Pos} {td ty tx:TE}
theorem pe_dget2 (hu:X.A.units+1<cLine) (ho:PE X o td) (he:PE X e ty) (hf:PE X f tx) (m:M2 X o "get" apos e f cpos):PE X (.Call (.Attribute o "get" apos) [e,f] [] cpos) (tDGet2 td ty tx):=by
 intro pins s σ H Q I h
 refine wpAny_Call_method m.base m.few m.line PySem.F.plainAttrs_dict PySem.F.slot_dict_get PySem.F.type_dict_get (thn (ho pins s σ H _ I h) fun u s1 ⟨x,H1,I1,rx,a,ex,d,q1⟩=>?_)
 subst ex
 obtain rfl:u=Value.ref a:=rx
 obtain⟨t1,t2,_⟩:=isD_at I1 d
 refine⟨t1,t2,?_⟩
 rw[m.trees]
 refine Calls.callWith_builtin rfl (Calls.evalArgs_plain (Calls.spliced_cons (thn (he pins s1 σ H1 _ I1 q1) fun iv s2 ⟨y,H2,I2,ry,q2⟩ =>
  Calls.spliced_cons (thn (hf pins s2 σ H2 _ I2 q2) fun fv s3 ⟨z,H3,I3,rz,ov,g,q3⟩=>Calls.spliced_nil ?_))))
 exact d_get2 hu I3 g ry rz fun w' s4 I4 rw'=>⟨_,H3,I4,rw',q3⟩
end
section
variable {X:Cx} {pins:List (Addr×Obj)} {σ:St} {H:Hp} {s:Shared} {a:Addr} {kvs:List (Key×V)} {A:Around} {E:Value→Shared→Prop}
theorem d_copyOf {Q:Value→Shared→Prop} (I:Inv X pins σ H s) (e:Rd H a (.dK kvs)) (h:∀p s',H p=none→Inv X pins σ (upd H p (.dK kvs)) s'→Q (.ref p) s'):wpAny (model X.prog X.w) A (call (.type "dict") [.ref a]) Q E s:=by
 obtain⟨z,hd,vs,rel,dd⟩:=dk_rd I.hok e
 refine kt_call_dict hd dd (by rw[←rel.length];exact z) fun h' dd' hs=>?_
 refine h _ _ (I.hok.fresh (Nat.le_refl _)) (I.laid (a:=s.heap.objs.size) (o:=.dK kvs) (t':=s.toks) (fun b q hq=>?_) (Nat.le_refl _) (dk_new z (beq_eq_false_iff_ne.mpr (Ne.symm (Nat.ne_of_lt I.big))) rel dd'))
 exact(hs.2 b (Nat.ne_of_lt (Heap.lt_size hq))).trans (Heap.get?_push_of_some _ hq)
end
end L2
namespace L2
open PySem PySem.Spec PyProof.Rows
section
variable {X:Cx} {pins:List (Addr×Obj)} {σ:St} {H:Hp} {s:Shared} {h':Heap}
theorem Inv.turnedNew {t':Nat} {ch:List Addr} {T:Addr} {ob:HO} (I:Inv X pins σ H s) (k:∀b o,b∉ch→s.heap.get? b=some o→h'.get? b=some o) (hf:∀b∈ch,FpOk X pins H b) (hT:s.heap.objs.size≤T)
  (new:ObjOk X.prog X.w (upd H T ob) h' T ob):Inv X pins σ (upd H T ob) { s with heap:=h',toks:=t' }:=by
 have hn:H T=none:=I.hok.fresh hT
 have nit:∀b u,H b=some u→b∉ch:=fun b u e z=>by
  have q:=(hf b z).1
  rw[q]at e;cases e
 refine I.step (g':=s.gens) (d':=s.drawn) (ch:=ch) (fun b hb=>⟨(hf b hb).2.2.2.1,(hf b hb).2.1,(hf b hb).2.2.2.2.1,(hf b hb).2.2.2.2.2⟩) (fun b o _ _ hc e _=>k b o hc e) (fun b o _ _ hc e _=>⟨o.slots,k b o hc e⟩)
  (fun b o _ e n=>?_) (fun b o hc e=>⟨o,k b o hc e⟩) (fun b xs e=>?_) (fun b o u e=>?_) (fun b ps e=>⟨#[],?_⟩) (fun m hm=>?_) (fun b u e=>?_) I.bare
 ·rw[upd_ne (Nat.ne_of_lt (Nat.lt_of_lt_of_le (Heap.lt_size e) hT))];exact n
 ·rw[upd_ne (ne_of_none e hn)];exact e
 ·rw[upd_ne (ne_of_none e hn)];exact e
 ·rw[upd_ne (ne_of_none e hn),e];simp
 ·obtain⟨o,es,ep,ho,r⟩:=hm
  exact⟨o,es,ep,k _ o (fun z=>(hf _ z).2.1 rfl) ho,r⟩
 ·by_cases hb:b=T
  ·subst hb
   rw[upd_same]at e
   cases e
   exact new
  ·rw[upd_ne hb]at e
   refine(I.hok b u e).stay (fun c v hc q=>k c v ?_ q) (fun c q=>by rw[upd_ne (ne_of_none q hn)];exact q) fun c xs q=>by rw[upd_ne (ne_of_none q hn)];exact q
   rcases hc with z|z
   ·rw[z];exact nit b u e
   ·exact nit c _ z
theorem Inv.lock {d:Addr} {u:HO} (I:Inv X pins σ H s) (h:H d=some u) (mu:Mut (some u)):∃od,Inv X pins σ (upd H d (.frz od u)) s:=by
 have x:=I.hok d u h
 have ex:∃od,s.heap.get? d=some od:=by
  cases u with
  | lst xs=>obtain⟨_,_,_,_,e⟩:=x;exact⟨_,e⟩
  | dK kvs=>obtain⟨_,_,_,_,o,_,_,e,_⟩:=x;exact⟨o,e⟩
  | dT kvs=>obtain⟨_,_,_,_,o,_,_,e,_⟩:=x;exact⟨o,e⟩
  | set S n=>obtain⟨o,_,_,_,e,_⟩:=x;exact⟨o,e⟩
  | ins C dx fs=>obtain⟨_,_,_,e,_⟩:=x;exact⟨_,e⟩
  | ext φ=>obtain⟨_,⟨_,e⟩,_⟩:=x;exact⟨_,e⟩
  | _=>exact False.elim mu
 obtain⟨od,e⟩:=ex
 have new:ObjOk X.prog X.w (upd H d (.frz od u)) s.heap d (.frz od u):=by
  refine⟨e,x.stay (fun b v _ q=>q) (fun b q=>?_) fun b xs q=>?_⟩
  ·rw[upd_ne (fun z=>by rw[z,h]at q;cases q;exact mu)];exact q
  ·rw[upd_ne (fun z=>by rw[z,h]at q;cases q;exact mu)];exact q
 exact⟨od,I.write (x:=d) (e:=d) (t':=s.toks) (h':=s.heap) (by rw[h];exact mu) (.inl rfl) (fun b v _ q=>q) ⟨od,e⟩ new⟩
theorem Inv.nofrz {d:Addr} {u:HO} (I:Inv X pins σ H s) (h:H d=some u) (mu:Mut (some u)):∀o' u',X.H_0 d≠some (.frz o' u'):=fun o' u' e=>by
 have q:=I.base.frzs d o' u' e
 rw[h]at q
 cases q
 exact mu
theorem Inv.unlock {d:Addr} {od:Obj} {u:HO} (I:Inv X pins σ H s) (h:H d=some (.frz od u)) (hn:∀o' u',X.H_0 d≠some (.frz o' u')):Inv X pins σ (upd H d u) s:=by
 have neH:∀b o,H b=some o→(∀o' u',o≠.frz o' u')→b≠d:=fun b o e hne z=>by
  rw[z,h]at e
  cases e
  exact hne _ _ rfl
 have neN:∀b,H b=none→b≠d:=fun b e z=>by rw[z,h]at e;cases e
 refine⟨I.ok,I.os,I.bare,⟨I.base.keep,I.base.slot,fun b o e n hx=>?_,I.base.there,fun b xs e=>?_,fun b o x e=>?_,fun b ps e=>?_⟩,I.loc,I.cell,?_,fun x c e=>?_,fun p hp=>?_,fun b o e=>?_,I.len⟩
 ·rw[upd_ne (neN b (I.base.free b o e n hx))];exact I.base.free b o e n hx
 ·have q:=I.base.tups b xs e
  rw[upd_ne (neH b _ q (fun _ _ z=>nomatch z))];exact q
 ·have q:=I.base.frzs b o x e
  rw[upd_ne (fun z=>by rw[z]at e;exact hn _ _ e)];exact q
 ·obtain⟨m,q⟩:=I.base.tbls b ps e
  exact⟨m,by rw[upd_ne (neH b _ q (fun _ _ z=>nomatch z))];exact q⟩
 ·rw[upd_ne (neN _ I.free)];exact I.free
 ·rw[upd_ne (neN c (I.freeC x c e))];exact I.freeC x c e
 ·obtain⟨e,n,r⟩:=I.pin p hp
  exact⟨e,by rw[upd_ne (neN _ n)];exact n,r⟩
 ·by_cases hb:b=d
  ·rw[hb,upd_same]at e
   cases e
   rw[hb]
   obtain⟨_,x⟩:=I.hok d _ h
   exact x.stay (fun c v _ q=>q) (fun c q=>by rw[upd_ne (neH c _ q (fun _ _ z=>nomatch z))];exact q) fun c xs q=>by rw[upd_ne (neH c _ q (fun _ _ z=>nomatch z))];exact q
  ·rw[upd_ne hb]at e
   exact(I.hok b o e).stay (fun c v _ q=>q) (fun c q=>by rw[upd_ne (neH c _ q (fun _ _ z=>nomatch z))];exact q) fun c xs q=>by rw[upd_ne (neH c _ q (fun _ _ z=>nomatch z))];exact q
end
def tLockE (t:TE):TE:=fun σ H Q=>∃d u,H d=some u∧Mut (some u)∧∀od,t σ (upd H d (.frz od u)) fun v H'=>H' d=some (.frz od u)∧Q v (upd H' d u)
section
variable {X:Cx}
theorem pe_lock {e:Expr} {t:TE} (h:PE X e t):PE X e (tLockE t):=by
 intro pins s σ H Q I hw
 obtain⟨d,u,hd,mu,hw⟩:=hw
 obtain⟨od,I1⟩:=I.lock hd mu
 refine thn (h pins s σ _ _ I1 (hw od)) fun v s1 ⟨x,H1,I2,r,e2,q⟩=>?_
 exact⟨x,_,I2.unlock e2 (I.nofrz hd mu),r,q⟩
theorem pi_one {tg:Expr} {pins:List (Addr×Obj)} {σ:St} {H:Hp} {s:Shared} {R:It→Hp→Prop} {J:It} {tn:Nat→Heap→Prop} {tk:Nat} (I:Inv X pins σ H s) (o:Obj)
  (T:Turn X.prog X.w X.K tg J [s.heap.objs.size] s.heap.objs.size tn) (st:tn 0 (s.heap.push o)) (q:R J H):PIE X pins σ tg R (.ref s.heap.objs.size) { s with heap:=s.heap.push o,toks:=tk }:=by
 refine⟨s.heap.objs.size,[s.heap.objs.size],tn,J,H,rfl,I.kept fun b ob e=>Heap.get?_push_of_some _ e,T,st,fun b hb=>?_,q⟩
 have e:b=s.heap.objs.size:=by simpa using hb
 subst e
 exact I.fpOk (Nat.le_refl _) (I.hok.fresh (Nat.le_refl _))
end
def Itc (lo c:Int) (n:Nat):It:=⟨fun i _=>i<n,fun i H x H'=>H'=H∧x=.int (lo+(i:Nat) * c),fun i _=>n≤i⟩
theorem turn_rangeC {P:Program} {w:World} {K:PySem.W.Frag} {tg:Expr} (it:Addr) (lo c:Int) (n:Nat):Turn P w K tg (Itc lo c n) [it] it (fun i h=>IsRangeIter h it (lo+(i:Nat) * c) ((n:Int) - (i:Nat)) c) where
 mem:=by simp
 obj:=fun i h st b hb=>by
  have e:b=it:=by simpa using hb
  subst e
  exact⟨_,st,fun v z=>nomatch z⟩
 keep:=fun i h h' st k=>k it (by simp) _ st
 item:=by
  intro X hP hw hK hc i pins s σ H E I hf st hg
  subst hP hw hK
  obtain⟨f0,f1,f2,f3,f4,f5⟩:=hf it (by simp)
  have W:=Walks.range (prog:=X.prog) (w:=X.w) (I.ok.hd hc) it lo c n
  refine W.item i s _ _ hg st fun v h' tk hv st' kk=>?_
  obtain⟨t,rfl⟩:=hv
  have I1:Inv X pins σ H { s with heap:=h',toks:=tk }:=I.turned (fun b o hb e=>kk b o (by simpa using hb) e) f0 f1 f3 f4 f5
  exact⟨_,rfl,go_of (s:={ s with heap:=h',toks:=tk }) (n := "range_iterator") st' rfl rfl (by decide) ⟨.int (lo+(i:Nat) * c),H,I1,⟨t,rfl⟩,⟨rfl,rfl⟩,st',fun b hb=>(hf b hb).1⟩⟩
 done:=by
  intro X hP hw hK hc i pins s σ H E I hf st hg
  subst hP hw hK
  obtain⟨f0,f1,f2,f3,f4,f5⟩:=hf it (by simp)
  exact wpAny_pyNext_range_end (I.ok.hd hc) st (by have:n≤i:=hg;omega) fun h' eb=>⟨rfl,I.turned (t':=s.toks) (fun b o hb e=>eb b o hb e) f0 f1 f3 f4 f5⟩
 self:=fun A i s Q E st h=>wpAny_pyIter_rangeiter st h
def RgC (i j c:Int) (n:Nat):Prop:=c≠0∧c.natAbs<1073741824∧Builtin.Range.small i j c=true∧Builtin.Range.rangeSize i j c=n
theorem RgC.neg {i j:Int} (ha:-(2 ^ 62)≤i) (ha':i<2 ^ 62) (hb:-(2 ^ 62)≤j) (hb':j<2 ^ 62):RgC i j (-1) (i - j).toNat :=
 ⟨by decide,by decide,PySem.W.small_down ha ha' hb hb',PySem.W.rangeSize_downNat i j⟩
def iRng3 (ta:TA):TI:=fun σ H R=>ta σ H fun vs H1=>∃(i j c:Int) (n:Nat),vs=[.int i,.int j,.int c]∧RgC i j c n∧R (Itc i c n) H1
section
variable {X:Cx} {tg:Expr}
theorem pi_range3 {a b c:Expr} {ta:TA} {p pos:Pos} (hg:Gl X "range") (hm:X.mg "range" = none) (ha:PA X [a,b,c] ta)
    (hs:starEach [a,b,c] X.env=(false,eval a X.env)::starEach [b,c] X.env:=by rfl) (hpl:(backTo pos (starEach [b,c] X.env)).any (·.1)=false:=by rfl) :
    PI X tg (.Call (.Name "range" p) [a,b,c] [] pos) (iRng3 ta):=by
  intro pins s σ H R I h
  refine Call_ (ld_blt I hg hm boot_range (PyProof.Rows.callWith_type1 (thn (ha pos pins s σ H _ I h) fun us s1 ⟨vs,H1,I1,r1,q1⟩=>?_) hs hpl))
  obtain⟨i,j,k,n,e,⟨c0,c1,c2,c3⟩,q⟩:=q1
  subst e
  cases r1 with
  | cons r rr =>
    cases rr with
    | cons r' rr =>
      cases rr with
      | cons r'' rr =>
        cases rr
        obtain⟨t,rfl⟩:=r
        obtain⟨t',rfl⟩:=r'
        obtain⟨t'',rfl⟩:=r''
        refine call_range_3 c0 ?_ (.inl (PyProof.noPylong_small c1))
        refine wpAny_pyIter_range (IsRange.new ..) c2 ?_
        have I2:Inv X pins σ H1 { s1 with heap:=s1.heap.push { cls:=.type "range",data:=.fields #[.int i t,.int j t',.int k t''] } }:=I1.kept (t':=s1.toks) fun b o e=>Heap.get?_push_of_some _ e
        refine pi_one (tk:=s1.toks) I2 _ (turn_rangeC _ i k n) ?_ q
        have e1:i+((0:Nat):Int) * k=i:=by simp
        have e2:(n:Int) - ((0:Nat):Int)=Builtin.Range.rangeSize i j k:=by rw[c3];simp
        show IsRangeIter _ _ (i+((0:Nat):Int) * k) ((n:Int) - ((0:Nat):Int)) k
        rw[e1,e2]
        exact Heap.get?_push_size _ rfl
end
theorem for_rangeC {lo c:Int} {n:Nat} {g:TG} {tb:TS} {D:Ends} {σ:St} {H:Hp} (Pv:Nat→St→Hp→Prop) (h0:Pv 0 σ H)
  (hs:∀i σ H,i<n→Pv i σ H→g (.int (lo+(i:Nat) * c)) σ H fun σ2 H2=>tb { D with nx:=Pv (i+1),ct:=Pv (i+1),bk:=D.nx } σ2 H2) (hd:∀σ H,Pv n σ H→D.nx σ H) :
  ∃W:Nat→Nat→St→Hp→Prop,(∃m,W 0 m σ H)∧∀i m σ H,W i m σ H →
   ((Itc lo c n).stop i H∧D.nx σ H)∨((Itc lo c n).go i H∧∃N:St→Hp→Prop,(∀σ' H',N σ' H'→∃m',m'<m∧W (i+1) m' σ' H')∧∀x H',(Itc lo c n).yld i H x H'→g x σ H' fun σ2 H2=>tb { D with nx:=N,ct:=N,bk:=D.nx } σ2 H2):=by
 refine⟨fun i m σ H=>m=n - i∧i≤n∧Pv i σ H,⟨n,by simp,Nat.zero_le _,h0⟩,?_⟩
 rintro i m σ H ⟨rfl,hi,p⟩
 by_cases hlt:i<n
 ·refine .inr ⟨hlt,Pv (i+1),fun σ' H' p'=>⟨n - (i+1),by omega,rfl,hlt,p'⟩,fun x H' y=>?_⟩
  obtain⟨e,y⟩:=y
  subst e y
  exact hs i σ _ hlt p
 ·have e:i=n:=by omega
  subst e
  exact .inl ⟨Nat.le_refl _,hd σ H p⟩
theorem kv_get {κ:Type} {kvs:List (κ×V)} {vs:List (κ×Value)} (h:KV kvs vs):∀{i:Nat} {k:κ} {v:V},kvs[i]? = some (k,v)→∃u,vs[i]? = some (k,u)∧RelV v u:=by
  unfold KV at h
  induction h with
  | nil=>intro i k v e;simp at e
  | @cons a b l₁ l₂ r t ih =>
    intro i k v e
    cases i with
    | zero =>
      simp only[List.getElem?_cons_zero,Option.some.injEq]at e
      subst e
      refine⟨b.2,?_,r.2⟩
      simp only[List.getElem?_cons_zero]
      exact congrArg some (Prod.ext r.1.symm rfl)
    | succ j =>
      simp only[List.getElem?_cons_succ]at e ⊢
      exact ih e
theorem relV_key {k:Key} {u:Value} (h:keyIs k u=true):RelV (kV k) u:=by
 rcases keyIs_shape h with⟨i,t,rfl,rfl⟩|⟨x,t,rfl,rfl⟩
 ·exact⟨t,rfl⟩
 ·exact⟨t,rfl⟩
section
variable {X:Cx} {pins:List (Addr×Obj)} {σ:St} {H:Hp} {s:Shared} {d:Addr} {o:Obj}
theorem Inv.frzK {kvs:List (Key×V)} (I:Inv X pins σ H s) (h:H d=some (.frz o (.dK kvs))) :
  (d==sysModules)=false∧s.heap.get? d=some o∧o.ExactDict∧∃(es:Array DictEntry) (ep:Nat) (vs:List (Key×Value)),o.data=.dict es ep∧es.size=kvs.length∧KV kvs vs∧s.heap.DictAt (mixKind X.prog X.w) d vs ep:=by
 obtain⟨hd,z,hs,vs,kv,o',es,ep,ho,hx,hdt,r⟩:=I.hok d _ h
 rw[hd]at ho
 cases ho
 refine⟨hs,hd,hx,es,ep,vs,hdt,?_,kv,o,es,hd,hx,hdt,r⟩
 have l1:=r.2.1.length
 have l2:kvs.length=vs.length:=Paired.length kv
 rw[Array.length_toList]at l1
 omega
end
def Itd (d:Addr) (o:Obj) (kvs:List (Key×V)):It :=
 ⟨fun i H=>H d=some (.frz o (.dK kvs))∧i<kvs.length,fun i H x H'=>H'=H∧∃k,kvs[i]? = some (k,x),fun i H=>H d=some (.frz o (.dK kvs))∧kvs.length≤i⟩
def Iti (d:Addr) (o:Obj) (kvs:List (Key×V)):It :=
 ⟨fun i H=>H d=some (.frz o (.dK kvs))∧i<kvs.length,fun i H x H'=>∃T k v,kvs[i]? = some (k,v)∧x=.ref T∧H T=none∧H'=upd H T (.tup [kV k,v]),fun i H=>H d=some (.frz o (.dK kvs))∧kvs.length≤i⟩
theorem dict_ep {o:Obj} {es es':Array DictEntry} {ep ep':Nat} (h:o.data=.dict es ep) (h':o.data=.dict es' ep'):es'=es∧ep'=ep:=by
 rw[h]at h'
 cases h'
 exact⟨rfl,rfl⟩
section
variable {P:Program} {w:World} {K:PySem.W.Frag} {tg:Expr} {d:Addr} {o:Obj} {es:Array DictEntry} {ep:Nat}
theorem turn_vals {kvs:List (Key×V)} (it:Addr) (hod:o.data=.dict es ep):Turn P w K tg (Itd d o kvs) [it] it (fun i h=>h.IsValIter it d i kvs.length ep) where
 mem:=by simp
 obj:=fun i h st b hb=>by
  have e:b=it:=by simpa using hb
  subst e
  obtain⟨oi,e,c,dd⟩:=st
  exact⟨oi,e,fun v z=>by rw[dd]at z;cases z⟩
 keep:=fun i h h' st k=>st.at fun oi e=>k it (by simp) oi e
 item:=by
  intro X hP hw hK hc i pins s σ H E I hf st hg
  subst hP hw hK
  obtain⟨hd,hi⟩:=hg
  obtain⟨f0,f1,f2,f3,f4,f5⟩:=hf it (by simp)
  obtain⟨hs,hgd,hx,es',ep',vs,hdt,hsz,kv,hm⟩:=I.frzK hd
  obtain⟨rfl,rfl⟩:=dict_ep hod hdt
  obtain⟨⟨k,v⟩,hkv⟩:∃p,kvs[i]? = some p:=⟨kvs[i],List.getElem?_eq_getElem hi⟩
  obtain⟨u,hu,ru⟩:=kv_get kv hkv
  have hl:kvs.length=vs.length:=Paired.length kv
  rw[hl]at st
  refine wpAny_pyNext_values_item st hm hu fun h' st' sb=>?_
  have I1:Inv X pins σ H { s with heap:=h' }:=I.turned (t':=s.toks) (fun b ob hb e=>(sb.2 b hb).trans e) f0 f1 f3 f4 f5
  obtain⟨oi,e,c,dd⟩:=id st'
  refine⟨u,rfl,go_of (s:={ s with heap:=h' }) e c dd (by decide) ⟨v,H,I1,ru,⟨rfl,k,hkv⟩,?_,fun b hb=>(hf b hb).1⟩⟩
  show h'.IsValIter it d (i+1) kvs.length _
  rw[hl]
  exact st'
 done:=by
  intro X hP hw hK hc i pins s σ H E I hf st hg
  subst hP hw hK
  obtain⟨hd,hi⟩:=hg
  obtain⟨f0,f1,f2,f3,f4,f5⟩:=hf it (by simp)
  obtain⟨hs,hgd,hx,es',ep',vs,hdt,hsz,kv,hm⟩:=I.frzK hd
  obtain⟨rfl,rfl⟩:=dict_ep hod hdt
  have hl:kvs.length=vs.length:=Paired.length kv
  rw[hl]at st
  exact wpAny_pyNext_values_end (I.ok.hd hc) st hm (List.getElem?_eq_none (by omega)) fun h' eb=>⟨rfl,I.turned (t':=s.toks) (fun b ob hb e=>eb b ob hb e) f0 f1 f3 f4 f5⟩
 self:=fun A i s Q E st h=>wpAny_pyIter_valiter st h
theorem turn_items {kvs:List (Key×V)} {elts:List Expr} {kk:Nat} {tpos:Pos} (it:Addr) (hod:o.data=.dict es ep) :
  Turn P w K (.Tuple elts kk tpos) (Iti d o kvs) [it] it (fun i h=>∃ok ov,IsItemIter h it d i kvs.length ep ok ov) where
 mem:=by simp
 obj:=fun i h st b hb=>by
  have e:b=it:=by simpa using hb
  subst e
  obtain⟨ok,ov,e⟩:=st
  exact⟨_,e,fun v z=>nomatch z⟩
 keep:=fun i h h' st k=>let ⟨ok,ov,e⟩:=st;⟨ok,ov,k it (by simp) _ e⟩
 item:=by
  intro X hP hw hK hc i pins s σ H E I hf st hg
  subst hP hw hK
  obtain⟨hd,hi⟩:=hg
  obtain⟨hs,hgd,hx,es',ep',vs,hdt,hsz,kv,hm⟩:=I.frzK hd
  obtain⟨rfl,rfl⟩:=dict_ep hod hdt
  obtain⟨⟨k,v⟩,hkv⟩:∃p,kvs[i]? = some p:=⟨kvs[i],List.getElem?_eq_getElem hi⟩
  obtain⟨u,hu,ru⟩:=kv_get kv hkv
  have hl:kvs.length=vs.length:=Paired.length kv
  obtain⟨ok,ov,he⟩:=st
  rw[hl]at he
  have hlt:it<s.heap.objs.size:=Heap.lt_size he
  refine wpAny_pyNext_items_item he hm hu fun key h' hkey ho hT hz hk=>?_
  refine⟨_,rfl,wpAny_letOwnedTupleGo_items (s:={ s with heap:=h' }) ho fun h'' he' sb=>?_⟩
  have hT2:h''.get? s.heap.objs.size=some { cls:=.type "tuple",data:=.seq #[key,u] }:=(sb.2 _ (Nat.ne_of_gt hlt)).trans hT
  have new:ObjOk X.prog X.w (upd H s.heap.objs.size (.tup [kV k,v])) h'' s.heap.objs.size (.tup [kV k,v]) :=
   ⟨by show 2≤sizeLine;decide,[key,u],.cons (relV_key (show keyIs k key=true from hkey)) (.cons ru .nil),⟨_,hT2,rfl,_,rfl⟩⟩
  have I1:Inv X pins σ (upd H s.heap.objs.size (.tup [kV k,v])) { s with heap:=h'' } :=
   I.turnedNew (t':=s.toks) (ch:=[it]) (fun b ob hb e=>(sb.2 b (by simpa using hb)).trans (hk b ob (by simpa using hb) e)) hf (Nat.le_refl _) new
  refine⟨.ref s.heap.objs.size,_,I1,rfl,⟨_,k,v,hkv,rfl,I.hok.fresh (Nat.le_refl _),rfl⟩,⟨key,u,?_⟩,fun b hb=>?_⟩
  ·rw[hl];exact he'
  ·have e:b=it:=by simpa using hb
   rw[e,upd_ne (Nat.ne_of_lt hlt)]
   exact(hf it (by simp)).1
 done:=by
  intro X hP hw hK hc i pins s σ H E I hf st hg
  subst hP hw hK
  obtain⟨hd,hi⟩:=hg
  obtain⟨f0,f1,f2,f3,f4,f5⟩:=hf it (by simp)
  obtain⟨hs,hgd,hx,es',ep',vs,hdt,hsz,kv,hm⟩:=I.frzK hd
  obtain⟨rfl,rfl⟩:=dict_ep hod hdt
  have hl:kvs.length=vs.length:=Paired.length kv
  obtain⟨ok,ov,he⟩:=st
  rw[hl]at he
  exact wpAny_pyNext_items_end (I.ok.hd hc) he hm (List.getElem?_eq_none (by omega)) fun h' eb=>⟨rfl,I.turned (t':=s.toks) (fun b ob hb e=>eb b ob hb e) f0 f1 f3 f4 f5⟩
 self:=fun A i s Q E st h=>let ⟨_,_,e⟩:=st;PySem.W.kcp_self e h
end
def iItems (td:TE):TI:=fun σ H R=>td σ H fun x H1=>∃d o kvs,x=.ref d∧H1 d=some (.frz o (.dK kvs))∧R (Iti d o kvs) H1
section
variable {X:Cx} {tg e:Expr} {td:TE} {apos cpos:Pos}
theorem pi_items {elts:List Expr} {kk:Nat} {tpos:Pos} (he:PE X e td) (hbase:attributeBase e "items" X.env (eval e X.env)=eval e X.env:=by rfl) (hline:(apos.endLine==cpos.line)=true:=by rfl) :
  PI X (.Tuple elts kk tpos) (.Call (.Attribute e "items" apos) [] [] cpos) (iItems td):=by
 intro pins s σ H R I h
 refine wpAny_Call_method (T := "dict") (id := "dict.items") hbase rfl hline F.plainAttrs_dict F.slot_dict_items F.type_dict_items (thn (he pins s σ H _ I h) fun u s1 ⟨x,H1,I1,rx,d,o,kvs,ex,hd,q⟩=>?_)
 subst ex
 obtain rfl:u=Value.ref d:=rx
 obtain⟨hs,hgd,hx,es,ep,vs,hdt,hsz,kv,hm⟩:=I1.frzK hd
 have hl:kvs.length=vs.length:=Paired.length kv
 refine⟨hm.dictOf.typeIs,hm.dictOf.mapOf.noDict,?_⟩
 have I2:Inv X pins σ H1 { s1 with heap:=s1.heap.push { cls:=.type "dict_items",data:=.fields #[.ref d] } }:=I1.kept (t':=s1.toks) fun b ob q=>Heap.get?_push_of_some _ q
 have fin:wpAny (model X.prog X.w) X.A (pyIter (.ref s1.heap.objs.size)) (PIE X pins σ (.Tuple elts kk tpos) R) X.xe { s1 with heap:=s1.heap.push { cls:=.type "dict_items",data:=.fields #[.ref d] } }:=by
  refine wpAny_pyIter_items (d:=d) (knd:=mixKind X.prog X.w) ⟨_,Heap.get?_push_size _ rfl,rfl,rfl⟩ (hm.push _) (pi_one (tk:=s1.toks) I2 _ (turn_items _ hdt) ⟨.none,.none,?_⟩ q)
  rw[hl]
  exact Heap.get?_push_size _ rfl
 show wpAny _ _ (callWith cpos (.builtin "dict.items") [.ref d] [] []) _ X.xe s1
 exact method_meetsIn F.slot_dict_items F.entry_dict_items rfl (PySem.evalArgs_none ⟨rfl,hm.dictOf.typeIs,F.args_dict_items_1 _,_,meets_dict_items (mixKind X.prog X.w) d hs,⟨vs,hm.dictOf⟩,fin⟩)
end
def Ite (K:PySem.W.Frag) (a:Addr):It :=
 ⟨fun i H=>∃(xs:List V) (x:V),SqL K H a xs∧xs[i]? = some x,fun i H v H'=>∃T x,v=.ref T∧H T=none∧H'=upd H T (.tup [.int (i:Nat),x])∧∀xs,SqL K H a xs→xs[i]? = some x,fun i H=>∃xs:List V,SqL K H a xs∧xs.length≤i⟩
theorem turn_enum {P:Program} {w:World} {K:PySem.W.Frag} {elts:List Expr} {kk:Nat} {tpos:Pos} (a e it:Addr) :
    Turn P w K (.Tuple elts kk tpos) (Ite K a) [e,it] e (fun i h=>(∃old,IsEnum h e it ((i:Nat):Int) old)∧h.IsListIter it a i∧e≠it) where
  mem:=by simp
  obj:=fun i h st b hb=>by
    obtain⟨⟨old,he⟩,⟨o,ho,hc,hd⟩,_⟩:=st
    have e':b=e∨b=it:=by simpa using hb
    rcases e' with z|z
    · rw[z];exact⟨_,he,fun v q=>nomatch q⟩
    · rw[z];exact⟨o,ho,fun v q=>by rw[hd]at q;cases q⟩
  keep:=fun i h h' st k=>let ⟨⟨old,he⟩,hi,hne⟩:=st;⟨⟨old,k e (by simp) _ he⟩,hi.at fun o q=>k it (by simp) o q,hne⟩
  item := by
    intro X hP hw hK hc i pins s σ H E I hf st hg
    subst hP hw hK
    obtain⟨⟨old,he⟩,hit,hne⟩:=st
    obtain⟨xs,x,hq,hx⟩:=hg
    obtain⟨its,rv,p,hz⟩:=I.list hq
    obtain⟨u,hu,ru⟩:=rv.get hx
    have hel:e<s.heap.objs.size:=Heap.lt_size he
    have hil:it<s.heap.objs.size:=by obtain⟨_,q,_⟩:=hit;exact Heap.lt_size q
    refine wpAny_pyNext_enum_item he hit p.isList (x:=u) (by simpa using hu) hne fun h' ho hit' hT hsz hk=>?_
    refine⟨_,rfl,wpAny_letOwnedTupleGo_enum (s:={ s with heap:=h',toks:=s.toks+1 }) ho fun h'' he' sb=>?_⟩
    have hT2:h''.get? s.heap.objs.size=some { cls:=.type "tuple",data:=.seq #[.int i s.toks,u] }:=(sb.2 _ (Nat.ne_of_gt hel)).trans hT
    have new:ObjOk X.prog X.w (upd H s.heap.objs.size (.tup [.int (i:Nat),x])) h'' s.heap.objs.size (.tup [.int (i:Nat),x]) :=
      ⟨by show 2≤sizeLine;decide,[.int i s.toks,u],.cons ⟨_,rfl⟩ (.cons ru .nil),⟨_,hT2,rfl,_,rfl⟩⟩
    have I1:Inv X pins σ (upd H s.heap.objs.size (.tup [.int (i:Nat),x])) { s with heap:=h'',toks:=s.toks+1 } :=
      I.turnedNew (ch:=[e,it]) (fun b ob hb q=>(sb.2 b (fun z=>hb (by simp[z]))).trans (hk b ob (fun z=>hb (by simp[z])) (fun z=>hb (by simp[z])) q)) hf (Nat.le_refl _) new
    refine⟨.ref s.heap.objs.size,_,I1,rfl,⟨_,x,rfl,I.hok.fresh (Nat.le_refl _),rfl,fun ys hy=>by rw[I.list_inj hy hq];exact hx⟩,⟨⟨u,?_⟩,hit'.at fun o q=>(sb.2 it (Ne.symm hne)).trans q,hne⟩,fun b hb=>?_⟩
    · have e1:((i+1:Nat):Int)=(i:Int)+1:=by omega
      rw[e1];exact he'
    · have hb':b<s.heap.objs.size:=by
        have e':b=e∨b=it:=by simpa using hb
        rcases e' with z|z
        · rw[z];exact hel
        · rw[z];exact hil
      rw[upd_ne (Nat.ne_of_lt hb')]
      exact(hf b hb).1
  done:=by
    intro X hP hw hK hc i pins s σ H E I hf st hg
    subst hP hw hK
    obtain⟨⟨old,he⟩,hit,hne⟩:=st
    obtain⟨xs,hq,hx⟩:=hg
    obtain⟨its,rv,p,hz⟩:=I.list hq
    obtain⟨f0,f1,f2,f3,f4,f5⟩:=hf it (by simp)
    have hl:=rv.length
    exact wpAny_pyNext_enum_end (I.ok.hd hc) he hit p.isList (by simp;omega) fun h' eb=>⟨rfl,I.turned (t':=s.toks) (fun b o hb q=>eb b o hb q) f0 f1 f3 f4 f5⟩
  self:=fun A i s Q E st h=>let ⟨⟨_,he⟩,_⟩:=st;wpAny_pyIter_enum he h
def iEnum (K:PySem.W.Frag) (ta:TA):TI:=fun σ H R=>ta σ H fun vs H1=>∃a xs,vs=[.ref a]∧SqL K H1 a xs∧R (Ite K a) H1
theorem pi_enum {X:Cx} {e:Expr} {ta:TA} {p pos tpos:Pos} {elts:List Expr} {kk:Nat} (hg:Gl X "enumerate") (hm:X.mg "enumerate" = none) (ha:PA X [e] ta) (hs:starEach [e] X.env=[(false,eval e X.env)]:=by rfl) :
    PI X (.Tuple elts kk tpos) (.Call (.Name "enumerate" p) [e] [] pos) (iEnum X.K ta):=by
  intro pins s σ H R I h
  refine Call_ (ld_blt I hg hm boot_enumerate (PyProof.Rows.callWith_type1 (thn (ha pos pins s σ H _ I h) fun us s1 ⟨vs,H1,I1,r1,q1⟩=>?_) hs rfl))
  obtain⟨a,xs,ex,hq,q⟩:=q1
  subst ex
  cases r1 with
  | cons r rr =>
    cases rr
    cases r
    obtain⟨its,rv,p',hz⟩:=I1.list hq
    refine call_enumerate_list p'.isList fun h' he hit hsz hk=>wpAny_pyIter_enum he ?_
    have I2:Inv X pins σ H1 { s1 with heap:=h' }:=I1.kept (t':=s1.toks) hk
    refine⟨s1.heap.objs.size+1,[s1.heap.objs.size+1,s1.heap.objs.size],_,_,H1,rfl,I2,turn_enum a (s1.heap.objs.size+1) s1.heap.objs.size,⟨⟨.none,he⟩,hit,Nat.succ_ne_self _⟩,fun b hb=>?_,q⟩
    have e':b=s1.heap.objs.size+1∨b=s1.heap.objs.size:=by simpa using hb
    have hle:s1.heap.objs.size≤b:=by
      rcases e' with z|z
      · rw[z];exact Nat.le_add_right _ _
      · rw[z];exact Nat.le_refl _
    exact I1.fpOk hle (I1.hok.fresh hle)
end L2
namespace L2
open PySem PySem.Spec PyProof.Rows
theorem vals_ints:∀{vs:List Value} {ns:List Int},IntsAre vs ns→Vals (ns.map V.int) vs
 | _,_,.nil=>.nil
 | _,_,.cons n t h=>.cons ⟨t,rfl⟩ (vals_ints h)
def Only (H:Hp):Prop:=∀b,H b=none∨∃o xs,H b=some (.frz o (.lst xs))
theorem law_call {P:Program} {w:World} {K:PySem.W.Frag} {mg mb:Str→Option Value} {CX:CXT} {k:Nat} {fa a:Addr} {fd:FuncData} {x:Str} {sp:Sp} {s₁:Shared} {vs:List Value} {ns:List Int}
    (KX:K.In s₁.heap) (hns:s₁.heap.Ns mainGlobals mg) (hb:s₁.heap.Ns builtinsNs mb) (hbb:∀x:Str,x ≠ "__name__" → mb x=bootBuiltins x) (hlim:s₁.heap.NoLimit) (hg:s₁.gens=#[])
    (ha:s₁.heap.get? a=some { cls:=.type "list",data:=.seq vs.toArray }) (hi:IntsAre vs ns) (hl:ns.length≤sizeLine) (hr:Room k callerA)
    (F:∀base:Heap,K.In base→base.Ns mainGlobals mg→FnOk P w K mg base CX k fa fd [x] sp) (hbind:∀(s:Shared) (u:Value),BindsTo s fd ⟨[u],[]⟩ [(x,u)])
    (hsp:∀H:Hp,Only H→SqL K H a (ns.map V.int)→sp [.ref a] H (fun v _=>v=.bl true) fun _ _ _=>False)
    (hCX:∀H e s',CX [] H s₁ (fun _ _ _=>False) e s'→False) :
    codeAny (model P w) callerA (.call (.ref fa) ⟨[.ref a],[]⟩) (fun r s'=>r=.ok (.ret (.bool true))∧OldK s₁.heap s'.heap∧s'.os=s₁.os∧AllBare s'.gens) s₁:=by
  have rv:=vals_ints hi
  have lenV:=hi.length
  have core : ∀ H : Hp, Only H → SqL K H a (ns.map V.int) → HOk P w H s₁.heap → (∀ b, H b ≠ none → b = a) → (H a ≠ none → K.lookup a = none) →
      codeAny (model P w) callerA (.call (.ref fa) ⟨[.ref a],[]⟩) (fun r s'=>r=.ok (.ret (.bool true))∧OldK s₁.heap s'.heap∧s'.os=s₁.os∧AllBare s'.gens) s₁:=by
    intro H hO hS hok hA hK
    have base_of:∀{b:Addr} {o:Obj},s₁.heap.get? b=some o→H b=none→(hidT s₁.heap H).get? b=some o:=fun e n=>hidT_get e n
    have noA:∀{b:Addr} {o:Obj} {es:Array DictEntry} {ep:Nat},s₁.heap.get? b=some o→o.data=.dict es ep→H b=none:=fun {b o es ep} e d=>by
      cases q:H b with
      | none=>rfl
      | some u =>
        have e':b=a:=hA b (by rw[q];simp)
        subst e'
        rw[ha]at e;cases e
        have d':Data.seq vs.toArray _=Data.dict es ep:=d
        cases d'
    have nsK:∀{b:Addr} {m:Str→Option Value},s₁.heap.Ns b m→(hidT s₁.heap H).Ns b m:=fun {b m} ⟨o,es,ep,e,d,r⟩=>⟨o,es,ep,base_of e (noA e d),d,r⟩
    have hKb:K.In (hidT s₁.heap H):=fun b o e=>base_of (KX b o e) (by
      cases q:H b with
      | none=>rfl
      | some u =>
        have e':b=a:=hA b (by rw[q];simp)
        subst e'
        rw[hK (by rw[q];simp)]at e;cases e)
    have hM:Mod K mg (hidT s₁.heap H):=⟨hKb,nsK hns,⟨mb,nsK hb,hbb⟩,let ⟨mc,h1,h2⟩:=hlim;⟨mc,nsK h1,h2⟩⟩
    have e0:Env0 P w K mg (hidT s₁.heap H) callerA [] s₁ H:=⟨rfl,hM,fun b o e=>of_hidT e,Nat.le_of_eq (hidT_size _ _),trivial,fun b hb=>absurd (show b∈([]:List Addr) from hb) (by simp),hok,.of_eq hg⟩
    refine codeAny_mono ((F _ hKb (nsK hns)).run callerA [] s₁ H ⟨[.ref a],[]⟩ [.ref a] [.ref a] _ _ hr e0 (hbind s₁ (.ref a)) (.cons rfl .nil) (hsp H hO hS)) fun r s' h=>?_
    cases r with
    | error e=>exact(hCX H e s' h).elim
    | ok fl =>
      cases fl with
      | next=>exact False.elim h
      | brk=>exact False.elim h
      | cont=>exact False.elim h
      | ret u =>
        obtain⟨v,H',os,bare,un,hok',r',q⟩:=h
        have q':v=.bl true:=q
        subst q'
        obtain rfl:u=Value.bool true:=r'
        refine⟨rfl,OldK.of_keep fun b o e=>?_,os,bare⟩
        cases q:H b with
        | none=>exact un.keep b o e q (by intro z;exact absurd (show b∈([]:List Addr) from z) (by simp)) (by simp)
        | some u =>
          rcases hO b with z|⟨ob,xs,z⟩
          · rw[q]at z;cases z
          · have z2:=un.frzs b ob _ z
            obtain⟨e1,_⟩:=hok b _ z
            obtain⟨e2,_⟩:=hok' b _ z2
            rw[e]at e1;cases e1
            exact e2
  cases hk:K.lookup a with
  | some o =>
    have e:=KX a o hk
    rw[ha]at e
    cases e
    refine core (fun _=>none) (fun _=>.inl rfl) (.inr ⟨_,vs.toArray,_,hk,rfl,rfl,rfl,by rw[List.size_toArray,lenV];exact hl,by simpa using rv⟩) (fun b u z=>by have z':(none:Option HO)=some u:=z;cases z') (fun b z=>absurd rfl z) fun z=>absurd rfl z
  | none =>
    refine core (fun b=>if b=a then some (.frz { cls:=.type "list",data:=.seq vs.toArray } (.lst (ns.map V.int)))else none) (fun b=>?_) (.inl (.inr ⟨{ cls:=.type "list",data:=.seq vs.toArray },if_pos rfl⟩)) (fun b u z=>?_) (fun b z=>?_) fun _=>hk
    · by_cases hb:b=a
      · exact .inr ⟨_,_,if_pos hb⟩
      · exact .inl (if_neg hb)
    · by_cases hb:b=a
      · have z':=(if_pos hb).symm.trans z
        cases z'
        subst hb
        exact⟨ha,by rw[List.length_map];exact hl,vs,_,rv,ha⟩
      · have z':=(if_neg hb).symm.trans z
        cases z'
    · by_cases hb:b=a
      · exact hb
      · exact absurd (if_neg hb) z
end L2
namespace L2
open PySem PySem.Spec PyProof.Rows
def inClass (s:Stmt) (j:Nat):Stmt:=match s with
 | .ClassDef _ _ _ body _ _ _ _ _ _ _=>body.getD j (.Pass ⟨0,0,0,0⟩)
 | _=>.Pass ⟨0,0,0,0⟩
def defArgs (s:Stmt):Arguments:=match s with
 | .FunctionDef _ a _ _ _ _ _ _ _ _=>a
 | _=>{ posonlyargs:=[],args:=[],vararg:=none,kwonlyargs:=[],kw_defaults:=[],kwarg:=none,defaults:=[] }
def defBody (s:Stmt):List Stmt:=match s with
 | .FunctionDef _ _ b _ _ _ _ _ _ _=>b
 | _=>[]
def defScope (s:Stmt):Scope:=match s with
 | .FunctionDef _ _ _ _ _ _ sc _ _ _=>sc
 | _=>{ kind:=.function,names:=[],isGenerator:=false,isCoroutine:=false }
abbrev CX0:CXT:=fun _ _ _ _ _ _=>False
abbrev E0:XK:=fun _ _ _=>False
theorem pass0 {X:Cx}:Passes CX0 X E0:=fun _ _ _ _ _ _ _ h=>h.elim
structure Fun (K:PySem.W.Frag) (x qual:Str) (st:Stmt) (f:Addr) (fd:FuncData):Prop where
 ex:∃(oc:Value) (od:Option Addr) (kV doc pm:Value) (an:Option Addr) (cdv ct:Value) (osl:Array (Option Value)),
  fd=PySem.W.fnOf x qual (defArgs st) (defBody st) (defScope st) .none kV doc pm an cdv ct∧K.lookup f=some ⟨oc,od,.func fd,osl⟩∧PySem.W.codeIn K cdv qual=true
 kp:PySem.W.keepIn K (.ref f)=true
section
variable {P:Program} {w:World} {K:PySem.W.Frag} {mg:Str→Option Value} {base:Heap}
theorem Fun.ok {x qual:Str} {st:Stmt} {f:Addr} {fd:FuncData} {N ps:List Str} {k:Nat} {sp:Sp} (F:Fun K x qual st f fd) (S:FnScope N ps (defScope st)) (len:∀vs H Q E,sp vs H Q E→vs.length=ps.length)
  (hbody:∀(cdv:Value) (A:Around) (outer:List Env) (s:Shared) (H:Hp) (vs:List V) (Q:VK) (E:XK),Room k (A.deeper (envOfC qual (defScope st) s.heap.objs.size f cdv))→sp vs H Q E →
   ∃t,PSs (cxOf CX0 P w K mg base N qual (defScope st) f cdv A outer s H E).nox (defBody st) t∧t { nx:=fun _ H'=>Q .non H',rt:=Q } (start N vs) H):FnOk P w K mg base CX0 (k+1) f fd ps sp:=by
 obtain⟨oc,od,kV,doc,pm,an,cdv,ct,osl,rfl,lk,hcd⟩:=F.ex
 refine fn_of lk hcd S len fun A outer s H vs Q E hr hsp=>?_
 obtain⟨t,h,q⟩:=hbody cdv A outer s H vs Q E hr hsp
 exact⟨t,h.nox,q⟩
theorem Fun.binds {x qual:Str} {st:Stmt} {f:Addr} {fd:FuncData} {ps:List Str} (F:Fun K x qual st f fd)
  (h:∀(kV doc pm:Value) (an:Option Addr) (cdv ct:Value) (us:List Value),us.length=ps.length→bindArgs (PySem.W.fnOf x qual (defArgs st) (defBody st) (defScope st) .none kV doc pm an cdv ct) ⟨us,[]⟩=pure (ps.zip us)):Binds K fd ps []:=by
 obtain⟨oc,od,kV,doc,pm,an,cdv,ct,osl,rfl,lk,hcd⟩:=F.ex
 exact .all (h kV doc pm an cdv ct)
theorem fun_mk {x qual:Str} {st:Stmt} {f:Addr} {oc:Value} {od an:Option Addr} {osl:Array (Option Value)} {kV doc pm cdv ct:Value} (l:K.lookup f=some ⟨oc,od,.func (PySem.W.fnOf x qual (defArgs st) (defBody st) (defScope st) .none kV doc pm an cdv ct),osl⟩)
  (c:PySem.W.codeIn K cdv qual=true) (k:PySem.W.keepIn K (.ref f)=true):Fun K x qual st f (PySem.W.fnOf x qual (defArgs st) (defBody st) (defScope st) .none kV doc pm an cdv ct):=⟨⟨oc,od,kV,doc,pm,an,cdv,ct,osl,rfl,l,c⟩,k⟩
end
theorem hu_of {A:Around} {k:Nat} (hr:Room k A):A.units+1<cLine:=Nat.lt_of_le_of_lt (Nat.add_le_add_left (by decide:1≤64) _) hr.units
section
variable {X:Cx}
theorem pv (i:Nat) {x:Str} {pos:Pos} (hN:X.N[i]? = some x:=by rfl) (hv:Vis X.env.scope x:=by first|exact Or.inl rfl|exact Or.inr (Or.inl rfl)|exact Or.inr (Or.inr rfl)) (hd:(x==("__debug__" : Str))=false:=by decide)
  (hcd:(x==("__classdict__" : Str))=false:=by decide):PE X (.Name x pos) (tVar i):=pe_var hN hv hd hcd
end
theorem iteF {A B:Prop} (h:B):if false=true then A else B:=by
 rw[if_neg Bool.false_ne_true]
 exact h
theorem iteT {A B:Prop} (h:A):if true=true then A else B:=by
 rw[if_pos rfl]
 exact h
theorem ite2 {c A B:Prop} [Decidable c] (h1:c→A) (h2:¬c→B):if c then A else B:=by
 by_cases h:c
 ·rw[if_pos h]
  exact h1 h
 ·rw[if_neg h]
  exact h2 h
def Same (H H':Hp):Prop:=∀b o,H b=some o→H' b=some o
theorem Same.trans {H H1 H2:Hp} (a:Same H H1) (b:Same H1 H2):Same H H2:=fun c o h=>b c o (a c o h)
theorem Same.free {H H':Hp} (e:Same H H') {l:Addr} (h:H' l=Option.none):H l=Option.none:=by
  cases q:H l with
  | none=>rfl
  | some o =>
    rw[e l o q]at h
    cases h
theorem Same.seq {K:PySem.W.Frag} {H H':Hp} {a:Addr} {xs:List V} (e:Same H H') (h:SqL K H a xs):SqL K H' a xs:=by
 rcases h with(h|⟨o,h⟩)|h
 ·exact .inl (.inl (e _ _ h))
 ·exact .inl (.inr ⟨o,e _ _ h⟩)
 ·exact .inr h
section
variable {κ:Type} [DecidableEq κ]
theorem valV_not {kvs:List (κ×V)} {k:κ} (h:valV kvs k=none):¬k∈kvs.map (·.1):=by
 intro m
 obtain⟨p,hp,e⟩:=List.mem_map.mp m
 have q:(kvs.any fun kv=>decide (kv.1=k))=true:=List.any_eq_true.mpr ⟨p,hp,decide_eq_true e⟩
 rw[valV_any,h]at q
 exact absurd q (by simp)
theorem nd_snoc:∀{l:List κ} {k:κ},l.Nodup→¬k∈l→(l++[k]).Nodup
  | [],k,_,_=>by simp
  | a::r,k,h,hk=>by
    obtain⟨h1,h2⟩:=List.nodup_cons.mp h
    show(a::(r++[k])).Nodup
    refine List.nodup_cons.mpr ⟨fun m=>?_,nd_snoc h2 fun m=>hk (List.mem_cons.mpr (Or.inr m))⟩
    rcases List.mem_append.mp m with q|q
    · exact h1 q
    · exact hk (List.mem_cons.mpr (Or.inl (List.mem_singleton.mp q).symm))
theorem nd_putK {kvs:List (κ×V)} {k:κ} (v:V) (hn:(kvs.map (·.1)).Nodup) (h:valV kvs k=none):((putK kvs k v).map (·.1)).Nodup:=by
 rw[putK_new v h,List.map_append]
 exact nd_snoc hn (valV_not h)
end
theorem at_of {xs:List V} {z:Int} {j:Nat} {v:V} (e:z=(j:Int)) (h:xs[j]? = some v):atI xs z=some v:=by
 rw[e]
 exact atI_nat h
theorem nd_ix {α:Type} {l:List α} (hN:l.Nodup) {i j:Nat} {x:α} (a:l[i]? = some x) (b:l[j]? = some x):i=j:=by
 obtain⟨h1,e1⟩:=List.getElem?_eq_some_iff.mp a
 obtain⟨h2,e2⟩:=List.getElem?_eq_some_iff.mp b
 exact(List.getElem_inj hN).mp (e1.trans e2.symm)
theorem Same.made {H H1:Hp} {x dx C:Addr} (nx:H x=Option.none) (nd:H dx=Option.none) (k:∀b o,(upd (upd H dx (.own x)) x (.ins C dx [])) b=some o→b≠x→H1 b=some o):Same H H1:=fun b o e =>
 k b o (by rw[upd_ne (ne_of_none e nx),upd_ne (ne_of_none e nd)];exact e) (ne_of_none e nx)
end L2
section
set_option maxHeartbeats 2000000
namespace L2
open PySem PySem.Spec PyProof.Rows
open PySem.W (WData Codec OpenSpec Well WellAll ReadsW ReadsAllW)
mutual
inductive Dw (K:PySem.W.Frag) (H:Hp):V→WData→Prop
 | non:Dw K H .non .none
 | bl (b:Bool):Dw K H (.bl b) (.bool b)
 | int (i:Int):Dw K H (.int i) (.int i)
 | str (x:Str):Dw K H (.str x) (.str x)
 | byt (b:Array UInt8):Dw K H (.byt b) (.bytes b.toList)
 | lst {a:Addr} {xs:List V} {ds:List WData}:SqL K H a xs→DwAll K H xs ds→Dw K H (.ref a) (.list ds)
 | tup {a:Addr} {xs:List V} {ds:List WData}:SqT K H a xs→DwAll K H xs ds→Dw K H (.ref a) (.tuple ds)
inductive DwAll (K:PySem.W.Frag) (H:Hp):List V→List WData→Prop
 | nil:DwAll K H [] []
 | cons {v:V} {vs:List V} {d:WData} {ds:List WData}:Dw K H v d→DwAll K H vs ds→DwAll K H (v::vs) (d::ds)
end
theorem dw_ints {K:PySem.W.Frag} {H:Hp}:∀ns:List Int,DwAll K H (ns.map V.int) (ns.map WData.int)
 | []=>.nil
 | n::r=>.cons (.int n) (dw_ints r)
theorem ints_dw {K:PySem.W.Frag} {H:Hp}:∀(ns:List Int) (xs:List V),DwAll K H xs (ns.map WData.int)→xs=ns.map V.int
  | [],xs,h=>by
    cases h
    rfl
  | n :: r, xs, h => by
    cases h with
    | cons h1 h2 =>
      cases h1
      rw[ints_dw r _ h2]<;>rfl
section
variable {P:Program} {w:World} {K:PySem.W.Frag} {H:Hp} {h:Heap} {R:PySem.W.WRecords} {cl:Str→Option Addr}
theorem sqL_at {a:Addr} {xs:List V} (hok:HOk P w H h) (KX:K.In h) (q:SqL K H a xs):∃(its:List Value) (o:Obj) (n:Nat),Vals xs its∧h.get? a=some o∧o.cls=.type "list" ∧ o.data=.seq its.toArray n:=by
 rcases q with q|⟨o,its,n,e,hc,_,hd,_,hv⟩
 ·obtain⟨_,its,n,hv,e⟩:=(show ObjOk P w H h a (.lst xs) from q.ok hok)
  exact⟨its,_,n,hv,e,rfl,rfl⟩
 ·exact⟨its.toList,o,n,hv,KX _ _ e,hc,by simp[hd]⟩
theorem sqT_at {a:Addr} {xs:List V} (hok:HOk P w H h) (KX:K.In h) (q:SqT K H a xs):∃(its:List Value) (o:Obj) (n:Nat),Vals xs its∧h.get? a=some o∧o.cls=.type "tuple" ∧ o.data=.seq its.toArray n:=by
 rcases q with q|⟨o,its,n,e,hc,hd,_,hv⟩
 ·obtain⟨_,its,hv,o,e,hc,n,hd⟩:=(show ObjOk P w H h a (.tup xs) from q.ok hok)
  exact⟨its,o,n,hv,e,hc,hd⟩
 ·exact⟨its.toList,o,n,hv,KX _ _ e,hc,by simp[hd]⟩
mutual
theorem Dw.reads (hok:HOk P w H h) (KX:K.In h):∀(d:WData) (v:V) (u:Value),Dw K H v d→RelV v u→∃as,ReadsW R cl h u d as
  | .none,_,_,x,r=>by
    cases x
    cases r
    exact⟨_,ReadsW.none⟩
  | .bool b,_,_,x,r=>by
    cases x
    cases r
    exact⟨_,ReadsW.bool b⟩
  | .int i,_,_,x,r=>by
    cases x
    obtain⟨t,rfl⟩:=r
    exact⟨_,ReadsW.int i t⟩
  | .str s,_,_,x,r=>by
    cases x
    obtain⟨t,rfl⟩:=r
    exact⟨_,ReadsW.str s t⟩
  | .bytes b,_,_,x,r=>by
    cases x
    obtain⟨t,rfl⟩:=r
    exact⟨_,ReadsW.bytes _ t⟩
  | .list ds,_,_,x,r=>by
    cases x with
    | lst hs ha =>
      cases r
      obtain⟨its,o,n,rv,ho,hc,hd⟩:=sqL_at hok KX hs
      obtain⟨as,hr⟩:=Dw.readsAll hok KX ds _ its ha rv
      exact⟨_,ReadsW.list ho hc hd hr⟩
  | .tuple ds,_,_,x,r=>by
    cases x with
    | tup hs ha =>
      cases r
      obtain⟨its,o,n,rv,ho,hc,hd⟩:=sqT_at hok KX hs
      obtain⟨as,hr⟩:=Dw.readsAll hok KX ds _ its ha rv
      exact⟨_,ReadsW.tuple ho hc hd hr⟩
  | .float _,_,_,x,_=>by cases x
  | .dict _,_,_,x,_=>by cases x
  | .bytearray _,_,_,x,_=>by cases x
  | .set _,_,_,x,_=>by cases x
  | .frozenset _,_,_,x,_=>by cases x
  | .obj _ _,_,_,x,_=>by cases x
theorem Dw.readsAll (hok:HOk P w H h) (KX:K.In h):∀(ds:List WData) (vs:List V) (us:List Value),DwAll K H vs ds→Vals vs us→∃as,ReadsAllW R cl h us ds as
  | [],_,_,x,r=>by
    cases x
    cases r
    exact⟨_,ReadsAllW.nil⟩
  | d :: ds, _, _, x, r => by
    cases x with
    | cons h1 h2 =>
      cases r with
      | cons r1 r2 =>
        obtain⟨as,q1⟩:=Dw.reads hok KX d _ _ h1 r1
        obtain⟨bs,q2⟩:=Dw.readsAll hok KX ds _ _ h2 r2
        exact⟨_,ReadsAllW.cons q1 q2⟩
end
end
mutual
def plW:WData→Bool
 | .none=>true
 | .bool _=>true
 | .int _=>true
 | .str _=>true
 | .bytes _=>true
 | .list xs=>plWs xs
 | .tuple xs=>plWs xs
 | _=>false
def plWs:List WData→Bool
 | []=>true
 | x::r=>plW x&&plWs r
end
theorem plWs_map {α:Type} {f:α→WData} (h:∀a,plW (f a)=true):∀l:List α,plWs (l.map f)=true
  | []=>rfl
  | x::r=>by
    show(plW (f x)&&plWs (r.map f))=true
    rw[h x,plWs_map h r]<;>rfl
theorem pl_enc:∀(c:Codec) (a:c.denote),plW (c.enc a)=true
  | .unit,_=>rfl
  | .bool,_=>rfl
  | .int _ _,_=>rfl
  | .nat _ _,_=>rfl
  | .u8,_=>rfl
  | .bytes _ _,_=>rfl
  | .text _ _ _ _,_=>rfl
  | .list _ _ c,a=>plWs_map (fun x=>pl_enc c x) a
  | .pair c d,a=>by
    show(plW (c.enc a.1)&&(plW (d.enc a.2)&&true))=true
    rw[pl_enc c a.1,pl_enc d a.2]<;>rfl
  | .triple c d e,a=>by
    show(plW (c.enc a.1)&&(plW (d.enc a.2.1)&&(plW (e.enc a.2.2)&&true)))=true
    rw[pl_enc c a.1,pl_enc d a.2.1,pl_enc e a.2.2]<;>rfl
  | .option c,none=>rfl
  | .option c,some x=>pl_enc c x
theorem pl_encAll:∀(cs:List Codec) (a:Codec.denoteAll cs),plWs (Codec.encAll cs a)=true
  | [],_=>rfl
  | c::cs,a=>by
    show(plW (c.enc a.1)&&plWs (Codec.encAll cs a.2))=true
    rw[pl_enc c a.1,pl_encAll cs a.2]<;>rfl
theorem weight_mem:∀{xs:List WData} {d:WData},d∈xs→d.weight≤WData.weightAll xs
  | [],d,h=>absurd h (by simp)
  | x :: r, d, h => by
    show d.weight≤x.weight+1+WData.weightAll r
    rcases List.mem_cons.mp h with e|m
    · rw[e]
      omega
    · have z:=weight_mem m
      omega
def toV:Value→V
 | .none=>.non
 | .bool b=>.bl b
 | .int i _=>.int i
 | .str x _=>.str x
 | .bytes b _=>.byt b
 | .ref a=>.ref a
 | _=>.non
def OkU (A:List Addr):Value→Prop
 | .none=>True
 | .bool _=>True
 | .int _ _=>True
 | .str _ _=>True
 | .bytes _ _=>True
 | .ref a=>a∈A
 | _=>False
theorem OkU.mono {A B:List Addr} (h:∀a∈A,a∈B):∀{u:Value},OkU A u→OkU B u:=fun {u} x=>by
 cases u with
 | ref a=>exact h a x
 | none=>trivial
 | bool b=>trivial
 | int i t=>trivial
 | str s t=>trivial
 | bytes b t=>trivial
 | _=>exact False.elim x
theorem relV_toV {A:List Addr} {u:Value} (x:OkU A u):RelV (toV u) u:=by
 cases u with
 | ref a=>rfl
 | none=>rfl
 | bool b=>rfl
 | int i t=>exact⟨t,rfl⟩
 | str s t=>exact⟨t,rfl⟩
 | bytes b t=>exact⟨t,rfl⟩
 | _=>exact False.elim x
theorem vals_toV {A:List Addr}:∀{vs:List Value},(∀u∈vs,OkU A u)→Vals (vs.map toV) vs
 | [],_=>.nil
 | u::r,h=>.cons (relV_toV (h u (List.mem_cons_self ..))) (vals_toV fun x hx=>h x (List.mem_cons_of_mem _ hx))
def ArgOb (h:Heap) (A:List Addr) (a:Addr):Prop:=∃vs:List Value,vs.length≤sizeLine∧(∀u∈vs,OkU A u) ∧
 (h.get? a=some { cls:=.type "list",data:=.seq vs.toArray }∨h.get? a=some { cls:=.type "tuple",data:=.seq vs.toArray })
theorem ArgOb.mono {h:Heap} {A B:List Addr} {a:Addr} (k:∀a∈A,a∈B) (x:ArgOb h A a):ArgOb h B a:=by
 obtain⟨vs,h1,h2,h3⟩:=x
 exact⟨vs,h1,fun u hu=>(h2 u hu).mono k,h3⟩
theorem wellAll_len {P:Params} {h:Heap}:∀{vs:List Value} {ds:List WData},WellAll P h vs ds→vs.length=ds.length
  | _,_,.nil=>rfl
  | _,_,.cons _ b=>by
    show _+1=_+1
    rw[wellAll_len b]
theorem well_list {P:Params} {h:Heap} {v:Value} {ds:List WData} (x:Well P h v (.list ds)):∃(a:Addr) (vs:List Value),v=.ref a∧h.get? a=some { cls:=.type "list",data:=.seq vs.toArray }∧WellAll P h vs ds:=by
 cases x with
 | list ho hall=>exact⟨_,_,rfl,ho,hall⟩
theorem well_tuple {P:Params} {h:Heap} {v:Value} {ds:List WData} (x:Well P h v (.tuple ds)):∃(a:Addr) (vs:List Value),v=.ref a∧h.get? a=some { cls:=.type "tuple",data:=.seq vs.toArray }∧WellAll P h vs ds:=by
 cases x with
 | tuple ho hall=>exact⟨_,_,rfl,ho,hall⟩
theorem well_cons {P:Params} {h:Heap} {us:List Value} {d:WData} {ds:List WData} (x:WellAll P h us (d::ds)):∃(v:Value) (vs:List Value),us=v::vs∧Well P h v d∧WellAll P h vs ds:=by
 cases x with
 | cons a b=>exact⟨_,_,rfl,a,b⟩
theorem line_of {n:Nat} (h:n≤1048576):n≤sizeLine:=Nat.le_trans h (by decide)
section
variable {P:Params} {h:Heap}
mutual
theorem area_one:∀(d:WData) (v:Value),Well P h v d→plW d=true→d.weight≤1048576→∃A:List Addr,OkU A v∧∀a∈A,ArgOb h A a
  | .none,_,x,_,_=>by
    cases x
    exact⟨[],trivial,fun a m=>absurd m (by simp)⟩
  | .bool b,_,x,_,_=>by
    cases x
    exact⟨[],trivial,fun a m=>absurd m (by simp)⟩
  | .int i,_,x,_,_=>by
    cases x
    exact⟨[],trivial,fun a m=>absurd m (by simp)⟩
  | .str s,_,x,_,_=>by
    cases x
    exact⟨[],trivial,fun a m=>absurd m (by simp)⟩
  | .bytes b,_,x,_,_=>by
    cases x
    exact⟨[],trivial,fun a m=>absurd m (by simp)⟩
  | .list ds,_,x,p,z=>by
    obtain⟨a,vs,rfl,ho,hall⟩:=well_list x
    have z2:WData.weightAll ds≤1048576:=z
    obtain⟨A,h1,h2⟩:=area_all ds _ hall p fun d hd=>Nat.le_trans (weight_mem hd) z2
    have k:∀b∈A,b∈a::A:=fun b hb=>List.mem_cons_of_mem _ hb
    refine⟨a::A,List.mem_cons_self ..,fun b hb=>?_⟩
    rcases List.mem_cons.mp hb with e|m
    · rw[e]
      exact⟨vs,line_of (by rw[wellAll_len hall];exact Nat.le_trans (PySem.W.length_le_weightAllW ds) z2),fun u hu=>(h1 u hu).mono k,.inl ho⟩
    · exact(h2 b m).mono k
  | .tuple ds,_,x,p,z=>by
    obtain⟨a,vs,rfl,ho,hall⟩:=well_tuple x
    have z2:WData.weightAll ds≤1048576:=z
    obtain⟨A,h1,h2⟩:=area_all ds _ hall p fun d hd=>Nat.le_trans (weight_mem hd) z2
    have k:∀b∈A,b∈a::A:=fun b hb=>List.mem_cons_of_mem _ hb
    refine⟨a::A,List.mem_cons_self ..,fun b hb=>?_⟩
    rcases List.mem_cons.mp hb with e|m
    · rw[e]
      exact⟨vs,line_of (by rw[wellAll_len hall];exact Nat.le_trans (PySem.W.length_le_weightAllW ds) z2),fun u hu=>(h1 u hu).mono k,.inr ho⟩
    · exact(h2 b m).mono k
  | .float _,_,_,p,_=>Bool.noConfusion (show false=true from p)
  | .dict _,_,_,p,_=>Bool.noConfusion (show false=true from p)
  | .bytearray _,_,_,p,_=>Bool.noConfusion (show false=true from p)
  | .set _,_,_,p,_=>Bool.noConfusion (show false=true from p)
  | .frozenset _,_,_,p,_=>Bool.noConfusion (show false=true from p)
  | .obj _ _,_,_,p,_=>Bool.noConfusion (show false=true from p)
theorem area_all:∀(ds:List WData) (vs:List Value),WellAll P h vs ds→plWs ds=true→(∀d∈ds,d.weight≤1048576)→∃A:List Addr,(∀u∈vs,OkU A u)∧∀a∈A,ArgOb h A a
  | [],_,x,_,_=>by
    cases x
    exact⟨[],fun u m=>absurd m (by simp),fun a m=>absurd m (by simp)⟩
  | d :: ds, _, x, p, z => by
    obtain⟨v,vs,rfl,x1,x2⟩:=well_cons x
    have q:plW d=true∧plWs ds=true:=Bool.and_eq_true_iff.mp p
    obtain⟨A,a1,a2⟩:=area_one d v x1 q.1 (z d (List.mem_cons_self ..))
    obtain⟨B,b1,b2⟩:=area_all ds vs x2 q.2 fun e he=>z e (List.mem_cons_of_mem _ he)
    have kA:∀b∈A,b∈A++B:=fun b hb=>List.mem_append.mpr (.inl hb)
    have kB:∀b∈B,b∈A++B:=fun b hb=>List.mem_append.mpr (.inr hb)
    refine⟨A++B,fun u hu=>?_,fun b hb=>?_⟩
    · rcases List.mem_cons.mp hu with e|m
      · rw[e]
        exact a1.mono kA
      · exact(b1 u m).mono kB
    · rcases List.mem_append.mp hb with m|m
      · exact(a2 b m).mono kA
      · exact(b2 b m).mono kB
end
end
def hoOf (o:Obj):Option HO:=match o.data with
 | .seq vs _=>if(o.cls==Value.type "list")=true then some (.frz o (.lst (vs.toList.map toV)))else some (.frz o (.tup (vs.toList.map toV)))
 | _=>none
def argH (K:PySem.W.Frag) (h:Heap) (A:List Addr):Hp:=fun b=>if b∈A then(if(K.lookup b).isNone=true then(h.get? b).bind hoOf else none)else none
def OnlyF (H:Hp):Prop:=∀b,H b=none∨∃o u,H b=some (.frz o u)
theorem hoOf_lst (vs:List Value):hoOf { cls:=.type "list",data:=.seq vs.toArray }=some (.frz { cls:=.type "list",data:=.seq vs.toArray } (.lst (vs.map toV))):=by
 show(if(Value.type "list" == Value.type "list")=true then some (HO.frz { cls:=.type "list",data:=.seq vs.toArray } (.lst (vs.toArray.toList.map toV)))else some (HO.frz { cls:=.type "list",data:=.seq vs.toArray } (.tup (vs.toArray.toList.map toV))))=_
 rw[if_pos (beq_self_eq_true _)]
theorem hoOf_tup (vs:List Value):hoOf { cls:=.type "tuple",data:=.seq vs.toArray }=some (.frz { cls:=.type "tuple",data:=.seq vs.toArray } (.tup (vs.map toV))):=by
 show(if(Value.type "tuple" == Value.type "list")=true then some (HO.frz { cls:=.type "tuple",data:=.seq vs.toArray } (.lst (vs.toArray.toList.map toV)))else some (HO.frz { cls:=.type "tuple",data:=.seq vs.toArray } (.tup (vs.toArray.toList.map toV))))=_
 rw[if_neg (by decide)]
section
variable {P:Program} {w:World} {K:PySem.W.Frag} {h:Heap} {A:List Addr}
theorem argH_at {b:Addr} {o:Obj} (hb:b∈A) (hk:K.lookup b=none) (e:h.get? b=some o):argH K h A b=hoOf o:=by
 unfold argH
 rw[if_pos hb,hk,if_pos (show(none:Option Obj).isNone=true from rfl),e]<;>rfl
theorem of_argH {b:Addr} {u:HO} (q:argH K h A b=some u):b∈A∧K.lookup b=none:=by
  unfold argH at q
  by_cases hb:b∈A
  · rw[if_pos hb]at q
    cases hk:K.lookup b with
    | none=>exact⟨hb,rfl⟩
    | some o =>
      rw[hk,if_neg (by simp)]at q
      cases q
  · rw[if_neg hb]at q
    cases q
theorem argH_is (ar:∀a∈A,ArgOb h A a) {b:Addr} {u:HO} (q:argH K h A b=some u):K.lookup b=none∧∃vs:List Value,vs.length≤sizeLine∧(∀u∈vs,OkU A u) ∧
    ((h.get? b=some { cls:=.type "list",data:=.seq vs.toArray }∧u=.frz { cls:=.type "list",data:=.seq vs.toArray } (.lst (vs.map toV))) ∨
     (h.get? b=some { cls:=.type "tuple",data:=.seq vs.toArray }∧u=.frz { cls:=.type "tuple",data:=.seq vs.toArray } (.tup (vs.map toV)))):=by
  obtain⟨hb,hk⟩:=of_argH q
  obtain⟨vs,h1,h2,h3⟩:=ar b hb
  refine⟨hk,vs,h1,h2,?_⟩
  rcases h3 with e|e
  · rw[argH_at hb hk e,hoOf_lst]at q
    exact .inl ⟨e,(Option.some.inj q).symm⟩
  · rw[argH_at hb hk e,hoOf_tup]at q
    exact .inr ⟨e,(Option.some.inj q).symm⟩
theorem argH_only (ar:∀a∈A,ArgOb h A a):OnlyF (argH K h A):=fun b=>by
  cases q:argH K h A b with
  | none=>exact .inl rfl
  | some u =>
    obtain⟨_,vs,_,_,⟨_,e⟩|⟨_,e⟩⟩:=argH_is ar q
    · exact .inr ⟨_,_,by rw[e]⟩
    · exact .inr ⟨_,_,by rw[e]⟩
theorem argH_ok (ar:∀a∈A,ArgOb h A a):HOk P w (argH K h A) h:=fun b u q=>by
 obtain⟨_,vs,h1,h2,⟨e,rfl⟩|⟨e,rfl⟩⟩:=argH_is ar q
 ·exact⟨e,by rw[List.length_map];exact h1,vs,_,vals_toV h2,e⟩
 ·exact⟨e,by rw[List.length_map];exact h1,vs,vals_toV h2,_,e,rfl,_,rfl⟩
theorem seq_inj {c c':Value} {vs us:List Value} (e:(some { cls:=c,data:=.seq vs.toArray }:Option Obj)=some { cls:=c',data:=.seq us.toArray }):c=c'∧vs=us:=by
 have e1:=Option.some.inj e
 have e2:c=c':=congrArg Obj.cls e1
 have e3:Data.seq vs.toArray=Data.seq us.toArray:=congrArg Obj.data e1
 injection e3 with e4
 refine⟨e2,?_⟩
 have e5:=congrArg Array.toList e4
 simpa using e5
theorem argL (KX:K.In h) (ar:∀a∈A,ArgOb h A a) {a:Addr} {vs:List Value} (ha:a∈A) (e:h.get? a=some { cls:=.type "list",data:=.seq vs.toArray }):(∀u∈vs,OkU A u)∧SqL K (argH K h A) a (vs.map toV):=by
  obtain⟨us,h1,h2,h3⟩:=ar a ha
  have hu:us=vs:=by
    rcases h3 with q|q
    · rw[e]at q
      exact(seq_inj q).2.symm
    · rw[e]at q
      exact absurd (Value.type.inj (seq_inj q).1) (by decide)
  subst hu
  refine⟨h2,?_⟩
  cases hk:K.lookup a with
  | none=>exact .inl (.inr ⟨_,by rw[argH_at ha hk e,hoOf_lst]⟩)
  | some o =>
    have e2:=KX a o hk
    rw[e]at e2
    obtain rfl:=Option.some.inj e2
    exact .inr ⟨_,us.toArray,_,hk,rfl,rfl,rfl,by rw[List.size_toArray];exact h1,by simpa using vals_toV h2⟩
theorem argT (KX:K.In h) (ar:∀a∈A,ArgOb h A a) {a:Addr} {vs:List Value} (ha:a∈A) (e:h.get? a=some { cls:=.type "tuple",data:=.seq vs.toArray }):(∀u∈vs,OkU A u)∧SqT K (argH K h A) a (vs.map toV):=by
  obtain⟨us,h1,h2,h3⟩:=ar a ha
  have hu:us=vs:=by
    rcases h3 with q|q
    · rw[e]at q
      exact absurd (Value.type.inj (seq_inj q).1) (by decide)
    · rw[e]at q
      exact(seq_inj q).2.symm
  subst hu
  refine⟨h2,?_⟩
  cases hk:K.lookup a with
  | none=>exact .inl (.inr ⟨_,by rw[argH_at ha hk e,hoOf_tup]⟩)
  | some o =>
    have e2:=KX a o hk
    rw[e]at e2
    obtain rfl:=Option.some.inj e2
    exact .inr ⟨_,us.toArray,_,hk,rfl,rfl,by rw[List.size_toArray];exact h1,by simpa using vals_toV h2⟩
mutual
theorem dw_one {Pm:Params} (KX:K.In h) (ar:∀a∈A,ArgOb h A a):∀(d:WData) (v:Value),Well Pm h v d→plW d=true→OkU A v→Dw K (argH K h A) (toV v) d
  | .none,_,x,_,_=>by
    cases x
    exact .non
  | .bool b,_,x,_,_=>by
    cases x
    exact .bl b
  | .int i,_,x,_,_=>by
    cases x
    exact .int i
  | .str s,_,x,_,_=>by
    cases x
    exact .str s
  | .bytes b,_,x,_,_=>by
    cases x
    have z:=Dw.byt (K:=K) (H:=argH K h A) b.toArray
    exact z
  | .list ds,_,x,p,hu=>by
    obtain⟨a,vs,rfl,ho,hall⟩:=well_list x
    obtain⟨h2,hs⟩:=argL KX ar hu ho
    exact .lst hs (dw_all KX ar ds _ hall p h2)
  | .tuple ds,_,x,p,hu=>by
    obtain⟨a,vs,rfl,ho,hall⟩:=well_tuple x
    obtain⟨h2,hs⟩:=argT KX ar hu ho
    exact .tup hs (dw_all KX ar ds _ hall p h2)
  | .float _,_,_,p,_=>Bool.noConfusion (show false=true from p)
  | .dict _,_,_,p,_=>Bool.noConfusion (show false=true from p)
  | .bytearray _,_,_,p,_=>Bool.noConfusion (show false=true from p)
  | .set _,_,_,p,_=>Bool.noConfusion (show false=true from p)
  | .frozenset _,_,_,p,_=>Bool.noConfusion (show false=true from p)
  | .obj _ _,_,_,p,_=>Bool.noConfusion (show false=true from p)
theorem dw_all {Pm:Params} (KX:K.In h) (ar:∀a∈A,ArgOb h A a):∀(ds:List WData) (vs:List Value),WellAll Pm h vs ds→plWs ds=true→(∀u∈vs,OkU A u)→DwAll K (argH K h A) (vs.map toV) ds
  | [],_,x,_,_=>by
    cases x
    exact .nil
  | d::ds,_,x,p,hu=>by
    obtain⟨v,vs,rfl,x1,x2⟩:=well_cons x
    have q:plW d=true∧plWs ds=true:=Bool.and_eq_true_iff.mp p
    exact .cons (dw_one KX ar d v x1 q.1 (hu _ (List.mem_cons_self ..))) (dw_all KX ar ds vs x2 q.2 fun u m=>hu u (List.mem_cons_of_mem _ m))
end
end
theorem spec_call {P:Program} {w:World} {K:PySem.W.Frag} {mg mb:Str→Option Value} {CX:CXT} {k:Nat} {fa:Addr} {fd:FuncData} {ps:List Str} {sp:Sp} {s₁:Shared} {vals:List Value} {ds:List WData} {R:PySem.W.WRecords} {cl:Str→Option Addr} {d0:WData}
    (KX:K.In s₁.heap) (hns:s₁.heap.Ns mainGlobals mg) (hb:s₁.heap.Ns builtinsNs mb) (hbb:∀x:Str,x ≠ "__name__" → mb x=bootBuiltins x) (hlim:s₁.heap.NoLimit) (hg:s₁.gens=#[])
    (hwl:WellAll w.params s₁.heap vals ds) (hpl:plWs ds=true) (hwt:∀d∈ds,d.weight≤1048576) (hr:Room k callerA)
    (F:∀base:Heap,K.In base→base.Ns mainGlobals mg→FnOk P w K mg base CX k fa fd ps sp) (hbind:∀(s:Shared) (us:List Value),us.length=ps.length→BindsTo s fd ⟨us,[]⟩ (ps.zip us)) (hlen:ds.length=ps.length)
    (hsp:∀(H:Hp) (xs:List V),OnlyF H→DwAll K H xs ds→sp xs H (fun v H'=>Dw K H' v d0) fun _ _ _=>False)
    (hCX:∀H e s',CX [] H s₁ (fun _ _ _=>False) e s'→False) :
    codeAny (model P w) callerA (.call (.ref fa) ⟨vals,[]⟩) (fun r s'=>∃u as,r=.ok (.ret u)∧ReadsW R cl s'.heap u d0 as∧OldK s₁.heap s'.heap∧s'.os=s₁.os∧AllBare s'.gens) s₁:=by
  obtain⟨A,ho,ar⟩:=area_all ds vals hwl hpl hwt
  have hO:OnlyF (argH K s₁.heap A):=argH_only ar
  have hok:HOk P w (argH K s₁.heap A) s₁.heap:=argH_ok ar
  have hS:=dw_all KX ar ds vals hwl hpl ho
  have hV:=vals_toV ho
  have hK:∀b u,argH K s₁.heap A b=some u→K.lookup b=none:=fun b u q=>(argH_is ar q).1
  have noA:∀{b:Addr} {o:Obj} {es:Array DictEntry} {ep:Nat},s₁.heap.get? b=some o→o.data=.dict es ep→argH K s₁.heap A b=none:=fun {b o es ep} e d=>by
    cases q:argH K s₁.heap A b with
    | none=>rfl
    | some u =>
      obtain⟨_,vs,_,_,⟨e2,_⟩|⟨e2,_⟩⟩:=argH_is ar q
      · rw[e2]at e
        cases e
        have d':Data.seq vs.toArray _=Data.dict es ep:=d
        cases d'
      · rw[e2]at e
        cases e
        have d':Data.seq vs.toArray _=Data.dict es ep:=d
        cases d'
  generalize argH K s₁.heap A=H at hO hok hS hK noA
  have base_of:∀{b:Addr} {o:Obj},s₁.heap.get? b=some o→H b=none→(hidT s₁.heap H).get? b=some o:=fun e n=>hidT_get e n
  have nsK:∀{b:Addr} {m:Str→Option Value},s₁.heap.Ns b m→(hidT s₁.heap H).Ns b m:=fun {b m} ⟨o,es,ep,e,d,r⟩=>⟨o,es,ep,base_of e (noA e d),d,r⟩
  have nK:∀b o,K.lookup b=some o→H b=none:=fun b o e=>by
    cases q:H b with
    | none=>rfl
    | some u =>
      rw[hK b u q]at e
      cases e
  have hKb:K.In (hidT s₁.heap H):=fun b o e=>base_of (KX b o e) (nK b o e)
  have hM:Mod K mg (hidT s₁.heap H):=⟨hKb,nsK hns,⟨mb,nsK hb,hbb⟩,let ⟨mc,h1,h2⟩:=hlim;⟨mc,nsK h1,h2⟩⟩
  have e0:Env0 P w K mg (hidT s₁.heap H) callerA [] s₁ H:=⟨rfl,hM,fun b o e=>of_hidT e,Nat.le_of_eq (hidT_size _ _),trivial,fun b hb=>absurd (show b∈([]:List Addr) from hb) (by simp),hok,.of_eq hg⟩
  have hl:vals.length=ps.length:=by rw[wellAll_len hwl];exact hlen
  refine codeAny_mono ((F _ hKb (nsK hns)).run callerA [] s₁ H ⟨vals,[]⟩ vals (vals.map toV) _ _ hr e0 (hbind s₁ vals hl) hV (hsp H _ hO hS)) fun r s' x=>?_
  cases r with
  | error e=>exact(hCX H e s' x).elim
  | ok fl =>
    cases fl with
    | next=>exact False.elim x
    | brk=>exact False.elim x
    | cont=>exact False.elim x
    | ret u =>
      obtain⟨v,H',os,bare,un,hok',r',q⟩:=x
      have kept:∀b o,s₁.heap.get? b=some o→s'.heap.get? b=some o:=fun b o e=>by
        cases q2:H b with
        | none=>exact un.keep b o e q2 (by intro z;exact absurd (show b∈([]:List Addr) from z) (by simp)) (by simp)
        | some u2 =>
          rcases hO b with z|⟨ob,u3,z⟩
          · rw[q2]at z
            cases z
          · have z2:=un.frzs b ob _ z
            obtain⟨e1,_⟩:=hok b _ z
            obtain⟨e2,_⟩:=hok' b _ z2
            rw[e]at e1
            cases e1
            exact e2
      have KX':K.In s'.heap:=fun b o e=>kept b o (KX b o e)
      obtain⟨as,hrd⟩:=Dw.reads (R:=R) (cl:=cl) hok' KX' d0 v u q r'
      exact⟨u,as,rfl,hrd,OldK.of_keep kept,os,bare⟩
theorem layable_weight {ds:List WData} (h:WData.layableAll ds=true):∀d∈ds,d.weight≤1048576:=fun d hd =>
 (PySem.W.layableW_iff.mp (List.all_eq_true.mp h d hd)).2.2
theorem encAll_len:∀(cs:List Codec) (a:Codec.denoteAll cs),(Codec.encAll cs a).length=cs.length
  | [],_=>rfl
  | c::cs,a=>by
    show(Codec.encAll cs a.2).length+1=cs.length+1
    rw[encAll_len cs a.2]
theorem walk_spec {r:OpenSpec} {k:Nat} {q:Program} {loose:List Str} {XP:(Str→Option Value)→Heap→Prop} {YP:World→Heap→Prop} {d:DefRec} {K:Params→PySem.W.Frag} {CX:World→CXT} {ps:List Str} {sp:World→Sp}
    (hwell:r.wellSaid=true) (hdf:d.params.defaults=[]) (hlen:r.args.length=ps.length) (hr:Room k callerA)
    (hY:∀(w:World) (h:Heap),YP w h→(K w.params).In h)
    (F:∀(w:World) (mg:Str→Option Value) (fa:Addr) (h:Heap),YP w h→(K w.params).In h→h.Ns mainGlobals mg→mg d.name=some (.ref fa) →
      ∃ fd : FuncData, (∀ (s : Shared) (us : List Value), us.length = ps.length → BindsTo s fd ⟨us, []⟩ (ps.zip us)) ∧
        ∀base:Heap,(K w.params).In base→base.Ns mainGlobals mg→FnOk r.prog w (K w.params) mg base (CX w) k fa fd ps (sp w))
    (hsp:∀(w:World) (H:Hp) (xs:List V) (a:Codec.denoteAll r.args),OnlyF H→Codec.withinAll r.args a=true→Codec.app r.args r.asked a=true→DwAll (K w.params) H xs (Codec.encAll r.args a) →
      sp w xs H (fun v H'=>Dw (K w.params) H' v (r.ret.enc (Codec.app r.args r.f a))) fun _ _ _=>False)
    (hCX:∀(w:World) (H:Hp) (s:Shared) (e:Value) (s':Shared),CX w [] H s (fun _ _ _=>False) e s'→False) :
    PySem.W.WalkOS q loose XP YP r d [] (fun f vs=>PySem.call f vs):=by
  intro w s_0 s₁ mg mb G Y fa o pm cd doc dV kV ho hd hcd hD hmg hg args vals as hpre hlay hrd hwl hlo
  obtain⟨a,e1,e2⟩:=PySem.W.os_pre_some hpre
  obtain⟨e3,hwi⟩:=Codec.encAll_of_decAll r.args args a e1
  subst e3
  have KX:=hY w _ Y
  obtain⟨fd,hb,hF⟩:=F w mg fa _ Y KX G.T.g hmg
  refine PySem.W.enter_call (codeAny_mono (spec_call (R:=[]) (cl:=classAt s_0.heap) (d0:=r.ret.enc (Codec.app r.args r.f a)) KX G.T.g G.T.b G.T.builtins G.T.nolimit hg hwl (pl_encAll _ _) (layable_weight hlay) hr hF hb (by rw[encAll_len];exact hlen)
    (fun H xs hO hS=>hsp w H xs a hO hwi e2 hS) fun H e s'=>hCX w H s₁ e s') fun r' s' hq=>?_)
  obtain⟨u,as',rfl,h1,h2,h3,h4⟩:=hq
  exact⟨.inl ⟨u,_,as',rfl,fun _=>rfl,h1,(OpenSpec.post_iff hwell hwi _ _).mpr rfl,fun z=>Bool.noConfusion (show false=true from z)⟩,h2,h3,h4⟩
theorem walk_specK {r:OpenSpec} {k:Nat} {q:Program} {loose:List Str} {XP:(Str→Option Value)→Heap→Prop} {YP:World→Heap→Prop} {d:DefRec} {K:Params→PySem.W.Frag} {CX:CXT} {ps:List Str} {sp:PySem.W.Frag→Sp}
    (hwell:r.wellSaid=true) (hdf:d.params.defaults=[]) (hlen:r.args.length=ps.length) (hr:Room k callerA)
    (hY:∀(w:World) (h:Heap),YP w h→(K w.params).In h)
    (F:∀(w:World) (mg:Str→Option Value) (fa:Addr) (h:Heap),YP w h→(K w.params).In h→h.Ns mainGlobals mg→mg d.name=some (.ref fa) →
      ∃ fd : FuncData, (∀ (s : Shared) (us : List Value), us.length = ps.length → BindsTo s fd ⟨us, []⟩ (ps.zip us)) ∧
        ∀base:Heap,(K w.params).In base→base.Ns mainGlobals mg→FnOk r.prog w (K w.params) mg base CX k fa fd ps (sp (K w.params)))
    (hsp:∀(K:PySem.W.Frag) (H:Hp) (xs:List V) (a:Codec.denoteAll r.args),OnlyF H→Codec.withinAll r.args a=true→Codec.app r.args r.asked a=true→DwAll K H xs (Codec.encAll r.args a) →
      sp K xs H (fun v H'=>Dw K H' v (r.ret.enc (Codec.app r.args r.f a))) fun _ _ _=>False)
    (hCX:∀(H:Hp) (s:Shared) (e:Value) (s':Shared),CX [] H s (fun _ _ _=>False) e s'→False) :
    PySem.W.WalkOS q loose XP YP r d [] (fun f vs=>PySem.call f vs) :=
  walk_spec (K:=K) (CX:=fun _=>CX) (sp:=fun w=>sp (K w.params)) hwell hdf hlen hr hY F (fun w H xs a h1 h2 h3 h4=>hsp (K w.params) H xs a h1 h2 h3 h4) fun _ H s e s'=>hCX H s e s'
end L2
end
namespace M
open Sd19 (bit bits setBit clearBit base index canonical load store byteAt putByte)
theorem bit_tb (x i:Nat):bit x i=x.testBit i:=by
 unfold bit
 rw[Nat.testBit_eq_decide_div_mod_eq]
 rfl
theorem and_pow (x i:Nat):((x &&& 2 ^ i)≠0)↔bit x i=true:=by
 rw[bit_tb]
 constructor
 ·intro h
  obtain⟨j,hj⟩:=Nat.exists_testBit_of_ne_zero h
  rw[Nat.testBit_and,Nat.testBit_two_pow]at hj
  simp at hj
  rw[hj.2];exact hj.1
 ·intro h e
  have:(x &&& 2 ^ i).testBit i=true:=by
   rw[Nat.testBit_and,Nat.testBit_two_pow,h];simp
  rw[e]at this
  simp at this
theorem and_mask (x i n:Nat):x &&& ((2 ^ n - 1) * 2 ^ i)=bits x i n * 2 ^ i:=by
 unfold bits
 apply Nat.eq_of_testBit_eq
 intro j
 rw[Nat.testBit_and,Nat.testBit_mul_two_pow,Nat.testBit_mul_two_pow,Nat.testBit_two_pow_sub_one,Nat.testBit_mod_two_pow,Nat.testBit_div_two_pow]
 by_cases h:i≤j
 ·by_cases h2:j - i<n
  ·simp[h,h2]
  ·simp[h,h2]
 ·simp[h]
theorem and_mask_ne (x i n:Nat):(x &&& ((2 ^ n - 1) * 2 ^ i))≠0↔bits x i n≠0:=by
 rw[and_mask]
 have:0<2 ^ i:=Nat.two_pow_pos i
 constructor
 ·intro h e;rw[e]at h;simp at h
 ·intro h e
  rcases Nat.mul_eq_zero.mp e with z|z
  ·exact h z
  ·omega
theorem or_ne (a b:Nat):(a ||| b)≠0↔a≠0∨b≠0:=by
 rw[Ne,Nat.or_eq_zero_iff]
 constructor
 ·intro h
  by_cases e:a=0
  ·right;intro e2;exact h ⟨e,e2⟩
  ·left;exact e
 ·rintro(h|h) ⟨e1,e2⟩
  ·exact h e1
  ·exact h e2
theorem base_and (e:Nat):e &&& 4503599627366400=base e:=by
 have:=and_mask e 12 40
 unfold base
 exact this
theorem and_or_add:∀(n a b:Nat),a<2 ^ n→(a &&& b)+(a ||| b)=a+b
  | 0,a,b,h=>by
    have:a=0:=by simpa using h
    subst this;simp
  | n+1,a,b,h=>by
    have ih:=and_or_add n (a / 2) (b / 2) (by rw[Nat.pow_succ]at h;omega)
    rw[←Nat.and_div_two,←Nat.or_div_two]at ih
    have h1:(a &&& b) % 2=1↔a % 2=1∧b % 2=1:=Nat.and_mod_two_eq_one
    have h2:(a ||| b) % 2=1↔a % 2=1∨b % 2=1:=Nat.or_mod_two_eq_one
    omega
theorem and_or (a b:Nat):(a &&& b)+(a ||| b)=a+b:=and_or_add a a b Nat.lt_two_pow_self
theorem and_xor_add:∀(n a b:Nat),a<2 ^ n→2 * (a &&& b)+(a ^^^ b)=a+b
  | 0,a,b,h=>by
    have:a=0:=by simpa using h
    subst this;simp
  | n+1,a,b,h=>by
    have ih:=and_xor_add n (a / 2) (b / 2) (by rw[Nat.pow_succ]at h;omega)
    rw[←Nat.and_div_two,←Nat.xor_div_two]at ih
    have h1:(a &&& b) % 2=1↔a % 2=1∧b % 2=1:=Nat.and_mod_two_eq_one
    have h2:(a ^^^ b) % 2=1↔¬(a % 2=1↔b % 2=1):=Nat.xor_mod_two_eq_one
    omega
theorem and_xor (a b:Nat):2 * (a &&& b)+(a ^^^ b)=a+b:=and_xor_add a a b Nat.lt_two_pow_self
theorem or_of_and {a b:Nat} (h:a &&& b=0):a ||| b=a+b:=by
 have:=and_or a b
 omega
theorem or_pow (x i:Nat):x ||| 2 ^ i=setBit x i:=by
  unfold setBit
  rw[bit_tb]
  by_cases h:x.testBit i=true
  · rw[if_pos h]
    apply Nat.eq_of_testBit_eq
    intro j
    rw[Nat.testBit_or,Nat.testBit_two_pow]
    by_cases e:i=j
    · subst e;simp[h]
    · simp[e]
  · rw [if_neg h]
    have e:(x ||| 2 ^ i)=x+2 ^ i:=by
      have h0:x &&& 2 ^ i=0:=by
        apply Nat.eq_of_testBit_eq
        intro j
        rw[Nat.testBit_and,Nat.testBit_two_pow]
        by_cases e:i=j
        · subst e;simp[h]
        · simp[e]
      have:=or_of_and h0
      exact this
    exact e
theorem there (e:Nat):(e &&& 1≠0)↔bit e 0=true:=and_pow e 0
theorem writable (e:Nat):(e &&& 2≠0)↔bit e 1=true:=and_pow e 1
theorem users (e:Nat):(e &&& 4≠0)↔bit e 2=true:=and_pow e 2
theorem big (e:Nat):(e &&& 128≠0)↔bit e 7=true:=and_pow e 7
theorem nx (e:Nat):(e &&& 9223372036854775808≠0)↔bit e 63=true:=and_pow e 63
theorem always (e:Nat):(e &&& 4502500115742720≠0)↔bits e 40 12≠0:=and_mask_ne e 40 12
theorem big3 (e:Nat):(e &&& 1073733632≠0)↔bits e 13 17≠0:=and_mask_ne e 13 17
theorem big2 (e:Nat):(e &&& 2088960≠0)↔bits e 13 8≠0:=and_mask_ne e 13 8
theorem used (e:Nat):e ||| 32=setBit e 5:=or_pow e 5
theorem written (e:Nat):e ||| 64=setBit e 6:=or_pow e 6
theorem key (e:Nat):e / 2 ^ 59 &&& 15=bits e 59 4:=Nat.and_two_pow_sub_one_eq_mod (e / 2 ^ 59) 4
theorem right1 (r k:Nat):(r / 2 ^ (2 * k) &&& 1≠0)↔bit r (2 * k)=true:=by
 rw[there,bit_tb,bit_tb,Nat.testBit_div_two_pow,Nat.zero_add]
theorem right2 (r k:Nat):(r / 2 ^ (2 * k) &&& 2≠0)↔bit r (2 * k+1)=true:=by
 rw[writable,bit_tb,bit_tb,Nat.testBit_div_two_pow,Nat.add_comm]
theorem canon {addr:Nat} (h:addr<2 ^ 64):canonical addr=true↔(addr / 2 ^ 47=0∨addr / 2 ^ 47=131071):=by
 have e:bits addr 47 17=addr / 2 ^ 47:=by
  unfold bits
  apply Nat.mod_eq_of_lt
  omega
 unfold canonical
 rw[e]
 simp
theorem index_eq (level addr:Nat):index level addr=addr / 2 ^ (3+9 * level) % 512:=rfl
theorem index_lt (level addr:Nat):index level addr<512:=Nat.mod_lt _ (by decide)
theorem base_lt (e:Nat):base e<2 ^ 52:=by
 have:bits e 12 40<2 ^ 40:=Nat.mod_lt _ (by decide)
 unfold base
 omega
theorem base_mod (e:Nat):base e % 4096=0:=Nat.mul_mod_left _ _
theorem setBit_lt {x i n:Nat} (h:x<2 ^ n) (hi:i<n):setBit x i<2 ^ n:=by
 rw[←or_pow]
 exact Nat.or_lt_two_pow h (Nat.pow_lt_pow_right (by decide) hi)
theorem tb_setBit (x i j:Nat):(setBit x i).testBit j=(x.testBit j||decide (i=j)):=by
 rw[←or_pow,Nat.testBit_or,Nat.testBit_two_pow]
theorem setBit_idem (x i:Nat):setBit (setBit x i) i=setBit x i:=by
 apply Nat.eq_of_testBit_eq
 intro j
 rw[tb_setBit,tb_setBit]
 by_cases h:i=j<;>simp[h]
theorem bit_setBit (x i j:Nat) (h:i≠j):bit (setBit x i) j=bit x j:=by
 rw[bit_tb,bit_tb,tb_setBit];simp[h]
theorem bits_setBit (x i j n:Nat) (h:i<j∨j+n≤i):bits (setBit x i) j n=bits x j n:=by
 unfold bits
 apply Nat.eq_of_testBit_eq
 intro k
 rw[Nat.testBit_mod_two_pow,Nat.testBit_mod_two_pow,Nat.testBit_div_two_pow,Nat.testBit_div_two_pow,tb_setBit]
 by_cases hk:k<n
 ·have:¬i=k+j:=by omega
  simp[this]
 ·simp[hk]
theorem base_setBit (x i:Nat) (h:i<12):base (setBit x i)=base x:=by
 unfold base
 rw[bits_setBit x i 12 40 (Or.inl h)]
theorem pow256 (k:Nat):256 ^ k=2 ^ (8 * k):=by rw[Nat.pow_mul]
theorem byte_of (x k:Nat):x / 2 ^ (8 * k) &&& 255=x / 256 ^ k % 256:=by
 rw[pow256]
 exact Nat.and_two_pow_sub_one_eq_mod _ 8
theorem put_of (x k b:Nat) (hb:b<256):x ^^^ ((x / 256 ^ k % 256 ^^^ b) * 2 ^ (8 * k))=x - x / 256 ^ k % 256 * 256 ^ k+b * 256 ^ k:=by
  rw[pow256]
  have hlo:x % 2 ^ (8 * k)<2 ^ (8 * k):=Nat.mod_lt _ (Nat.two_pow_pos _)
  have ho:x / 2 ^ (8 * k) % 256<256:=Nat.mod_lt _ (by decide)
  have e2:x - x / 2 ^ (8 * k) % 256 * 2 ^ (8 * k)+b * 2 ^ (8 * k)=(x / 2 ^ (8 * k) / 256 * 256+b) * 2 ^ (8 * k)+x % 2 ^ (8 * k):=by
    have h1:=Nat.div_add_mod x (2 ^ (8 * k))
    have h2:=Nat.div_add_mod (x / 2 ^ (8 * k)) 256
    generalize x / 2 ^ (8 * k)=q at *
    generalize x % 2 ^ (8 * k)=r at *
    generalize 2 ^ (8 * k)=p at *
    have e3:q=q / 256 * 256+q % 256:=by omega
    generalize q / 256=u at *
    generalize q % 256=v at *
    subst e3
    rw[←h1]
    have e4:p * (u * 256+v)=(u * 256) * p+v * p:=by rw[Nat.mul_comm,Nat.add_mul]
    rw[e4,Nat.add_mul]
    omega
  rw[e2]
  apply Nat.eq_of_testBit_eq
  intro j
  have e5:(x / 2 ^ (8 * k) / 256 * 256+b) * 2 ^ (8 * k)+x % 2 ^ (8 * k)=2 ^ (8 * k) * (x / 2 ^ (8 * k) / 256 * 256+b)+x % 2 ^ (8 * k):=by rw[Nat.mul_comm]
  have e6:x / 2 ^ (8 * k) / 256 * 256+b=2 ^ 8 * (x / 2 ^ (8 * k) / 2 ^ 8)+b:=by
    show x / 2 ^ (8 * k) / 256 * 256+b=256 * (x / 2 ^ (8 * k) / 256)+b
    omega
  rw[e5,Nat.testBit_two_pow_mul_add _ hlo,e6,Nat.testBit_two_pow_mul_add _ (show b<2 ^ 8 from hb),Nat.testBit_xor,Nat.testBit_mul_two_pow,Nat.testBit_xor,
    show(x / 2 ^ (8 * k) % 256)=(x / 2 ^ (8 * k) % 2 ^ 8) from rfl,Nat.testBit_mod_two_pow,Nat.testBit_mod_two_pow,Nat.testBit_div_two_pow,Nat.testBit_div_two_pow,Nat.testBit_div_two_pow]
  by_cases h1:j<8 * k
  · have:¬8 * k≤j:=by omega
    simp[h1,this]
  · have h1':8 * k≤j:=by omega
    by_cases h2:j - 8 * k<8
    · have e7:j - 8 * k+8 * k=j:=by omega
      simp[h1,h1',h2,e7]
    · have e7:j - 8 * k - 8+8+8 * k=j:=by omega
      have hb2:b.testBit (j - 8 * k)=false:=Nat.testBit_lt_two_pow (Nat.lt_of_lt_of_le hb (by
        have:2 ^ 8≤2 ^ (j - 8 * k):=Nat.pow_le_pow_right (by decide) (by omega)
        exact this))
      simp[h1,h1',h2,e7,hb2]
theorem put_lt (x k b n:Nat) (hx:x<2 ^ 64) (hb:b<256) (hk:k<8):x - x / 256 ^ k % 256 * 256 ^ k+b * 256 ^ k<2 ^ 64:=by
 rw[←put_of x k b hb]
 refine Nat.xor_lt_two_pow hx ?_
 have h1:(x / 256 ^ k % 256 ^^^ b)<2 ^ 8:=Nat.xor_lt_two_pow (Nat.mod_lt _ (by decide)) hb
 have h2:(x / 256 ^ k % 256 ^^^ b) * 2 ^ (8 * k)<2 ^ 8 * 2 ^ (8 * k):=Nat.mul_lt_mul_of_pos_right h1 (Nat.two_pow_pos _)
 rw[←Nat.pow_add]at h2
 exact Nat.lt_of_lt_of_le h2 (Nat.pow_le_pow_right (by decide) (by omega))
end M
namespace M
open Sd19
structure MOk (m:Mem):Prop where
 sz:m.size=131072
 lt:∀i,m.getD i 0<2 ^ 64
theorem getD_set (m:Array Nat) (i j x:Nat):(m.setIfInBounds i x).getD j 0=if i=j∧i<m.size then x else m.getD j 0:=by
 rw[Array.getD_eq_getD_getElem?,Array.getD_eq_getD_getElem?,Array.getElem?_setIfInBounds]
 by_cases h:i=j
 ·subst h
  by_cases h2:i<m.size
  ·simp[h2]
  ·simp[h2]
 ·simp[h]
theorem MOk.set {m:Mem} (h:MOk m) (i x:Nat) (hx:x<2 ^ 64):MOk (m.setIfInBounds i x):=by
 refine⟨by rw[Array.size_setIfInBounds];exact h.sz,fun j=>?_⟩
 rw[getD_set]
 split
 ·exact hx
 ·exact h.lt j
theorem MOk.store {m:Mem} (h:MOk m) (a x:Nat):MOk (store m a x):=h.set _ _ (Nat.mod_lt _ (by decide))
theorem load_store {m:Mem} (h:MOk m) (a b x:Nat) (ha:a<1048576):load (store m a x) b=if a / 8=b / 8 then x % 2 ^ 64 else load m b:=by
 unfold load store
 rw[getD_set]
 have:a / 8<m.size:=by rw[h.sz];omega
 by_cases e:a / 8=b / 8
 ·rw[if_pos ⟨e,this⟩,if_pos e]
 ·rw[if_neg (fun q=>e q.1),if_neg e]
theorem MOk.load {m:Mem} (h:MOk m) (a:Nat):load m a<2 ^ 64:=h.lt _
theorem set_self (m:Array Nat) (i x:Nat) (h:m.getD i 0=x):m.setIfInBounds i x=m:=by
 apply Array.ext_getElem?
 intro j
 rw[Array.getElem?_setIfInBounds]
 by_cases e:i=j
 ·subst e
  by_cases h2:i<m.size
  ·rw[if_pos rfl,if_pos h2,←h]
   simp[Array.getD_eq_getD_getElem?,h2]
  ·rw[if_pos rfl,if_neg h2]
   simp[h2]
 ·rw[if_neg e]
theorem store_self {m:Mem} (h:MOk m) (a:Nat):store m a (load m a)=m:=by
 unfold store
 rw[Nat.mod_eq_of_lt (h.load a)]
 exact set_self m _ _ rfl
theorem blank_ok:MOk blank:=by
 refine⟨by simp[blank],fun i=>?_⟩
 unfold blank
 rw[Array.getD_eq_getD_getElem?,Array.getElem?_replicate]
 split<;>decide
def cpuOf (a f r:Nat):Cpu:=⟨a,bit f 0,bit f 1,bit f 2,bit f 3,bit f 4,bit f 5,bit f 6,r⟩
def outL:Out→Nat→List Nat
 | .at_ a z _,_=>[0,a,z]
 | .fault k,addr=>[1,k,addr]
 | .beyond a,addr=>[2,a,addr]
 | .none_,addr=>[3,0,addr]
def marked (m:Mem) (kind:Nat):Out→Mem
 | .at_ _ _ path=>mark m kind path
 | _=>m
def endOut (c:Cpu) (addr kind:Nat) (path es:List Nat):Out :=
 let e:=es.getLast?.getD 0
 let size:=2 ^ (12+9 * (4 - es.length))
 let u:=es.all (bit · 2)
 if denied c kind (bits e 59 4) u=true∨allowed c kind (es.all (bit · 1)) u (es.all fun e=>!bit e 63)=false then .fault (code c kind true false (denied c kind (bits e 59 4) u))
 else .at_ (base e / size * size+addr % size) size path
structure WalkAt (m:Mem) (c:Cpu) (addr kind n table:Nat) (path es:List Nat):Prop where
 eq:look m c addr kind=walk m c addr kind (4 - n) table (es.all (bit · 1)) (es.all (bit · 2)) (es.all fun e=>!bit e 63) path
 pl:path.length=n
 el:es.length=n
 tm:table % 4096=0
 tl:table<2 ^ 52
 pm:∀p∈path,p<1048576∧p % 8=0
 em:∀e∈es,e<2 ^ 64
theorem walk_begin (m:Mem) (c:Cpu) (addr kind:Nat) (h:canonical addr=true):WalkAt m c addr kind 0 (base c.root) [] []:=by
 refine⟨?_,rfl,rfl,base_mod _,base_lt _,(fun _ h=>nomatch h),(fun _ h=>nomatch h)⟩
 unfold look
 rw[if_neg (by rw[h];decide)]
 rfl
theorem place_lt {table level addr:Nat} (h:table<1048576) (hm:table % 4096=0):table+8 * index level addr<1048576∧(table+8 * index level addr) % 8=0:=by
 have:=index_lt level addr
 omega
section
variable {m:Mem} {c:Cpu} {addr kind n table:Nat} {path es:List Nat}
theorem WalkAt.beyond (W:WalkAt m c addr kind n table path es) (hn:n<4) (ht:¬table<1048576):look m c addr kind=.beyond table:=by
 rw[W.eq]
 obtain⟨k,hk⟩:∃k,4 - n=k+1:=⟨3 - n,by omega⟩
 rw[hk]
 unfold walk
 rw[if_pos (by show(1048576:Nat)<table+4096;omega)]
theorem all_snoc (es:List Nat) (e:Nat) (p:Nat→Bool):(es++[e]).all p=(es.all p&&p e):=by
 rw[List.all_append];simp
theorem WalkAt.step (W:WalkAt m c addr kind n table path es) (hn:n<4) (ht:table<1048576) :
  let a:=table+8 * index (4 - n) addr
  let e:=load m a
  (bit e 0=false→look m c addr kind=.fault (code c kind false false false)) ∧
  (bit e 0=true→reserved c (4 - n) e=true→look m c addr kind=.fault (code c kind true true false)) ∧
  (bit e 0=true→reserved c (4 - n) e=false→(n=3∨bit e 7=true)→look m c addr kind=endOut c addr kind (path++[a]) (es++[e])):=by
 intro a e
 have hw:=W.eq
 have k1:=W.pl
 have k2:=W.el
 obtain⟨k,hk⟩:∃k,4 - n=k+1:=⟨3 - n,by omega⟩
 have hb:¬MEM<table+4096:=by
  have:=W.tm
  show ¬(1048576:Nat)<table+4096
  omega
 rw[hk]at hw
 unfold walk at hw
 rw[if_neg hb]at hw
 have ea:table+8 * index (k+1) addr=a:=by show _=table+8 * index (4 - n) addr;rw[hk]
 rw[ea]at hw
 refine⟨fun h0=>?_,fun h0 hr=>?_,fun h0 hr hl=>?_⟩
 ·rw[hw]
  simp only
  rw[if_pos h0]
 ·rw[hw]
  simp only
  rw[if_neg (by rw[h0];decide),if_pos (by rw[←hk];exact hr)]
 ·rw[hw]
  simp only
  have hl':k=0∨bit e 7=true:=by
   rcases hl with h|h
   ·left;omega
   ·right;exact h
  rw[if_neg (by rw[h0];decide),if_neg (by rw[←hk];rw[hr];decide),if_pos hl']
  have es1:(es++[e]).length=n+1:=by simp[k2]
  have eg:(es++[e]).getLast?.getD 0=e:=by simp
  have kk:4 - (n+1)=k:=by omega
  unfold endOut
  rw[all_snoc,all_snoc,all_snoc,es1,eg,kk]
theorem WalkAt.next (hM:MOk m) (W:WalkAt m c addr kind n table path es) (hn:n<3) (ht:table<1048576)
  (h0:bit (load m (table+8 * index (4 - n) addr)) 0=true) (hr:reserved c (4 - n) (load m (table+8 * index (4 - n) addr))=false) (hb:bit (load m (table+8 * index (4 - n) addr)) 7=false) :
  WalkAt m c addr kind (n+1) (base (load m (table+8 * index (4 - n) addr))) (path++[table+8 * index (4 - n) addr]) (es++[load m (table+8 * index (4 - n) addr)]):=by
 have hp:=place_lt (level:=4 - n) (addr:=addr) ht W.tm
 generalize ha:table+8 * index (4 - n) addr=a at *
 have k1:=W.pl
 have k2:=W.el
 refine⟨?_,by simp[k1],by simp[k2],base_mod _,base_lt _,?_,?_⟩
 ·have hw:=W.eq
  obtain⟨k,hk⟩:∃k,4 - n=k+1:=⟨3 - n,by omega⟩
  have hb':¬MEM<table+4096:=by
   have:=W.tm
   show ¬(1048576:Nat)<table+4096
   omega
  rw[hk]at hw
  unfold walk at hw
  rw[if_neg hb']at hw
  have ea:table+8 * index (k+1) addr=a:=by rw[←ha,hk]
  rw[ea]at hw
  simp only at hw
  have hl':¬(k=0∨bit (load m a) 7=true):=by
   rintro(h|h)
   ·omega
   ·rw[hb]at h;cases h
  rw[if_neg (by rw[h0];decide),if_neg (by rw[←hk];rw[hr];decide),if_neg hl']at hw
  rw[hw,all_snoc,all_snoc,all_snoc,show 4 - (n+1)=k by omega]
 ·intro p hp'
  rcases List.mem_append.mp hp' with h|h
  ·exact W.pm p h
  ·rw[List.mem_singleton.mp h];exact hp
 ·intro e he
  rcases List.mem_append.mp he with h|h
  ·exact W.em e h
  ·rw[List.mem_singleton.mp h];exact hM.load a
end
theorem code_nt (c:Cpu) (kind:Nat):code c kind false false false=0+2 * nat (kind==1)+4 * nat c.user+16 * nat (kind==2&&(c.nxe||c.smep)):=by
 unfold code nat;simp
theorem code_rs (c:Cpu) (kind:Nat):code c kind true true false=9+2 * nat (kind==1)+4 * nat c.user+16 * nat (kind==2&&(c.nxe||c.smep)):=by
 unfold code nat;simp;omega
theorem code_dn (c:Cpu) (kind:Nat):code c kind true false false=1+2 * nat (kind==1)+4 * nat c.user+16 * nat (kind==2&&(c.nxe||c.smep)):=by
 unfold code nat;simp
theorem code_ky (c:Cpu) (kind:Nat):code c kind true false true=33+2 * nat (kind==1)+4 * nat c.user+16 * nat (kind==2&&(c.nxe||c.smep)):=by
 unfold code nat;simp;omega
end M
namespace M
open Sd19
def mk (m:Mem) (path:List Nat):Mem:=path.foldl (fun(m:Mem) (a:Nat)=>store m a (setBit (load m a) 5)) m
theorem mk_cons (m:Mem) (a:Nat) (r:List Nat):mk m (a::r)=mk (store m a (setBit (load m a) 5)) r:=rfl
theorem mk_snoc (m:Mem) (a:Nat) (r:List Nat):mk m (r++[a])=store (mk m r) a (setBit (load (mk m r) a) 5):=by
 unfold mk
 rw[List.foldl_append]
 rfl
theorem mk_ok:∀{path:List Nat} {m:Mem},MOk m→MOk (mk m path)
 | [],_,h=>h
 | a::r,m,h=>by rw[mk_cons];exact mk_ok (h.store _ _)
theorem mark_read (m:Mem) (path:List Nat) (kind:Nat) (hk:kind≠1):mark m kind path=mk m path:=by
 unfold mark
 show(match path.getLast? with
  | some a=>if kind=1 then store (mk m path) a (setBit (load (mk m path) a) 6)else mk m path
  | none=>mk m path)=_
 split
 ·rw[if_neg hk]
 ·rfl
theorem mark_write (m:Mem) (path:List Nat) (a:Nat):mark m 1 (path++[a])=store (mk m (path++[a])) a (setBit (load (mk m (path++[a])) a) 6):=by
 unfold mark
 show(match (path++[a]).getLast? with
  | some a'=>if(1:Nat)=1 then store (mk m (path++[a])) a' (setBit (load (mk m (path++[a])) a') 6)else mk m (path++[a])
  | none=>mk m (path++[a]))=_
 rw[List.getLast?_append]
 simp
theorem set5_lt {x:Nat} (h:x<2 ^ 64):setBit x 5 % 2 ^ 64=setBit x 5:=Nat.mod_eq_of_lt (setBit_lt h (by decide))
theorem load_mk:∀{path:List Nat} {m:Mem} (b:Nat),MOk m→(∀p∈path,p<1048576)→load (mk m path) b=if(path.any fun p=>p / 8==b / 8)=true then setBit (load m b) 5 else load m b
  | [],_,_,_,_=>rfl
  | a :: r, m, b, h, hp => by
    rw[mk_cons,load_mk b (h.store _ _) (fun p q=>hp p (List.mem_cons_of_mem _ q)),load_store h a b _ (hp a List.mem_cons_self),set5_lt (h.load a),List.any_cons]
    by_cases e:a / 8=b / 8
    · have el:load m a=load m b:=by unfold load;rw[e]
      rw[if_pos e,el,setBit_idem]
      simp[e]
    · rw[if_neg e]
      simp[e]
theorem mk_idem:∀{path:List Nat} {m:Mem},MOk m→(∀p∈path,p<1048576∧bit (load m p) 5=true)→mk m path=m
  | [],_,_,_=>rfl
  | a :: r, m, h, hp => by
    have e:store m a (setBit (load m a) 5)=m:=by
      have:setBit (load m a) 5=load m a:=by unfold setBit;rw[if_pos (hp a List.mem_cons_self).2]
      rw[this];exact store_self h a
    rw[mk_cons,e]
    exact mk_idem h fun p q=>hp p (List.mem_cons_of_mem _ q)
theorem bit_setBit_self (x i:Nat):bit (setBit x i) i=true:=by
 rw[bit_tb,tb_setBit];simp
theorem mk_mk {path:List Nat} {m:Mem} (h:MOk m) (hp:∀p∈path,p<1048576):mk (mk m path) path=mk m path:=by
 refine mk_idem (mk_ok h) fun p q=>⟨hp p q,?_⟩
 rw[load_mk p h hp,if_pos]
 ·exact bit_setBit_self _ _
 ·exact List.any_eq_true.mpr ⟨p,q,by simp⟩
def Near (m m':Mem):Prop:=∀b,load m' b=load m b∨load m' b=setBit (load m b) 5
theorem near_mk {path:List Nat} {m:Mem} (h:MOk m) (hp:∀p∈path,p<1048576):Near m (mk m path):=fun b=>by
 rw[load_mk b h hp]
 split
 ·exact .inr rfl
 ·exact .inl rfl
theorem reserved_near {x y level:Nat} {c:Cpu} (h:y=x∨y=setBit x 5):reserved c level y=reserved c level x:=by
 rcases h with rfl|rfl
 ·rfl
 ·unfold reserved
  rw[bits_setBit _ _ _ _ (.inl (by decide)),bit_setBit _ _ _ (by decide),bit_setBit _ _ _ (by decide),bits_setBit _ _ _ _ (.inl (by decide)),bits_setBit _ _ _ _ (.inl (by decide))]
theorem bit_near {x y i:Nat} (h:y=x∨y=setBit x 5) (hi:i≠5):bit y i=bit x i:=by
 rcases h with rfl|rfl
 ·rfl
 ·exact bit_setBit _ _ _ (Ne.symm hi)
theorem base_near {x y:Nat} (h:y=x∨y=setBit x 5):base y=base x:=by
 rcases h with rfl|rfl
 ·rfl
 ·exact base_setBit _ _ (by decide)
theorem bits_near {x y i n:Nat} (h:y=x∨y=setBit x 5) (hi:5<i):bits y i n=bits x i n:=by
 rcases h with rfl|rfl
 ·rfl
 ·exact bits_setBit _ _ _ _ (.inl hi)
theorem index_same {addr addr' l level:Nat} (h:addr / 2 ^ (12+9 * l)=addr' / 2 ^ (12+9 * l)) (hl:l≤level):index (level+1) addr=index (level+1) addr':=by
 have e:2 ^ (3+9 * (level+1))=2 ^ (12+9 * l) * 2 ^ (9 * (level - l)):=by
  rw[←Nat.pow_add];congr 1;omega
 unfold index bits
 rw[e,←Nat.div_div_eq_div_mul,←Nat.div_div_eq_div_mul,h]
theorem walk_path {m:Mem} {c:Cpu} {addr kind:Nat}:∀(n table:Nat) (w u x:Bool) (path:List Nat) (a z:Nat) (P:List Nat),table % 4096=0→walk m c addr kind n table w u x path=.at_ a z P →
    (∃l,l<n∧z=2 ^ (12+9 * l)∧∃b,a=b * 2 ^ (12+9 * l)+addr % 2 ^ (12+9 * l))∧∃q b,P=path++q++[b]∧(∀p∈q++[b],p<1048576∧p % 8=0)
  | 0,_,_,_,_,_,_,_,_,_,h=>by simp[walk]at h
  | level + 1, table, w, u, x, path, a, z, P, ht, h => by
    have hix:=index_lt (level+1) addr
    unfold walk at h
    simp only at h
    split at h
    · cases h
    · rename_i hb
      have hb':¬(1048576:Nat)<table+4096:=hb
      split at h
      · cases h
      · split at h
        · cases h
        · split at h
          · split at h
            · cases h
            · injection h with h1 h2 h3
              refine⟨⟨level,by omega,h2.symm,⟨_,h1.symm⟩⟩,[],table+8 * index (level+1) addr,by simp[h3],?_⟩
              intro p hp
              have:p=table+8 * index (level+1) addr:=by simpa using hp
              subst this
              omega
          · obtain⟨⟨l,hl,hz,hb2⟩,q,b,hP,hq⟩:=walk_path level _ _ _ _ _ _ _ _ (base_mod _) h
            refine⟨⟨l,by omega,hz,hb2⟩,(table+8 * index (level+1) addr)::q,b,by rw[hP];simp,?_⟩
            intro p hp
            have hp2:p=table+8 * index (level+1) addr∨p∈q++[b]:=by simpa using hp
            rcases hp2 with rfl|hp3
            · omega
            · exact hq p hp3
theorem walk_same {m m':Mem} {c:Cpu} {addr addr' kind:Nat} (hn:Near m m'):∀(n table:Nat) (w u x:Bool) (path:List Nat) (a z:Nat) (P:List Nat),table % 4096=0→walk m c addr kind n table w u x path=.at_ a z P→addr / z=addr' / z →
    walk m' c addr' kind n table w u x path=.at_ (a - addr % z+addr' % z) z P
  | 0,_,_,_,_,_,_,_,_,_,h,_=>by simp[walk]at h
  | level + 1, table, w, u, x, path, a, z, P, ht, h, hz => by
    obtain⟨⟨l,hl,ez,_⟩,_⟩:=walk_path (level+1) table w u x path a z P ht h
    have hi:index (level+1) addr=index (level+1) addr':=index_same (l:=l) (by rw[←ez];exact hz) (by omega)
    unfold walk at h ⊢
    simp only at h ⊢
    rw[←hi]
    have nr:=hn (table+8 * index (level+1) addr)
    generalize load m (table+8 * index (level+1) addr)=e at *
    generalize load m' (table+8 * index (level+1) addr)=e' at *
    rw[bit_near nr (by decide:(0:Nat)≠5),bit_near nr (by decide:(1:Nat)≠5),bit_near nr (by decide:(2:Nat)≠5),bit_near nr (by decide:(63:Nat)≠5),bit_near nr (by decide:(7:Nat)≠5),reserved_near nr,base_near nr,bits_near (i:=59) (n:=4) nr (by decide)]
    split at h
    · cases h
    · split at h
      · cases h
      · rename_i h1 h2
        rw[if_neg h1,if_neg h2]
        split at h
        · cases h
        · rename_i h3
          rw[if_neg h3]
          split at h
          · rename_i h4
            rw[if_pos h4]
            split at h
            · cases h
            · rename_i h5
              rw[if_neg h5]
              injection h with e1 e2 e3
              rw[e2]at e1 ⊢
              rw[e3,←e1]
              congr 1
              omega
          · rename_i h4
            rw[if_neg h4]
            exact walk_same hn level _ _ _ _ _ _ _ _ (base_mod _) h hz
theorem canonical_same {addr addr' l:Nat} (hl:l<4) (h:addr / 2 ^ (12+9 * l)=addr' / 2 ^ (12+9 * l)):canonical addr=canonical addr':=by
 have e:2 ^ 47=2 ^ (12+9 * l) * 2 ^ (35 - 9 * l):=by
  rw[←Nat.pow_add];congr 1;omega
 have e2:bits addr 47 17=bits addr' 47 17:=by
  unfold bits
  rw[e,←Nat.div_div_eq_div_mul,←Nat.div_div_eq_div_mul,h]
 unfold canonical
 rw[e2]
theorem look_path {m:Mem} {c:Cpu} {addr kind a z:Nat} {P:List Nat} (h:look m c addr kind=.at_ a z P) :
  (∃l,l<4∧z=2 ^ (12+9 * l)∧∃b,a=b * z+addr % z)∧∃q b,P=q++[b]∧(∀p∈P,p<1048576∧p % 8=0):=by
 unfold look at h
 split at h
 ·cases h
 ·obtain⟨⟨l,h1,h2,b2,h3⟩,q,b,hP,hq⟩:=walk_path _ _ _ _ _ _ _ _ _ (base_mod _) h
  refine⟨⟨l,h1,h2,b2,by rw[h2];exact h3⟩,q,b,by simpa using hP,?_⟩
  rw[hP]
  simpa using hq
theorem look_same {m m':Mem} {c:Cpu} {addr addr' kind a z:Nat} {P:List Nat} (hn:Near m m') (h:look m c addr kind=.at_ a z P) (hz:addr / z=addr' / z) :
  look m' c addr' kind=.at_ (a - addr % z+addr' % z) z P:=by
 obtain⟨⟨l,hl,ez,_⟩,_⟩:=look_path h
 unfold look at h ⊢
 have hc:=canonical_same (addr:=addr) (addr':=addr') hl (by rw[←ez];exact hz)
 rw[←hc]
 split at h
 ·cases h
 ·rename_i h1
  rw[if_neg h1]
  exact walk_same hn _ _ _ _ _ _ _ _ _ (base_mod _) h hz
theorem move_at {m:Mem} {c:Cpu} {z a addr kind:Nat} {P:List Nat} (hl:look m c addr kind=.at_ a z P) (ha:a<1048576) (b:Nat) (r got:List Nat) :
  move c kind (b::r) addr m got=if kind=1 then move c kind r ((addr+1) % 2 ^ 64) (putByte (mark m kind P) a b) (b::got)else move c kind r ((addr+1) % 2 ^ 64) (mark m kind P) (byteAt (mark m kind P) a::got):=by
 conv=>lhs;unfold move
 rw[hl]
 simp only
 rw[if_neg (by show ¬(1048576:Nat)≤a;omega)]
theorem move_stop {m:Mem} {c:Cpu} {addr kind:Nat} (b:Nat) (r got:List Nat) (h:∀a z P,look m c addr kind=.at_ a z P→1048576≤a) :
    move c kind (b::r) addr m got=(marked m kind (look m c addr kind),got,some (look m c addr kind,addr)):=by
  conv=>lhs;unfold move
  cases e:look m c addr kind with
  | at_ a z P =>
    simp only
    rw[if_pos (by show(1048576:Nat)≤a;exact h a z P e)]
    rfl
  | fault k=>rfl
  | beyond a=>rfl
  | none_=>rfl
theorem move_run {m:Mem} {c:Cpu} {z:Nat} {P:List Nat} (hm:MOk m):∀(k r addr a:Nat) (got:List Nat),addr<2 ^ 64→mk m P=m→look m c addr 0=.at_ a z P→k≤z - addr % z→a+k≤1048576 →
    move c 0 (List.replicate (k+r) 0) addr m got=move c 0 (List.replicate r 0) ((addr+k) % 2 ^ 64) m (((List.range k).map fun i=>byteAt m (a+i)).reverse++got)
  | 0,r,addr,a,got,h64,_,_,_,_=>by
    rw[Nat.zero_add,Nat.add_zero,Nat.mod_eq_of_lt h64];rfl
  | k + 1, r, addr, a, got, h64, hP, hl, hk, ha => by
    obtain⟨⟨l,hl4,ez,b,eb⟩,_⟩:=look_path hl
    have zp:0<z:=by rw[ez];exact Nat.two_pow_pos _
    have e1:List.replicate (k+1+r) (0:Nat)=0::List.replicate (k+r) 0:=by
      rw[show k+1+r=(k+r)+1 by omega,List.replicate_succ]
    rw[e1,move_at hl (by omega),if_neg (by decide),mark_read _ _ 0 (by decide),hP]
    by_cases hk0:k=0
    · subst hk0
      rw[Nat.zero_add]
      rfl
    · have hm1:addr % z+1<z:=by omega
      have hd:=Nat.div_add_mod addr z
      have hd1:(addr+1) / z=addr / z:=by
        rw[←hd,Nat.add_assoc,Nat.mul_add_div zp,Nat.div_eq_of_lt hm1,Nat.mul_add_div zp,Nat.div_eq_of_lt (by omega:addr % z<z)]
      have hm2:(addr+1) % z=addr % z+1:=by
        have:=Nat.div_add_mod (addr+1) z
        rw[hd1]at this
        omega
      have hlt:addr+1<2 ^ 64:=by
        have e64:(2:Nat) ^ 64=z * 2 ^ (52 - 9 * l):=by rw[ez,←Nat.pow_add];congr 1;omega
        have:addr / z<2 ^ (52 - 9 * l):=by
          rw[Nat.div_lt_iff_lt_mul zp,Nat.mul_comm,←e64];exact h64
        have h2:z * (addr / z)+z≤z * 2 ^ (52 - 9 * l):=by
          have:=Nat.mul_le_mul_left z (show addr / z+1≤2 ^ (52 - 9 * l) from this)
          rw[Nat.mul_add,Nat.mul_one]at this
          exact this
        rw[e64]
        omega
      have nr:Near m m:=fun _=>.inl rfl
      have hl1:=look_same (addr':=addr+1) nr hl hd1.symm
      have ea:a - addr % z+(addr+1) % z=a+1:=by
        have:addr % z≤a:=by omega
        omega
      rw[ea]at hl1
      rw[Nat.mod_eq_of_lt hlt]
      rw[move_run hm k r (addr+1) (a+1) _ hlt hP hl1 (by omega) (by omega)]
      rw[show addr+1+k=addr+(k+1) by omega]
      congr 1
      · rw[List.range_succ_eq_map,List.map_cons,List.map_map,List.reverse_cons,List.append_assoc]
        congr 2
        apply List.map_congr_left
        intro i _
        show byteAt m (a+1+i)=byteAt m (a+(i+1))
        rw[show a+1+i=a+(i+1) by omega]
end M
namespace M
open Sd19
structure WF (s:St):Prop where
 m:MOk s.mem
 c:s.count.size=256
theorem WF.put {s:St} (h:WF s) (a x:Nat):WF (s.put a x):=⟨h.m.store _ _,h.c⟩
theorem WF.uses {s:St} (h:WF s) (f n:Nat):WF (s.uses f n):=⟨h.m,by show(s.count.setIfInBounds f n).size=256;rw[Array.size_setIfInBounds];exact h.c⟩
theorem used_put (s:St) (a x f:Nat):(s.put a x).used f=s.used f:=rfl
theorem used_uses {s:St} (h:WF s) (f n g:Nat) (hf:f<256):(s.uses f n).used g=if f=g then n else s.used g:=by
 unfold St.used St.uses
 show(s.count.setIfInBounds f n).getD g 0=_
 rw[getD_set]
 have:f<s.count.size:=by rw[h.c];exact hf
 by_cases e:f=g
 ·rw[if_pos ⟨e,this⟩,if_pos e]
 ·rw[if_neg (fun q=>e q.1),if_neg e]
def fillN (m:Mem) (f:Nat) (g:Nat→Nat) (i:Nat):Mem:=(List.range i).foldl (fun(m:Mem) (i:Nat)=>store m (4096 * f+8 * i) (g i)) m
theorem fill_all (m:Mem) (f:Nat) (g:Nat→Nat):fillN m f g 512=filled m f g:=rfl
theorem fill_succ (m:Mem) (f:Nat) (g:Nat→Nat) (i:Nat):fillN m f g (i+1)=store (fillN m f g i) (4096 * f+8 * i) (g i):=by
 unfold fillN
 rw[List.range_succ,List.foldl_append]
 rfl
theorem fill_ok {m:Mem} (h:MOk m) (f:Nat) (g:Nat→Nat):∀i,MOk (fillN m f g i)
 | 0=>h
 | i+1=>by rw[fill_succ];exact(fill_ok h f g i).store _ _
theorem filled_ok {m:Mem} (h:MOk m) (f:Nat) (g:Nat→Nat):MOk (filled m f g):=by rw[←fill_all];exact fill_ok h f g 512
theorem load_fillN {m:Mem} (h:MOk m) (f:Nat) (hf:f<256) (g:Nat→Nat) (b:Nat):∀i,i≤512→load (fillN m f g i) b=if b / 4096=f∧b % 4096 / 8<i then g (b % 4096 / 8) % 2 ^ 64 else load m b
  | 0,_=>by
    rw[if_neg (by intro q;omega)]
    rfl
  | i + 1, hi => by
    rw[fill_succ,load_store (fill_ok h f g i) _ _ _ (by omega),load_fillN h f hf g b i (by omega)]
    by_cases e:(4096 * f+8 * i) / 8=b / 8
    · rw[if_pos e]
      have e1:b / 4096=f:=by omega
      have e2:b % 4096 / 8=i:=by omega
      rw[if_pos ⟨e1,by omega⟩,e2]
    · rw[if_neg e]
      by_cases e1:b / 4096=f∧b % 4096 / 8<i
      · rw[if_pos e1,if_pos ⟨e1.1,by omega⟩]
      · rw[if_neg e1,if_neg (by intro q;apply e1;refine⟨q.1,?_⟩;omega)]
theorem load_filled {m:Mem} (h:MOk m) (f:Nat) (hf:f<256) (g:Nat→Nat) (b:Nat):load (filled m f g) b=if b / 4096=f then g (b % 4096 / 8) % 2 ^ 64 else load m b:=by
 rw[←fill_all,load_fillN h f hf g b 512 (Nat.le_refl _)]
 by_cases e:b / 4096=f
 ·rw[if_pos e,if_pos ⟨e,by omega⟩]
 ·rw[if_neg e,if_neg (fun q=>e q.1)]
def freeN (s:St):Nat:=s.count.toList.count 0
theorem used_list {s:St} (f:Nat) (h:f<s.count.toList.length):s.used f=s.count.toList[f]:=by
 unfold St.used
 rw[Array.getD_eq_getD_getElem?]
 simp at h
 simp[h]
theorem count_find:∀(l:List Nat) (k:Nat),l.count 0=0∨∃f,f<l.length∧l[f]? = some 0∧(∀g,g<f→l[g]?≠some 0)
  | [],_=>.inl rfl
  | a :: l, k => by
    by_cases ha:a=0
    · right
      exact⟨0,by simp,by simp[ha],fun g hg=>by omega⟩
    · rcases count_find l k with h|⟨f,h1,h2,h3⟩
      · left
        rw[List.count_cons,h];simp[ha]
      · right
        refine⟨f+1,by simpa using h1,by simpa using h2,fun g hg=>?_⟩
        cases g with
        | zero=>simpa using ha
        | succ g=>simpa using h3 g (by omega)
theorem free_spec {s:St} (h:WF s):(freeN s=0∧s.free=none)∨∃f,s.free=some f∧f<256∧s.used f=0∧(∀g,g<f→s.used g≠0)∧0<freeN s:=by
 have hl:s.count.toList.length=256:=by simpa using h.c
 have hu:∀g,g<256→∀v,s.count.toList[g]? = some v→s.used g=v:=fun g hg v e=>by
  rw[used_list g (by omega)]
  have:=List.getElem?_eq_getElem (l:=s.count.toList) (i:=g) (by omega)
  rw[this]at e
  exact Option.some.inj e
 rcases count_find s.count.toList 0 with e|⟨f,h1,h2,h3⟩
 ·left
  refine⟨e,?_⟩
  unfold St.free
  rw[List.find?_eq_none]
  intro x hx
  have hx':x<256:=List.mem_range.mp hx
  have:0∉s.count.toList:=List.count_eq_zero.mp e
  intro q
  apply this
  have q':s.used x=0:=by simpa using q
  rw[used_list x (by omega)]at q'
  rw[←q']
  exact List.getElem_mem _
 ·right
  have hf:f<256:=by omega
  have u0:s.used f=0:=hu f hf 0 h2
  have un:∀g,g<f→s.used g≠0:=fun g hg q=>by
   apply h3 g hg
   rw[List.getElem?_eq_getElem (by omega),←used_list g (by omega),q]
  refine⟨f,?_,hf,u0,un,?_⟩
  ·unfold St.free
   rw[List.find?_range_eq_some]
   refine⟨by simp[u0],List.mem_range.mpr hf,fun j hj=>?_⟩
   simp
   exact un j hj
  ·exact List.count_pos_iff.mpr (List.mem_of_getElem? h2)
theorem count_set:∀(l:List Nat) (f v:Nat),l[f]? = some v→∀x,(l.set f x).count 0+(if v=0 then 1 else 0)=l.count 0+(if x=0 then 1 else 0)
  | [],f,v,h,_=>by simp at h
  | a::l,0,v,h,x=>by
    have:a=v:=by simpa using h
    subst this
    rw[List.set_cons_zero,List.count_cons,List.count_cons]
    simp only[beq_iff_eq]
    omega
  | a::l,f+1,v,h,x=>by
    have ih:=count_set l f v (by simpa using h) x
    rw[List.set_cons_succ,List.count_cons,List.count_cons]
    omega
theorem freeN_uses {s:St} (h:WF s) (f n:Nat) (hf:f<256):freeN (s.uses f n)+(if s.used f=0 then 1 else 0)=freeN s+(if n=0 then 1 else 0):=by
 have hl:s.count.toList.length=256:=by simpa using h.c
 unfold freeN St.uses
 show(s.count.setIfInBounds f n).toList.count 0+_=_
 rw[Array.toList_setIfInBounds]
 refine count_set _ f _ ?_ n
 rw[List.getElem?_eq_getElem (by omega),←used_list f (by omega)]
structure Took (s:St) (f:Nat) (t:St):Prop where
 eq:s.take=some (f,t)
 lt:f<256
 zero:s.used f=0
 low:∀g,g<f→s.used g≠0
 mem:t.mem=filled s.mem f (fun _=>0)
 cnt:t.count=s.count.setIfInBounds f 1
 wf:WF t
 n:freeN t+1=freeN s
 used:∀g,t.used g=if f=g then 1 else s.used g
 load:∀b,load t.mem b=if b / 4096=f then 0 else load s.mem b
theorem took_of {s:St} {f:Nat} {M:Mem} (hc:s.count.size=256) (h2:f<256) (h3:s.used f=0) (h4:∀g,g<f→s.used g≠0) (w0:MOk M) (l1:∀b,load M b=if b / 4096=f then 0 else load s.mem b)
  (t1:s.take=some (f,(⟨M,s.count⟩:St).uses f 1)) (hM:M=filled s.mem f (fun _=>0)):Took s f ((⟨M,s.count⟩:St).uses f 1):=by
 have w1:WF (⟨M,s.count⟩:St):=⟨w0,hc⟩
 have u1:∀g,(⟨M,s.count⟩:St).used g=s.used g:=fun _=>rfl
 have n1:freeN (⟨M,s.count⟩:St)=freeN s:=rfl
 have q:=freeN_uses w1 f 1 h2
 rw[u1,n1,if_pos h3,if_neg (by decide)]at q
 refine { eq:=t1,lt:=h2,zero:=h3,low:=h4,mem:=hM,cnt:=rfl,wf:=w1.uses f 1,n:=q,used:=fun g=>?_,load:=l1 }
 rw[used_uses w1 f 1 g h2,u1]
theorem take_none {s:St} (h:WF s) (e:freeN s=0):s.take=none:=by
 rcases free_spec h with⟨_,h2⟩|⟨f,_,_,_,_,h3⟩
 ·unfold St.take;rw[h2];rfl
 ·omega
theorem take_some {s:St} (h:WF s) (e:freeN s≠0):∃f t,Took s f t:=by
 rcases free_spec h with⟨h1,_⟩|⟨f,h1,h2,h3,h4,h5⟩
 ·omega
 ·have w0:MOk (filled s.mem f (fun _=>0)):=filled_ok h.m f (fun _=>0)
  have l1:∀b,load (filled s.mem f (fun _=>0)) b=if b / 4096=f then 0 else load s.mem b:=fun b=>by rw[load_filled h.m f h2]
  have t1:s.take=some (f,(⟨filled s.mem f (fun _=>0),s.count⟩:St).uses f 1):=by
   unfold St.take;rw[h1,Option.map_some]
  have st:=took_of (s:=s) (f:=f) h.c h2 h3 h4 w0 l1 t1 rfl
  exact⟨f,_,st⟩
end M
namespace M
open Sd19
def kids (s:St) (l:List Nat):List Nat:=l.flatMap fun(t:Nat)=>(entries s t).map (leads s)
theorem mem_entries {s:St} {t a:Nat}:a∈entries s t↔(∃i,i<512∧a=4096 * t+8 * i)∧present s a=true:=by
 unfold entries
 rw[List.mem_filter,List.mem_map]
 constructor
 ·rintro⟨⟨i,hi,e⟩,h⟩
  exact⟨⟨i,List.mem_range.mp hi,e.symm⟩,h⟩
 ·rintro⟨⟨i,hi,e⟩,h⟩
  exact⟨⟨i,List.mem_range.mpr hi,e.symm⟩,h⟩
theorem mem_kids {s:St} {l:List Nat} {t a:Nat} (ht:t∈l) (ha:a∈entries s t):leads s a∈kids s l :=
 List.mem_flatMap.mpr ⟨t,ht,List.mem_map.mpr ⟨a,ha,rfl⟩⟩
theorem apart_iff:∀{l:List Nat},apart l=true↔l.Nodup∧∀t∈l,t<256
  | []=>by simp[apart]
  | t :: r => by
    unfold apart
    rw[Bool.and_eq_true,Bool.and_eq_true,apart_iff,List.nodup_cons]
    simp[FRAMES]
    constructor
    · rintro⟨h1,h2,h3,h4⟩
      exact⟨⟨h2,h3⟩,of_decide_eq_true h1,h4⟩
    · rintro⟨⟨h2,h3⟩,h1,h4⟩
      exact⟨decide_eq_true h1,h2,h3,h4⟩
def TabOk (s:St) (t:Nat) (above:Bool):Prop:=∀i,i<512→entryOk (load s.mem (4096 * t+8 * i)) above=true
theorem tabOk_iff {s:St} {t:Nat} {above:Bool}:tableOk s t above=true↔TabOk s t above:=by
 unfold tableOk TabOk
 rw[List.all_eq_true]
 constructor
 ·intro h i hi;exact h i (List.mem_range.mpr hi)
 ·intro h i hi;exact h i (List.mem_range.mp hi)
structure Snd (s:St) (root:Nat) (L3 L2 L1 pg:List Nat):Prop where
 k3:L3=kids s [root]
 k2:L2=kids s L3
 k1:L1=kids s L2
 kp:pg=kids s L1
 nd:(L1++(L2++(L3++[root]))).Nodup
 lt:∀t∈L1++(L2++(L3++[root])),t<256
 o4:TabOk s root true
 o3:∀t∈L3,TabOk s t true
 o2:∀t∈L2,TabOk s t true
 o1:∀t∈L1,TabOk s t false
 one:∀t∈L1++(L2++(L3++[root])),s.used t=1∧t∉pg∧(t=root∨emptyTable s t=false)
 pf:∀f∈pg,f<256
 pc:∀f∈pg,pg.count f≤s.used f
theorem below_succ (s:St) (level:Nat) (l met:List Nat):below s (level+1) l met=if apart (l++met)=true∧(l.all fun(t:Nat)=>tableOk s t (decide (0<level)))=true then below s level (kids s l) (l++met)else none:=rfl
theorem snd_of {s:St} {root:Nat} (h:sound s root=true):∃L3 L2 L1 pg,Snd s root L3 L2 L1 pg:=by
  unfold sound at h
  rw[below_succ]at h
  split at h
  · cases h
  · rename_i x hx
    split at hx
    · rename_i c4
      rw[below_succ]at hx
      split at hx
      · rename_i c3
        rw[below_succ]at hx
        split at hx
        · rename_i c2
          rw[below_succ]at hx
          split at hx
          · rename_i c1
            have hx':=Option.some.inj hx
            subst hx'
            rw[Bool.and_eq_true,Bool.and_eq_true,List.all_eq_true,List.all_eq_true,List.all_eq_true]at h
            obtain⟨⟨h1,h2⟩,h3⟩:=h
            obtain⟨a1,a2⟩:=apart_iff.mp c1.1
            have all4:=List.all_eq_true.mp c4.2
            have all3:=List.all_eq_true.mp c3.2
            have all2:=List.all_eq_true.mp c2.2
            have all1:=List.all_eq_true.mp c1.2
            refine⟨_,_,_,_,rfl,rfl,rfl,rfl,?_,?_,tabOk_iff.mp (all4 root (by simp)),fun t ht=>tabOk_iff.mp (all3 t ht),fun t ht=>tabOk_iff.mp (all2 t ht),fun t ht=>tabOk_iff.mp (all1 t ht),?_,?_,?_⟩
            · simpa using a1
            · intro t ht
              exact a2 t (by simpa using ht)
            · intro t ht
              have q:=h1 t (by simpa using ht)
              simp at q
              refine⟨q.1,?_,?_⟩
              · exact q.2.1
              · exact q.2.2
            · intro f hf
              have q:=h2 f hf
              exact of_decide_eq_true q
            · intro f hf
              have q0:=h2 f hf
              have q1:f<256:=of_decide_eq_true q0
              have q:=h3 f (List.mem_range.mpr q1)
              simp only[Bool.or_eq_true,decide_eq_true_eq]at q
              rcases q with q|q
              · simp at q
                exact absurd hf q
              · exact q
          · cases hx
        · cases hx
      · cases hx
    · cases hx
theorem entryAt_ix {t level addr:Nat}:∃i,i<512∧entryAt t level addr=4096 * t+8 * i:=⟨index level addr,index_lt level addr,rfl⟩
theorem entryAt_lt {t level addr:Nat} (h:t<256):entryAt t level addr<1048576:=by
 obtain⟨i,hi,e⟩:=entryAt_ix (t:=t) (level:=level) (addr:=addr)
 omega
theorem entryAt_frame {t level addr:Nat}:entryAt t level addr / 4096=t∧entryAt t level addr % 8=0:=by
 obtain⟨i,hi,e⟩:=entryAt_ix (t:=t) (level:=level) (addr:=addr)
 omega
theorem base_leads (s:St) (a:Nat):base (load s.mem a)=4096 * leads s a:=by
 unfold leads base
 rw[Nat.mul_div_cancel _ (by decide),Nat.mul_comm]
section
variable {s:St} {root:Nat} {L3 L2 L1 pg:List Nat}
theorem Snd.t4 (S:Snd s root L3 L2 L1 pg):root<256∧s.used root=1:=⟨S.lt root (by simp),(S.one root (by simp)).1⟩
theorem Snd.t3 (S:Snd s root L3 L2 L1 pg) {t:Nat} (h:t∈L3):t<256∧s.used t=1:=⟨S.lt t (by simp[h]),(S.one t (by simp[h])).1⟩
theorem Snd.t2 (S:Snd s root L3 L2 L1 pg) {t:Nat} (h:t∈L2):t<256∧s.used t=1:=⟨S.lt t (by simp[h]),(S.one t (by simp[h])).1⟩
theorem Snd.t1 (S:Snd s root L3 L2 L1 pg) {t:Nat} (h:t∈L1):t<256∧s.used t=1:=⟨S.lt t (by simp[h]),(S.one t (by simp[h])).1⟩
theorem kid_at {l:List Nat} {t level addr:Nat} (ht:t∈l) (hp:present s (entryAt t level addr)=true):leads s (entryAt t level addr)∈kids s l:=by
 refine mem_kids ht (mem_entries.mpr ⟨?_,hp⟩)
 exact entryAt_ix
def Lev (root:Nat) (L3 L2 L1:List Nat) (l t:Nat):Prop:=(l=4∧t=root)∨(l=3∧t∈L3)∨(l=2∧t∈L2)∨(l=1∧t∈L1)
theorem Snd.lev (S:Snd s root L3 L2 L1 pg) {l t:Nat} (h:Lev root L3 L2 L1 l t):t<256∧s.used t=1:=by
 rcases h with⟨_,e⟩|⟨_,h⟩|⟨_,h⟩|⟨_,h⟩
 ·rw[e];exact S.t4
 ·exact S.t3 h
 ·exact S.t2 h
 ·exact S.t1 h
theorem Snd.down (S:Snd s root L3 L2 L1 pg) {l t addr:Nat} (h:Lev root L3 L2 L1 (l+2) t) (hp:present s (entryAt t (l+2) addr)=true):Lev root L3 L2 L1 (l+1) (leads s (entryAt t (l+2) addr)):=by
 rcases h with⟨e,h⟩|⟨e,h⟩|⟨e,h⟩|⟨e,_⟩
 ·have q:leads s (entryAt t (l+2) addr)∈L3:=by rw[S.k3];exact kid_at (by simp[h]) hp
  exact .inr (.inl ⟨by omega,q⟩)
 ·have q:leads s (entryAt t (l+2) addr)∈L2:=by rw[S.k2];exact kid_at h hp
  exact .inr (.inr (.inl ⟨by omega,q⟩))
 ·have q:leads s (entryAt t (l+2) addr)∈L1:=by rw[S.k1];exact kid_at h hp
  exact .inr (.inr (.inr ⟨by omega,q⟩))
 ·omega
theorem Snd.page (S:Snd s root L3 L2 L1 pg) {t addr:Nat} (h:t∈L1) (hp:present s (entryAt t 1 addr)=true):leads s (entryAt t 1 addr)<256∧leads s (entryAt t 1 addr)∈pg∧1≤s.used (leads s (entryAt t 1 addr)):=by
 have q:leads s (entryAt t 1 addr)∈pg:=by rw[S.kp];exact kid_at h hp
 refine⟨S.pf _ q,q,?_⟩
 have h1:=S.pc _ q
 have h2:0<pg.count (leads s (entryAt t 1 addr)):=List.count_pos_iff.mpr q
 omega
end
def way (s:St) (addr:Nat):Nat→Nat→List Nat
 | 0,_=>[]
 | l+1,t=>entryAt t (l+1) addr::(if present s (entryAt t (l+1) addr)=true then way s addr l (leads s (entryAt t (l+1) addr))else [])
structure WayEnd (s:St) (addr l t:Nat) (ps:List Nat) (k a tk:Nat):Prop where
 len:ps.length+k=l
 last:∃q,ps=q++[a]
 at_:a=entryAt tk (k+1) addr
 find:find s addr l t=if k=0 then some a else none
 make:k≠0∨present s a=false→make addr l t s=make addr (k+1) tk s
 abs:k≠0→present s a=false
theorem way_end (s:St) (addr:Nat):∀(l t:Nat),∃k a tk,WayEnd s addr (l+1) t (way s addr (l+1) t) k a tk
  | 0,t=>⟨0,entryAt t 1 addr,t,by
      have e:way s addr 1 t=[entryAt t 1 addr]:=by
        unfold way;unfold way;simp
      rw[e]
      exact⟨rfl,⟨[],rfl⟩,rfl,rfl,fun _=>rfl,fun h=>absurd rfl h⟩⟩
  | l + 1, t => by
    by_cases hp:present s (entryAt t (l+2) addr)=true
    · obtain⟨k,a,tk,W⟩:=way_end s addr l (leads s (entryAt t (l+2) addr))
      refine⟨k,a,tk,?_⟩
      have e:way s addr (l+2) t=entryAt t (l+2) addr::way s addr (l+1) (leads s (entryAt t (l+2) addr)):=by
        conv=>lhs;unfold way
        rw[if_pos hp]
      rw[e]
      obtain⟨q,hq⟩:=W.last
      refine⟨by simp[W.len];have:=W.len;omega,⟨entryAt t (l+2) addr::q,by rw[hq];rfl⟩,W.at_,?_,?_,W.abs⟩
      · rw[←W.find]
        conv=>lhs;unfold find
        simp only[hp,if_true]
      · intro h
        rw[←W.make h]
        conv=>lhs;unfold make
        simp only[hp,if_true]
    · have hp':present s (entryAt t (l+2) addr)=false:=by simpa using hp
      refine⟨l+1,entryAt t (l+2) addr,t,?_⟩
      have e:way s addr (l+2) t=[entryAt t (l+2) addr]:=by
        conv=>lhs;unfold way
        rw[if_neg hp]
      rw[e]
      refine⟨by simp;omega,⟨[],rfl⟩,rfl,?_,fun _=>rfl,fun _=>hp'⟩
      rw[if_neg (by omega)]
      unfold find
      simp only[hp',Bool.false_eq_true,if_false]
theorem way_lev {s:St} {root:Nat} {L3 L2 L1 pg:List Nat} (S:Snd s root L3 L2 L1 pg) (addr:Nat):∀(l t:Nat),Lev root L3 L2 L1 (l+1) t→∀a∈way s addr (l+1) t,∃l' t',Lev root L3 L2 L1 (l'+1) t'∧a=entryAt t' (l'+1) addr
  | 0,t,h,a,ha=>by
    unfold way at ha
    unfold way at ha
    have:a=entryAt t 1 addr:=by simpa using ha
    exact⟨0,t,h,this⟩
  | l + 1, t, h, a, ha => by
    unfold way at ha
    rcases List.mem_cons.mp ha with e|ha
    · exact⟨l+1,t,h,e⟩
    · split at ha
      · rename_i hp
        exact way_lev S addr l _ (S.down h hp) a ha
      · cases ha
theorem has_last {s:St} {r addr k a tk:Nat} {ps:List Nat} (W:WayEnd s addr 4 r ps k a tk):hasPage s r addr=present s a:=by
 unfold hasPage
 rw[W.find]
 by_cases h:k=0
 ·rw[if_pos h]
 ·rw[if_neg h,W.abs h]
def bld (addr:Nat):Nat→Nat→St→Option (Nat×St)
  | 0,a,s=>some (a,s)
  | k+1,a,s=>match s.take with
    | none=>none
    | some x=>bld addr k (entryAt x.1 (k+1) addr) (x.2.put a (4096 * x.1+7))
theorem make_bld (addr:Nat):∀(k t:Nat) (s:St),WF s→t<256→s.used t≠0→(k≠0→present s (entryAt t (k+1) addr)=false)→make addr (k+1) t s=bld addr k (entryAt t (k+1) addr) s
  | 0,_,_,_,_,_,_=>rfl
  | k + 1, t, s, hw, ht, hu, hp => by
    unfold make bld
    simp only[hp (by omega),Bool.false_eq_true,if_false]
    by_cases hf:freeN s=0
    · rw[take_none hw hf]
    · obtain⟨f,s1,T⟩:=take_some hw hf
      rw[T.eq]
      simp only
      have hne:f≠t:=fun e=>hu (e▸T.zero)
      have hw2:WF (s1.put (entryAt t (k+2) addr) (4096 * f+7)):=T.wf.put _ _
      refine make_bld addr k f _ hw2 T.lt ?_ fun hk=>?_
      · rw[used_put,T.used,if_pos rfl];decide
      · unfold present
        have e1:load (s1.put (entryAt t (k+2) addr) (4096 * f+7)).mem (entryAt f (k+1) addr)=0:=by
          show load (store s1.mem (entryAt t (k+2) addr) (4096 * f+7)) (entryAt f (k+1) addr)=0
          have f1:=entryAt_frame (t:=t) (level:=k+2) (addr:=addr)
          have f2:=entryAt_frame (t:=f) (level:=k+1) (addr:=addr)
          rw[load_store T.wf.m _ _ _ (entryAt_lt ht),if_neg (by omega),T.load,if_pos f2.1]
        rw[e1]
        decide
theorem bld_none (addr:Nat):∀(k a:Nat) (s:St),WF s→freeN s<k→bld addr k a s=none
  | 0,_,_,_,h=>by omega
  | k + 1, a, s, hw, h => by
    unfold bld
    by_cases hf:freeN s=0
    · rw[take_none hw hf]
    · obtain⟨f,s1,T⟩:=take_some hw hf
      rw[T.eq]
      simp only
      have q:=T.n
      exact bld_none addr k _ _ (T.wf.put _ _) (by show freeN s1<k;omega)
theorem bld_some (addr:Nat):∀(k a:Nat) (s:St),WF s→a<1048576→k≤freeN s→∃a' s',bld addr k a s=some (a',s')∧WF s'∧freeN s'+k=freeN s∧a'<1048576∧(∀g,s.used g≠0→s'.used g=s.used g)
  | 0,a,s,hw,ha,_=>⟨a,s,rfl,hw,rfl,ha,fun _ _=>rfl⟩
  | k + 1, a, s, hw, ha, h => by
    obtain⟨f,s1,T⟩:=take_some hw (by omega)
    have q:=T.n
    obtain⟨a',s',e,w',n',l',u'⟩:=bld_some addr k (entryAt f (k+1) addr) (s1.put a (4096 * f+7)) (T.wf.put _ _) (entryAt_lt T.lt) (by show k≤freeN s1;omega)
    have n1:freeN (s1.put a (4096 * f+7))=freeN s1:=rfl
    refine⟨a',s',?_,w',by omega,l',fun g hg=>?_⟩
    · unfold bld
      rw[T.eq]
      exact e
    · have ug:s1.used g=s.used g:=by
        rw[T.used,if_neg]
        intro q;subst q;exact hg T.zero
      have q2:=u' g (by rw[used_put,ug];exact hg)
      rw[q2,used_put,ug]
theorem or_small {b i:Nat} (hb:b<2 ^ i) (a:Nat):a * 2 ^ i ||| b=a * 2 ^ i+b:=by
 rw[Nat.mul_comm]
 exact(Nat.two_pow_add_eq_or_of_lt hb a).symm
theorem or_table (f:Nat):((f * 4096 ||| 1) ||| 2) ||| 4=4096 * f+7:=by
 rw[Nat.or_assoc,Nat.or_assoc]
 have:=or_small (i:=12) (b:=7) (by decide) f
 have e:(1 ||| (2 ||| 4):Nat)=7:=by decide
 rw[e]
 show f * 2 ^ 12 ||| 7=_
 rw[this]
 omega
theorem entry_lt {f flags:Nat} (hf:f<256):entry f flags<2 ^ 64:=by
 unfold entry
 split<;>omega
theorem or_entry {f flags:Nat} (hf:f<256):(let e1:=f * 4096 ||| 1
  let e2:=if flags &&& 1≠0 then e1 ||| 2 else e1
  let e3:=if flags &&& 2≠0 then e2 ||| 4 else e2
  if flags &&& 4≠0 then e3 ||| 9223372036854775808 else e3)=entry f flags:=by
 have h1:(flags &&& 1≠0)↔flags % 2=1:=by rw[there];unfold bit;simp
 have h2:(flags &&& 2≠0)↔flags / 2 % 2=1:=by rw[writable];unfold bit;simp
 have h3:(flags &&& 4≠0)↔flags / 4 % 2=1:=by rw[users];unfold bit;simp
 have o0:∀b,b<4096→f * 4096 ||| b=f * 4096+b:=fun b hb=>or_small (i:=12) hb f
 have o63:∀x,x<9223372036854775808→x ||| 9223372036854775808=x+9223372036854775808:=fun x hx=>Nat.or_two_pow_eq_add_of_lt (n:=63) hx
 simp only[h1,h2,h3]
 unfold entry
 have b1:(1 ||| 2:Nat)=3:=by decide
 have b2:(1 ||| 4:Nat)=5:=by decide
 have b3:(3 ||| 4:Nat)=7:=by decide
 by_cases c1:flags % 2=1<;>by_cases c2:flags / 2 % 2=1<;>by_cases c3:flags / 4 % 2=1<;>simp only[c1,c2,c3,if_true,if_false,Nat.or_assoc,b1,b2,b3] <;>
  first
   | (rw[←Nat.or_assoc,o0 _ (by decide),o63 _ (by omega)];omega)
   | (rw[o0 _ (by decide)];omega)
   | (rw[←Nat.or_assoc,←Nat.or_assoc,Nat.or_assoc (f * 4096),b1,o0 _ (by decide),o63 _ (by omega)];omega)
   | skip
end M
namespace M
open Sd19
def fill (m:Mem) (f:Nat):List Nat:=((List.range 512).map fun(i:Nat)=>4096 * f+8 * i).filter fun(a:Nat)=>load m a != 0
def Zer (s:St) (t:Nat):Prop:=∀i,i<512→present s (4096 * t+8 * i)=false→load s.mem (4096 * t+8 * i)=0
theorem zer_of {s:St} {t:Nat} {b:Bool} (h:TabOk s t b):Zer s t:=fun i hi hp=>by
 have q:=h i hi
 unfold entryOk at q
 unfold present at hp
 rw[if_pos hp]at q
 exact eq_of_beq q
theorem present_ne {s:St} {a:Nat} (h:present s a=true):load s.mem a≠0:=by
 intro e
 unfold present at h
 rw[e]at h
 exact absurd h (by decide)
theorem entries_fill {s:St} {t:Nat} (h:Zer s t):entries s t=fill s.mem t:=by
 unfold entries fill
 apply List.filter_congr
 intro a ha
 obtain⟨i,hi,e⟩:=List.mem_map.mp ha
 have hi':=List.mem_range.mp hi
 subst e
 cases hp:present s (4096 * t+8 * i)with
 | true=>simpa using present_ne hp
 | false=>simpa using h i hi' hp
theorem fill_same {m m':Mem} {t:Nat} (h:∀b,b / 4096=t→load m' b=load m b):fill m' t=fill m t:=by
 unfold fill
 apply List.filter_congr
 intro a ha
 obtain⟨i,hi,e⟩:=List.mem_map.mp ha
 have hi':=List.mem_range.mp hi
 rw[h a (by omega)]
theorem mem_fill {m:Mem} {f a:Nat}:a∈fill m f↔(∃i,i<512∧a=4096 * f+8 * i)∧load m a≠0:=by
 unfold fill
 rw[List.mem_filter,List.mem_map]
 constructor
 ·rintro⟨⟨i,hi,e⟩,h⟩
  exact⟨⟨i,List.mem_range.mp hi,e.symm⟩,by simpa using h⟩
 ·rintro⟨⟨i,hi,e⟩,h⟩
  exact⟨⟨i,List.mem_range.mpr hi,e.symm⟩,by simpa using h⟩
theorem fill_sorted (m:Mem) (f:Nat):(fill m f).Pairwise (· < ·):=by
 unfold fill
 apply List.Pairwise.filter
 rw[List.pairwise_map]
 exact List.pairwise_lt_range.imp fun h=>by omega
theorem fill_nodup (m:Mem) (f:Nat):(fill m f).Nodup:=(fill_sorted m f).imp fun h=>by omega
def tabsF (s:St):Nat→List Nat→List Nat
 | 0,_=>[]
 | l+1,ts=>ts++tabsF s l (kids s ts)
def pgsF (s:St):Nat→List Nat→List Nat
 | 0,ts=>ts
 | l+1,ts=>pgsF s l (kids s ts)
theorem kids_append (s:St) (a b:List Nat):kids s (a++b)=kids s a++kids s b:=by
 unfold kids;exact List.flatMap_append
theorem kids_cons (s:St) (t:Nat) (ts:List Nat):kids s (t::ts)=(entries s t).map (leads s)++kids s ts:=by
 unfold kids;rw[List.flatMap_cons]
theorem kids_nil (s:St):kids s []=[]:=by unfold kids;rw[List.flatMap_nil]
theorem kids_one (s:St) (t:Nat):kids s [t]=(entries s t).map (leads s):=by simp[kids]
theorem pgsF_append (s:St):∀(l:Nat) (a b:List Nat),pgsF s l (a++b)=pgsF s l a++pgsF s l b
  | 0,_,_=>rfl
  | l+1,a,b=>by
    show pgsF s l (kids s (a++b))=_
    rw[kids_append,pgsF_append s l]
    rfl
theorem tabsF_count (s:St) (x:Nat):∀(l:Nat) (a b:List Nat),(tabsF s l (a++b)).count x=(tabsF s l a).count x+(tabsF s l b).count x
  | 0,_,_=>rfl
  | l+1,a,b=>by
    show((a++b)++tabsF s l (kids s (a++b))).count x=(a++tabsF s l (kids s a)).count x+(b++tabsF s l (kids s b)).count x
    rw[kids_append,List.count_append,tabsF_count s x l,List.count_append,List.count_append,List.count_append]
    omega
theorem tabsF_len (s:St):∀(l:Nat) (a b:List Nat),(tabsF s l (a++b)).length=(tabsF s l a).length+(tabsF s l b).length
  | 0,_,_=>rfl
  | l+1,a,b=>by
    show((a++b)++tabsF s l (kids s (a++b))).length=(a++tabsF s l (kids s a)).length+(b++tabsF s l (kids s b)).length
    rw[kids_append,List.length_append,tabsF_len s l,List.length_append,List.length_append,List.length_append]
    omega
theorem mem_tabsF_app {s:St} {l x:Nat} {a b:List Nat}:x∈tabsF s l (a++b)↔x∈tabsF s l a∨x∈tabsF s l b:=by
 rw[←List.count_pos_iff,←List.count_pos_iff,←List.count_pos_iff,tabsF_count]
 omega
theorem pgsF_nil (s:St):∀l,pgsF s l []=[]
 | 0=>rfl
 | l+1=>by unfold pgsF;rw[kids_nil,pgsF_nil s l]
theorem tabsF_nil (s:St):∀l,tabsF s l []=[]
 | 0=>rfl
 | l+1=>by unfold tabsF;rw[kids_nil,tabsF_nil s l];rfl
def SameIn (ts:List Nat) (s u:St):Prop:=∀x∈ts,∀b,b / 4096=x→load u.mem b=load s.mem b
theorem entries_same {s u:St} {t:Nat} (h:∀b,b / 4096=t→load u.mem b=load s.mem b):entries u t=entries s t∧∀a∈entries s t,leads u a=leads s a:=by
 constructor
 ·unfold entries
  apply List.filter_congr
  intro a ha
  obtain⟨i,hi,e⟩:=List.mem_map.mp ha
  have hi':=List.mem_range.mp hi
  unfold present
  rw[h a (by omega)]
 ·intro a ha
  obtain⟨⟨i,hi,e⟩,_⟩:=mem_entries.mp ha
  unfold leads
  rw[h a (by omega)]
theorem kids_same {s u:St}:∀{ts:List Nat},SameIn ts s u→kids u ts=kids s ts
  | [],_=>by rw[kids_nil,kids_nil]
  | t::ts,h=>by
    have h1:=entries_same (s:=s) (u:=u) (t:=t) (h t (by simp))
    have h2:=kids_same (ts:=ts) (s:=s) (u:=u) fun x hx=>h x (by simp[hx])
    rw[kids_cons,kids_cons,h2,h1.1]
    congr 1
    exact List.map_congr_left h1.2
theorem tabs_same {s u:St}:∀{l:Nat} {ts:List Nat},SameIn (tabsF s l ts) s u→tabsF u l ts=tabsF s l ts∧pgsF u l ts=pgsF s l ts
  | 0,_,_=>⟨rfl,rfl⟩
  | l + 1, ts, h => by
    have h0:SameIn ts s u:=fun x hx=>h x (List.mem_append.mpr (.inl hx))
    have h1:SameIn (tabsF s l (kids s ts)) s u:=fun x hx=>h x (List.mem_append.mpr (.inr hx))
    have k:=kids_same h0
    obtain⟨e1,e2⟩:=tabs_same h1
    constructor
    · show ts++tabsF u l (kids u ts)=ts++tabsF s l (kids s ts)
      rw[k,e1]
    · show pgsF u l (kids u ts)=pgsF s l (kids s ts)
      rw[k,e2]
structure Sub (s:St) (l:Nat) (ts:List Nat):Prop where
 lt:∀x∈tabsF s l ts,x<256∧s.used x≠0
 one:∀x,(tabsF s l ts).count x≤1
 zer:∀x∈tabsF s l ts,Zer s x
 pg:∀p∈pgsF s l ts,p<256∧s.used p≠0
theorem zer_same {s u:St} {t:Nat} (h:∀b,b / 4096=t→load u.mem b=load s.mem b) (z:Zer s t):Zer u t:=fun i hi hp=>by
 have e:=h (4096 * t+8 * i) (by omega)
 unfold present at hp
 rw[e]at hp ⊢
 exact z i hi hp
theorem Sub.same {s u:St} {l:Nat} {ts:List Nat} (S:Sub s l ts) (h:SameIn (tabsF s l ts) s u) (hu:∀x,s.used x≠0→u.used x≠0):Sub u l ts∧tabsF u l ts=tabsF s l ts∧pgsF u l ts=pgsF s l ts:=by
 obtain⟨e1,e2⟩:=tabs_same h
 refine⟨⟨?_,?_,?_,?_⟩,e1,e2⟩
 ·rw[e1];exact fun x hx=>⟨(S.lt x hx).1,hu x (S.lt x hx).2⟩
 ·rw[e1];exact S.one
 ·rw[e1];exact fun x hx=>zer_same (h x hx) (S.zer x hx)
 ·rw[e2];exact fun x hx=>⟨(S.pg x hx).1,hu x (S.pg x hx).2⟩
theorem Sub.left {s:St} {l:Nat} {a b:List Nat} (S:Sub s l (a++b)):Sub s l a :=
 ⟨fun x hx=>S.lt x (mem_tabsF_app.mpr (.inl hx)),fun x=>by have:=S.one x;rw[tabsF_count]at this;omega,fun x hx=>S.zer x (mem_tabsF_app.mpr (.inl hx)),fun x hx=>S.pg x (by rw[pgsF_append];exact List.mem_append.mpr (.inl hx))⟩
theorem Sub.right {s:St} {l:Nat} {a b:List Nat} (S:Sub s l (a++b)):Sub s l b :=
 ⟨fun x hx=>S.lt x (mem_tabsF_app.mpr (.inr hx)),fun x=>by have:=S.one x;rw[tabsF_count]at this;omega,fun x hx=>S.zer x (mem_tabsF_app.mpr (.inr hx)),fun x hx=>S.pg x (by rw[pgsF_append];exact List.mem_append.mpr (.inr hx))⟩
def Room (s:St) (n:Nat) (pg:List Nat):Prop:=n≤freeN s∧∀p∈pg,s.used p+pg.count p≤65535
structure Cop (s s':St) (X:List Nat) (n:Nat) (pg:List Nat):Prop where
 wf:WF s'
 n:freeN s'+n=freeN s
 used:∀g,s.used g≠0→s'.used g=s.used g+pg.count g
 same:∀g,s.used g≠0→g∉X→∀b,b / 4096=g→load s'.mem b=load s.mem b
theorem Cop.ne {s s':St} {X pg:List Nat} {n:Nat} (c:Cop s s' X n pg) (x:Nat) (h:s.used x≠0):s'.used x≠0:=by rw[c.used x h];omega
theorem Room.step {s u:St} {X p1 p2:List Nat} {n1 n2:Nat} (h:Room s n1 p1) (c:Cop s u X n1 p1) (hp:∀p∈p1++p2,s.used p≠0):Room u n2 p2↔Room s (n1+n2) (p1++p2):=by
  have e:=c.n
  have f:=h.1
  constructor
  · rintro⟨h1,h2⟩
    refine⟨by omega,fun p hm=>?_⟩
    rw[List.count_append]
    by_cases q:p∈p2
    · have:=h2 p q
      rw[c.used p (hp p hm)]at this
      omega
    · have q1:p∈p1:=by
        rcases List.mem_append.mp hm with z|z
        · exact z
        · exact absurd z q
      rw[List.count_eq_zero.mpr q]
      exact h.2 p q1
  · rintro⟨h1,h2⟩
    refine⟨by omega,fun p hm=>?_⟩
    have hm':p∈p1++p2:=List.mem_append.mpr (.inr hm)
    have:=h2 p hm'
    rw[List.count_append]at this
    rw[c.used p (hp p hm')]
    omega
theorem Room.first {s:St} {n1 n2:Nat} {p1 p2:List Nat} (h:Room s (n1+n2) (p1++p2)):Room s n1 p1:=by
 refine⟨by have:=h.1;omega,fun p hp=>?_⟩
 have:=h.2 p (List.mem_append.mpr (.inl hp))
 rw[List.count_append]at this
 omega
theorem Cop.trans {s u v:St} {X1 X2 X p1 p2:List Nat} {n1 n2:Nat} (a:Cop s u X1 n1 p1) (b:Cop u v X2 n2 p2) (hx:∀g,s.used g≠0→g∉X→g∉X1∧g∉X2):Cop s v X (n1+n2) (p1++p2) where
 wf:=b.wf
 n:=by have:=a.n;have:=b.n;omega
 used:=fun g hg=>by rw[b.used g (a.ne g hg),a.used g hg,List.count_append];omega
 same:=fun g hg hc x hy=>by
  have q:=hx g hg hc
  rw[b.same g (a.ne g hg) q.2 x hy,a.same g hg q.1 x hy]
def Chain (R:St→Nat→St→Prop):List Nat→St→St→Prop
 | [],s,s'=>s=s'
 | a::l,s,s'=>∃u,R s a u∧Chain R l u s'
def Copies:Nat→Nat→St→Nat→St→Prop
  | 0,_,_,_,_=>False
  | l + 1, t, s, f, s' => t < 256 ∧ WF s ∧ ∃ s1, Took s f s1 ∧ Chain (fun u a u' => WF u ∧ a / 4096 = t ∧ a % 8 = 0 ∧ base (load u.mem a) / 4096 < 256 ∧
      if l=0 then u.used (base (load u.mem a) / 4096)≠0∧u'=((u.put a (kept (load u.mem a))).put (4096 * f+a % 4096) (kept (load u.mem a))).uses (base (load u.mem a) / 4096) (u.used (base (load u.mem a) / 4096)+1)
      else ∃g v,Copies l (base (load u.mem a) / 4096) u g v∧g<256∧u'=v.put (4096 * f+a % 4096) (load u.mem a % 4096+load u.mem a / 2 ^ 52 * 2 ^ 52+4096 * g)) (fill s1.mem t) s1 s'
def stepC (l tw:Nat) (u:St) (a:Nat):Option St :=
        let e:=load u.mem a
        let b:=4096 * tw+a % 4096
        let f:=base e / 4096
        if l=0 then(if 65535≤u.used f then none else some (((u.put a (kept e)).put b (kept e)).uses f (u.used f+1)))
        else match copy l f u with
          | none=>none
          | some z=>some (z.2.put b (e % 4096+e / 2 ^ 52 * 2 ^ 52+4096 * z.1))
theorem copy_succ (l t:Nat) (s:St):copy (l+1) t s=match s.take with
  | none=>none
  | some x=>((entries s t).foldlM (stepC l x.1) x.2).map fun(y:St)=>(x.1,y):=rfl
def StepR (l t f:Nat) (u:St) (a:Nat) (u':St):Prop:=WF u∧a / 4096=t∧a % 8=0∧base (load u.mem a) / 4096<256 ∧
   if l=0 then u.used (base (load u.mem a) / 4096)≠0∧u'=((u.put a (kept (load u.mem a))).put (4096 * f+a % 4096) (kept (load u.mem a))).uses (base (load u.mem a) / 4096) (u.used (base (load u.mem a) / 4096)+1)
   else ∃g v,Copies l (base (load u.mem a) / 4096) u g v∧g<256∧u'=v.put (4096 * f+a % 4096) (load u.mem a % 4096+load u.mem a / 2 ^ 52 * 2 ^ 52+4096 * g)
theorem copies_iff (l t:Nat) (s:St) (f:Nat) (s':St):Copies (l+1) t s f s'=(t<256∧WF s∧∃s1,Took s f s1∧Chain (StepR l t f) (fill s1.mem t) s1 s'):=rfl
theorem freeN_put (s:St) (a x:Nat):freeN (s.put a x)=freeN s:=rfl
theorem fold_low {t tw : Nat} (ht : t < 256) (htw : tw < 256) (hne : t ≠ tw) : ∀ (as : List Nat) (u : St), WF u → as.Nodup → (∀ a ∈ as, a / 4096 = t ∧ a % 8 = 0) → (∀ a ∈ as, leads u a < 256 ∧ u.used (leads u a) ≠ 0) →
    (Room u 0 (as.map (leads u))∧∃v,as.foldlM (stepC 0 tw) u=some v∧Chain (StepR 0 t tw) as u v∧Cop u v [t,tw] 0 (as.map (leads u)))∨(¬Room u 0 (as.map (leads u))∧as.foldlM (stepC 0 tw) u=none)
  | [],u,hw,_,_,_=>.inl ⟨⟨Nat.zero_le _,fun p hp=>by cases hp⟩,u,rfl,rfl,⟨hw,rfl,fun g _=>rfl,fun _ _ _ _ _=>rfl⟩⟩
  | a :: as, u, hw, hnd, hat, hpg => by
    obtain⟨ha,hnd'⟩:=List.nodup_cons.mp hnd
    obtain⟨ha1,ha2⟩:=hat a (by simp)
    obtain⟨hl1,hl2⟩:=hpg a (by simp)
    have alt:a<1048576:=by omega
    have efold:(a::as).foldlM (stepC 0 tw) u=(stepC 0 tw u a).bind fun u1=>as.foldlM (stepC 0 tw) u1:=by
      rw[List.foldlM_cons];rfl
    have estep:stepC 0 tw u a=if 65535≤u.used (leads u a)then none else some (((u.put a (kept (load u.mem a))).put (4096 * tw+a % 4096) (kept (load u.mem a))).uses (leads u a) (u.used (leads u a)+1)):=rfl
    rw[efold,estep]
    by_cases hfull:65535≤u.used (leads u a)
    · right
      refine⟨fun R=>?_,?_⟩
      · have:=R.2 (leads u a) (by simp)
        have q:0<(List.map (leads u) (a::as)).count (leads u a):=List.count_pos_iff.mpr (by simp)
        omega
      · rw[if_pos hfull];rfl
    · rw [if_neg hfull]
      have w1:WF (u.put a (kept (load u.mem a))):=hw.put _ _
      have w2:WF ((u.put a (kept (load u.mem a))).put (4096 * tw+a % 4096) (kept (load u.mem a))):=w1.put _ _
      have w3:=w2.uses (leads u a) (u.used (leads u a)+1)
      have us:∀g,(((u.put a (kept (load u.mem a))).put (4096 * tw+a % 4096) (kept (load u.mem a))).uses (leads u a) (u.used (leads u a)+1)).used g=if leads u a=g then u.used (leads u a)+1 else u.used g:=fun g=>by
        rw[used_uses w2 _ _ _ hl1];rfl
      have ld:∀b,¬a / 8=b / 8→¬b / 4096=tw→load (((u.put a (kept (load u.mem a))).put (4096 * tw+a % 4096) (kept (load u.mem a))).uses (leads u a) (u.used (leads u a)+1)).mem b=load u.mem b:=fun b h1 h2=>by
        show load (store (store u.mem a (kept (load u.mem a))) (4096 * tw+a % 4096) (kept (load u.mem a))) b=_
        rw[load_store (hw.m.store _ _) _ _ _ (by omega),if_neg (by omega),load_store hw.m _ _ _ alt,if_neg h1]
      generalize hu1:((u.put a (kept (load u.mem a))).put (4096 * tw+a % 4096) (kept (load u.mem a))).uses (leads u a) (u.used (leads u a)+1)=u1 at *
      have fr:freeN u1=freeN u:=by
        have q:=freeN_uses w2 (leads u a) (u.used (leads u a)+1) hl1
        rw[hu1,freeN_put,freeN_put,used_put,used_put,if_neg hl2,if_neg (by omega)]at q
        omega
      have lds:∀c∈as,leads u1 c=leads u c:=fun c hc=>by
        obtain⟨hc1,hc2⟩:=hat c (by simp[hc])
        unfold leads
        rw [ld c (fun e => ha (by have : a = c := by omega
                                  rw[this];exact hc)) (by omega)]
      have emap:as.map (leads u1)=as.map (leads u):=List.map_congr_left lds
      have ih:=fold_low ht htw hne as u1 w3 hnd' (fun c hc=>hat c (by simp[hc])) (fun c hc=>by
        rw[lds c hc]
        refine⟨(hpg c (by simp[hc])).1,?_⟩
        rw[us]
        split
        · omega
        · exact(hpg c (by simp[hc])).2)
      rw[emap]at ih
      have c1:Cop u u1 [t,tw] 0 [leads u a]:=by
        refine⟨w3,fr,fun g hg=>?_,fun g hg hx b hb=>?_⟩
        · rw[us,List.count_singleton]
          by_cases q:leads u a=g
          · subst q;simp
          · simp[q]
        · have hx':g≠t∧g≠tw:=by simpa using hx
          exact ld b (by omega) (by omega)
      have r1:Room u 0 [leads u a]:=by
        refine⟨Nat.zero_le _,fun p hp=>?_⟩
        have:p=leads u a:=by simpa using hp
        subst this
        simp
        omega
      have rs:=Room.step (n2:=0) (p2:=as.map (leads u)) r1 c1 (fun p hp=>by
        have hp':p∈(a::as).map (leads u):=hp
        obtain⟨c,hc,e⟩:=List.mem_map.mp hp'
        rw[←e]
        exact(hpg c hc).2)
      have st:StepR 0 t tw u a u1:=⟨hw,ha1,ha2,hl1,by rw[if_pos rfl];exact⟨hl2,hu1.symm⟩⟩
      rcases ih with⟨R,v,h1,h2,h3⟩|⟨R,h1⟩
      · left
        refine⟨rs.mp R,v,h1,⟨u1,st,h2⟩,?_⟩
        exact c1.trans h3 fun g _ hx=>⟨hx,hx⟩
      · right
        exact⟨fun q=>R (rs.mpr q),h1⟩
def CopyAns (l t:Nat) (s:St):Prop :=
 (Room s (tabsF s l [t]).length (pgsF s l [t])∧∃f s',copy l t s=some (f,s')∧Copies l t s f s'∧Cop s s' (tabsF s l [t]) (tabsF s l [t]).length (pgsF s l [t])∧f<256∧s.used f=0∧s'.used f≠0) ∨
 (¬Room s (tabsF s l [t]).length (pgsF s l [t])∧copy l t s=none)
theorem fold_up {l t tw:Nat} (hl:l≠0) (ht:t<256) (htw:tw<256) (hne:t≠tw) (IH:∀(t:Nat) (s:St),WF s→Sub s l [t]→CopyAns l t s):∀(as:List Nat) (u:St),WF u→(∀a∈as,a / 4096=t∧a % 8=0)→Sub u l (as.map (leads u)) →
    u.used t≠0→t∉tabsF u l (as.map (leads u))→u.used tw≠0→tw∉tabsF u l (as.map (leads u))→(∀a∈as,leads u a<256) →
    (Room u (tabsF u l (as.map (leads u))).length (pgsF u l (as.map (leads u)))∧∃v,as.foldlM (stepC l tw) u=some v∧Chain (StepR l t tw) as u v ∧
      Cop u v (tw::tabsF u l (as.map (leads u))) (tabsF u l (as.map (leads u))).length (pgsF u l (as.map (leads u)))) ∨
    (¬Room u (tabsF u l (as.map (leads u))).length (pgsF u l (as.map (leads u)))∧as.foldlM (stepC l tw) u=none)
  | [],u,hw,_,_,_,_,_,_,_=>by
    left
    rw[List.map_nil,tabsF_nil,pgsF_nil]
    exact⟨⟨Nat.zero_le _,fun p hp=>by cases hp⟩,u,rfl,rfl,⟨hw,rfl,fun g _=>rfl,fun _ _ _ _ _=>rfl⟩⟩
  | a :: as, u, hw, hat, S, ut, nt, utw, ntw, hlt => by
    obtain⟨ha1,ha2⟩:=hat a (by simp)
    have efold:(a::as).foldlM (stepC l tw) u=(stepC l tw u a).bind fun u1=>as.foldlM (stepC l tw) u1:=by
      rw[List.foldlM_cons];rfl
    have estep:stepC l tw u a=match copy l (leads u a) u with
        | none=>none
        | some z=>some (z.2.put (4096 * tw+a % 4096) (load u.mem a % 4096+load u.mem a / 2 ^ 52 * 2 ^ 52+4096 * z.1)):=by
      unfold stepC
      simp only
      rw[if_neg hl]
      rfl
    have emap:(a::as).map (leads u)=[leads u a]++as.map (leads u):=rfl
    rw[emap]at S nt ntw ⊢
    have elen:=tabsF_len u l [leads u a] (as.map (leads u))
    have epg:=pgsF_append u l [leads u a] (as.map (leads u))
    rw[elen,epg,efold,estep]
    rw[mem_tabsF_app]at nt ntw
    have nt1:t∉tabsF u l [leads u a]:=fun h=>nt (.inl h)
    have nt2:t∉tabsF u l (as.map (leads u)):=fun h=>nt (.inr h)
    have nw1:tw∉tabsF u l [leads u a]:=fun h=>ntw (.inl h)
    have nw2:tw∉tabsF u l (as.map (leads u)):=fun h=>ntw (.inr h)
    rcases IH (leads u a) u hw S.left with⟨R,f,z,ec,cs,cp,hf,_,_⟩|⟨R,ec⟩
    · rw [ec]
      simp only[Option.bind_some]
      have w1:WF (z.put (4096 * tw+a % 4096) (load u.mem a % 4096+load u.mem a / 2 ^ 52 * 2 ^ 52+4096 * f)):=cp.wf.put _ _
      have c1:Cop u (z.put (4096 * tw+a % 4096) (load u.mem a % 4096+load u.mem a / 2 ^ 52 * 2 ^ 52+4096 * f)) (tw::tabsF u l [leads u a]) (tabsF u l [leads u a]).length (pgsF u l [leads u a]):=by
        refine⟨w1,cp.n,fun g hg=>cp.used g hg,fun g hg hx b hb=>?_⟩
        have hx1:g≠tw:=fun e=>hx (by simp[e])
        have hx2:g∉tabsF u l [leads u a]:=fun e=>hx (by simp[e])
        show load (store z.mem _ _) b=_
        rw[load_store cp.wf.m _ _ _ (by omega),if_neg (by omega),cp.same g hg hx2 b hb]
      have st:StepR l t tw u a (z.put (4096 * tw+a % 4096) (load u.mem a % 4096+load u.mem a / 2 ^ 52 * 2 ^ 52+4096 * f)):=by
        refine⟨hw,ha1,ha2,hlt a (by simp),?_⟩
        rw[if_neg hl]
        exact⟨f,z,cs,hf,rfl⟩
      generalize z.put (4096 * tw+a % 4096) (load u.mem a % 4096+load u.mem a / 2 ^ 52 * 2 ^ 52+4096 * f)=u1 at *
      have sm:SameIn (tabsF u l (as.map (leads u))) u u1:=fun x hx b hb=>by
        have h1:x∉tw::tabsF u l [leads u a]:=by
          intro q
          rcases List.mem_cons.mp q with q|q
          · rw[q]at hx;exact nw2 hx
          · have o:=S.one x
            rw[tabsF_count]at o
            have o1:=List.count_pos_iff.mpr hx
            have o2:=List.count_pos_iff.mpr q
            omega
        exact c1.same x (S.right.lt x hx).2 h1 b hb
      have lds:∀c∈as,leads u1 c=leads u c:=fun c hc=>by
        obtain⟨hc1,hc2⟩:=hat c (by simp[hc])
        unfold leads
        rw[c1.same t ut (by
          intro q
          rcases List.mem_cons.mp q with q|q
          · exact hne q
          · exact nt1 q) c hc1]
      have em2:as.map (leads u1)=as.map (leads u):=List.map_congr_left lds
      obtain⟨S1,e1,e2⟩:=S.right.same sm c1.ne
      have ih:=fold_up hl ht htw hne IH as u1 w1 (fun c hc=>hat c (by simp[hc])) (by rw[em2];exact S1) (c1.ne t ut) (by rw[em2,e1];exact nt2) (c1.ne tw utw) (by rw[em2,e1];exact nw2)
        (fun c hc=>by rw[lds c hc];exact hlt c (by simp[hc]))
      rw[em2,e1,e2]at ih
      have rs:=Room.step (n2:=(tabsF u l (as.map (leads u))).length) (p2:=pgsF u l (as.map (leads u))) R c1 (fun p hp=>(S.pg p (by rw[epg];exact hp)).2)
      rcases ih with⟨R2,v,h1,h2,h3⟩|⟨R2,h1⟩
      · left
        refine⟨rs.mp R2,v,h1,⟨u1,st,h2⟩,?_⟩
        refine c1.trans h3 fun g _ hx=>?_
        have x1:g≠tw:=fun e=>hx (by simp[e])
        have x2:g∉tabsF u l ([leads u a]++as.map (leads u)):=fun e=>hx (List.mem_cons_of_mem _ e)
        rw[mem_tabsF_app]at x2
        constructor
        · intro q
          rcases List.mem_cons.mp q with q|q
          · exact x1 q
          · exact x2 (.inl q)
        · intro q
          rcases List.mem_cons.mp q with q|q
          · exact x1 q
          · exact x2 (.inr q)
      · right
        exact⟨fun q=>R2 (rs.mpr q),h1⟩
    · right
      refine⟨fun q=>R (Room.first q),?_⟩
      rw[ec]
      rfl
theorem took_cop {s s1:St} {f:Nat} (T:Took s f s1):Cop s s1 [] 1 [] where
 wf:=T.wf
 n:=T.n
 used:=fun g hg=>by
  have q:¬f=g:=fun e=>hg (by rw[←e];exact T.zero)
  rw[T.used,if_neg q];rfl
 same:=fun g hg _ b hb=>by
  have q:¬b / 4096=f:=fun e=>hg (by rw[←hb,e];exact T.zero)
  rw[T.load,if_neg q]
theorem mem_self_tabs (s:St) (l t:Nat):t∈tabsF s (l+1) [t]:=List.mem_append.mpr (.inl (by simp))
theorem copy_sub:∀(l t:Nat) (s:St),WF s→Sub s (l+1) [t]→CopyAns (l+1) t s
  | l, t, s, hw, S => by
    have ht:=(S.lt t (mem_self_tabs s l t)).1
    have ut:=(S.lt t (mem_self_tabs s l t)).2
    have hz:=S.zer t (mem_self_tabs s l t)
    have etab:tabsF s (l+1) [t]=[t]++tabsF s l (kids s [t]):=rfl
    have epg:pgsF s (l+1) [t]=pgsF s l (kids s [t]):=rfl
    have ek:=kids_one s t
    by_cases hf:freeN s=0
    · right
      refine⟨fun R=>?_,?_⟩
      · have:=R.1
        rw[etab,List.length_append]at this
        simp at this
        omega
      · rw[copy_succ,take_none hw hf]
    · obtain⟨f,s1,T⟩:=take_some hw hf
      have c0:=took_cop T
      have hne:t≠f:=fun e=>ut (e▸T.zero)
      have smt:∀b,b / 4096=t→load s1.mem b=load s.mem b:=fun b hb=>c0.same t ut (by simp) b hb
      obtain⟨en1,en2⟩:=entries_same (s:=s) (u:=s1) (t:=t) smt
      have efill:entries s t=fill s1.mem t:=by rw[entries_fill hz,fill_same smt]
      have em:(entries s t).map (leads s1)=(entries s t).map (leads s):=List.map_congr_left en2
      have hat:∀a∈entries s t,a / 4096=t∧a % 8=0:=fun a ha=>by
        obtain⟨⟨i,hi,e⟩,_⟩:=mem_entries.mp ha
        omega
      have ec:copy (l+1) t s=((entries s t).foldlM (stepC l f) s1).map fun(y:St)=>(f,y):=by
        rw[copy_succ,T.eq]
      have uf:s1.used f≠0:=by rw[T.used,if_pos rfl];decide
      have fin:∀v,Chain (StepR l t f) (entries s t) s1 v→Copies (l+1) t s f v:=fun v h=>by
        rw[copies_iff]
        refine⟨ht,hw,s1,T,?_⟩
        rw[←efill]
        exact h
      have rs:=fun(n2:Nat) (p2:List Nat) (h:∀p∈p2,s.used p≠0)=>Room.step (n2:=n2) (p2:=p2) (show Room s 1 [] from⟨by omega,fun p hp=>by cases hp⟩) c0 (fun p hp=>h p hp)
      cases l with
      | zero =>
        have low:=fold_low ht T.lt hne (entries s t) s1 T.wf (by rw[efill];exact fill_nodup _ _) hat (fun a ha=>by
          rw[en2 a ha]
          have q:leads s a∈pgsF s 1 [t]:=by
            rw[epg,ek]
            exact List.mem_map.mpr ⟨a,ha,rfl⟩
          exact⟨(S.pg _ q).1,c0.ne _ (S.pg _ q).2⟩)
        rw[em]at low
        have e1:pgsF s 1 [t]=(entries s t).map (leads s):=by rw[epg,ek];rfl
        have e2:(tabsF s 1 [t]).length=1+0:=rfl
        have e3:tabsF s 1 [t]=[t]:=rfl
        have rr:=rs 0 ((entries s t).map (leads s)) (fun p hp=>(S.pg p (by rw[e1];exact hp)).2)
        rw[List.nil_append]at rr
        rcases low with⟨R,v,h1,h2,h3⟩|⟨R,h1⟩
        · left
          rw[e2,e1]
          refine⟨rr.mp R,f,v,by rw[ec,h1];rfl,fin v h2,?_,T.lt,T.zero,h3.ne f uf⟩
          refine c0.trans h3 fun g hg hx=>⟨by simp,?_⟩
          have:g≠t:=by simpa [e3] using hx
          have:g≠f:=fun e=>hg (e▸T.zero)
          simp[*]
        · right
          rw[e2,e1]
          exact⟨fun q=>R (rr.mpr q),by rw[ec,h1];rfl⟩
      | succ l =>
        have elen:(tabsF s (l+2) [t]).length=1+(tabsF s (l+1) ((entries s t).map (leads s))).length:=by
          rw[etab,List.length_append,ek]
          rfl
        have etab':tabsF s (l+2) [t]=[t]++tabsF s (l+1) ((entries s t).map (leads s)):=by rw[etab,ek]
        have epg':pgsF s (l+2) [t]=pgsF s (l+1) ((entries s t).map (leads s)):=by rw[epg,ek]
        have Sk:Sub s (l+1) ((entries s t).map (leads s)):=by
          refine⟨fun x hx=>S.lt x (by rw[etab'];exact List.mem_append.mpr (.inr hx)),fun x=>?_,fun x hx=>S.zer x (by rw[etab'];exact List.mem_append.mpr (.inr hx)),fun p hp=>S.pg p (by rw[epg'];exact hp)⟩
          have:=S.one x
          rw[etab',List.count_append]at this
          omega
        have nt:t∉tabsF s (l+1) ((entries s t).map (leads s)):=fun h=>by
          have:=S.one t
          rw[etab',List.count_append]at this
          have q1:=List.count_pos_iff.mpr h
          have q2:([t]:List Nat).count t=1:=by simp
          omega
        have nf:f∉tabsF s (l+1) ((entries s t).map (leads s)):=fun h=>(Sk.lt f h).2 T.zero
        obtain⟨S1,e1,e2⟩:=Sk.same (u:=s1) (fun x hx b hb=>c0.same x (Sk.lt x hx).2 (by simp) b hb) c0.ne
        have up:=fold_up (l:=l+1) (by omega) ht T.lt hne (fun t s hw S=>copy_sub l t s hw S) (entries s t) s1 T.wf hat (by rw[em];exact S1) (c0.ne t ut) (by rw[em,e1];exact nt) uf (by rw[em,e1];exact nf)
          (fun a ha=>by
            rw[en2 a ha]
            exact(Sk.lt _ (List.mem_append.mpr (.inl (List.mem_map.mpr ⟨a,ha,rfl⟩)))).1)
        rw[em,e1,e2]at up
        have rr:=rs (tabsF s (l+1) ((entries s t).map (leads s))).length (pgsF s (l+1) ((entries s t).map (leads s))) (fun p hp=>(Sk.pg p hp).2)
        rw[List.nil_append]at rr
        rcases up with⟨R,v,h1,h2,h3⟩|⟨R,h1⟩
        · left
          rw[elen,epg']
          refine⟨rr.mp R,f,v,by rw[ec,h1];rfl,fin v h2,?_,T.lt,T.zero,h3.ne f uf⟩
          refine c0.trans h3 fun g hg hx=>⟨by simp,?_⟩
          rw[etab']at hx
          have x2:g≠f:=fun e=>hg (e▸T.zero)
          intro q
          rcases List.mem_cons.mp q with q|q
          · exact x2 q
          · exact hx (List.mem_append.mpr (.inr q))
        · right
          rw[elen,epg']
          exact⟨fun q=>R (rr.mpr q),by rw[ec,h1];rfl⟩
end M
namespace M
open Sd19
theorem tabs4 (s:St) (root:Nat):tabsF s 4 [root]=[root]++(kids s [root]++(kids s (kids s [root])++kids s (kids s (kids s [root])))):=by
 unfold tabsF;unfold tabsF;unfold tabsF;unfold tabsF;unfold tabsF
 rw[List.append_nil]
theorem pgs4 (s:St) (root:Nat):pgsF s 4 [root]=kids s (kids s (kids s (kids s [root]))):=by
 unfold pgsF;unfold pgsF;unfold pgsF;unfold pgsF;unfold pgsF
 rfl
theorem Snd.tabs {s:St} {root:Nat} {L3 L2 L1 pg:List Nat} (S:Snd s root L3 L2 L1 pg):tabsF s 4 [root]=[root]++(L3++(L2++L1))∧pgsF s 4 [root]=pg:=by
 rw[tabs4,pgs4,S.kp,S.k1,S.k2,S.k3]
 exact⟨rfl,rfl⟩
theorem Snd.mem4 {s:St} {root:Nat} {L3 L2 L1 pg:List Nat} (S:Snd s root L3 L2 L1 pg) {x:Nat}:x∈[root]++(L3++(L2++L1))↔x∈L1++(L2++(L3++[root])):=by
 simp only[List.mem_append]
 constructor
 ·rintro(h|h|h|h)<;>simp[h]
 ·rintro(h|h|h|h)<;>simp[h]
theorem Snd.sub {s:St} {root:Nat} {L3 L2 L1 pg:List Nat} (S:Snd s root L3 L2 L1 pg):Sub s 4 [root]:=by
  obtain⟨e1,e2⟩:=S.tabs
  refine⟨?_,?_,?_,?_⟩
  · rw[e1]
    intro x hx
    have hx':=S.mem4.mp hx
    refine⟨S.lt x hx',?_⟩
    rw[(S.one x hx').1]
    decide
  · rw[e1]
    intro x
    have:=S.nd
    have c:=List.nodup_iff_count.mp this x
    simp only[List.count_append]at c ⊢
    omega
  · rw [e1]
    intro x hx
    rcases List.mem_append.mp (S.mem4.mp hx)with h|h
    · exact zer_of (S.o1 x h)
    · rcases List.mem_append.mp h with h|h
      · exact zer_of (S.o2 x h)
      · rcases List.mem_append.mp h with h|h
        · exact zer_of (S.o3 x h)
        · have:x=root:=by simpa using h
          rw[this]
          exact zer_of S.o4
  · rw[e2]
    intro p hp
    refine⟨S.pf p hp,?_⟩
    have h1:=S.pc p hp
    have h2:0<pg.count p:=List.count_pos_iff.mpr hp
    omega
theorem st_ext {s u:St} (hs:WF s) (hu:WF u) (hm:s.mem=u.mem) (hc:∀g,g<256→s.used g=u.used g):s=u:=by
 obtain⟨m,c⟩:=s
 obtain⟨m',c'⟩:=u
 have hm:m=m':=hm
 subst hm
 have e:c=c':=by
  have z1:c.size=256:=hs.c
  have z2:c'.size=256:=hu.c
  apply Array.ext
  ·rw[z1,z2]
  ·intro i h1 h2
   have:=hc i (by omega)
   unfold St.used at this
   simp only[Array.getD_eq_getD_getElem?]at this
   simpa [h1,h2] using this
 rw[e]
theorem used_out {s:St} (h:WF s) {g:Nat} (hg:¬g<256):s.used g=0:=by
 unfold St.used
 have:=h.c
 rw[Array.getD_eq_getD_getElem?,Array.getElem?_eq_none (by omega)]
 rfl
theorem used_uses' {s:St} (h:WF s) (f n g:Nat):(s.uses f n).used g=if f=g∧f<256 then n else s.used g:=by
 unfold St.used St.uses
 show(s.count.setIfInBounds f n).getD g 0=_
 rw[getD_set,h.c]
theorem used_less {s:St} (h:WF s) (f g:Nat):(s.less f).used g=s.used g - if f=g then 1 else 0:=by
 unfold St.less
 rw[used_uses' h]
 by_cases e:f=g
 ·subst e
  by_cases l:f<256
  ·simp[l]
  ·simp[l,used_out h l]
 ·simp[e]
theorem WF.less {s:St} (h:WF s) (f:Nat):WF (s.less f):=h.uses _ _
theorem drop_succ (l t:Nat) (s:St):drop (l+1) t s=((entries s t).foldl (fun(u:St) (a:Nat)=>drop l (leads u a) u) s).uses t 0:=rfl
theorem leads_mem {s u:St} (h:u.mem=s.mem) (a:Nat):leads u a=leads s a:=by unfold leads;rw[h]
theorem tabs_mem {s u:St} (h:u.mem=s.mem) (l:Nat) (ts:List Nat):tabsF u l ts=tabsF s l ts∧pgsF u l ts=pgsF s l ts:=tabs_same fun x _ b _=>by rw[h]
structure Drp (s u:St) (ts pg:List Nat):Prop where
 wf:WF u
 mem:u.mem=s.mem
 used:∀g,u.used g=if g∈ts then 0 else s.used g - pg.count g
theorem drop_fold {l:Nat} (IH:∀(t:Nat) (s:St),WF s→Drp s (drop l t s) (tabsF s l [t]) (pgsF s l [t])):∀(as:List Nat) (s:St),WF s→Drp s (as.foldl (fun(u:St) (a:Nat)=>drop l (leads u a) u) s) (tabsF s l (as.map (leads s))) (pgsF s l (as.map (leads s)))
  | [],s,hw=>⟨hw,rfl,fun g=>by rw[List.map_nil,tabsF_nil,pgsF_nil];simp⟩
  | a :: as, s, hw => by
    have d1:=IH (leads s a) s hw
    have d2:=drop_fold IH as (drop l (leads s a) s) d1.wf
    have em:as.map (leads (drop l (leads s a) s))=as.map (leads s):=List.map_congr_left fun c _=>leads_mem d1.mem c
    obtain⟨e1,e2⟩:=tabs_mem d1.mem l (as.map (leads s))
    rw[em,e1,e2]at d2
    show Drp s (as.foldl (fun(u:St) (a:Nat)=>drop l (leads u a) u) (drop l (leads s a) s)) (tabsF s l ([leads s a]++as.map (leads s))) (pgsF s l ([leads s a]++as.map (leads s)))
    refine⟨d2.wf,d2.mem.trans d1.mem,fun g=>?_⟩
    rw[d2.used g,d1.used g,pgsF_append,List.count_append]
    by_cases h1:g∈tabsF s l (as.map (leads s))
    · rw[if_pos h1,if_pos (mem_tabsF_app.mpr (.inr h1))]
    · rw[if_neg h1]
      by_cases h2:g∈tabsF s l [leads s a]
      · rw[if_pos h2,if_pos (mem_tabsF_app.mpr (.inl h2))]
        omega
      · rw[if_neg h2,if_neg (fun h=>(mem_tabsF_app.mp h).elim h2 h1)]
        omega
theorem drop_drp:∀(l t:Nat) (s:St),WF s→Drp s (drop l t s) (tabsF s l [t]) (pgsF s l [t])
  | 0,t,s,hw=>by
    refine⟨hw.less t,rfl,fun g=>?_⟩
    show(s.less t).used g=if g∈([]:List Nat)then 0 else s.used g - ([t]:List Nat).count g
    rw[used_less hw,List.count_singleton]
    by_cases e:t=g
    · subst e;simp
    · simp[e]
  | l + 1, t, s, hw => by
    have d:=drop_fold (drop_drp l) (entries s t) s hw
    rw[drop_succ]
    have e1:tabsF s (l+1) [t]=[t]++tabsF s l ((entries s t).map (leads s)):=by
      show [t]++tabsF s l (kids s [t])=_
      rw[kids_one]
    have e2:pgsF s (l+1) [t]=pgsF s l ((entries s t).map (leads s)):=by
      show pgsF s l (kids s [t])=_
      rw[kids_one]
    rw[e1,e2]
    refine⟨d.wf.uses t 0,d.mem,fun g=>?_⟩
    rw[used_uses' d.wf,d.used g]
    by_cases h:t=g
    · subst h
      by_cases l:t<256
      · rw[if_pos ⟨rfl,l⟩,if_pos (by simp)]
      · rw[if_neg (fun q=>l q.2),if_pos (by simp:t∈[t]++_)]
        split
        · rfl
        · rw[used_out hw l];omega
    · rw [if_neg (fun q => h q.1)]
      have:g∈[t]++tabsF s l ((entries s t).map (leads s))↔g∈tabsF s l ((entries s t).map (leads s)):=by
        simp only[List.mem_append,List.mem_singleton]
        constructor
        · rintro(q|q)
          · exact absurd q.symm h
          · exact q
        · exact fun q=>.inr q
      by_cases q:g∈tabsF s l ((entries s t).map (leads s))
      · rw[if_pos q,if_pos (this.mpr q)]
      · rw[if_neg q,if_neg (fun z=>q (this.mp z))]
def freed (s:St) (ts:List Nat):St:=ts.foldl (fun(u:St) (t:Nat)=>u.uses t 0) s
def lessd (s:St) (pg:List Nat):St:=pg.foldl (fun(u:St) (p:Nat)=>u.less p) s
theorem freed_drp:∀(ts:List Nat) (s:St),WF s→Drp s (freed s ts) ts []
  | [],s,hw=>⟨hw,rfl,fun g=>by simp[freed]⟩
  | t :: ts, s, hw => by
    have d:=freed_drp ts (s.uses t 0) (hw.uses _ _)
    refine⟨d.wf,d.mem,fun g=>?_⟩
    show(freed (s.uses t 0) ts).used g=_
    rw[d.used g,used_uses' hw]
    by_cases h1:g∈ts
    · simp[h1]
    · by_cases h2:t=g
      · subst h2
        by_cases l:t<256
        · simp[l]
        · simp[l,h1,used_out hw l]
      · simp[h1,h2,Ne.symm h2]
theorem lessd_drp:∀(pg:List Nat) (s:St),WF s→Drp s (lessd s pg) [] pg
  | [],s,hw=>⟨hw,rfl,fun g=>by simp[lessd]⟩
  | p::pg,s,hw=>by
    have d:=lessd_drp pg (s.less p) (hw.less p)
    refine⟨d.wf,d.mem,fun g=>?_⟩
    show(lessd (s.less p) pg).used g=_
    rw[d.used g,used_less hw,List.count_cons]
    by_cases h2:p=g
    · subst h2;simp;omega
    · simp[h2]
theorem drop_as {s:St} (hw:WF s) (root:Nat) (ts pg:List Nat) (h1:ts=tabsF s 4 [root]) (h2:pg=pgsF s 4 [root]):drop 4 root s=lessd (freed s ts) pg:=by
 have d:=drop_drp 4 root s hw
 have f:=freed_drp ts s hw
 have l:=lessd_drp pg (freed s ts) f.wf
 refine st_ext d.wf l.wf (by rw[d.mem,l.mem,f.mem]) fun g _=>?_
 rw[d.used,l.used,f.used,←h1,←h2]
 by_cases q:g∈ts
 ·simp[q]
 ·simp[q]
end M
namespace M
open Sd19
theorem and_le (e m:Nat):e &&& m≤e:=Nat.and_le_left
theorem clear_eq (e i:Nat):clearBit e i=e - (e &&& 2 ^ i):=by
 unfold clearBit
 by_cases h:bit e i=true
 ·rw[if_pos h]
  have:e &&& 2 ^ i=2 ^ i:=by
   rw[bit_tb]at h
   apply Nat.eq_of_testBit_eq
   intro j
   rw[Nat.testBit_and,Nat.testBit_two_pow]
   by_cases q:i=j
   ·subst q;simp[h]
   ·simp[q]
  rw[this]
 ·rw[if_neg h]
  have:e &&& 2 ^ i=0:=by
   have:=and_pow e i
   by_cases q:e &&& 2 ^ i=0
   ·exact q
   ·exact absurd (this.mp q) h
  rw[this];rfl
theorem sub_and_tb (e m j:Nat):(e - (e &&& m)).testBit j=(e.testBit j&&!m.testBit j):=by
 have h:e - (e &&& m)=e ^^^ (e &&& m):=by
  have h1:=and_xor e (e &&& m)
  have h2:e &&& (e &&& m)=e &&& m:=by rw[←Nat.and_assoc,Nat.and_self]
  rw[h2]at h1
  have:=and_le e m
  omega
 rw[h,Nat.testBit_xor,Nat.testBit_and]
 cases e.testBit j<;>cases m.testBit j<;>rfl
theorem tb_clear (e i j:Nat):(clearBit e i).testBit j=(e.testBit j&&!decide (i=j)):=by
 rw[clear_eq,sub_and_tb,Nat.testBit_two_pow]
theorem clear_set (e:Nat):setBit (clearBit e 9) 1=clearBit (setBit e 1) 9:=by
 apply Nat.eq_of_testBit_eq
 intro j
 rw[tb_setBit,tb_clear,tb_clear,tb_setBit]
 by_cases h:9=j
 ·subst h;simp
 ·by_cases h2:1=j<;>simp[h,h2]
theorem let_write (e:Nat):(e - (e &&& 512)) ||| 2=clearBit (setBit e 1) 9:=by
 have e1:e - (e &&& 512)=clearBit e 9:=(clear_eq e 9).symm
 rw[e1]
 show clearBit e 9 ||| 2 ^ 1=_
 rw[or_pow,clear_set]
theorem keep_from (e:Nat) (h:bit e 1=true):(e - (e &&& 2)) ||| 512=kept e:=by
 have e1:e - (e &&& 2)=clearBit e 1:=(clear_eq e 1).symm
 rw[e1]
 show clearBit e 1 ||| 2 ^ 9=_
 unfold kept
 rw[or_pow,if_pos h]
theorem kept_not (e:Nat) (h:bit e 1=false):kept e=e:=by
 unfold kept
 rw[h]
 rfl
theorem lead_to (e g:Nat) (hg:g<2 ^ 40):(e - (e &&& 4503599627366400)) ||| (g * 4096)=e % 4096+e / 2 ^ 52 * 2 ^ 52+4096 * g:=by
  have hb:e &&& 4503599627366400=bits e 12 40 * 4096:=by
    rw[base_and];rfl
  have h1:e - (e &&& 4503599627366400)=e % 4096+e / 2 ^ 52 * 2 ^ 52:=by
    rw[hb]
    unfold bits
    omega
  rw[h1]
  have h2:e % 4096+e / 2 ^ 52 * 2 ^ 52 &&& g * 4096=0:=by
    apply Nat.eq_of_testBit_eq
    intro j
    rw[Nat.testBit_and,Nat.zero_testBit]
    have e1:e % 4096+e / 2 ^ 52 * 2 ^ 52=2 ^ 52 * (e / 2 ^ 52)+e % 2 ^ 12:=by omega
    have e2:g * 4096=g * 2 ^ 12:=rfl
    rw[e1,e2,Nat.testBit_two_pow_mul_add _ (by omega:e % 2 ^ 12<2 ^ 52),Nat.testBit_mul_two_pow]
    by_cases c:j<52
    · rw[if_pos c,Nat.testBit_mod_two_pow]
      by_cases c2:j<12
      · have:¬12≤j:=by omega
        simp[this]
      · simp[c2]
    · have:g.testBit (j - 12)=false:=Nat.testBit_lt_two_pow (Nat.lt_of_lt_of_le hg (Nat.pow_le_pow_right (by decide) (by omega)))
      simp[this]
  have:=or_of_and h2
  rw[this]
  omega
theorem lead_lt (e g:Nat) (he:e<2 ^ 64) (hg:g<256):e % 4096+e / 2 ^ 52 * 2 ^ 52+4096 * g<2 ^ 64:=by omega
theorem clear_le (e i:Nat):clearBit e i≤e:=by rw[clear_eq];omega
theorem kept_lt {e:Nat} (h:e<2 ^ 64):kept e<2 ^ 64:=by
 unfold kept
 split
 ·exact setBit_lt (Nat.lt_of_le_of_lt (clear_le _ _) h) (by decide)
 ·exact h
theorem touched_lt {e:Nat} (h:e<2 ^ 64):clearBit (setBit e 1) 9<2 ^ 64:=Nat.lt_of_le_of_lt (clear_le _ _) (setBit_lt h (by decide))
theorem bit_mod {x i:Nat} (hi:i<12):bit x i=bit (x % 4096) i:=by
 rw[bit_tb,bit_tb]
 show _=(x % 2 ^ 12).testBit i
 rw[Nat.testBit_mod_two_pow]
 simp[hi]
theorem set_low {x i:Nat} (hi:i<12):setBit x i=x / 4096 * 4096+setBit (x % 4096) i:=by
 unfold setBit
 rw[←bit_mod hi]
 split<;>omega
theorem clear_low {x i:Nat} (hi:i<12):clearBit x i=x / 4096 * 4096+clearBit (x % 4096) i:=by
 have q:=clear_eq (x % 4096) i
 have q2:=and_le (x % 4096) (2 ^ i)
 unfold clearBit at q ⊢
 rw[←bit_mod hi]at q ⊢
 by_cases h:bit x i=true
 ·rw[if_pos h]at q ⊢
  rw[if_pos h]
  have:2 ^ i≤x % 4096:=by
   have h':=h
   rw[bit_mod hi,bit_tb]at h'
   exact Nat.ge_two_pow_of_testBit h'
  omega
 ·rw[if_neg h,if_neg h];omega
theorem low_touch (x:Nat):clearBit (setBit x 1) 9=x / 4096 * 4096+clearBit (setBit (x % 4096) 1) 9∧clearBit (setBit (x % 4096) 1) 9<4096:=by
 have h1:setBit (x % 4096) 1<2 ^ 12:=setBit_lt (by omega) (by decide)
 have h2:=set_low (x:=x) (i:=1) (by decide)
 have h3:=clear_low (x:=setBit x 1) (i:=9) (by decide)
 have e1:setBit x 1 / 4096=x / 4096:=by rw[h2];omega
 have e2:setBit x 1 % 4096=setBit (x % 4096) 1:=by rw[h2];omega
 rw[e1,e2]at h3
 exact⟨h3,Nat.lt_of_le_of_lt (clear_le _ _) h1⟩
theorem move_entry (e g:Nat):clearBit (setBit (e % 4096+e / 2 ^ 52 * 2 ^ 52+4096 * g) 1) 9=clearBit (setBit e 1) 9 - 4096 * (base e / 4096)+4096 * g∨¬g<2 ^ 40:=by
 by_cases hg:g<2 ^ 40
 ·left
  obtain⟨h1,h2⟩:=low_touch e
  obtain⟨h3,h4⟩:=low_touch (e % 4096+e / 2 ^ 52 * 2 ^ 52+4096 * g)
  have e1:(e % 4096+e / 2 ^ 52 * 2 ^ 52+4096 * g) % 4096=e % 4096:=by omega
  have e2:(e % 4096+e / 2 ^ 52 * 2 ^ 52+4096 * g) / 4096=e / 2 ^ 52 * 2 ^ 40+g:=by omega
  rw[e1,e2]at h3
  rw[h3,h1]
  have e3:base e / 4096=e / 4096 % 2 ^ 40:=by
   unfold base bits
   omega
  rw[e3]
  generalize clearBit (setBit (e % 4096) 1) 9=z at *
  omega
 ·exact .inr hg
structure Path (s:St) (root addr t3 t2 t1:Nat):Prop where
 p4:present s (entryAt root 4 addr)=true
 p3:present s (entryAt t3 3 addr)=true
 p2:present s (entryAt t2 2 addr)=true
 l3:leads s (entryAt root 4 addr)=t3
 l2:leads s (entryAt t3 3 addr)=t2
 l1:leads s (entryAt t2 2 addr)=t1
theorem path_of {s:St} {root addr a:Nat} (h:find s addr 4 root=some a):∃t3 t2 t1,Path s root addr t3 t2 t1∧a=entryAt t1 1 addr∧way s addr 4 root=[entryAt root 4 addr,entryAt t3 3 addr,entryAt t2 2 addr,entryAt t1 1 addr]:=by
  have f4:find s addr 4 root=if present s (entryAt root 4 addr)=true then find s addr 3 (leads s (entryAt root 4 addr))else none:=rfl
  rw[f4]at h
  split at h
  · rename_i p4
    have f3:∀t,find s addr 3 t=if present s (entryAt t 3 addr)=true then find s addr 2 (leads s (entryAt t 3 addr))else none:=fun _=>rfl
    rw[f3]at h
    split at h
    · rename_i p3
      have f2:∀t,find s addr 2 t=if present s (entryAt t 2 addr)=true then find s addr 1 (leads s (entryAt t 2 addr))else none:=fun _=>rfl
      rw[f2]at h
      split at h
      · rename_i p2
        refine⟨_,_,_,⟨p4,p3,p2,rfl,rfl,rfl⟩,(Option.some.inj h).symm,?_⟩
        have w1:∀t,way s addr 1 t=[entryAt t 1 addr]:=fun t=>by unfold way;unfold way;simp
        have w2:∀l t,present s (entryAt t (l+1) addr)=true→way s addr (l+1) t=entryAt t (l+1) addr::way s addr l (leads s (entryAt t (l+1) addr)):=fun l t hp=>by
          conv=>lhs;unfold way
          rw[if_pos hp]
        rw[w2 3 _ p4,w2 2 _ p3,w2 1 _ p2,w1]
      · cases h
    · cases h
  · cases h
theorem Path.levs {s:St} {root addr t3 t2 t1:Nat} {L3 L2 L1 pg:List Nat} (S:Snd s root L3 L2 L1 pg) (P:Path s root addr t3 t2 t1):t3∈L3∧t2∈L2∧t1∈L1:=by
 have h3:t3∈L3:=by rw[←P.l3,S.k3];exact kid_at (by simp) P.p4
 have h2:t2∈L2:=by rw[←P.l2,S.k2];exact kid_at h3 P.p3
 have h1:t1∈L1:=by rw[←P.l1,S.k1];exact kid_at h2 P.p2
 exact⟨h3,h2,h1⟩
theorem Snd.apart4 {s:St} {root t3 t2 t1:Nat} {L3 L2 L1 pg:List Nat} (S:Snd s root L3 L2 L1 pg) (h3:t3∈L3) (h2:t2∈L2) (h1:t1∈L1):root≠t3∧root≠t2∧root≠t1∧t3≠t2∧t3≠t1∧t2≠t1:=by
 have nd:=List.nodup_iff_count.mp S.nd
 simp only[List.count_append]at nd
 have c3:=List.count_pos_iff.mpr h3
 have c2:=List.count_pos_iff.mpr h2
 have c1:=List.count_pos_iff.mpr h1
 have cr:([root]:List Nat).count root=1:=by simp
 refine⟨?_,?_,?_,?_,?_,?_⟩<;>intro e
 ·have:=nd root;rw[←e]at c3;omega
 ·have:=nd root;rw[←e]at c2;omega
 ·have:=nd root;rw[←e]at c1;omega
 ·have:=nd t3;rw[←e]at c2;omega
 ·have:=nd t3;rw[←e]at c1;omega
 ·have:=nd t2;rw[←e]at c1;omega
theorem empty_fill (s:St) (t:Nat):emptyTable s t=true↔fill s.mem t=[]:=by
 unfold emptyTable fill
 rw[List.all_eq_true,List.filter_eq_nil_iff]
 constructor
 ·intro h a ha
  obtain⟨i,hi,e⟩:=List.mem_map.mp ha
  have:=h i hi
  rw[←e]
  simpa using this
 ·intro h i hi
  have:=h _ (List.mem_map.mpr ⟨i,hi,rfl⟩)
  simpa using this
def prn:St→List (Nat×Nat)→St
 | u,[]=>u
 | u,p::r=>if fill u.mem p.1=[]then prn ((u.uses p.1 0).put p.2 0) r else u
theorem not_empty {s:St} {t a:Nat} (ha:a / 4096=t) (h8:a % 8=0) (h:load s.mem a≠0):¬fill s.mem t=[]:=by
 intro e
 have:a∈fill s.mem t:=mem_fill.mpr ⟨⟨a % 4096 / 8,by omega,by omega⟩,h⟩
 rw[e]at this
 cases this
theorem prune_as {s u:St} {root addr t3 t2 t1:Nat} (hw:WF u) (P:Path u root addr t3 t2 t1) (h:root<256∧t3<256∧t2<256∧t1<256) (d:root≠t3∧root≠t2∧root≠t1∧t3≠t2∧t3≠t1∧t2≠t1) :
  prune addr 4 root u=prn u [(t1,entryAt t2 2 addr),(t2,entryAt t3 3 addr),(t3,entryAt root 4 addr)]:=by
 obtain⟨d1,d2,d3,d4,d5,d6⟩:=d
 obtain⟨hr,h3,h2,h1⟩:=h
 have f4:=entryAt_frame (t:=root) (level:=4) (addr:=addr)
 have f3:=entryAt_frame (t:=t3) (level:=3) (addr:=addr)
 have f2:=entryAt_frame (t:=t2) (level:=2) (addr:=addr)
 have l4:=entryAt_lt (t:=root) (level:=4) (addr:=addr) hr
 have l3:=entryAt_lt (t:=t3) (level:=3) (addr:=addr) h3
 have l2:=entryAt_lt (t:=t2) (level:=2) (addr:=addr) h2
 have n4:=present_ne P.p4
 have n3:=present_ne P.p3
 have n2:=present_ne P.p2
 have e1:prune addr 1 t1 u=u:=rfl
 have e2:prune addr 2 t2 u=if emptyTable u t1=true then(u.put (entryAt t2 2 addr) 0).uses t1 0 else u:=by
  have:prune addr 2 t2 u=if present u (entryAt t2 2 addr)=false then u else
   if emptyTable (prune addr 1 (leads u (entryAt t2 2 addr)) u) (leads u (entryAt t2 2 addr))=true then((prune addr 1 (leads u (entryAt t2 2 addr)) u).put (entryAt t2 2 addr) 0).uses (leads u (entryAt t2 2 addr)) 0 else prune addr 1 (leads u (entryAt t2 2 addr)) u:=rfl
  rw[this,if_neg (by rw[P.p2];decide),P.l1,e1]
 have e3:prune addr 3 t3 u=if emptyTable (prune addr 2 t2 u) t2=true then((prune addr 2 t2 u).put (entryAt t3 3 addr) 0).uses t2 0 else prune addr 2 t2 u:=by
  have:prune addr 3 t3 u=if present u (entryAt t3 3 addr)=false then u else
   if emptyTable (prune addr 2 (leads u (entryAt t3 3 addr)) u) (leads u (entryAt t3 3 addr))=true then((prune addr 2 (leads u (entryAt t3 3 addr)) u).put (entryAt t3 3 addr) 0).uses (leads u (entryAt t3 3 addr)) 0 else prune addr 2 (leads u (entryAt t3 3 addr)) u:=rfl
  rw[this,if_neg (by rw[P.p3];decide),P.l2]
 have e4:prune addr 4 root u=if emptyTable (prune addr 3 t3 u) t3=true then((prune addr 3 t3 u).put (entryAt root 4 addr) 0).uses t3 0 else prune addr 3 t3 u:=by
  have:prune addr 4 root u=if present u (entryAt root 4 addr)=false then u else
   if emptyTable (prune addr 3 (leads u (entryAt root 4 addr)) u) (leads u (entryAt root 4 addr))=true then((prune addr 3 (leads u (entryAt root 4 addr)) u).put (entryAt root 4 addr) 0).uses (leads u (entryAt root 4 addr)) 0 else prune addr 3 (leads u (entryAt root 4 addr)) u:=rfl
  rw[this,if_neg (by rw[P.p4];decide),P.l3]
 rw[e4,e3,e2]
 simp only[empty_fill]
 show _=if fill u.mem t1=[]then prn ((u.uses t1 0).put (entryAt t2 2 addr) 0) [(t2,entryAt t3 3 addr),(t3,entryAt root 4 addr)]else u
 by_cases c1:fill u.mem t1=[]
 ·rw[if_pos c1,if_pos c1]
  show _=if fill ((u.uses t1 0).put (entryAt t2 2 addr) 0).mem t2=[]then prn ((((u.uses t1 0).put (entryAt t2 2 addr) 0).uses t2 0).put (entryAt t3 3 addr) 0) [(t3,entryAt root 4 addr)]else(u.uses t1 0).put (entryAt t2 2 addr) 0
  have es:(u.put (entryAt t2 2 addr) 0).uses t1 0=(u.uses t1 0).put (entryAt t2 2 addr) 0:=rfl
  rw[es]
  have w1:WF ((u.uses t1 0).put (entryAt t2 2 addr) 0):=(hw.uses _ _).put _ _
  have q3:load ((u.uses t1 0).put (entryAt t2 2 addr) 0).mem (entryAt t3 3 addr)≠0:=by
   show load (store u.mem _ _) _≠0
   rw[load_store hw.m _ _ _ l2,if_neg (by omega)]
   exact n3
  by_cases c2:fill ((u.uses t1 0).put (entryAt t2 2 addr) 0).mem t2=[]
  ·rw[if_pos c2,if_pos c2]
   rfl
  ·rw[if_neg c2,if_neg c2,if_neg (not_empty f3.1 f3.2 q3)]
 ·rw[if_neg c1,if_neg c1,if_neg (not_empty f2.1 f2.2 n2),if_neg (not_empty f3.1 f3.2 n3)]
theorem Path.back {s:St} {root addr t3 t2 t1 f:Nat} (hw:WF s) (P:Path s root addr t3 t2 t1) (h:t1<256) (d:root≠t1∧t3≠t1∧t2≠t1):Path ((s.put (entryAt t1 1 addr) 0).less f) root addr t3 t2 t1:=by
 have f4:=entryAt_frame (t:=root) (level:=4) (addr:=addr)
 have f3:=entryAt_frame (t:=t3) (level:=3) (addr:=addr)
 have f2:=entryAt_frame (t:=t2) (level:=2) (addr:=addr)
 have f1:=entryAt_frame (t:=t1) (level:=1) (addr:=addr)
 have ld:∀b,b / 4096≠t1→load ((s.put (entryAt t1 1 addr) 0).less f).mem b=load s.mem b:=fun b hb=>by
  show load (store s.mem _ _) b=_
  rw[load_store hw.m _ _ _ (entryAt_lt h),if_neg (by omega)]
 have q4:=ld (entryAt root 4 addr) (by omega)
 have q3:=ld (entryAt t3 3 addr) (by omega)
 have q2:=ld (entryAt t2 2 addr) (by omega)
 obtain⟨a,b,c,x,y,z⟩:=P
 refine⟨?_,?_,?_,?_,?_,?_⟩
 ·unfold present at *;rw[q4];exact a
 ·unfold present at *;rw[q3];exact b
 ·unfold present at *;rw[q2];exact c
 ·unfold leads at *;rw[q4];exact x
 ·unfold leads at *;rw[q3];exact y
 ·unfold leads at *;rw[q2];exact z
end M
namespace M
open Sd19
def Cnt (s:St):Prop:=∀f,s.used f≤65535
theorem Cnt.uses {s:St} (h:Cnt s) (f n:Nat) (hn:n≤65535):Cnt (s.uses f n):=fun g=>by
 unfold St.used St.uses
 show(s.count.setIfInBounds f n).getD g 0≤_
 rw[getD_set]
 split
 ·exact hn
 ·exact h g
theorem Cnt.put {s:St} (h:Cnt s) (a x:Nat):Cnt (s.put a x):=h
theorem Cnt.less {s:St} (h:Cnt s) (f:Nat):Cnt (s.less f):=h.uses _ _ (by have:=h f;omega)
theorem Cnt.mem {s:St} (h:Cnt s) (m:Mem):Cnt { s with mem:=m }:=h
theorem Cnt.take {s:St} (h:Cnt s) {x:Nat×St} (e:s.take=some x):Cnt x.2:=by
  unfold St.take at e
  cases q:s.free with
  | none=>rw[q]at e;cases e
  | some f =>
    rw[q,Option.map_some]at e
    cases e
    exact(h.mem _).uses _ _ (by decide)
theorem Cnt.make (addr:Nat):∀(l t:Nat) {s:St} {y:Nat×St},Cnt s→make addr l t s=some y→Cnt y.2
  | 0,_,_,_,_,e=>by simp[Sd19.make]at e
  | 1,t,s,y,h,e=>by
    have:(entryAt t 1 addr,s)=y:=Option.some.inj e
    rw[←this]
    exact h
  | l + 2, t, s, y, h, e => by
    have u:Sd19.make addr (l+2) t s=if present s (entryAt t (l+2) addr)=true then Sd19.make addr (l+1) (leads s (entryAt t (l+2) addr)) s else match s.take with
      | none=>none
      | some x=>Sd19.make addr (l+1) x.1 (x.2.put (entryAt t (l+2) addr) (4096 * x.1+7)):=rfl
    rw[u]at e
    split at e
    · exact Cnt.make addr (l+1) _ h e
    · cases q:s.take with
      | none=>rw[q]at e;cases e
      | some x =>
        rw[q]at e
        exact Cnt.make addr (l+1) _ ((h.take q).put _ _) e
theorem Cnt.fold {g:St→Nat→Option St} (hg:∀u a v,Cnt u→g u a=some v→Cnt v):∀(as:List Nat) {s v:St},Cnt s→as.foldlM g s=some v→Cnt v
  | [],s,v,h,e=>by
    have:s=v:=Option.some.inj e
    rw[←this];exact h
  | a :: as, s, v, h, e => by
    rw[List.foldlM_cons]at e
    cases q:g s a with
    | none=>rw[q]at e;cases e
    | some u =>
      rw[q]at e
      exact Cnt.fold hg as (hg s a u h q) e
theorem Cnt.copy:∀(l t:Nat) {s:St} {x:Nat×St},Cnt s→copy l t s=some x→Cnt x.2
  | 0,_,_,_,_,e=>by simp[Sd19.copy]at e
  | l + 1, t, s, x, h, e => by
    rw[copy_succ]at e
    cases q:s.take with
    | none=>rw[q]at e;cases e
    | some y =>
      rw[q]at e
      simp only at e
      cases z:(entries s t).foldlM (stepC l y.1) y.2 with
      | none=>rw[z]at e;cases e
      | some v =>
        rw[z]at e
        have e':(y.1,v)=x:=Option.some.inj e
        rw[←e']
        refine Cnt.fold (fun u a w hu hs=>?_) (entries s t) (h.take q) z
        unfold stepC at hs
        simp only at hs
        split at hs
        · split at hs
          · cases hs
          · rename_i hlt
            have:=Option.some.inj hs
            rw[←this]
            exact((hu.put _ _).put _ _).uses _ _ (by omega)
        · cases c:Sd19.copy l (base (load u.mem a) / 4096) u with
          | none=>rw[c]at hs;cases hs
          | some r =>
            rw[c]at hs
            have:=Option.some.inj hs
            rw[←this]
            exact(Cnt.copy l _ hu c).put _ _
theorem Cnt.prune (addr:Nat):∀(l t:Nat) {s:St},Cnt s→Cnt (prune addr l t s)
  | 0,_,_,h=>h
  | 1,_,_,h=>h
  | l + 2, t, s, h => by
    have u:Sd19.prune addr (l+2) t s=if present s (entryAt t (l+2) addr)=false then s else
      if emptyTable (Sd19.prune addr (l+1) (leads s (entryAt t (l+2) addr)) s) (leads s (entryAt t (l+2) addr))=true then((Sd19.prune addr (l+1) (leads s (entryAt t (l+2) addr)) s).put (entryAt t (l+2) addr) 0).uses (leads s (entryAt t (l+2) addr)) 0 else Sd19.prune addr (l+1) (leads s (entryAt t (l+2) addr)) s:=rfl
    rw[u]
    split
    · exact h
    · have ih:=Cnt.prune addr (l+1) (leads s (entryAt t (l+2) addr)) h
      split
      · exact(ih.put _ _).uses _ _ (by decide)
      · exact ih
theorem Cnt.step {s : St} (hw : WF s) (h : Cnt s) (c : Call) : Cnt (step s c).1 := by
  cases c with
  | look c addr kind =>
    unfold Sd19.step
    simp only
    split
    · exact h
    · split<;>exact h
  | read c addr n =>
    unfold Sd19.step
    simp only
    split
    · exact h
    · exact h
  | write c addr n b =>
    unfold Sd19.step
    simp only
    split
    · exact h
    · exact h
  | new =>
    unfold Sd19.step
    simp only
    split
    · exact h
    · rename_i q
      exact h.take q
  | give r addr flags =>
    unfold Sd19.step
    simp only
    split
    · exact h
    · split
      · exact h
      · split
        · exact h
        · rename_i y q
          split
          · exact h
          · rename_i x q2
            exact(Cnt.take (Cnt.make addr 4 r h q) q2).put _ _
  | share r addr f flags =>
    unfold Sd19.step
    simp only
    split
    · exact h
    · rename_i hc
      split
      · exact h
      · split
        · exact h
        · rename_i y q
          have m:=Cnt.make addr 4 r h q
          refine(m.put _ _).uses _ _ ?_
          have hu:s.used f≠0∧s.used f<65535:=by
            constructor
            · intro e;exact hc (.inr (.inr (.inr (.inl e))))
            · apply Decidable.byContradiction
              intro e
              exact hc (.inr (.inr (.inr (.inr (by omega)))))
          have keep : ∀ (l t : Nat) (s : St) (y : Nat × St), WF s → s.used f ≠ 0 → Sd19.make addr l t s = some y → y.2.used f = s.used f := by
            intro l
            induction l with
            | zero=>intro t s y _ _ e;simp[Sd19.make]at e
            | succ l ih =>
              intro t s y w hu e
              cases l with
              | zero =>
                have:(entryAt t 1 addr,s)=y:=Option.some.inj e
                rw[←this]
              | succ l =>
                have u:Sd19.make addr (l+2) t s=if present s (entryAt t (l+2) addr)=true then Sd19.make addr (l+1) (leads s (entryAt t (l+2) addr)) s else match s.take with
                  | none=>none
                  | some x=>Sd19.make addr (l+1) x.1 (x.2.put (entryAt t (l+2) addr) (4096 * x.1+7)):=rfl
                rw[u]at e
                split at e
                · exact ih _ _ _ w hu e
                · by_cases z:freeN s=0
                  · rw[take_none w z]at e;cases e
                  · obtain⟨g,s1,T⟩:=take_some w z
                    rw[T.eq]at e
                    have ne:¬g=f:=fun q=>hu (by rw[←q];exact T.zero)
                    have e1:(s1.put (entryAt t (l+2) addr) (4096 * g+7)).used f=s.used f:=by
                      rw[used_put,T.used,if_neg ne]
                    rw[ih _ _ _ (T.wf.put _ _) (by rw[e1];exact hu) e,e1]
          rw[keep 4 r s y hw hu.1 q]
          omega
  | takeBack r addr =>
    unfold Sd19.step
    simp only
    split
    · exact h
    · split
      · exact h
      · split
        · exact h
        · exact Cnt.prune addr 4 r ((h.put _ _).less _)
  | copy r =>
    unfold Sd19.step
    simp only
    split
    · exact h
    · rename_i q
      exact Cnt.copy 4 r h q
  | touch r addr =>
    unfold Sd19.step
    simp only
    split
    · exact h
    · unfold touched
      split
      · exact h
      · simp only
        split
        · exact h
        · split
          · exact h
          · split
            · exact h
            · exact(((h.mem _).uses _ _ (by decide)).less _).put _ _
  | drop r =>
    have d:=drop_drp 4 r s hw
    intro g
    show(Sd19.drop 4 r s).used g≤_
    rw[d.used]
    have:=h g
    split<;>omega
end M
namespace M
open Sd19
def findL:Out→Nat→List Nat
 | .at_ a z _,addr=>if 1048576≤a then [2,a,addr]else [0,a,z]
 | .fault k,addr=>[1,k,addr]
 | .beyond a,addr=>[2,a,addr]
 | .none_,addr=>[3,0,addr]
theorem find_at (a z:Nat) (P:List Nat) (addr:Nat):findL (.at_ a z P) addr=if 1048576≤a then [2,a,addr]else [0,a,z]:=rfl
def Hit (o:Out) (a z:Nat) (P:List Nat):Prop:=o=.at_ a z P∧a<1048576
theorem hit_or (o:Out) (addr:Nat):(∃a z P,Hit o a z P∧findL o addr=[0,a,z])∨((∀a z P,o=.at_ a z P→1048576≤a)∧∃x y,findL o addr=[x,y,addr]∧x≠0∧(why o).1=x∧(why o).2=y):=by
  cases o with
  | at_ a z P =>
    by_cases h:1048576≤a
    · right
      refine⟨fun a' z' P' e=>?_,2,a,?_,by decide,rfl,rfl⟩
      · injection e with e1;omega
      · rw[find_at,if_pos h]
    · left
      exact⟨a,z,P,⟨rfl,by omega⟩,by rw[find_at,if_neg h]⟩
  | fault k=>exact .inr ⟨(fun _ _ _ e=>nomatch e),1,k,rfl,by decide,rfl,rfl⟩
  | beyond a=>exact .inr ⟨(fun _ _ _ e=>nomatch e),2,a,rfl,by decide,rfl,rfl⟩
  | none_=>exact .inr ⟨(fun _ _ _ e=>nomatch e),3,0,rfl,by decide,rfl,rfl⟩
theorem read_turn {m:Mem} {c:Cpu} {at_ a z n':Nat} {P got:List Nat} (hm:MOk m) (h64:at_<2 ^ 64) (hl:look m c at_ 0=.at_ a z P) (ha:a<1048576) (hn:0<n') (run:Nat) (hr:run=min n' (min (z - at_ % z) (1048576 - a))) :
  1≤run∧run≤n'∧a+run≤1048576∧move c 0 (List.replicate n' 0) at_ m got=move c 0 (List.replicate (n' - run) 0) ((at_+run) % 2 ^ 64) (mk m P) (((List.range run).map fun i=>byteAt (mk m P) (a+i)).reverse++got):=by
 obtain⟨⟨l,hl4,ez,b,eb⟩,q,b2,hP,hp⟩:=look_path hl
 have zp:0<z:=by rw[ez];exact Nat.two_pow_pos _
 have hz:at_ % z<z:=Nat.mod_lt _ zp
 have hp':∀p∈P,p<1048576:=fun p h=>(hp p h).1
 have nr:=near_mk hm hp'
 have hl2:=look_same (addr':=at_) nr hl rfl
 have ea:a - at_ % z+at_ % z=a:=by omega
 rw[ea]at hl2
 have idem:=mk_mk hm hp'
 have r1:1≤run:=by omega
 have r2:run≤n':=by omega
 have r3:a+run≤1048576:=by omega
 refine⟨r1,r2,r3,?_⟩
 have e1:move c 0 (List.replicate n' 0) at_ m got=move c 0 (List.replicate n' 0) at_ (mk m P) got:=by
  obtain⟨k,hk⟩:∃k,n'=k+1:=⟨n' - 1,by omega⟩
  rw[hk,List.replicate_succ,move_at hl ha,move_at hl2 ha,if_neg (by decide),if_neg (by decide),mark_read _ _ 0 (by decide),mark_read _ _ 0 (by decide),idem]
 rw[e1]
 have e2:=move_run (c:=c) (z:=z) (P:=P) (mk_ok hm) run (n' - run) at_ a got h64 idem hl2 (by omega) r3
 rw[show run+(n' - run)=n' by omega]at e2
 exact e2
theorem mod_add (x d r:Nat):((x+d) % 2 ^ 64+r) % 2 ^ 64=(x+(d+r)) % 2 ^ 64:=by omega
end M
namespace M
open Sd19
def Num (y:St×Ans):Prop:=y.2.told=[]∧y.2.out=[]
theorem num_no (s:St) (v:Int):Num (s,no v):=⟨rfl,rfl⟩
theorem num_new (s:St):Num (step s .new):=by
 show Num (match s.take with|none=>(s,no (-2))|some x=>(x.2,no (x.1:Int)))
 split<;>exact num_no _ _
theorem num_give (s:St) (r a f:Nat):Num (step s (.give r a f)):=by
 unfold step
 simp only
 split
 ·exact num_no _ _
 ·split
  ·exact num_no _ _
  ·split
   ·exact num_no _ _
   ·split<;>exact num_no _ _
theorem num_share (s:St) (r a f g:Nat):Num (step s (.share r a f g)):=by
 unfold step
 simp only
 split
 ·exact num_no _ _
 ·split
  ·exact num_no _ _
  ·split<;>exact num_no _ _
theorem num_back (s:St) (r a:Nat):Num (step s (.takeBack r a)):=by
 unfold step
 simp only
 split
 ·exact num_no _ _
 ·split
  ·exact num_no _ _
  ·split<;>exact num_no _ _
theorem num_copy (s:St) (r:Nat):Num (step s (.copy r)):=by
 unfold step
 simp only
 split<;>exact num_no _ _
theorem num_touch (s:St) (r a:Nat):Num (step s (.touch r a)):=by
  unfold step
  simp only
  split
  · exact num_no _ _
  · unfold touched
    split
    · exact num_no _ _
    · simp only
      split
      · exact num_no _ _
      · split
        · exact num_no _ _
        · split<;>exact num_no _ _
theorem num_drop (s:St) (r:Nat):Num (step s (.drop r)):=num_no _ _
theorem nl {α:Type} {a:List α} (h:a.length=0):a=[]:=List.length_eq_zero_iff.mp h
theorem un {α:Type} {n:Nat}:∀{a:List α},a.length=n+1→∃x r,a=x::r∧r.length=n
 | x::r,h=>⟨x,r,rfl,Nat.succ.inj h⟩
theorem un1 {α:Type} {a:List α} (h:a.length=1):∃x,a=[x]:=by
 obtain⟨x,r,e,h⟩:=un h
 exact⟨x,by rw[e,nl h]⟩
theorem un2 {α:Type} {a:List α} (h:a.length=2):∃x y,a=[x,y]:=by
 obtain⟨x,r,e,h⟩:=un h
 obtain⟨y,e2⟩:=un1 h
 exact⟨x,y,by rw[e,e2]⟩
theorem un3 {α:Type} {a:List α} (h:a.length=3):∃x y z,a=[x,y,z]:=by
 obtain⟨x,r,e,h⟩:=un h
 obtain⟨y,z,e2⟩:=un2 h
 exact⟨x,y,z,by rw[e,e2]⟩
theorem un4 {α:Type} {a:List α} (h:a.length=4):∃v x y z,a=[v,x,y,z]:=by
 obtain⟨x,r,e,h⟩:=un h
 obtain⟨y,z,v,e2⟩:=un3 h
 exact⟨x,y,z,v,by rw[e,e2]⟩
theorem un5 {α:Type} {a:List α} (h:a.length=5):∃v w x y z,a=[v,w,x,y,z]:=by
 obtain⟨x,r,e,h⟩:=un h
 obtain⟨y,z,v,w,e2⟩:=un4 h
 exact⟨x,y,z,v,w,by rw[e,e2]⟩
theorem sh {n k n' k':Nat} (h:some (n,k)=some (n',k')):n'=n∧k'=k:=by
 injection h with h
 injection h with h1 h2
 exact⟨h1.symm,h2.symm⟩
theorem call_cases {P:List (List Int)→Prop} {c:List (List Int)} (h:PyFlat.okCall PySd19.shape c) (p0:∀r,P [[0],r]) (p1:∀a b c x k,P [[1,a,b,c,x,k]]) (p2:∀a b c x k,P [[2,a,b,c,x,k]]) (p3:∀a b c x k l,P [[3,a,b,c,x,k],l]) (p4:P [[4]]) (p5:∀a b c,P [[5,a,b,c]]) (p6:∀a b c d,P [[6,a,b,c,d]]) (p7:∀a b,P [[7,a,b]]) (p8:∀a,P [[8,a]]) (p9:∀a b,P [[9,a,b]]) (p10:∀a,P [[10,a]]) (p11:∀r l,P [[11],r,l]):P c:=by
 obtain⟨p,a,xs,rfl,h⟩:=h
 unfold PySd19.shape at h
 by_cases e:p=0
 ·subst e
  rw[if_pos rfl]at h
  obtain⟨x,e⟩:=un1 (sh h).2
  rw[nl (sh h).1,e]
  exact p0 _
 rw[if_neg e]at h
 by_cases e:p=1
 ·subst e
  rw[if_pos rfl]at h
  obtain⟨_,_,_,_,_,e⟩:=un5 (sh h).1
  rw[nl (sh h).2,e]
  exact p1 _ _ _ _ _
 rw[if_neg e]at h
 by_cases e:p=2
 ·subst e
  rw[if_pos rfl]at h
  obtain⟨_,_,_,_,_,e⟩:=un5 (sh h).1
  rw[nl (sh h).2,e]
  exact p2 _ _ _ _ _
 rw[if_neg e]at h
 by_cases e:p=3
 ·subst e
  rw[if_pos rfl]at h
  obtain⟨_,_,_,_,_,e⟩:=un5 (sh h).1
  obtain⟨_,e2⟩:=un1 (sh h).2
  rw[e2,e]
  exact p3 _ _ _ _ _ _
 rw[if_neg e]at h
 by_cases e:p=4
 ·subst e
  rw[if_pos rfl]at h
  rw[nl (sh h).2,nl (sh h).1]
  exact p4
 rw[if_neg e]at h
 by_cases e:p=5
 ·subst e
  rw[if_pos rfl]at h
  obtain⟨_,_,_,e⟩:=un3 (sh h).1
  rw[nl (sh h).2,e]
  exact p5 _ _ _
 rw[if_neg e]at h
 by_cases e:p=6
 ·subst e
  rw[if_pos rfl]at h
  obtain⟨_,_,_,_,e⟩:=un4 (sh h).1
  rw[nl (sh h).2,e]
  exact p6 _ _ _ _
 rw[if_neg e]at h
 by_cases e:p=7
 ·subst e
  rw[if_pos rfl]at h
  obtain⟨_,_,e⟩:=un2 (sh h).1
  rw[nl (sh h).2,e]
  exact p7 _ _
 rw[if_neg e]at h
 by_cases e:p=8
 ·subst e
  rw[if_pos rfl]at h
  obtain⟨_,e⟩:=un1 (sh h).1
  rw[nl (sh h).2,e]
  exact p8 _
 rw[if_neg e]at h
 by_cases e:p=9
 ·subst e
  rw[if_pos rfl]at h
  obtain⟨_,_,e⟩:=un2 (sh h).1
  rw[nl (sh h).2,e]
  exact p9 _ _
 rw[if_neg e]at h
 by_cases e:p=10
 ·subst e
  rw[if_pos rfl]at h
  obtain⟨_,e⟩:=un1 (sh h).1
  rw[nl (sh h).2,e]
  exact p10 _
 rw[if_neg e]at h
 by_cases e:p=11
 ·subst e
  rw[if_pos rfl]at h
  obtain⟨_,_,e⟩:=un2 (sh h).2
  rw[nl (sh h).1,e]
  exact p11 _ _
 rw[if_neg e]at h
 cases h
theorem whole_ok {c:List (List Int)} (h:PyFlat.okCall PySd19.shape c):PySd19.whole c=c :=
 call_cases (P:=fun c=>PySd19.whole c=c) h (fun _=>rfl) (fun _ _ _ _ _=>rfl) (fun _ _ _ _ _=>rfl) (fun _ _ _ _ _ _=>rfl) rfl (fun _ _ _=>rfl) (fun _ _ _ _=>rfl) (fun _ _=>rfl) (fun _=>rfl) (fun _ _=>rfl) (fun _=>rfl) (fun _ _=>rfl)
theorem map_whole {cs:List (List (List Int))} (h:∀c∈cs,PyFlat.okCall PySd19.shape c):cs.map PySd19.whole=cs:=by
 induction cs with
 | nil=>rfl
 | cons c r ih=>rw[List.map_cons,whole_ok (h c List.mem_cons_self),ih fun d hd=>h d (List.mem_cons_of_mem _ hd)]
theorem asked_of {l:List Int} (h:PySd19.answers_asked l=true):∃cs,l=PyFlat.put cs∧(∀c∈cs,PyFlat.okCall PySd19.shape c)∧cs.length≤402∧Sd19Neutral.asked cs=true ∧
    PySd19.answers l=PyFlat.told (PyFlat.played Sd19Neutral.step Sd19Neutral.start cs):=by
  unfold PySd19.answers_asked at h
  cases e:PyFlat.calls PySd19.shape l.length l with
  | none =>
    have e2:PySd19.calls l=none:=by unfold PySd19.calls;rw[e]
    rw[e2]at h
    cases h
  | some cs =>
    obtain⟨p1,p2⟩:=PyFlat.put_calls _ _ _ e
    have e2:PySd19.calls l=some cs:=by
      unfold PySd19.calls
      rw[e]
      simp only
      rw[map_whole p2]
    rw[e2]at h
    simp only[Bool.and_eq_true]at h
    refine⟨cs,p1,p2,of_decide_eq_true h.1,h.2,?_⟩
    unfold PySd19.answers
    rw[e2]
end M
namespace L2
open PySem PySem.Spec PyProof.Rows
section
variable {X:Cx}
def CDivW (_ j:Int):Prop:=0<j∧j<2 ^ 64
theorem log2_small {y:Int} (h1:0<y) (h2:y<2 ^ 64):y.natAbs.log2<9000:=by
 have h3:y.natAbs≠0:=by omega
 have h4:y.natAbs<2 ^ 64:=by omega
 have h5:y.natAbs.log2<64:=(Nat.log2_lt h3).mpr h4
 omega
theorem op_fdivW:OpR X (binaryOp .FloorDiv) (rI CDivW fun i j=>.int (i / j)):=opI fun i j _ _ _ _ _ hc q=>by
 have h1:(0:Int)<j:=hc.1
 have h2:j<2 ^ 64:=hc.2
 exact floordiv_int (by omega) (by rw[Int.fdiv_eq_ediv_of_nonneg i (by omega)];exact q) (.inl (PyProof.noPylong_of_log2 (log2_small h1 h2)))
def rCountL (K:PySem.W.Frag):V→List V→Hp→VK→Prop:=fun x xs H Q=>∃(a:Addr) (ys:List V) (y:V),x=V.ref a∧xs=[y]∧SqL K H a ys∧flatV y=true∧ys.all flatV=true∧Q (.int (ys.countP fun z=>eqV z y:Nat)) H
theorem count_eqU {x:V}:∀{xs:List V} {us:List Value},Vals xs us→xs.all flatV=true→us.countP (eqU x)=xs.countP fun y=>eqV y x
  | _,_,.nil,_=>rfl
  | _,_,.cons r t,f=>by
    rw[List.all_cons,Bool.and_eq_true]at f
    rw[List.countP_cons,List.countP_cons,count_eqU t f.2,eqU_of r f.1]
theorem mt_countL:MtR X "list.count" (rCountL X.K):=by
  intro pins s σ H x xs v us Q I rx rxs h
  obtain⟨a,ys,y,rfl,rfl,hs,fy,fys,q⟩:=h
  cases rx
  cases rxs with
  | cons ry rt =>
    rename_i uy ut
    cases rt
    obtain⟨its,rv,⟨⟨cls,dd,data,sl⟩,n,ho,hc,hdn,hd⟩,hlen⟩:=I.list hs
    simp only at hc hd
    subst hc hd
    refine call_meets PySem.F.slot_list_count ⟨_,ho,rfl⟩ PySem.F.entry_list_count (PySem.F.args_list_count_2 _ _)
      (SeqAt.list_countAt a its.toArray n dd sl uy (eqU y)) ⟨ho,fun u' hu'=>mem_eqAt ry fy rv fys u' (by simpa using hu'),?_⟩
    have e:its.toArray.toList.countP (eqU y)=ys.countP fun z=>eqV z y:=by
      rw[show its.toArray.toList=its by simp,count_eqU rv fys]
    exact⟨.int (ys.countP fun z=>eqV z y:Nat),H,I.tok _,⟨s.toks,by rw[e]⟩,q⟩
def DictK (K:PySem.W.Frag) (a:Addr) (kvs:List (Int×Int)):Prop :=
  (a==sysModules)=false∧∃(o:Obj) (es:List DictEntry) (ep:Nat),K.lookup a=some o∧o.ExactDict∧o.data=.dict es.toArray ep ∧
    Paired (fun(p:Int×Int) (e:DictEntry)=>∃t u,e.key=.int p.1 t∧e.val=.int p.2 u∧e.hash=hashInt p.1) kvs es∧(kvs.map (·.1)).Nodup
def lookK (kvs:List (Int×Int)) (k:Int) (d:Int):Int:=((kvs.find? fun p=>p.1=k).map (·.2)).getD d
theorem dictK_map {P:Program} {w:World} {K:PySem.W.Frag} {a:Addr} {kvs:List (Int×Int)} {h:Heap} (D:DictK K a kvs) (KX:K.In h) :
    ∃vs:List (Int×Value),h.DictOf (intKind P w) a vs∧∀k (d:Int) (u:Value),RelV (.int d) u→RelV (.int (lookK kvs k d)) ((PySem.valueAt vs k).getD u):=by
  obtain⟨_,o,es,ep,hk,ex,hd,pr,nd⟩:=D
  have key:∀(kvs:List (Int×Int)) (es:List DictEntry),Paired (fun(p:Int×Int) (e:DictEntry)=>∃t u,e.key=.int p.1 t∧e.val=.int p.2 u∧e.hash=hashInt p.1) kvs es →
      ∃ vs : List (Int × Value), vs.map (·.1) = kvs.map (·.1) ∧ PySem.Pairs (intKind P w) es vs ∧ (∀ e ∈ es, ∃ k, (intKind P w).is k e.key = true ∧ e.hash = (intKind P w).hash k) ∧
        ∀k (d:Int) (u:Value),RelV (.int d) u→RelV (.int (lookK kvs k d)) ((PySem.valueAt vs k).getD u):=by
    intro kvs es pr
    induction pr with
    | nil=>exact⟨[],rfl,.nil,fun e he=>(by cases he),fun k d u r=>r⟩
    | @cons p e l1 l2 r t ih =>
      obtain⟨vs,h1,h2,h3,h4⟩:=ih
      obtain⟨tk,uk,e1,e2,e3⟩:=r
      refine⟨(p.1,e.val)::vs,by simp[h1],.cons (by rw[e1];exact PySem.intKind_is P w p.1 tk) rfl h2,fun e' he=>?_,fun k d u r=>?_⟩
      · rcases List.mem_cons.mp he with q|q
        · rw[q]
          exact⟨p.1,by rw[e1];exact PySem.intKind_is P w p.1 tk,e3⟩
        · exact h3 e' q
      · unfold lookK PySem.valueAt
        by_cases hk:p.1=k
        · rw[List.find?_cons_of_pos (by simpa using hk),List.find?_cons_of_pos (by simpa using hk)]
          exact⟨uk,e2⟩
        · rw[List.find?_cons_of_neg (by simpa using hk),List.find?_cons_of_neg (by simpa using hk)]
          exact h4 k d u r
  obtain⟨vs,h1,h2,h3,h4⟩:=key kvs es pr
  refine⟨vs,⟨o,es.toArray,ep,KX a o hk,ex,hd,fun e he=>h3 e (by simpa using he),by simpa using h2,by rw[h1];exact nd⟩,h4⟩
def tDGetK (K:PySem.W.Frag) (td ty tx:TE):TE:=fun σ H Q=>td σ H fun x H1=>∃a kvs,x=.ref a∧DictK K a kvs∧ty σ H1 fun y H2=>tx σ H2 fun z H3=>∃i j,y=.int i∧z=.int j∧Q (.int (lookK kvs i j)) H3
theorem pe_dgetK {o e f:Expr} {apos cpos:Pos} {td ty tx:TE} (ho:PE X o td) (he:PE X e ty) (hf:PE X f tx) (m:M2 X o "get" apos e f cpos):PE X (.Call (.Attribute o "get" apos) [e,f] [] cpos) (tDGetK X.K td ty tx):=by
 intro pins s σ H Q I h
 refine wpAny_Call_method m.base m.few m.line PySem.F.plainAttrs_dict PySem.F.slot_dict_get PySem.F.type_dict_get (thn (ho pins s σ H _ I h) fun u s1 ⟨x,H1,I1,rx,a,kvs,ex,D,q1⟩=>?_)
 subst ex
 obtain rfl:u=Value.ref a:=rx
 obtain⟨vs,dd,_⟩:=dictK_map (P:=X.prog) (w:=X.w) D I1.kIn
 refine⟨dd.typeIs,dd.mapOf.noDict,?_⟩
 rw[m.trees]
 refine Calls.callWith_builtin rfl (Calls.evalArgs_plain (Calls.spliced_cons (thn (he pins s1 σ H1 _ I1 q1) fun iv s2 ⟨y,H2,I2,ry,q2⟩ =>
  Calls.spliced_cons (thn (hf pins s2 σ H2 _ I2 q2) fun fv s3 ⟨z,H3,I3,rz,i,j,ey,ez,q3⟩=>Calls.spliced_nil ?_))))
 subst ey ez
 obtain⟨t,rfl⟩:=ry
 obtain⟨vs',dd',rel'⟩:=dictK_map (P:=X.prog) (w:=X.w) D I3.kIn
 exact call_meetsIn PySem.F.slot_dict_get dd'.typeIs PySem.F.entry_dict_get (PySem.F.args_dict_get_3 _ _ _) (meets_dict_get_default (intKind X.prog X.w) a (PySem.intKind_is _ _ i t) D.1 fv) ⟨_,dd'.mapOf,_,H3,I3.tok _,rel' i j fv rz,q3⟩
theorem pe_globI {x:Str} {i:Int} {t:Tok} {pos:Pos} (hg:Gl X x) (hm:X.mg x=some (.int i t)) (hd:(x==("__debug__" : Str))=false:=by decide):PE X (.Name x pos) (tC (.int i)):=pe_glob hg hm ⟨_,rfl⟩ hd
theorem pe_globR {x:Str} {a:Addr} {pos:Pos} (hg:Gl X x) (hm:X.mg x=some (.ref a)) (hd:(x==("__debug__" : Str))=false:=by decide):PE X (.Name x pos) (tC (.ref a)):=pe_glob hg hm rfl hd
def rSortedAny (K:PySem.W.Frag):List V→Hp→VK→Prop:=fun vs H Q=>∃(a:Addr) (ns:List Int),vs=[V.ref a]∧SqL K H a (ns.map V.int) ∧
 ∀(ns':List Int) (p:Addr),ns'.Perm ns→ns'.Pairwise (· ≤ ·)→H p=none→Q (.ref p) (upd H p (.lst (ns'.map V.int)))
theorem cr_sortedAny:CallR X (.builtin "sorted") (rSortedAny X.K):=by
 intro pins s σ H vs us Q I r h
 obtain⟨a,ns,rfl,hs,q⟩:=h
 obtain⟨its,rv,hl,hz⟩:=I.list hs
 rw[Vals.ref1 r]
 have hi:=rv.ints
 rw[List.length_map]at hz
 refine PyProof.Rows.sorted_intsAny hl.isList hi (by rw[hi.length];exact hz) fun out ns' h1 h2 h3=>?_
 obtain⟨ep,he'⟩:=PyProof.Rows.sortedAll_at s.heap its out
 have hlen:(ns'.map V.int).length≤sizeLine:=by rw[List.length_map,h2.length_eq];exact hz
 exact⟨.ref _,upd H (s.heap.objs.size+1) (.lst (ns'.map V.int)),I.laid (t':=s.toks) (fun _ _=>PyProof.Rows.sortedAll_old) (Nat.le_succ _) ⟨hlen,out.toList,ep,vals_of_ints h1,he'⟩,rfl,q ns' _ h2 h3 (I.hok.fresh (Nat.le_succ _))⟩
theorem call_dictD:CallR X (.type "dict") (fun xs H Q=>∃a kvs,xs=[V.ref a]∧H a=some (.dK kvs)∧∀p,H p=none→Q (.ref p) (upd H p (.dK kvs))):=by
 intro pins s σ H xs us Q I r h
 obtain⟨a,kvs,rfl,ha,q⟩:=h
 obtain⟨u,rfl,ru⟩:=vals1 r
 cases ru
 exact d_copyOf I (.inl ha) fun p s' hp I'=>⟨.ref p,_,I',rfl,q p hp⟩
def rGetL (K:PySem.W.Frag):V→V→Hp→VK→Prop:=fun o i H Q=>∃(p:Addr) (xs:List V) (k:Nat) (z:V),o=.ref p∧i=.int (k:Int)∧SqL K H p xs∧xs[k]? = some z∧Q z H
theorem get_list:PGet X (rGetL X.K):=by
 intro pins s σ H o i ov iv Q I ro ri h
 obtain⟨p,xs,k,z,rfl,rfl,hq,he,q⟩:=h
 cases ro
 obtain⟨t,rfl⟩:=ri
 obtain⟨its,r,pl,hz⟩:=I.list hq
 obtain⟨w,ew,rw'⟩:=r.get he
 have hl:=r.length
 have hk:k<its.length:=(List.getElem?_eq_some_iff.mp ew).1
 have hn:=line63
 exact wpAny_getItem_list pl.isList (by omega) (by omega) (by rw[Int.toNat_natCast];simpa using ew) ⟨z,H,I,rw',q⟩
theorem pg_two {K:PySem.W.Frag} {i j k:Nat} {x y:Str} {px py pos:Pos} (hN:X.N.Nodup) (hi:X.N[i]? = some x) (hj:X.N[j]? = some y) (hx:Loc X.env.scope x) (hy:Loc X.env.scope y) (hc:X.calm=true) (hK:X.K=K)
  (hf:X.fn x=true∨X.env.scope.names.lookup x=some .local:=by first|exact .inl rfl|exact .inr rfl|assumption) (hf2:X.fn y=true∨X.env.scope.names.lookup y=some .local:=by first|exact .inl rfl|exact .inr rfl|assumption) :
  PG X (.Tuple [.Name x px,.Name y py] k pos) (gTup K 2 (gCons (gName i) (gCons (gName j) gNil))):=by
 subst hK
 exact pg_tup hc (pgs_cons (pg_name hN hi hx hf) (pgs_cons (pg_name hN hj hy hf2) pgs_nil))
end
theorem bAnd (a b:Nat):Builtin.bitAnd (a:Int) (b:Int)=((a &&& b:Nat):Int):=by
 rw[bitAnd_pp (by omega) (by omega)];simp
end L2
namespace G
open PySem PySem.Spec PyProof.Rows L2
def top (i:Nat):Stmt:=PySem.Challenge.pw_pagedmemory_s01_answers.main.body.getD i (.Pass ⟨0,0,0,0⟩)
abbrev s_Memory_init:Stmt:=inClass (top 11) 0
abbrev s_word_at:Stmt:=inClass (top 11) 1
abbrev s_put_word:Stmt:=inClass (top 11) 2
abbrev s_octet_at:Stmt:=inClass (top 11) 3
abbrev s_put_octet:Stmt:=inClass (top 11) 4
abbrev s_octets_from:Stmt:=inClass (top 11) 5
abbrev s_filled_places:Stmt:=inClass (top 11) 6
abbrev s_copy_words:Stmt:=inClass (top 11) 7
abbrev s_free_frame_count:Stmt:=inClass (top 11) 8
abbrev s_take_frame:Stmt:=inClass (top 11) 9
abbrev s_use_once_more:Stmt:=inClass (top 11) 10
abbrev s_use_once_less:Stmt:=inClass (top 11) 11
abbrev s_set_free:Stmt:=inClass (top 11) 12
abbrev s_octet_shift:Stmt:=top 12
abbrev s_is_none:Stmt:=top 24
abbrev s_is_of_page:Stmt:=top 25
abbrev s_span_of_level:Stmt:=top 26
abbrev s_entry_place:Stmt:=top 27
abbrev s_is_there:Stmt:=top 28
abbrev s_key_of:Stmt:=top 29
abbrev s_frame_led_to:Stmt:=top 30
abbrev s_leading_to:Stmt:=top 31
abbrev s_kept_from_writing:Stmt:=top 32
abbrev s_let_be_written:Stmt:=top 33
abbrev s_Access_init:Stmt:=inClass (top 55) 0
abbrev s_has_any:Stmt:=inClass (top 55) 1
abbrev s_Way_init:Stmt:=inClass (top 56) 0
abbrev s_go_through:Stmt:=inClass (top 56) 1
abbrev s_last_entry:Stmt:=inClass (top 56) 2
abbrev s_last_level:Stmt:=inClass (top 56) 3
abbrev s_all_say:Stmt:=inClass (top 56) 4
abbrev s_any_says:Stmt:=inClass (top 56) 5
abbrev s_look:Stmt:=top 57
abbrev s_look_up:Stmt:=top 58
abbrev s_reserved_bits:Stmt:=top 59
abbrev s_end_of_way:Stmt:=top 60
abbrev s_fault_code:Stmt:=top 61
abbrev s_key_denies:Stmt:=top 62
abbrev s_is_allowed:Stmt:=top 63
abbrev s_user_may:Stmt:=top 64
abbrev s_kernel_may_execute:Stmt:=top 65
abbrev s_kernel_may_move:Stmt:=top 66
abbrev s_mark:Stmt:=top 67
abbrev s_read:Stmt:=top 71
abbrev s_write:Stmt:=top 72
abbrev s_is_granted:Stmt:=top 73
abbrev s_address_behind:Stmt:=top 74
abbrev s_find_octet:Stmt:=top 75
abbrev s_readable_from:Stmt:=top 76
abbrev s_new:Stmt:=top 83
abbrev s_give:Stmt:=top 84
abbrev s_share:Stmt:=top 85
abbrev s_take_back:Stmt:=top 86
abbrev s_touch:Stmt:=top 87
abbrev s_can_be_shared:Stmt:=top 88
abbrev s_places_on_way:Stmt:=top 89
abbrev s_missing_table_count:Stmt:=top 90
abbrev s_build_tables:Stmt:=top 91
abbrev s_free_empty_tables:Stmt:=top 92
abbrev s_page_entry:Stmt:=top 93
abbrev s_Tree_init:Stmt:=inClass (top 95) 0
abbrev s_frames_below:Stmt:=top 96
abbrev s_copy_tree:Stmt:=top 97
abbrev s_can_be_copied:Stmt:=top 98
abbrev s_copy_table:Stmt:=top 99
abbrev s_share_page:Stmt:=top 100
abbrev s_drop_tree:Stmt:=top 101
abbrev s_Reader_init:Stmt:=inClass (top 116) 0
abbrev s_at_end:Stmt:=inClass (top 116) 1
abbrev s_take_number:Stmt:=inClass (top 116) 2
abbrev s_take_numbers:Stmt:=inClass (top 116) 3
abbrev s_take_row:Stmt:=inClass (top 116) 4
abbrev s_answers:Stmt:=top 117
abbrev s_answer_call:Stmt:=top 118
abbrev s_answer_lay:Stmt:=top 119
abbrev s_answer_tell:Stmt:=top 120
abbrev s_answer_look:Stmt:=top 121
abbrev s_answer_read:Stmt:=top 122
abbrev s_answer_write:Stmt:=top 123
abbrev s_answer_give:Stmt:=top 124
abbrev s_answer_share:Stmt:=top 125
abbrev s_answer_back:Stmt:=top 126
abbrev s_answer_touch:Stmt:=top 127
structure FnT (K:PySem.W.Frag) (mg:Str→Option Value) (x:Str) (st:Stmt) (ps:List Str) (g:Addr×FuncData):Prop where
 f:Fun K x x st g.1 g.2
 b:L2.Binds K g.2 ps []
 m:mg x=some (.ref g.1)
structure MtT (K:PySem.W.Frag) (C:Addr) (x qual:Str) (st:Stmt) (ps:List Str) (g:Addr×FuncData):Prop where
 f:Fun K x qual st g.1 g.2
 b:L2.Binds K g.2 ps []
 mt:Meth K C x g.1
theorem fnt {K:PySem.W.Frag} {mg:Str→Option Value} {x:Str} {st:Stmt} {ps:List Str} {p:Addr} {g:FuncData} (F:Fun K x x st p g) (h:∀(kV doc pm:Value) (an:Option Addr) (cdv ct:Value) (us:List Value),us.length=ps.length→bindArgs (PySem.W.fnOf x x (defArgs st) (defBody st) (defScope st) .none kV doc pm an cdv ct) ⟨us,[]⟩=pure (ps.zip us)) (m:mg x=some (.ref p)):FnT K mg x st ps (p,g):=⟨F,F.binds h,m⟩
theorem mtt {K:PySem.W.Frag} {C:Addr} {x q:Str} {st:Stmt} {ps:List Str} {p:Addr} {g:FuncData} (F:Fun K x q st p g) (h:∀(kV doc pm:Value) (an:Option Addr) (cdv ct:Value) (us:List Value),us.length=ps.length→bindArgs (PySem.W.fnOf x q (defArgs st) (defBody st) (defScope st) .none kV doc pm an cdv ct) ⟨us,[]⟩=pure (ps.zip us)) (m:Meth K C x p):MtT K C x q st ps (p,g):=⟨F,F.binds h,m⟩
set_option genInjectivity false in
set_option genSizeOf false in
structure Adr where
 C_Memory:Addr
 C_Access:Addr
 C_Way:Addr
 C_Tree:Addr
 C_Reader:Addr
 Memory_init:Addr×FuncData
 word_at:Addr×FuncData
 put_word:Addr×FuncData
 octet_at:Addr×FuncData
 put_octet:Addr×FuncData
 octets_from:Addr×FuncData
 filled_places:Addr×FuncData
 copy_words:Addr×FuncData
 free_frame_count:Addr×FuncData
 take_frame:Addr×FuncData
 use_once_more:Addr×FuncData
 use_once_less:Addr×FuncData
 set_free:Addr×FuncData
 octet_shift:Addr×FuncData
 is_none:Addr×FuncData
 is_of_page:Addr×FuncData
 span_of_level:Addr×FuncData
 entry_place:Addr×FuncData
 is_there:Addr×FuncData
 key_of:Addr×FuncData
 frame_led_to:Addr×FuncData
 leading_to:Addr×FuncData
 kept_from_writing:Addr×FuncData
 let_be_written:Addr×FuncData
 Access_init:Addr×FuncData
 has_any:Addr×FuncData
 Way_init:Addr×FuncData
 go_through:Addr×FuncData
 last_entry:Addr×FuncData
 last_level:Addr×FuncData
 all_say:Addr×FuncData
 any_says:Addr×FuncData
 look:Addr×FuncData
 look_up:Addr×FuncData
 reserved_bits:Addr×FuncData
 end_of_way:Addr×FuncData
 fault_code:Addr×FuncData
 key_denies:Addr×FuncData
 is_allowed:Addr×FuncData
 user_may:Addr×FuncData
 kernel_may_execute:Addr×FuncData
 kernel_may_move:Addr×FuncData
 mark:Addr×FuncData
 read:Addr×FuncData
 write:Addr×FuncData
 is_granted:Addr×FuncData
 address_behind:Addr×FuncData
 find_octet:Addr×FuncData
 readable_from:Addr×FuncData
 new:Addr×FuncData
 give:Addr×FuncData
 share:Addr×FuncData
 take_back:Addr×FuncData
 touch:Addr×FuncData
 can_be_shared:Addr×FuncData
 places_on_way:Addr×FuncData
 missing_table_count:Addr×FuncData
 build_tables:Addr×FuncData
 free_empty_tables:Addr×FuncData
 page_entry:Addr×FuncData
 Tree_init:Addr×FuncData
 frames_below:Addr×FuncData
 copy_tree:Addr×FuncData
 can_be_copied:Addr×FuncData
 copy_table:Addr×FuncData
 share_page:Addr×FuncData
 drop_tree:Addr×FuncData
 Reader_init:Addr×FuncData
 at_end:Addr×FuncData
 take_number:Addr×FuncData
 take_numbers:Addr×FuncData
 take_row:Addr×FuncData
 answers:Addr×FuncData
 answer_call:Addr×FuncData
 answer_lay:Addr×FuncData
 answer_tell:Addr×FuncData
 answer_look:Addr×FuncData
 answer_read:Addr×FuncData
 answer_write:Addr×FuncData
 answer_give:Addr×FuncData
 answer_share:Addr×FuncData
 answer_back:Addr×FuncData
 answer_touch:Addr×FuncData
 t_MEMORY_SIZE:Tok
 t_FRAME_SIZE:Tok
 t_FRAME_COUNT:Tok
 t_WORD_SIZE:Tok
 t_WORDS_IN_FRAME:Tok
 t_MOST_USES:Tok
 t_DONE:Tok
 t_REFUSED:Tok
 t_TOO_FEW_FRAMES:Tok
 t_UNFIT_PAGE:Tok
 t_THERE:Tok
 t_WRITABLE:Tok
 t_USERS:Tok
 t_USED:Tok
 t_WRITTEN:Tok
 t_BIG:Tok
 t_COPIED_WHEN_WRITTEN:Tok
 t_NOT_EXECUTED:Tok
 t_BEGINNING:Tok
 t_READING:Tok
 t_WRITING:Tok
 t_EXECUTING:Tok
 t_FOR_USER:Tok
 t_WRITE_PROTECTION:Tok
 t_NOT_EXECUTED_KNOWN:Tok
 t_KERNEL_EXECUTES_NO_USERS:Tok
 t_KERNEL_MOVES_NO_USERS:Tok
 t_KERNEL_MOVES_NOW:Tok
 t_KEYS_KNOWN:Tok
 t_FOUND:Tok
 t_FAULT:Tok
 t_BEYOND:Tok
 t_NO_ADDRESS:Tok
 t_NOT_THERE:Tok
 t_DENIED:Tok
 t_RESERVED:Tok
 t_DENIED_BY_KEY:Tok
 t_RESERVED_ALWAYS:Tok
 t_MOST_OCTETS:Tok
 t_ADDRESS_COUNT:Tok
 t_MOST_FLAGS:Tok
 t_TO_BE_WRITTEN:Tok
 t_FOR_THE_USER:Tok
 t_NOT_TO_BE_EXECUTED:Tok
 t_MOVED:Tok
 t_TELL:Tok
 t_LOOK:Tok
 t_READ:Tok
 t_WRITE:Tok
 t_NEW:Tok
 t_GIVE:Tok
 t_SHARE:Tok
 t_BACK:Tok
 t_COPY:Tok
 t_TOUCH:Tok
 t_DROP:Tok
 t_LAY:Tok
 a_LEVELS:Addr
 a_RESERVED_IF_BIG:Addr
structure Txt (K:PySem.W.Frag) (mg:Str→Option Value) (A:Adr):Prop where
 c_Memory:Cls K A.C_Memory
 m_Memory:mg "Memory" = some (.ref A.C_Memory)
 mk_Memory:Mk K A.C_Memory A.Memory_init.1
 na_Memory_frames:NoAttr K A.C_Memory "frames"
 na_Memory_counts:NoAttr K A.C_Memory "counts"
 c_Access:Cls K A.C_Access
 m_Access:mg "Access" = some (.ref A.C_Access)
 mk_Access:Mk K A.C_Access A.Access_init.1
 na_Access_root_table:NoAttr K A.C_Access "root_table"
 na_Access_flags:NoAttr K A.C_Access "flags"
 na_Access_rights:NoAttr K A.C_Access "rights"
 na_Access_kind:NoAttr K A.C_Access "kind"
 c_Way:Cls K A.C_Way
 m_Way:mg "Way" = some (.ref A.C_Way)
 mk_Way:Mk K A.C_Way A.Way_init.1
 na_Way_places:NoAttr K A.C_Way "places"
 na_Way_entries:NoAttr K A.C_Way "entries"
 c_Tree:Cls K A.C_Tree
 m_Tree:mg "Tree" = some (.ref A.C_Tree)
 mk_Tree:Mk K A.C_Tree A.Tree_init.1
 na_Tree_tables:NoAttr K A.C_Tree "tables"
 na_Tree_pages:NoAttr K A.C_Tree "pages"
 c_Reader:Cls K A.C_Reader
 m_Reader:mg "Reader" = some (.ref A.C_Reader)
 mk_Reader:Mk K A.C_Reader A.Reader_init.1
 na_Reader_numbers:NoAttr K A.C_Reader "numbers"
 na_Reader_position:NoAttr K A.C_Reader "position"
 f_Memory_init:MtT K A.C_Memory "__init__" "Memory.__init__" s_Memory_init ["self"] A.Memory_init
 f_word_at:MtT K A.C_Memory "word_at" "Memory.word_at" s_word_at ["self","place"] A.word_at
 f_put_word:MtT K A.C_Memory "put_word" "Memory.put_word" s_put_word ["self","place","word"] A.put_word
 f_octet_at:MtT K A.C_Memory "octet_at" "Memory.octet_at" s_octet_at ["self","place"] A.octet_at
 f_put_octet:MtT K A.C_Memory "put_octet" "Memory.put_octet" s_put_octet ["self","place","octet"] A.put_octet
 f_octets_from:MtT K A.C_Memory "octets_from" "Memory.octets_from" s_octets_from ["self","place","how_many"] A.octets_from
 f_filled_places:MtT K A.C_Memory "filled_places" "Memory.filled_places" s_filled_places ["self","frame"] A.filled_places
 f_copy_words:MtT K A.C_Memory "copy_words" "Memory.copy_words" s_copy_words ["self","source","target"] A.copy_words
 f_free_frame_count:MtT K A.C_Memory "free_frame_count" "Memory.free_frame_count" s_free_frame_count ["self"] A.free_frame_count
 f_take_frame:MtT K A.C_Memory "take_frame" "Memory.take_frame" s_take_frame ["self"] A.take_frame
 f_use_once_more:MtT K A.C_Memory "use_once_more" "Memory.use_once_more" s_use_once_more ["self","frame"] A.use_once_more
 f_use_once_less:MtT K A.C_Memory "use_once_less" "Memory.use_once_less" s_use_once_less ["self","frame"] A.use_once_less
 f_set_free:MtT K A.C_Memory "set_free" "Memory.set_free" s_set_free ["self","frame"] A.set_free
 f_octet_shift:FnT K mg "octet_shift" s_octet_shift ["place"] A.octet_shift
 f_is_none:FnT K mg "is_none" s_is_none ["addr"] A.is_none
 f_is_of_page:FnT K mg "is_of_page" s_is_of_page ["addr"] A.is_of_page
 f_span_of_level:FnT K mg "span_of_level" s_span_of_level ["level"] A.span_of_level
 f_entry_place:FnT K mg "entry_place" s_entry_place ["table","level","addr"] A.entry_place
 f_is_there:FnT K mg "is_there" s_is_there ["entry"] A.is_there
 f_key_of:FnT K mg "key_of" s_key_of ["entry"] A.key_of
 f_frame_led_to:FnT K mg "frame_led_to" s_frame_led_to ["entry"] A.frame_led_to
 f_leading_to:FnT K mg "leading_to" s_leading_to ["frame","entry"] A.leading_to
 f_kept_from_writing:FnT K mg "kept_from_writing" s_kept_from_writing ["entry"] A.kept_from_writing
 f_let_be_written:FnT K mg "let_be_written" s_let_be_written ["entry"] A.let_be_written
 f_Access_init:MtT K A.C_Access "__init__" "Access.__init__" s_Access_init ["self","cpu","kind"] A.Access_init
 f_has_any:MtT K A.C_Access "has_any" "Access.has_any" s_has_any ["self","flags"] A.has_any
 f_Way_init:MtT K A.C_Way "__init__" "Way.__init__" s_Way_init ["self"] A.Way_init
 f_go_through:MtT K A.C_Way "go_through" "Way.go_through" s_go_through ["self","place","entry"] A.go_through
 f_last_entry:MtT K A.C_Way "last_entry" "Way.last_entry" s_last_entry ["self"] A.last_entry
 f_last_level:MtT K A.C_Way "last_level" "Way.last_level" s_last_level ["self"] A.last_level
 f_all_say:MtT K A.C_Way "all_say" "Way.all_say" s_all_say ["self","bit"] A.all_say
 f_any_says:MtT K A.C_Way "any_says" "Way.any_says" s_any_says ["self","bit"] A.any_says
 f_look:FnT K mg "look" s_look ["memory","cpu","addr","kind"] A.look
 f_look_up:FnT K mg "look_up" s_look_up ["memory","cpu","addr","kind"] A.look_up
 f_reserved_bits:FnT K mg "reserved_bits" s_reserved_bits ["access","level","entry"] A.reserved_bits
 f_end_of_way:FnT K mg "end_of_way" s_end_of_way ["memory","access","way","addr"] A.end_of_way
 f_fault_code:FnT K mg "fault_code" s_fault_code ["access","cause"] A.fault_code
 f_key_denies:FnT K mg "key_denies" s_key_denies ["access","way"] A.key_denies
 f_is_allowed:FnT K mg "is_allowed" s_is_allowed ["access","way"] A.is_allowed
 f_user_may:FnT K mg "user_may" s_user_may ["access","way"] A.user_may
 f_kernel_may_execute:FnT K mg "kernel_may_execute" s_kernel_may_execute ["access","way"] A.kernel_may_execute
 f_kernel_may_move:FnT K mg "kernel_may_move" s_kernel_may_move ["access","way"] A.kernel_may_move
 f_mark:FnT K mg "mark" s_mark ["memory","access","way"] A.mark
 f_read:FnT K mg "read" s_read ["memory","cpu","addr","how_many"] A.read
 f_write:FnT K mg "write" s_write ["memory","cpu","addr","how_many","octets"] A.write
 f_is_granted:FnT K mg "is_granted" s_is_granted ["how_many"] A.is_granted
 f_address_behind:FnT K mg "address_behind" s_address_behind ["addr","distance"] A.address_behind
 f_find_octet:FnT K mg "find_octet" s_find_octet ["memory","cpu","addr","kind"] A.find_octet
 f_readable_from:FnT K mg "readable_from" s_readable_from ["addr","place","size"] A.readable_from
 f_new:FnT K mg "new" s_new ["memory"] A.new
 f_give:FnT K mg "give" s_give ["memory","root","addr","flags"] A.give
 f_share:FnT K mg "share" s_share ["memory","root","addr","frame","flags"] A.share
 f_take_back:FnT K mg "take_back" s_take_back ["memory","root","addr"] A.take_back
 f_touch:FnT K mg "touch" s_touch ["memory","root","addr"] A.touch
 f_can_be_shared:FnT K mg "can_be_shared" s_can_be_shared ["memory","frame"] A.can_be_shared
 f_places_on_way:FnT K mg "places_on_way" s_places_on_way ["memory","root","addr"] A.places_on_way
 f_missing_table_count:FnT K mg "missing_table_count" s_missing_table_count ["places"] A.missing_table_count
 f_build_tables:FnT K mg "build_tables" s_build_tables ["memory","places","addr"] A.build_tables
 f_free_empty_tables:FnT K mg "free_empty_tables" s_free_empty_tables ["memory","places"] A.free_empty_tables
 f_page_entry:FnT K mg "page_entry" s_page_entry ["frame","flags"] A.page_entry
 f_Tree_init:MtT K A.C_Tree "__init__" "Tree.__init__" s_Tree_init ["self","memory","root"] A.Tree_init
 f_frames_below:FnT K mg "frames_below" s_frames_below ["memory","tables"] A.frames_below
 f_copy_tree:FnT K mg "copy_tree" s_copy_tree ["memory","root"] A.copy_tree
 f_can_be_copied:FnT K mg "can_be_copied" s_can_be_copied ["memory","tree"] A.can_be_copied
 f_copy_table:FnT K mg "copy_table" s_copy_table ["memory","table","level"] A.copy_table
 f_share_page:FnT K mg "share_page" s_share_page ["memory","place"] A.share_page
 f_drop_tree:FnT K mg "drop_tree" s_drop_tree ["memory","root"] A.drop_tree
 f_Reader_init:MtT K A.C_Reader "__init__" "Reader.__init__" s_Reader_init ["self","numbers"] A.Reader_init
 f_at_end:MtT K A.C_Reader "at_end" "Reader.at_end" s_at_end ["self"] A.at_end
 f_take_number:MtT K A.C_Reader "take_number" "Reader.take_number" s_take_number ["self"] A.take_number
 f_take_numbers:MtT K A.C_Reader "take_numbers" "Reader.take_numbers" s_take_numbers ["self","how_many"] A.take_numbers
 f_take_row:MtT K A.C_Reader "take_row" "Reader.take_row" s_take_row ["self"] A.take_row
 f_answers:FnT K mg "answers" s_answers ["calls"] A.answers
 f_answer_call:FnT K mg "answer_call" s_answer_call ["memory","reader"] A.answer_call
 f_answer_lay:FnT K mg "answer_lay" s_answer_lay ["memory","reader"] A.answer_lay
 f_answer_tell:FnT K mg "answer_tell" s_answer_tell ["memory","reader"] A.answer_tell
 f_answer_look:FnT K mg "answer_look" s_answer_look ["memory","reader"] A.answer_look
 f_answer_read:FnT K mg "answer_read" s_answer_read ["memory","reader"] A.answer_read
 f_answer_write:FnT K mg "answer_write" s_answer_write ["memory","reader"] A.answer_write
 f_answer_give:FnT K mg "answer_give" s_answer_give ["memory","reader"] A.answer_give
 f_answer_share:FnT K mg "answer_share" s_answer_share ["memory","reader"] A.answer_share
 f_answer_back:FnT K mg "answer_back" s_answer_back ["memory","reader"] A.answer_back
 f_answer_touch:FnT K mg "answer_touch" s_answer_touch ["memory","reader"] A.answer_touch
 g_MEMORY_SIZE:mg "MEMORY_SIZE" = some (.int 1048576 A.t_MEMORY_SIZE)
 g_FRAME_SIZE:mg "FRAME_SIZE" = some (.int 4096 A.t_FRAME_SIZE)
 g_FRAME_COUNT:mg "FRAME_COUNT" = some (.int 256 A.t_FRAME_COUNT)
 g_WORD_SIZE:mg "WORD_SIZE" = some (.int 8 A.t_WORD_SIZE)
 g_WORDS_IN_FRAME:mg "WORDS_IN_FRAME" = some (.int 512 A.t_WORDS_IN_FRAME)
 g_MOST_USES:mg "MOST_USES" = some (.int 65535 A.t_MOST_USES)
 g_DONE:mg "DONE" = some (.int 0 A.t_DONE)
 g_REFUSED:mg "REFUSED" = some (.int (-1) A.t_REFUSED)
 g_TOO_FEW_FRAMES:mg "TOO_FEW_FRAMES" = some (.int (-2) A.t_TOO_FEW_FRAMES)
 g_UNFIT_PAGE:mg "UNFIT_PAGE" = some (.int (-3) A.t_UNFIT_PAGE)
 g_THERE:mg "THERE" = some (.int 1 A.t_THERE)
 g_WRITABLE:mg "WRITABLE" = some (.int 2 A.t_WRITABLE)
 g_USERS:mg "USERS" = some (.int 4 A.t_USERS)
 g_USED:mg "USED" = some (.int 32 A.t_USED)
 g_WRITTEN:mg "WRITTEN" = some (.int 64 A.t_WRITTEN)
 g_BIG:mg "BIG" = some (.int 128 A.t_BIG)
 g_COPIED_WHEN_WRITTEN:mg "COPIED_WHEN_WRITTEN" = some (.int 512 A.t_COPIED_WHEN_WRITTEN)
 g_NOT_EXECUTED:mg "NOT_EXECUTED" = some (.int 9223372036854775808 A.t_NOT_EXECUTED)
 g_BEGINNING:mg "BEGINNING" = some (.int 4503599627366400 A.t_BEGINNING)
 g_READING:mg "READING" = some (.int 0 A.t_READING)
 g_WRITING:mg "WRITING" = some (.int 1 A.t_WRITING)
 g_EXECUTING:mg "EXECUTING" = some (.int 2 A.t_EXECUTING)
 g_FOR_USER:mg "FOR_USER" = some (.int 1 A.t_FOR_USER)
 g_WRITE_PROTECTION:mg "WRITE_PROTECTION" = some (.int 2 A.t_WRITE_PROTECTION)
 g_NOT_EXECUTED_KNOWN:mg "NOT_EXECUTED_KNOWN" = some (.int 4 A.t_NOT_EXECUTED_KNOWN)
 g_KERNEL_EXECUTES_NO_USERS:mg "KERNEL_EXECUTES_NO_USERS" = some (.int 8 A.t_KERNEL_EXECUTES_NO_USERS)
 g_KERNEL_MOVES_NO_USERS:mg "KERNEL_MOVES_NO_USERS" = some (.int 16 A.t_KERNEL_MOVES_NO_USERS)
 g_KERNEL_MOVES_NOW:mg "KERNEL_MOVES_NOW" = some (.int 32 A.t_KERNEL_MOVES_NOW)
 g_KEYS_KNOWN:mg "KEYS_KNOWN" = some (.int 64 A.t_KEYS_KNOWN)
 g_FOUND:mg "FOUND" = some (.int 0 A.t_FOUND)
 g_FAULT:mg "FAULT" = some (.int 1 A.t_FAULT)
 g_BEYOND:mg "BEYOND" = some (.int 2 A.t_BEYOND)
 g_NO_ADDRESS:mg "NO_ADDRESS" = some (.int 3 A.t_NO_ADDRESS)
 g_NOT_THERE:mg "NOT_THERE" = some (.int 0 A.t_NOT_THERE)
 g_DENIED:mg "DENIED" = some (.int 1 A.t_DENIED)
 g_RESERVED:mg "RESERVED" = some (.int 9 A.t_RESERVED)
 g_DENIED_BY_KEY:mg "DENIED_BY_KEY" = some (.int 33 A.t_DENIED_BY_KEY)
 g_RESERVED_ALWAYS:mg "RESERVED_ALWAYS" = some (.int 4502500115742720 A.t_RESERVED_ALWAYS)
 g_MOST_OCTETS:mg "MOST_OCTETS" = some (.int 65536 A.t_MOST_OCTETS)
 g_ADDRESS_COUNT:mg "ADDRESS_COUNT" = some (.int 18446744073709551616 A.t_ADDRESS_COUNT)
 g_MOST_FLAGS:mg "MOST_FLAGS" = some (.int 7 A.t_MOST_FLAGS)
 g_TO_BE_WRITTEN:mg "TO_BE_WRITTEN" = some (.int 1 A.t_TO_BE_WRITTEN)
 g_FOR_THE_USER:mg "FOR_THE_USER" = some (.int 2 A.t_FOR_THE_USER)
 g_NOT_TO_BE_EXECUTED:mg "NOT_TO_BE_EXECUTED" = some (.int 4 A.t_NOT_TO_BE_EXECUTED)
 g_MOVED:mg "MOVED" = some (.int 1 A.t_MOVED)
 g_TELL:mg "TELL" = some (.int 0 A.t_TELL)
 g_LOOK:mg "LOOK" = some (.int 1 A.t_LOOK)
 g_READ:mg "READ" = some (.int 2 A.t_READ)
 g_WRITE:mg "WRITE" = some (.int 3 A.t_WRITE)
 g_NEW:mg "NEW" = some (.int 4 A.t_NEW)
 g_GIVE:mg "GIVE" = some (.int 5 A.t_GIVE)
 g_SHARE:mg "SHARE" = some (.int 6 A.t_SHARE)
 g_BACK:mg "BACK" = some (.int 7 A.t_BACK)
 g_COPY:mg "COPY" = some (.int 8 A.t_COPY)
 g_TOUCH:mg "TOUCH" = some (.int 9 A.t_TOUCH)
 g_DROP:mg "DROP" = some (.int 10 A.t_DROP)
 g_LAY:mg "LAY" = some (.int 11 A.t_LAY)
 g_LEVELS:mg "LEVELS" = some (.ref A.a_LEVELS)
 sq_LEVELS:∀H,SqT K H A.a_LEVELS [.int 4,.int 3,.int 2,.int 1]
 g_RESERVED_IF_BIG:mg "RESERVED_IF_BIG" = some (.ref A.a_RESERVED_IF_BIG)
 dk_RESERVED_IF_BIG:DictK K A.a_RESERVED_IF_BIG [(3,1073733632),(2,2088960)]
 no_len:mg "len" = none
 no_min:mg "min" = none
 no_max:mg "max" = none
 no_all:mg "all" = none
 no_any:mg "any" = none
 no_range:mg "range" = none
 no_enumerate:mg "enumerate" = none
 no_list:mg "list" = none
 no_dict:mg "dict" = none
 no_sorted:mg "sorted" = none
open PySem.W in
set_option maxHeartbeats 4000000 in
theorem txt_mk {K:Frag} {h:Heap} {mg:Str→Option Value} (X:K.In h) (G:h.Ns mainGlobals mg)
 {C0 C1 C2 C3 C4 p0 p1 p2 p3 p4 p5 p6 p7 p8 p9 p10 p11 p12 p13 p14 p15 p16 p17 p18 p19 p20 p21 p22 p23 p24 p25 p26 p27 p28 p29 p30 p31 p32 p33 p34 p35 p36 p37 p38 p39 p40 p41 p42 p43 p44 p45 p46 p47 p48 p49 p50 p51 p52 p53 p54 p55 p56 p57 p58 p59 p60 p61 p62 p63 p64 p65 p66 p67 p68 p69 p70 p71 p72 p73 p74 p75 p76 p77 p78 p79 p80 p81 p82 ac57 ac58:Addr}
 {q0 r0 q1 r1 q2 r2 q3 r3 q4 r4 q5 r5 q6 r6 q7 r7 q8 r8 q9 r9 q10 r10 q11 r11 q12 r12 q13 r13 q14 r14 q15 r15 q16 r16 q17 r17 q18 r18 q19 r19 q20 r20 q21 r21 q22 r22 q23 r23 q24 r24 q25 r25 q26 r26 q27 r27 q28 r28 q29 r29 q30 r30 q31 r31 q32 r32 q33 r33 q34 r34 q35 r35 q36 r36 q37 r37 q38 r38 q39 r39 q40 r40 q41 r41 q42 r42 q43 r43 q44 r44 q45 r45 q46 r46 q47 r47 q48 r48 q49 r49 q50 r50 q51 r51 q52 r52 q53 r53 q54 r54 q55 r55 q56 r56 q57 r57 q58 r58 q59 r59 q60 r60 q61 r61 q62 r62 q63 r63 q64 r64 q65 r65 q66 r66 q67 r67 q68 r68 q69 r69 q70 r70 q71 r71 q72 r72 q73 r73 q74 r74 q75 r75 q76 r76 q77 r77 q78 r78 q79 r79 q80 r80 q81 r81 q82 r82 qc57:Option Addr}
 {s0 s1 s2 s3 s4 s5 s6 s7 s8 s9 s10 s11 s12 s13 s14 s15 s16 s17 s18 s19 s20 s21 s22 s23 s24 s25 s26 s27 s28 s29 s30 s31 s32 s33 s34 s35 s36 s37 s38 s39 s40 s41 s42 s43 s44 s45 s46 s47 s48 s49 s50 s51 s52 s53 s54 s55 s56 s57 s58 s59 s60 s61 s62 s63 s64 s65 s66 s67 s68 s69 s70 s71 s72 s73 s74 s75 s76 s77 s78 s79 s80 s81 s82 sc57:Array (Option Value)}
 {u0 v0 w0 x0 y0 z0 u1 v1 w1 x1 y1 z1 u2 v2 w2 x2 y2 z2 u3 v3 w3 x3 y3 z3 u4 v4 w4 x4 y4 z4 u5 v5 w5 x5 y5 z5 u6 v6 w6 x6 y6 z6 u7 v7 w7 x7 y7 z7 u8 v8 w8 x8 y8 z8 u9 v9 w9 x9 y9 z9 u10 v10 w10 x10 y10 z10 u11 v11 w11 x11 y11 z11 u12 v12 w12 x12 y12 z12 u13 v13 w13 x13 y13 z13 u14 v14 w14 x14 y14 z14 u15 v15 w15 x15 y15 z15 u16 v16 w16 x16 y16 z16 u17 v17 w17 x17 y17 z17 u18 v18 w18 x18 y18 z18 u19 v19 w19 x19 y19 z19 u20 v20 w20 x20 y20 z20 u21 v21 w21 x21 y21 z21 u22 v22 w22 x22 y22 z22 u23 v23 w23 x23 y23 z23 u24 v24 w24 x24 y24 z24 u25 v25 w25 x25 y25 z25 u26 v26 w26 x26 y26 z26 u27 v27 w27 x27 y27 z27 u28 v28 w28 x28 y28 z28 u29 v29 w29 x29 y29 z29 u30 v30 w30 x30 y30 z30 u31 v31 w31 x31 y31 z31 u32 v32 w32 x32 y32 z32 u33 v33 w33 x33 y33 z33 u34 v34 w34 x34 y34 z34 u35 v35 w35 x35 y35 z35 u36 v36 w36 x36 y36 z36 u37 v37 w37 x37 y37 z37 u38 v38 w38 x38 y38 z38 u39 v39 w39 x39 y39 z39 u40 v40 w40 x40 y40 z40 u41 v41 w41 x41 y41 z41 u42 v42 w42 x42 y42 z42 u43 v43 w43 x43 y43 z43 u44 v44 w44 x44 y44 z44 u45 v45 w45 x45 y45 z45 u46 v46 w46 x46 y46 z46 u47 v47 w47 x47 y47 z47 u48 v48 w48 x48 y48 z48 u49 v49 w49 x49 y49 z49 u50 v50 w50 x50 y50 z50 u51 v51 w51 x51 y51 z51 u52 v52 w52 x52 y52 z52 u53 v53 w53 x53 y53 z53 u54 v54 w54 x54 y54 z54 u55 v55 w55 x55 y55 z55 u56 v56 w56 x56 y56 z56 u57 v57 w57 x57 y57 z57 u58 v58 w58 x58 y58 z58 u59 v59 w59 x59 y59 z59 u60 v60 w60 x60 y60 z60 u61 v61 w61 x61 y61 z61 u62 v62 w62 x62 y62 z62 u63 v63 w63 x63 y63 z63 u64 v64 w64 x64 y64 z64 u65 v65 w65 x65 y65 z65 u66 v66 w66 x66 y66 z66 u67 v67 w67 x67 y67 z67 u68 v68 w68 x68 y68 z68 u69 v69 w69 x69 y69 z69 u70 v70 w70 x70 y70 z70 u71 v71 w71 x71 y71 z71 u72 v72 w72 x72 y72 z72 u73 v73 w73 x73 y73 z73 u74 v74 w74 x74 y74 z74 u75 v75 w75 x75 y75 z75 u76 v76 w76 x76 y76 z76 u77 v77 w77 x77 y77 z77 u78 v78 w78 x78 y78 z78 u79 v79 w79 x79 y79 z79 u80 v80 w80 x80 y80 z80 u81 v81 w81 x81 y81 z81 u82 v82 w82 x82 y82 z82:Value}
 {tc0 tc1 tc2 tc3 tc4 tc5 tc6 tc7 tc8 tc9 tc10 tc11 tc12 tc13 tc14 tc15 tc16 tc17 tc18 tc19 tc20 tc21 tc22 tc23 tc24 tc25 tc26 tc27 tc28 tc29 tc30 tc31 tc32 tc33 tc34 tc35 tc36 tc37 tc38 tc39 tc40 tc41 tc42 tc43 tc44 tc45 tc46 tc47 tc48 tc49 tc50 tc51 tc52 tc53 tc54 tc55 tc56 tc57_0 tc57_1 tc57_2 tc57_3 uc58_0 tc58_0 uc58_1 tc58_1:Tok}
 {nc57 nc58:Nat}
 (aC0:nsIn K mainGlobals "Memory"=some (some (.ref C0)))
 (gC0:plainGet K C0 Str.empty=true)
 (hC0:hasDictIn K C0=true)
 (oC0:plainOver K C0=true)
 (sC0:findIn K (.ref C0) "__setattr__"=some (some (.builtin "object.__setattr__")))
 (mC0:makesIn K C0=true)
 (kC0:keepIn K (.ref C0)=true)
 (nC0_0:findIn K (.ref C0) "frames"=some none)
 (nC0_1:findIn K (.ref C0) "counts"=some none)
 (aC1:nsIn K mainGlobals "Access"=some (some (.ref C1)))
 (gC1:plainGet K C1 Str.empty=true)
 (hC1:hasDictIn K C1=true)
 (oC1:plainOver K C1=true)
 (sC1:findIn K (.ref C1) "__setattr__"=some (some (.builtin "object.__setattr__")))
 (mC1:makesIn K C1=true)
 (kC1:keepIn K (.ref C1)=true)
 (nC1_0:findIn K (.ref C1) "root_table"=some none)
 (nC1_1:findIn K (.ref C1) "flags"=some none)
 (nC1_2:findIn K (.ref C1) "rights"=some none)
 (nC1_3:findIn K (.ref C1) "kind"=some none)
 (aC2:nsIn K mainGlobals "Way"=some (some (.ref C2)))
 (gC2:plainGet K C2 Str.empty=true)
 (hC2:hasDictIn K C2=true)
 (oC2:plainOver K C2=true)
 (sC2:findIn K (.ref C2) "__setattr__"=some (some (.builtin "object.__setattr__")))
 (mC2:makesIn K C2=true)
 (kC2:keepIn K (.ref C2)=true)
 (nC2_0:findIn K (.ref C2) "places"=some none)
 (nC2_1:findIn K (.ref C2) "entries"=some none)
 (aC3:nsIn K mainGlobals "Tree"=some (some (.ref C3)))
 (gC3:plainGet K C3 Str.empty=true)
 (hC3:hasDictIn K C3=true)
 (oC3:plainOver K C3=true)
 (sC3:findIn K (.ref C3) "__setattr__"=some (some (.builtin "object.__setattr__")))
 (mC3:makesIn K C3=true)
 (kC3:keepIn K (.ref C3)=true)
 (nC3_0:findIn K (.ref C3) "tables"=some none)
 (nC3_1:findIn K (.ref C3) "pages"=some none)
 (aC4:nsIn K mainGlobals "Reader"=some (some (.ref C4)))
 (gC4:plainGet K C4 Str.empty=true)
 (hC4:hasDictIn K C4=true)
 (oC4:plainOver K C4=true)
 (sC4:findIn K (.ref C4) "__setattr__"=some (some (.builtin "object.__setattr__")))
 (mC4:makesIn K C4=true)
 (kC4:keepIn K (.ref C4)=true)
 (nC4_0:findIn K (.ref C4) "numbers"=some none)
 (nC4_1:findIn K (.ref C4) "position"=some none)
 (a0:findIn K (.ref C0) "__init__"=some (some (.ref p0)))
 (i0:isFn K (.ref p0)=true)
 (l0:K.lookup p0=some ⟨u0,q0,.func (fnOf "__init__" "Memory.__init__" (defArgs s_Memory_init) (defBody s_Memory_init) (defScope s_Memory_init) .none v0 w0 x0 r0 y0 z0),s0⟩)
 (d0:codeIn K y0 "Memory.__init__"=true)
 (k0:keepIn K (.ref p0)=true)
 (a1:findIn K (.ref C0) "word_at"=some (some (.ref p1)))
 (i1:isFn K (.ref p1)=true)
 (l1:K.lookup p1=some ⟨u1,q1,.func (fnOf "word_at" "Memory.word_at" (defArgs s_word_at) (defBody s_word_at) (defScope s_word_at) .none v1 w1 x1 r1 y1 z1),s1⟩)
 (d1:codeIn K y1 "Memory.word_at"=true)
 (k1:keepIn K (.ref p1)=true)
 (a2:findIn K (.ref C0) "put_word"=some (some (.ref p2)))
 (i2:isFn K (.ref p2)=true)
 (l2:K.lookup p2=some ⟨u2,q2,.func (fnOf "put_word" "Memory.put_word" (defArgs s_put_word) (defBody s_put_word) (defScope s_put_word) .none v2 w2 x2 r2 y2 z2),s2⟩)
 (d2:codeIn K y2 "Memory.put_word"=true)
 (k2:keepIn K (.ref p2)=true)
 (a3:findIn K (.ref C0) "octet_at"=some (some (.ref p3)))
 (i3:isFn K (.ref p3)=true)
 (l3:K.lookup p3=some ⟨u3,q3,.func (fnOf "octet_at" "Memory.octet_at" (defArgs s_octet_at) (defBody s_octet_at) (defScope s_octet_at) .none v3 w3 x3 r3 y3 z3),s3⟩)
 (d3:codeIn K y3 "Memory.octet_at"=true)
 (k3:keepIn K (.ref p3)=true)
 (a4:findIn K (.ref C0) "put_octet"=some (some (.ref p4)))
 (i4:isFn K (.ref p4)=true)
 (l4:K.lookup p4=some ⟨u4,q4,.func (fnOf "put_octet" "Memory.put_octet" (defArgs s_put_octet) (defBody s_put_octet) (defScope s_put_octet) .none v4 w4 x4 r4 y4 z4),s4⟩)
 (d4:codeIn K y4 "Memory.put_octet"=true)
 (k4:keepIn K (.ref p4)=true)
 (a5:findIn K (.ref C0) "octets_from"=some (some (.ref p5)))
 (i5:isFn K (.ref p5)=true)
 (l5:K.lookup p5=some ⟨u5,q5,.func (fnOf "octets_from" "Memory.octets_from" (defArgs s_octets_from) (defBody s_octets_from) (defScope s_octets_from) .none v5 w5 x5 r5 y5 z5),s5⟩)
 (d5:codeIn K y5 "Memory.octets_from"=true)
 (k5:keepIn K (.ref p5)=true)
 (a6:findIn K (.ref C0) "filled_places"=some (some (.ref p6)))
 (i6:isFn K (.ref p6)=true)
 (l6:K.lookup p6=some ⟨u6,q6,.func (fnOf "filled_places" "Memory.filled_places" (defArgs s_filled_places) (defBody s_filled_places) (defScope s_filled_places) .none v6 w6 x6 r6 y6 z6),s6⟩)
 (d6:codeIn K y6 "Memory.filled_places"=true)
 (k6:keepIn K (.ref p6)=true)
 (a7:findIn K (.ref C0) "copy_words"=some (some (.ref p7)))
 (i7:isFn K (.ref p7)=true)
 (l7:K.lookup p7=some ⟨u7,q7,.func (fnOf "copy_words" "Memory.copy_words" (defArgs s_copy_words) (defBody s_copy_words) (defScope s_copy_words) .none v7 w7 x7 r7 y7 z7),s7⟩)
 (d7:codeIn K y7 "Memory.copy_words"=true)
 (k7:keepIn K (.ref p7)=true)
 (a8:findIn K (.ref C0) "free_frame_count"=some (some (.ref p8)))
 (i8:isFn K (.ref p8)=true)
 (l8:K.lookup p8=some ⟨u8,q8,.func (fnOf "free_frame_count" "Memory.free_frame_count" (defArgs s_free_frame_count) (defBody s_free_frame_count) (defScope s_free_frame_count) .none v8 w8 x8 r8 y8 z8),s8⟩)
 (d8:codeIn K y8 "Memory.free_frame_count"=true)
 (k8:keepIn K (.ref p8)=true)
 (a9:findIn K (.ref C0) "take_frame"=some (some (.ref p9)))
 (i9:isFn K (.ref p9)=true)
 (l9:K.lookup p9=some ⟨u9,q9,.func (fnOf "take_frame" "Memory.take_frame" (defArgs s_take_frame) (defBody s_take_frame) (defScope s_take_frame) .none v9 w9 x9 r9 y9 z9),s9⟩)
 (d9:codeIn K y9 "Memory.take_frame"=true)
 (k9:keepIn K (.ref p9)=true)
 (a10:findIn K (.ref C0) "use_once_more"=some (some (.ref p10)))
 (i10:isFn K (.ref p10)=true)
 (l10:K.lookup p10=some ⟨u10,q10,.func (fnOf "use_once_more" "Memory.use_once_more" (defArgs s_use_once_more) (defBody s_use_once_more) (defScope s_use_once_more) .none v10 w10 x10 r10 y10 z10),s10⟩)
 (d10:codeIn K y10 "Memory.use_once_more"=true)
 (k10:keepIn K (.ref p10)=true)
 (a11:findIn K (.ref C0) "use_once_less"=some (some (.ref p11)))
 (i11:isFn K (.ref p11)=true)
 (l11:K.lookup p11=some ⟨u11,q11,.func (fnOf "use_once_less" "Memory.use_once_less" (defArgs s_use_once_less) (defBody s_use_once_less) (defScope s_use_once_less) .none v11 w11 x11 r11 y11 z11),s11⟩)
 (d11:codeIn K y11 "Memory.use_once_less"=true)
 (k11:keepIn K (.ref p11)=true)
 (a12:findIn K (.ref C0) "set_free"=some (some (.ref p12)))
 (i12:isFn K (.ref p12)=true)
 (l12:K.lookup p12=some ⟨u12,q12,.func (fnOf "set_free" "Memory.set_free" (defArgs s_set_free) (defBody s_set_free) (defScope s_set_free) .none v12 w12 x12 r12 y12 z12),s12⟩)
 (d12:codeIn K y12 "Memory.set_free"=true)
 (k12:keepIn K (.ref p12)=true)
 (a13:nsIn K mainGlobals "octet_shift"=some (some (.ref p13)))
 (l13:K.lookup p13=some ⟨u13,q13,.func (fnOf "octet_shift" "octet_shift" (defArgs s_octet_shift) (defBody s_octet_shift) (defScope s_octet_shift) .none v13 w13 x13 r13 y13 z13),s13⟩)
 (d13:codeIn K y13 "octet_shift"=true)
 (k13:keepIn K (.ref p13)=true)
 (a14:nsIn K mainGlobals "is_none"=some (some (.ref p14)))
 (l14:K.lookup p14=some ⟨u14,q14,.func (fnOf "is_none" "is_none" (defArgs s_is_none) (defBody s_is_none) (defScope s_is_none) .none v14 w14 x14 r14 y14 z14),s14⟩)
 (d14:codeIn K y14 "is_none"=true)
 (k14:keepIn K (.ref p14)=true)
 (a15:nsIn K mainGlobals "is_of_page"=some (some (.ref p15)))
 (l15:K.lookup p15=some ⟨u15,q15,.func (fnOf "is_of_page" "is_of_page" (defArgs s_is_of_page) (defBody s_is_of_page) (defScope s_is_of_page) .none v15 w15 x15 r15 y15 z15),s15⟩)
 (d15:codeIn K y15 "is_of_page"=true)
 (k15:keepIn K (.ref p15)=true)
 (a16:nsIn K mainGlobals "span_of_level"=some (some (.ref p16)))
 (l16:K.lookup p16=some ⟨u16,q16,.func (fnOf "span_of_level" "span_of_level" (defArgs s_span_of_level) (defBody s_span_of_level) (defScope s_span_of_level) .none v16 w16 x16 r16 y16 z16),s16⟩)
 (d16:codeIn K y16 "span_of_level"=true)
 (k16:keepIn K (.ref p16)=true)
 (a17:nsIn K mainGlobals "entry_place"=some (some (.ref p17)))
 (l17:K.lookup p17=some ⟨u17,q17,.func (fnOf "entry_place" "entry_place" (defArgs s_entry_place) (defBody s_entry_place) (defScope s_entry_place) .none v17 w17 x17 r17 y17 z17),s17⟩)
 (d17:codeIn K y17 "entry_place"=true)
 (k17:keepIn K (.ref p17)=true)
 (a18:nsIn K mainGlobals "is_there"=some (some (.ref p18)))
 (l18:K.lookup p18=some ⟨u18,q18,.func (fnOf "is_there" "is_there" (defArgs s_is_there) (defBody s_is_there) (defScope s_is_there) .none v18 w18 x18 r18 y18 z18),s18⟩)
 (d18:codeIn K y18 "is_there"=true)
 (k18:keepIn K (.ref p18)=true)
 (a19:nsIn K mainGlobals "key_of"=some (some (.ref p19)))
 (l19:K.lookup p19=some ⟨u19,q19,.func (fnOf "key_of" "key_of" (defArgs s_key_of) (defBody s_key_of) (defScope s_key_of) .none v19 w19 x19 r19 y19 z19),s19⟩)
 (d19:codeIn K y19 "key_of"=true)
 (k19:keepIn K (.ref p19)=true)
 (a20:nsIn K mainGlobals "frame_led_to"=some (some (.ref p20)))
 (l20:K.lookup p20=some ⟨u20,q20,.func (fnOf "frame_led_to" "frame_led_to" (defArgs s_frame_led_to) (defBody s_frame_led_to) (defScope s_frame_led_to) .none v20 w20 x20 r20 y20 z20),s20⟩)
 (d20:codeIn K y20 "frame_led_to"=true)
 (k20:keepIn K (.ref p20)=true)
 (a21:nsIn K mainGlobals "leading_to"=some (some (.ref p21)))
 (l21:K.lookup p21=some ⟨u21,q21,.func (fnOf "leading_to" "leading_to" (defArgs s_leading_to) (defBody s_leading_to) (defScope s_leading_to) .none v21 w21 x21 r21 y21 z21),s21⟩)
 (d21:codeIn K y21 "leading_to"=true)
 (k21:keepIn K (.ref p21)=true)
 (a22:nsIn K mainGlobals "kept_from_writing"=some (some (.ref p22)))
 (l22:K.lookup p22=some ⟨u22,q22,.func (fnOf "kept_from_writing" "kept_from_writing" (defArgs s_kept_from_writing) (defBody s_kept_from_writing) (defScope s_kept_from_writing) .none v22 w22 x22 r22 y22 z22),s22⟩)
 (d22:codeIn K y22 "kept_from_writing"=true)
 (k22:keepIn K (.ref p22)=true)
 (a23:nsIn K mainGlobals "let_be_written"=some (some (.ref p23)))
 (l23:K.lookup p23=some ⟨u23,q23,.func (fnOf "let_be_written" "let_be_written" (defArgs s_let_be_written) (defBody s_let_be_written) (defScope s_let_be_written) .none v23 w23 x23 r23 y23 z23),s23⟩)
 (d23:codeIn K y23 "let_be_written"=true)
 (k23:keepIn K (.ref p23)=true)
 (a24:findIn K (.ref C1) "__init__"=some (some (.ref p24)))
 (i24:isFn K (.ref p24)=true)
 (l24:K.lookup p24=some ⟨u24,q24,.func (fnOf "__init__" "Access.__init__" (defArgs s_Access_init) (defBody s_Access_init) (defScope s_Access_init) .none v24 w24 x24 r24 y24 z24),s24⟩)
 (d24:codeIn K y24 "Access.__init__"=true)
 (k24:keepIn K (.ref p24)=true)
 (a25:findIn K (.ref C1) "has_any"=some (some (.ref p25)))
 (i25:isFn K (.ref p25)=true)
 (l25:K.lookup p25=some ⟨u25,q25,.func (fnOf "has_any" "Access.has_any" (defArgs s_has_any) (defBody s_has_any) (defScope s_has_any) .none v25 w25 x25 r25 y25 z25),s25⟩)
 (d25:codeIn K y25 "Access.has_any"=true)
 (k25:keepIn K (.ref p25)=true)
 (a26:findIn K (.ref C2) "__init__"=some (some (.ref p26)))
 (i26:isFn K (.ref p26)=true)
 (l26:K.lookup p26=some ⟨u26,q26,.func (fnOf "__init__" "Way.__init__" (defArgs s_Way_init) (defBody s_Way_init) (defScope s_Way_init) .none v26 w26 x26 r26 y26 z26),s26⟩)
 (d26:codeIn K y26 "Way.__init__"=true)
 (k26:keepIn K (.ref p26)=true)
 (a27:findIn K (.ref C2) "go_through"=some (some (.ref p27)))
 (i27:isFn K (.ref p27)=true)
 (l27:K.lookup p27=some ⟨u27,q27,.func (fnOf "go_through" "Way.go_through" (defArgs s_go_through) (defBody s_go_through) (defScope s_go_through) .none v27 w27 x27 r27 y27 z27),s27⟩)
 (d27:codeIn K y27 "Way.go_through"=true)
 (k27:keepIn K (.ref p27)=true)
 (a28:findIn K (.ref C2) "last_entry"=some (some (.ref p28)))
 (i28:isFn K (.ref p28)=true)
 (l28:K.lookup p28=some ⟨u28,q28,.func (fnOf "last_entry" "Way.last_entry" (defArgs s_last_entry) (defBody s_last_entry) (defScope s_last_entry) .none v28 w28 x28 r28 y28 z28),s28⟩)
 (d28:codeIn K y28 "Way.last_entry"=true)
 (k28:keepIn K (.ref p28)=true)
 (a29:findIn K (.ref C2) "last_level"=some (some (.ref p29)))
 (i29:isFn K (.ref p29)=true)
 (l29:K.lookup p29=some ⟨u29,q29,.func (fnOf "last_level" "Way.last_level" (defArgs s_last_level) (defBody s_last_level) (defScope s_last_level) .none v29 w29 x29 r29 y29 z29),s29⟩)
 (d29:codeIn K y29 "Way.last_level"=true)
 (k29:keepIn K (.ref p29)=true)
 (a30:findIn K (.ref C2) "all_say"=some (some (.ref p30)))
 (i30:isFn K (.ref p30)=true)
 (l30:K.lookup p30=some ⟨u30,q30,.func (fnOf "all_say" "Way.all_say" (defArgs s_all_say) (defBody s_all_say) (defScope s_all_say) .none v30 w30 x30 r30 y30 z30),s30⟩)
 (d30:codeIn K y30 "Way.all_say"=true)
 (k30:keepIn K (.ref p30)=true)
 (a31:findIn K (.ref C2) "any_says"=some (some (.ref p31)))
 (i31:isFn K (.ref p31)=true)
 (l31:K.lookup p31=some ⟨u31,q31,.func (fnOf "any_says" "Way.any_says" (defArgs s_any_says) (defBody s_any_says) (defScope s_any_says) .none v31 w31 x31 r31 y31 z31),s31⟩)
 (d31:codeIn K y31 "Way.any_says"=true)
 (k31:keepIn K (.ref p31)=true)
 (a32:nsIn K mainGlobals "look"=some (some (.ref p32)))
 (l32:K.lookup p32=some ⟨u32,q32,.func (fnOf "look" "look" (defArgs s_look) (defBody s_look) (defScope s_look) .none v32 w32 x32 r32 y32 z32),s32⟩)
 (d32:codeIn K y32 "look"=true)
 (k32:keepIn K (.ref p32)=true)
 (a33:nsIn K mainGlobals "look_up"=some (some (.ref p33)))
 (l33:K.lookup p33=some ⟨u33,q33,.func (fnOf "look_up" "look_up" (defArgs s_look_up) (defBody s_look_up) (defScope s_look_up) .none v33 w33 x33 r33 y33 z33),s33⟩)
 (d33:codeIn K y33 "look_up"=true)
 (k33:keepIn K (.ref p33)=true)
 (a34:nsIn K mainGlobals "reserved_bits"=some (some (.ref p34)))
 (l34:K.lookup p34=some ⟨u34,q34,.func (fnOf "reserved_bits" "reserved_bits" (defArgs s_reserved_bits) (defBody s_reserved_bits) (defScope s_reserved_bits) .none v34 w34 x34 r34 y34 z34),s34⟩)
 (d34:codeIn K y34 "reserved_bits"=true)
 (k34:keepIn K (.ref p34)=true)
 (a35:nsIn K mainGlobals "end_of_way"=some (some (.ref p35)))
 (l35:K.lookup p35=some ⟨u35,q35,.func (fnOf "end_of_way" "end_of_way" (defArgs s_end_of_way) (defBody s_end_of_way) (defScope s_end_of_way) .none v35 w35 x35 r35 y35 z35),s35⟩)
 (d35:codeIn K y35 "end_of_way"=true)
 (k35:keepIn K (.ref p35)=true)
 (a36:nsIn K mainGlobals "fault_code"=some (some (.ref p36)))
 (l36:K.lookup p36=some ⟨u36,q36,.func (fnOf "fault_code" "fault_code" (defArgs s_fault_code) (defBody s_fault_code) (defScope s_fault_code) .none v36 w36 x36 r36 y36 z36),s36⟩)
 (d36:codeIn K y36 "fault_code"=true)
 (k36:keepIn K (.ref p36)=true)
 (a37:nsIn K mainGlobals "key_denies"=some (some (.ref p37)))
 (l37:K.lookup p37=some ⟨u37,q37,.func (fnOf "key_denies" "key_denies" (defArgs s_key_denies) (defBody s_key_denies) (defScope s_key_denies) .none v37 w37 x37 r37 y37 z37),s37⟩)
 (d37:codeIn K y37 "key_denies"=true)
 (k37:keepIn K (.ref p37)=true)
 (a38:nsIn K mainGlobals "is_allowed"=some (some (.ref p38)))
 (l38:K.lookup p38=some ⟨u38,q38,.func (fnOf "is_allowed" "is_allowed" (defArgs s_is_allowed) (defBody s_is_allowed) (defScope s_is_allowed) .none v38 w38 x38 r38 y38 z38),s38⟩)
 (d38:codeIn K y38 "is_allowed"=true)
 (k38:keepIn K (.ref p38)=true)
 (a39:nsIn K mainGlobals "user_may"=some (some (.ref p39)))
 (l39:K.lookup p39=some ⟨u39,q39,.func (fnOf "user_may" "user_may" (defArgs s_user_may) (defBody s_user_may) (defScope s_user_may) .none v39 w39 x39 r39 y39 z39),s39⟩)
 (d39:codeIn K y39 "user_may"=true)
 (k39:keepIn K (.ref p39)=true)
 (a40:nsIn K mainGlobals "kernel_may_execute"=some (some (.ref p40)))
 (l40:K.lookup p40=some ⟨u40,q40,.func (fnOf "kernel_may_execute" "kernel_may_execute" (defArgs s_kernel_may_execute) (defBody s_kernel_may_execute) (defScope s_kernel_may_execute) .none v40 w40 x40 r40 y40 z40),s40⟩)
 (d40:codeIn K y40 "kernel_may_execute"=true)
 (k40:keepIn K (.ref p40)=true)
 (a41:nsIn K mainGlobals "kernel_may_move"=some (some (.ref p41)))
 (l41:K.lookup p41=some ⟨u41,q41,.func (fnOf "kernel_may_move" "kernel_may_move" (defArgs s_kernel_may_move) (defBody s_kernel_may_move) (defScope s_kernel_may_move) .none v41 w41 x41 r41 y41 z41),s41⟩)
 (d41:codeIn K y41 "kernel_may_move"=true)
 (k41:keepIn K (.ref p41)=true)
 (a42:nsIn K mainGlobals "mark"=some (some (.ref p42)))
 (l42:K.lookup p42=some ⟨u42,q42,.func (fnOf "mark" "mark" (defArgs s_mark) (defBody s_mark) (defScope s_mark) .none v42 w42 x42 r42 y42 z42),s42⟩)
 (d42:codeIn K y42 "mark"=true)
 (k42:keepIn K (.ref p42)=true)
 (a43:nsIn K mainGlobals "read"=some (some (.ref p43)))
 (l43:K.lookup p43=some ⟨u43,q43,.func (fnOf "read" "read" (defArgs s_read) (defBody s_read) (defScope s_read) .none v43 w43 x43 r43 y43 z43),s43⟩)
 (d43:codeIn K y43 "read"=true)
 (k43:keepIn K (.ref p43)=true)
 (a44:nsIn K mainGlobals "write"=some (some (.ref p44)))
 (l44:K.lookup p44=some ⟨u44,q44,.func (fnOf "write" "write" (defArgs s_write) (defBody s_write) (defScope s_write) .none v44 w44 x44 r44 y44 z44),s44⟩)
 (d44:codeIn K y44 "write"=true)
 (k44:keepIn K (.ref p44)=true)
 (a45:nsIn K mainGlobals "is_granted"=some (some (.ref p45)))
 (l45:K.lookup p45=some ⟨u45,q45,.func (fnOf "is_granted" "is_granted" (defArgs s_is_granted) (defBody s_is_granted) (defScope s_is_granted) .none v45 w45 x45 r45 y45 z45),s45⟩)
 (d45:codeIn K y45 "is_granted"=true)
 (k45:keepIn K (.ref p45)=true)
 (a46:nsIn K mainGlobals "address_behind"=some (some (.ref p46)))
 (l46:K.lookup p46=some ⟨u46,q46,.func (fnOf "address_behind" "address_behind" (defArgs s_address_behind) (defBody s_address_behind) (defScope s_address_behind) .none v46 w46 x46 r46 y46 z46),s46⟩)
 (d46:codeIn K y46 "address_behind"=true)
 (k46:keepIn K (.ref p46)=true)
 (a47:nsIn K mainGlobals "find_octet"=some (some (.ref p47)))
 (l47:K.lookup p47=some ⟨u47,q47,.func (fnOf "find_octet" "find_octet" (defArgs s_find_octet) (defBody s_find_octet) (defScope s_find_octet) .none v47 w47 x47 r47 y47 z47),s47⟩)
 (d47:codeIn K y47 "find_octet"=true)
 (k47:keepIn K (.ref p47)=true)
 (a48:nsIn K mainGlobals "readable_from"=some (some (.ref p48)))
 (l48:K.lookup p48=some ⟨u48,q48,.func (fnOf "readable_from" "readable_from" (defArgs s_readable_from) (defBody s_readable_from) (defScope s_readable_from) .none v48 w48 x48 r48 y48 z48),s48⟩)
 (d48:codeIn K y48 "readable_from"=true)
 (k48:keepIn K (.ref p48)=true)
 (a49:nsIn K mainGlobals "new"=some (some (.ref p49)))
 (l49:K.lookup p49=some ⟨u49,q49,.func (fnOf "new" "new" (defArgs s_new) (defBody s_new) (defScope s_new) .none v49 w49 x49 r49 y49 z49),s49⟩)
 (d49:codeIn K y49 "new"=true)
 (k49:keepIn K (.ref p49)=true)
 (a50:nsIn K mainGlobals "give"=some (some (.ref p50)))
 (l50:K.lookup p50=some ⟨u50,q50,.func (fnOf "give" "give" (defArgs s_give) (defBody s_give) (defScope s_give) .none v50 w50 x50 r50 y50 z50),s50⟩)
 (d50:codeIn K y50 "give"=true)
 (k50:keepIn K (.ref p50)=true)
 (a51:nsIn K mainGlobals "share"=some (some (.ref p51)))
 (l51:K.lookup p51=some ⟨u51,q51,.func (fnOf "share" "share" (defArgs s_share) (defBody s_share) (defScope s_share) .none v51 w51 x51 r51 y51 z51),s51⟩)
 (d51:codeIn K y51 "share"=true)
 (k51:keepIn K (.ref p51)=true)
 (a52:nsIn K mainGlobals "take_back"=some (some (.ref p52)))
 (l52:K.lookup p52=some ⟨u52,q52,.func (fnOf "take_back" "take_back" (defArgs s_take_back) (defBody s_take_back) (defScope s_take_back) .none v52 w52 x52 r52 y52 z52),s52⟩)
 (d52:codeIn K y52 "take_back"=true)
 (k52:keepIn K (.ref p52)=true)
 (a53:nsIn K mainGlobals "touch"=some (some (.ref p53)))
 (l53:K.lookup p53=some ⟨u53,q53,.func (fnOf "touch" "touch" (defArgs s_touch) (defBody s_touch) (defScope s_touch) .none v53 w53 x53 r53 y53 z53),s53⟩)
 (d53:codeIn K y53 "touch"=true)
 (k53:keepIn K (.ref p53)=true)
 (a54:nsIn K mainGlobals "can_be_shared"=some (some (.ref p54)))
 (l54:K.lookup p54=some ⟨u54,q54,.func (fnOf "can_be_shared" "can_be_shared" (defArgs s_can_be_shared) (defBody s_can_be_shared) (defScope s_can_be_shared) .none v54 w54 x54 r54 y54 z54),s54⟩)
 (d54:codeIn K y54 "can_be_shared"=true)
 (k54:keepIn K (.ref p54)=true)
 (a55:nsIn K mainGlobals "places_on_way"=some (some (.ref p55)))
 (l55:K.lookup p55=some ⟨u55,q55,.func (fnOf "places_on_way" "places_on_way" (defArgs s_places_on_way) (defBody s_places_on_way) (defScope s_places_on_way) .none v55 w55 x55 r55 y55 z55),s55⟩)
 (d55:codeIn K y55 "places_on_way"=true)
 (k55:keepIn K (.ref p55)=true)
 (a56:nsIn K mainGlobals "missing_table_count"=some (some (.ref p56)))
 (l56:K.lookup p56=some ⟨u56,q56,.func (fnOf "missing_table_count" "missing_table_count" (defArgs s_missing_table_count) (defBody s_missing_table_count) (defScope s_missing_table_count) .none v56 w56 x56 r56 y56 z56),s56⟩)
 (d56:codeIn K y56 "missing_table_count"=true)
 (k56:keepIn K (.ref p56)=true)
 (a57:nsIn K mainGlobals "build_tables"=some (some (.ref p57)))
 (l57:K.lookup p57=some ⟨u57,q57,.func (fnOf "build_tables" "build_tables" (defArgs s_build_tables) (defBody s_build_tables) (defScope s_build_tables) .none v57 w57 x57 r57 y57 z57),s57⟩)
 (d57:codeIn K y57 "build_tables"=true)
 (k57:keepIn K (.ref p57)=true)
 (a58:nsIn K mainGlobals "free_empty_tables"=some (some (.ref p58)))
 (l58:K.lookup p58=some ⟨u58,q58,.func (fnOf "free_empty_tables" "free_empty_tables" (defArgs s_free_empty_tables) (defBody s_free_empty_tables) (defScope s_free_empty_tables) .none v58 w58 x58 r58 y58 z58),s58⟩)
 (d58:codeIn K y58 "free_empty_tables"=true)
 (k58:keepIn K (.ref p58)=true)
 (a59:nsIn K mainGlobals "page_entry"=some (some (.ref p59)))
 (l59:K.lookup p59=some ⟨u59,q59,.func (fnOf "page_entry" "page_entry" (defArgs s_page_entry) (defBody s_page_entry) (defScope s_page_entry) .none v59 w59 x59 r59 y59 z59),s59⟩)
 (d59:codeIn K y59 "page_entry"=true)
 (k59:keepIn K (.ref p59)=true)
 (a60:findIn K (.ref C3) "__init__"=some (some (.ref p60)))
 (i60:isFn K (.ref p60)=true)
 (l60:K.lookup p60=some ⟨u60,q60,.func (fnOf "__init__" "Tree.__init__" (defArgs s_Tree_init) (defBody s_Tree_init) (defScope s_Tree_init) .none v60 w60 x60 r60 y60 z60),s60⟩)
 (d60:codeIn K y60 "Tree.__init__"=true)
 (k60:keepIn K (.ref p60)=true)
 (a61:nsIn K mainGlobals "frames_below"=some (some (.ref p61)))
 (l61:K.lookup p61=some ⟨u61,q61,.func (fnOf "frames_below" "frames_below" (defArgs s_frames_below) (defBody s_frames_below) (defScope s_frames_below) .none v61 w61 x61 r61 y61 z61),s61⟩)
 (d61:codeIn K y61 "frames_below"=true)
 (k61:keepIn K (.ref p61)=true)
 (a62:nsIn K mainGlobals "copy_tree"=some (some (.ref p62)))
 (l62:K.lookup p62=some ⟨u62,q62,.func (fnOf "copy_tree" "copy_tree" (defArgs s_copy_tree) (defBody s_copy_tree) (defScope s_copy_tree) .none v62 w62 x62 r62 y62 z62),s62⟩)
 (d62:codeIn K y62 "copy_tree"=true)
 (k62:keepIn K (.ref p62)=true)
 (a63:nsIn K mainGlobals "can_be_copied"=some (some (.ref p63)))
 (l63:K.lookup p63=some ⟨u63,q63,.func (fnOf "can_be_copied" "can_be_copied" (defArgs s_can_be_copied) (defBody s_can_be_copied) (defScope s_can_be_copied) .none v63 w63 x63 r63 y63 z63),s63⟩)
 (d63:codeIn K y63 "can_be_copied"=true)
 (k63:keepIn K (.ref p63)=true)
 (a64:nsIn K mainGlobals "copy_table"=some (some (.ref p64)))
 (l64:K.lookup p64=some ⟨u64,q64,.func (fnOf "copy_table" "copy_table" (defArgs s_copy_table) (defBody s_copy_table) (defScope s_copy_table) .none v64 w64 x64 r64 y64 z64),s64⟩)
 (d64:codeIn K y64 "copy_table"=true)
 (k64:keepIn K (.ref p64)=true)
 (a65:nsIn K mainGlobals "share_page"=some (some (.ref p65)))
 (l65:K.lookup p65=some ⟨u65,q65,.func (fnOf "share_page" "share_page" (defArgs s_share_page) (defBody s_share_page) (defScope s_share_page) .none v65 w65 x65 r65 y65 z65),s65⟩)
 (d65:codeIn K y65 "share_page"=true)
 (k65:keepIn K (.ref p65)=true)
 (a66:nsIn K mainGlobals "drop_tree"=some (some (.ref p66)))
 (l66:K.lookup p66=some ⟨u66,q66,.func (fnOf "drop_tree" "drop_tree" (defArgs s_drop_tree) (defBody s_drop_tree) (defScope s_drop_tree) .none v66 w66 x66 r66 y66 z66),s66⟩)
 (d66:codeIn K y66 "drop_tree"=true)
 (k66:keepIn K (.ref p66)=true)
 (a67:findIn K (.ref C4) "__init__"=some (some (.ref p67)))
 (i67:isFn K (.ref p67)=true)
 (l67:K.lookup p67=some ⟨u67,q67,.func (fnOf "__init__" "Reader.__init__" (defArgs s_Reader_init) (defBody s_Reader_init) (defScope s_Reader_init) .none v67 w67 x67 r67 y67 z67),s67⟩)
 (d67:codeIn K y67 "Reader.__init__"=true)
 (k67:keepIn K (.ref p67)=true)
 (a68:findIn K (.ref C4) "at_end"=some (some (.ref p68)))
 (i68:isFn K (.ref p68)=true)
 (l68:K.lookup p68=some ⟨u68,q68,.func (fnOf "at_end" "Reader.at_end" (defArgs s_at_end) (defBody s_at_end) (defScope s_at_end) .none v68 w68 x68 r68 y68 z68),s68⟩)
 (d68:codeIn K y68 "Reader.at_end"=true)
 (k68:keepIn K (.ref p68)=true)
 (a69:findIn K (.ref C4) "take_number"=some (some (.ref p69)))
 (i69:isFn K (.ref p69)=true)
 (l69:K.lookup p69=some ⟨u69,q69,.func (fnOf "take_number" "Reader.take_number" (defArgs s_take_number) (defBody s_take_number) (defScope s_take_number) .none v69 w69 x69 r69 y69 z69),s69⟩)
 (d69:codeIn K y69 "Reader.take_number"=true)
 (k69:keepIn K (.ref p69)=true)
 (a70:findIn K (.ref C4) "take_numbers"=some (some (.ref p70)))
 (i70:isFn K (.ref p70)=true)
 (l70:K.lookup p70=some ⟨u70,q70,.func (fnOf "take_numbers" "Reader.take_numbers" (defArgs s_take_numbers) (defBody s_take_numbers) (defScope s_take_numbers) .none v70 w70 x70 r70 y70 z70),s70⟩)
 (d70:codeIn K y70 "Reader.take_numbers"=true)
 (k70:keepIn K (.ref p70)=true)
 (a71:findIn K (.ref C4) "take_row"=some (some (.ref p71)))
 (i71:isFn K (.ref p71)=true)
 (l71:K.lookup p71=some ⟨u71,q71,.func (fnOf "take_row" "Reader.take_row" (defArgs s_take_row) (defBody s_take_row) (defScope s_take_row) .none v71 w71 x71 r71 y71 z71),s71⟩)
 (d71:codeIn K y71 "Reader.take_row"=true)
 (k71:keepIn K (.ref p71)=true)
 (a72:nsIn K mainGlobals "answers"=some (some (.ref p72)))
 (l72:K.lookup p72=some ⟨u72,q72,.func (fnOf "answers" "answers" (defArgs s_answers) (defBody s_answers) (defScope s_answers) .none v72 w72 x72 r72 y72 z72),s72⟩)
 (d72:codeIn K y72 "answers"=true)
 (k72:keepIn K (.ref p72)=true)
 (a73:nsIn K mainGlobals "answer_call"=some (some (.ref p73)))
 (l73:K.lookup p73=some ⟨u73,q73,.func (fnOf "answer_call" "answer_call" (defArgs s_answer_call) (defBody s_answer_call) (defScope s_answer_call) .none v73 w73 x73 r73 y73 z73),s73⟩)
 (d73:codeIn K y73 "answer_call"=true)
 (k73:keepIn K (.ref p73)=true)
 (a74:nsIn K mainGlobals "answer_lay"=some (some (.ref p74)))
 (l74:K.lookup p74=some ⟨u74,q74,.func (fnOf "answer_lay" "answer_lay" (defArgs s_answer_lay) (defBody s_answer_lay) (defScope s_answer_lay) .none v74 w74 x74 r74 y74 z74),s74⟩)
 (d74:codeIn K y74 "answer_lay"=true)
 (k74:keepIn K (.ref p74)=true)
 (a75:nsIn K mainGlobals "answer_tell"=some (some (.ref p75)))
 (l75:K.lookup p75=some ⟨u75,q75,.func (fnOf "answer_tell" "answer_tell" (defArgs s_answer_tell) (defBody s_answer_tell) (defScope s_answer_tell) .none v75 w75 x75 r75 y75 z75),s75⟩)
 (d75:codeIn K y75 "answer_tell"=true)
 (k75:keepIn K (.ref p75)=true)
 (a76:nsIn K mainGlobals "answer_look"=some (some (.ref p76)))
 (l76:K.lookup p76=some ⟨u76,q76,.func (fnOf "answer_look" "answer_look" (defArgs s_answer_look) (defBody s_answer_look) (defScope s_answer_look) .none v76 w76 x76 r76 y76 z76),s76⟩)
 (d76:codeIn K y76 "answer_look"=true)
 (k76:keepIn K (.ref p76)=true)
 (a77:nsIn K mainGlobals "answer_read"=some (some (.ref p77)))
 (l77:K.lookup p77=some ⟨u77,q77,.func (fnOf "answer_read" "answer_read" (defArgs s_answer_read) (defBody s_answer_read) (defScope s_answer_read) .none v77 w77 x77 r77 y77 z77),s77⟩)
 (d77:codeIn K y77 "answer_read"=true)
 (k77:keepIn K (.ref p77)=true)
 (a78:nsIn K mainGlobals "answer_write"=some (some (.ref p78)))
 (l78:K.lookup p78=some ⟨u78,q78,.func (fnOf "answer_write" "answer_write" (defArgs s_answer_write) (defBody s_answer_write) (defScope s_answer_write) .none v78 w78 x78 r78 y78 z78),s78⟩)
 (d78:codeIn K y78 "answer_write"=true)
 (k78:keepIn K (.ref p78)=true)
 (a79:nsIn K mainGlobals "answer_give"=some (some (.ref p79)))
 (l79:K.lookup p79=some ⟨u79,q79,.func (fnOf "answer_give" "answer_give" (defArgs s_answer_give) (defBody s_answer_give) (defScope s_answer_give) .none v79 w79 x79 r79 y79 z79),s79⟩)
 (d79:codeIn K y79 "answer_give"=true)
 (k79:keepIn K (.ref p79)=true)
 (a80:nsIn K mainGlobals "answer_share"=some (some (.ref p80)))
 (l80:K.lookup p80=some ⟨u80,q80,.func (fnOf "answer_share" "answer_share" (defArgs s_answer_share) (defBody s_answer_share) (defScope s_answer_share) .none v80 w80 x80 r80 y80 z80),s80⟩)
 (d80:codeIn K y80 "answer_share"=true)
 (k80:keepIn K (.ref p80)=true)
 (a81:nsIn K mainGlobals "answer_back"=some (some (.ref p81)))
 (l81:K.lookup p81=some ⟨u81,q81,.func (fnOf "answer_back" "answer_back" (defArgs s_answer_back) (defBody s_answer_back) (defScope s_answer_back) .none v81 w81 x81 r81 y81 z81),s81⟩)
 (d81:codeIn K y81 "answer_back"=true)
 (k81:keepIn K (.ref p81)=true)
 (a82:nsIn K mainGlobals "answer_touch"=some (some (.ref p82)))
 (l82:K.lookup p82=some ⟨u82,q82,.func (fnOf "answer_touch" "answer_touch" (defArgs s_answer_touch) (defBody s_answer_touch) (defScope s_answer_touch) .none v82 w82 x82 r82 y82 z82),s82⟩)
 (d82:codeIn K y82 "answer_touch"=true)
 (k82:keepIn K (.ref p82)=true)
 (gc0:nsIn K mainGlobals "MEMORY_SIZE"=some (some (.int 1048576 tc0)))
 (gc1:nsIn K mainGlobals "FRAME_SIZE"=some (some (.int 4096 tc1)))
 (gc2:nsIn K mainGlobals "FRAME_COUNT"=some (some (.int 256 tc2)))
 (gc3:nsIn K mainGlobals "WORD_SIZE"=some (some (.int 8 tc3)))
 (gc4:nsIn K mainGlobals "WORDS_IN_FRAME"=some (some (.int 512 tc4)))
 (gc5:nsIn K mainGlobals "MOST_USES"=some (some (.int 65535 tc5)))
 (gc6:nsIn K mainGlobals "DONE"=some (some (.int 0 tc6)))
 (gc7:nsIn K mainGlobals "REFUSED"=some (some (.int (-1) tc7)))
 (gc8:nsIn K mainGlobals "TOO_FEW_FRAMES"=some (some (.int (-2) tc8)))
 (gc9:nsIn K mainGlobals "UNFIT_PAGE"=some (some (.int (-3) tc9)))
 (gc10:nsIn K mainGlobals "THERE"=some (some (.int 1 tc10)))
 (gc11:nsIn K mainGlobals "WRITABLE"=some (some (.int 2 tc11)))
 (gc12:nsIn K mainGlobals "USERS"=some (some (.int 4 tc12)))
 (gc13:nsIn K mainGlobals "USED"=some (some (.int 32 tc13)))
 (gc14:nsIn K mainGlobals "WRITTEN"=some (some (.int 64 tc14)))
 (gc15:nsIn K mainGlobals "BIG"=some (some (.int 128 tc15)))
 (gc16:nsIn K mainGlobals "COPIED_WHEN_WRITTEN"=some (some (.int 512 tc16)))
 (gc17:nsIn K mainGlobals "NOT_EXECUTED"=some (some (.int 9223372036854775808 tc17)))
 (gc18:nsIn K mainGlobals "BEGINNING"=some (some (.int 4503599627366400 tc18)))
 (gc19:nsIn K mainGlobals "READING"=some (some (.int 0 tc19)))
 (gc20:nsIn K mainGlobals "WRITING"=some (some (.int 1 tc20)))
 (gc21:nsIn K mainGlobals "EXECUTING"=some (some (.int 2 tc21)))
 (gc22:nsIn K mainGlobals "FOR_USER"=some (some (.int 1 tc22)))
 (gc23:nsIn K mainGlobals "WRITE_PROTECTION"=some (some (.int 2 tc23)))
 (gc24:nsIn K mainGlobals "NOT_EXECUTED_KNOWN"=some (some (.int 4 tc24)))
 (gc25:nsIn K mainGlobals "KERNEL_EXECUTES_NO_USERS"=some (some (.int 8 tc25)))
 (gc26:nsIn K mainGlobals "KERNEL_MOVES_NO_USERS"=some (some (.int 16 tc26)))
 (gc27:nsIn K mainGlobals "KERNEL_MOVES_NOW"=some (some (.int 32 tc27)))
 (gc28:nsIn K mainGlobals "KEYS_KNOWN"=some (some (.int 64 tc28)))
 (gc29:nsIn K mainGlobals "FOUND"=some (some (.int 0 tc29)))
 (gc30:nsIn K mainGlobals "FAULT"=some (some (.int 1 tc30)))
 (gc31:nsIn K mainGlobals "BEYOND"=some (some (.int 2 tc31)))
 (gc32:nsIn K mainGlobals "NO_ADDRESS"=some (some (.int 3 tc32)))
 (gc33:nsIn K mainGlobals "NOT_THERE"=some (some (.int 0 tc33)))
 (gc34:nsIn K mainGlobals "DENIED"=some (some (.int 1 tc34)))
 (gc35:nsIn K mainGlobals "RESERVED"=some (some (.int 9 tc35)))
 (gc36:nsIn K mainGlobals "DENIED_BY_KEY"=some (some (.int 33 tc36)))
 (gc37:nsIn K mainGlobals "RESERVED_ALWAYS"=some (some (.int 4502500115742720 tc37)))
 (gc38:nsIn K mainGlobals "MOST_OCTETS"=some (some (.int 65536 tc38)))
 (gc39:nsIn K mainGlobals "ADDRESS_COUNT"=some (some (.int 18446744073709551616 tc39)))
 (gc40:nsIn K mainGlobals "MOST_FLAGS"=some (some (.int 7 tc40)))
 (gc41:nsIn K mainGlobals "TO_BE_WRITTEN"=some (some (.int 1 tc41)))
 (gc42:nsIn K mainGlobals "FOR_THE_USER"=some (some (.int 2 tc42)))
 (gc43:nsIn K mainGlobals "NOT_TO_BE_EXECUTED"=some (some (.int 4 tc43)))
 (gc44:nsIn K mainGlobals "MOVED"=some (some (.int 1 tc44)))
 (gc45:nsIn K mainGlobals "TELL"=some (some (.int 0 tc45)))
 (gc46:nsIn K mainGlobals "LOOK"=some (some (.int 1 tc46)))
 (gc47:nsIn K mainGlobals "READ"=some (some (.int 2 tc47)))
 (gc48:nsIn K mainGlobals "WRITE"=some (some (.int 3 tc48)))
 (gc49:nsIn K mainGlobals "NEW"=some (some (.int 4 tc49)))
 (gc50:nsIn K mainGlobals "GIVE"=some (some (.int 5 tc50)))
 (gc51:nsIn K mainGlobals "SHARE"=some (some (.int 6 tc51)))
 (gc52:nsIn K mainGlobals "BACK"=some (some (.int 7 tc52)))
 (gc53:nsIn K mainGlobals "COPY"=some (some (.int 8 tc53)))
 (gc54:nsIn K mainGlobals "TOUCH"=some (some (.int 9 tc54)))
 (gc55:nsIn K mainGlobals "DROP"=some (some (.int 10 tc55)))
 (gc56:nsIn K mainGlobals "LAY"=some (some (.int 11 tc56)))
 (gc57:nsIn K mainGlobals "LEVELS"=some (some (.ref ac57)))
 (oc57:K.lookup ac57=some ⟨.type "tuple",qc57,.seq #[.int 4 tc57_0,.int 3 tc57_1,.int 2 tc57_2,.int 1 tc57_3] nc57,sc57⟩)
 (gc58:nsIn K mainGlobals "RESERVED_IF_BIG"=some (some (.ref ac58)))
 (oc58:K.lookup ac58=some ⟨.type "dict",none,.dict #[⟨hashInt 3,.int 3 uc58_0,.int 1073733632 tc58_0⟩,⟨hashInt 2,.int 2 uc58_1,.int 2088960 tc58_1⟩] nc58,#[]⟩)
 (yc58:(ac58==sysModules)=false)
 (no_len:nsIn K mainGlobals "len"=some none)
 (no_min:nsIn K mainGlobals "min"=some none)
 (no_max:nsIn K mainGlobals "max"=some none)
 (no_all:nsIn K mainGlobals "all"=some none)
 (no_any:nsIn K mainGlobals "any"=some none)
 (no_range:nsIn K mainGlobals "range"=some none)
 (no_enumerate:nsIn K mainGlobals "enumerate"=some none)
 (no_list:nsIn K mainGlobals "list"=some none)
 (no_dict:nsIn K mainGlobals "dict"=some none)
 (no_sorted:nsIn K mainGlobals "sorted"=some none):∃A,Txt K mg A:=by
  refine⟨⟨C0,C1,C2,C3,C4,(p0,_),(p1,_),(p2,_),(p3,_),(p4,_),(p5,_),(p6,_),(p7,_),(p8,_),(p9,_),(p10,_),(p11,_),(p12,_),(p13,_),(p14,_),(p15,_),(p16,_),(p17,_),(p18,_),(p19,_),(p20,_),(p21,_),(p22,_),(p23,_),(p24,_),(p25,_),(p26,_),(p27,_),(p28,_),(p29,_),(p30,_),(p31,_),(p32,_),(p33,_),(p34,_),(p35,_),(p36,_),(p37,_),(p38,_),(p39,_),(p40,_),(p41,_),(p42,_),(p43,_),(p44,_),(p45,_),(p46,_),(p47,_),(p48,_),(p49,_),(p50,_),(p51,_),(p52,_),(p53,_),(p54,_),(p55,_),(p56,_),(p57,_),(p58,_),(p59,_),(p60,_),(p61,_),(p62,_),(p63,_),(p64,_),(p65,_),(p66,_),(p67,_),(p68,_),(p69,_),(p70,_),(p71,_),(p72,_),(p73,_),(p74,_),(p75,_),(p76,_),(p77,_),(p78,_),(p79,_),(p80,_),(p81,_),(p82,_),tc0,tc1,tc2,tc3,tc4,tc5,tc6,tc7,tc8,tc9,tc10,tc11,tc12,tc13,tc14,tc15,tc16,tc17,tc18,tc19,tc20,tc21,tc22,tc23,tc24,tc25,tc26,tc27,tc28,tc29,tc30,tc31,tc32,tc33,tc34,tc35,tc36,tc37,tc38,tc39,tc40,tc41,tc42,tc43,tc44,tc45,tc46,tc47,tc48,tc49,tc50,tc51,tc52,tc53,tc54,tc55,tc56,ac57,ac58⟩,{
    c_Memory:=⟨gC0,hC0,oC0,sC0⟩
    m_Memory:=mg_of X G aC0
    mk_Memory:=⟨mC0,a0,i0,kC0⟩
    na_Memory_frames:=nC0_0
    na_Memory_counts:=nC0_1
    c_Access:=⟨gC1,hC1,oC1,sC1⟩
    m_Access:=mg_of X G aC1
    mk_Access:=⟨mC1,a24,i24,kC1⟩
    na_Access_root_table:=nC1_0
    na_Access_flags:=nC1_1
    na_Access_rights:=nC1_2
    na_Access_kind:=nC1_3
    c_Way:=⟨gC2,hC2,oC2,sC2⟩
    m_Way:=mg_of X G aC2
    mk_Way:=⟨mC2,a26,i26,kC2⟩
    na_Way_places:=nC2_0
    na_Way_entries:=nC2_1
    c_Tree:=⟨gC3,hC3,oC3,sC3⟩
    m_Tree:=mg_of X G aC3
    mk_Tree:=⟨mC3,a60,i60,kC3⟩
    na_Tree_tables:=nC3_0
    na_Tree_pages:=nC3_1
    c_Reader:=⟨gC4,hC4,oC4,sC4⟩
    m_Reader:=mg_of X G aC4
    mk_Reader:=⟨mC4,a67,i67,kC4⟩
    na_Reader_numbers:=nC4_0
    na_Reader_position:=nC4_1
    f_Memory_init:=mtt (fun_mk l0 d0 k0) (fun _ _ _ _ _ _ us h=>match us,h with |[_],_=>rfl) ⟨a0,i0,k0⟩
    f_word_at:=mtt (fun_mk l1 d1 k1) (fun _ _ _ _ _ _ us h=>match us,h with |[_,_],_=>rfl) ⟨a1,i1,k1⟩
    f_put_word:=mtt (fun_mk l2 d2 k2) (fun _ _ _ _ _ _ us h=>match us,h with |[_,_,_],_=>rfl) ⟨a2,i2,k2⟩
    f_octet_at:=mtt (fun_mk l3 d3 k3) (fun _ _ _ _ _ _ us h=>match us,h with |[_,_],_=>rfl) ⟨a3,i3,k3⟩
    f_put_octet:=mtt (fun_mk l4 d4 k4) (fun _ _ _ _ _ _ us h=>match us,h with |[_,_,_],_=>rfl) ⟨a4,i4,k4⟩
    f_octets_from:=mtt (fun_mk l5 d5 k5) (fun _ _ _ _ _ _ us h=>match us,h with |[_,_,_],_=>rfl) ⟨a5,i5,k5⟩
    f_filled_places:=mtt (fun_mk l6 d6 k6) (fun _ _ _ _ _ _ us h=>match us,h with |[_,_],_=>rfl) ⟨a6,i6,k6⟩
    f_copy_words:=mtt (fun_mk l7 d7 k7) (fun _ _ _ _ _ _ us h=>match us,h with |[_,_,_],_=>rfl) ⟨a7,i7,k7⟩
    f_free_frame_count:=mtt (fun_mk l8 d8 k8) (fun _ _ _ _ _ _ us h=>match us,h with |[_],_=>rfl) ⟨a8,i8,k8⟩
    f_take_frame:=mtt (fun_mk l9 d9 k9) (fun _ _ _ _ _ _ us h=>match us,h with |[_],_=>rfl) ⟨a9,i9,k9⟩
    f_use_once_more:=mtt (fun_mk l10 d10 k10) (fun _ _ _ _ _ _ us h=>match us,h with |[_,_],_=>rfl) ⟨a10,i10,k10⟩
    f_use_once_less:=mtt (fun_mk l11 d11 k11) (fun _ _ _ _ _ _ us h=>match us,h with |[_,_],_=>rfl) ⟨a11,i11,k11⟩
    f_set_free:=mtt (fun_mk l12 d12 k12) (fun _ _ _ _ _ _ us h=>match us,h with |[_,_],_=>rfl) ⟨a12,i12,k12⟩
    f_octet_shift:=fnt (fun_mk l13 d13 k13) (fun _ _ _ _ _ _ us h=>match us,h with |[_],_=>rfl) (mg_of X G a13)
    f_is_none:=fnt (fun_mk l14 d14 k14) (fun _ _ _ _ _ _ us h=>match us,h with |[_],_=>rfl) (mg_of X G a14)
    f_is_of_page:=fnt (fun_mk l15 d15 k15) (fun _ _ _ _ _ _ us h=>match us,h with |[_],_=>rfl) (mg_of X G a15)
    f_span_of_level:=fnt (fun_mk l16 d16 k16) (fun _ _ _ _ _ _ us h=>match us,h with |[_],_=>rfl) (mg_of X G a16)
    f_entry_place:=fnt (fun_mk l17 d17 k17) (fun _ _ _ _ _ _ us h=>match us,h with |[_,_,_],_=>rfl) (mg_of X G a17)
    f_is_there:=fnt (fun_mk l18 d18 k18) (fun _ _ _ _ _ _ us h=>match us,h with |[_],_=>rfl) (mg_of X G a18)
    f_key_of:=fnt (fun_mk l19 d19 k19) (fun _ _ _ _ _ _ us h=>match us,h with |[_],_=>rfl) (mg_of X G a19)
    f_frame_led_to:=fnt (fun_mk l20 d20 k20) (fun _ _ _ _ _ _ us h=>match us,h with |[_],_=>rfl) (mg_of X G a20)
    f_leading_to:=fnt (fun_mk l21 d21 k21) (fun _ _ _ _ _ _ us h=>match us,h with |[_,_],_=>rfl) (mg_of X G a21)
    f_kept_from_writing:=fnt (fun_mk l22 d22 k22) (fun _ _ _ _ _ _ us h=>match us,h with |[_],_=>rfl) (mg_of X G a22)
    f_let_be_written:=fnt (fun_mk l23 d23 k23) (fun _ _ _ _ _ _ us h=>match us,h with |[_],_=>rfl) (mg_of X G a23)
    f_Access_init:=mtt (fun_mk l24 d24 k24) (fun _ _ _ _ _ _ us h=>match us,h with |[_,_,_],_=>rfl) ⟨a24,i24,k24⟩
    f_has_any:=mtt (fun_mk l25 d25 k25) (fun _ _ _ _ _ _ us h=>match us,h with |[_,_],_=>rfl) ⟨a25,i25,k25⟩
    f_Way_init:=mtt (fun_mk l26 d26 k26) (fun _ _ _ _ _ _ us h=>match us,h with |[_],_=>rfl) ⟨a26,i26,k26⟩
    f_go_through:=mtt (fun_mk l27 d27 k27) (fun _ _ _ _ _ _ us h=>match us,h with |[_,_,_],_=>rfl) ⟨a27,i27,k27⟩
    f_last_entry:=mtt (fun_mk l28 d28 k28) (fun _ _ _ _ _ _ us h=>match us,h with |[_],_=>rfl) ⟨a28,i28,k28⟩
    f_last_level:=mtt (fun_mk l29 d29 k29) (fun _ _ _ _ _ _ us h=>match us,h with |[_],_=>rfl) ⟨a29,i29,k29⟩
    f_all_say:=mtt (fun_mk l30 d30 k30) (fun _ _ _ _ _ _ us h=>match us,h with |[_,_],_=>rfl) ⟨a30,i30,k30⟩
    f_any_says:=mtt (fun_mk l31 d31 k31) (fun _ _ _ _ _ _ us h=>match us,h with |[_,_],_=>rfl) ⟨a31,i31,k31⟩
    f_look:=fnt (fun_mk l32 d32 k32) (fun _ _ _ _ _ _ us h=>match us,h with |[_,_,_,_],_=>rfl) (mg_of X G a32)
    f_look_up:=fnt (fun_mk l33 d33 k33) (fun _ _ _ _ _ _ us h=>match us,h with |[_,_,_,_],_=>rfl) (mg_of X G a33)
    f_reserved_bits:=fnt (fun_mk l34 d34 k34) (fun _ _ _ _ _ _ us h=>match us,h with |[_,_,_],_=>rfl) (mg_of X G a34)
    f_end_of_way:=fnt (fun_mk l35 d35 k35) (fun _ _ _ _ _ _ us h=>match us,h with |[_,_,_,_],_=>rfl) (mg_of X G a35)
    f_fault_code:=fnt (fun_mk l36 d36 k36) (fun _ _ _ _ _ _ us h=>match us,h with |[_,_],_=>rfl) (mg_of X G a36)
    f_key_denies:=fnt (fun_mk l37 d37 k37) (fun _ _ _ _ _ _ us h=>match us,h with |[_,_],_=>rfl) (mg_of X G a37)
    f_is_allowed:=fnt (fun_mk l38 d38 k38) (fun _ _ _ _ _ _ us h=>match us,h with |[_,_],_=>rfl) (mg_of X G a38)
    f_user_may:=fnt (fun_mk l39 d39 k39) (fun _ _ _ _ _ _ us h=>match us,h with |[_,_],_=>rfl) (mg_of X G a39)
    f_kernel_may_execute:=fnt (fun_mk l40 d40 k40) (fun _ _ _ _ _ _ us h=>match us,h with |[_,_],_=>rfl) (mg_of X G a40)
    f_kernel_may_move:=fnt (fun_mk l41 d41 k41) (fun _ _ _ _ _ _ us h=>match us,h with |[_,_],_=>rfl) (mg_of X G a41)
    f_mark:=fnt (fun_mk l42 d42 k42) (fun _ _ _ _ _ _ us h=>match us,h with |[_,_,_],_=>rfl) (mg_of X G a42)
    f_read:=fnt (fun_mk l43 d43 k43) (fun _ _ _ _ _ _ us h=>match us,h with |[_,_,_,_],_=>rfl) (mg_of X G a43)
    f_write:=fnt (fun_mk l44 d44 k44) (fun _ _ _ _ _ _ us h=>match us,h with |[_,_,_,_,_],_=>rfl) (mg_of X G a44)
    f_is_granted:=fnt (fun_mk l45 d45 k45) (fun _ _ _ _ _ _ us h=>match us,h with |[_],_=>rfl) (mg_of X G a45)
    f_address_behind:=fnt (fun_mk l46 d46 k46) (fun _ _ _ _ _ _ us h=>match us,h with |[_,_],_=>rfl) (mg_of X G a46)
    f_find_octet:=fnt (fun_mk l47 d47 k47) (fun _ _ _ _ _ _ us h=>match us,h with |[_,_,_,_],_=>rfl) (mg_of X G a47)
    f_readable_from:=fnt (fun_mk l48 d48 k48) (fun _ _ _ _ _ _ us h=>match us,h with |[_,_,_],_=>rfl) (mg_of X G a48)
    f_new:=fnt (fun_mk l49 d49 k49) (fun _ _ _ _ _ _ us h=>match us,h with |[_],_=>rfl) (mg_of X G a49)
    f_give:=fnt (fun_mk l50 d50 k50) (fun _ _ _ _ _ _ us h=>match us,h with |[_,_,_,_],_=>rfl) (mg_of X G a50)
    f_share:=fnt (fun_mk l51 d51 k51) (fun _ _ _ _ _ _ us h=>match us,h with |[_,_,_,_,_],_=>rfl) (mg_of X G a51)
    f_take_back:=fnt (fun_mk l52 d52 k52) (fun _ _ _ _ _ _ us h=>match us,h with |[_,_,_],_=>rfl) (mg_of X G a52)
    f_touch:=fnt (fun_mk l53 d53 k53) (fun _ _ _ _ _ _ us h=>match us,h with |[_,_,_],_=>rfl) (mg_of X G a53)
    f_can_be_shared:=fnt (fun_mk l54 d54 k54) (fun _ _ _ _ _ _ us h=>match us,h with |[_,_],_=>rfl) (mg_of X G a54)
    f_places_on_way:=fnt (fun_mk l55 d55 k55) (fun _ _ _ _ _ _ us h=>match us,h with |[_,_,_],_=>rfl) (mg_of X G a55)
    f_missing_table_count:=fnt (fun_mk l56 d56 k56) (fun _ _ _ _ _ _ us h=>match us,h with |[_],_=>rfl) (mg_of X G a56)
    f_build_tables:=fnt (fun_mk l57 d57 k57) (fun _ _ _ _ _ _ us h=>match us,h with |[_,_,_],_=>rfl) (mg_of X G a57)
    f_free_empty_tables:=fnt (fun_mk l58 d58 k58) (fun _ _ _ _ _ _ us h=>match us,h with |[_,_],_=>rfl) (mg_of X G a58)
    f_page_entry:=fnt (fun_mk l59 d59 k59) (fun _ _ _ _ _ _ us h=>match us,h with |[_,_],_=>rfl) (mg_of X G a59)
    f_Tree_init:=mtt (fun_mk l60 d60 k60) (fun _ _ _ _ _ _ us h=>match us,h with |[_,_,_],_=>rfl) ⟨a60,i60,k60⟩
    f_frames_below:=fnt (fun_mk l61 d61 k61) (fun _ _ _ _ _ _ us h=>match us,h with |[_,_],_=>rfl) (mg_of X G a61)
    f_copy_tree:=fnt (fun_mk l62 d62 k62) (fun _ _ _ _ _ _ us h=>match us,h with |[_,_],_=>rfl) (mg_of X G a62)
    f_can_be_copied:=fnt (fun_mk l63 d63 k63) (fun _ _ _ _ _ _ us h=>match us,h with |[_,_],_=>rfl) (mg_of X G a63)
    f_copy_table:=fnt (fun_mk l64 d64 k64) (fun _ _ _ _ _ _ us h=>match us,h with |[_,_,_],_=>rfl) (mg_of X G a64)
    f_share_page:=fnt (fun_mk l65 d65 k65) (fun _ _ _ _ _ _ us h=>match us,h with |[_,_],_=>rfl) (mg_of X G a65)
    f_drop_tree:=fnt (fun_mk l66 d66 k66) (fun _ _ _ _ _ _ us h=>match us,h with |[_,_],_=>rfl) (mg_of X G a66)
    f_Reader_init:=mtt (fun_mk l67 d67 k67) (fun _ _ _ _ _ _ us h=>match us,h with |[_,_],_=>rfl) ⟨a67,i67,k67⟩
    f_at_end:=mtt (fun_mk l68 d68 k68) (fun _ _ _ _ _ _ us h=>match us,h with |[_],_=>rfl) ⟨a68,i68,k68⟩
    f_take_number:=mtt (fun_mk l69 d69 k69) (fun _ _ _ _ _ _ us h=>match us,h with |[_],_=>rfl) ⟨a69,i69,k69⟩
    f_take_numbers:=mtt (fun_mk l70 d70 k70) (fun _ _ _ _ _ _ us h=>match us,h with |[_,_],_=>rfl) ⟨a70,i70,k70⟩
    f_take_row:=mtt (fun_mk l71 d71 k71) (fun _ _ _ _ _ _ us h=>match us,h with |[_],_=>rfl) ⟨a71,i71,k71⟩
    f_answers:=fnt (fun_mk l72 d72 k72) (fun _ _ _ _ _ _ us h=>match us,h with |[_],_=>rfl) (mg_of X G a72)
    f_answer_call:=fnt (fun_mk l73 d73 k73) (fun _ _ _ _ _ _ us h=>match us,h with |[_,_],_=>rfl) (mg_of X G a73)
    f_answer_lay:=fnt (fun_mk l74 d74 k74) (fun _ _ _ _ _ _ us h=>match us,h with |[_,_],_=>rfl) (mg_of X G a74)
    f_answer_tell:=fnt (fun_mk l75 d75 k75) (fun _ _ _ _ _ _ us h=>match us,h with |[_,_],_=>rfl) (mg_of X G a75)
    f_answer_look:=fnt (fun_mk l76 d76 k76) (fun _ _ _ _ _ _ us h=>match us,h with |[_,_],_=>rfl) (mg_of X G a76)
    f_answer_read:=fnt (fun_mk l77 d77 k77) (fun _ _ _ _ _ _ us h=>match us,h with |[_,_],_=>rfl) (mg_of X G a77)
    f_answer_write:=fnt (fun_mk l78 d78 k78) (fun _ _ _ _ _ _ us h=>match us,h with |[_,_],_=>rfl) (mg_of X G a78)
    f_answer_give:=fnt (fun_mk l79 d79 k79) (fun _ _ _ _ _ _ us h=>match us,h with |[_,_],_=>rfl) (mg_of X G a79)
    f_answer_share:=fnt (fun_mk l80 d80 k80) (fun _ _ _ _ _ _ us h=>match us,h with |[_,_],_=>rfl) (mg_of X G a80)
    f_answer_back:=fnt (fun_mk l81 d81 k81) (fun _ _ _ _ _ _ us h=>match us,h with |[_,_],_=>rfl) (mg_of X G a81)
    f_answer_touch:=fnt (fun_mk l82 d82 k82) (fun _ _ _ _ _ _ us h=>match us,h with |[_,_],_=>rfl) (mg_of X G a82)
    g_MEMORY_SIZE:=mg_of X G gc0
    g_FRAME_SIZE:=mg_of X G gc1
    g_FRAME_COUNT:=mg_of X G gc2
    g_WORD_SIZE:=mg_of X G gc3
    g_WORDS_IN_FRAME:=mg_of X G gc4
    g_MOST_USES:=mg_of X G gc5
    g_DONE:=mg_of X G gc6
    g_REFUSED:=mg_of X G gc7
    g_TOO_FEW_FRAMES:=mg_of X G gc8
    g_UNFIT_PAGE:=mg_of X G gc9
    g_THERE:=mg_of X G gc10
    g_WRITABLE:=mg_of X G gc11
    g_USERS:=mg_of X G gc12
    g_USED:=mg_of X G gc13
    g_WRITTEN:=mg_of X G gc14
    g_BIG:=mg_of X G gc15
    g_COPIED_WHEN_WRITTEN:=mg_of X G gc16
    g_NOT_EXECUTED:=mg_of X G gc17
    g_BEGINNING:=mg_of X G gc18
    g_READING:=mg_of X G gc19
    g_WRITING:=mg_of X G gc20
    g_EXECUTING:=mg_of X G gc21
    g_FOR_USER:=mg_of X G gc22
    g_WRITE_PROTECTION:=mg_of X G gc23
    g_NOT_EXECUTED_KNOWN:=mg_of X G gc24
    g_KERNEL_EXECUTES_NO_USERS:=mg_of X G gc25
    g_KERNEL_MOVES_NO_USERS:=mg_of X G gc26
    g_KERNEL_MOVES_NOW:=mg_of X G gc27
    g_KEYS_KNOWN:=mg_of X G gc28
    g_FOUND:=mg_of X G gc29
    g_FAULT:=mg_of X G gc30
    g_BEYOND:=mg_of X G gc31
    g_NO_ADDRESS:=mg_of X G gc32
    g_NOT_THERE:=mg_of X G gc33
    g_DENIED:=mg_of X G gc34
    g_RESERVED:=mg_of X G gc35
    g_DENIED_BY_KEY:=mg_of X G gc36
    g_RESERVED_ALWAYS:=mg_of X G gc37
    g_MOST_OCTETS:=mg_of X G gc38
    g_ADDRESS_COUNT:=mg_of X G gc39
    g_MOST_FLAGS:=mg_of X G gc40
    g_TO_BE_WRITTEN:=mg_of X G gc41
    g_FOR_THE_USER:=mg_of X G gc42
    g_NOT_TO_BE_EXECUTED:=mg_of X G gc43
    g_MOVED:=mg_of X G gc44
    g_TELL:=mg_of X G gc45
    g_LOOK:=mg_of X G gc46
    g_READ:=mg_of X G gc47
    g_WRITE:=mg_of X G gc48
    g_NEW:=mg_of X G gc49
    g_GIVE:=mg_of X G gc50
    g_SHARE:=mg_of X G gc51
    g_BACK:=mg_of X G gc52
    g_COPY:=mg_of X G gc53
    g_TOUCH:=mg_of X G gc54
    g_DROP:=mg_of X G gc55
    g_LAY:=mg_of X G gc56
    g_LEVELS:=mg_of X G gc57
    sq_LEVELS:=fun H=>.inr ⟨_,_,_,oc57,rfl,rfl,by show 4≤sizeLine;decide,Paired.cons ⟨_,rfl⟩ (Paired.cons ⟨_,rfl⟩ (Paired.cons ⟨_,rfl⟩ (Paired.cons ⟨_,rfl⟩ (Paired.nil))))⟩
    g_RESERVED_IF_BIG:=mg_of X G gc58
    dk_RESERVED_IF_BIG:=⟨yc58,_,[_,_],_,oc58,⟨rfl,rfl,rfl⟩,rfl,Paired.cons ⟨_,_,rfl,rfl,rfl⟩ (Paired.cons ⟨_,_,rfl,rfl,rfl⟩ (Paired.nil)),by decide⟩
    no_len:=mg_none_of X G no_len
    no_min:=mg_none_of X G no_min
    no_max:=mg_none_of X G no_max
    no_all:=mg_none_of X G no_all
    no_any:=mg_none_of X G no_any
    no_range:=mg_none_of X G no_range
    no_enumerate:=mg_none_of X G no_enumerate
    no_list:=mg_none_of X G no_list
    no_dict:=mg_none_of X G no_dict
    no_sorted:=mg_none_of X G no_sorted
  }⟩
end G
namespace G
open PySem PySem.Spec PyProof.Rows L2
theorem cv {Q:VK} {H:Hp} {x y:Int} (h:x=y) (k:Q (.int y) H):Q (.int x) H:=h▸k
theorem cb {Q:VK} {H:Hp} {x y:Bool} (h:x=y) (k:Q (.bl y) H):Q (.bl x) H:=h▸k
theorem nf {b:Bool} (h:¬b=true):b=false:=eq_false_of_ne_true h
def nl (m:Array Nat):List V:=m.toList.map fun(n:Nat)=>V.int (n:Int)
theorem nl_len (m:Array Nat):(nl m).length=m.size:=by simp[nl]
theorem nl_get {m:Array Nat} {i:Nat} (h:i<m.size):(nl m)[i]? = some (.int ((m.getD i 0:Nat):Int)):=by
 unfold nl
 rw[List.getElem?_map]
 simp[h]
theorem nl_set (m:Array Nat) (i x:Nat):(nl m).set i (.int (x:Int))=nl (m.setIfInBounds i x):=by
 unfold nl
 rw[Array.toList_setIfInBounds,List.map_set]
theorem nl_flat (m:Array Nat):(nl m).all flatV=true:=by
 unfold nl
 rw[List.all_map,List.all_eq_true]
 intro x _
 rfl
theorem ixN_nat {n i:Nat} (h:i<n):ixN n (i:Int)=some i:=by
 unfold ixN
 rw[if_pos (by omega),if_pos (by omega)];simp
def ky (i:Nat):Key:=Sum.inl (i:Int)
theorem ky_inj {i j:Nat} (h:ky i=ky j):i=j:=by
 have:=Sum.inl.inj h
 omega
structure FrOk (m:Sd19.Mem) (f:Nat) (kvs:List (Key×V)):Prop where
 nd:(kvs.map (·.1)).Nodup
 ks:∀p∈kvs,∃i x:Nat,p=(ky i,V.int (x:Int))∧i<512
 at_:∀i:Nat,i<512→(valV kvs (ky i)).getD (.int 0)=.int ((Sd19.load m (4096 * f+8 * i):Nat):Int)
theorem valV_mem:∀{kvs:List (Key×V)} {p:Key×V},(kvs.map (·.1)).Nodup→p∈kvs→valV kvs p.1=some p.2
  | [],_,_,h=>by cases h
  | q :: r, p, nd, h => by
    have nd':(q.1::r.map (·.1)).Nodup:=nd
    obtain⟨n1,n2⟩:=List.nodup_cons.mp nd'
    rcases List.mem_cons.mp h with e|e
    · rw[e];exact valV_pos rfl
    · have:¬q.1=p.1:=fun z=>n1 (by rw[z];exact List.mem_map.mpr ⟨p,e,rfl⟩)
      rw[valV_neg this]
      exact valV_mem n2 e
theorem valV_some:∀{kvs:List (Key×V)} {k:Key} {v:V},valV kvs k=some v→(k,v)∈kvs
  | [],_,_,h=>by cases h
  | q :: r, k, v, h => by
    by_cases e:q.1=k
    · rw[valV_pos e]at h
      have:=Option.some.inj h
      rw[←e,←this]
      simp
    · rw[valV_neg e]at h
      exact List.mem_cons_of_mem _ (valV_some h)
theorem putK_keys {kvs:List (Key×V)} {k:Key} {v:V} (h:valV kvs k≠none):(putK kvs k v).map (·.1)=kvs.map (·.1):=by
 unfold putK
 have:(kvs.any fun kv=>decide (kv.1=k))=true:=by
  rw[valV_any]
  cases e:valV kvs k with
  | none=>exact absurd e h
  | some _=>rfl
 rw[if_pos this,List.map_map]
 apply List.map_congr_left
 intro p _
 show(if p.1=k then(p.1,v)else p).1=p.1
 split<;>rfl
theorem putK_mem {kvs:List (Key×V)} {k:Key} {v:V} {p:Key×V} (h:p∈putK kvs k v):p=(k,v)∨p∈kvs:=by
 unfold putK at h
 split at h
 ·obtain⟨q,hq,e⟩:=List.mem_map.mp h
  by_cases z:q.1=k
  ·rw[if_pos z]at e
   left;rw[←e,z]
  ·rw[if_neg z]at e
   right;rw[←e];exact hq
 ·rcases List.mem_append.mp h with z|z
  ·exact .inr z
  ·exact .inl (by simpa using z)
section
variable {m m':Sd19.Mem} {f g:Nat} {kvs:List (Key×V)}
theorem FrOk.len (F:FrOk m f kvs):kvs.length≤512:=by
 have h:=F.nd.length_le_of_subset (l₂:=(List.range 512).map ky) (by
  intro k hk
  obtain⟨p,hp,e⟩:=List.mem_map.mp hk
  obtain⟨i,x,e2,hi⟩:=F.ks p hp
  rw[←e,e2]
  exact List.mem_map.mpr ⟨i,List.mem_range.mpr hi,rfl⟩)
 simpa using h
theorem FrOk.new (h:∀i,i<512→Sd19.load m (4096 * f+8 * i)=0):FrOk m f [] :=
 ⟨List.nodup_nil,(fun p hp=>by cases hp),fun i hi=>by rw[h i hi];rfl⟩
theorem FrOk.copy (F:FrOk m f kvs) (h:∀i,i<512→Sd19.load m' (4096 * g+8 * i)=Sd19.load m (4096 * f+8 * i)):FrOk m' g kvs :=
 ⟨F.nd,F.ks,fun i hi=>by rw[h i hi];exact F.at_ i hi⟩
theorem FrOk.put (F:FrOk m f kvs) (hm:M.MOk m) (hf:f<256) {i x:Nat} (hi:i<512) (hx:x<2 ^ 64):FrOk (Sd19.store m (4096 * f+8 * i) x) f (putK kvs (ky i) (.int (x:Int))):=by
 refine⟨?_,fun p hp=>?_,fun j hj=>?_⟩
 ·cases e:valV kvs (ky i)with
  | none=>exact nd_putK _ F.nd e
  | some v=>rw[putK_keys (by rw[e];simp)];exact F.nd
 ·rcases putK_mem hp with e|e
  ·exact⟨i,x,e,hi⟩
  ·exact F.ks p e
 ·rw[valV_put,M.load_store hm _ _ _ (by omega)]
  by_cases e:j=i
  ·subst e
   rw[if_pos rfl,if_pos rfl,Nat.mod_eq_of_lt hx]
   rfl
  ·rw[if_neg (fun z=>e (ky_inj z)),if_neg (by omega)]
   exact F.at_ j hj
theorem FrOk.get (F:FrOk m f kvs) {a:Nat} (ha:a / 4096=f):(valV kvs (ky (a % 4096 / 8))).getD (.int 0)=.int ((Sd19.load m a:Nat):Int):=by
 rw[F.at_ _ (by omega)]
 have:Sd19.load m (4096 * f+8 * (a % 4096 / 8))=Sd19.load m a:=by
  unfold Sd19.load
  rw[show(4096 * f+8 * (a % 4096 / 8)) / 8=a / 8 by omega]
 rw[this]
def keyI:Key→Int
 | .inl i=>i
 | .inr _=>0
def fl (f:Nat) (kvs:List (Key×V)):List Int:=(kvs.filter fun p=>!decide (p.2=V.int 0)).map fun p=>(f:Int) * 4096+keyI p.1 * 8
theorem FrOk.fl_perm (F:FrOk m f kvs):(fl f kvs).Perm ((M.fill m f).map fun(n:Nat)=>(n:Int)):=by
  have hv:∀p∈kvs,∃i,p=(ky i,V.int ((Sd19.load m (4096 * f+8 * i):Nat):Int))∧i<512:=fun p hp=>by
    obtain⟨i,x,e,hi⟩:=F.ks p hp
    have h1:=valV_mem F.nd hp
    have h2:=F.at_ i hi
    rw[e]at h1
    rw[h1]at h2
    exact⟨i,by rw[e,←h2];rfl,hi⟩
  apply (List.perm_ext_iff_of_nodup ?_ ?_).mpr
  · intro n
    unfold fl
    rw[List.mem_map,List.mem_map]
    constructor
    · rintro⟨p,hp,e⟩
      obtain⟨hp1,hp2⟩:=List.mem_filter.mp hp
      obtain⟨i,e2,hi⟩:=hv p hp1
      refine⟨4096 * f+8 * i,M.mem_fill.mpr ⟨⟨i,hi,rfl⟩,fun z=>?_⟩,?_⟩
      · rw[e2,z]at hp2
        have hp3:(!decide (V.int ((0:Nat):Int)=V.int 0))=true:=hp2
        exact absurd hp3 (by decide)
      · rw[←e,e2]
        show((4096 * f+8 * i:Nat):Int)=(f:Int) * 4096+(i:Int) * 8
        omega
    · rintro⟨a,ha,e⟩
      obtain⟨⟨i,hi,ea⟩,hne⟩:=M.mem_fill.mp ha
      have h2:=F.at_ i hi
      rw[←ea]at h2
      cases hval:valV kvs (ky i)with
      | none =>
        rw[hval]at h2
        have h3:V.int 0=V.int ((Sd19.load m a:Nat):Int):=h2
        have:=V.int.inj h3
        exact absurd (by omega) hne
      | some v =>
        rw[hval]at h2
        have h3:v=V.int ((Sd19.load m a:Nat):Int):=h2
        refine⟨(ky i,v),List.mem_filter.mpr ⟨valV_some hval,?_⟩,?_⟩
        · show(!decide (v=V.int 0))=true
          rw[h3,decide_eq_false (fun z=>hne (by have:=V.int.inj z;omega))]
          rfl
        · rw[←e,ea]
          show(f:Int) * 4096+(i:Int) * 8=((4096 * f+8 * i:Nat):Int)
          omega
  · unfold fl
    have h1:kvs.Pairwise (fun a b=>a.1≠b.1):=List.pairwise_map.mp F.nd
    have h2:(kvs.filter fun p=>!decide (p.2=V.int 0)).Pairwise (fun a b=>a.1≠b.1):=h1.filter _
    apply List.pairwise_map.mpr
    refine h2.imp_of_mem ?_
    intro a b ha hb hab
    obtain⟨i,e1,_⟩:=hv a (List.mem_filter.mp ha).1
    obtain⟨j,e2,_⟩:=hv b (List.mem_filter.mp hb).1
    rw[e1,e2]at hab ⊢
    have hij:i≠j:=fun z=>hab (by rw[z])
    show(f:Int) * 4096+(i:Int) * 8≠(f:Int) * 4096+(j:Int) * 8
    omega
  · apply List.pairwise_map.mpr
    refine(M.fill_nodup m f).imp ?_
    intro a b hab z
    exact hab (by omega)
theorem FrOk.sorted (F:FrOk m f kvs) {ns:List Int} (hp:ns.Perm (fl f kvs)) (hs:ns.Pairwise (· ≤ ·)):ns=(M.fill m f).map fun(n:Nat)=>(n:Int):=by
 refine(hp.trans F.fl_perm).eq_of_pairwise (le:=fun a b=>a≤b) (fun a b _ _ h1 h2=>Int.le_antisymm h1 h2) hs ?_
 apply List.pairwise_map.mpr
 refine(M.fill_sorted m f).imp ?_
 intro a b hab
 omega
end
def mf (lw lc:Addr):List (Str×V):=putF "counts" (.ref lc) (putF "frames" (.ref lw) [])
theorem mf_frames (lw lc:Addr):(mf lw lc).lookup ("frames" : Str)=some (.ref lw):=by
 unfold mf
 rw[lookup_putF,if_neg (by decide +kernel),lookup_putF,if_pos rfl]
theorem mf_counts (lw lc:Addr):(mf lw lc).lookup ("counts" : Str)=some (.ref lc):=by
 unfold mf
 rw[lookup_putF,if_pos rfl]
theorem mf_no (lw lc:Addr) {m:Str} (h1:¬m = "frames") (h2:¬m = "counts"):(mf lw lc).lookup m=none:=by
 unfold mf
 rw[lookup_putF,if_neg h2,lookup_putF,if_neg h1]
 rfl
structure MemAt (C:Addr) (H:Hp) (p lw lc:Addr) (s:Sd19.St):Prop where
 ob:∃dx,H p=some (.ins C dx (mf lw lc))
 ws:∃ds:List Addr,H lw=some (.lst (ds.map V.ref))∧ds.length=256∧ds.Nodup∧∀(f:Nat) (d:Addr),ds[f]? = some d→∃kvs,H d=some (.dK kvs)∧FrOk s.mem f kvs
 cs:H lc=some (.lst (nl s.count))
 wf:M.WF s
def NoD:HO→Prop
 | .dK _=>False
 | _=>True
structure Kp (lw lc:Addr) (H H':Hp):Prop where
 keep:∀b o,H b=some o→b≠lw→b≠lc→NoD o→H' b=some o
 there:∀b,H' b=none→H b=none
theorem Kp.refl (lw lc:Addr) (H:Hp):Kp lw lc H H:=⟨fun _ _ h _ _ _=>h,fun _ h=>h⟩
theorem Kp.trans {lw lc:Addr} {H H1 H2:Hp} (a:Kp lw lc H H1) (b:Kp lw lc H1 H2):Kp lw lc H H2:=⟨fun c o h h1 h2 h3=>b.keep c o (a.keep c o h h1 h2 h3) h1 h2 h3,fun c h=>a.there c (b.there c h)⟩
theorem upd_there {H:Hp} {p b:Addr} {o:HO} (h:upd H p o b=none):H b=none:=by
 by_cases e:b=p
 ·subst e;rw[upd_same]at h;cases h
 ·rw[upd_ne e]at h;exact h
theorem Kp.new {lw lc p:Addr} {o:HO} {H:Hp} (h:H p=none):Kp lw lc H (upd H p o):=⟨fun b u e _ _ _=>by rw[upd_ne (ne_of_none e h)];exact e,fun _ h=>upd_there h⟩
theorem Kp.atw {lw lc:Addr} {o:HO} {H:Hp}:Kp lw lc H (upd H lw o):=⟨fun b u e h1 _ _=>by rw[upd_ne h1];exact e,fun _ h=>upd_there h⟩
theorem Kp.atc {lw lc:Addr} {o:HO} {H:Hp}:Kp lw lc H (upd H lc o):=⟨fun b u e _ h2 _=>by rw[upd_ne h2];exact e,fun _ h=>upd_there h⟩
theorem Kp.atd {lw lc d:Addr} {kvs:List (Key×V)} {o:HO} {H:Hp} (h:H d=some (.dK kvs)):Kp lw lc H (upd H d o):=⟨fun b u e _ _ h3=>by
 rw[upd_ne (fun z=>by rw[z,h]at e;cases e;exact h3)];exact e,fun _ h=>upd_there h⟩
theorem len_ne {H:Hp} {a b:Addr} {xs ys:List V} (h:H a=some (.lst xs)) (h':H b=some (.lst ys)) (n:xs.length≠ys.length):a≠b:=ne_of h h' fun e=>n (congrArg List.length (HO.lst.inj e))
section
variable {C p lw lc:Addr} {s:Sd19.St} {H H':Hp}
theorem MemAt.ne (B:MemAt C H p lw lc s):lw≠lc:=by
 obtain⟨ds,h1,h2,_⟩:=B.ws
 have h3:=B.cs
 have z:(nl s.count).length=256:=by rw[nl_len];exact B.wf.c
 refine ne_of h1 h3 fun e=>?_
 have e2:=HO.lst.inj e
 have g1:(ds.map V.ref)[0]? = some (V.ref (ds[0]'(by omega))):=by simp[h2]
 rw[e2,nl_get (by rw[B.wf.c];decide)]at g1
 cases g1
theorem MemAt.np (B:MemAt C H p lw lc s):p≠lw∧p≠lc:=by
 obtain⟨dx,ob⟩:=B.ob
 obtain⟨ds,h1,_⟩:=B.ws
 exact⟨ne_of ob h1 (fun e=>nomatch e),ne_of ob B.cs (fun e=>nomatch e)⟩
theorem MemAt.frame (B:MemAt C H p lw lc s) {f:Nat} (hf:f<256):∃(ds:List Addr) (d:Addr) (kvs:List (Key×V)),H lw=some (.lst (ds.map V.ref))∧ds.length=256∧ds.Nodup∧ds[f]? = some d∧H d=some (.dK kvs)∧FrOk s.mem f kvs:=by
 obtain⟨ds,h1,h2,h3,h4⟩:=B.ws
 have e:ds[f]? = some (ds[f]'(by omega)):=List.getElem?_eq_getElem (by omega)
 obtain⟨kvs,h5,h6⟩:=h4 f _ e
 exact⟨ds,_,kvs,h1,h2,h3,e,h5,h6⟩
theorem ds_at {ds:List Addr} {f:Nat} {d:Addr} (h:ds[f]? = some d):atI (ds.map V.ref) ((f:Nat):Int)=some (.ref d):=atI_nat (by rw[List.getElem?_map,h];rfl)
theorem MemAt.setc (B:MemAt C H p lw lc s) {c:Array Nat} (hc:c.size=256):MemAt C (upd H lc (.lst (nl c))) p lw lc ⟨s.mem,c⟩:=by
 obtain⟨dx,ob⟩:=B.ob
 obtain⟨ds,h1,h2,h3,h4⟩:=B.ws
 refine⟨⟨dx,by rw[upd_ne B.np.2];exact ob⟩,⟨ds,by rw[upd_ne B.ne];exact h1,h2,h3,fun f d e=>?_⟩,upd_same,⟨B.wf.m,hc⟩⟩
 obtain⟨kvs,h5,h6⟩:=h4 f d e
 exact⟨kvs,by rw[upd_ne (ne_of h5 B.cs (fun e=>nomatch e))];exact h5,h6⟩
theorem MemAt.putd (B:MemAt C H p lw lc s) {ds:List Addr} {f:Nat} {d:Addr} {kvs kvs':List (Key×V)} {m':Sd19.Mem} (h1:H lw=some (.lst (ds.map V.ref))) (h2:ds[f]? = some d) (h3:H d=some (.dK kvs)) (hm:M.MOk m')
  (F:FrOk m' f kvs') (hs:∀b,b / 4096≠f→Sd19.load m' b=Sd19.load s.mem b):MemAt C (upd H d (.dK kvs')) p lw lc ⟨m',s.count⟩:=by
 obtain⟨dx,ob⟩:=B.ob
 obtain⟨ds',h1',z1,z2,z3⟩:=B.ws
 have e:ds'=ds:=by
  rw[h1]at h1'
  have:=HO.lst.inj (Option.some.inj h1')
  exact(List.map_inj_right (fun a b (z:V.ref a=V.ref b)=>V.ref.inj z)).mp this.symm
 subst e
 refine⟨⟨dx,by rw[upd_ne (ne_of ob h3 (fun e=>nomatch e))];exact ob⟩,⟨ds',by rw[upd_ne (ne_of h1 h3 (fun e=>nomatch e))];exact h1,z1,z2,fun g c hc=>?_⟩,by rw[upd_ne (ne_of B.cs h3 (fun e=>nomatch e))];exact B.cs,⟨hm,B.wf.c⟩⟩
 by_cases hg:g=f
 ·subst hg
  rw[h2]at hc
  cases hc
  exact⟨kvs',upd_same,F⟩
 ·obtain⟨kv,h5,h6⟩:=z3 g c hc
  have hcd:c≠d:=fun q=>hg (nd_ix z2 (by rw[hc,q]) h2)
  refine⟨kv,by rw[upd_ne hcd];exact h5,h6.copy fun i hi=>hs _ (by omega)⟩
theorem MemAt.newd (B:MemAt C H p lw lc s) {ds:List Addr} {f:Nat} {d:Addr} {kvs':List (Key×V)} {m':Sd19.Mem} (h1:H lw=some (.lst (ds.map V.ref))) (hf:f<256) (h3:H d=none) (hm:M.MOk m')
    (F:FrOk m' f kvs') (hs:∀b,b / 4096≠f→Sd19.load m' b=Sd19.load s.mem b):MemAt C (upd (upd H d (.dK kvs')) lw (.lst ((ds.map V.ref).set f (.ref d)))) p lw lc ⟨m',s.count⟩:=by
  obtain⟨dx,ob⟩:=B.ob
  obtain⟨ds',h1',z1,z2,z3⟩:=B.ws
  have e:ds'=ds:=by
    rw[h1]at h1'
    have:=HO.lst.inj (Option.some.inj h1')
    exact(List.map_inj_right (fun a b (z:V.ref a=V.ref b)=>V.ref.inj z)).mp this.symm
  subst e
  have ndw:d≠lw:=Ne.symm (ne_of_none h1 h3)
  have dn:d∉ds':=fun hm=>by
    obtain⟨i,hi⟩:=List.mem_iff_getElem?.mp hm
    obtain⟨kv,h5,_⟩:=z3 i d hi
    rw[h3]at h5;cases h5
  refine⟨⟨dx,by rw[upd_ne B.np.1,upd_ne (ne_of_none ob h3)];exact ob⟩,⟨ds'.set f d,by rw[upd_same,List.map_set],by rw[List.length_set];exact z1,?_,fun g c hc=>?_⟩,by rw[upd_ne (Ne.symm B.ne),upd_ne (ne_of_none B.cs h3)];exact B.cs,⟨hm,B.wf.c⟩⟩
  · apply List.pairwise_iff_getElem.mpr
    intro i j hi hj hij
    rw[List.length_set]at hi hj
    rw[List.getElem_set,List.getElem_set]
    have nij:i≠j:=by omega
    by_cases c1:f=i
    · subst c1
      rw[if_pos rfl,if_neg nij]
      intro q
      exact dn (by rw[q];exact List.getElem_mem _)
    · rw[if_neg c1]
      by_cases c2:f=j
      · subst c2
        rw[if_pos rfl]
        intro q
        exact dn (by rw[←q];exact List.getElem_mem _)
      · rw[if_neg c2]
        exact List.pairwise_iff_getElem.mp z2 i j hi hj hij
  · rw[List.getElem?_set]at hc
    by_cases c1:f=g
    · subst c1
      rw[if_pos rfl,if_pos (by omega)]at hc
      cases hc
      exact⟨kvs',by rw[upd_ne ndw,upd_same],F⟩
    · rw[if_neg c1]at hc
      obtain⟨kv,h5,h6⟩:=z3 g c hc
      refine⟨kv,by rw[upd_ne (ne_of h5 h1 (fun e=>nomatch e)),upd_ne (ne_of_none h5 h3)];exact h5,h6.copy fun i hi=>hs _ (by omega)⟩
theorem MemAt.keep (B:MemAt C H p lw lc s) (k:∀b o,H b=some o→H' b=some o):MemAt C H' p lw lc s:=by
 obtain⟨dx,ob⟩:=B.ob
 obtain⟨ds,h1,h2,h3,h4⟩:=B.ws
 exact⟨⟨dx,k _ _ ob⟩,⟨ds,k _ _ h1,h2,h3,fun f d e=>let ⟨kvs,h5,h6⟩:=h4 f d e;⟨kvs,k _ _ h5,h6⟩⟩,k _ _ B.cs,B.wf⟩
theorem MemAt.new (B:MemAt C H p lw lc s) {q:Addr} {o:HO} (h:H q=none):MemAt C (upd H q o) p lw lc s:=B.keep fun b u e=>by rw[upd_ne (ne_of_none e h)];exact e
theorem MemAt.off (B:MemAt C H p lw lc s) {l:Addr} {xs:List V} (h:H l=some (.lst xs)) (n:xs.length≠256):l≠lw∧l≠lc:=by
 obtain⟨ds,h1,h2,_⟩:=B.ws
 refine⟨len_ne h h1 ?_,len_ne h B.cs ?_⟩
 ·rw[List.length_map,h2];exact n
 ·rw[nl_len,B.wf.c];exact n
theorem MemAt.offo (B:MemAt C H p lw lc s) {l:Addr} {o:HO} (h:H l=some o) (n:∀xs,o≠.lst xs):l≠lw∧l≠lc:=by
 obtain⟨ds,h1,_⟩:=B.ws
 exact⟨ne_of h h1 (n _),ne_of h B.cs (n _)⟩
end
theorem lc_by {J:It} {g:TG} {tt:TT} {te:TE} {vs:List Nat} {σ:L2.St} {H1:Hp} {D:Addr} {QQ:Hp→Prop} (n:Nat) (Pv:Nat→Hp→Prop) (h0:Pv 0 (upd H1 D (.lst [])))
    (hgo:∀i H,i<n→Pv i H→J.go i H∧∀x H',J.yld i H x H'→g x (wipe σ vs) H' fun σ2 H2=>wipe σ2 vs=wipe σ vs∧tt σ2 H2 fun b H3 =>
      if b=true then te σ2 H3 fun y H4=>∃acc,H4 D=some (.lst acc)∧acc.length<sizeLine∧Pv (i+1) (upd H4 D (.lst (acc++[y])))else Pv (i+1) H3)
    (hst:∀H,Pv n H→J.stop n H∧QQ H) :
    ∃ W : Nat → Nat → Hp → Prop, (∃ m, W 0 m (upd H1 D (.lst []))) ∧ ∀ i m H, W i m H →
      (J.stop i H∧QQ H)∨(J.go i H∧∃Nx:Hp→Prop,(∀H',Nx H'→∃m',m'<m∧W (i+1) m' H')∧∀x H',J.yld i H x H'→g x (wipe σ vs) H' fun σ2 H2=>wipe σ2 vs=wipe σ vs∧tt σ2 H2 fun b H3 =>
        if b=true then te σ2 H3 fun y H4=>∃acc,H4 D=some (.lst acc)∧acc.length<sizeLine∧Nx (upd H4 D (.lst (acc++[y])))else Nx H3):=by
  refine⟨fun i m H=>m=n - i∧i≤n∧Pv i H,⟨n,by simp,Nat.zero_le _,h0⟩,?_⟩
  rintro i m H ⟨rfl,hi,p⟩
  by_cases hlt:i<n
  · obtain⟨g1,g2⟩:=hgo i H hlt p
    exact .inr ⟨g1,Pv (i+1),fun H' p'=>⟨n - (i+1),by omega,rfl,hlt,p'⟩,g2⟩
  · have e:i=n:=by omega
    subst e
    exact .inl (hst H p)
section
variable {P:Program} {w:World} {K:PySem.W.Frag} {mg:Str→Option Value} {base:Heap} {A:Adr}
def spWordAt (C:Addr):Sp:=fun vs H Q _=>∃(p lw lc:Addr) (s:Sd19.St) (a:Nat),vs=[.ref p,.int (a:Int)]∧MemAt C H p lw lc s∧a<1048576∧Q (.int ((Sd19.load s.mem a:Nat):Int)) H
theorem sc_word_at:FnScope ["self","place"] ["self","place"] (defScope s_word_at):=⟨rfl,rfl,rfl,by decide +kernel,rfl,by decide +kernel,by decide +kernel⟩
theorem ok_word_at (T:Txt K mg A):FnOk P w K mg base CX0 1 A.word_at.1 A.word_at.2 ["self","place"] (spWordAt A.C_Memory):=by
 refine T.f_word_at.f.ok sc_word_at (fun vs H Q E h=>?_) (fun cdv A' outer s0 H vs Q E hr h=>?_)
 ·obtain⟨p,lw,lc,s,a,rfl,_⟩:=h
  rfl
 ·obtain⟨p,lw,lc,s,a,rfl,B,ha,k⟩:=h
  obtain⟨dx,ob⟩:=B.ob
  obtain⟨ds,d,kvs,h1,h2,h3,h4,h5,F⟩:=B.frame (f:=a / 4096) (by omega)
  have e1:((a:Int) / 4096)=((a / 4096:Nat):Int):=by omega
  have e2:((a:Int) % 4096 / 8)=((a % 4096 / 8:Nat):Int):=by omega
  refine⟨_,(pss_one (ps_ret (pe_dget2 (hu_of hr) (pe_ix ix_list (pe_fld (pv 0) rfl) (pe_op op_fdivW (pv 1) (pe_globI rfl T.g_FRAME_SIZE)) (fun _ _=>rfl)) (pe_op op_fdivW (pe_op op_mod (pv 1) (pe_globI rfl T.g_FRAME_SIZE)) (pe_globI rfl T.g_WORD_SIZE)) pe_int ⟨rfl,rfl,rfl,rfl⟩))),?_⟩
  refine⟨_,rfl,p,_,dx,_,_,rfl,ob,T.c_Memory,T.na_Memory_frames,mf_frames _ _,_,rfl,_,_,rfl,rfl,⟨by decide,by decide⟩,lw,_,_,_,rfl,rfl,SqL.of h1,(by rw[e1];exact ds_at h4),d,rfl,.inl ⟨_,.inl h5⟩,
   _,rfl,_,_,rfl,rfl,(by show(0:Int)<4096;decide),_,_,rfl,rfl,⟨by decide,by decide⟩,_,(by show DGet H d (V.int ((a:Int) % 4096 / 8)) _;rw[e2];exact DGet.k (k:=ky (a % 4096 / 8)) h5),?_⟩
  rw[F.get rfl]
  exact k
def spPutWord (C:Addr):Sp:=fun vs H Q _=>∃(p lw lc:Addr) (s:Sd19.St) (a x:Nat),vs=[.ref p,.int (a:Int),.int (x:Int)]∧MemAt C H p lw lc s∧a<1048576∧x<2 ^ 64 ∧
 ∀H',MemAt C H' p lw lc (s.put a x)→Kp lw lc H H'→Q .non H'
theorem sc_put_word:FnScope ["self","place","word","words"] ["self","place","word"] (defScope s_put_word):=⟨rfl,rfl,rfl,by decide +kernel,rfl,by decide +kernel,by decide +kernel⟩
theorem ok_put_word (T:Txt K mg A):FnOk P w K mg base CX0 1 A.put_word.1 A.put_word.2 ["self","place","word"] (spPutWord A.C_Memory):=by
 refine T.f_put_word.f.ok sc_put_word (fun vs H Q E h=>?_) (fun cdv A' outer s0 H vs Q E hr h=>?_)
 ·obtain⟨p,lw,lc,s,a,x,rfl,_⟩:=h
  rfl
 ·obtain⟨p,lw,lc,s,a,x,rfl,B,ha,hx,k⟩:=h
  obtain⟨dx,ob⟩:=B.ob
  obtain⟨ds,d,kvs,h1,h2,h3,h4,h5,F⟩:=B.frame (f:=a / 4096) (by omega)
  have e1:((a:Int) / 4096)=((a / 4096:Nat):Int):=by omega
  have e2:((a:Int) % 4096 / 8)=((a % 4096 / 8:Nat):Int):=by omega
  have e3:Sd19.store s.mem (4096 * (a / 4096)+8 * (a % 4096 / 8)) x=Sd19.store s.mem a x:=by
   unfold Sd19.store
   rw[show(4096 * (a / 4096)+8 * (a % 4096 / 8)) / 8=a / 8 by omega]
  refine⟨_,(pss_cons (ps_set (i:=3) sc_put_word.nd rfl (Or.inl rfl) (pe_ix ix_list (pe_fld (pv 0) rfl) (pe_op op_fdivW (pv 1) (pe_globI rfl T.g_FRAME_SIZE)) (fun _ _=>rfl)))
   (pss_one (ps_dput (hu_of hr) (pv 3) (pe_op op_fdivW (pe_op op_mod (pv 1) (pe_globI rfl T.g_FRAME_SIZE)) (pe_globI rfl T.g_WORD_SIZE)) (pv 2) rfl))),?_⟩
  refine⟨_,rfl,p,_,dx,_,_,rfl,ob,T.c_Memory,T.na_Memory_frames,mf_frames _ _,_,rfl,_,_,rfl,rfl,⟨by decide,by decide⟩,lw,_,_,_,rfl,rfl,SqL.of h1,(by rw[e1];exact ds_at h4),?_⟩
  refine⟨_,rfl,_,rfl,_,rfl,_,_,rfl,rfl,(by show(0:Int)<4096;decide),_,_,rfl,rfl,⟨by decide,by decide⟩,d,_,rfl,(by show DPut H d (V.int ((a:Int) % 4096 / 8)) _ _;rw[e2];exact DPut.k (k:=ky (a % 4096 / 8)) h5 (Nat.lt_of_le_of_lt F.len (by decide))),?_⟩
  have F2:=F.put B.wf.m (i:=a % 4096 / 8) (x:=x) (by omega) (by omega) hx
  rw[e3]at F2
  refine k _ (B.putd h1 h4 h5 (B.wf.m.store _ _) F2 fun b hb=>?_) (Kp.atd h5)
  rw[M.load_store B.wf.m _ _ _ ha,if_neg (by omega)]
def spShift:Sp:=fun vs H Q _=>∃(a:Nat),vs=[.int (a:Int)]∧Q (.int ((8 * (a % 8):Nat):Int)) H
theorem sc_octet_shift:FnScope ["place"] ["place"] (defScope s_octet_shift):=⟨rfl,rfl,rfl,by decide +kernel,rfl,by decide +kernel,by decide +kernel⟩
theorem ok_octet_shift (T:Txt K mg A):FnOk P w K mg base CX0 1 A.octet_shift.1 A.octet_shift.2 ["place"] spShift:=by
 refine T.f_octet_shift.f.ok sc_octet_shift (fun vs H Q E h=>?_) (fun cdv A' outer s0 H vs Q E hr h=>?_)
 ·obtain⟨a,rfl,_⟩:=h
  rfl
 ·obtain⟨a,rfl,k⟩:=h
  refine⟨_,(pss_one (ps_ret (pe_op op_mul pe_int (pe_op op_mod (pv 0) (pe_globI rfl T.g_WORD_SIZE))))),?_⟩
  exact⟨_,rfl,_,_,rfl,rfl,(by show(0:Int)<8;decide),_,_,rfl,rfl,.inl ⟨by decide,by decide⟩,cv (by omega) k⟩
end
end G
namespace G
open PySem PySem.Spec PyProof.Rows L2
def il (l:List Nat):List V:=l.map fun(n:Nat)=>V.int (n:Int)
theorem il_len (l:List Nat):(il l).length=l.length:=by simp[il]
theorem il_snoc (l:List Nat) (x:Nat):il (l++[x])=il l++[.int (x:Int)]:=by simp[il]
theorem il_get {l:List Nat} {i:Nat} (h:i<l.length):(il l)[i]? = some (.int ((l[i]:Nat):Int)):=by
 unfold il
 rw[List.getElem?_map]
 simp[h]
theorem il_app (l r:List Nat):il (l++r)=il l++il r:=by simp[il]
theorem Same.kp {lw lc:Addr} {H H':Hp} (h:Same H H'):Kp lw lc H H':=⟨fun b o e _ _ _=>h b o e,fun b e=>Same.free h e⟩
theorem Same.new {H:Hp} {q:Addr} {o:HO} (h:H q=none):Same H (upd H q o):=fun b u e=>by rw[upd_ne (ne_of_none e h)];exact e
theorem Same.refl' (H:Hp):Same H H:=fun _ _ h=>h
theorem idiv_pow (x k:Nat):(x:Int) / 2 ^ k=((x / 2 ^ k:Nat):Int):=by
 rw[Int.natCast_ediv,Int.natCast_pow]
 rfl
theorem bOr (a b:Nat):Builtin.bitOr (a:Int) (b:Int)=((a ||| b:Nat):Int):=by
 rw[bitOr_and,bAnd]
 have:=M.and_or a b
 omega
theorem bXor (a b:Nat):Builtin.bitXor (a:Int) (b:Int)=((a ^^^ b:Nat):Int):=by
 rw[bitXor_and,bAnd]
 have:=M.and_xor a b
 omega
theorem byte_int (x k:Nat):Builtin.bitAnd ((x:Int) / 2 ^ (((8 * k:Nat):Int)).toNat) 255=((x / 256 ^ k % 256:Nat):Int):=by
 rw[Int.toNat_natCast,idiv_pow]
 show Builtin.bitAnd _ ((255:Nat):Int)=_
 rw[bAnd,M.byte_of]
theorem ne0 (n:Nat):(!decide (V.int (n:Int)=V.int 0))=decide (n≠0):=by
 by_cases h:n=0
 ·subst h;rfl
 ·rw[decide_eq_false (by intro e;injection e with e;omega),decide_eq_true h]
  rfl
theorem decB {p:Prop} [Decidable p] {b:Bool} (h:p↔b=true):decide p=b:=by
 cases b with
 | true=>exact decide_eq_true (h.mpr rfl)
 | false=>exact decide_eq_false fun q=>Bool.false_ne_true (h.mp q)
section
variable {P:Program} {w:World} {K:PySem.W.Frag} {mg:Str→Option Value} {base:Heap} {A:Adr}
def spOctetAt (C:Addr):Sp:=fun vs H Q _=>∃(p lw lc:Addr) (s:Sd19.St) (a:Nat),vs=[.ref p,.int (a:Int)]∧MemAt C H p lw lc s∧a<1048576∧Q (.int ((Sd19.byteAt s.mem a:Nat):Int)) H
theorem sc_octet_at:FnScope ["self","place"] ["self","place"] (defScope s_octet_at):=⟨rfl,rfl,rfl,by decide +kernel,rfl,by decide +kernel,by decide +kernel⟩
theorem ok_octet_at (T:Txt K mg A):FnOk P w K mg base CX0 2 A.octet_at.1 A.octet_at.2 ["self","place"] (spOctetAt A.C_Memory):=by
 refine T.f_octet_at.f.ok sc_octet_at (fun vs H Q E h=>?_) (fun cdv A' outer s0 H vs Q E hr h=>?_)
 ·obtain⟨p,lw,lc,s,a,rfl,_⟩:=h
  rfl
 ·obtain⟨p,lw,lc,s,a,rfl,B,ha,k⟩:=h
  obtain⟨dx,ob⟩:=B.ob
  refine⟨_,(pss_one (ps_ret (pe_op op_and (pe_op op_shr (pe_meth (pv 0) T.c_Memory T.f_word_at.mt (ok_word_at T) (hr.mono (by decide)) T.f_word_at.b .nil pass0 (pa_cons (pv 1) pa_nil)) (pe_call (ok_octet_shift T) (hr.mono (by decide)) rfl T.f_octet_shift.m T.f_octet_shift.f.kp T.f_octet_shift.b .nil pass0 (pa_cons (pv 1) pa_nil))) pe_int))),?_⟩
  refine⟨_,rfl,p,dx,_,rfl,ob,mf_no _ _ (by decide +kernel) (by decide +kernel),_,rfl,p,lw,lc,s,a,rfl,B,ha,_,rfl,a,rfl,_,_,rfl,rfl,(by omega),_,_,rfl,rfl,cv (byte_int _ _) k⟩
def spPutOctet (C:Addr):Sp:=fun vs H Q _=>∃(p lw lc:Addr) (s:Sd19.St) (a b:Nat),vs=[.ref p,.int (a:Int),.int (b:Int)]∧MemAt C H p lw lc s∧a<1048576∧b<256 ∧
 ∀H',MemAt C H' p lw lc ⟨Sd19.putByte s.mem a b,s.count⟩→Kp lw lc H H'→Q .non H'
theorem put_int (x k b:Nat) (hb:b<256):Builtin.bitXor (x:Int) (Builtin.bitXor ((x / 256 ^ k % 256:Nat):Int) (b:Int) * 2 ^ (((8 * k:Nat):Int)).toNat)=((x - x / 256 ^ k % 256 * 256 ^ k+b * 256 ^ k:Nat):Int):=by
 rw[Int.toNat_natCast,bXor]
 have e:(((x / 256 ^ k % 256 ^^^ b:Nat):Int) * 2 ^ (8 * k))=(((x / 256 ^ k % 256 ^^^ b) * 2 ^ (8 * k):Nat):Int):=by
  rw[Int.natCast_mul,Int.natCast_pow]
  rfl
 rw[e,bXor,M.put_of x k b hb]
theorem store_byte {m:Array Nat} (hm:M.MOk m) (a b:Nat) (hb:b<256):Sd19.store m a (Sd19.load m a - Sd19.load m a / 256 ^ (a % 8) % 256 * 256 ^ (a % 8)+b * 256 ^ (a % 8))=Sd19.putByte m a b:=by
 unfold Sd19.store Sd19.putByte
 rw[Nat.mod_eq_of_lt (M.put_lt _ _ _ 0 (hm.load a) hb (Nat.mod_lt _ (by decide)))]
 rfl
theorem sc_put_octet:FnScope ["self","place","octet","changed_bits"] ["self","place","octet"] (defScope s_put_octet):=⟨rfl,rfl,rfl,by decide +kernel,rfl,by decide +kernel,by decide +kernel⟩
theorem ok_put_octet (T:Txt K mg A):FnOk P w K mg base CX0 3 A.put_octet.1 A.put_octet.2 ["self","place","octet"] (spPutOctet A.C_Memory):=by
  refine T.f_put_octet.f.ok sc_put_octet (fun vs H Q E h=>?_) (fun cdv A' outer s0 H vs Q E hr h=>?_)
  · obtain⟨p,lw,lc,s,a,b,rfl,_⟩:=h
    rfl
  · obtain⟨p,lw,lc,s,a,b,rfl,B,ha,hb,k⟩:=h
    obtain⟨dx,ob⟩:=B.ob
    refine⟨_,(pss_cons (ps_set (i:=3) sc_put_octet.nd rfl (Or.inl rfl) (pe_op op_xor (pe_meth (pv 0) T.c_Memory T.f_octet_at.mt (ok_octet_at T) (hr.mono (by decide)) T.f_octet_at.b .nil pass0 (pa_cons (pv 1) pa_nil)) (pv 2)))
      (pss_one (ps_expr (pe_meth (pv 0) T.c_Memory T.f_put_word.mt (ok_put_word T) (hr.mono (by decide)) T.f_put_word.b .nil pass0 (pa_cons (pv 1) (pa_cons (pe_op op_xor (pe_meth (pv 0) T.c_Memory T.f_word_at.mt (ok_word_at T) (hr.mono (by decide)) T.f_word_at.b .nil pass0 (pa_cons (pv 1) pa_nil)) (pe_op op_shl (pv 3) (pe_call (ok_octet_shift T) (hr.mono (by decide)) rfl T.f_octet_shift.m T.f_octet_shift.f.kp T.f_octet_shift.b .nil pass0 (pa_cons (pv 1) pa_nil)))) pa_nil)))))),?_⟩
    refine⟨_,rfl,p,dx,_,rfl,ob,mf_no _ _ (by decide +kernel) (by decide +kernel),_,rfl,p,lw,lc,s,a,rfl,B,ha,_,rfl,_,_,rfl,rfl,?_⟩
    have lt:=M.put_lt (Sd19.load s.mem a) (a % 8) b 0 (B.wf.m.load a) hb (Nat.mod_lt _ (by decide))
    refine⟨_,rfl,p,dx,_,rfl,ob,mf_no _ _ (by decide +kernel) (by decide +kernel),_,rfl,_,rfl,p,dx,_,rfl,ob,mf_no _ _ (by decide +kernel) (by decide +kernel),_,rfl,p,lw,lc,s,a,rfl,B,ha,
      _,rfl,_,rfl,a,rfl,_,_,rfl,rfl,⟨by omega,by omega,?_⟩,_,_,rfl,rfl,p,lw,lc,s,a,_,congrArg (fun z=>[V.ref p,V.int (a:Int),V.int z]) (put_int (Sd19.load s.mem a) (a % 8) b hb),B,ha,lt,?_⟩
    · have e:Builtin.bitXor ((Sd19.byteAt s.mem a:Nat):Int) (b:Int)=((Sd19.byteAt s.mem a ^^^ b:Nat):Int):=bXor _ _
      rw[e]
      have h1:(Sd19.byteAt s.mem a ^^^ b)<2 ^ 8:=Nat.xor_lt_two_pow (Nat.mod_lt _ (by decide)) hb
      omega
    · intro H' B' k'
      refine k H' ?_ k'
      have e:s.put a (Sd19.load s.mem a - Sd19.load s.mem a / 256 ^ (a % 8) % 256 * 256 ^ (a % 8)+b * 256 ^ (a % 8))=⟨Sd19.putByte s.mem a b,s.count⟩:=by
        unfold Sd19.St.put
        rw[store_byte B.wf.m a b hb]
      rw[←e]
      exact B'
def spOctetsFrom (C:Addr):Sp:=fun vs H Q _=>∃(p lw lc:Addr) (s:Sd19.St) (a n:Nat),vs=[.ref p,.int (a:Int),.int (n:Int)]∧MemAt C H p lw lc s∧a+n≤1048576 ∧
 ∀q,H q=none→Q (.ref q) (upd H q (.lst ((List.range n).map fun i=>V.int ((Sd19.byteAt s.mem (a+i):Nat):Int))))
theorem sc_octets_from:FnScope ["self","place","how_many","k"] ["self","place","how_many"] (defScope s_octets_from):=⟨rfl,rfl,rfl,by decide +kernel,rfl,by decide +kernel,by decide +kernel⟩
theorem ok_octets_from (T:Txt K mg A):FnOk P w K mg base CX0 3 A.octets_from.1 A.octets_from.2 ["self","place","how_many"] (spOctetsFrom A.C_Memory):=by
  refine T.f_octets_from.f.ok sc_octets_from (fun vs H Q E h=>?_) (fun cdv A' outer s0 H vs Q E hr h=>?_)
  · obtain⟨p,lw,lc,s,a,n,rfl,_⟩:=h
    rfl
  · obtain⟨p,lw,lc,s,a,n,rfl,B,ha,k⟩:=h
    obtain⟨dx,ob⟩:=B.ob
    refine⟨_,(pss_one (ps_ret (pe_lc rfl sc_octets_from.nd (pi_range2 rfl T.no_range (pa_cons (pv 1) (pa_cons (pe_op op_add (pv 1) (pv 2)) pa_nil))) (own:=[("k",3)]) (show BlkOk ["self","place","how_many","k"] (defScope s_octets_from) _ _ from⟨rfl,by decide +kernel,by decide +kernel,by decide +kernel,by decide +kernel⟩) (fun _ _ _ _ _=>(pg_name (i:=3) sc_octets_from.nd rfl (Or.inl rfl))) (fun _ _ _ _ _=>pts_nil) (fun _ _ _ _ _=>(pe_meth (pv 0) T.c_Memory T.f_octet_at.mt (ok_octet_at T) (hr.mono (by decide)) T.f_octet_at.b .nil pass0 (pa_cons (pv 3) pa_nil)))))),?_⟩
    refine⟨_,rfl,_,rfl,_,rfl,_,_,rfl,rfl,_,_,rfl,⟨by omega,by omega,by omega,by omega⟩,?_⟩
    intro D hD
    have en:((a:Int)+(n:Int) - (a:Int)).toNat=n:=by omega
    rw[en]
    refine lc_by n (fun i H'=>i≤n∧H'=upd H D (.lst ((List.range i).map fun i=>V.int ((Sd19.byteAt s.mem (a+i):Nat):Int)))) ⟨Nat.zero_le _,rfl⟩ ?_ ?_
    · rintro i H' hi ⟨_,rfl⟩
      refine⟨hi,?_⟩
      rintro x H'' ⟨rfl,rfl⟩
      refine⟨rfl,?_⟩
      have B':=B.new (o:=.lst ((List.range i).map fun i=>V.int ((Sd19.byteAt s.mem (a+i):Nat):Int))) hD
      obtain⟨dx',ob'⟩:=B'.ob
      refine⟨_,rfl,p,dx',_,rfl,ob',mf_no _ _ (by decide +kernel) (by decide +kernel),_,rfl,p,lw,lc,s,a+i,?_,B',by omega,_,upd_same,?_,by omega,?_⟩
      · exact congrArg (fun z=>[V.ref p,V.int z]) (by omega)
      · rw[List.length_map,List.length_range]
        exact Nat.lt_of_le_of_lt (Nat.le_trans (Nat.le_of_lt hi) (Nat.le_trans (Nat.le_add_left n a) ha)) (by decide)
      · rw[upd_upd,List.range_succ,List.map_append]
        rfl
    · rintro H' ⟨_,rfl⟩
      exact⟨Nat.le_refl _,k D hD⟩
def spFreeN (C:Addr):Sp:=fun vs H Q _=>∃(p lw lc:Addr) (s:Sd19.St),vs=[.ref p]∧MemAt C H p lw lc s∧Q (.int ((M.freeN s:Nat):Int)) H
theorem count_nl (m:Array Nat):((nl m).countP fun z=>eqV z (.int 0))=m.toList.count 0:=by
 unfold nl
 rw[List.countP_map,List.count]
 congr 1
 funext n
 show eqV (.int (n:Int)) (.int 0)=(n==0)
 show((n:Int)==0)=(n==0)
 rw[Bool.eq_iff_iff]
 simp
theorem sc_free_frame_count:FnScope ["self"] ["self"] (defScope s_free_frame_count):=⟨rfl,rfl,rfl,by decide +kernel,rfl,by decide +kernel,by decide +kernel⟩
theorem ok_free_frame_count (T:Txt K mg A):FnOk P w K mg base CX0 1 A.free_frame_count.1 A.free_frame_count.2 ["self"] (spFreeN A.C_Memory):=by
 refine T.f_free_frame_count.f.ok sc_free_frame_count (fun vs H Q E h=>?_) (fun cdv A' outer s0 H vs Q E hr h=>?_)
 ·obtain⟨p,lw,lc,s,rfl,_⟩:=h
  rfl
 ·obtain⟨p,lw,lc,s,rfl,B,k⟩:=h
  obtain⟨dx,ob⟩:=B.ob
  refine⟨_,(pss_one (ps_ret (pe_bm PySem.F.plainAttrs_list PySem.F.slot_list_count PySem.F.type_list_count mt_countL (pe_fld (pv 0) rfl) (pa_cons pe_int pa_nil)))),?_⟩
  refine⟨_,rfl,p,_,dx,_,_,rfl,ob,T.c_Memory,T.na_Memory_counts,mf_counts _ _,.inl ⟨rfl,_,SqL.of B.cs⟩,lc,_,_,rfl,rfl,SqL.of B.cs,rfl,nl_flat _,cv ?_ k⟩
  rw[count_nl]
  rfl
def spFilled (C:Addr):Sp:=fun vs H Q _=>∃(p lw lc:Addr) (s:Sd19.St) (f:Nat),vs=[.ref p,.int (f:Int)]∧MemAt C H p lw lc s∧f<256 ∧
 ∀(H':Hp) (q:Addr),H' q=some (.lst (il (M.fill s.mem f)))→H q=none→Same H H'→Q (.ref q) H'
theorem fl_take {f:Nat} {kvs:List (Key×V)} {i:Nat} {k:Key} {v:V} (h:kvs[i]? = some (k,v)):fl f (kvs.take (i+1))=fl f (kvs.take i)++(if(!decide (v=V.int 0))=true then [(f:Int) * 4096+keyI k * 8]else []):=by
 unfold fl
 rw[List.take_succ,h,List.filter_append,List.map_append]
 congr 1
 show List.map _ (List.filter _ [(k,v)])=_
 rw[List.filter_cons,List.filter_nil]
 split<;>rfl
theorem sc_filled_places:FnScope ["self","frame","first","k","word"] ["self","frame"] (defScope s_filled_places):=⟨rfl,rfl,rfl,by decide +kernel,rfl,by decide +kernel,by decide +kernel⟩
theorem ok_filled_places (T:Txt K mg A):FnOk P w K mg base CX0 1 A.filled_places.1 A.filled_places.2 ["self","frame"] (spFilled A.C_Memory):=by
  refine T.f_filled_places.f.ok sc_filled_places (fun vs H Q E h=>?_) (fun cdv A' outer s0 H vs Q E hr h=>?_)
  · obtain⟨p,lw,lc,s,f,rfl,_⟩:=h
    rfl
  · obtain⟨p,lw,lc,s,f,rfl,B,hf,k⟩:=h
    obtain⟨dx,ob⟩:=B.ob
    obtain⟨ds,d,kvs,h1,h2,h3,h4,h5,F⟩:=B.frame hf
    have npd:p≠d:=ne_of ob h5 (fun e=>nomatch e)
    have nwd:lw≠d:=ne_of h1 h5 (fun e=>nomatch e)
    refine⟨_,(pss_cons (ps_set (i:=2) sc_filled_places.nd rfl (Or.inr rfl) (pe_op op_mul (pv 1) (pe_globI rfl T.g_FRAME_SIZE)))
      (pss_one (ps_ret (pe_callB cr_sortedAny (by rfl) T.no_sorted boot_sorted (pa_cons (pe_lock (pe_lc rfl sc_filled_places.nd (pi_items (pe_ix ix_list (pe_fld (pv 0) rfl) (pv 1) (fun _ _=>rfl))) (own:=[("k",3),("word",4)]) (show BlkOk ["self","frame","first","k","word"] (defScope s_filled_places) _ _ from⟨rfl,by decide +kernel,by decide +kernel,by decide +kernel,by decide +kernel⟩) (fun _ _ _ _ _=>(pg_two (K:=K) (i:=3) (j:=4) sc_filled_places.nd rfl rfl (Or.inl rfl) (Or.inl rfl) rfl rfl)) (fun _ _ _ _ _=>(pts_one (pt_cmpR op_ne (pv 4) pe_int (nomark _)))) (fun _ _ _ _ _=>(pe_op op_add (pv 2) (pe_op op_mul (pv 3) (pe_globI rfl T.g_WORD_SIZE)))))) pa_nil))))),?_⟩
    refine⟨_,rfl,_,_,rfl,rfl,.inr ⟨by decide,by decide⟩,?_⟩
    refine⟨d,.dK kvs,h5,trivial,fun od=>?_⟩
    refine⟨_,rfl,p,_,dx,_,_,rfl,(by rw[upd_ne npd];exact ob),T.c_Memory,T.na_Memory_frames,mf_frames _ _,_,rfl,lw,_,_,_,rfl,rfl,SqL.of (by rw[upd_ne nwd];exact h1),ds_at h4,d,od,kvs,rfl,upd_same,?_⟩
    intro D hD
    have nDd:D≠d:=fun e=>by rw[e,upd_same]at hD;cases hD
    have hD0:H D=none:=by rw[upd_ne nDd]at hD;exact hD
    refine lc_by kvs.length (fun i H'=>H' d=some (.frz od (.dK kvs))∧H' D=some (.lst ((fl f (kvs.take i)).map V.int))∧∀b o,H b=some o→b≠d→H' b=some o)
      ?_ ?_ ?_
    · exact⟨by rw[upd_ne (Ne.symm nDd),upd_same],upd_same,fun b o e hb=>by rw[upd_ne (ne_of_none e hD0),upd_ne hb];exact e⟩
    · rintro i H' hi ⟨g1,g2,g3⟩
      refine⟨⟨g1,hi⟩,?_⟩
      rintro x H'' ⟨t,ke,v,hkv,rfl,ht,rfl⟩
      have ndt:d≠t:=ne_of_none g1 ht
      have nDt:D≠t:=ne_of_none g2 ht
      obtain⟨i2,x2,e2,hi2⟩:=F.ks (ke,v) (List.mem_of_getElem? hkv)
      have ek:ke=ky i2:=congrArg Prod.fst e2
      have ev:v=V.int (x2:Int):=congrArg Prod.snd e2
      have flt:=fl_take (f:=f) hkv
      refine⟨t,_,rfl,SqT.of upd_same,rfl,_,_,rfl,_,_,rfl,rfl,rfl,?_⟩
      subst ek ev
      refine⟨_,rfl,rfl,_,rfl,?_⟩
      have lenb:((fl f (kvs.take i)).map V.int).length<sizeLine:=by
        rw[List.length_map]
        unfold fl
        rw[List.length_map]
        exact Nat.lt_of_le_of_lt (Nat.le_trans (List.length_filter_le _ _) (Nat.le_trans (by rw[List.length_take];exact Nat.min_le_right _ _) F.len)) (by decide)
      refine ite2 (fun c=>?_) (fun c=>?_)
      · rw[if_pos c]at flt
        refine⟨_,rfl,_,rfl,_,_,rfl,rfl,.inr ⟨by decide,by decide⟩,_,_,rfl,rfl,_,(by rw[upd_ne nDt];exact g2),lenb,?_⟩
        refine⟨by rw[upd_ne (Ne.symm nDd),upd_ne ndt];exact g1,?_,fun b o e hb=>by rw[upd_ne (ne_of_none e hD0),upd_ne (ne_of_none (g3 b o e hb) ht)];exact g3 b o e hb⟩
        rw[upd_same,flt,List.map_append]
        rfl
      · rw[if_neg c]at flt
        refine⟨by rw[upd_ne ndt];exact g1,?_,fun b o e hb=>by rw[upd_ne (ne_of_none (g3 b o e hb) ht)];exact g3 b o e hb⟩
        rw[upd_ne nDt,flt,List.append_nil]
        exact g2
    · rintro H' ⟨g1,g2,g3⟩
      rw[List.take_length]at g2
      refine⟨⟨g1,Nat.le_refl _⟩,g1,?_⟩
      have gD:upd H' d (.dK kvs) D=some (.lst ((fl f kvs).map V.int)):=by rw[upd_ne nDd];exact g2
      refine⟨D,fl f kvs,rfl,SqL.of gD,fun ns' q hp hs hq=>?_⟩
      have sm:Same H (upd H' d (.dK kvs)):=fun b o e=>by
        by_cases hb:b=d
        · subst hb
          rw[h5]at e
          cases e
          exact upd_same
        · rw[upd_ne hb]
          exact g3 b o e hb
      refine k _ q ?_ (Same.free sm hq) (sm.trans (Same.new hq))
      rw[upd_same,F.sorted hp hs,List.map_map]
      rfl
def spCopyWords (C:Addr):Sp:=fun vs H Q _=>∃(p lw lc:Addr) (s:Sd19.St) (f g:Nat),vs=[.ref p,.int (f:Int),.int (g:Int)]∧MemAt C H p lw lc s∧f<256∧g<256 ∧
 ∀H',MemAt C H' p lw lc ⟨Sd19.filled s.mem g (fun i=>Sd19.load s.mem (4096 * f+8 * i)),s.count⟩→Kp lw lc H H'→Q .non H'
theorem sc_copy_words:FnScope ["self","source","target"] ["self","source","target"] (defScope s_copy_words):=⟨rfl,rfl,rfl,by decide +kernel,rfl,by decide +kernel,by decide +kernel⟩
theorem ok_copy_words (T:Txt K mg A):FnOk P w K mg base CX0 1 A.copy_words.1 A.copy_words.2 ["self","source","target"] (spCopyWords A.C_Memory):=by
 refine T.f_copy_words.f.ok sc_copy_words (fun vs H Q E h=>?_) (fun cdv A' outer s0 H vs Q E hr h=>?_)
 ·obtain⟨p,lw,lc,s,f,g,rfl,_⟩:=h
  rfl
 ·obtain⟨p,lw,lc,s,f,g,rfl,B,hf,hg,k⟩:=h
  obtain⟨dx,ob⟩:=B.ob
  obtain⟨ds,d,kvs,h1,h2,h3,h4,h5,F⟩:=B.frame hf
  refine⟨_,(pss_one (ps_asg (pe_callTy call_dictD (by rfl) T.no_dict boot_dict (pa_cons (pe_ix ix_list (pe_fld (pv 0) rfl) (pv 1) (fun _ _=>rfl)) pa_nil)) (pg_sub (pe_fld (pv 0) rfl) (pv 2) set_list))),?_⟩
  refine⟨_,rfl,p,_,dx,_,_,rfl,ob,T.c_Memory,T.na_Memory_frames,mf_frames _ _,_,rfl,lw,_,_,_,rfl,rfl,SqL.of h1,ds_at h4,d,kvs,rfl,h5,fun q hq=>?_⟩
  refine⟨_,rfl,p,_,dx,_,_,rfl,(by rw[upd_ne (ne_of_none ob hq)];exact ob),T.c_Memory,T.na_Memory_frames,mf_frames _ _,_,rfl,lw,_,_,g,rfl,rfl,(by rw[upd_ne (ne_of_none h1 hq)];exact h1),ixN_nat (by rw[List.length_map,h2];exact hg),?_⟩
  have ld:=fun b=>M.load_filled B.wf.m g hg (fun i=>Sd19.load s.mem (4096 * f+8 * i)) b
  refine k _ (B.newd h1 hg hq (M.filled_ok B.wf.m _ _) (F.copy fun i hi=>?_) fun b hb=>?_) ((Kp.new hq).trans Kp.atw)
  ·rw[ld,if_pos (by omega),show(4096 * g+8 * i) % 4096 / 8=i by omega,Nat.mod_eq_of_lt (B.wf.m.load _)]
  ·rw[ld,if_neg hb]
def spUse (C:Addr) (n:Sd19.St→Nat→Nat) (ok:Sd19.St→Nat→Prop):Sp:=fun vs H Q _=>∃(p lw lc:Addr) (s:Sd19.St) (f:Nat),vs=[.ref p,.int (f:Int)]∧MemAt C H p lw lc s∧f<256∧ok s f ∧
 ∀H',MemAt C H' p lw lc (s.uses f (n s f))→Kp lw lc H H'→Q .non H'
theorem MemAt.uses {C p lw lc:Addr} {s:Sd19.St} {H:Hp} (B:MemAt C H p lw lc s) (f n:Nat):MemAt C (upd H lc (.lst (nl (s.count.setIfInBounds f n)))) p lw lc (s.uses f n):=B.setc (by rw[Array.size_setIfInBounds];exact B.wf.c)
theorem cnt_at {s:Sd19.St} (h:M.WF s) {f:Nat} (hf:f<256):(nl s.count)[f]? = some (.int ((s.used f:Nat):Int)):=nl_get (by rw[h.c];exact hf)
theorem sc_use_once_more:FnScope ["self","frame"] ["self","frame"] (defScope s_use_once_more):=⟨rfl,rfl,rfl,by decide +kernel,rfl,by decide +kernel,by decide +kernel⟩
theorem ok_use_once_more (T:Txt K mg A):FnOk P w K mg base CX0 1 A.use_once_more.1 A.use_once_more.2 ["self","frame"] (spUse A.C_Memory (fun s f=>s.used f+1) fun _ _=>True):=by
 refine T.f_use_once_more.f.ok sc_use_once_more (fun vs H Q E h=>?_) (fun cdv A' outer s0 H vs Q E hr h=>?_)
 ·obtain⟨p,lw,lc,s,f,rfl,_⟩:=h
  rfl
 ·obtain⟨p,lw,lc,s,f,rfl,B,hf,_,k⟩:=h
  obtain⟨dx,ob⟩:=B.ob
  refine⟨_,(pss_one (ps_augS (pe_fld (pv 0) rfl) (pv 1) get_list pe_int ip_add set_list)),?_⟩
  refine⟨_,rfl,p,_,dx,_,_,rfl,ob,T.c_Memory,T.na_Memory_counts,mf_counts _ _,_,rfl,lc,_,f,_,rfl,rfl,SqL.of B.cs,cnt_at B.wf hf,_,_,rfl,rfl,lc,_,_,f,rfl,rfl,B.cs,ixN_nat (by rw[nl_len,B.wf.c];exact hf),?_⟩
  have e:(nl s.count).set f (.int (((s.used f:Nat):Int)+1))=nl (s.count.setIfInBounds f (s.used f+1)):=nl_set s.count f (s.used f+1)
  rw[e]
  exact k _ (B.uses f _) Kp.atc
theorem sc_use_once_less:FnScope ["self","frame"] ["self","frame"] (defScope s_use_once_less):=⟨rfl,rfl,rfl,by decide +kernel,rfl,by decide +kernel,by decide +kernel⟩
theorem ok_use_once_less (T:Txt K mg A):FnOk P w K mg base CX0 1 A.use_once_less.1 A.use_once_less.2 ["self","frame"] (spUse A.C_Memory (fun s f=>s.used f - 1) fun s f=>s.used f≠0):=by
 refine T.f_use_once_less.f.ok sc_use_once_less (fun vs H Q E h=>?_) (fun cdv A' outer s0 H vs Q E hr h=>?_)
 ·obtain⟨p,lw,lc,s,f,rfl,_⟩:=h
  rfl
 ·obtain⟨p,lw,lc,s,f,rfl,B,hf,hn,k⟩:=h
  obtain⟨dx,ob⟩:=B.ob
  refine⟨_,(pss_one (ps_augS (pe_fld (pv 0) rfl) (pv 1) get_list pe_int ip_sub set_list)),?_⟩
  refine⟨_,rfl,p,_,dx,_,_,rfl,ob,T.c_Memory,T.na_Memory_counts,mf_counts _ _,_,rfl,lc,_,f,_,rfl,rfl,SqL.of B.cs,cnt_at B.wf hf,_,_,rfl,rfl,lc,_,_,f,rfl,rfl,B.cs,ixN_nat (by rw[nl_len,B.wf.c];exact hf),?_⟩
  have e:(nl s.count).set f (.int (((s.used f:Nat):Int) - 1))=nl (s.count.setIfInBounds f (s.used f - 1)):=by
   rw[←nl_set]
   congr 2
   omega
  rw[e]
  exact k _ (B.uses f _) Kp.atc
theorem sc_set_free:FnScope ["self","frame"] ["self","frame"] (defScope s_set_free):=⟨rfl,rfl,rfl,by decide +kernel,rfl,by decide +kernel,by decide +kernel⟩
theorem ok_set_free (T:Txt K mg A):FnOk P w K mg base CX0 1 A.set_free.1 A.set_free.2 ["self","frame"] (spUse A.C_Memory (fun _ _=>0) fun _ _=>True):=by
 refine T.f_set_free.f.ok sc_set_free (fun vs H Q E h=>?_) (fun cdv A' outer s0 H vs Q E hr h=>?_)
 ·obtain⟨p,lw,lc,s,f,rfl,_⟩:=h
  rfl
 ·obtain⟨p,lw,lc,s,f,rfl,B,hf,_,k⟩:=h
  obtain⟨dx,ob⟩:=B.ob
  refine⟨_,(pss_one (ps_asg pe_int (pg_sub (pe_fld (pv 0) rfl) (pv 1) set_list))),?_⟩
  refine⟨_,rfl,p,_,dx,_,_,rfl,ob,T.c_Memory,T.na_Memory_counts,mf_counts _ _,_,rfl,lc,_,_,f,rfl,rfl,B.cs,ixN_nat (by rw[nl_len,B.wf.c];exact hf),?_⟩
  have e:(nl s.count).set f (.int 0)=nl (s.count.setIfInBounds f 0):=nl_set s.count f 0
  rw[e]
  exact k _ (B.uses f _) Kp.atc
def spTake (C:Addr):Sp:=fun vs H Q _=>∃(p lw lc:Addr) (s:Sd19.St),vs=[.ref p]∧MemAt C H p lw lc s∧M.freeN s≠0∧∀(f:Nat) (t:Sd19.St) (H':Hp),M.Took s f t→MemAt C H' p lw lc t→Kp lw lc H H'→Q (.int (f:Int)) H'
theorem sc_take_frame:FnScope ["self","frame"] ["self"] (defScope s_take_frame):=⟨rfl,rfl,rfl,by decide +kernel,rfl,by decide +kernel,by decide +kernel⟩
theorem ok_take_frame (T:Txt K mg A):FnOk P w K mg base CX0 1 A.take_frame.1 A.take_frame.2 ["self"] (spTake A.C_Memory):=by
 refine T.f_take_frame.f.ok sc_take_frame (fun vs H Q E h=>?_) (fun cdv A' outer s0 H vs Q E hr h=>?_)
 ·obtain⟨p,lw,lc,s,rfl,_⟩:=h
  rfl
 ·obtain⟨p,lw,lc,s,rfl,B,hn,k⟩:=h
  obtain⟨dx,ob⟩:=B.ob
  obtain⟨f,t,tk⟩:=M.take_some B.wf hn
  have hfc:f<s.count.size:=by rw[B.wf.c];exact tk.lt
  have at0:∀g,g<256→(nl s.count)[g]? = some (.int ((s.used g:Nat):Int)):=fun g hg=>nl_get (by rw[B.wf.c];exact hg)
  refine⟨_,(pss_cons (ps_set (i:=1) sc_take_frame.nd rfl (Or.inl rfl) (pe_bm PySem.F.plainAttrs_list PySem.F.slot_list_index PySem.F.type_list_index mt_index (pe_fld (pv 0) rfl) (pa_cons pe_int pa_nil)))
   (pss_cons (ps_asg pe_int (pg_sub (pe_fld (pv 0) rfl) (pv 1) set_list))
   (pss_cons (ps_asg pe_dnewK (pg_sub (pe_fld (pv 0) rfl) (pv 1) set_list))
   (pss_one (ps_ret (pv 1)))))),?_⟩
  refine⟨_,rfl,p,_,dx,_,_,rfl,ob,T.c_Memory,T.na_Memory_counts,mf_counts _ _,.inl ⟨rfl,_,SqL.of B.cs⟩,lc,_,_,f,_,rfl,rfl,SqL.of B.cs,rfl,nl_flat _,at0 f tk.lt,?_,?_,?_⟩
  ·rw[tk.zero]
   rfl
  ·intro g z hg hz
   have hg2:g<256:=Nat.lt_trans hg tk.lt
   rw[at0 g hg2]at hz
   cases hz
   have:=tk.low g hg
   show(((s.used g:Nat):Int)==0)=false
   rw[beq_eq_false_iff_ne]
   omega
  refine⟨_,rfl,p,_,dx,_,_,rfl,ob,T.c_Memory,T.na_Memory_counts,mf_counts _ _,_,rfl,lc,_,_,f,rfl,rfl,B.cs,ixN_nat (by rw[nl_len];exact hfc),?_⟩
  have e1:(nl s.count).set f (.int 1)=nl (s.count.setIfInBounds f 1):=nl_set s.count f 1
  rw[e1]
  have B1:=B.uses f 1
  have k1:Kp lw lc H (upd H lc (.lst (nl (s.count.setIfInBounds f 1)))):=Kp.atc
  generalize upd H lc (.lst (nl (s.count.setIfInBounds f 1)))=H1 at B1 k1
  obtain⟨dx1,ob1⟩:=B1.ob
  obtain⟨ds,h1,h2,h3,h4⟩:=B1.ws
  intro q hq
  refine⟨_,rfl,p,_,dx1,_,_,rfl,(by rw[upd_ne (ne_of_none ob1 hq)];exact ob1),T.c_Memory,T.na_Memory_frames,mf_frames _ _,_,rfl,lw,_,_,f,rfl,rfl,(by rw[upd_ne (ne_of_none h1 hq)];exact h1),ixN_nat (by rw[List.length_map,h2];exact tk.lt),?_⟩
  refine⟨_,rfl,?_⟩
  have ld:=fun b=>M.load_filled B.wf.m f tk.lt (fun _=>0) b
  have B2:=B1.newd (kvs':=[]) (m':=Sd19.filled s.mem f (fun _=>0)) h1 tk.lt hq (M.filled_ok B.wf.m _ _) (FrOk.new fun i hi=>by rw[ld,if_pos (by omega)]) fun b hb=>by
   rw[ld,if_neg hb]
   rfl
  refine k f t _ tk ?_ ((k1.trans (Kp.new hq)).trans Kp.atw)
  have et:t=⟨Sd19.filled s.mem f (fun _=>0),s.count.setIfInBounds f 1⟩:=by
   rw[←tk.mem,←tk.cnt]
  rw[et]
  exact B2
end
end G
namespace G
open PySem PySem.Spec PyProof.Rows L2
section
variable {P:Program} {w:World} {K:PySem.W.Frag} {mg:Str→Option Value} {base:Heap} {A:Adr}
def spIsNone:Sp:=fun vs H Q _=>∃(a:Nat),vs=[.int (a:Int)]∧a<2 ^ 64∧∀H',Same H H'→Q (.bl (!Sd19.canonical a)) H'
theorem sc_is_none:FnScope ["addr"] ["addr"] (defScope s_is_none):=⟨rfl,rfl,rfl,by decide +kernel,rfl,by decide +kernel,by decide +kernel⟩
theorem ok_is_none (T:Txt K mg A):FnOk P w K mg base CX0 1 A.is_none.1 A.is_none.2 ["addr"] spIsNone:=by
  refine T.f_is_none.f.ok sc_is_none (fun vs H Q E h=>?_) (fun cdv A' outer s0 H vs Q E hr h=>?_)
  · obtain⟨a,rfl,_⟩:=h
    rfl
  · obtain⟨a,rfl,ha,k⟩:=h
    refine⟨_,(pss_one (ps_ret (pe_cmpR op_notIn_seq (pe_op op_shr (pv 0) pe_int) (pe_tup (pa_cons pe_int (pa_cons pe_int pa_nil))) (by with_unfolding_all rfl)))),?_⟩
    refine⟨_,rfl,_,_,rfl,rfl,(by show(0:Int)≤47;decide),(by show 2≤sizeLine;decide),fun q hq=>?_⟩
    refine⟨q,_,rfl,.inr (SqT.of upd_same),rfl,rfl,?_⟩
    refine cb ?_ (k _ (Same.new hq))
    have e:((a:Int) / 2 ^ ((47:Int)).toNat)=((a / 2 ^ 47:Nat):Int):=idiv_pow a 47
    show(!(inV (.int ((a:Int) / 2 ^ ((47:Int)).toNat)) [.int 0,.int 131071]))=_
    rw[e]
    congr 1
    rw[Bool.eq_iff_iff,M.canon ha]
    unfold inV
    rw[List.any_eq_true]
    generalize a / 2 ^ 47=z
    constructor
    · rintro⟨y,hy,h2⟩
      rcases List.mem_cons.mp hy with rfl|hy
      · left
        have:((0:Int)==(z:Int))=true:=h2
        have:=eq_of_beq this
        omega
      · rcases List.mem_cons.mp hy with rfl|hy
        · right
          have:((131071:Int)==(z:Int))=true:=h2
          have:=eq_of_beq this
          omega
        · cases hy
    · rintro(h|h)
      · exact⟨.int 0,by simp,by show((0:Int)==(z:Int))=true;rw[h];rfl⟩
      · exact⟨.int 131071,by simp,by show((131071:Int)==(z:Int))=true;rw[h];rfl⟩
def spIsOfPage:Sp:=fun vs H Q _=>∃(a:Nat),vs=[.int (a:Int)]∧a<2 ^ 64∧∀H',Same H H'→Q (.bl (Sd19.page a)) H'
theorem sc_is_of_page:FnScope ["addr"] ["addr"] (defScope s_is_of_page):=⟨rfl,rfl,rfl,by decide +kernel,rfl,by decide +kernel,by decide +kernel⟩
theorem ok_is_of_page (T:Txt K mg A):FnOk P w K mg base CX0 2 A.is_of_page.1 A.is_of_page.2 ["addr"] spIsOfPage:=by
 refine T.f_is_of_page.f.ok sc_is_of_page (fun vs H Q E h=>?_) (fun cdv A' outer s0 H vs Q E hr h=>?_)
 ·obtain⟨a,rfl,_⟩:=h
  rfl
 ·obtain⟨a,rfl,ha,k⟩:=h
  refine⟨_,(pss_one (ps_ret (pe_and (pe_cmpR op_eq (pe_op op_mod (pv 0) (pe_globI rfl T.g_FRAME_SIZE)) pe_int (nomark _)) (pe_one (pe_not (pe_call (ok_is_none T) (hr.mono (by decide)) rfl T.f_is_none.m T.f_is_none.f.kp T.f_is_none.b .nil pass0 (pa_cons (pv 0) pa_nil))))))),?_⟩
  refine⟨_,rfl,_,_,rfl,rfl,(by show(0:Int)<4096;decide),rfl,_,rfl,?_⟩
  have e:decide (V.int ((a:Int) % 4096)=V.int 0)=(a % 4096==0):=by
   by_cases h:a % 4096=0
   ·rw[decide_eq_true (by rw[show((a:Int) % 4096)=0 by omega]),beq_iff_eq.mpr h]
   ·rw[decide_eq_false (by intro e;injection e with e;omega),beq_eq_false_iff_ne.mpr h]
  refine ite2 (fun h=>?_) (fun h=>?_)
  ·refine⟨_,rfl,a,rfl,ha,fun H' sm=>⟨_,rfl,?_⟩⟩
   refine cb ?_ (k _ sm)
   have h':(a % 4096==0)=true:=by rw[←e];exact h
   unfold Sd19.page
   rw[h',Bool.not_not,Bool.true_and]
  ·refine cb ?_ (k _ (Same.refl' _))
   have h':(a % 4096==0)=false:=by rw[←e];exact eq_false_of_ne_true h
   unfold Sd19.page
   rw[h',Bool.false_and]
def spSpan:Sp:=fun vs H Q _=>∃(l:Nat),vs=[.int ((l+1:Nat):Int)]∧l<4∧Q (.int ((2 ^ (12+9 * l):Nat):Int)) H
theorem sc_span_of_level:FnScope ["level"] ["level"] (defScope s_span_of_level):=⟨rfl,rfl,rfl,by decide +kernel,rfl,by decide +kernel,by decide +kernel⟩
theorem ok_span_of_level (T:Txt K mg A):FnOk P w K mg base CX0 1 A.span_of_level.1 A.span_of_level.2 ["level"] spSpan:=by
 refine T.f_span_of_level.f.ok sc_span_of_level (fun vs H Q E h=>?_) (fun cdv A' outer s0 H vs Q E hr h=>?_)
 ·obtain⟨l,rfl,_⟩:=h
  rfl
 ·obtain⟨l,rfl,hl,k⟩:=h
  refine⟨_,(pss_one (ps_ret (pe_op op_shl (pe_globI rfl T.g_FRAME_SIZE) (pe_op op_mul pe_int (pe_op op_sub (pv 0) pe_int))))),?_⟩
  refine⟨_,rfl,_,_,rfl,rfl,_,_,rfl,rfl,.inl ⟨by decide,by decide⟩,_,_,rfl,rfl,⟨by omega,by omega,by decide⟩,cv ?_ k⟩
  have e:(9 * (((l+1:Nat):Int) - 1)).toNat=9 * l:=by omega
  rw[e,Nat.pow_add,Int.natCast_mul,Int.natCast_pow,Int.natCast_pow]
  rfl
def spPlace:Sp:=fun vs H Q _=>∃(t l a:Nat),vs=[.int (t:Int),.int ((l+1:Nat):Int),.int (a:Int)]∧l<4∧Q (.int ((t+8 * Sd19.index (l+1) a:Nat):Int)) H
theorem sc_entry_place:FnScope ["table","level","addr","entry_number"] ["table","level","addr"] (defScope s_entry_place):=⟨rfl,rfl,rfl,by decide +kernel,rfl,by decide +kernel,by decide +kernel⟩
theorem ok_entry_place (T:Txt K mg A):FnOk P w K mg base CX0 2 A.entry_place.1 A.entry_place.2 ["table","level","addr"] spPlace:=by
 refine T.f_entry_place.f.ok sc_entry_place (fun vs H Q E h=>?_) (fun cdv A' outer s0 H vs Q E hr h=>?_)
 ·obtain⟨t,l,a,rfl,_⟩:=h
  rfl
 ·obtain⟨t,l,a,rfl,hl,k⟩:=h
  refine⟨_,(pss_cons (ps_set (i:=3) sc_entry_place.nd rfl (Or.inl rfl) (pe_op op_mod (pe_op op_fdivW (pv 2) (pe_call (ok_span_of_level T) (hr.mono (by decide)) rfl T.f_span_of_level.m T.f_span_of_level.f.kp T.f_span_of_level.b .nil pass0 (pa_cons (pv 1) pa_nil))) (pe_globI rfl T.g_WORDS_IN_FRAME)))
   (pss_one (ps_ret (pe_op op_add (pv 0) (pe_op op_mul (pv 3) (pe_globI rfl T.g_WORD_SIZE)))))),?_⟩
  have hp:(2:Nat) ^ (12+9 * l)<2 ^ 64:=Nat.pow_lt_pow_right (by decide) (by omega)
  have hp0:0<(2:Nat) ^ (12+9 * l):=Nat.two_pow_pos _
  have e:((a:Int) / ((2 ^ (12+9 * l):Nat):Int) % 512)=((Sd19.index (l+1) a:Nat):Int):=by
   rw[M.index_eq,Int.natCast_emod,Int.natCast_ediv,show 3+9 * (l+1)=12+9 * l by omega]
   rfl
  refine⟨_,rfl,_,rfl,l,rfl,hl,_,_,rfl,rfl,⟨by omega,by omega⟩,_,_,rfl,rfl,(by show(0:Int)<512;decide),?_⟩
  have hi:=M.index_lt (l+1) a
  refine⟨_,rfl,_,rfl,_,_,rfl,rfl,.inr ⟨by decide,by decide⟩,_,_,rfl,rfl,cv ?_ k⟩
  rw[e]
  omega
def spIsThere:Sp:=fun vs H Q _=>∃(e:Nat),vs=[.int (e:Int)]∧Q (.bl (Sd19.bit e 0)) H
theorem and_ne (e m:Nat) {b:Bool} (h:(e &&& m≠0)↔b=true):(!decide (V.int (Builtin.bitAnd (e:Int) (m:Int))=V.int 0))=b:=by
 rw[bAnd,ne0]
 exact decB h
theorem sc_is_there:FnScope ["entry"] ["entry"] (defScope s_is_there):=⟨rfl,rfl,rfl,by decide +kernel,rfl,by decide +kernel,by decide +kernel⟩
theorem ok_is_there (T:Txt K mg A):FnOk P w K mg base CX0 1 A.is_there.1 A.is_there.2 ["entry"] spIsThere:=by
 refine T.f_is_there.f.ok sc_is_there (fun vs H Q E h=>?_) (fun cdv A' outer s0 H vs Q E hr h=>?_)
 ·obtain⟨e,rfl,_⟩:=h
  rfl
 ·obtain⟨e,rfl,k⟩:=h
  refine⟨_,(pss_one (ps_ret (pe_cmpR op_ne (pe_op op_and (pv 0) (pe_globI rfl T.g_THERE)) pe_int (nomark _)))),?_⟩
  exact⟨_,rfl,_,_,rfl,rfl,rfl,cb (and_ne e 1 (M.there e)) k⟩
def spKeyOf:Sp:=fun vs H Q _=>∃(e:Nat),vs=[.int (e:Int)]∧Q (.int ((Sd19.bits e 59 4:Nat):Int)) H
theorem sc_key_of:FnScope ["entry"] ["entry"] (defScope s_key_of):=⟨rfl,rfl,rfl,by decide +kernel,rfl,by decide +kernel,by decide +kernel⟩
theorem ok_key_of (T:Txt K mg A):FnOk P w K mg base CX0 1 A.key_of.1 A.key_of.2 ["entry"] spKeyOf:=by
 refine T.f_key_of.f.ok sc_key_of (fun vs H Q E h=>?_) (fun cdv A' outer s0 H vs Q E hr h=>?_)
 ·obtain⟨e,rfl,_⟩:=h
  rfl
 ·obtain⟨e,rfl,k⟩:=h
  refine⟨_,(pss_one (ps_ret (pe_op op_and (pe_op op_shr (pv 0) pe_int) pe_int))),?_⟩
  refine⟨_,rfl,_,_,rfl,rfl,(by show(0:Int)≤59;decide),_,_,rfl,rfl,cv ?_ k⟩
  have e1:((e:Int) / 2 ^ ((59:Int)).toNat)=((e / 2 ^ 59:Nat):Int):=idiv_pow e 59
  rw[e1]
  show Builtin.bitAnd _ ((15:Nat):Int)=_
  rw[bAnd,M.key]
theorem bInv (e m:Nat):Builtin.bitAnd (e:Int) (Builtin.bitNot (m:Int))=((e - (e &&& m):Nat):Int):=by
 have h0:decide (0≤(e:Int))=true:=decide_eq_true (by omega)
 have h1:decide (0≤Builtin.bitNot (m:Int))=false:=decide_eq_false (by unfold Builtin.bitNot;omega)
 have h2:Builtin.bitNot (Builtin.bitNot (m:Int))=(m:Int):=by unfold Builtin.bitNot;omega
 unfold Builtin.bitAnd
 rw[h0,h1]
 show(e:Int) - (((e:Int).toNat &&& (Builtin.bitNot (Builtin.bitNot (m:Int))).toNat:Nat):Int)=_
 rw[h2,Int.toNat_natCast,Int.toNat_natCast]
 have:=M.and_le e m
 omega
def spLed:Sp:=fun vs H Q _=>∃(e:Nat),vs=[.int (e:Int)]∧Q (.int ((Sd19.base e / 4096:Nat):Int)) H
theorem sc_frame_led_to:FnScope ["entry"] ["entry"] (defScope s_frame_led_to):=⟨rfl,rfl,rfl,by decide +kernel,rfl,by decide +kernel,by decide +kernel⟩
theorem ok_frame_led_to (T:Txt K mg A):FnOk P w K mg base CX0 1 A.frame_led_to.1 A.frame_led_to.2 ["entry"] spLed:=by
 refine T.f_frame_led_to.f.ok sc_frame_led_to (fun vs H Q E h=>?_) (fun cdv A' outer s0 H vs Q E hr h=>?_)
 ·obtain⟨e,rfl,_⟩:=h
  rfl
 ·obtain⟨e,rfl,k⟩:=h
  refine⟨_,(pss_one (ps_ret (pe_op op_fdivW (pe_op op_and (pv 0) (pe_globI rfl T.g_BEGINNING)) (pe_globI rfl T.g_FRAME_SIZE)))),?_⟩
  refine⟨_,rfl,_,_,rfl,rfl,_,_,rfl,rfl,⟨by decide,by decide⟩,cv ?_ k⟩
  have hb:Builtin.bitAnd (e:Int) 4503599627366400=((Sd19.base e:Nat):Int):=by
   show Builtin.bitAnd (e:Int) ((4503599627366400:Nat):Int)=_
   rw[bAnd,M.base_and]
  rw[hb]
  omega
def spLeading:Sp:=fun vs H Q _=>∃(g e:Nat),vs=[.int (g:Int),.int (e:Int)]∧g<256∧Q (.int ((e % 4096+e / 2 ^ 52 * 2 ^ 52+4096 * g:Nat):Int)) H
theorem sc_leading_to:FnScope ["frame","entry"] ["frame","entry"] (defScope s_leading_to):=⟨rfl,rfl,rfl,by decide +kernel,rfl,by decide +kernel,by decide +kernel⟩
theorem ok_leading_to (T:Txt K mg A):FnOk P w K mg base CX0 1 A.leading_to.1 A.leading_to.2 ["frame","entry"] spLeading:=by
 refine T.f_leading_to.f.ok sc_leading_to (fun vs H Q E h=>?_) (fun cdv A' outer s0 H vs Q E hr h=>?_)
 ·obtain⟨g,e,rfl,_⟩:=h
  rfl
 ·obtain⟨g,e,rfl,hg,k⟩:=h
  refine⟨_,(pss_one (ps_ret (pe_op op_or (pe_op op_and (pv 1) (pe_un un_inv (pe_globI rfl T.g_BEGINNING))) (pe_op op_mul (pv 0) (pe_globI rfl T.g_FRAME_SIZE))))),?_⟩
  refine⟨_,rfl,_,rfl,_,_,rfl,rfl,_,rfl,_,_,rfl,rfl,.inr ⟨by decide,by decide⟩,_,_,rfl,rfl,cv ?_ k⟩
  have h1:Builtin.bitAnd (e:Int) (Builtin.bitNot 4503599627366400)=((e - (e &&& 4503599627366400):Nat):Int):=bInv e 4503599627366400
  have h2:(g:Int) * 4096=((g * 4096:Nat):Int):=by omega
  rw[h1,h2,bOr,M.lead_to e g (by omega)]
def spKept:Sp:=fun vs H Q _=>∃(e:Nat),vs=[.int (e:Int)]∧Sd19.bit e 1=true∧Q (.int ((Sd19.kept e:Nat):Int)) H
theorem sc_kept_from_writing:FnScope ["entry"] ["entry"] (defScope s_kept_from_writing):=⟨rfl,rfl,rfl,by decide +kernel,rfl,by decide +kernel,by decide +kernel⟩
theorem ok_kept_from_writing (T:Txt K mg A):FnOk P w K mg base CX0 1 A.kept_from_writing.1 A.kept_from_writing.2 ["entry"] spKept:=by
 refine T.f_kept_from_writing.f.ok sc_kept_from_writing (fun vs H Q E h=>?_) (fun cdv A' outer s0 H vs Q E hr h=>?_)
 ·obtain⟨e,rfl,_⟩:=h
  rfl
 ·obtain⟨e,rfl,hb,k⟩:=h
  refine⟨_,(pss_one (ps_ret (pe_op op_or (pe_op op_and (pv 0) (pe_un un_inv (pe_globI rfl T.g_WRITABLE))) (pe_globI rfl T.g_COPIED_WHEN_WRITTEN)))),?_⟩
  refine⟨_,rfl,_,rfl,_,_,rfl,rfl,_,_,rfl,rfl,cv ?_ k⟩
  have h1:Builtin.bitAnd (e:Int) (Builtin.bitNot 2)=((e - (e &&& 2):Nat):Int):=bInv e 2
  rw[h1,←M.keep_from e hb]
  exact bOr (e - (e &&& 2)) 512
def spLet:Sp:=fun vs H Q _=>∃(e:Nat),vs=[.int (e:Int)]∧Q (.int ((Sd19.clearBit (Sd19.setBit e 1) 9:Nat):Int)) H
theorem sc_let_be_written:FnScope ["entry"] ["entry"] (defScope s_let_be_written):=⟨rfl,rfl,rfl,by decide +kernel,rfl,by decide +kernel,by decide +kernel⟩
theorem ok_let_be_written (T:Txt K mg A):FnOk P w K mg base CX0 1 A.let_be_written.1 A.let_be_written.2 ["entry"] spLet:=by
 refine T.f_let_be_written.f.ok sc_let_be_written (fun vs H Q E h=>?_) (fun cdv A' outer s0 H vs Q E hr h=>?_)
 ·obtain⟨e,rfl,_⟩:=h
  rfl
 ·obtain⟨e,rfl,k⟩:=h
  refine⟨_,(pss_one (ps_ret (pe_op op_or (pe_op op_and (pv 0) (pe_un un_inv (pe_globI rfl T.g_COPIED_WHEN_WRITTEN))) (pe_globI rfl T.g_WRITABLE)))),?_⟩
  refine⟨_,rfl,_,rfl,_,_,rfl,rfl,_,_,rfl,rfl,cv ?_ k⟩
  have h1:Builtin.bitAnd (e:Int) (Builtin.bitNot 512)=((e - (e &&& 512):Nat):Int):=bInv e 512
  rw[h1,←M.let_write e]
  exact bOr (e - (e &&& 512)) 2
def af (t f r k:Nat):List (Str×V):=putF "kind" (.int (k:Int)) (putF "rights" (.int (r:Int)) (putF "flags" (.int (f:Int)) (putF "root_table" (.int (t:Int)) [])))
theorem af_root (t f r k:Nat):(af t f r k).lookup ("root_table" : Str)=some (.int (t:Int)):=by
 unfold af
 rw[lookup_putF,if_neg (by decide +kernel),lookup_putF,if_neg (by decide +kernel),lookup_putF,if_neg (by decide +kernel),lookup_putF,if_pos rfl]
theorem af_flags (t f r k:Nat):(af t f r k).lookup ("flags" : Str)=some (.int (f:Int)):=by
 unfold af
 rw[lookup_putF,if_neg (by decide +kernel),lookup_putF,if_neg (by decide +kernel),lookup_putF,if_pos rfl]
theorem af_rights (t f r k:Nat):(af t f r k).lookup ("rights" : Str)=some (.int (r:Int)):=by
 unfold af
 rw[lookup_putF,if_neg (by decide +kernel),lookup_putF,if_pos rfl]
theorem af_kind (t f r k:Nat):(af t f r k).lookup ("kind" : Str)=some (.int (k:Int)):=by
 unfold af
 rw[lookup_putF,if_pos rfl]
theorem af_has (t f r k:Nat):(af t f r k).lookup ("has_any" : Str)=none:=by
 unfold af
 rw[lookup_putF,if_neg (by decide +kernel),lookup_putF,if_neg (by decide +kernel),lookup_putF,if_neg (by decide +kernel),lookup_putF,if_neg (by decide +kernel)]
 rfl
def AccAt (C:Addr) (H:Hp) (q:Addr) (t f r k:Nat):Prop:=∃dx,H q=some (.ins C dx (af t f r k))
def spAccInit (C:Addr):Sp:=fun vs H Q _=>∃(q dx c:Addr) (a f r k:Nat),vs=[.ref q,.ref c,.int (k:Int)]∧H q=some (.ins C dx [])∧H c=some (.lst [.int (a:Int),.int (f:Int),.int (r:Int)]) ∧
 ∀H',AccAt C H' q (Sd19.base a) f r k→(∀b o,H b=some o→b≠q→H' b=some o)→Q .non H'
theorem sc_Access_init:FnScope ["self","cpu","kind"] ["self","cpu","kind"] (defScope s_Access_init):=⟨rfl,rfl,rfl,by decide +kernel,rfl,by decide +kernel,by decide +kernel⟩
theorem ok_Access_init (T:Txt K mg A):FnOk P w K mg base CX0 1 A.Access_init.1 A.Access_init.2 ["self","cpu","kind"] (spAccInit A.C_Access):=by
 refine T.f_Access_init.f.ok sc_Access_init (fun vs H Q E h=>?_) (fun cdv A' outer s0 H vs Q E hr h=>?_)
 ·obtain⟨q,dx,c,a,f,r,kd,rfl,_⟩:=h
  rfl
 ·obtain⟨q,dx,c,a,f,r,kd,rfl,hq,hc,k⟩:=h
  have nq:c≠q:=ne_of hc hq (fun e=>nomatch e)
  refine⟨_,(pss_cons (ps_fld (pv 0) (pe_op op_and (pe_ix ix_list (pv 1) pe_int (fun _ _=>rfl)) (pe_globI rfl T.g_BEGINNING)) rfl)
   (pss_cons (ps_fld (pv 0) (pe_ix ix_list (pv 1) pe_int (fun _ _=>rfl)) rfl)
   (pss_cons (ps_fld (pv 0) (pe_ix ix_list (pv 1) pe_int (fun _ _=>rfl)) rfl)
   (pss_one (ps_fld (pv 0) (pv 2) rfl))))),?_⟩
  have hb:Builtin.bitAnd (a:Int) 4503599627366400=((Sd19.base a:Nat):Int):=by
   show Builtin.bitAnd (a:Int) ((4503599627366400:Nat):Int)=_
   rw[bAnd,M.base_and]
  refine⟨_,rfl,c,_,_,_,rfl,rfl,SqL.of hc,rfl,_,_,rfl,rfl,_,rfl,q,_,dx,_,rfl,hq,T.c_Access,T.na_Access_root_table,(by show 0<1000;decide),?_⟩
  dsimp only
  rw[hb]
  have c1:∀o,upd H q o c=some (.lst [.int (a:Int),.int (f:Int),.int (r:Int)]):=fun o=>by rw[upd_ne nq];exact hc
  refine⟨_,rfl,c,_,_,_,rfl,rfl,SqL.of (c1 _),rfl,_,rfl,q,_,dx,_,rfl,upd_same,T.c_Access,T.na_Access_flags,(by show 1<1000;decide),?_⟩
  rw[upd_upd]
  refine⟨_,rfl,c,_,_,_,rfl,rfl,SqL.of (c1 _),rfl,_,rfl,q,_,dx,_,rfl,upd_same,T.c_Access,T.na_Access_rights,(by show 2<1000;decide),?_⟩
  rw[upd_upd]
  refine⟨_,rfl,_,rfl,q,_,dx,_,rfl,upd_same,T.c_Access,T.na_Access_kind,(by show 3<1000;decide),?_⟩
  rw[upd_upd]
  exact k _ ⟨dx,upd_same⟩ fun b o e hb=>by rw[upd_ne hb];exact e
theorem has_int (f m:Nat):(!decide (V.int (Builtin.bitAnd (f:Int) (m:Int))=V.int 0))=decide (f &&& m≠0):=by rw[bAnd,ne0]
def spHasAny (C:Addr):Sp:=fun vs H Q _=>∃(q:Addr) (t f r k m:Nat),vs=[.ref q,.int (m:Int)]∧AccAt C H q t f r k∧Q (.bl (decide (f &&& m≠0))) H
theorem sc_has_any:FnScope ["self","flags"] ["self","flags"] (defScope s_has_any):=⟨rfl,rfl,rfl,by decide +kernel,rfl,by decide +kernel,by decide +kernel⟩
theorem ok_has_any (T:Txt K mg A):FnOk P w K mg base CX0 1 A.has_any.1 A.has_any.2 ["self","flags"] (spHasAny A.C_Access):=by
 refine T.f_has_any.f.ok sc_has_any (fun vs H Q E h=>?_) (fun cdv A' outer s0 H vs Q E hr h=>?_)
 ·obtain⟨q,t,f,r,kd,m,rfl,_⟩:=h
  rfl
 ·obtain⟨q,t,f,r,kd,m,rfl,⟨dx,hq⟩,k⟩:=h
  refine⟨_,(pss_one (ps_ret (pe_cmpR op_ne (pe_op op_and (pe_fld (pv 0) rfl) (pv 1)) pe_int (nomark _)))),?_⟩
  refine⟨_,rfl,q,_,dx,_,_,rfl,hq,T.c_Access,T.na_Access_flags,af_flags _ _ _ _,_,rfl,_,_,rfl,rfl,rfl,cb (has_int f m) k⟩
def wf (lp le:Addr):List (Str×V):=putF "entries" (.ref le) (putF "places" (.ref lp) [])
theorem wf_places (lp le:Addr):(wf lp le).lookup ("places" : Str)=some (.ref lp):=by
 unfold wf
 rw[lookup_putF,if_neg (by decide +kernel),lookup_putF,if_pos rfl]
theorem wf_entries (lp le:Addr):(wf lp le).lookup ("entries" : Str)=some (.ref le):=by
 unfold wf
 rw[lookup_putF,if_pos rfl]
theorem wf_no (lp le:Addr) {m:Str} (h1:¬m = "places") (h2:¬m = "entries"):(wf lp le).lookup m=none:=by
 unfold wf
 rw[lookup_putF,if_neg h2,lookup_putF,if_neg h1]
 rfl
structure WayOb (C:Addr) (H:Hp) (q lp le:Addr) (ps es:List Nat):Prop where
 ob:∃dx,H q=some (.ins C dx (wf lp le))
 ps:H lp=some (.lst (il ps))
 es:H le=some (.lst (il es))
 ne:lp≠le
theorem WayOb.keep {C:Addr} {H H':Hp} {q lp le:Addr} {ps es:List Nat} (W:WayOb C H q lp le ps es) (k:Same H H'):WayOb C H' q lp le ps es:=by
 obtain⟨⟨dx,ob⟩,h1,h2,h3⟩:=W
 exact⟨⟨dx,k _ _ ob⟩,k _ _ h1,k _ _ h2,h3⟩
def spWayInit (C:Addr):Sp:=fun vs H Q _=>∃(q dx:Addr),vs=[.ref q]∧H q=some (.ins C dx []) ∧
 ∀H' lp le,WayOb C H' q lp le [] []→(∀b o,H b=some o→b≠q→H' b=some o)→H lp=none→H le=none→Q .non H'
theorem sc_Way_init:FnScope ["self"] ["self"] (defScope s_Way_init):=⟨rfl,rfl,rfl,by decide +kernel,rfl,by decide +kernel,by decide +kernel⟩
theorem ok_Way_init (T:Txt K mg A):FnOk P w K mg base CX0 1 A.Way_init.1 A.Way_init.2 ["self"] (spWayInit A.C_Way):=by
 refine T.f_Way_init.f.ok sc_Way_init (fun vs H Q E h=>?_) (fun cdv A' outer s0 H vs Q E hr h=>?_)
 ·obtain⟨q,dx,rfl,_⟩:=h
  rfl
 ·obtain⟨q,dx,rfl,hq,k⟩:=h
  refine⟨_,(pss_cons (ps_fld (pv 0) (pe_lst pa_nil) rfl)
   (pss_one (ps_fld (pv 0) (pe_lst pa_nil) rfl))),?_⟩
  refine⟨(by show 0≤sizeLine;decide),fun lp hlp=>?_⟩
  have n1:q≠lp:=ne_of_none hq hlp
  refine⟨_,rfl,q,_,dx,_,rfl,(by rw[upd_ne n1];exact hq),T.c_Way,T.na_Way_places,(by show 0<1000;decide),?_⟩
  refine⟨(by show 0≤sizeLine;decide),fun le hle=>?_⟩
  have n2:le≠q:=fun e=>by rw[e,upd_same]at hle;cases hle
  have n3:le≠lp:=fun e=>by rw[e,upd_ne (Ne.symm n1),upd_same]at hle;cases hle
  have hle0:H le=none:=by rw[upd_ne n2,upd_ne n3]at hle;exact hle
  refine⟨_,rfl,q,_,dx,_,rfl,(by rw[upd_ne (Ne.symm n2),upd_same]),T.c_Way,T.na_Way_entries,(by show 1<1000;decide),?_⟩
  refine k _ lp le ⟨⟨dx,upd_same⟩,?_,?_,Ne.symm n3⟩ (fun b o e hb=>?_) hlp hle0
  ·rw[upd_ne (Ne.symm n1),upd_ne (Ne.symm n3),upd_ne (Ne.symm n1),upd_same]
   rfl
  ·rw[upd_ne n2,upd_same]
   rfl
  ·rw[upd_ne hb,upd_ne (ne_of_none e hle0),upd_ne hb,upd_ne (ne_of_none e hlp)]
   exact e
def spGo (C:Addr):Sp:=fun vs H Q _=>∃(q lp le:Addr) (ps es:List Nat) (p e:Nat),vs=[.ref q,.int (p:Int),.int (e:Int)]∧WayOb C H q lp le ps es∧ps.length≤4∧es.length≤4 ∧
 Q .non (upd (upd H lp (.lst (il (ps++[p])))) le (.lst (il (es++[e]))))
theorem sc_go_through:FnScope ["self","place","entry"] ["self","place","entry"] (defScope s_go_through):=⟨rfl,rfl,rfl,by decide +kernel,rfl,by decide +kernel,by decide +kernel⟩
theorem ok_go_through (T:Txt K mg A):FnOk P w K mg base CX0 1 A.go_through.1 A.go_through.2 ["self","place","entry"] (spGo A.C_Way):=by
 refine T.f_go_through.f.ok sc_go_through (fun vs H Q E h=>?_) (fun cdv A' outer s0 H vs Q E hr h=>?_)
 ·obtain⟨q,lp,le,ps,es,p,e,rfl,_⟩:=h
  rfl
 ·obtain⟨q,lp,le,ps,es,p,e,rfl,⟨⟨dx,ob⟩,h1,h2,h3⟩,l1,l2,k⟩:=h
  refine⟨_,(pss_cons (ps_expr (pe_bm PySem.F.plainAttrs_list PySem.F.slot_list_append PySem.F.type_list_append mt_append (pe_fld (pv 0) rfl) (pa_cons (pv 1) pa_nil)))
   (pss_one (ps_expr (pe_bm PySem.F.plainAttrs_list PySem.F.slot_list_append PySem.F.type_list_append mt_append (pe_fld (pv 0) rfl) (pa_cons (pv 2) pa_nil))))),?_⟩
  have n1:q≠lp:=ne_of ob h1 (fun e=>nomatch e)
  refine⟨_,rfl,q,_,dx,_,_,rfl,ob,T.c_Way,T.na_Way_places,wf_places _ _,.inl ⟨rfl,_,SqL.of h1⟩,_,rfl,lp,_,_,rfl,rfl,h1,(by rw[il_len];exact Nat.lt_of_le_of_lt l1 (by decide)),?_⟩
  rw[←il_snoc]
  have h2':upd H lp (.lst (il (ps++[p]))) le=some (.lst (il es)):=by rw[upd_ne (Ne.symm h3)];exact h2
  refine⟨_,rfl,q,_,dx,_,_,rfl,(by rw[upd_ne n1];exact ob),T.c_Way,T.na_Way_entries,wf_entries _ _,.inl ⟨rfl,_,SqL.of h2'⟩,_,rfl,le,_,_,rfl,rfl,h2',(by rw[il_len];exact Nat.lt_of_le_of_lt l2 (by decide)),?_⟩
  rw[←il_snoc]
  exact k
def spLastE (C:Addr):Sp:=fun vs H Q _=>∃(q lp le:Addr) (ps es:List Nat) (e:Nat),vs=[.ref q]∧WayOb C H q lp le ps (es++[e])∧Q (.int (e:Int)) H
theorem sc_last_entry:FnScope ["self"] ["self"] (defScope s_last_entry):=⟨rfl,rfl,rfl,by decide +kernel,rfl,by decide +kernel,by decide +kernel⟩
theorem ok_last_entry (T:Txt K mg A):FnOk P w K mg base CX0 1 A.last_entry.1 A.last_entry.2 ["self"] (spLastE A.C_Way):=by
 refine T.f_last_entry.f.ok sc_last_entry (fun vs H Q E h=>?_) (fun cdv A' outer s0 H vs Q E hr h=>?_)
 ·obtain⟨q,lp,le,ps,es,e,rfl,_⟩:=h
  rfl
 ·obtain⟨q,lp,le,ps,es,e,rfl,⟨⟨dx,ob⟩,h1,h2,h3⟩,k⟩:=h
  refine⟨_,(pss_one (ps_ret (pe_ix ix_list (pe_fld (pv 0) rfl) (pe_un un_neg pe_int) (fun _ _=>rfl)))),?_⟩
  refine⟨_,rfl,q,_,dx,_,_,rfl,ob,T.c_Way,T.na_Way_entries,wf_entries _ _,_,rfl,le,_,_,_,rfl,rfl,SqL.of h2,?_,k⟩
  rw[il_snoc]
  exact atI_last _ _
def spLastL (C:Addr):Sp:=fun vs H Q _=>∃(q lp le:Addr) (ps es:List Nat),vs=[.ref q]∧WayOb C H q lp le ps es∧1≤es.length∧es.length≤4∧Q (.int ((4 - es.length+1:Nat):Int)) H
theorem levels_at {n:Nat} (h1:1≤n) (h2:n≤4):atI [V.int 4,V.int 3,V.int 2,V.int 1] ((n:Int) - 1)=some (.int ((4 - n+1:Nat):Int)):=by
 match n,h1,h2 with
 | 1,_,_=>rfl
 | 2,_,_=>rfl
 | 3,_,_=>rfl
 | 4,_,_=>rfl
theorem sc_last_level:FnScope ["self"] ["self"] (defScope s_last_level):=⟨rfl,rfl,rfl,by decide +kernel,rfl,by decide +kernel,by decide +kernel⟩
theorem ok_last_level (T:Txt K mg A):FnOk P w K mg base CX0 1 A.last_level.1 A.last_level.2 ["self"] (spLastL A.C_Way):=by
 refine T.f_last_level.f.ok sc_last_level (fun vs H Q E h=>?_) (fun cdv A' outer s0 H vs Q E hr h=>?_)
 ·obtain⟨q,lp,le,ps,es,rfl,_⟩:=h
  rfl
 ·obtain⟨q,lp,le,ps,es,rfl,⟨⟨dx,ob⟩,h1,h2,h3⟩,l1,l2,k⟩:=h
  refine⟨_,(pss_one (ps_ret (pe_ix ix_tup (pe_globR rfl T.g_LEVELS) (pe_op op_sub (pe_callB call_len_seq (by rfl) T.no_len boot_len (pa_cons (pe_fld (pv 0) rfl) pa_nil)) pe_int) (fun _ _=>rfl)))),?_⟩
  refine⟨_,rfl,q,_,dx,_,_,rfl,ob,T.c_Way,T.na_Way_entries,wf_entries _ _,le,_,rfl,.inl (SqL.of h2),_,_,rfl,rfl,A.a_LEVELS,_,_,_,rfl,rfl,T.sq_LEVELS _,?_,k⟩
  rw[il_len]
  exact levels_at l1 l2
end
end G
namespace G
open PySem PySem.Spec PyProof.Rows L2
section
variable {P:Program} {w:World} {K:PySem.W.Frag} {mg:Str→Option Value} {base:Heap} {A:Adr}
theorem take_one {l:List Nat} {i:Nat} (h:i<l.length):l.take (i+1)=l.take i++[l[i]]:=by
 rw[List.take_succ,List.getElem?_eq_getElem h]
 rfl
def says (m:Nat) (e:Nat):Bool:=decide (e &&& m≠0)
theorem say_int (e m:Nat):(!decide (V.int (Builtin.bitAnd (e:Int) (m:Int))=V.int 0))=says m e:=by
 rw[bAnd,ne0]
 rfl
def spAllSay (C:Addr):Sp:=fun vs H Q _=>∃(q lp le:Addr) (ps es:List Nat) (m:Nat),vs=[.ref q,.int (m:Int)]∧WayOb C H q lp le ps es∧es.length≤4∧∀H',Same H H'→Q (.bl (es.all (says m))) H'
theorem sc_all_say:FnScope ["self","bit","entry"] ["self","bit"] (defScope s_all_say):=⟨rfl,rfl,rfl,by decide +kernel,rfl,by decide +kernel,by decide +kernel⟩
theorem ok_all_say (T:Txt K mg A):FnOk P w K mg base CX0 1 A.all_say.1 A.all_say.2 ["self","bit"] (spAllSay A.C_Way):=by
  refine T.f_all_say.f.ok sc_all_say (fun vs H Q E h=>?_) (fun cdv A' outer s0 H vs Q E hr h=>?_)
  · obtain⟨q,lp,le,ps,es,m,rfl,_⟩:=h
    rfl
  · obtain⟨q,lp,le,ps,es,m,rfl,⟨⟨dx,ob⟩,h1,h2,h3⟩,l4,k⟩:=h
    refine⟨_,(pss_one (ps_ret (pe_callB (cr_all rfl) (by rfl) T.no_all boot_all (pa_cons (pe_lc rfl sc_all_say.nd (pi_list (pe_fld (pv 0) rfl)) (own:=[("entry",2)]) (show BlkOk ["self","bit","entry"] (defScope s_all_say) _ _ from⟨rfl,by decide +kernel,by decide +kernel,by decide +kernel,by decide +kernel⟩) (fun _ _ _ _ _=>(pg_name (i:=2) sc_all_say.nd rfl (Or.inl rfl))) (fun _ _ _ _ _=>pts_nil) (fun _ _ _ _ _=>(pe_cmpR op_ne (pe_op op_and (pv 2) (pv 1)) pe_int (nomark _)))) pa_nil)))),?_⟩
    refine⟨_,rfl,q,_,dx,_,_,rfl,ob,T.c_Way,T.na_Way_entries,wf_entries _ _,le,rfl,⟨_,SqL.of h2⟩,?_⟩
    intro D hD
    have hle:∀l,upd H D (.lst l) le=some (.lst (il es)):=fun l=>by rw[upd_ne (ne_of_none h2 hD)];exact h2
    refine lc_by es.length (fun i H'=>H'=upd H D (.lst ((es.take i).map fun e=>V.bl (says m e)))) rfl ?_ ?_
    · rintro i H' hi rfl
      refine⟨⟨_,_,SqL.of (hle _),il_get hi⟩,?_⟩
      rintro x H'' ⟨rfl,hx⟩
      have ex:=hx _ (SqL.of (hle _))
      rw[il_get hi]at ex
      cases ex
      refine⟨rfl,?_⟩
      refine⟨_,rfl,_,rfl,_,_,rfl,rfl,rfl,_,upd_same,?_,?_⟩
      · rw[List.length_map,List.length_take]
        exact Nat.lt_of_le_of_lt (Nat.le_trans (Nat.min_le_right _ _) l4) (by decide)
      · rw[upd_upd,say_int,take_one hi,List.map_append]
        rfl
    · rintro H' rfl
      refine⟨⟨_,SqL.of (hle _),by rw[il_len];exact Nat.le_refl _⟩,D,es.map (says m),rfl,SqL.of ?_,?_⟩
      · rw[upd_same,List.take_length,List.map_map]
        rfl
      · refine cb ?_ (k _ (Same.new hD))
        rw[List.all_map]
        rfl
def spAnySays (C:Addr):Sp:=fun vs H Q _=>∃(q lp le:Addr) (ps es:List Nat) (m:Nat),vs=[.ref q,.int (m:Int)]∧WayOb C H q lp le ps es∧es.length≤4∧∀H',Same H H'→Q (.bl (es.any (says m))) H'
theorem sc_any_says:FnScope ["self","bit","entry"] ["self","bit"] (defScope s_any_says):=⟨rfl,rfl,rfl,by decide +kernel,rfl,by decide +kernel,by decide +kernel⟩
theorem ok_any_says (T:Txt K mg A):FnOk P w K mg base CX0 1 A.any_says.1 A.any_says.2 ["self","bit"] (spAnySays A.C_Way):=by
  refine T.f_any_says.f.ok sc_any_says (fun vs H Q E h=>?_) (fun cdv A' outer s0 H vs Q E hr h=>?_)
  · obtain⟨q,lp,le,ps,es,m,rfl,_⟩:=h
    rfl
  · obtain⟨q,lp,le,ps,es,m,rfl,⟨⟨dx,ob⟩,h1,h2,h3⟩,l4,k⟩:=h
    refine⟨_,(pss_one (ps_ret (pe_callB (cr_any rfl) (by rfl) T.no_any boot_any (pa_cons (pe_lc rfl sc_any_says.nd (pi_list (pe_fld (pv 0) rfl)) (own:=[("entry",2)]) (show BlkOk ["self","bit","entry"] (defScope s_any_says) _ _ from⟨rfl,by decide +kernel,by decide +kernel,by decide +kernel,by decide +kernel⟩) (fun _ _ _ _ _=>(pg_name (i:=2) sc_any_says.nd rfl (Or.inl rfl))) (fun _ _ _ _ _=>pts_nil) (fun _ _ _ _ _=>(pe_cmpR op_ne (pe_op op_and (pv 2) (pv 1)) pe_int (nomark _)))) pa_nil)))),?_⟩
    refine⟨_,rfl,q,_,dx,_,_,rfl,ob,T.c_Way,T.na_Way_entries,wf_entries _ _,le,rfl,⟨_,SqL.of h2⟩,?_⟩
    intro D hD
    have hle:∀l,upd H D (.lst l) le=some (.lst (il es)):=fun l=>by rw[upd_ne (ne_of_none h2 hD)];exact h2
    refine lc_by es.length (fun i H'=>H'=upd H D (.lst ((es.take i).map fun e=>V.bl (says m e)))) rfl ?_ ?_
    · rintro i H' hi rfl
      refine⟨⟨_,_,SqL.of (hle _),il_get hi⟩,?_⟩
      rintro x H'' ⟨rfl,hx⟩
      have ex:=hx _ (SqL.of (hle _))
      rw[il_get hi]at ex
      cases ex
      refine⟨rfl,?_⟩
      refine⟨_,rfl,_,rfl,_,_,rfl,rfl,rfl,_,upd_same,?_,?_⟩
      · rw[List.length_map,List.length_take]
        exact Nat.lt_of_le_of_lt (Nat.le_trans (Nat.min_le_right _ _) l4) (by decide)
      · rw[upd_upd,say_int,take_one hi,List.map_append]
        rfl
    · rintro H' rfl
      refine⟨⟨_,SqL.of (hle _),by rw[il_len];exact Nat.le_refl _⟩,D,es.map (says m),rfl,SqL.of ?_,?_⟩
      · rw[upd_same,List.take_length,List.map_map]
        rfl
      · refine cb ?_ (k _ (Same.new hD))
        rw[List.any_map]
        rfl
def resMask (f lv e:Nat):Nat :=
 let b:=if f &&& 4≠0 then 4502500115742720 else 4502500115742720 ||| 9223372036854775808
 if lv=4 then b ||| 128 else if e &&& 128≠0 then b ||| (if lv=3 then 1073733632 else if lv=2 then 2088960 else 0)else b
theorem resMask_iff (a f r lv e:Nat) (h1:1≤lv) (h4:lv≤4):(e &&& resMask f lv e≠0)↔Sd19.reserved (M.cpuOf a f r) lv e=true:=by
  have hf:(f &&& 4≠0)↔Sd19.bit f 2=true:=M.users f
  have hb:∀m,(e &&& (m ||| 128)≠0)↔(e &&& m≠0)∨Sd19.bit e 7=true:=fun m=>by rw[Nat.and_or_distrib_left,M.or_ne,M.big]
  have h0:(e &&& (if f &&& 4≠0 then 4502500115742720 else 4502500115742720 ||| 9223372036854775808)≠0)↔(Sd19.bits e 40 12≠0∨(Sd19.bit e 63=true∧Sd19.bit f 2=false)):=by
    by_cases q:f &&& 4≠0
    · rw[if_pos q,M.always]
      simp[hf.mp q]
    · have q2:Sd19.bit f 2=false:=by
        cases z:Sd19.bit f 2 with
        | false=>rfl
        | true=>exact absurd (hf.mpr z) q
      rw[if_neg q,Nat.and_or_distrib_left,M.or_ne,M.always,M.nx]
      simp[q2]
  have hres:Sd19.reserved (M.cpuOf a f r) lv e=true↔(Sd19.bits e 40 12≠0∨(Sd19.bit e 63=true∧Sd19.bit f 2=false))∨(Sd19.bit e 7=true∧(lv=4∨(lv=3∧Sd19.bits e 13 17≠0)∨(lv=2∧Sd19.bits e 13 8≠0))):=by
    unfold Sd19.reserved M.cpuOf
    simp[or_assoc]
  rw[hres]
  unfold resMask
  simp only
  generalize (if f &&& 4≠0 then 4502500115742720 else 4502500115742720 ||| 9223372036854775808)=b at *
  by_cases c4:lv=4
  · rw[if_pos c4,hb,h0]
    simp[c4]
  · rw [if_neg c4]
    by_cases c7:e &&& 128≠0
    · rw [if_pos c7, Nat.and_or_distrib_left, M.or_ne, h0]
      have c7':=(M.big e).mp c7
      by_cases c3:lv=3
      · rw[if_pos c3,M.big3]
        simp[c3,c7']
      · rw[if_neg c3]
        by_cases c2:lv=2
        · rw[if_pos c2,M.big2]
          simp[c2,c7']
        · rw[if_neg c2]
          simp[c2,c3,c4]
    · rw[if_neg c7,h0]
      have c7':¬Sd19.bit e 7=true:=fun z=>c7 ((M.big e).mpr z)
      simp[c7']
def spRes (C:Addr):Sp:=fun vs H Q _=>∃(q:Addr) (t f r k l e:Nat),vs=[.ref q,.int ((l+1:Nat):Int),.int (e:Int)]∧AccAt C H q t f r k∧l<4∧Q (.int ((resMask f (l+1) e:Nat):Int)) H
theorem sc_reserved_bits:FnScope ["access","level","entry","bits"] ["access","level","entry"] (defScope s_reserved_bits):=⟨rfl,rfl,rfl,by decide +kernel,rfl,by decide +kernel,by decide +kernel⟩
theorem ok_reserved_bits (T:Txt K mg A):FnOk P w K mg base CX0 2 A.reserved_bits.1 A.reserved_bits.2 ["access","level","entry"] (spRes A.C_Access):=by
  refine T.f_reserved_bits.f.ok sc_reserved_bits (fun vs H Q E h=>?_) (fun cdv A' outer s0 H vs Q E hr h=>?_)
  · obtain⟨q,t,f,r,kd,l,e,rfl,_⟩:=h
    rfl
  · obtain⟨q,t,f,r,kd,l,e,rfl,⟨dx,hq⟩,hl,k⟩:=h
    refine⟨_,(pss_cons (ps_set (i:=3) sc_reserved_bits.nd rfl (Or.inl rfl) (pe_globI rfl T.g_RESERVED_ALWAYS))
      (pss_cons (ps_if (pt_not (pt_val (pe_meth (pv 0) T.c_Access T.f_has_any.mt (ok_has_any T) (hr.mono (by decide)) T.f_has_any.b .nil pass0 (pa_cons (pe_globI rfl T.g_NOT_EXECUTED_KNOWN) pa_nil)))) (pss_one (ps_set (i:=3) sc_reserved_bits.nd rfl (Or.inl rfl) (pe_op op_or (pv 3) (pe_globI rfl T.g_NOT_EXECUTED)))) pss_nil)
      (pss_cons (ps_if (pt_cmpR op_eq (pv 1) pe_int (nomark _)) (pss_one (ps_set (i:=3) sc_reserved_bits.nd rfl (Or.inl rfl) (pe_op op_or (pv 3) (pe_globI rfl T.g_BIG)))) (pss_one (ps_if (pt_cmpR op_ne (pe_op op_and (pv 2) (pe_globI rfl T.g_BIG)) pe_int (nomark _)) (pss_one (ps_set (i:=3) sc_reserved_bits.nd rfl (Or.inl rfl) (pe_op op_or (pv 3) (pe_dgetK (pe_globR rfl T.g_RESERVED_IF_BIG) (pv 1) pe_int ⟨rfl,rfl,rfl,rfl⟩)))) pss_nil)))
      (pss_one (ps_ret (pv 3)))))),?_⟩
    refine⟨_,rfl,q,dx,_,rfl,hq,af_has _ _ _ _,q,t,f,r,kd,4,rfl,⟨dx,hq⟩,_,rfl,?_⟩
    have e4:decide (V.int ((l+1:Nat):Int)=V.int 4)=decide (l+1=4):=by
      by_cases h:l+1=4
      · rw[decide_eq_true h,h];rfl
      · rw[decide_eq_false h,decide_eq_false (by intro z;injection z with z;omega)]
    have fin:∀(b:Nat),b=(if f &&& 4≠0 then 4502500115742720 else 4502500115742720 ||| 9223372036854775808) →
        if decide (V.int ((l+1:Nat):Int)=V.int 4)=true then Q (.int (Builtin.bitOr (b:Int) 128)) H
        else if says 128 e=true then Q (.int (Builtin.bitOr (b:Int) (lookK [(3,1073733632),(2,2088960)] ((l+1:Nat):Int) 0))) H else Q (.int (b:Int)) H:=by
      intro b hb
      have lk:lookK [(3,1073733632),(2,2088960)] ((l+1:Nat):Int) 0=(((if l+1=3 then 1073733632 else if l+1=2 then 2088960 else 0:Nat):Nat):Int):=by
        match l,hl with
        | 0,_=>rfl
        | 1,_=>rfl
        | 2,_=>rfl
        | 3,_=>rfl
      have kk:Q (.int ((resMask f (l+1) e:Nat):Int)) H:=k
      unfold resMask at kk
      simp only at kk
      rw[←hb]at kk
      rw[e4]
      refine ite2 (fun h=>?_) (fun h=>?_)
      · have h':=of_decide_eq_true h
        rw[if_pos h']at kk
        exact cv (bOr b 128) kk
      · have h':¬l+1=4:=fun z=>h (decide_eq_true z)
        rw[if_neg h']at kk
        refine ite2 (fun g=>?_) (fun g=>?_)
        · rw[if_pos (of_decide_eq_true g)]at kk
          refine cv ?_ kk
          rw[lk]
          exact bOr b _
        · rw[if_neg (fun z=>g (decide_eq_true z))]at kk
          exact kk
    refine ite2 (fun h=>?_) (fun h=>?_)
    ·
      have hf:¬(f &&& 4≠0):=by
        intro z
        rw[decide_eq_true z]at h
        cases h
      refine⟨_,rfl,_,_,rfl,rfl,?_⟩
      have F:=fin (4502500115742720 ||| 9223372036854775808) (by rw[if_neg hf])
      have eo:V.int (Builtin.bitOr 4502500115742720 9223372036854775808)=V.int ((4502500115742720 ||| 9223372036854775808:Nat):Int):=congrArg V.int (bOr 4502500115742720 9223372036854775808)
      dsimp only
      rw[eo]
      generalize (4502500115742720 ||| 9223372036854775808:Nat)=b at F ⊢
      refine⟨_,rfl,rfl,_,rfl,?_⟩
      refine ite2 (fun g=>?_) (fun g=>?_)
      · rw[if_pos g]at F
        exact⟨_,rfl,_,_,rfl,rfl,_,rfl,F⟩
      · rw[if_neg g]at F
        refine⟨_,rfl,_,_,rfl,rfl,rfl,_,rfl,?_⟩
        have sy:=say_int e 128
        refine ite2 (fun g2=>?_) (fun g2=>?_)
        · rw[if_pos (sy.symm.trans g2)]at F
          exact⟨_,rfl,A.a_RESERVED_IF_BIG,_,rfl,T.dk_RESERVED_IF_BIG,_,rfl,_,_,rfl,rfl,_,_,rfl,rfl,_,rfl,F⟩
        · rw[if_neg (fun z=>g2 (sy.trans z))]at F
          exact⟨_,rfl,F⟩
    · have hf:(f &&& 4≠0):=by
        apply Decidable.byContradiction
        intro z
        rw[decide_eq_false z]at h
        exact h rfl
      have F:=fin 4502500115742720 (by rw[if_pos hf])
      refine⟨_,rfl,rfl,_,rfl,?_⟩
      refine ite2 (fun g=>?_) (fun g=>?_)
      · rw[if_pos g]at F
        exact⟨_,rfl,_,_,rfl,rfl,_,rfl,F⟩
      · rw[if_neg g]at F
        refine⟨_,rfl,_,_,rfl,rfl,rfl,_,rfl,?_⟩
        have sy:=say_int e 128
        refine ite2 (fun g2=>?_) (fun g2=>?_)
        · rw[if_pos (sy.symm.trans g2)]at F
          exact⟨_,rfl,A.a_RESERVED_IF_BIG,_,rfl,T.dk_RESERVED_IF_BIG,_,rfl,_,_,rfl,rfl,_,_,rfl,rfl,_,rfl,F⟩
        · rw[if_neg (fun z=>g2 (sy.trans z))]at F
          exact⟨_,rfl,F⟩
end
end G
namespace G
open PySem PySem.Spec PyProof.Rows L2
section
variable {P:Program} {w:World} {K:PySem.W.Frag} {mg:Str→Option Value} {base:Heap} {A:Adr}
theorem eqI (k m:Nat):decide (V.int (k:Int)=V.int (m:Int))=(k==m):=by
 by_cases h:k=m
 ·subst h;simp
 ·rw[decide_eq_false (by intro z;injection z with z;omega),beq_eq_false_iff_ne.mpr h]
def codeN (f k c:Nat):Nat:=c+2 * Sd19.nat (k==1)+4 * Sd19.nat (Sd19.bit f 0)+16 * Sd19.nat (k==2&&(Sd19.bit f 2||Sd19.bit f 3))
theorem any1 (f:Nat):decide (f &&& 1≠0)=Sd19.bit f 0:=decB (M.there f)
theorem any2 (f:Nat):decide (f &&& 2≠0)=Sd19.bit f 1:=decB (M.writable f)
theorem any4 (f:Nat):decide (f &&& 4≠0)=Sd19.bit f 2:=decB (M.users f)
theorem any8 (f:Nat):decide (f &&& 8≠0)=Sd19.bit f 3:=decB (M.and_pow f 3)
theorem any16 (f:Nat):decide (f &&& 16≠0)=Sd19.bit f 4:=decB (M.and_pow f 4)
theorem any32 (f:Nat):decide (f &&& 32≠0)=Sd19.bit f 5:=decB (M.and_pow f 5)
theorem any64 (f:Nat):decide (f &&& 64≠0)=Sd19.bit f 6:=decB (M.and_pow f 6)
theorem any12 (f:Nat):decide (f &&& 12≠0)=(Sd19.bit f 2||Sd19.bit f 3):=by
 apply decB
 have e:(12:Nat)=4 ||| 8:=rfl
 rw[e,Nat.and_or_distrib_left,M.or_ne,M.users,M.and_pow f 3,Bool.or_eq_true]
theorem any3 (f:Nat):decide (f &&& 3≠0)=(Sd19.bit f 0||Sd19.bit f 1):=by
 apply decB
 have e:(3:Nat)=1 ||| 2:=rfl
 rw[e,Nat.and_or_distrib_left,M.or_ne,M.there,M.writable,Bool.or_eq_true]
theorem or48:Builtin.bitOr 4 8=((12:Nat):Int):=bOr 4 8
theorem or12:Builtin.bitOr 1 2=((3:Nat):Int):=bOr 1 2
def spCode (C:Addr):Sp:=fun vs H Q _=>∃(q:Addr) (t f r k c:Nat),vs=[.ref q,.int (c:Int)]∧AccAt C H q t f r k∧Q (.int ((codeN f k c:Nat):Int)) H
theorem sc_fault_code:FnScope ["access","cause","code"] ["access","cause"] (defScope s_fault_code):=⟨rfl,rfl,rfl,by decide +kernel,rfl,by decide +kernel,by decide +kernel⟩
theorem ok_fault_code (T:Txt K mg A):FnOk P w K mg base CX0 2 A.fault_code.1 A.fault_code.2 ["access","cause"] (spCode A.C_Access):=by
  refine T.f_fault_code.f.ok sc_fault_code (fun vs H Q E h=>?_) (fun cdv A' outer s0 H vs Q E hr h=>?_)
  · obtain⟨q,t,f,r,kd,c,rfl,_⟩:=h
    rfl
  · obtain ⟨q, t, f, r, kd, c, rfl, ⟨dx, hq⟩, k⟩ := h
    refine⟨_,(pss_cons (ps_set (i:=2) sc_fault_code.nd rfl (Or.inl rfl) (pv 1))
      (pss_cons (ps_if (pt_cmpR op_eq (pe_fld (pv 0) rfl) (pe_globI rfl T.g_WRITING) (nomark _)) (pss_one (ps_aug (i:=2) sc_fault_code.nd rfl (Or.inl rfl) pe_int ip_add)) pss_nil)
      (pss_cons (ps_if (pt_val (pe_meth (pv 0) T.c_Access T.f_has_any.mt (ok_has_any T) (hr.mono (by decide)) T.f_has_any.b .nil pass0 (pa_cons (pe_globI rfl T.g_FOR_USER) pa_nil))) (pss_one (ps_aug (i:=2) sc_fault_code.nd rfl (Or.inl rfl) pe_int ip_add)) pss_nil)
      (pss_cons (ps_if (PW.pt (pw_and (pt_cmpR op_eq (pe_fld (pv 0) rfl) (pe_globI rfl T.g_EXECUTING) (nomark _)) (pw_and1 (pt_val (pe_meth (pv 0) T.c_Access T.f_has_any.mt (ok_has_any T) (hr.mono (by decide)) T.f_has_any.b .nil pass0 (pa_cons (pe_op op_or (pe_globI rfl T.g_NOT_EXECUTED_KNOWN) (pe_globI rfl T.g_KERNEL_EXECUTES_NO_USERS)) pa_nil)))))) (pss_one (ps_aug (i:=2) sc_fault_code.nd rfl (Or.inl rfl) pe_int ip_add)) pss_nil)
      (pss_one (ps_ret (pv 2))))))),?_⟩
    refine⟨_,rfl,?_⟩
    refine⟨_,rfl,q,_,dx,_,_,rfl,hq,T.c_Access,T.na_Access_kind,af_kind _ _ _ _,rfl,_,rfl,?_⟩
    have e1:decide (V.int (kd:Int)=V.int 1)=(kd==1):=eqI kd 1
    have e2:decide (V.int (kd:Int)=V.int 2)=(kd==2):=eqI kd 2
    rw[e1]
    have fin:∀z:Int,z=((c+2 * Sd19.nat (kd==1):Nat):Int)→∀z2:Int,z2=z+((4 * Sd19.nat (Sd19.bit f 0):Nat):Int) →
        ((if(kd==2)=true then(if(Sd19.bit f 2||Sd19.bit f 3)=true then Q (.int (z2+16)) H else Q (.int z2) H)else Q (.int z2) H)):=by
      intro z hz z2 hz2
      refine ite2 (fun g=>?_) (fun g=>?_)
      · refine ite2 (fun g2=>?_) (fun g2=>?_)
        · refine cv ?_ k
          unfold codeN
          rw[g,g2,hz2,hz]
          show _=((_+16 * 1:Nat):Int)
          omega
        · refine cv ?_ k
          unfold codeN
          rw[g,nf g2,hz2,hz]
          show _=((_+16 * 0:Nat):Int)
          omega
      · refine cv ?_ k
        unfold codeN
        rw[nf g,hz2,hz,Bool.false_and]
        show _=((_+16 * 0:Nat):Int)
        omega
    have mid:∀(z:Int),z=((c+2 * Sd19.nat (kd==1):Nat):Int)→if Sd19.bit f 0=true then
          ((if(kd==2)=true then(if(Sd19.bit f 2||Sd19.bit f 3)=true then Q (.int (z+4+16)) H else Q (.int (z+4)) H)else Q (.int (z+4)) H))
        else((if(kd==2)=true then(if(Sd19.bit f 2||Sd19.bit f 3)=true then Q (.int (z+16)) H else Q (.int z) H)else Q (.int z) H)):=by
      intro z hz
      refine ite2 (fun g=>?_) (fun g=>?_)
      · exact fin z hz _ (by rw[g];rfl)
      · exact fin z hz _ (by rw[nf g];show z=z+((4 * 0:Nat):Int);omega)
    have last:∀(z:Int),(if(kd==2)=true then(if(Sd19.bit f 2||Sd19.bit f 3)=true then Q (.int (z+16)) H else Q (.int z) H)else Q (.int z) H)→∀(R:Prop),R→True:=fun _ _ _ _=>trivial
    refine ite2 (fun g=>?_) (fun g=>?_)
    · have G1:=mid ((c:Int)+2) (by rw[g];show _=((c+2 * 1:Nat):Int);omega)
      refine⟨_,rfl,_,_,rfl,rfl,?_⟩
      refine⟨_,rfl,q,dx,_,rfl,hq,af_has _ _ _ _,q,t,f,r,kd,1,rfl,⟨dx,hq⟩,_,rfl,?_⟩
      rw[any1]
      refine ite2 (fun g2=>?_) (fun g2=>?_)
      · rw [if_pos g2] at G1
        refine⟨_,rfl,_,_,rfl,rfl,?_⟩
        refine⟨_,rfl,q,_,dx,_,_,rfl,hq,T.c_Access,T.na_Access_kind,af_kind _ _ _ _,rfl,_,rfl,?_⟩
        rw[e2]
        refine ite2 (fun g3=>?_) (fun g3=>?_)
        · rw[if_pos g3]at G1
          refine⟨_,rfl,q,dx,_,rfl,hq,af_has _ _ _ _,_,_,rfl,rfl,q,t,f,r,kd,12,congrArg (fun z=>[V.ref q,V.int z]) or48,⟨dx,hq⟩,_,rfl,?_⟩
          rw[any12]
          refine ite2 (fun g4=>?_) (fun g4=>?_)
          · rw[if_pos g4]at G1
            exact⟨_,rfl,_,_,rfl,rfl,_,rfl,G1⟩
          · rw[if_neg g4]at G1
            exact⟨_,rfl,G1⟩
        · rw[if_neg g3]at G1
          refine iteF ?_
          exact⟨_,rfl,G1⟩
      · rw [if_neg g2] at G1
        refine⟨_,rfl,q,_,dx,_,_,rfl,hq,T.c_Access,T.na_Access_kind,af_kind _ _ _ _,rfl,_,rfl,?_⟩
        rw[e2]
        refine ite2 (fun g3=>?_) (fun g3=>?_)
        · rw[if_pos g3]at G1
          refine⟨_,rfl,q,dx,_,rfl,hq,af_has _ _ _ _,_,_,rfl,rfl,q,t,f,r,kd,12,congrArg (fun z=>[V.ref q,V.int z]) or48,⟨dx,hq⟩,_,rfl,?_⟩
          rw[any12]
          refine ite2 (fun g4=>?_) (fun g4=>?_)
          · rw[if_pos g4]at G1
            exact⟨_,rfl,_,_,rfl,rfl,_,rfl,G1⟩
          · rw[if_neg g4]at G1
            exact⟨_,rfl,G1⟩
        · rw[if_neg g3]at G1
          refine iteF ?_
          exact⟨_,rfl,G1⟩
    · have G1:=mid (c:Int) (by rw[nf g];show _=((c+2 * 0:Nat):Int);omega)
      refine⟨_,rfl,q,dx,_,rfl,hq,af_has _ _ _ _,q,t,f,r,kd,1,rfl,⟨dx,hq⟩,_,rfl,?_⟩
      rw[any1]
      refine ite2 (fun g2=>?_) (fun g2=>?_)
      · rw [if_pos g2] at G1
        refine⟨_,rfl,_,_,rfl,rfl,?_⟩
        refine⟨_,rfl,q,_,dx,_,_,rfl,hq,T.c_Access,T.na_Access_kind,af_kind _ _ _ _,rfl,_,rfl,?_⟩
        rw[e2]
        refine ite2 (fun g3=>?_) (fun g3=>?_)
        · rw[if_pos g3]at G1
          refine⟨_,rfl,q,dx,_,rfl,hq,af_has _ _ _ _,_,_,rfl,rfl,q,t,f,r,kd,12,congrArg (fun z=>[V.ref q,V.int z]) or48,⟨dx,hq⟩,_,rfl,?_⟩
          rw[any12]
          refine ite2 (fun g4=>?_) (fun g4=>?_)
          · rw[if_pos g4]at G1
            exact⟨_,rfl,_,_,rfl,rfl,_,rfl,G1⟩
          · rw[if_neg g4]at G1
            exact⟨_,rfl,G1⟩
        · rw[if_neg g3]at G1
          refine iteF ?_
          exact⟨_,rfl,G1⟩
      · rw [if_neg g2] at G1
        refine⟨_,rfl,q,_,dx,_,_,rfl,hq,T.c_Access,T.na_Access_kind,af_kind _ _ _ _,rfl,_,rfl,?_⟩
        rw[e2]
        refine ite2 (fun g3=>?_) (fun g3=>?_)
        · rw[if_pos g3]at G1
          refine⟨_,rfl,q,dx,_,rfl,hq,af_has _ _ _ _,_,_,rfl,rfl,q,t,f,r,kd,12,congrArg (fun z=>[V.ref q,V.int z]) or48,⟨dx,hq⟩,_,rfl,?_⟩
          rw[any12]
          refine ite2 (fun g4=>?_) (fun g4=>?_)
          · rw[if_pos g4]at G1
            exact⟨_,rfl,_,_,rfl,rfl,_,rfl,G1⟩
          · rw[if_neg g4]at G1
            exact⟨_,rfl,G1⟩
        · rw[if_neg g3]at G1
          refine iteF ?_
          exact⟨_,rfl,G1⟩
end
end G
namespace G
open PySem PySem.Spec PyProof.Rows L2
section
variable {P:Program} {w:World} {K:PySem.W.Frag} {mg:Str→Option Value} {base:Heap} {A:Adr}
theorem AccAt.keep {C:Addr} {H H':Hp} {q:Addr} {t f r k:Nat} (a:AccAt C H q t f r k) (s:Same H H'):AccAt C H' q t f r k:=by
 obtain⟨dx,h⟩:=a
 exact⟨dx,s _ _ h⟩
theorem all4 (es:List Nat):es.all (says 4)=es.all (Sd19.bit · 2):=by
 congr 1
 funext e
 exact any4 e
theorem all2 (es:List Nat):es.all (says 2)=es.all (Sd19.bit · 1):=by
 congr 1
 funext e
 exact any2 e
theorem anyNX (es:List Nat):es.any (says 9223372036854775808)=!(es.all fun e=>!Sd19.bit e 63):=by
 have:says 9223372036854775808=(Sd19.bit · 63):=by
  funext e
  exact decB (M.nx e)
 rw[this]
 induction es with
 | nil=>rfl
 | cons a l ih=>rw[List.any_cons,List.all_cons,ih];cases Sd19.bit a 63<;>simp
def spAsk (C W:Addr) (an:(f r k:Nat)→(es:List Nat)→Bool):Sp:=fun vs H Q _=>∃(q qw lp le:Addr) (t f r k:Nat) (ps es:List Nat),vs=[.ref q,.ref qw]∧AccAt C H q t f r k∧WayOb W H qw lp le ps es∧k≤2∧1≤es.length∧es.length≤4 ∧
 ∀H',Same H H'→Q (.bl (an f r k es)) H'
def denK (f r k:Nat) (es:List Nat):Bool:=Sd19.denied (M.cpuOf 0 f r) k (Sd19.bits (es.getLast?.getD 0) 59 4) (es.all (Sd19.bit · 2))
theorem last_of {es:List Nat} (h:1≤es.length):∃l e,es=l++[e]∧es.getLast?.getD 0=e:=by
 have hne:es≠[]:=by intro z;rw[z]at h;simp at h
 refine⟨es.dropLast,es.getLast hne,(List.dropLast_concat_getLast hne).symm,?_⟩
 rw[List.getLast?_eq_some_getLast hne]
 rfl
theorem shr_int (r k:Nat):((r:Int) / 2 ^ (2 * ((k:Nat):Int)).toNat)=((r / 2 ^ (2 * k):Nat):Int):=by
 have e:(2 * ((k:Nat):Int)).toNat=2 * k:=by omega
 rw[e]
 exact idiv_pow r (2 * k)
theorem sc_key_denies:FnScope ["access","way","rights"] ["access","way"] (defScope s_key_denies):=⟨rfl,rfl,rfl,by decide +kernel,rfl,by decide +kernel,by decide +kernel⟩
theorem ok_key_denies (T:Txt K mg A):FnOk P w K mg base CX0 2 A.key_denies.1 A.key_denies.2 ["access","way"] (spAsk A.C_Access A.C_Way denK):=by
  refine T.f_key_denies.f.ok sc_key_denies (fun vs H Q E h=>?_) (fun cdv A' outer s0 H vs Q E hr h=>?_)
  · obtain⟨q,qw,lp,le,t,f,r,kd,ps,es,rfl,_⟩:=h
    rfl
  · obtain ⟨q, qw, lp, le, t, f, r, kd, ps, es, rfl, ⟨dx, hq⟩, W, hk, l1, l4, k⟩ := h
    obtain⟨es',e,he,hg⟩:=last_of l1
    refine⟨_,(pss_cons (ps_if (PW.pt (pw_or (pt_not (pt_val (pe_meth (pv 0) T.c_Access T.f_has_any.mt (ok_has_any T) (hr.mono (by decide)) T.f_has_any.b .nil pass0 (pa_cons (pe_globI rfl T.g_KEYS_KNOWN) pa_nil)))) (pw_or (pt_not (pt_val (pe_meth (pv 1) T.c_Way T.f_all_say.mt (ok_all_say T) (hr.mono (by decide)) T.f_all_say.b .nil pass0 (pa_cons (pe_globI rfl T.g_USERS) pa_nil)))) (pw_or1 (pt_cmpR op_eq (pe_fld (pv 0) rfl) (pe_globI rfl T.g_EXECUTING) (nomark _)))))) (pss_one (ps_ret (pe_bl (b:=false)))) pss_nil)
      (pss_cons (ps_set (i:=2) sc_key_denies.nd rfl (Or.inl rfl) (pe_op op_shr (pe_fld (pv 0) rfl) (pe_op op_mul pe_int (pe_call (ok_key_of T) (hr.mono (by decide)) rfl T.f_key_of.m T.f_key_of.f.kp T.f_key_of.b .nil pass0 (pa_cons (pe_meth0 (pv 1) T.c_Way T.f_last_entry.mt (ok_last_entry T) (hr.mono (by decide)) T.f_last_entry.b .nil pass0) pa_nil)))))
      (pss_cons (ps_if (pt_cmpR op_ne (pe_op op_and (pv 2) pe_int) pe_int (nomark _)) (pss_one (ps_ret (pe_bl (b:=true)))) pss_nil)
      (pss_one (ps_ret (pe_and (pe_cmpR op_eq (pe_fld (pv 0) rfl) (pe_globI rfl T.g_WRITING) (nomark _)) (pe_and (pe_cmpR op_ne (pe_op op_and (pv 2) pe_int) pe_int (nomark _)) (pe_one (pe_meth (pv 0) T.c_Access T.f_has_any.mt (ok_has_any T) (hr.mono (by decide)) T.f_has_any.b .nil pass0 (pa_cons (pe_op op_or (pe_globI rfl T.g_FOR_USER) (pe_globI rfl T.g_WRITE_PROTECTION)) pa_nil)))))))))),?_⟩
    have e2:decide (V.int (kd:Int)=V.int 2)=(kd==2):=eqI kd 2
    have e1:decide (V.int (kd:Int)=V.int 1)=(kd==1):=eqI kd 1
    have an:denK f r kd es=(Sd19.bit f 6&&(es.all (Sd19.bit · 2)&&(kd != 2&&(Sd19.bit r (2 * Sd19.bits e 59 4)||(kd==1&&(Sd19.bit r (2 * Sd19.bits e 59 4+1)&&(Sd19.bit f 0||Sd19.bit f 1))))))):=by
      unfold denK
      rw[hg]
      rfl
    rw[an]at k
    refine⟨_,rfl,q,dx,_,rfl,hq,af_has _ _ _ _,q,t,f,r,kd,64,rfl,⟨dx,hq⟩,_,rfl,?_⟩
    rw[any64]
    refine ite2 (fun g=>?_) (fun g=>?_)
    · have g':Sd19.bit f 6=false:=by simpa using g
      refine iteT ?_
      exact cb (by rw[g',Bool.false_and]) (k _ (Same.refl' _))
    · have g' : Sd19.bit f 6 = true := by simpa using g
      obtain⟨dw,ow⟩:=W.ob
      refine⟨_,rfl,qw,dw,_,rfl,ow,wf_no _ _ (by decide +kernel) (by decide +kernel),qw,lp,le,ps,es,4,rfl,W,l4,fun H1 s1=>⟨_,rfl,?_⟩⟩
      have hq1:=s1 _ _ hq
      have W1:=W.keep s1
      rw[all4]
      refine ite2 (fun g2=>?_) (fun g2=>?_)
      · have g2':es.all (Sd19.bit · 2)=false:=by simpa using g2
        refine iteT ?_
        exact cb (by rw[g2',Bool.false_and,Bool.and_false]) (k _ s1)
      · have g2':es.all (Sd19.bit · 2)=true:=by simpa using g2
        refine⟨_,rfl,q,_,dx,_,_,rfl,hq1,T.c_Access,T.na_Access_kind,af_kind _ _ _ _,rfl,_,rfl,?_⟩
        rw[e2]
        refine ite2 (fun g3=>?_) (fun g3=>?_)
        · have g3':(kd != 2)=false:=by rw[bne,g3];rfl
          exact cb (by rw[g3',Bool.false_and,Bool.and_false,Bool.and_false]) (k _ s1)
        · have g3':(kd != 2)=true:=by rw[bne,nf g3];rfl
          rw[g',g2',g3',Bool.true_and,Bool.true_and,Bool.true_and]at k
          obtain⟨dw1,ow1⟩:=W1.ob
          have hk4:Sd19.bits e 59 4<16:=Nat.mod_lt _ (by decide)
          refine⟨_,rfl,q,_,dx,_,_,rfl,hq1,T.c_Access,T.na_Access_rights,af_rights _ _ _ _,_,rfl,qw,dw1,_,rfl,ow1,wf_no _ _ (by decide +kernel) (by decide +kernel),qw,lp,le,ps,es',e,rfl,(by rw[←he];exact W1),e,rfl,
            _,_,rfl,rfl,.inl ⟨by decide,by decide⟩,_,_,rfl,rfl,by omega,?_⟩
          dsimp only
          rw[shr_int]
          refine⟨_,rfl,_,_,rfl,rfl,rfl,_,rfl,?_⟩
          have r1:(!decide (V.int (Builtin.bitAnd ((r / 2 ^ (2 * Sd19.bits e 59 4):Nat):Int) 1)=V.int 0))=Sd19.bit r (2 * Sd19.bits e 59 4):=and_ne _ 1 (M.right1 _ _)
          have r2:(!decide (V.int (Builtin.bitAnd ((r / 2 ^ (2 * Sd19.bits e 59 4):Nat):Int) 2)=V.int 0))=Sd19.bit r (2 * Sd19.bits e 59 4+1):=and_ne _ 2 (M.right2 _ _)
          rw[r1]
          refine ite2 (fun g4=>?_) (fun g4=>?_)
          · exact cb (by rw[g4,Bool.true_or]) (k _ s1)
          · rw [nf g4, Bool.false_or] at k
            refine⟨_,rfl,q,_,dx,_,_,rfl,hq1,T.c_Access,T.na_Access_kind,af_kind _ _ _ _,rfl,_,rfl,?_⟩
            rw[e1]
            refine ite2 (fun g5=>?_) (fun g5=>?_)
            · rw[g5,Bool.true_and]at k
              refine⟨_,rfl,_,_,rfl,rfl,rfl,_,rfl,?_⟩
              rw[r2]
              refine ite2 (fun g6=>?_) (fun g6=>?_)
              · rw[g6,Bool.true_and]at k
                refine⟨_,rfl,q,dx,_,rfl,hq1,af_has _ _ _ _,_,_,rfl,rfl,q,t,f,r,kd,3,congrArg (fun z=>[V.ref q,V.int z]) or12,⟨dx,hq1⟩,cb (any3 f) (k _ s1)⟩
              · exact cb (by rw[nf g6,Bool.false_and]) (k _ s1)
            · exact cb (by rw[nf g5,Bool.false_and]) (k _ s1)
def alUser (f r k:Nat) (es:List Nat):Bool:=es.all (Sd19.bit · 2)&&(if k=1 then es.all (Sd19.bit · 1)else if k=2 then(es.all fun e=>!Sd19.bit e 63)else true)
theorem sc_user_may:FnScope ["access","way"] ["access","way"] (defScope s_user_may):=⟨rfl,rfl,rfl,by decide +kernel,rfl,by decide +kernel,by decide +kernel⟩
theorem ok_user_may (T:Txt K mg A):FnOk P w K mg base CX0 2 A.user_may.1 A.user_may.2 ["access","way"] (spAsk A.C_Access A.C_Way alUser):=by
  refine T.f_user_may.f.ok sc_user_may (fun vs H Q E h=>?_) (fun cdv A' outer s0 H vs Q E hr h=>?_)
  · obtain⟨q,qw,lp,le,t,f,r,kd,ps,es,rfl,_⟩:=h
    rfl
  · obtain⟨q,qw,lp,le,t,f,r,kd,ps,es,rfl,⟨dx,hq⟩,W,hk,l1,l4,k⟩:=h
    refine⟨_,(pss_cons (ps_if (pt_not (pt_val (pe_meth (pv 1) T.c_Way T.f_all_say.mt (ok_all_say T) (hr.mono (by decide)) T.f_all_say.b .nil pass0 (pa_cons (pe_globI rfl T.g_USERS) pa_nil)))) (pss_one (ps_ret (pe_bl (b:=false)))) pss_nil)
      (pss_cons (ps_if (pt_cmpR op_eq (pe_fld (pv 0) rfl) (pe_globI rfl T.g_WRITING) (nomark _)) (pss_one (ps_ret (pe_meth (pv 1) T.c_Way T.f_all_say.mt (ok_all_say T) (hr.mono (by decide)) T.f_all_say.b .nil pass0 (pa_cons (pe_globI rfl T.g_WRITABLE) pa_nil)))) pss_nil)
      (pss_one (ps_ret (pe_or (pe_cmpR op_eq (pe_fld (pv 0) rfl) (pe_globI rfl T.g_READING) (nomark _)) (pe_one (pe_not (pe_meth (pv 1) T.c_Way T.f_any_says.mt (ok_any_says T) (hr.mono (by decide)) T.f_any_says.b .nil pass0 (pa_cons (pe_globI rfl T.g_NOT_EXECUTED) pa_nil))))))))),?_⟩
    have e1:decide (V.int (kd:Int)=V.int 1)=(kd==1):=eqI kd 1
    have e0:decide (V.int (kd:Int)=V.int 0)=(kd==0):=eqI kd 0
    obtain⟨dw,ow⟩:=W.ob
    refine⟨_,rfl,qw,dw,_,rfl,ow,wf_no _ _ (by decide +kernel) (by decide +kernel),qw,lp,le,ps,es,4,rfl,W,l4,fun H1 s1=>⟨_,rfl,?_⟩⟩
    have hq1:=s1 _ _ hq
    have W1:=W.keep s1
    obtain⟨dw1,ow1⟩:=W1.ob
    rw[all4]
    refine ite2 (fun g2=>?_) (fun g2=>?_)
    · have g2':es.all (Sd19.bit · 2)=false:=by simpa using g2
      exact cb (by unfold alUser;rw[g2',Bool.false_and]) (k _ s1)
    · have g2':es.all (Sd19.bit · 2)=true:=by simpa using g2
      refine⟨_,rfl,q,_,dx,_,_,rfl,hq1,T.c_Access,T.na_Access_kind,af_kind _ _ _ _,rfl,_,rfl,?_⟩
      rw[e1]
      refine ite2 (fun g=>?_) (fun g=>?_)
      · have g':kd=1:=eq_of_beq g
        refine⟨_,rfl,qw,dw1,_,rfl,ow1,wf_no _ _ (by decide +kernel) (by decide +kernel),qw,lp,le,ps,es,2,rfl,W1,l4,fun H2 s2=>?_⟩
        refine cb ?_ (k _ (s1.trans s2))
        unfold alUser
        rw[g2',if_pos g',Bool.true_and,all2]
      · have g':¬kd=1:=fun z=>g (beq_iff_eq.mpr z)
        refine⟨_,rfl,q,_,dx,_,_,rfl,hq1,T.c_Access,T.na_Access_kind,af_kind _ _ _ _,rfl,_,rfl,?_⟩
        rw[e0]
        refine ite2 (fun g3=>?_) (fun g3=>?_)
        · have g3':kd=0:=eq_of_beq g3
          refine cb ?_ (k _ s1)
          unfold alUser
          rw[g2',if_neg g',if_neg (by omega)]
          rfl
        · have g3':¬kd=0:=fun z=>g3 (beq_iff_eq.mpr z)
          refine⟨_,rfl,qw,dw1,_,rfl,ow1,wf_no _ _ (by decide +kernel) (by decide +kernel),qw,lp,le,ps,es,9223372036854775808,rfl,W1,l4,fun H2 s2=>⟨_,rfl,?_⟩⟩
          refine cb ?_ (k _ (s1.trans s2))
          unfold alUser
          rw[g2',if_neg g',if_pos (by omega),Bool.true_and,anyNX,Bool.not_not]
def alExec (f r k:Nat) (es:List Nat):Bool:=(es.all fun e=>!Sd19.bit e 63)&&!(es.all (Sd19.bit · 2)&&Sd19.bit f 3)
theorem sc_kernel_may_execute:FnScope ["access","way"] ["access","way"] (defScope s_kernel_may_execute):=⟨rfl,rfl,rfl,by decide +kernel,rfl,by decide +kernel,by decide +kernel⟩
theorem ok_kernel_may_execute (T:Txt K mg A):FnOk P w K mg base CX0 2 A.kernel_may_execute.1 A.kernel_may_execute.2 ["access","way"] (spAsk A.C_Access A.C_Way alExec):=by
  refine T.f_kernel_may_execute.f.ok sc_kernel_may_execute (fun vs H Q E h=>?_) (fun cdv A' outer s0 H vs Q E hr h=>?_)
  · obtain⟨q,qw,lp,le,t,f,r,kd,ps,es,rfl,_⟩:=h
    rfl
  · obtain⟨q,qw,lp,le,t,f,r,kd,ps,es,rfl,⟨dx,hq⟩,W,hk,l1,l4,k⟩:=h
    refine⟨_,(pss_cons (ps_if (PW.pt (pw_and (pt_val (pe_meth (pv 0) T.c_Access T.f_has_any.mt (ok_has_any T) (hr.mono (by decide)) T.f_has_any.b .nil pass0 (pa_cons (pe_globI rfl T.g_KERNEL_EXECUTES_NO_USERS) pa_nil))) (pw_and1 (pt_val (pe_meth (pv 1) T.c_Way T.f_all_say.mt (ok_all_say T) (hr.mono (by decide)) T.f_all_say.b .nil pass0 (pa_cons (pe_globI rfl T.g_USERS) pa_nil)))))) (pss_one (ps_ret (pe_bl (b:=false)))) pss_nil)
      (pss_one (ps_ret (pe_not (pe_meth (pv 1) T.c_Way T.f_any_says.mt (ok_any_says T) (hr.mono (by decide)) T.f_any_says.b .nil pass0 (pa_cons (pe_globI rfl T.g_NOT_EXECUTED) pa_nil)))))),?_⟩
    have fin:∀H1,Same H H1→(es.all (Sd19.bit · 2)&&Sd19.bit f 3)=false→∀H2,Same H1 H2→Q (.bl (!(es.any (says 9223372036854775808)))) H2:=fun H1 s1 g H2 s2=>by
      refine cb ?_ (k _ (s1.trans s2))
      unfold alExec
      rw[g,anyNX,Bool.not_not]
      simp
    obtain⟨dw,ow⟩:=W.ob
    refine⟨_,rfl,q,dx,_,rfl,hq,af_has _ _ _ _,q,t,f,r,kd,8,rfl,⟨dx,hq⟩,_,rfl,?_⟩
    rw[any8]
    refine ite2 (fun g=>?_) (fun g=>?_)
    · refine⟨_,rfl,qw,dw,_,rfl,ow,wf_no _ _ (by decide +kernel) (by decide +kernel),qw,lp,le,ps,es,4,rfl,W,l4,fun H1 s1=>⟨_,rfl,?_⟩⟩
      have W1:=W.keep s1
      obtain⟨dw1,ow1⟩:=W1.ob
      rw[all4]
      refine ite2 (fun g2=>?_) (fun g2=>?_)
      · refine cb ?_ (k _ s1)
        unfold alExec
        rw[g,g2]
        simp
      · refine⟨_,rfl,qw,dw1,_,rfl,ow1,wf_no _ _ (by decide +kernel) (by decide +kernel),qw,lp,le,ps,es,9223372036854775808,rfl,W1,l4,fun H2 s2=>⟨_,rfl,?_⟩⟩
        exact fin H1 s1 (by rw[nf g2,Bool.false_and]) H2 s2
    · refine iteF ?_
      refine⟨_,rfl,qw,dw,_,rfl,ow,wf_no _ _ (by decide +kernel) (by decide +kernel),qw,lp,le,ps,es,9223372036854775808,rfl,W,l4,fun H2 s2=>⟨_,rfl,?_⟩⟩
      exact fin H (Same.refl' _) (by rw[nf g,Bool.and_false]) H2 s2
def alMove (f r k:Nat) (es:List Nat):Bool:=!(es.all (Sd19.bit · 2)&&(Sd19.bit f 4&&!Sd19.bit f 5))&&(k==0||(es.all (Sd19.bit · 1)||!Sd19.bit f 1))
theorem sc_kernel_may_move:FnScope ["access","way","kept_off"] ["access","way"] (defScope s_kernel_may_move):=⟨rfl,rfl,rfl,by decide +kernel,rfl,by decide +kernel,by decide +kernel⟩
theorem ok_kernel_may_move (T:Txt K mg A):FnOk P w K mg base CX0 2 A.kernel_may_move.1 A.kernel_may_move.2 ["access","way"] (spAsk A.C_Access A.C_Way alMove):=by
  refine T.f_kernel_may_move.f.ok sc_kernel_may_move (fun vs H Q E h=>?_) (fun cdv A' outer s0 H vs Q E hr h=>?_)
  · obtain⟨q,qw,lp,le,t,f,r,kd,ps,es,rfl,_⟩:=h
    rfl
  · obtain⟨q,qw,lp,le,t,f,r,kd,ps,es,rfl,⟨dx,hq⟩,W,hk,l1,l4,k⟩:=h
    refine⟨_,(pss_cons (ps_set (i:=2) sc_kernel_may_move.nd rfl (Or.inl rfl) (pe_and (pe_meth (pv 0) T.c_Access T.f_has_any.mt (ok_has_any T) (hr.mono (by decide)) T.f_has_any.b .nil pass0 (pa_cons (pe_globI rfl T.g_KERNEL_MOVES_NO_USERS) pa_nil)) (pe_one (pe_not (pe_meth (pv 0) T.c_Access T.f_has_any.mt (ok_has_any T) (hr.mono (by decide)) T.f_has_any.b .nil pass0 (pa_cons (pe_globI rfl T.g_KERNEL_MOVES_NOW) pa_nil))))))
      (pss_cons (ps_if (PW.pt (pw_and (pt_val (pv 2)) (pw_and1 (pt_val (pe_meth (pv 1) T.c_Way T.f_all_say.mt (ok_all_say T) (hr.mono (by decide)) T.f_all_say.b .nil pass0 (pa_cons (pe_globI rfl T.g_USERS) pa_nil)))))) (pss_one (ps_ret (pe_bl (b:=false)))) pss_nil)
      (pss_one (ps_ret (pe_or (pe_cmpR op_eq (pe_fld (pv 0) rfl) (pe_globI rfl T.g_READING) (nomark _)) (pe_or (pe_meth (pv 1) T.c_Way T.f_all_say.mt (ok_all_say T) (hr.mono (by decide)) T.f_all_say.b .nil pass0 (pa_cons (pe_globI rfl T.g_WRITABLE) pa_nil)) (pe_one (pe_not (pe_meth (pv 0) T.c_Access T.f_has_any.mt (ok_has_any T) (hr.mono (by decide)) T.f_has_any.b .nil pass0 (pa_cons (pe_globI rfl T.g_WRITE_PROTECTION) pa_nil)))))))))),?_⟩
    have e0:decide (V.int (kd:Int)=V.int 0)=(kd==0):=eqI kd 0
    obtain⟨dw,ow⟩:=W.ob
    have fin:∀(H1:Hp) (b:Bool),Same H H1→(es.all (Sd19.bit · 2)&&(Sd19.bit f 4&&!Sd19.bit f 5))=false →
        tRet (tOrV (tOp rEq (tFld K (tVar 0) "kind") (tC (.int 0))) (tOrV (tMeth A.C_Way "all_say" (spAllSay A.C_Way) [] E0 (tVar 1) (tCons (tC (.int 2)) tNil)) (tNotV (tMeth A.C_Access "has_any" (spHasAny A.C_Access) [] E0 (tVar 0) (tCons (tC (.int 2)) tNil)))))
          { nx:=fun _ H'=>Q .non H',rt:=Q } [some (.ref q),some (.ref qw),some (.bl b)] H1:=by
      intro H1 b s1 g
      have hq1:=s1 _ _ hq
      have W1:=W.keep s1
      obtain⟨dw1,ow1⟩:=W1.ob
      refine⟨_,rfl,q,_,dx,_,_,rfl,hq1,T.c_Access,T.na_Access_kind,af_kind _ _ _ _,rfl,_,rfl,?_⟩
      rw[e0]
      refine ite2 (fun g3=>?_) (fun g3=>?_)
      · refine cb ?_ (k _ s1)
        unfold alMove
        rw[g,g3]
        simp
      · refine⟨_,rfl,qw,dw1,_,rfl,ow1,wf_no _ _ (by decide +kernel) (by decide +kernel),qw,lp,le,ps,es,2,rfl,W1,l4,fun H2 s2=>⟨_,rfl,?_⟩⟩
        rw[all2]
        refine ite2 (fun g4=>?_) (fun g4=>?_)
        · refine cb ?_ (k _ (s1.trans s2))
          unfold alMove
          rw[g,g4]
          simp
        · refine⟨_,rfl,q,dx,_,rfl,s2 _ _ hq1,af_has _ _ _ _,q,t,f,r,kd,2,rfl,⟨dx,s2 _ _ hq1⟩,_,rfl,?_⟩
          refine cb ?_ (k _ (s1.trans s2))
          unfold alMove
          rw[g,any2,nf g3,nf g4]
          simp
    refine⟨_,rfl,q,dx,_,rfl,hq,af_has _ _ _ _,q,t,f,r,kd,16,rfl,⟨dx,hq⟩,_,rfl,?_⟩
    rw[any16]
    refine ite2 (fun g=>?_) (fun g=>?_)
    · refine⟨_,rfl,q,dx,_,rfl,hq,af_has _ _ _ _,q,t,f,r,kd,32,rfl,⟨dx,hq⟩,_,rfl,?_⟩
      rw[any32]
      refine⟨_,rfl,_,rfl,?_⟩
      refine ite2 (fun g2=>?_) (fun g2=>?_)
      · refine⟨_,rfl,qw,dw,_,rfl,ow,wf_no _ _ (by decide +kernel) (by decide +kernel),qw,lp,le,ps,es,4,rfl,W,l4,fun H1 s1=>⟨_,rfl,?_⟩⟩
        rw[all4]
        refine ite2 (fun g3=>?_) (fun g3=>?_)
        · refine cb ?_ (k _ s1)
          unfold alMove
          rw[g,g2,g3]
          rfl
        · exact fin H1 _ s1 (by rw[nf g3,Bool.false_and])
      · refine iteF ?_
        exact fin H _ (Same.refl' _) (by rw[nf g2,Bool.and_false,Bool.and_false])
    · refine⟨_,rfl,_,rfl,?_⟩
      refine iteF ?_
      refine iteF ?_
      exact fin H _ (Same.refl' _) (by rw[nf g,Bool.false_and,Bool.and_false])
def alAll (f r k:Nat) (es:List Nat):Bool:=Sd19.allowed (M.cpuOf 0 f r) k (es.all (Sd19.bit · 1)) (es.all (Sd19.bit · 2)) (es.all fun e=>!Sd19.bit e 63)
theorem al_user {f r k:Nat} {es:List Nat} (h:Sd19.bit f 0=true):alAll f r k es=alUser f r k es:=by
 unfold alAll Sd19.allowed alUser M.cpuOf
 simp only
 rw[if_pos h]
theorem al_exec {f r k:Nat} {es:List Nat} (h:Sd19.bit f 0=false) (h2:k=2):alAll f r k es=alExec f r k es:=by
 unfold alAll Sd19.allowed alExec M.cpuOf
 simp only
 rw[if_neg (by rw[h];decide),if_pos h2]
theorem al_move {f r k:Nat} {es:List Nat} (h:Sd19.bit f 0=false) (h2:¬k=2):alAll f r k es=alMove f r k es:=by
 unfold alAll Sd19.allowed alMove M.cpuOf
 simp only
 rw[if_neg (by rw[h];decide),if_neg h2]
theorem sc_is_allowed:FnScope ["access","way"] ["access","way"] (defScope s_is_allowed):=⟨rfl,rfl,rfl,by decide +kernel,rfl,by decide +kernel,by decide +kernel⟩
theorem ok_is_allowed (T:Txt K mg A):FnOk P w K mg base CX0 3 A.is_allowed.1 A.is_allowed.2 ["access","way"] (spAsk A.C_Access A.C_Way alAll):=by
 refine T.f_is_allowed.f.ok sc_is_allowed (fun vs H Q E h=>?_) (fun cdv A' outer s0 H vs Q E hr h=>?_)
 ·obtain⟨q,qw,lp,le,t,f,r,kd,ps,es,rfl,_⟩:=h
  rfl
 ·obtain⟨q,qw,lp,le,t,f,r,kd,ps,es,rfl,⟨dx,hq⟩,W,hk,l1,l4,k⟩:=h
  refine⟨_,(pss_cons (ps_if (pt_val (pe_meth (pv 0) T.c_Access T.f_has_any.mt (ok_has_any T) (hr.mono (by decide)) T.f_has_any.b .nil pass0 (pa_cons (pe_globI rfl T.g_FOR_USER) pa_nil))) (pss_one (ps_ret (pe_call (ok_user_may T) (hr.mono (by decide)) rfl T.f_user_may.m T.f_user_may.f.kp T.f_user_may.b .nil pass0 (pa_cons (pv 0) (pa_cons (pv 1) pa_nil))))) pss_nil)
   (pss_cons (ps_if (pt_cmpR op_eq (pe_fld (pv 0) rfl) (pe_globI rfl T.g_EXECUTING) (nomark _)) (pss_one (ps_ret (pe_call (ok_kernel_may_execute T) (hr.mono (by decide)) rfl T.f_kernel_may_execute.m T.f_kernel_may_execute.f.kp T.f_kernel_may_execute.b .nil pass0 (pa_cons (pv 0) (pa_cons (pv 1) pa_nil))))) pss_nil)
   (pss_one (ps_ret (pe_call (ok_kernel_may_move T) (hr.mono (by decide)) rfl T.f_kernel_may_move.m T.f_kernel_may_move.f.kp T.f_kernel_may_move.b .nil pass0 (pa_cons (pv 0) (pa_cons (pv 1) pa_nil))))))),?_⟩
  have e2:decide (V.int (kd:Int)=V.int 2)=(kd==2):=eqI kd 2
  refine⟨_,rfl,q,dx,_,rfl,hq,af_has _ _ _ _,q,t,f,r,kd,1,rfl,⟨dx,hq⟩,_,rfl,?_⟩
  rw[any1]
  refine ite2 (fun g=>?_) (fun g=>?_)
  ·exact⟨_,rfl,_,rfl,q,qw,lp,le,t,f,r,kd,ps,es,rfl,⟨dx,hq⟩,W,hk,l1,l4,fun H' s=>cb (al_user g).symm (k H' s)⟩
  ·have g':Sd19.bit f 0=false:=nf g
   refine⟨_,rfl,q,_,dx,_,_,rfl,hq,T.c_Access,T.na_Access_kind,af_kind _ _ _ _,rfl,_,rfl,?_⟩
   rw[e2]
   refine ite2 (fun g2=>?_) (fun g2=>?_)
   ·exact⟨_,rfl,_,rfl,q,qw,lp,le,t,f,r,kd,ps,es,rfl,⟨dx,hq⟩,W,hk,l1,l4,fun H' s=>cb (al_exec g' (eq_of_beq g2)).symm (k H' s)⟩
   ·exact⟨_,rfl,_,rfl,q,qw,lp,le,t,f,r,kd,ps,es,rfl,⟨dx,hq⟩,W,hk,l1,l4,fun H' s=>cb (al_move g' (fun z=>g2 (beq_iff_eq.mpr z))).symm (k H' s)⟩
end
end G
namespace G
open PySem PySem.Spec PyProof.Rows L2
section
variable {P:Program} {w:World} {K:PySem.W.Frag} {mg:Str→Option Value} {base:Heap} {A:Adr}
def spMark (C CA CW:Addr):Sp:=fun vs H Q _=>∃(p lw lc q qw lp le:Addr) (s:Sd19.St) (t f r k:Nat) (ps es:List Nat),vs=[.ref p,.ref q,.ref qw]∧MemAt C H p lw lc s∧AccAt CA H q t f r k∧WayOb CW H qw lp le ps es ∧
 1≤ps.length∧ps.length≤4∧(∀x∈ps,x<1048576)∧∀H',MemAt C H' p lw lc ⟨Sd19.mark s.mem k ps,s.count⟩→Kp lw lc H H'→Q .non H'
theorem used_int (x:Nat):Builtin.bitOr (x:Int) 32=((Sd19.setBit x 5:Nat):Int):=(bOr x 32).trans (congrArg (fun z:Nat=>(z:Int)) (M.used x))
theorem written_int (x:Nat):Builtin.bitOr (x:Int) 64=((Sd19.setBit x 6:Nat):Int):=(bOr x 64).trans (congrArg (fun z:Nat=>(z:Int)) (M.written x))
theorem sc_mark:FnScope ["memory","access","way","place","last_place"] ["memory","access","way"] (defScope s_mark):=⟨rfl,rfl,rfl,by decide +kernel,rfl,by decide +kernel,by decide +kernel⟩
theorem ok_mark (T:Txt K mg A):FnOk P w K mg base CX0 2 A.mark.1 A.mark.2 ["memory","access","way"] (spMark A.C_Memory A.C_Access A.C_Way):=by
  refine T.f_mark.f.ok sc_mark (fun vs H Q E h=>?_) (fun cdv A' outer s0 H vs Q E hr h=>?_)
  · obtain⟨p,lw,lc,q,qw,lp,le,s,t,f,r,kd,ps,es,rfl,_⟩:=h
    rfl
  · obtain⟨p,lw,lc,q,qw,lp,le,s,t,f,r,kd,ps,es,rfl,B,⟨dx,hq⟩,W,l1,l4,hps,k⟩:=h
    obtain⟨dw,ow⟩:=W.ob
    refine⟨_,(pss_cons (ps_for PassesOwn.never rfl (pi_list (pe_fld (pv 2) rfl)) (pg_name (i:=3) sc_mark.nd rfl (Or.inl rfl)) (pss_one (ps_expr (pe_meth (pv 0) T.c_Memory T.f_put_word.mt (ok_put_word T) (hr.mono (by decide)) T.f_put_word.b .nil pass0 (pa_cons (pv 3) (pa_cons (pe_op op_or (pe_meth (pv 0) T.c_Memory T.f_word_at.mt (ok_word_at T) (hr.mono (by decide)) T.f_word_at.b .nil pass0 (pa_cons (pv 3) pa_nil)) (pe_globI rfl T.g_USED)) pa_nil))))))
      (pss_one (ps_if (pt_cmpR op_eq (pe_fld (pv 1) rfl) (pe_globI rfl T.g_WRITING) (nomark _)) (pss_cons (ps_set (i:=4) sc_mark.nd rfl (Or.inl rfl) (pe_ix ix_list (pe_fld (pv 2) rfl) (pe_un un_neg pe_int) (fun _ _=>rfl)))
      (pss_one (ps_expr (pe_meth (pv 0) T.c_Memory T.f_put_word.mt (ok_put_word T) (hr.mono (by decide)) T.f_put_word.b .nil pass0 (pa_cons (pv 4) (pa_cons (pe_op op_or (pe_meth (pv 0) T.c_Memory T.f_word_at.mt (ok_word_at T) (hr.mono (by decide)) T.f_word_at.b .nil pass0 (pa_cons (pv 4) pa_nil)) (pe_globI rfl T.g_WRITTEN)) pa_nil)))))) pss_nil))),?_⟩
    have e1:decide (V.int (kd:Int)=V.int 1)=(kd==1):=eqI kd 1
    have off:=B.off W.ps (by rw[il_len];omega)
    have nq:=B.offo hq (fun _ e=>nomatch e)
    have nw:=B.offo ow (fun _ e=>nomatch e)
    refine⟨_,rfl,qw,_,dw,_,_,rfl,ow,T.c_Way,T.na_Way_places,wf_places _ _,lp,rfl,⟨_,SqL.of W.ps⟩,?_⟩
    refine for_list (K:=K) (a:=lp) (xs:=il ps) (fun i σ H'=>∃v,σ=[some (.ref p),some (.ref q),some (.ref qw),v,none]∧MemAt A.C_Memory H' p lw lc ⟨M.mk s.mem (ps.take i),s.count⟩∧Kp lw lc H H')
      ⟨none,rfl,B,Kp.refl _ _ _⟩ (fun i σ H' _ ⟨_,_,_,kp⟩=>SqL.of (kp.keep _ _ W.ps off.1 off.2 trivial)) ?_ ?_
    · rintro i y σ H' hi ⟨v,rfl,B',kp⟩
      have hlt:i<ps.length:=by
        have:=(List.getElem?_eq_some_iff.mp hi).1
        rw[il_len]at this
        exact this
      rw[il_get hlt]at hi
      cases hi
      have ha:=hps _ (List.getElem_mem hlt)
      have hx:Sd19.setBit (Sd19.load (M.mk s.mem (ps.take i)) ps[i]) 5<2 ^ 64:=M.setBit_lt (B'.wf.m.load _) (by decide)
      obtain⟨d',o'⟩:=B'.ob
      refine⟨_,rfl,p,d',_,rfl,o',mf_no _ _ (by decide +kernel) (by decide +kernel),_,rfl,_,rfl,p,d',_,rfl,o',mf_no _ _ (by decide +kernel) (by decide +kernel),_,rfl,p,lw,lc,_,ps[i],rfl,B',ha,
        _,_,rfl,rfl,p,lw,lc,_,ps[i],_,congrArg (fun z=>[V.ref p,V.int ((ps[i]:Nat):Int),V.int z]) (used_int _),B',ha,hx,fun H2 B2 k2=>?_⟩
      refine⟨_,rfl,?_,kp.trans k2⟩
      rw[take_one hlt,M.mk_snoc]
      exact B2
    · rintro σ H' ⟨v,rfl,B',kp⟩
      rw[il_len,List.take_length]at B'
      have hq':=kp.keep _ _ hq nq.1 nq.2 trivial
      refine⟨_,rfl,q,_,dx,_,_,rfl,hq',T.c_Access,T.na_Access_kind,af_kind _ _ _ _,rfl,_,rfl,?_⟩
      rw[e1]
      refine ite2 (fun g=>?_) (fun g=>?_)
      · have g':kd=1:=eq_of_beq g
        obtain⟨ps',b,hb,_⟩:=last_of l1
        have hbm:b∈ps:=by rw[hb];simp
        have ow':=kp.keep _ _ ow nw.1 nw.2 trivial
        have hl':=kp.keep _ _ W.ps off.1 off.2 trivial
        obtain⟨d',o'⟩:=B'.ob
        have hx:Sd19.setBit (Sd19.load (M.mk s.mem ps) b) 6<2 ^ 64:=M.setBit_lt (B'.wf.m.load _) (by decide)
        refine⟨_,rfl,qw,_,dw,_,_,rfl,ow',T.c_Way,T.na_Way_places,wf_places _ _,_,rfl,lp,_,_,.int (b:Int),rfl,rfl,SqL.of hl',?_,?_⟩
        · rw[hb,il_snoc]
          exact atI_last _ _
        refine⟨_,rfl,p,d',_,rfl,o',mf_no _ _ (by decide +kernel) (by decide +kernel),_,rfl,_,rfl,p,d',_,rfl,o',mf_no _ _ (by decide +kernel) (by decide +kernel),_,rfl,p,lw,lc,_,b,rfl,B',hps b hbm,
          _,_,rfl,rfl,p,lw,lc,_,b,_,congrArg (fun z=>[V.ref p,V.int (b:Int),V.int z]) (written_int _),B',hps b hbm,hx,fun H2 B2 k2=>?_⟩
        refine k _ ?_ (kp.trans k2)
        have em:Sd19.mark s.mem kd ps=Sd19.store (M.mk s.mem ps) b (Sd19.setBit (Sd19.load (M.mk s.mem ps) b) 6):=by
          rw[g',hb]
          exact M.mark_write _ _ _
        rw[em]
        exact B2
      · refine k _ ?_ kp
        rw[M.mark_read _ _ _ (fun z=>g (beq_iff_eq.mpr z))]
        exact B'
def Looked (C:Addr) (H:Hp) (p lw lc:Addr) (s:Sd19.St) (k addr:Nat) (o:Sd19.Out) (Q:VK):Prop:=∀(H':Hp) (z:Addr),H' z=some (.lst (il (M.outL o addr)))→H z=none→MemAt C H' p lw lc ⟨M.marked s.mem k o,s.count⟩→Kp lw lc H H'→Q (.ref z) H'
def spEnd (C CA CW:Addr):Sp:=fun vs H Q _=>∃(p lw lc q qw lp le:Addr) (s:Sd19.St) (t f r k addr:Nat) (ps es:List Nat),vs=[.ref p,.ref q,.ref qw,.int (addr:Int)]∧MemAt C H p lw lc s∧AccAt CA H q t f r k∧WayOb CW H qw lp le ps es ∧
 k≤2∧1≤es.length∧es.length≤4∧ps.length=es.length∧(∀x∈ps,x<1048576)∧Looked C H p lw lc s k addr (M.endOut (M.cpuOf 0 f r) addr k ps es) Q
theorem code_key (f r k:Nat):Sd19.code (M.cpuOf 0 f r) k true false true=codeN f k 33:=M.code_ky _ _
theorem code_den (f r k:Nat):Sd19.code (M.cpuOf 0 f r) k true false false=codeN f k 1:=M.code_dn _ _
theorem end_eq (f r addr kd:Nat) (ps es:List Nat):M.endOut (M.cpuOf 0 f r) addr kd ps es=if denK f r kd es=true∨alAll f r kd es=false then .fault (Sd19.code (M.cpuOf 0 f r) kd true false (denK f r kd es))
  else .at_ (Sd19.base (es.getLast?.getD 0) / 2 ^ (12+9 * (4 - es.length)) * 2 ^ (12+9 * (4 - es.length))+addr % 2 ^ (12+9 * (4 - es.length))) (2 ^ (12+9 * (4 - es.length))) ps:=rfl
theorem sc_end_of_way:FnScope ["memory","access","way","addr","size","beginning"] ["memory","access","way","addr"] (defScope s_end_of_way):=⟨rfl,rfl,rfl,by decide +kernel,rfl,by decide +kernel,by decide +kernel⟩
theorem ok_end_of_way (T:Txt K mg A):FnOk P w K mg base CX0 4 A.end_of_way.1 A.end_of_way.2 ["memory","access","way","addr"] (spEnd A.C_Memory A.C_Access A.C_Way):=by
  refine T.f_end_of_way.f.ok sc_end_of_way (fun vs H Q E h=>?_) (fun cdv A' outer s0 H vs Q E hr h=>?_)
  · obtain⟨p,lw,lc,q,qw,lp,le,s,t,f,r,kd,addr,ps,es,rfl,_⟩:=h
    rfl
  · obtain ⟨p, lw, lc, q, qw, lp, le, s, t, f, r, kd, addr, ps, es, rfl, B, ac, W, hk, l1, l4, lps, hps, k⟩ := h
    refine⟨_,(pss_cons (ps_if (pt_val (pe_call (ok_key_denies T) (hr.mono (by decide)) rfl T.f_key_denies.m T.f_key_denies.f.kp T.f_key_denies.b .nil pass0 (pa_cons (pv 1) (pa_cons (pv 2) pa_nil)))) (pss_one (ps_ret (pe_lst (pa_cons (pe_globI rfl T.g_FAULT) (pa_cons (pe_call (ok_fault_code T) (hr.mono (by decide)) rfl T.f_fault_code.m T.f_fault_code.f.kp T.f_fault_code.b .nil pass0 (pa_cons (pv 1) (pa_cons (pe_globI rfl T.g_DENIED_BY_KEY) pa_nil))) (pa_cons (pv 3) pa_nil)))))) pss_nil)
      (pss_cons (ps_if (pt_not (pt_val (pe_call (ok_is_allowed T) (hr.mono (by decide)) rfl T.f_is_allowed.m T.f_is_allowed.f.kp T.f_is_allowed.b .nil pass0 (pa_cons (pv 1) (pa_cons (pv 2) pa_nil))))) (pss_one (ps_ret (pe_lst (pa_cons (pe_globI rfl T.g_FAULT) (pa_cons (pe_call (ok_fault_code T) (hr.mono (by decide)) rfl T.f_fault_code.m T.f_fault_code.f.kp T.f_fault_code.b .nil pass0 (pa_cons (pv 1) (pa_cons (pe_globI rfl T.g_DENIED) pa_nil))) (pa_cons (pv 3) pa_nil)))))) pss_nil)
      (pss_cons (ps_expr (pe_call (ok_mark T) (hr.mono (by decide)) rfl T.f_mark.m T.f_mark.f.kp T.f_mark.b .nil pass0 (pa_cons (pv 0) (pa_cons (pv 1) (pa_cons (pv 2) pa_nil)))))
      (pss_cons (ps_set (i:=4) sc_end_of_way.nd rfl (Or.inl rfl) (pe_call (ok_span_of_level T) (hr.mono (by decide)) rfl T.f_span_of_level.m T.f_span_of_level.f.kp T.f_span_of_level.b .nil pass0 (pa_cons (pe_meth0 (pv 2) T.c_Way T.f_last_level.mt (ok_last_level T) (hr.mono (by decide)) T.f_last_level.b .nil pass0) pa_nil)))
      (pss_cons (ps_set (i:=5) sc_end_of_way.nd rfl (Or.inl rfl) (pe_op op_and (pe_meth0 (pv 2) T.c_Way T.f_last_entry.mt (ok_last_entry T) (hr.mono (by decide)) T.f_last_entry.b .nil pass0) (pe_globI rfl T.g_BEGINNING)))
      (pss_one (ps_ret (pe_lst (pa_cons (pe_globI rfl T.g_FOUND) (pa_cons (pe_op op_add (pe_op op_sub (pv 5) (pe_op op_mod (pv 5) (pv 4))) (pe_op op_mod (pv 3) (pv 4))) (pa_cons (pv 4) pa_nil))))))))))),?_⟩
    obtain⟨es',e,hes,hg⟩:=last_of l1
    refine⟨_,rfl,_,rfl,q,qw,lp,le,t,f,r,kd,ps,es,rfl,ac,W,hk,l1,l4,fun H1 s1=>⟨_,rfl,?_⟩⟩
    have ac1:=ac.keep s1
    have W1:=W.keep s1
    have B1:=B.keep s1
    refine ite2 (fun g=>?_) (fun g=>?_)
    · have eo:M.endOut (M.cpuOf 0 f r) addr kd ps es=.fault (codeN f kd 33):=by
        rw[end_eq,if_pos (Or.inl g),←code_key f r kd,g]
      refine⟨_,rfl,q,t,f,r,kd,33,rfl,ac1,_,rfl,(by show 3≤sizeLine;decide),fun z hz=>?_⟩
      rw[eo]at k
      exact k _ z upd_same (Same.free s1 hz) (B1.new hz) ((Same.kp s1).trans (Kp.new hz))
    · have g':denK f r kd es=false:=nf g
      refine⟨_,rfl,_,rfl,q,qw,lp,le,t,f,r,kd,ps,es,rfl,ac1,W1,hk,l1,l4,fun H2 s2=>⟨_,rfl,?_⟩⟩
      have ac2:=ac1.keep s2
      have W2:=W1.keep s2
      have B2:=B1.keep s2
      have s12:=s1.trans s2
      refine ite2 (fun g2=>?_) (fun g2=>?_)
      · have g2':alAll f r kd es=false:=by simpa using g2
        have eo:M.endOut (M.cpuOf 0 f r) addr kd ps es=.fault (codeN f kd 1):=by
          rw[end_eq,if_pos (Or.inr g2'),←code_den f r kd,g']
        refine⟨_,rfl,q,t,f,r,kd,1,rfl,ac2,_,rfl,(by show 3≤sizeLine;decide),fun z hz=>?_⟩
        rw[eo]at k
        exact k _ z upd_same (Same.free s12 hz) (B2.new hz) ((Same.kp s12).trans (Kp.new hz))
      · have g2':alAll f r kd es=true:=by simpa using g2
        have eo:M.endOut (M.cpuOf 0 f r) addr kd ps es=.at_ (Sd19.base e / 2 ^ (12+9 * (4 - es.length)) * 2 ^ (12+9 * (4 - es.length))+addr % 2 ^ (12+9 * (4 - es.length))) (2 ^ (12+9 * (4 - es.length))) ps:=by
          rw[end_eq,if_neg,hg]
          rintro(z|z)
          · have:denK f r kd es=true:=z
            rw[g']at this;cases this
          · have:alAll f r kd es=false:=z
            rw[g2']at this;cases this
        rw[eo]at k
        refine⟨_,rfl,_,rfl,_,rfl,p,lw,lc,q,qw,lp,le,s,t,f,r,kd,ps,es,rfl,B2,ac2,W2,by omega,by omega,hps,fun H3 B3 k3=>?_⟩
        have offp:=B2.off W2.ps (by rw[il_len];omega)
        have offe:=B2.off W2.es (by rw[il_len];omega)
        obtain⟨dw,ow⟩:=W2.ob
        have nw:=B2.offo ow (fun _ e=>nomatch e)
        have ow3:=k3.keep _ _ ow nw.1 nw.2 trivial
        have W3:WayOb A.C_Way H3 qw lp le ps es:=⟨⟨dw,ow3⟩,k3.keep _ _ W2.ps offp.1 offp.2 trivial,k3.keep _ _ W2.es offe.1 offe.2 trivial,W2.ne⟩
        refine⟨_,rfl,qw,dw,_,rfl,ow3,wf_no _ _ (by decide +kernel) (by decide +kernel),qw,lp,le,ps,es,rfl,W3,l1,l4,4 - es.length,rfl,by omega,?_⟩
        refine⟨_,rfl,qw,dw,_,rfl,ow3,wf_no _ _ (by decide +kernel) (by decide +kernel),qw,lp,le,ps,es',e,rfl,(by rw[←hes];exact W3),_,_,rfl,rfl,?_⟩
        have hp0:0<(2:Nat) ^ (12+9 * (4 - es.length)):=Nat.two_pow_pos _
        refine⟨_,rfl,_,rfl,_,rfl,_,_,rfl,rfl,by omega,_,_,rfl,rfl,_,rfl,_,rfl,_,_,rfl,rfl,by omega,_,_,rfl,rfl,_,rfl,(by show 3≤sizeLine;decide),fun z hz=>?_⟩
        refine k _ z ?_ ?_ (B3.new hz) (((Same.kp s12).trans k3).trans (Kp.new hz))
        · rw[upd_same]
          have hb:Builtin.bitAnd (e:Int) 4503599627366400=((Sd19.base e:Nat):Int):=by
            show Builtin.bitAnd (e:Int) ((4503599627366400:Nat):Int)=_
            rw[bAnd,M.base_and]
          rw[hb]
          generalize (2:Nat) ^ (12+9 * (4 - es.length))=z2 at hp0 ⊢
          have e3:((Sd19.base e:Nat):Int) - ((Sd19.base e:Nat):Int) % (z2:Int)+(addr:Int) % (z2:Int)=((Sd19.base e / z2 * z2+addr % z2:Nat):Int):=by
            have h1:=Nat.div_add_mod (Sd19.base e) z2
            rw[Nat.mul_comm]at h1
            have h2:((Sd19.base e:Nat):Int) % (z2:Int)=((Sd19.base e % z2:Nat):Int):=(Int.natCast_emod _ _).symm
            have h3:(addr:Int) % (z2:Int)=((addr % z2:Nat):Int):=(Int.natCast_emod _ _).symm
            rw[h2,h3]
            omega
          show some (HO.lst [V.int 0,V.int (((Sd19.base e:Nat):Int) - ((Sd19.base e:Nat):Int) % (z2:Int)+(addr:Int) % (z2:Int)),V.int (z2:Int)])=_
          rw[e3]
          rfl
        · exact((Same.kp s12).trans k3).there z hz
end
end G
namespace G
open PySem PySem.Spec PyProof.Rows L2
section
variable {P:Program} {w:World} {K:PySem.W.Frag} {mg:Str→Option Value} {base:Heap} {A:Adr}
theorem Looked.keep {C:Addr} {H H':Hp} {p lw lc:Addr} {s:Sd19.St} {k addr:Nat} {o:Sd19.Out} {Q:VK} (h:Looked C H p lw lc s k addr o Q) (sm:Same H H'):Looked C H' p lw lc s k addr o Q :=
 fun H2 z h1 h2 h3 h4=>h H2 z h1 (Same.free sm h2) h3 ((Same.kp sm).trans h4)
theorem levels_get {i:Nat} {x:V} (h:([V.int 4,V.int 3,V.int 2,V.int 1]:List V)[i]? = some x):∃l,l<4∧i+l=3∧x=.int ((l+1:Nat):Int):=by
 match i,h with
 | 0,h=>exact⟨3,by decide,rfl,(Option.some.inj h).symm⟩
 | 1,h=>exact⟨2,by decide,rfl,(Option.some.inj h).symm⟩
 | 2,h=>exact⟨1,by decide,rfl,(Option.some.inj h).symm⟩
 | 3,h=>exact⟨0,by decide,rfl,(Option.some.inj h).symm⟩
 | n+4,h=>simp at h
def spLookUp (C:Addr):Sp:=fun vs H Q _=>∃(p lw lc c:Addr) (s:Sd19.St) (a f r k addr:Nat),vs=[.ref p,.ref c,.int (addr:Int),.int (k:Int)]∧MemAt C H p lw lc s∧H c=some (.lst [.int (a:Int),.int (f:Int),.int (r:Int)]) ∧
 k≤2∧addr<2 ^ 64∧Looked C H p lw lc s k addr (Sd19.look s.mem (M.cpuOf a f r) addr k) Q
theorem code_nt (a f r k:Nat):Sd19.code (M.cpuOf a f r) k false false false=codeN f k 0:=M.code_nt _ _
theorem code_rs (a f r k:Nat):Sd19.code (M.cpuOf a f r) k true true false=codeN f k 9:=M.code_rs _ _
theorem big_int (e:Nat):(!decide (V.int (Builtin.bitAnd (e:Int) 128)=V.int 0))=Sd19.bit e 7:=and_ne e 128 (M.big e)
theorem res_int (a f r l e:Nat) (hl:l<4):(!decide (V.int (Builtin.bitAnd (e:Int) ((resMask f (l+1) e:Nat):Int))=V.int 0))=Sd19.reserved (M.cpuOf a f r) (l+1) e:=and_ne e _ (resMask_iff a f r (l+1) e (by omega) (by omega))
theorem sc_look_up:FnScope ["memory","cpu","addr","kind","access","table","way","level","place","entry"] ["memory","cpu","addr","kind"] (defScope s_look_up):=⟨rfl,rfl,rfl,by decide +kernel,rfl,by decide +kernel,by decide +kernel⟩
set_option maxHeartbeats 1000000 in
theorem ok_look_up (T:Txt K mg A):FnOk P w K mg base CX0 5 A.look_up.1 A.look_up.2 ["memory","cpu","addr","kind"] (spLookUp A.C_Memory):=by
  refine T.f_look_up.f.ok sc_look_up (fun vs H Q E h=>?_) (fun cdv A' outer s0 H vs Q E hr h=>?_)
  · obtain⟨p,lw,lc,c,s,a,f,r,kd,addr,rfl,_⟩:=h
    rfl
  · obtain ⟨p, lw, lc, c, s, a, f, r, kd, addr, rfl, B, hc, hk, ha, k⟩ := h
    refine⟨_,(pss_cons (ps_if (pt_val (pe_call (ok_is_none T) (hr.mono (by decide)) rfl T.f_is_none.m T.f_is_none.f.kp T.f_is_none.b .nil pass0 (pa_cons (pv 2) pa_nil))) (pss_one (ps_ret (pe_lst (pa_cons (pe_globI rfl T.g_NO_ADDRESS) (pa_cons pe_int (pa_cons (pv 2) pa_nil)))))) pss_nil)
      (pss_cons (ps_set (i:=4) sc_look_up.nd rfl (Or.inl rfl) (pe_make T.mk_Access (ok_Access_init T) (hr.mono (by decide)) rfl T.m_Access T.f_Access_init.b .nil pass0 (pa_cons (pv 1) (pa_cons (pv 3) pa_nil))))
      (pss_cons (ps_set (i:=5) sc_look_up.nd rfl (Or.inl rfl) (pe_fld (pv 4) rfl))
      (pss_cons (ps_set (i:=6) sc_look_up.nd rfl (Or.inl rfl) (pe_make0 T.mk_Way (ok_Way_init T) (hr.mono (by decide)) rfl T.m_Way T.f_Way_init.b .nil pass0))
      (pss_cons (ps_for PassesOwn.never rfl (pi_tup (pe_globR rfl T.g_LEVELS)) (pg_name (i:=7) sc_look_up.nd rfl (Or.inl rfl)) (pss_cons (ps_if (pt_cmpR op_ge (pv 5) (pe_globI rfl T.g_MEMORY_SIZE) (nomark _)) (pss_one (ps_ret (pe_lst (pa_cons (pe_globI rfl T.g_BEYOND) (pa_cons (pv 5) (pa_cons (pv 2) pa_nil)))))) pss_nil)
      (pss_cons (ps_set (i:=8) sc_look_up.nd rfl (Or.inl rfl) (pe_call (ok_entry_place T) (hr.mono (by decide)) rfl T.f_entry_place.m T.f_entry_place.f.kp T.f_entry_place.b .nil pass0 (pa_cons (pv 5) (pa_cons (pv 7) (pa_cons (pv 2) pa_nil)))))
      (pss_cons (ps_set (i:=9) sc_look_up.nd rfl (Or.inl rfl) (pe_meth (pv 0) T.c_Memory T.f_word_at.mt (ok_word_at T) (hr.mono (by decide)) T.f_word_at.b .nil pass0 (pa_cons (pv 8) pa_nil)))
      (pss_cons (ps_if (pt_not (pt_val (pe_call (ok_is_there T) (hr.mono (by decide)) rfl T.f_is_there.m T.f_is_there.f.kp T.f_is_there.b .nil pass0 (pa_cons (pv 9) pa_nil)))) (pss_one (ps_ret (pe_lst (pa_cons (pe_globI rfl T.g_FAULT) (pa_cons (pe_call (ok_fault_code T) (hr.mono (by decide)) rfl T.f_fault_code.m T.f_fault_code.f.kp T.f_fault_code.b .nil pass0 (pa_cons (pv 4) (pa_cons (pe_globI rfl T.g_NOT_THERE) pa_nil))) (pa_cons (pv 2) pa_nil)))))) pss_nil)
      (pss_cons (ps_if (pt_cmpR op_ne (pe_op op_and (pv 9) (pe_call (ok_reserved_bits T) (hr.mono (by decide)) rfl T.f_reserved_bits.m T.f_reserved_bits.f.kp T.f_reserved_bits.b .nil pass0 (pa_cons (pv 4) (pa_cons (pv 7) (pa_cons (pv 9) pa_nil))))) pe_int (nomark _)) (pss_one (ps_ret (pe_lst (pa_cons (pe_globI rfl T.g_FAULT) (pa_cons (pe_call (ok_fault_code T) (hr.mono (by decide)) rfl T.f_fault_code.m T.f_fault_code.f.kp T.f_fault_code.b .nil pass0 (pa_cons (pv 4) (pa_cons (pe_globI rfl T.g_RESERVED) pa_nil))) (pa_cons (pv 2) pa_nil)))))) pss_nil)
      (pss_cons (ps_expr (pe_meth (pv 6) T.c_Way T.f_go_through.mt (ok_go_through T) (hr.mono (by decide)) T.f_go_through.b .nil pass0 (pa_cons (pv 8) (pa_cons (pv 9) pa_nil))))
      (pss_cons (ps_if (pt_cmpR op_ne (pe_op op_and (pv 9) (pe_globI rfl T.g_BIG)) pe_int (nomark _)) (pss_one ps_break) pss_nil)
      (pss_one (ps_set (i:=5) sc_look_up.nd rfl (Or.inl rfl) (pe_op op_and (pv 9) (pe_globI rfl T.g_BEGINNING))))))))))))
      (pss_one (ps_ret (pe_call (ok_end_of_way T) (hr.mono (by decide)) rfl T.f_end_of_way.m T.f_end_of_way.f.kp T.f_end_of_way.b .nil pass0 (pa_cons (pv 0) (pa_cons (pv 4) (pa_cons (pv 6) (pa_cons (pv 2) pa_nil)))))))))))),?_⟩
    refine⟨_,rfl,addr,rfl,ha,fun H1 s1=>⟨_,rfl,?_⟩⟩
    refine ite2 (fun g=>?_) (fun g=>?_)
    · have g':Sd19.canonical addr=false:=by simpa using g
      refine⟨_,rfl,(by show 3≤sizeLine;decide),fun z hz=>?_⟩
      have eo:Sd19.look s.mem (M.cpuOf a f r) addr kd=.none_:=by
        unfold Sd19.look
        rw[if_pos g']
      rw[eo]at k
      exact k _ z upd_same (Same.free s1 hz) ((B.keep s1).new hz) ((Same.kp s1).trans (Kp.new hz))
    · have g' : Sd19.canonical addr = true := by simpa using g
      have k1:=k.keep s1
      have B1:=B.keep s1
      have hc1:=s1 _ _ hc
      refine⟨_,rfl,_,rfl,fun q dq hq hdq nq=>?_⟩
      refine⟨q,dq,c,a,f,r,kd,rfl,upd_same,?_,fun H2 ac k2=>⟨rfl,?_⟩⟩
      · rw[upd_ne (ne_of_none hc1 hq),upd_ne (ne_of_none hc1 hdq)]
        exact hc1
      have s2:Same H1 H2:=Same.made hq hdq k2
      have B2:=B1.keep s2
      have k3:=k1.keep s2
      clear k1
      obtain⟨da,oa⟩:=ac
      refine⟨_,rfl,q,_,da,_,_,rfl,oa,T.c_Access,T.na_Access_root_table,af_root _ _ _ _,?_⟩
      refine fun qw dw hqw hdw nqw=>?_
      refine⟨qw,dw,rfl,upd_same,fun H3 lp le W k4 hlp hle=>⟨rfl,?_⟩⟩
      have s3:Same H2 H3:=Same.made hqw hdw k4
      have B3:=B2.keep s3
      have k5:=k3.keep s3
      have ac3:AccAt A.C_Access H3 q (Sd19.base a) f r kd:=⟨da,s3 _ _ oa⟩
      have nlp:H2 lp=none:=by
        by_cases e:lp=qw
        · rw[e];exact hqw
        · by_cases e2:lp=dw
          · rw[e2];exact hdw
          · rw[upd_ne e,upd_ne e2]at hlp;exact hlp
      have nle:H2 le=none:=by
        by_cases e:le=qw
        · rw[e];exact hqw
        · by_cases e2:le=dw
          · rw[e2];exact hdw
          · rw[upd_ne e,upd_ne e2]at hle;exact hle
      clear k3 k4
      have fin:∀(H':Hp) (path es:List Nat),Same H2 H'→Sd19.look s.mem (M.cpuOf a f r) addr kd=M.endOut (M.cpuOf a f r) addr kd path es→Looked A.C_Memory H' p lw lc s kd addr (M.endOut (M.cpuOf 0 f r) addr kd path es) Q:=by
        intro H' path es sm eo
        have e0:M.endOut (M.cpuOf 0 f r) addr kd path es=M.endOut (M.cpuOf a f r) addr kd path es:=rfl
        rw[e0,←eo]
        intro H4 z h1 h2 h3 h4
        refine k H4 z h1 ?_ h3 ?_
        · exact Same.free (s1.trans (s2.trans sm)) h2
        · exact(Same.kp (s1.trans (s2.trans sm))).trans h4
      refine⟨A.a_LEVELS,rfl,⟨_,T.sq_LEVELS _⟩,?_⟩
      refine for_tup (K:=K) (a:=A.a_LEVELS) (xs:=[.int 4,.int 3,.int 2,.int 1])
        (fun i σ H'=>∃(t:Nat) (path es:List Nat) (v7 v8 v9:Option V),σ=[some (.ref p),some (.ref c),some (.int (addr:Int)),some (.int (kd:Int)),some (.ref q),some (.int (t:Int)),some (.ref qw),v7,v8,v9]∧Same H2 H' ∧
          WayOb A.C_Way H' qw lp le path es∧AccAt A.C_Access H' q (Sd19.base a) f r kd∧path.length=i∧es.length=i∧(∀x∈path,x<1048576) ∧
          ((i<4∧M.WalkAt s.mem (M.cpuOf a f r) addr kd i t path es)∨(i=4∧Sd19.look s.mem (M.cpuOf a f r) addr kd=M.endOut (M.cpuOf a f r) addr kd path es)))
        ⟨Sd19.base a,[],[],none,none,none,rfl,s3,W,ac3,rfl,rfl,(fun _ h=>nomatch h),.inl ⟨by decide,M.walk_begin _ _ _ _ g'⟩⟩ (fun i σ H' _ _=>T.sq_LEVELS _) ?_ ?_
      · rintro i x σ H' hx ⟨t,path,es,v7,v8,v9,rfl,sm,W',ac',pl,el,pm,hw⟩
        obtain⟨l,hl,hil,rfl⟩:=levels_get hx
        have WA:M.WalkAt s.mem (M.cpuOf a f r) addr kd i t path es:=by
          rcases hw with h|h
          · exact h.2
          · omega
        have k6:=(k5.keep (H':=H3) (Same.refl' _))
        have B':=B2.keep sm
        have e4:4 - i=l+1:=by omega
        have smH:Same H1 H':=s2.trans sm
        refine⟨_,rfl,_,_,rfl,rfl,_,rfl,?_⟩
        refine ite2 (fun g1=>?_) (fun g1=>?_)
        · have g1':¬t<1048576:=by
            have:(1048576:Int)≤(t:Int):=of_decide_eq_true g1
            omega
          refine⟨_,rfl,_,rfl,(by show 3≤sizeLine;decide),fun z hz=>?_⟩
          have eo:=WA.beyond (by omega) g1'
          have k7:Looked A.C_Memory H' p lw lc s kd addr (Sd19.look s.mem (M.cpuOf a f r) addr kd) Q:=fun H4 z h1 h2 h3 h4=>k H4 z h1 (Same.free (s1.trans smH) h2) h3 ((Same.kp (s1.trans smH)).trans h4)
          rw[eo]at k7
          exact k7 _ z upd_same hz (B'.new hz) (Kp.new hz)
        · have g1':t<1048576:=by
            apply Decidable.byContradiction
            intro q
            exact g1 (decide_eq_true (by omega))
          have pl2:=M.place_lt (level:=l+1) (addr:=addr) g1' WA.tm
          have st:=WA.step (by omega) g1'
          rw[e4]at st
          obtain⟨st1,st2,st3⟩:=st
          have k7:Looked A.C_Memory H' p lw lc s kd addr (Sd19.look s.mem (M.cpuOf a f r) addr kd) Q:=fun H4 z h1 h2 h3 h4=>k H4 z h1 (Same.free (s1.trans smH) h2) h3 ((Same.kp (s1.trans smH)).trans h4)
          refine⟨_,rfl,_,rfl,_,rfl,t,l,addr,rfl,hl,?_⟩
          obtain⟨dx,ob⟩:=B'.ob
          refine⟨_,rfl,p,dx,_,rfl,ob,mf_no _ _ (by decide +kernel) (by decide +kernel),_,rfl,p,lw,lc,s,_,rfl,B',pl2.1,?_⟩
          have nx:=fun(hn:i<3)=>WA.next B.wf.m hn g1'
          rw[e4]at nx
          have el64:=B.wf.m.load (t+8 * Sd19.index (l+1) addr)
          generalize hpl:t+8 * Sd19.index (l+1) addr=pla at *
          generalize he:Sd19.load s.mem pla=e at *
          refine⟨_,rfl,e,rfl,_,rfl,?_⟩
          refine ite2 (fun g2=>?_) (fun g2=>?_)
          · have g2':Sd19.bit e 0=false:=by simpa using g2
            obtain⟨dq',oq'⟩:=ac'
            refine⟨_,rfl,q,_,f,r,kd,0,rfl,⟨dq',oq'⟩,_,rfl,(by show 3≤sizeLine;decide),fun z hz=>?_⟩
            rw[st1 g2',code_nt]at k7
            exact k7 _ z upd_same hz (B'.new hz) (Kp.new hz)
          · have g2':Sd19.bit e 0=true:=by simpa using g2
            refine⟨_,rfl,_,rfl,_,rfl,_,rfl,q,_,f,r,kd,l,e,rfl,ac',hl,_,_,rfl,rfl,rfl,_,rfl,?_⟩
            have rb:=res_int a f r l e hl
            refine ite2 (fun g3=>?_) (fun g3=>?_)
            · have g3':Sd19.reserved (M.cpuOf a f r) (l+1) e=true:=rb.symm.trans g3
              refine⟨_,rfl,q,_,f,r,kd,9,rfl,ac',_,rfl,(by show 3≤sizeLine;decide),fun z hz=>?_⟩
              rw[st2 g2' g3',code_rs]at k7
              exact k7 _ z upd_same hz (B'.new hz) (Kp.new hz)
            · have g3':Sd19.reserved (M.cpuOf a f r) (l+1) e=false:=rb.symm.trans (nf g3)
              obtain⟨dw',ow'⟩:=W'.ob
              refine⟨_,rfl,qw,dw',_,rfl,ow',wf_no _ _ (by decide +kernel) (by decide +kernel),_,rfl,_,rfl,qw,lp,le,path,es,pla,e,rfl,W',by omega,by omega,?_⟩
              have nql:qw≠lp∧qw≠le:=⟨ne_of ow' W'.ps (fun e=>nomatch e),ne_of ow' W'.es (fun e=>nomatch e)⟩
              have W2:WayOb A.C_Way (upd (upd H' lp (.lst (il (path++[pla])))) le (.lst (il (es++[e])))) qw lp le (path++[pla]) (es++[e]) :=
                ⟨⟨dw',by rw[upd_ne nql.2,upd_ne nql.1];exact ow'⟩,by rw[upd_ne W'.ne,upd_same],upd_same,W'.ne⟩
              have sm2:Same H2 (upd (upd H' lp (.lst (il (path++[pla])))) le (.lst (il (es++[e])))):=fun b o e=>by
                rw[upd_ne (ne_of_none e nle),upd_ne (ne_of_none e nlp)]
                exact sm b o e
              have ac2:AccAt A.C_Access (upd (upd H' lp (.lst (il (path++[pla])))) le (.lst (il (es++[e])))) q (Sd19.base a) f r kd:=by
                obtain⟨dq',oq'⟩:=ac'
                exact⟨dq',by rw[upd_ne (ne_of oq' W'.es (fun e=>nomatch e)),upd_ne (ne_of oq' W'.ps (fun e=>nomatch e))];exact oq'⟩
              have pm2:∀x∈path++[pla],x<1048576:=fun x hx=>by
                rcases List.mem_append.mp hx with h|h
                · exact pm x h
                · rw[List.mem_singleton.mp h];exact pl2.1
              generalize upd (upd H' lp (.lst (il (path++[pla])))) le (.lst (il (es++[e])))=H5 at W2 sm2 ac2
              refine⟨_,rfl,_,_,rfl,rfl,rfl,_,rfl,?_⟩
              have bi:=big_int e
              refine ite2 (fun g4=>?_) (fun g4=>?_)
              · have g4':Sd19.bit e 7=true:=bi.symm.trans g4
                have eo:=st3 g2' g3' (.inr g4')
                exact⟨_,rfl,_,rfl,_,rfl,_,rfl,p,lw,lc,q,qw,lp,le,s,_,f,r,kd,addr,path++[pla],es++[e],rfl,B2.keep sm2,ac2,W2,hk,by simp,by simp;omega,by simp[pl,el],pm2,fin _ _ _ sm2 eo⟩
              · have g4':Sd19.bit e 7=false:=bi.symm.trans (nf g4)
                have hb:V.int (Builtin.bitAnd (e:Int) 4503599627366400)=V.int ((Sd19.base e:Nat):Int):=by
                  refine congrArg V.int ?_
                  show Builtin.bitAnd (e:Int) ((4503599627366400:Nat):Int)=_
                  rw[bAnd,M.base_and]
                refine⟨_,rfl,_,_,rfl,rfl,Sd19.base e,path++[pla],es++[e],_,_,_,(by
                  show [some (V.ref p),some (.ref c),some (.int (addr:Int)),some (.int (kd:Int)),some (.ref q),some (V.int (Builtin.bitAnd (e:Int) 4503599627366400)),some (.ref qw),some (.int ((l+1:Nat):Int)),some (.int (pla:Int)),some (.int (e:Int))]=_
                  rw[hb]),sm2,W2,ac2,by simp[pl],by simp[el],pm2,?_⟩
                by_cases h3:i<3
                · exact .inl ⟨by omega,nx h3 g2' g3' g4'⟩
                · exact .inr ⟨by omega,st3 g2' g3' (.inl (by omega))⟩
      · rintro σ H' ⟨t,path,es,v7,v8,v9,rfl,sm,W',ac',pl,el,pm,hw⟩
        have pl:path.length=4:=pl
        have el:es.length=4:=el
        have eo:Sd19.look s.mem (M.cpuOf a f r) addr kd=M.endOut (M.cpuOf a f r) addr kd path es:=by
          rcases hw with h|h
          · exact absurd h.1 (by decide)
          · exact h.2
        exact⟨_,rfl,_,rfl,_,rfl,_,rfl,p,lw,lc,q,qw,lp,le,s,_,f,r,kd,addr,path,es,rfl,B2.keep sm,ac',W',hk,by omega,by omega,by omega,pm,fin _ _ _ sm eo⟩
end
end G
namespace G
open PySem PySem.Spec PyProof.Rows L2
theorem for_enum {K:PySem.W.Frag} {a:Addr} {xs:List V} {g:TG} {tb:TS} {D:Ends} {σ:L2.St} {H:Hp} (Pv:Nat→L2.St→Hp→Prop) (h0:Pv 0 σ H) (hl:∀i σ H,i≤xs.length→Pv i σ H→SqL K H a xs)
  (hs:∀i x t σ H,xs[i]? = some x→Pv i σ H→H t=none→g (.ref t) σ (upd H t (.tup [.int (i:Nat),x])) fun σ2 H2=>tb { D with nx:=Pv (i+1),ct:=Pv (i+1),bk:=D.nx } σ2 H2) (hd:∀σ H,Pv xs.length σ H→D.nx σ H) :
  ∃W:Nat→Nat→L2.St→Hp→Prop,(∃m,W 0 m σ H)∧∀i m σ H,W i m σ H →
   ((Ite K a).stop i H∧D.nx σ H)∨((Ite K a).go i H∧∃N:L2.St→Hp→Prop,(∀σ' H',N σ' H'→∃m',m'<m∧W (i+1) m' σ' H')∧∀x H',(Ite K a).yld i H x H'→g x σ H' fun σ2 H2=>tb { D with nx:=N,ct:=N,bk:=D.nx } σ2 H2):=by
 refine⟨fun i m σ H=>m=xs.length - i∧i≤xs.length∧Pv i σ H,⟨xs.length,by simp,Nat.zero_le _,h0⟩,?_⟩
 rintro i m σ H ⟨rfl,hi,p⟩
 have q:=hl i σ H hi p
 by_cases hlt:i<xs.length
 ·refine .inr ⟨⟨xs,xs[i],q,by simp[hlt]⟩,Pv (i+1),fun σ' H' p'=>⟨xs.length - (i+1),by omega,rfl,hlt,p'⟩,fun x H' y=>?_⟩
  obtain⟨t,v,e1,e2,e3,y⟩:=y
  subst e1 e3
  exact hs i v t σ _ (y xs q) p e2
 ·have e:i=xs.length:=by omega
  subst e
  exact .inl ⟨⟨xs,q,Nat.le_refl _⟩,hd σ H p⟩
section
variable {P:Program} {w:World} {K:PySem.W.Frag} {mg:Str→Option Value} {base:Heap} {A:Adr}
theorem Kp.own {lw lc l:Addr} {H H':Hp} {o:HO} (k:Kp lw lc H H') (h:H l=none):Kp lw lc H (upd H' l o):=⟨fun b u e h1 h2 h3=>by rw[upd_ne (ne_of_none e h)];exact k.keep b u e h1 h2 h3,fun b e=>k.there b (upd_there e)⟩
def ansOf (y:Sd19.Ans):List Int:=y.value::Sd19Neutral.ints (y.told++y.out)
theorem il_ints (l:List Nat):il l=(Sd19Neutral.ints l).map V.int:=by
 unfold il Sd19Neutral.ints
 rw[List.map_map]
 rfl
def Done (C:Addr) (H:Hp) (p lw lc:Addr) (s':Sd19.St) (l:List Int) (Q:VK):Prop:=∀(H':Hp) (z:Addr),H' z=some (.lst (l.map V.int))→H z=none→MemAt C H' p lw lc s'→Kp lw lc H H'→Q (.ref z) H'
theorem Done.keep {C:Addr} {H H':Hp} {p lw lc:Addr} {s:Sd19.St} {l:List Int} {Q:VK} (h:Done C H p lw lc s l Q) (sm:Same H H'):Done C H' p lw lc s l Q :=
 fun H2 z h1 h2 h3 h4=>h H2 z h1 (Same.free sm h2) h3 ((Same.kp sm).trans h4)
theorem not_in3 (kz:Int):(!(inV (.int kz) [.int 0,.int 1,.int 2]))=decide (kz<0∨2<kz):=by
  have e:inV (.int kz) [.int 0,.int 1,.int 2]=(((0:Int)==kz)||(((1:Int)==kz)||(((2:Int)==kz)||false))):=rfl
  rw[e,Bool.or_false]
  by_cases h0:(0:Int)=kz
  · subst h0;decide
  · by_cases h1:(1:Int)=kz
    · subst h1;decide
    · by_cases h2:(2:Int)=kz
      · subst h2;decide
      · rw[beq_eq_false_iff_ne.mpr h0,beq_eq_false_iff_ne.mpr h1,beq_eq_false_iff_ne.mpr h2]
        exact(decide_eq_true (by omega)).symm
theorem look_bad (s:Sd19.St) (c:Sd19.Cpu) (addr:Nat) (kz:Int) (h:kz<0∨2<kz):Sd19.step s (.look c addr kz)=(s,Sd19.no (-1)):=by
 show(if kz<0∨2<kz then _ else _)=_
 rw[if_pos h]
theorem look_ok (s:Sd19.St) (c:Sd19.Cpu) (addr:Nat) (kz:Int) (h:¬(kz<0∨2<kz)) :
  (Sd19.step s (.look c addr kz)).1=⟨M.marked s.mem kz.toNat (Sd19.look s.mem c addr kz.toNat),s.count⟩∧ansOf (Sd19.step s (.look c addr kz)).2=Sd19Neutral.ints (M.outL (Sd19.look s.mem c addr kz.toNat) addr):=by
 have e:Sd19.step s (.look c addr kz)=match Sd19.look s.mem c addr kz.toNat with
   | .at_ a size path=>({ s with mem:=Sd19.mark s.mem kz.toNat path },⟨0,[a,size],[]⟩)
   | o=>(s,⟨((Sd19.why o).1:Int),[(Sd19.why o).2,addr],[]⟩):=by
  show(if kz<0∨2<kz then _ else _)=_
  rw[if_neg h]
  cases Sd19.look s.mem c addr kz.toNat<;>rfl
 rw[e]
 cases Sd19.look s.mem c addr kz.toNat<;>exact⟨rfl,rfl⟩
def spLook (C:Addr):Sp:=fun vs H Q _=>∃(p lw lc c:Addr) (s:Sd19.St) (a f r addr:Nat) (kz:Int),vs=[.ref p,.ref c,.int (addr:Int),.int kz]∧MemAt C H p lw lc s∧H c=some (.lst [.int (a:Int),.int (f:Int),.int (r:Int)]) ∧
 addr<2 ^ 64∧Done C H p lw lc (Sd19.step s (.look (M.cpuOf a f r) addr kz)).1 (ansOf (Sd19.step s (.look (M.cpuOf a f r) addr kz)).2) Q
theorem sc_look:FnScope ["memory","cpu","addr","kind"] ["memory","cpu","addr","kind"] (defScope s_look):=⟨rfl,rfl,rfl,by decide +kernel,rfl,by decide +kernel,by decide +kernel⟩
theorem ok_look (T:Txt K mg A):FnOk P w K mg base CX0 6 A.look.1 A.look.2 ["memory","cpu","addr","kind"] (spLook A.C_Memory):=by
 refine T.f_look.f.ok sc_look (fun vs H Q E h=>?_) (fun cdv A' outer s0 H vs Q E hr h=>?_)
 ·obtain⟨p,lw,lc,c,s,a,f,r,addr,kz,rfl,_⟩:=h
  rfl
 ·obtain⟨p,lw,lc,c,s,a,f,r,addr,kz,rfl,B,hc,ha,k⟩:=h
  refine⟨_,(pss_cons (ps_if (pt_cmpR op_notIn_seq (pv 3) (pe_tup (pa_cons (pe_globI rfl T.g_READING) (pa_cons (pe_globI rfl T.g_WRITING) (pa_cons (pe_globI rfl T.g_EXECUTING) pa_nil)))) (by with_unfolding_all rfl)) (pss_one (ps_ret (pe_lst (pa_cons (pe_globI rfl T.g_REFUSED) pa_nil)))) pss_nil)
   (pss_one (ps_ret (pe_call (ok_look_up T) (hr.mono (by decide)) rfl T.f_look_up.m T.f_look_up.f.kp T.f_look_up.b .nil pass0 (pa_cons (pv 0) (pa_cons (pv 1) (pa_cons (pv 2) (pa_cons (pv 3) pa_nil)))))))),?_⟩
  refine⟨_,rfl,(by show 3≤sizeLine;decide),fun t ht=>⟨t,_,rfl,.inr (SqT.of upd_same),rfl,rfl,_,rfl,?_⟩⟩
  have sm:=Same.new (o:=.tup [.int 0,.int 1,.int 2]) ht
  have k1:=k.keep sm
  refine ite2 (fun g=>?_) (fun g=>?_)
  ·have g':kz<0∨2<kz:=of_decide_eq_true ((not_in3 kz).symm.trans g)
   refine⟨(by show 1≤sizeLine;decide),fun z hz=>?_⟩
   rw[look_bad _ _ _ _ g']at k1
   exact k1 _ z upd_same hz ((B.keep sm).new hz) (Kp.new hz)
  ·have g':¬(kz<0∨2<kz):=fun q=>g ((not_in3 kz).trans (decide_eq_true q))
   have ek:kz=((kz.toNat:Nat):Int):=by omega
   obtain⟨e1,e2⟩:=look_ok s (M.cpuOf a f r) addr kz g'
   rw[e1,e2]at k1
   refine⟨_,rfl,_,rfl,_,rfl,_,rfl,p,lw,lc,c,s,a,f,r,kz.toNat,addr,(by rw[←ek];rfl),B.keep sm,sm _ _ hc,by omega,ha,fun H' z h1 h2 h3 h4=>?_⟩
   exact k1 H' z (by rw[h1,il_ints]) h2 h3 h4
def spGranted:Sp:=fun vs H Q _=>∃(n:Int),vs=[.int n]∧Q (.bl (decide (0≤n∧n≤65536))) H
theorem sc_is_granted:FnScope ["how_many"] ["how_many"] (defScope s_is_granted):=⟨rfl,rfl,rfl,by decide +kernel,rfl,by decide +kernel,by decide +kernel⟩
theorem ok_is_granted (T:Txt K mg A):FnOk P w K mg base CX0 1 A.is_granted.1 A.is_granted.2 ["how_many"] spGranted:=by
 refine T.f_is_granted.f.ok sc_is_granted (fun vs H Q E h=>?_) (fun cdv A' outer s0 H vs Q E hr h=>?_)
 ·obtain⟨n,rfl,_⟩:=h
  rfl
 ·obtain⟨n,rfl,k⟩:=h
  refine⟨_,(pss_one (ps_ret (pe_chain op_le op_le pe_int (pv 0) (pe_globI rfl T.g_MOST_OCTETS)))),?_⟩
  refine⟨_,rfl,_,_,rfl,rfl,_,rfl,?_⟩
  refine ite2 (fun g=>?_) (fun g=>?_)
  ·have g':0≤n:=of_decide_eq_true g
   refine⟨_,_,rfl,rfl,?_⟩
   refine cb ?_ k
   by_cases h:n≤65536
   ·rw[decide_eq_true h,decide_eq_true ⟨g',h⟩]
   ·rw[decide_eq_false h,decide_eq_false (fun q=>h q.2)]
  ·refine cb ?_ k
   exact(decide_eq_false (fun q=>g (decide_eq_true q.1))).symm
def spBehind:Sp:=fun vs H Q _=>∃(a d:Nat),vs=[.int (a:Int),.int (d:Int)]∧Q (.int (((a+d) % 2 ^ 64:Nat):Int)) H
theorem sc_address_behind:FnScope ["addr","distance"] ["addr","distance"] (defScope s_address_behind):=⟨rfl,rfl,rfl,by decide +kernel,rfl,by decide +kernel,by decide +kernel⟩
theorem ok_address_behind (T:Txt K mg A):FnOk P w K mg base CX0 1 A.address_behind.1 A.address_behind.2 ["addr","distance"] spBehind:=by
 refine T.f_address_behind.f.ok sc_address_behind (fun vs H Q E h=>?_) (fun cdv A' outer s0 H vs Q E hr h=>?_)
 ·obtain⟨a,d,rfl,_⟩:=h
  rfl
 ·obtain⟨a,d,rfl,k⟩:=h
  refine⟨_,(pss_one (ps_ret (pe_op op_mod (pe_op op_add (pv 0) (pv 1)) (pe_globI rfl T.g_ADDRESS_COUNT)))),?_⟩
  exact⟨_,rfl,_,rfl,_,_,rfl,rfl,_,_,rfl,rfl,(by show(0:Int)<18446744073709551616;decide),cv (by omega) k⟩
def spReadable:Sp:=fun vs H Q _=>∃(t a z:Nat),vs=[.int (t:Int),.int (a:Int),.int (z:Int)]∧0<z∧a<1048576∧Q (.int ((min (z - t % z) (1048576 - a):Nat):Int)) H
theorem sc_readable_from:FnScope ["addr","place","size"] ["addr","place","size"] (defScope s_readable_from):=⟨rfl,rfl,rfl,by decide +kernel,rfl,by decide +kernel,by decide +kernel⟩
theorem ok_readable_from (T:Txt K mg A):FnOk P w K mg base CX0 1 A.readable_from.1 A.readable_from.2 ["addr","place","size"] spReadable:=by
 refine T.f_readable_from.f.ok sc_readable_from (fun vs H Q E h=>?_) (fun cdv A' outer s0 H vs Q E hr h=>?_)
 ·obtain⟨t,a,z,rfl,_⟩:=h
  rfl
 ·obtain⟨t,a,z,rfl,hz,ha,k⟩:=h
  refine⟨_,(pss_one (ps_ret (pe_callB (call_min2 rfl) (by rfl) T.no_min boot_min (pa_cons (pe_op op_sub (pv 2) (pe_op op_mod (pv 0) (pv 2))) (pa_cons (pe_op op_sub (pe_globI rfl T.g_MEMORY_SIZE) (pv 1)) pa_nil))))),?_⟩
  refine⟨_,rfl,_,rfl,_,rfl,_,_,rfl,rfl,(by show(0:Int)<(z:Int);omega),_,_,rfl,rfl,_,rfl,_,_,rfl,rfl,_,_,rfl,cv ?_ k⟩
  have h1:(t:Int) % (z:Int)=((t % z:Nat):Int):=(Int.natCast_emod _ _).symm
  have h2:t % z<z:=Nat.mod_lt _ hz
  rw[h1]
  split<;>omega
def spFind (C:Addr):Sp:=fun vs H Q _=>∃(p lw lc c:Addr) (s:Sd19.St) (a f r k addr:Nat),vs=[.ref p,.ref c,.int (addr:Int),.int (k:Int)]∧MemAt C H p lw lc s∧H c=some (.lst [.int (a:Int),.int (f:Int),.int (r:Int)]) ∧
 k≤2∧addr<2 ^ 64∧∀(H':Hp) (z:Addr),H' z=some (.lst (il (M.findL (Sd19.look s.mem (M.cpuOf a f r) addr k) addr)))→H z=none→MemAt C H' p lw lc ⟨M.marked s.mem k (Sd19.look s.mem (M.cpuOf a f r) addr k),s.count⟩→Kp lw lc H H'→Q (.ref z) H'
theorem sc_find_octet:FnScope ["memory","cpu","addr","kind","found"] ["memory","cpu","addr","kind"] (defScope s_find_octet):=⟨rfl,rfl,rfl,by decide +kernel,rfl,by decide +kernel,by decide +kernel⟩
theorem ok_find_octet (T:Txt K mg A):FnOk P w K mg base CX0 6 A.find_octet.1 A.find_octet.2 ["memory","cpu","addr","kind"] (spFind A.C_Memory):=by
  refine T.f_find_octet.f.ok sc_find_octet (fun vs H Q E h=>?_) (fun cdv A' outer s0 H vs Q E hr h=>?_)
  · obtain⟨p,lw,lc,c,s,a,f,r,kd,addr,rfl,_⟩:=h
    rfl
  · obtain⟨p,lw,lc,c,s,a,f,r,kd,addr,rfl,B,hc,hk,ha,k⟩:=h
    refine⟨_,(pss_cons (ps_set (i:=4) sc_find_octet.nd rfl (Or.inl rfl) (pe_call (ok_look_up T) (hr.mono (by decide)) rfl T.f_look_up.m T.f_look_up.f.kp T.f_look_up.b .nil pass0 (pa_cons (pv 0) (pa_cons (pv 1) (pa_cons (pv 2) (pa_cons (pv 3) pa_nil))))))
      (pss_cons (ps_if (PW.pt (pw_and (pt_cmpR op_eq (pe_ix ix_list (pv 4) pe_int (fun _ _=>rfl)) (pe_globI rfl T.g_FOUND) (nomark _)) (pw_and1 (pt_cmpR op_ge (pe_ix ix_list (pv 4) pe_int (fun _ _=>rfl)) (pe_globI rfl T.g_MEMORY_SIZE) (nomark _))))) (pss_one (ps_ret (pe_lst (pa_cons (pe_globI rfl T.g_BEYOND) (pa_cons (pe_ix ix_list (pv 4) pe_int (fun _ _=>rfl)) (pa_cons (pv 2) pa_nil)))))) pss_nil)
      (pss_one (ps_ret (pv 4))))),?_⟩
    refine⟨_,rfl,_,rfl,_,rfl,_,rfl,p,lw,lc,c,s,a,f,r,kd,addr,rfl,B,hc,hk,ha,fun H1 z hz nz B1 k1=>?_⟩
    generalize Sd19.look s.mem (M.cpuOf a f r) addr kd=o at *
    cases o with
    | at_ pl sz path =>
      refine⟨_,rfl,z,_,_,_,rfl,rfl,SqL.of hz,rfl,rfl,_,rfl,?_⟩
      refine iteT ?_
      refine⟨_,rfl,z,_,_,_,rfl,rfl,SqL.of hz,rfl,_,_,rfl,rfl,_,rfl,?_⟩
      rw[M.find_at]at k
      refine ite2 (fun g=>?_) (fun g=>?_)
      · have g':1048576≤pl:=by
          have:(1048576:Int)≤(pl:Int):=of_decide_eq_true g
          omega
        rw[if_pos g']at k
        refine⟨_,rfl,z,_,_,_,rfl,rfl,SqL.of hz,rfl,_,rfl,(by show 3≤sizeLine;decide),fun z2 hz2=>?_⟩
        exact k _ z2 upd_same (k1.there z2 hz2) (B1.new hz2) (k1.trans (Kp.new hz2))
      · have g':¬1048576≤pl:=fun q=>g (decide_eq_true (by omega))
        rw[if_neg g']at k
        exact⟨_,rfl,k _ z hz nz B1 k1⟩
    | fault n =>
      refine⟨_,rfl,z,_,_,_,rfl,rfl,SqL.of hz,rfl,rfl,_,rfl,?_⟩
      refine iteF ?_
      refine iteF ?_
      exact⟨_,rfl,k _ z hz nz B1 k1⟩
    | beyond n =>
      refine⟨_,rfl,z,_,_,_,rfl,rfl,SqL.of hz,rfl,rfl,_,rfl,?_⟩
      refine iteF ?_
      refine iteF ?_
      exact⟨_,rfl,k _ z hz nz B1 k1⟩
    | none_ =>
      refine⟨_,rfl,z,_,_,_,rfl,rfl,SqL.of hz,rfl,rfl,_,rfl,?_⟩
      refine iteF ?_
      refine iteF ?_
      exact⟨_,rfl,k _ z hz nz B1 k1⟩
end
end G
namespace G
open PySem PySem.Spec PyProof.Rows L2
section
variable {P:Program} {w:World} {K:PySem.W.Frag} {mg:Str→Option Value} {base:Heap} {A:Adr}
theorem ne_int0 (x:Nat):(!decide (V.int (x:Int)=V.int 0))=decide (x≠0):=ne0 x
theorem read_bad (s:Sd19.St) (c:Sd19.Cpu) (addr:Nat) (n:Int) (h:¬(0≤n∧n≤65536)):Sd19.step s (.read c addr n)=(s,Sd19.no (-1)):=by
 show(if n<0∨65536<n then _ else _)=_
 rw[if_pos (by omega)]
theorem read_ok (s:Sd19.St) (c:Sd19.Cpu) (addr:Nat) (n:Nat) (h:n≤65536) {m:Sd19.Mem} {got:List Nat} {o:Option (Sd19.Out×Nat)} (e:Sd19.move c 0 (List.replicate n 0) addr s.mem []=(m,got,o)) :
  Sd19.step s (.read c addr (n:Int))=(⟨m,s.count⟩,⟨(got.length:Int),Sd19.reason o,got.reverse⟩):=by
 show(if(n:Int)<0∨65536<(n:Int)then _ else _)=_
 rw[if_neg (by omega)]
 show(({ s with mem:=(Sd19.move c 0 (List.replicate ((n:Int)).toNat 0) addr s.mem []).1 }:Sd19.St),_)=_
 rw[Int.toNat_natCast,e]
theorem write_bad (s:Sd19.St) (c:Sd19.Cpu) (addr:Nat) (n:Int) (b:List Nat) (h:¬(0≤n∧n≤65536)):Sd19.step s (.write c addr n b)=(s,Sd19.no (-1)):=by
 show(if n<0∨65536<n then _ else _)=_
 rw[if_pos (by omega)]
theorem write_ok (s:Sd19.St) (c:Sd19.Cpu) (addr:Nat) (n:Int) (b:List Nat) (h:0≤n∧n≤65536) {m:Sd19.Mem} {got:List Nat} {o:Option (Sd19.Out×Nat)} (e:Sd19.move c 1 b addr s.mem []=(m,got,o)) :
  Sd19.step s (.write c addr n b)=(⟨m,s.count⟩,⟨(got.length:Int),Sd19.reason o,[]⟩):=by
 show(if n<0∨65536<n then _ else _)=_
 rw[if_neg (by omega)]
 show(({ s with mem:=(Sd19.move c 1 b addr s.mem []).1 }:Sd19.St),_)=_
 rw[e]
def leftN (n:Nat) (lo:Addr) (H:Hp):Nat:=match H lo with
 | some (.lst xs)=>n - xs.length
 | _=>0
def spRead (C:Addr):Sp:=fun vs H Q _=>∃(p lw lc c:Addr) (s:Sd19.St) (a f r addr:Nat) (nz:Int),vs=[.ref p,.ref c,.int (addr:Int),.int nz]∧MemAt C H p lw lc s∧H c=some (.lst [.int (a:Int),.int (f:Int),.int (r:Int)]) ∧
 addr<2 ^ 64∧Done C H p lw lc (Sd19.step s (.read (M.cpuOf a f r) addr nz)).1 (ansOf (Sd19.step s (.read (M.cpuOf a f r) addr nz)).2) Q
theorem sc_read:FnScope ["memory","cpu","addr","how_many","octets","at","found","run"] ["memory","cpu","addr","how_many"] (defScope s_read):=⟨rfl,rfl,rfl,by decide +kernel,rfl,by decide +kernel,by decide +kernel⟩
set_option maxHeartbeats 1000000 in
theorem ok_read (T:Txt K mg A):FnOk P w K mg base CX0 7 A.read.1 A.read.2 ["memory","cpu","addr","how_many"] (spRead A.C_Memory):=by
  refine T.f_read.f.ok sc_read (fun vs H Q E h=>?_) (fun cdv A' outer s0 H vs Q E hr h=>?_)
  · obtain⟨p,lw,lc,c,s,a,f,r,addr,nz,rfl,_⟩:=h
    rfl
  · obtain ⟨p, lw, lc, c, s, a, f, r, addr, nz, rfl, B, hc, ha, k⟩ := h
    refine⟨_,(pss_cons (ps_if (pt_not (pt_val (pe_call (ok_is_granted T) (hr.mono (by decide)) rfl T.f_is_granted.m T.f_is_granted.f.kp T.f_is_granted.b .nil pass0 (pa_cons (pv 3) pa_nil)))) (pss_one (ps_ret (pe_lst (pa_cons (pe_globI rfl T.g_REFUSED) pa_nil)))) pss_nil)
      (pss_cons (ps_set (i:=4) sc_read.nd rfl (Or.inl rfl) (pe_lst pa_nil))
      (pss_cons (ps_while PassesOwn.never (pt_cmpR op_lt (pe_callB call_len_seq (by rfl) T.no_len boot_len (pa_cons (pv 4) pa_nil)) (pv 3) (nomark _)) (pss_cons (ps_set (i:=5) sc_read.nd rfl (Or.inl rfl) (pe_call (ok_address_behind T) (hr.mono (by decide)) rfl T.f_address_behind.m T.f_address_behind.f.kp T.f_address_behind.b .nil pass0 (pa_cons (pv 2) (pa_cons (pe_callB call_len_seq (by rfl) T.no_len boot_len (pa_cons (pv 4) pa_nil)) pa_nil))))
      (pss_cons (ps_set (i:=6) sc_read.nd rfl (Or.inl rfl) (pe_call (ok_find_octet T) (hr.mono (by decide)) rfl T.f_find_octet.m T.f_find_octet.f.kp T.f_find_octet.b .nil pass0 (pa_cons (pv 0) (pa_cons (pv 1) (pa_cons (pv 5) (pa_cons (pe_globI rfl T.g_READING) pa_nil))))))
      (pss_cons (ps_if (pt_cmpR op_ne (pe_ix ix_list (pv 6) pe_int (fun _ _=>rfl)) (pe_globI rfl T.g_FOUND) (nomark _)) (pss_one (ps_ret (pe_op op_cat (pe_op op_cat (pe_lst (pa_cons (pe_callB call_len_seq (by rfl) T.no_len boot_len (pa_cons (pv 4) pa_nil)) pa_nil)) (pv 6)) (pv 4)))) pss_nil)
      (pss_cons (ps_set (i:=7) sc_read.nd rfl (Or.inl rfl) (pe_callB (call_min2 rfl) (by rfl) T.no_min boot_min (pa_cons (pe_op op_sub (pv 3) (pe_callB call_len_seq (by rfl) T.no_len boot_len (pa_cons (pv 4) pa_nil))) (pa_cons (pe_call (ok_readable_from T) (hr.mono (by decide)) rfl T.f_readable_from.m T.f_readable_from.f.kp T.f_readable_from.b .nil pass0 (pa_cons (pv 5) (pa_cons (pe_ix ix_list (pv 6) pe_int (fun _ _=>rfl)) (pa_cons (pe_ix ix_list (pv 6) pe_int (fun _ _=>rfl)) pa_nil)))) pa_nil))))
      (pss_one (ps_expr (pe_bm PySem.F.plainAttrs_list PySem.F.slot_list_extend PySem.F.type_list_extend mt_extend (pv 4) (pa_cons (pe_meth (pv 0) T.c_Memory T.f_octets_from.mt (ok_octets_from T) (hr.mono (by decide)) T.f_octets_from.b .nil pass0 (pa_cons (pe_ix ix_list (pv 6) pe_int (fun _ _=>rfl)) (pa_cons (pv 7) pa_nil))) pa_nil)))))))))
      (pss_one (ps_ret (pe_op op_cat (pe_lst (pa_cons (pe_callB call_len_seq (by rfl) T.no_len boot_len (pa_cons (pv 4) pa_nil)) (pa_cons pe_int (pa_cons pe_int (pa_cons pe_int pa_nil))))) (pv 4))))))),?_⟩
    have offc:=B.off hc (by show ¬(3=256);decide)
    refine⟨_,rfl,nz,rfl,_,rfl,?_⟩
    refine ite2 (fun g=>?_) (fun g=>?_)
    · have g':¬(0≤nz∧nz≤65536):=by
        intro q
        rw[decide_eq_true q]at g
        cases g
      rw[read_bad _ _ _ _ g']at k
      refine⟨(by show 1≤sizeLine;decide),fun z hz=>?_⟩
      exact k _ z upd_same hz (B.new hz) (Kp.new hz)
    · have g' : 0 ≤ nz ∧ nz ≤ 65536 := by
        apply Decidable.byContradiction
        intro q
        rw[decide_eq_false q]at g
        exact g rfl
      obtain⟨n,rfl⟩:∃n:Nat,nz=(n:Int):=⟨nz.toNat,by omega⟩
      have hn:n≤65536:=by omega
      refine⟨(by show 0≤sizeLine;decide),fun lo hlo=>?_⟩
      have nlo:lo≠lw∧lo≠lc:=by
        obtain⟨ds,h1,_⟩:=B.ws
        exact⟨Ne.symm (ne_of_none h1 hlo),Ne.symm (ne_of_none B.cs hlo)⟩
      have fin:∀(H':Hp) (m:Sd19.Mem) (gs:List Nat) (o:Option (Sd19.Out×Nat)) (z:Addr),Sd19.move (M.cpuOf a f r) 0 (List.replicate n 0) addr s.mem []=(m,gs.reverse,o)→MemAt A.C_Memory H' p lw lc ⟨m,s.count⟩→Kp lw lc H H'→H' z=none →
          Q (.ref z) (upd H' z (.lst (([(gs.length:Int)]++Sd19Neutral.ints (Sd19.reason o)++Sd19Neutral.ints gs).map V.int))):=by
        intro H' m gs o z e B' kp hz
        have e2:=read_ok s (M.cpuOf a f r) addr n hn e
        rw[e2]at k
        refine k _ z ?_ (kp.there z hz) (B'.new hz) (kp.trans (Kp.new hz))
        rw[upd_same]
        unfold ansOf Sd19Neutral.ints
        simp only[List.length_reverse,List.reverse_reverse,List.map_append,List.map_cons,List.map_nil,List.cons_append,List.nil_append]
      refine while_by (fun σ H'=>∃(gs:List Nat) (m:Sd19.Mem) (v5 v6 v7:Option V),σ=[some (.ref p),some (.ref c),some (.int (addr:Int)),some (.int ((n:Nat):Int)),some (.ref lo),v5,v6,v7]∧MemAt A.C_Memory H' p lw lc ⟨m,s.count⟩ ∧
          H' lo=some (.lst (il gs))∧Kp lw lc H H'∧gs.length≤n∧Sd19.move (M.cpuOf a f r) 0 (List.replicate n 0) addr s.mem []=Sd19.move (M.cpuOf a f r) 0 (List.replicate (n - gs.length) 0) ((addr+gs.length) % 2 ^ 64) m gs.reverse)
        (fun _ H'=>leftN n lo H') ?_ ?_ ?_
      · refine⟨[],s.mem,none,none,none,rfl,B.new hlo,upd_same,Kp.new hlo,Nat.zero_le _,?_⟩
        show _=Sd19.move (M.cpuOf a f r) 0 (List.replicate n 0) ((addr+0) % 2 ^ 64) s.mem []
        rw[Nat.add_zero,Nat.mod_eq_of_lt ha]
      · rintro σ H' ⟨gs,m,v5,v6,v7,rfl,B',hl',kp,lg,mv⟩
        have lsz:gs.length<sizeLine:=Nat.lt_of_le_of_lt (Nat.le_trans lg hn) (by decide)
        refine⟨_,rfl,lo,_,rfl,.inl (SqL.of hl'),_,rfl,_,_,rfl,rfl,_,rfl,?_⟩
        refine ite2 (fun g1=>?_) (fun g1=>?_)
        · have g1':gs.length<n:=by
            have:((il gs).length:Int)<(n:Int):=of_decide_eq_true g1
            rw[il_len]at this
            omega
          refine⟨_,rfl,_,rfl,lo,_,rfl,.inl (SqL.of hl'),addr,gs.length,(by rw[il_len];rfl),?_⟩
          have at64:(addr+gs.length) % 2 ^ 64<2 ^ 64:=Nat.mod_lt _ (by decide)
          refine⟨_,rfl,_,rfl,_,rfl,p,lw,lc,c,_,a,f,r,0,(addr+gs.length) % 2 ^ 64,rfl,B',kp.keep _ _ hc offc.1 offc.2 trivial,by decide,at64,fun H2 z hz nz B2 k2=>?_⟩
          have nzl:z≠lo:=fun e=>by rw[e,hl']at nz;cases nz
          have hl2:H2 lo=some (.lst (il gs)):=k2.keep _ _ hl' nlo.1 nlo.2 trivial
          have kp2:=kp.trans k2
          generalize hat:(addr+gs.length) % 2 ^ 64=at_ at *
          have ne1:n - gs.length=(n - gs.length - 1)+1:=by omega
          rcases M.hit_or (Sd19.look m (M.cpuOf a f r) at_ 0) at_ with⟨pl,sz,path,⟨hit,hpl⟩,ef⟩|⟨miss,x,y,ef,hx0,hw1,hw2⟩
          · have hz':H2 z=some (.lst [.int 0,.int (pl:Int),.int (sz:Int)]):=by
              have:M.findL (Sd19.look (⟨m,s.count⟩:Sd19.St).mem (M.cpuOf a f r) at_ 0) at_=[0,pl,sz]:=ef
              rw[this]at hz
              exact hz
            have B2':MemAt A.C_Memory H2 p lw lc ⟨M.mk m path,s.count⟩:=by
              have e:M.marked m 0 (Sd19.look m (M.cpuOf a f r) at_ 0)=M.mk m path:=by
                rw[hit]
                exact M.mark_read _ _ _ (by decide)
              rw[←e]
              exact B2
            obtain⟨⟨lv,_,hsz,_⟩,_⟩:=M.look_path hit
            have szp:0<sz:=by rw[hsz];exact Nat.two_pow_pos _
            refine⟨_,rfl,z,_,_,_,rfl,rfl,SqL.of hz',rfl,rfl,_,rfl,?_⟩
            refine iteF ?_
            obtain⟨r1,r2,r3,mv2⟩:=M.read_turn (got:=gs.reverse) B'.wf.m at64 hit hpl (show 0<n - gs.length by omega) _ rfl
            refine⟨_,rfl,_,rfl,lo,_,rfl,.inl (SqL.of hl2),_,_,rfl,rfl,_,rfl,_,rfl,z,_,_,_,rfl,rfl,SqL.of hz',rfl,_,rfl,z,_,_,_,rfl,rfl,SqL.of hz',rfl,at_,pl,sz,rfl,szp,hpl,_,_,rfl,?_⟩
            have er:(if((min (sz - at_ % sz) (1048576 - pl):Nat):Int)<(n:Int) - ((il gs).length:Int)then((min (sz - at_ % sz) (1048576 - pl):Nat):Int)else(n:Int) - ((il gs).length:Int))=((min (n - gs.length) (min (sz - at_ % sz) (1048576 - pl)):Nat):Int):=by
              rw[il_len]
              split<;>omega
            generalize min (n - gs.length) (min (sz - at_ % sz) (1048576 - pl))=run at *
            dsimp only
            rw[er]
            obtain⟨dx,ob⟩:=B2'.ob
            refine⟨_,rfl,.inl ⟨rfl,_,SqL.of hl2⟩,_,rfl,p,dx,_,rfl,ob,mf_no _ _ (by decide +kernel) (by decide +kernel),_,rfl,z,_,_,_,rfl,rfl,SqL.of hz',rfl,_,rfl,p,lw,lc,_,pl,run,rfl,B2',r3,fun q hq=>?_⟩
            have nql:lo≠q:=ne_of_none hl2 hq
            refine⟨lo,q,_,_,rfl,rfl,(by rw[upd_ne nql];exact hl2),upd_same,?_,?_⟩
            · rw[il_len,List.length_map,List.length_range]
              exact Nat.le_of_lt (Nat.lt_of_le_of_lt (show gs.length+run≤65536 by omega) (by decide))
            have ei:il gs++List.map (fun i=>V.int ((Sd19.byteAt (M.mk m path) (pl+i):Nat):Int)) (List.range run)=il (gs++(List.range run).map fun i=>Sd19.byteAt (M.mk m path) (pl+i)):=by
              rw[il_app]
              unfold il
              rw[List.map_map]
              rfl
            have hlen:(gs++(List.range run).map fun i=>Sd19.byteAt (M.mk m path) (pl+i)).length=gs.length+run:=by simp
            refine⟨⟨gs++(List.range run).map fun i=>Sd19.byteAt (M.mk m path) (pl+i),M.mk m path,_,_,_,rfl,?_,?_,?_,by omega,?_⟩,?_⟩
            · have B3:=B2'.new (o:=.lst ((List.range run).map fun i=>V.int ((Sd19.byteAt (M.mk m path) (pl+i):Nat):Int))) hq
              obtain⟨dx3,ob3⟩:=B3.ob
              obtain⟨ds,h1,h2,h3,h4⟩:=B3.ws
              have hl3:upd H2 q (.lst ((List.range run).map fun i=>V.int ((Sd19.byteAt (M.mk m path) (pl+i):Nat):Int))) lo=some (.lst (il gs)):=by rw[upd_ne nql];exact hl2
              exact⟨⟨dx3,by rw[upd_ne (ne_of ob3 hl3 (fun e=>nomatch e))];exact ob3⟩,⟨ds,by rw[upd_ne (Ne.symm nlo.1)];exact h1,h2,h3,fun g d e=>let ⟨kv,h5,h6⟩:=h4 g d e;⟨kv,by rw[upd_ne (ne_of h5 hl3 (fun e=>nomatch e))];exact h5,h6⟩⟩,by rw[upd_ne (Ne.symm nlo.2)];exact B3.cs,B3.wf⟩
            · rw[upd_same,←ei]
            · exact(kp2.trans (Kp.new hq)).own hlo
            · rw[mv,mv2,hlen]
              congr 1
              · congr 1;omega
              · rw[←hat,M.mod_add]
              · rw[List.reverse_append]
            · show leftN n lo _<leftN n lo H'
              unfold leftN
              rw[upd_same,hl']
              simp only[List.length_append,il_len,List.length_map,List.length_range]
              omega
          · have hz':H2 z=some (.lst (il [x,y,at_])):=by
              have:M.findL (Sd19.look (⟨m,s.count⟩:Sd19.St).mem (M.cpuOf a f r) at_ 0) at_=[x,y,at_]:=ef
              rw[this]at hz
              exact hz
            refine⟨_,rfl,z,_,_,_,rfl,rfl,SqL.of hz',rfl,rfl,_,rfl,?_⟩
            refine ite2 (fun g2=>?_) (fun g2=>?_)
            ·
              refine⟨_,rfl,lo,_,rfl,.inl (SqL.of hl2),(by show 1≤sizeLine;decide),fun l1 hl1=>?_⟩
              have nz1:z≠l1:=ne_of_none hz' hl1
              have nl1:lo≠l1:=ne_of_none hl2 hl1
              refine⟨_,rfl,l1,z,_,_,rfl,rfl,upd_same,(by rw[upd_ne nz1];exact hz'),(by show 1+3≤sizeLine;decide),fun l2 hl2'=>?_⟩
              have nl2:lo≠l2:=ne_of_none (show upd H2 l1 _ lo=some _ by rw[upd_ne nl1];exact hl2) hl2'
              refine⟨_,rfl,l2,lo,_,_,rfl,rfl,upd_same,(by rw[upd_ne nl2,upd_ne nl1];exact hl2),?_,fun l3 hl3=>?_⟩
              · rw[il_len]
                show 1+3+gs.length≤sizeLine
                exact Nat.le_of_lt (Nat.lt_of_le_of_lt (show 1+3+gs.length≤65540 by omega) (by decide))
              have ms:=M.move_stop (m:=m) (c:=M.cpuOf a f r) (addr:=at_) (kind:=0) 0 (List.replicate (n - gs.length - 1) 0) gs.reverse miss
              rw[←List.replicate_succ,←ne1]at ms
              have mv3:=mv.trans ms
              have F:=fin _ _ gs _ l3 mv3 ((B2.new hl1).new hl2') ((kp2.trans (Kp.new hl1)).trans (Kp.new hl2')) hl3
              have el:(([(gs.length:Int)]++Sd19Neutral.ints (Sd19.reason (some (Sd19.look m (M.cpuOf a f r) at_ 0,at_)))++Sd19Neutral.ints gs).map V.int)=[V.int ((il gs).length:Int)]++il [x,y,at_]++il gs:=by
                rw[il_len,List.map_append,List.map_append,←il_ints,←il_ints]
                show _++il [(Sd19.why (Sd19.look m (M.cpuOf a f r) at_ 0)).1,(Sd19.why (Sd19.look m (M.cpuOf a f r) at_ 0)).2,at_]++_=_
                rw[hw1,hw2]
                rfl
              rw[el]at F
              exact F
            · exact absurd ((ne_int0 x).trans (decide_eq_true hx0)) g2
        · have g1':gs.length=n:=by
            apply Decidable.byContradiction
            intro q
            apply g1
            apply decide_eq_true
            rw[il_len]
            omega
          refine⟨_,rfl,lo,_,rfl,.inl (SqL.of hl'),(by show 4≤sizeLine;decide),fun l1 hl1=>?_⟩
          have nl1:lo≠l1:=ne_of_none hl' hl1
          refine⟨_,rfl,l1,lo,_,_,rfl,rfl,upd_same,(by rw[upd_ne nl1];exact hl'),?_,fun l2 hl2=>?_⟩
          · rw[il_len]
            show 4+gs.length≤sizeLine
            exact Nat.le_of_lt (Nat.lt_of_le_of_lt (show 4+gs.length≤65540 by omega) (by decide))
          rw[g1',Nat.sub_self]at mv
          have mv3:Sd19.move (M.cpuOf a f r) 0 (List.replicate n 0) addr s.mem []=(m,gs.reverse,none):=mv
          have F:=fin _ m gs none l2 mv3 (B'.new hl1) (kp.trans (Kp.new hl1)) hl2
          have el:(([(gs.length:Int)]++Sd19Neutral.ints (Sd19.reason none)++Sd19Neutral.ints gs).map V.int)=[V.int ((il gs).length:Int),V.int 0,V.int 0,V.int 0]++il gs:=by
            rw[il_len,List.map_append,List.map_append,←il_ints,←il_ints]
            rfl
          rw[el]at F
          exact F
      · rintro σ H' Q1 Q2 hq ⟨x1,h1,x2,x3,h2,h3,x4,h4,x5,x6,h5,h6,x7,h7,h8⟩
        exact⟨x1,h1,x2,x3,h2,h3,x4,h4,x5,x6,h5,h6,x7,h7,hq _ _ h8⟩
def spWrite (C:Addr):Sp:=fun vs H Q _=>∃(p lw lc c lo:Addr) (s:Sd19.St) (a f r addr:Nat) (nz:Int) (bs:List Nat),vs=[.ref p,.ref c,.int (addr:Int),.int nz,.ref lo]∧MemAt C H p lw lc s∧H c=some (.lst [.int (a:Int),.int (f:Int),.int (r:Int)]) ∧
 H lo=some (.lst (il bs))∧lo≠lw∧lo≠lc∧(∀b∈bs,b<256)∧((0≤nz∧nz≤65536)→(bs.length:Int)=nz)∧addr<2 ^ 64 ∧
 Done C H p lw lc (Sd19.step s (.write (M.cpuOf a f r) addr nz bs)).1 (ansOf (Sd19.step s (.write (M.cpuOf a f r) addr nz bs)).2) Q
theorem sc_write:FnScope ["memory","cpu","addr","how_many","octets","k","octet","found"] ["memory","cpu","addr","how_many","octets"] (defScope s_write):=⟨rfl,rfl,rfl,by decide +kernel,rfl,by decide +kernel,by decide +kernel⟩
set_option maxHeartbeats 1000000 in
theorem ok_write (T:Txt K mg A):FnOk P w K mg base CX0 7 A.write.1 A.write.2 ["memory","cpu","addr","how_many","octets"] (spWrite A.C_Memory):=by
  refine T.f_write.f.ok sc_write (fun vs H Q E h=>?_) (fun cdv A' outer s0 H vs Q E hr h=>?_)
  · obtain⟨p,lw,lc,c,lo,s,a,f,r,addr,nz,bs,rfl,_⟩:=h
    rfl
  · obtain ⟨p, lw, lc, c, lo, s, a, f, r, addr, nz, bs, rfl, B, hc, hlo, n1, n2, hb, hlen, ha, k⟩ := h
    refine⟨_,(pss_cons (ps_if (pt_not (pt_val (pe_call (ok_is_granted T) (hr.mono (by decide)) rfl T.f_is_granted.m T.f_is_granted.f.kp T.f_is_granted.b .nil pass0 (pa_cons (pv 3) pa_nil)))) (pss_one (ps_ret (pe_lst (pa_cons (pe_globI rfl T.g_REFUSED) pa_nil)))) pss_nil)
      (pss_cons (ps_for PassesOwn.never rfl (pi_enum rfl T.no_enumerate (pa_cons (pv 4) pa_nil)) (pg_two (K:=K) (i:=5) (j:=6) sc_write.nd rfl rfl (Or.inl rfl) (Or.inl rfl) rfl rfl) (pss_cons (ps_set (i:=7) sc_write.nd rfl (Or.inl rfl) (pe_call (ok_find_octet T) (hr.mono (by decide)) rfl T.f_find_octet.m T.f_find_octet.f.kp T.f_find_octet.b .nil pass0 (pa_cons (pv 0) (pa_cons (pv 1) (pa_cons (pe_call (ok_address_behind T) (hr.mono (by decide)) rfl T.f_address_behind.m T.f_address_behind.f.kp T.f_address_behind.b .nil pass0 (pa_cons (pv 2) (pa_cons (pv 5) pa_nil))) (pa_cons (pe_globI rfl T.g_WRITING) pa_nil))))))
      (pss_cons (ps_if (pt_cmpR op_ne (pe_ix ix_list (pv 7) pe_int (fun _ _=>rfl)) (pe_globI rfl T.g_FOUND) (nomark _)) (pss_one (ps_ret (pe_op op_cat (pe_lst (pa_cons (pv 5) pa_nil)) (pv 7)))) pss_nil)
      (pss_one (ps_expr (pe_meth (pv 0) T.c_Memory T.f_put_octet.mt (ok_put_octet T) (hr.mono (by decide)) T.f_put_octet.b .nil pass0 (pa_cons (pe_ix ix_list (pv 7) pe_int (fun _ _=>rfl)) (pa_cons (pv 6) pa_nil))))))))
      (pss_one (ps_ret (pe_lst (pa_cons (pv 3) (pa_cons pe_int (pa_cons pe_int (pa_cons pe_int pa_nil))))))))),?_⟩
    have offc:=B.off hc (by show ¬(3=256);decide)
    refine⟨_,rfl,nz,rfl,_,rfl,?_⟩
    refine ite2 (fun g=>?_) (fun g=>?_)
    · have g':¬(0≤nz∧nz≤65536):=by
        intro q
        rw[decide_eq_true q]at g
        cases g
      rw[write_bad _ _ _ _ _ g']at k
      refine⟨(by show 1≤sizeLine;decide),fun z hz=>?_⟩
      exact k _ z upd_same hz (B.new hz) (Kp.new hz)
    · have g' : 0 ≤ nz ∧ nz ≤ 65536 := by
        apply Decidable.byContradiction
        intro q
        rw[decide_eq_false q]at g
        exact g rfl
      have hln:=hlen g'
      have fin:∀(H':Hp) (m:Sd19.Mem) (got:List Nat) (o:Option (Sd19.Out×Nat)) (z:Addr),Sd19.move (M.cpuOf a f r) 1 bs addr s.mem []=(m,got,o)→MemAt A.C_Memory H' p lw lc ⟨m,s.count⟩→Kp lw lc H H'→H' z=none →
          Q (.ref z) (upd H' z (.lst (([(got.length:Int)]++Sd19Neutral.ints (Sd19.reason o)).map V.int))):=by
        intro H' m got o z e B' kp hz
        have e2:=write_ok s (M.cpuOf a f r) addr nz bs g' e
        rw[e2]at k
        refine k _ z ?_ (kp.there z hz) (B'.new hz) (kp.trans (Kp.new hz))
        rw[upd_same]
        unfold ansOf
        simp only[List.append_nil,List.cons_append,List.nil_append]
      refine⟨_,rfl,lo,_,rfl,SqL.of hlo,?_⟩
      refine for_enum (K:=K) (a:=lo) (xs:=il bs) (fun i σ H'=>∃(m:Sd19.Mem) (got:List Nat) (v5 v6 v7:Option V),σ=[some (.ref p),some (.ref c),some (.int (addr:Int)),some (.int nz),some (.ref lo),v5,v6,v7]∧MemAt A.C_Memory H' p lw lc ⟨m,s.count⟩ ∧
          Kp lw lc H H'∧got.length=i∧Sd19.move (M.cpuOf a f r) 1 bs addr s.mem []=Sd19.move (M.cpuOf a f r) 1 (bs.drop i) ((addr+i) % 2 ^ 64) m got)
        ⟨s.mem,[],none,none,none,rfl,B,Kp.refl _ _ _,rfl,by rw[Nat.add_zero,Nat.mod_eq_of_lt ha];rfl⟩ (fun i σ H' _ ⟨_,_,_,_,_,_,_,kp,_⟩=>SqL.of (kp.keep _ _ hlo n1 n2 trivial)) ?_ ?_
      · rintro i x t σ H' hi ⟨m,got,v5,v6,v7,rfl,B',kp,lg,mv⟩ ht
        have hlt:i<bs.length:=by
          have:=(List.getElem?_eq_some_iff.mp hi).1
          rw[il_len]at this
          exact this
        rw[il_get hlt]at hi
        cases hi
        have hbi:=hb _ (List.getElem_mem hlt)
        have B1:=B'.new (o:=.tup [.int ((i:Nat):Int),.int ((bs[i]:Nat):Int)]) ht
        have kp1:Kp lw lc H (upd H' t (.tup [.int ((i:Nat):Int),.int ((bs[i]:Nat):Int)])):=kp.trans (Kp.new ht)
        refine⟨t,_,rfl,SqT.of upd_same,rfl,_,_,rfl,_,_,rfl,rfl,?_⟩
        generalize upd H' t (.tup [.int ((i:Nat):Int),.int ((bs[i]:Nat):Int)])=H1 at *
        have at64:(addr+i) % 2 ^ 64<2 ^ 64:=Nat.mod_lt _ (by decide)
        refine⟨_,rfl,_,rfl,_,rfl,_,rfl,addr,i,rfl,p,lw,lc,c,_,a,f,r,1,(addr+i) % 2 ^ 64,rfl,B1,kp1.keep _ _ hc offc.1 offc.2 trivial,by decide,at64,fun H2 z hz nz B2 k2=>?_⟩
        have kp2:=kp1.trans k2
        have ed:bs.drop i=bs[i]::bs.drop (i+1):=List.drop_eq_getElem_cons hlt
        generalize hat:(addr+i) % 2 ^ 64=at_ at *
        rcases M.hit_or (Sd19.look m (M.cpuOf a f r) at_ 1) at_ with⟨pl,sz,path,⟨hit,hpl⟩,ef⟩|⟨miss,x,y,ef,hx0,hw1,hw2⟩
        · have hz':H2 z=some (.lst [.int 0,.int (pl:Int),.int (sz:Int)]):=by
            have:M.findL (Sd19.look (⟨m,s.count⟩:Sd19.St).mem (M.cpuOf a f r) at_ 1) at_=[0,pl,sz]:=ef
            rw[this]at hz
            exact hz
          have B2':MemAt A.C_Memory H2 p lw lc ⟨Sd19.mark m 1 path,s.count⟩:=by
            have e:M.marked m 1 (Sd19.look m (M.cpuOf a f r) at_ 1)=Sd19.mark m 1 path:=by
              rw[hit]
              rfl
            rw[←e]
            exact B2
          refine⟨_,rfl,z,_,_,_,rfl,rfl,SqL.of hz',rfl,rfl,_,rfl,?_⟩
          refine iteF ?_
          obtain⟨dx,ob⟩:=B2'.ob
          refine⟨_,rfl,p,dx,_,rfl,ob,mf_no _ _ (by decide +kernel) (by decide +kernel),_,rfl,z,_,_,_,rfl,rfl,SqL.of hz',rfl,_,rfl,p,lw,lc,_,pl,bs[i],rfl,B2',hpl,hbi,fun H3 B3 k3=>?_⟩
          refine⟨_,bs[i]::got,_,_,_,rfl,B3,kp2.trans k3,by simp[lg],?_⟩
          rw[mv,ed,M.move_at hit hpl,if_pos rfl,←hat,M.mod_add]
        · have hz':H2 z=some (.lst (il [x,y,at_])):=by
            have:M.findL (Sd19.look (⟨m,s.count⟩:Sd19.St).mem (M.cpuOf a f r) at_ 1) at_=[x,y,at_]:=ef
            rw[this]at hz
            exact hz
          refine⟨_,rfl,z,_,_,_,rfl,rfl,SqL.of hz',rfl,rfl,_,rfl,?_⟩
          refine ite2 (fun g2=>?_) (fun g2=>?_)
          · refine⟨_,rfl,(by show 1≤sizeLine;decide),fun l1 hl1=>?_⟩
            have nz1:z≠l1:=ne_of_none hz' hl1
            refine⟨_,rfl,l1,z,_,_,rfl,rfl,upd_same,(by rw[upd_ne nz1];exact hz'),(by show 1+3≤sizeLine;decide),fun l2 hl2=>?_⟩
            have ms:=M.move_stop (m:=m) (c:=M.cpuOf a f r) (addr:=at_) (kind:=1) bs[i] (bs.drop (i+1)) got miss
            rw[←ed]at ms
            have F:=fin _ _ got _ l2 (mv.trans ms) (B2.new hl1) (kp2.trans (Kp.new hl1)) hl2
            have el:(([(got.length:Int)]++Sd19Neutral.ints (Sd19.reason (some (Sd19.look m (M.cpuOf a f r) at_ 1,at_)))).map V.int)=[V.int ((i:Nat):Int)]++il [x,y,at_]:=by
              rw[lg,List.map_append,←il_ints]
              show _++il [(Sd19.why (Sd19.look m (M.cpuOf a f r) at_ 1)).1,(Sd19.why (Sd19.look m (M.cpuOf a f r) at_ 1)).2,at_]=_
              rw[hw1,hw2]
              rfl
            rw[el]at F
            exact F
          · exact absurd ((ne_int0 x).trans (decide_eq_true hx0)) g2
      · rintro σ H' ⟨m,got,v5,v6,v7,rfl,B',kp,lg,mv⟩
        rw[il_len]at lg mv
        refine⟨_,rfl,(by show 4≤sizeLine;decide),fun l1 hl1=>?_⟩
        rw[List.drop_length]at mv
        have mv3:Sd19.move (M.cpuOf a f r) 1 bs addr s.mem []=(m,got,none):=mv
        have F:=fin _ m got none l1 mv3 B' kp hl1
        have el:(([(got.length:Int)]++Sd19Neutral.ints (Sd19.reason none)).map V.int)=[V.int nz,V.int 0,V.int 0,V.int 0]:=by
          rw[lg,hln]
          rfl
        rw[el]at F
        exact F
end
end G
namespace G
open PySem PySem.Spec PyProof.Rows L2
section
variable {P:Program} {w:World} {K:PySem.W.Frag} {mg:Str→Option Value} {base:Heap} {A:Adr}
def DoneI (C:Addr) (H:Hp) (p lw lc:Addr) (y:Sd19.St×Sd19.Ans) (Q:VK):Prop:=∀(H':Hp),MemAt C H' p lw lc y.1→Kp lw lc H H'→Q (.int y.2.value) H'
theorem DoneI.kp {C:Addr} {H H':Hp} {p lw lc:Addr} {y:Sd19.St×Sd19.Ans} {Q:VK} (h:DoneI C H p lw lc y Q) (k:Kp lw lc H H'):DoneI C H' p lw lc y Q:=fun H2 B k2=>h H2 B (k.trans k2)
theorem eq0 (n:Nat):decide (V.int (n:Int)=V.int 0)=decide (n=0):=by
 by_cases h:n=0
 ·subst h;rfl
 ·rw[decide_eq_false h,decide_eq_false (by intro e;injection e with e;omega)]
def spNew (C:Addr):Sp:=fun vs H Q _=>∃(p lw lc:Addr) (s:Sd19.St),vs=[.ref p]∧MemAt C H p lw lc s∧DoneI C H p lw lc (Sd19.step s .new) Q
theorem sc_new:FnScope ["memory"] ["memory"] (defScope s_new):=⟨rfl,rfl,rfl,by decide +kernel,rfl,by decide +kernel,by decide +kernel⟩
theorem ok_new (T:Txt K mg A):FnOk P w K mg base CX0 2 A.new.1 A.new.2 ["memory"] (spNew A.C_Memory):=by
  refine T.f_new.f.ok sc_new (fun vs H Q E h=>?_) (fun cdv A' outer s0 H vs Q E hr h=>?_)
  · obtain⟨p,lw,lc,s,rfl,_⟩:=h
    rfl
  · obtain⟨p,lw,lc,s,rfl,B,k⟩:=h
    obtain⟨dx,ob⟩:=B.ob
    refine⟨_,(pss_cons (ps_if (pt_cmpR op_eq (pe_meth0 (pv 0) T.c_Memory T.f_free_frame_count.mt (ok_free_frame_count T) (hr.mono (by decide)) T.f_free_frame_count.b .nil pass0) pe_int (nomark _)) (pss_one (ps_ret (pe_globI rfl T.g_TOO_FEW_FRAMES))) pss_nil)
      (pss_one (ps_ret (pe_meth0 (pv 0) T.c_Memory T.f_take_frame.mt (ok_take_frame T) (hr.mono (by decide)) T.f_take_frame.b .nil pass0)))),?_⟩
    refine⟨_,rfl,p,dx,_,rfl,ob,mf_no _ _ (by decide +kernel) (by decide +kernel),p,lw,lc,s,rfl,B,rfl,_,rfl,?_⟩
    refine ite2 (fun g=>?_) (fun g=>?_)
    · have g':M.freeN s=0:=of_decide_eq_true ((eq0 _).symm.trans g)
      have e:Sd19.step s .new=(s,Sd19.no (-2)):=by
        show(match s.take with|none=>(s,Sd19.no (-2))|some x=>(x.2,Sd19.no (x.1:Int)))=_
        rw[M.take_none B.wf g']
      rw[e]at k
      exact k H B (Kp.refl _ _ _)
    · have g':M.freeN s≠0:=fun q=>g ((eq0 _).trans (decide_eq_true q))
      refine⟨_,rfl,p,dx,_,rfl,ob,mf_no _ _ (by decide +kernel) (by decide +kernel),p,lw,lc,s,rfl,B,g',fun f t H' tk B' kp=>?_⟩
      have e:Sd19.step s .new=(t,Sd19.no (f:Int)):=by
        show(match s.take with|none=>(s,Sd19.no (-2))|some x=>(x.2,Sd19.no (x.1:Int)))=_
        rw[tk.eq]
      rw[e]at k
      exact k H' B' kp
def spPlaces (C:Addr):Sp:=fun vs H Q _=>∃(p lw lc:Addr) (s:Sd19.St) (root addr:Nat) (L3 L2 L1 pg:List Nat),vs=[.ref p,.int (root:Int),.int (addr:Int)]∧MemAt C H p lw lc s∧M.Snd s root L3 L2 L1 pg ∧
 ∀(H':Hp) (z:Addr),H' z=some (.lst (il (M.way s addr 4 root)))→H z=none→Same H H'→Q (.ref z) H'
theorem way_succ (s:Sd19.St) (addr l t:Nat):M.way s addr (l+1) t=Sd19.entryAt t (l+1) addr::(if Sd19.present s (Sd19.entryAt t (l+1) addr)=true then M.way s addr l (Sd19.leads s (Sd19.entryAt t (l+1) addr))else []):=rfl
theorem sc_places_on_way:FnScope ["memory","root","addr","places","table","level","place","entry"] ["memory","root","addr"] (defScope s_places_on_way):=⟨rfl,rfl,rfl,by decide +kernel,rfl,by decide +kernel,by decide +kernel⟩
set_option maxHeartbeats 1000000 in
theorem ok_places_on_way (T:Txt K mg A):FnOk P w K mg base CX0 3 A.places_on_way.1 A.places_on_way.2 ["memory","root","addr"] (spPlaces A.C_Memory):=by
  refine T.f_places_on_way.f.ok sc_places_on_way (fun vs H Q E h=>?_) (fun cdv A' outer s0 H vs Q E hr h=>?_)
  · obtain⟨p,lw,lc,s,root,addr,L3,L2,L1,pg,rfl,_⟩:=h
    rfl
  · obtain⟨p,lw,lc,s,root,addr,L3,L2,L1,pg,rfl,B,S,k⟩:=h
    refine⟨_,(pss_cons (ps_set (i:=3) sc_places_on_way.nd rfl (Or.inl rfl) (pe_lst pa_nil))
      (pss_cons (ps_set (i:=4) sc_places_on_way.nd rfl (Or.inl rfl) (pe_op op_mul (pv 1) (pe_globI rfl T.g_FRAME_SIZE)))
      (pss_cons (ps_for PassesOwn.never rfl (pi_tup (pe_globR rfl T.g_LEVELS)) (pg_name (i:=5) sc_places_on_way.nd rfl (Or.inl rfl)) (pss_cons (ps_set (i:=6) sc_places_on_way.nd rfl (Or.inl rfl) (pe_call (ok_entry_place T) (hr.mono (by decide)) rfl T.f_entry_place.m T.f_entry_place.f.kp T.f_entry_place.b .nil pass0 (pa_cons (pv 4) (pa_cons (pv 5) (pa_cons (pv 2) pa_nil)))))
      (pss_cons (ps_expr (pe_bm PySem.F.plainAttrs_list PySem.F.slot_list_append PySem.F.type_list_append mt_append (pv 3) (pa_cons (pv 6) pa_nil)))
      (pss_cons (ps_set (i:=7) sc_places_on_way.nd rfl (Or.inl rfl) (pe_meth (pv 0) T.c_Memory T.f_word_at.mt (ok_word_at T) (hr.mono (by decide)) T.f_word_at.b .nil pass0 (pa_cons (pv 6) pa_nil)))
      (pss_cons (ps_if (pt_not (pt_val (pe_call (ok_is_there T) (hr.mono (by decide)) rfl T.f_is_there.m T.f_is_there.f.kp T.f_is_there.b .nil pass0 (pa_cons (pv 7) pa_nil)))) (pss_one ps_break) pss_nil)
      (pss_one (ps_set (i:=4) sc_places_on_way.nd rfl (Or.inl rfl) (pe_op op_and (pv 7) (pe_globI rfl T.g_BEGINNING)))))))))
      (pss_one (ps_ret (pv 3)))))),?_⟩
    refine⟨(by show 0≤sizeLine;decide),fun z hz=>?_⟩
    refine⟨_,rfl,_,_,rfl,rfl,.inr ⟨by decide,by decide⟩,?_⟩
    refine⟨A.a_LEVELS,rfl,⟨_,T.sq_LEVELS _⟩,?_⟩
    refine for_tup (K:=K) (a:=A.a_LEVELS) (xs:=[.int 4,.int 3,.int 2,.int 1])
      (fun i σ H'=>∃(t:Nat) (pre:List Nat) (v5 v6 v7:Option V),σ=[some (.ref p),some (.int (root:Int)),some (.int (addr:Int)),some (.ref z),some (.int ((4096 * t:Nat):Int)),v5,v6,v7]∧Same H H'∧H' z=some (.lst (il pre))∧pre.length=i ∧
        M.way s addr 4 root=pre++M.way s addr (4 - i) t∧(i<4→M.Lev root L3 L2 L1 (4 - i) t)) ?_ (fun i σ H' _ _=>T.sq_LEVELS _) ?_ ?_
    · refine⟨root,[],none,none,none,?_,Same.new hz,upd_same,rfl,rfl,fun _=>.inl ⟨rfl,rfl⟩⟩
      show [some (V.ref p),some (.int (root:Int)),some (.int (addr:Int)),some (.ref z),some (.int ((root:Int) * 4096)),none,none,none]=_
      rw[show(root:Int) * 4096=((4096 * root:Nat):Int) by omega]
    · rintro i x σ H' hx ⟨t,pre,v5,v6,v7,rfl,sm,hz',pl,ew,lev⟩
      obtain⟨l,hl,hil,rfl⟩:=levels_get hx
      have e4:4 - i=l+1:=by omega
      have lv:=lev (by omega)
      rw[e4]at lv ew
      have ht:=(S.lev lv).1
      have B':=B.keep sm
      rw[way_succ s addr l t]at ew
      refine⟨_,rfl,_,rfl,_,rfl,4096 * t,l,addr,rfl,hl,?_⟩
      have epl:4096 * t+8 * Sd19.index (l+1) addr=Sd19.entryAt t (l+1) addr:=rfl
      rw[epl]
      have pal:=M.entryAt_lt (level:=l+1) (addr:=addr) ht
      generalize hpa:Sd19.entryAt t (l+1) addr=pa at *
      refine⟨_,rfl,.inl ⟨rfl,_,SqL.of hz'⟩,_,rfl,z,_,_,rfl,rfl,hz',(by rw[il_len,pl];exact Nat.lt_of_lt_of_le (show i<4 by omega) (by decide)),?_⟩
      rw[←il_snoc]
      have sm2:Same H (upd H' z (.lst (il (pre++[pa])))):=fun b o e=>by rw[upd_ne (ne_of_none e hz)];exact sm b o e
      have hz2:upd H' z (.lst (il (pre++[pa]))) z=some (.lst (il (pre++[pa]))):=upd_same
      generalize upd H' z (.lst (il (pre++[pa])))=H2 at sm2 hz2
      have B2:=B.keep sm2
      obtain⟨dx,ob⟩:=B2.ob
      refine⟨_,rfl,p,dx,_,rfl,ob,mf_no _ _ (by decide +kernel) (by decide +kernel),_,rfl,p,lw,lc,s,pa,rfl,B2,pal,?_⟩
      refine⟨_,rfl,_,rfl,_,rfl,?_⟩
      have epr:Sd19.present s pa=Sd19.bit (Sd19.load s.mem pa) 0:=rfl
      refine ite2 (fun g=>?_) (fun g=>?_)
      · have g':Sd19.present s pa=false:=by rw[epr];simpa using g
        rw[if_neg (by rw[g'];decide)]at ew
        refine⟨_,rfl,?_⟩
        exact k _ z (by rw[hz2,ew]) (by exact hz) sm2
      · have g':Sd19.present s pa=true:=by rw[epr];simpa using g
        rw[if_pos g']at ew
        have hb:V.int (Builtin.bitAnd ((Sd19.load s.mem pa:Nat):Int) 4503599627366400)=V.int ((4096 * Sd19.leads s pa:Nat):Int):=by
          refine congrArg V.int ?_
          show Builtin.bitAnd _ ((4503599627366400:Nat):Int)=_
          rw[bAnd,M.base_and,M.base_leads]
        refine⟨_,rfl,_,_,rfl,rfl,Sd19.leads s pa,pre++[pa],_,_,_,(by
          show [some (V.ref p),some (.int (root:Int)),some (.int (addr:Int)),some (.ref z),some (V.int (Builtin.bitAnd ((Sd19.load s.mem pa:Nat):Int) 4503599627366400)),some (.int ((l+1:Nat):Int)),some (.int (pa:Int)),some (.int ((Sd19.load s.mem pa:Nat):Int))]=_
          rw[hb]),sm2,hz2,by simp[pl],?_,fun h3=>?_⟩
        · rw[ew,List.append_assoc,show 4 - (i+1)=l by omega]
          rfl
        · obtain⟨l',rfl⟩:∃l',l=l'+1:=⟨l - 1,by omega⟩
          rw[show 4 - (i+1)=l'+1 by omega,←hpa]
          exact S.down lv (by rw[hpa];exact g')
    · rintro σ H' ⟨t,pre,v5,v6,v7,rfl,sm,hz',pl,ew,_⟩
      refine⟨_,rfl,?_⟩
      have e0:M.way s addr 0 t=[]:=rfl
      have ew:M.way s addr 4 root=pre++M.way s addr 0 t:=ew
      rw[e0,List.append_nil]at ew
      exact k _ z (by rw[hz',ew]) hz sm
def spMissing:Sp:=fun vs H Q _=>∃(z:Addr) (ps:List Nat),vs=[.ref z]∧H z=some (.lst (il ps))∧ps.length≤4∧Q (.int ((4 - ps.length:Nat):Int)) H
theorem sc_missing_table_count:FnScope ["places"] ["places"] (defScope s_missing_table_count):=⟨rfl,rfl,rfl,by decide +kernel,rfl,by decide +kernel,by decide +kernel⟩
theorem ok_missing_table_count (T:Txt K mg A):FnOk P w K mg base CX0 1 A.missing_table_count.1 A.missing_table_count.2 ["places"] spMissing:=by
 refine T.f_missing_table_count.f.ok sc_missing_table_count (fun vs H Q E h=>?_) (fun cdv A' outer s0 H vs Q E hr h=>?_)
 ·obtain⟨z,ps,rfl,_⟩:=h
  rfl
 ·obtain⟨z,ps,rfl,hz,hl,k⟩:=h
  refine⟨_,(pss_one (ps_ret (pe_op op_sub (pe_callB call_len_seq (by rfl) T.no_len boot_len (pa_cons (pe_globR rfl T.g_LEVELS) pa_nil)) (pe_callB call_len_seq (by rfl) T.no_len boot_len (pa_cons (pv 0) pa_nil))))),?_⟩
  refine⟨A.a_LEVELS,_,rfl,.inr (T.sq_LEVELS _),_,rfl,z,_,rfl,.inl (SqL.of hz),_,_,rfl,rfl,cv ?_ k⟩
  rw[il_len]
  show(4:Int) - _=_
  omega
theorem entry_ors {f flags:Nat} (hf:f<256) :
  (if flags &&& 4≠0 then(if flags &&& 2≠0 then(if flags &&& 1≠0 then f * 4096 ||| 1 ||| 2 else f * 4096 ||| 1) ||| 4 else(if flags &&& 1≠0 then f * 4096 ||| 1 ||| 2 else f * 4096 ||| 1)) ||| 9223372036854775808
   else(if flags &&& 2≠0 then(if flags &&& 1≠0 then f * 4096 ||| 1 ||| 2 else f * 4096 ||| 1) ||| 4 else(if flags &&& 1≠0 then f * 4096 ||| 1 ||| 2 else f * 4096 ||| 1)))=Sd19.entry f flags:=M.or_entry hf
def spEntry:Sp:=fun vs H Q _=>∃(f flags:Nat),vs=[.int (f:Int),.int (flags:Int)]∧f<256∧Q (.int ((Sd19.entry f flags:Nat):Int)) H
theorem sc_page_entry:FnScope ["frame","flags","entry"] ["frame","flags"] (defScope s_page_entry):=⟨rfl,rfl,rfl,by decide +kernel,rfl,by decide +kernel,by decide +kernel⟩
theorem ok_page_entry (T:Txt K mg A):FnOk P w K mg base CX0 1 A.page_entry.1 A.page_entry.2 ["frame","flags"] spEntry:=by
  refine T.f_page_entry.f.ok sc_page_entry (fun vs H Q E h=>?_) (fun cdv A' outer s0 H vs Q E hr h=>?_)
  · obtain⟨f,flags,rfl,_⟩:=h
    rfl
  · obtain⟨f,flags,rfl,hf,k⟩:=h
    refine⟨_,(pss_cons (ps_set (i:=2) sc_page_entry.nd rfl (Or.inl rfl) (pe_op op_or (pe_op op_mul (pv 0) (pe_globI rfl T.g_FRAME_SIZE)) (pe_globI rfl T.g_THERE)))
      (pss_cons (ps_if (pt_cmpR op_ne (pe_op op_and (pv 1) (pe_globI rfl T.g_TO_BE_WRITTEN)) pe_int (nomark _)) (pss_one (ps_set (i:=2) sc_page_entry.nd rfl (Or.inl rfl) (pe_op op_or (pv 2) (pe_globI rfl T.g_WRITABLE)))) pss_nil)
      (pss_cons (ps_if (pt_cmpR op_ne (pe_op op_and (pv 1) (pe_globI rfl T.g_FOR_THE_USER)) pe_int (nomark _)) (pss_one (ps_set (i:=2) sc_page_entry.nd rfl (Or.inl rfl) (pe_op op_or (pv 2) (pe_globI rfl T.g_USERS)))) pss_nil)
      (pss_cons (ps_if (pt_cmpR op_ne (pe_op op_and (pv 1) (pe_globI rfl T.g_NOT_TO_BE_EXECUTED)) pe_int (nomark _)) (pss_one (ps_set (i:=2) sc_page_entry.nd rfl (Or.inl rfl) (pe_op op_or (pv 2) (pe_globI rfl T.g_NOT_EXECUTED)))) pss_nil)
      (pss_one (ps_ret (pv 2))))))),?_⟩
    rw[←entry_ors (flags:=flags) hf]at k
    have b1:Builtin.bitOr ((f:Int) * 4096) 1=((f * 4096 ||| 1:Nat):Int):=by
      rw[show(f:Int) * 4096=((f * 4096:Nat):Int) by omega]
      exact bOr _ 1
    have s1:=say_int flags 1
    have s2:=say_int flags 2
    have s4:=say_int flags 4
    have t4:∀e:Nat,(if says 4 flags=true then Q (.int (Builtin.bitOr (e:Int) 9223372036854775808)) H else Q (.int (e:Int)) H)↔Q (.int (((if flags &&& 4≠0 then e ||| 9223372036854775808 else e:Nat):Nat):Int)) H:=by
      intro e
      by_cases c:flags &&& 4≠0
      · rw[if_pos (show says 4 flags=true from decide_eq_true c),if_pos c,show Builtin.bitOr (e:Int) 9223372036854775808=((e ||| 9223372036854775808:Nat):Int) from bOr e 9223372036854775808]
      · rw[if_neg (show ¬says 4 flags=true from fun z=>c (of_decide_eq_true z)),if_neg c]
    have fin4:∀e:Nat,Q (.int (((if flags &&& 4≠0 then e ||| 9223372036854775808 else e:Nat):Nat):Int)) H→(if says 4 flags=true then Q (.int (Builtin.bitOr (e:Int) 9223372036854775808)) H else Q (.int (e:Int)) H):=fun e h=>(t4 e).mpr h
    refine⟨_,rfl,_,_,rfl,rfl,.inr ⟨by decide,by decide⟩,_,_,rfl,rfl,?_⟩
    dsimp only
    rw[b1]
    refine⟨_,rfl,_,_,rfl,rfl,rfl,_,rfl,?_⟩
    have last:∀(e:Nat),Q (.int (((if flags &&& 4≠0 then e ||| 9223372036854775808 else e:Nat):Nat):Int)) H→if(!decide (V.int (Builtin.bitAnd (flags:Int) 4)=V.int 0))=true then Q (.int (Builtin.bitOr (e:Int) 9223372036854775808)) H else Q (.int (e:Int)) H:=by
      intro e h
      rw[show(!decide (V.int (Builtin.bitAnd (flags:Int) 4)=V.int 0))=says 4 flags from s4]
      exact fin4 e h
    refine ite2 (fun g1=>?_) (fun g1=>?_)
    · have g1':flags &&& 1≠0:=of_decide_eq_true (s1.symm.trans g1)
      rw[if_pos g1']at k
      refine⟨_,rfl,_,_,rfl,rfl,?_⟩
      have b2:Builtin.bitOr ((f * 4096 ||| 1:Nat):Int) 2=((f * 4096 ||| 1 ||| 2:Nat):Int):=bOr _ 2
      dsimp only
      rw[b2]
      generalize f * 4096 ||| 1 ||| 2=e at *
      refine⟨_,rfl,_,_,rfl,rfl,rfl,_,rfl,?_⟩
      refine ite2 (fun g2=>?_) (fun g2=>?_)
      · have g2':flags &&& 2≠0:=of_decide_eq_true (s2.symm.trans g2)
        rw[if_pos g2']at k
        refine⟨_,rfl,_,_,rfl,rfl,?_⟩
        have b3:Builtin.bitOr (e:Int) 4=((e ||| 4:Nat):Int):=bOr _ 4
        dsimp only
        rw[b3]
        have L:=last _ k
        refine⟨_,rfl,_,_,rfl,rfl,rfl,_,rfl,?_⟩
        refine ite2 (fun g3=>?_) (fun g3=>?_)
        · rw[if_pos g3]at L
          exact⟨_,rfl,_,_,rfl,rfl,_,rfl,L⟩
        · rw[if_neg g3]at L
          exact⟨_,rfl,L⟩
      · have g2':¬flags &&& 2≠0:=fun z=>g2 (s2.trans (decide_eq_true z))
        rw[if_neg g2']at k
        have L:=last _ k
        refine⟨_,rfl,_,_,rfl,rfl,rfl,_,rfl,?_⟩
        refine ite2 (fun g3=>?_) (fun g3=>?_)
        · rw[if_pos g3]at L
          exact⟨_,rfl,_,_,rfl,rfl,_,rfl,L⟩
        · rw[if_neg g3]at L
          exact⟨_,rfl,L⟩
    · have g1':¬flags &&& 1≠0:=fun z=>g1 (s1.trans (decide_eq_true z))
      rw[if_neg g1']at k
      generalize f * 4096 ||| 1=e at *
      refine⟨_,rfl,_,_,rfl,rfl,rfl,_,rfl,?_⟩
      refine ite2 (fun g2=>?_) (fun g2=>?_)
      · have g2':flags &&& 2≠0:=of_decide_eq_true (s2.symm.trans g2)
        rw[if_pos g2']at k
        refine⟨_,rfl,_,_,rfl,rfl,?_⟩
        have b3:Builtin.bitOr (e:Int) 4=((e ||| 4:Nat):Int):=bOr _ 4
        dsimp only
        rw[b3]
        have L:=last _ k
        refine⟨_,rfl,_,_,rfl,rfl,rfl,_,rfl,?_⟩
        refine ite2 (fun g3=>?_) (fun g3=>?_)
        · rw[if_pos g3]at L
          exact⟨_,rfl,_,_,rfl,rfl,_,rfl,L⟩
        · rw[if_neg g3]at L
          exact⟨_,rfl,L⟩
      · have g2':¬flags &&& 2≠0:=fun z=>g2 (s2.trans (decide_eq_true z))
        rw[if_neg g2']at k
        have L:=last _ k
        refine⟨_,rfl,_,_,rfl,rfl,rfl,_,rfl,?_⟩
        refine ite2 (fun g3=>?_) (fun g3=>?_)
        · rw[if_pos g3]at L
          exact⟨_,rfl,_,_,rfl,rfl,_,rfl,L⟩
        · rw[if_neg g3]at L
          exact⟨_,rfl,L⟩
theorem cut_levels {n:Nat} (h1:1≤n) (h4:n≤4):cutV [V.int 4,V.int 3,V.int 2,V.int 1] (some (n:Int)) none=([V.int 4,V.int 3,V.int 2,V.int 1]:List V).drop n:=by
 match n,h1,h4 with
 | 1,_,_=>rfl
 | 2,_,_=>rfl
 | 3,_,_=>rfl
 | 4,_,_=>rfl
theorem cut_get {n i:Nat} {x:V} (h:(([V.int 4,V.int 3,V.int 2,V.int 1]:List V).drop n)[i]? = some x):∃l,l<4∧n+i+l=3∧x=.int ((l+1:Nat):Int):=by
 rw[List.getElem?_drop]at h
 exact levels_get h
theorem bld_succ (addr k a:Nat) (s:Sd19.St) {f:Nat} {t:Sd19.St} (tk:M.Took s f t):M.bld addr (k+1) a s=M.bld addr k (Sd19.entryAt f (k+1) addr) (t.put a (4096 * f+7)):=by
 show(match s.take with|none=>none|some x=>M.bld addr k (Sd19.entryAt x.1 (k+1) addr) (x.2.put a (4096 * x.1+7)))=_
 rw[tk.eq]
def spBuild (C:Addr):Sp:=fun vs H Q _=>∃(p lw lc z:Addr) (s:Sd19.St) (addr a:Nat) (q:List Nat),vs=[.ref p,.ref z,.int (addr:Int)]∧MemAt C H p lw lc s∧H z=some (.lst (il (q++[a])))∧q.length<4∧3 - q.length≤M.freeN s∧a<1048576 ∧
 ∀(H':Hp) (a':Nat) (s':Sd19.St),M.bld addr (3 - q.length) a s=some (a',s')→a'<1048576→MemAt C H' p lw lc s'→Kp lw lc H H'→Q (.int (a':Int)) H'
theorem sc_build_tables:FnScope ["memory","places","addr","place","level","table"] ["memory","places","addr"] (defScope s_build_tables):=⟨rfl,rfl,rfl,by decide +kernel,rfl,by decide +kernel,by decide +kernel⟩
set_option maxHeartbeats 1000000 in
theorem ok_build_tables (T:Txt K mg A):FnOk P w K mg base CX0 3 A.build_tables.1 A.build_tables.2 ["memory","places","addr"] (spBuild A.C_Memory):=by
  refine T.f_build_tables.f.ok sc_build_tables (fun vs H Q E h=>?_) (fun cdv A' outer s0 H vs Q E hr h=>?_)
  · obtain⟨p,lw,lc,z,s,addr,a,q,rfl,_⟩:=h
    rfl
  · obtain⟨p,lw,lc,z,s,addr,a,q,rfl,B,hz,hq,hfr,ha,k⟩:=h
    refine⟨_,(pss_cons (ps_set (i:=3) sc_build_tables.nd rfl (Or.inl rfl) (pe_ix ix_list (pv 1) (pe_un un_neg pe_int) (fun _ _=>rfl)))
      (pss_cons (ps_for PassesOwn.never rfl (pi_tup (pe_slice sl_tup (pe_globR rfl T.g_LEVELS) (po_some (pe_callB call_len_seq (by rfl) T.no_len boot_len (pa_cons (pv 1) pa_nil))) po_none)) (pg_name (i:=4) sc_build_tables.nd rfl (Or.inl rfl)) (pss_cons (ps_set (i:=5) sc_build_tables.nd rfl (Or.inl rfl) (pe_op op_mul (pe_meth0 (pv 0) T.c_Memory T.f_take_frame.mt (ok_take_frame T) (hr.mono (by decide)) T.f_take_frame.b .nil pass0) (pe_globI rfl T.g_FRAME_SIZE)))
      (pss_cons (ps_expr (pe_meth (pv 0) T.c_Memory T.f_put_word.mt (ok_put_word T) (hr.mono (by decide)) T.f_put_word.b .nil pass0 (pa_cons (pv 3) (pa_cons (pe_op op_or (pe_op op_or (pe_op op_or (pv 5) (pe_globI rfl T.g_THERE)) (pe_globI rfl T.g_WRITABLE)) (pe_globI rfl T.g_USERS)) pa_nil))))
      (pss_one (ps_set (i:=3) sc_build_tables.nd rfl (Or.inl rfl) (pe_call (ok_entry_place T) (hr.mono (by decide)) rfl T.f_entry_place.m T.f_entry_place.f.kp T.f_entry_place.b .nil pass0 (pa_cons (pv 5) (pa_cons (pv 4) (pa_cons (pv 2) pa_nil)))))))))
      (pss_one (ps_ret (pv 3))))),?_⟩
    refine⟨_,rfl,_,rfl,z,_,_,.int (a:Int),rfl,rfl,SqL.of hz,(by rw[il_snoc];exact atI_last _ _),?_⟩
    have lq:(il (q++[a])).length=q.length+1:=by rw[il_len];simp
    refine⟨_,rfl,z,_,rfl,.inl (SqL.of hz),_,rfl,A.a_LEVELS,_,rfl,T.sq_LEVELS _,?_,fun tp htp=>?_⟩
    · rw[lq]
      rintro⟨h1,_⟩
      have:HT.sIx 4 0 (some ((q.length+1:Nat):Int))=0:=h1
      rw[HT.sIx_nat]at this
      omega
    rw[lq,cut_levels (by omega) (by omega)]
    refine⟨tp,rfl,⟨_,SqT.of upd_same⟩,?_⟩
    have hlen:(([V.int 4,V.int 3,V.int 2,V.int 1]:List V).drop (q.length+1)).length=3 - q.length:=by
      rw[List.length_drop]
      show 4 - (q.length+1)=_
      omega
    refine for_tup (K:=K) (a:=tp) (xs:=([V.int 4,V.int 3,V.int 2,V.int 1]:List V).drop (q.length+1))
      (fun i σ H'=>∃(a':Nat) (s':Sd19.St) (v4 v5:Option V),σ=[some (.ref p),some (.ref z),some (.int (addr:Int)),some (.int (a':Int)),v4,v5]∧MemAt A.C_Memory H' p lw lc s'∧Kp lw lc H H'∧H' tp=some (.tup (([V.int 4,V.int 3,V.int 2,V.int 1]:List V).drop (q.length+1))) ∧
        a'<1048576∧3 - q.length - i≤M.freeN s'∧M.bld addr (3 - q.length) a s=M.bld addr (3 - q.length - i) a' s')
      ⟨a,s,none,none,rfl,B.new htp,Kp.new htp,upd_same,ha,hfr,rfl⟩ (fun i σ H' _ ⟨_,_,_,_,_,_,_,ht,_⟩=>SqT.of ht) ?_ ?_
    · rintro i x σ H' hx ⟨a',s',v4,v5,rfl,B',kp,ht,ha',fr,eb⟩
      obtain⟨l,hl,hil,rfl⟩:=cut_get hx
      have er:3 - q.length - i=l+1:=by omega
      rw[er]at fr eb
      obtain⟨dx,ob⟩:=B'.ob
      refine⟨_,rfl,p,dx,_,rfl,ob,mf_no _ _ (by decide +kernel) (by decide +kernel),p,lw,lc,s',rfl,B',by omega,fun f t H2 tk B2 k2=>?_⟩
      refine⟨_,_,rfl,rfl,.inr ⟨by decide,by decide⟩,?_⟩
      have tlt:=tk.lt
      obtain⟨dx2,ob2⟩:=B2.ob
      have eo:V.int (Builtin.bitOr (Builtin.bitOr (Builtin.bitOr ((f:Int) * 4096) 1) 2) 4)=V.int ((4096 * f+7:Nat):Int):=by
        refine congrArg V.int ?_
        rw[show(f:Int) * 4096=((f * 4096:Nat):Int) by omega,show Builtin.bitOr ((f * 4096:Nat):Int) 1=((f * 4096 ||| 1:Nat):Int) from bOr _ 1,show Builtin.bitOr ((f * 4096 ||| 1:Nat):Int) 2=((f * 4096 ||| 1 ||| 2:Nat):Int) from bOr _ 2,
          show Builtin.bitOr ((f * 4096 ||| 1 ||| 2:Nat):Int) 4=((f * 4096 ||| 1 ||| 2 ||| 4:Nat):Int) from bOr _ 4,M.or_table]
      refine⟨_,rfl,p,dx2,_,rfl,ob2,mf_no _ _ (by decide +kernel) (by decide +kernel),_,rfl,_,rfl,_,_,rfl,rfl,_,_,rfl,rfl,_,_,rfl,rfl,p,lw,lc,t,a',4096 * f+7,congrArg (fun v=>[V.ref p,V.int (a':Int),v]) eo,B2,ha',by omega,fun H3 B3 k3=>?_⟩
      refine⟨_,rfl,_,rfl,_,rfl,4096 * f,l,addr,(by
        show [V.int ((f:Int) * 4096),V.int ((l+1:Nat):Int),V.int (addr:Int)]=_
        rw[show(f:Int) * 4096=((4096 * f:Nat):Int) by omega]),hl,?_⟩
      have kp3:=(kp.trans k2).trans k3
      have ntp:=B'.offo ht (fun _ e=>nomatch e)
      refine⟨Sd19.entryAt f (l+1) addr,t.put a' (4096 * f+7),_,_,rfl,B3,kp3,(k2.trans k3).keep _ _ ht ntp.1 ntp.2 trivial,M.entryAt_lt tlt,?_,?_⟩
      · have:=tk.n
        have e1:M.freeN (t.put a' (4096 * f+7))=M.freeN t:=rfl
        omega
      · rw[eb,bld_succ addr l a' s' tk,show 3 - q.length - (i+1)=l by omega]
    · rintro σ H' ⟨a',s',v4,v5,rfl,B',kp,ht,ha',fr,eb⟩
      rw[hlen,Nat.sub_self]at eb
      refine⟨_,rfl,?_⟩
      exact k H' a' s' eb ha' B' kp
end
end G
namespace G
open PySem PySem.Spec PyProof.Rows L2
structure WayF (s:Sd19.St) (root addr:Nat) (q:List Nat) (k a tk:Nat):Prop where
 we:M.WayEnd s addr 4 root (M.way s addr 4 root) k a tk
 eq:M.way s addr 4 root=q++[a]
 ql:q.length+k=3
 al:a<1048576
 tl:tk<256
 tu:s.used tk≠0
theorem way_f {s:Sd19.St} {root:Nat} {L3 L2 L1 pg:List Nat} (S:M.Snd s root L3 L2 L1 pg) (addr:Nat):∃q k a tk,WayF s root addr q k a tk:=by
 obtain⟨k,a,tk,W⟩:=M.way_end s addr 3 root
 obtain⟨q,hq⟩:=W.last
 have hl:=W.len
 rw[hq,List.length_append]at hl
 have hl':q.length+1+k=4:=hl
 obtain⟨l',t',lv,ea⟩:=M.way_lev S addr 3 root (.inl ⟨rfl,rfl⟩) a (by rw[hq];simp)
 have f1:=(M.entryAt_frame (t:=t') (level:=l'+1) (addr:=addr)).1
 have f2:=(M.entryAt_frame (t:=tk) (level:=k+1) (addr:=addr)).1
 rw[←ea]at f1
 rw[←W.at_]at f2
 have et:t'=tk:=f1.symm.trans f2
 have st:=S.lev lv
 rw[et]at st
 refine⟨q,k,a,tk,W,hq,by omega,by rw[W.at_];exact M.entryAt_lt st.1,st.1,by rw[st.2];decide⟩
theorem WayF.make {s:Sd19.St} {root addr k a tk:Nat} {q:List Nat} (F:WayF s root addr q k a tk) (hw:M.WF s) (h:Sd19.present s a=false):Sd19.make addr 4 root s=M.bld addr k a s:=by
 rw[F.we.make (.inr h),M.make_bld addr k tk s hw F.tl F.tu fun _=>by rw[←F.we.at_];exact h,←F.we.at_]
theorem WayF.has {s:Sd19.St} {root addr k a tk:Nat} {q:List Nat} (F:WayF s root addr q k a tk):Sd19.hasPage s root addr=Sd19.present s a:=M.has_last F.we
theorem give_1 (s:Sd19.St) (r addr flags:Nat) (h:Sd19.page addr=false∨7<flags):Sd19.step s (.give r addr flags)=(s,Sd19.no (-1)):=by
 show(if Sd19.page addr=false∨7<flags then _ else _)=_
 rw[if_pos h]
theorem give_3 (s:Sd19.St) (r addr flags:Nat) (h:¬(Sd19.page addr=false∨7<flags)) (h2:Sd19.hasPage s r addr=true):Sd19.step s (.give r addr flags)=(s,Sd19.no (-3)):=by
 show(if Sd19.page addr=false∨7<flags then _ else if Sd19.hasPage s r addr=true then _ else _)=_
 rw[if_neg h,if_pos h2]
theorem give_2 (s:Sd19.St) (r addr flags:Nat) (h:¬(Sd19.page addr=false∨7<flags)) (h2:¬Sd19.hasPage s r addr=true) (h3:Sd19.make addr 4 r s=none∨∃y,Sd19.make addr 4 r s=some y∧y.2.take=none):Sd19.step s (.give r addr flags)=(s,Sd19.no (-2)):=by
 show(if Sd19.page addr=false∨7<flags then _ else if Sd19.hasPage s r addr=true then _ else _)=_
 rw[if_neg h,if_neg h2]
 rcases h3 with e|⟨y,e,e2⟩
 ·rw[e]
 ·rw[e]
  simp only
  rw[e2]
theorem give_0 (s:Sd19.St) (r addr flags:Nat) (h:¬(Sd19.page addr=false∨7<flags)) (h2:¬Sd19.hasPage s r addr=true) {y x:Nat×Sd19.St} (e:Sd19.make addr 4 r s=some y) (e2:y.2.take=some x):Sd19.step s (.give r addr flags)=(x.2.put y.1 (Sd19.entry x.1 flags),Sd19.no (x.1:Int)):=by
 show(if Sd19.page addr=false∨7<flags then _ else if Sd19.hasPage s r addr=true then _ else _)=_
 rw[if_neg h,if_neg h2,e]
 simp only
 rw[e2]
def NoShare (s:Sd19.St) (addr f flags:Nat):Prop:=Sd19.page addr=false∨7<flags∨Sd19.FRAMES≤f∨s.used f=0∨65535≤s.used f
theorem share_1 (s:Sd19.St) (r addr f flags:Nat) (h:NoShare s addr f flags):Sd19.step s (.share r addr f flags)=(s,Sd19.no (-1)):=by
 unfold NoShare at h
 show(if Sd19.page addr=false∨7<flags∨Sd19.FRAMES≤f∨s.used f=0∨65535≤s.used f then _ else _)=_
 rw[if_pos h]
theorem share_3 (s:Sd19.St) (r addr f flags:Nat) (h:¬NoShare s addr f flags) (h2:Sd19.hasPage s r addr=true):Sd19.step s (.share r addr f flags)=(s,Sd19.no (-3)):=by
 unfold NoShare at h
 show(if Sd19.page addr=false∨7<flags∨Sd19.FRAMES≤f∨s.used f=0∨65535≤s.used f then _ else if Sd19.hasPage s r addr=true then _ else _)=_
 rw[if_neg h,if_pos h2]
theorem share_2 (s:Sd19.St) (r addr f flags:Nat) (h:¬NoShare s addr f flags) (h2:¬Sd19.hasPage s r addr=true) (h3:Sd19.make addr 4 r s=none):Sd19.step s (.share r addr f flags)=(s,Sd19.no (-2)):=by
 unfold NoShare at h
 show(if Sd19.page addr=false∨7<flags∨Sd19.FRAMES≤f∨s.used f=0∨65535≤s.used f then _ else if Sd19.hasPage s r addr=true then _ else _)=_
 rw[if_neg h,if_neg h2,h3]
theorem share_0 (s:Sd19.St) (r addr f flags:Nat) (h:¬NoShare s addr f flags) (h2:¬Sd19.hasPage s r addr=true) {y:Nat×Sd19.St} (e:Sd19.make addr 4 r s=some y):Sd19.step s (.share r addr f flags)=((y.2.put y.1 (Sd19.entry f flags)).uses f (y.2.used f+1),Sd19.no 0):=by
 unfold NoShare at h
 show(if Sd19.page addr=false∨7<flags∨Sd19.FRAMES≤f∨s.used f=0∨65535≤s.used f then _ else if Sd19.hasPage s r addr=true then _ else _)=_
 rw[if_neg h,if_neg h2,e]
section
variable {P:Program} {w:World} {K:PySem.W.Frag} {mg:Str→Option Value} {base:Heap} {A:Adr}
def spGive (C:Addr):Sp:=fun vs H Q _=>∃(p lw lc:Addr) (s:Sd19.St) (root addr flags:Nat),vs=[.ref p,.int (root:Int),.int (addr:Int),.int (flags:Int)]∧MemAt C H p lw lc s∧Sd19.sound s root=true∧addr<2 ^ 64∧DoneI C H p lw lc (Sd19.step s (.give root addr flags)) Q
theorem sc_give:FnScope ["memory","root","addr","flags","places","place","frame"] ["memory","root","addr","flags"] (defScope s_give):=⟨rfl,rfl,rfl,by decide +kernel,rfl,by decide +kernel,by decide +kernel⟩
set_option maxHeartbeats 1000000 in
theorem ok_give (T:Txt K mg A):FnOk P w K mg base CX0 4 A.give.1 A.give.2 ["memory","root","addr","flags"] (spGive A.C_Memory):=by
  refine T.f_give.f.ok sc_give (fun vs H Q E h=>?_) (fun cdv A' outer s0 H vs Q E hr h=>?_)
  · obtain⟨p,lw,lc,s,root,addr,flags,rfl,_⟩:=h
    rfl
  · obtain ⟨p, lw, lc, s, root, addr, flags, rfl, B, hs, ha, k⟩ := h
    obtain⟨L3,L2,L1,pg,S⟩:=M.snd_of hs
    obtain⟨q,n,a,tk,F⟩:=way_f S addr
    refine⟨_,(pss_cons (ps_if (PW.pt (pw_or (pt_not (pt_val (pe_call (ok_is_of_page T) (hr.mono (by decide)) rfl T.f_is_of_page.m T.f_is_of_page.f.kp T.f_is_of_page.b .nil pass0 (pa_cons (pv 2) pa_nil)))) (pw_or1 (pt_cmpR op_gt (pv 3) (pe_globI rfl T.g_MOST_FLAGS) (nomark _))))) (pss_one (ps_ret (pe_globI rfl T.g_REFUSED))) pss_nil)
      (pss_cons (ps_set (i:=4) sc_give.nd rfl (Or.inl rfl) (pe_call (ok_places_on_way T) (hr.mono (by decide)) rfl T.f_places_on_way.m T.f_places_on_way.f.kp T.f_places_on_way.b .nil pass0 (pa_cons (pv 0) (pa_cons (pv 1) (pa_cons (pv 2) pa_nil)))))
      (pss_cons (ps_if (pt_val (pe_call (ok_is_there T) (hr.mono (by decide)) rfl T.f_is_there.m T.f_is_there.f.kp T.f_is_there.b .nil pass0 (pa_cons (pe_meth (pv 0) T.c_Memory T.f_word_at.mt (ok_word_at T) (hr.mono (by decide)) T.f_word_at.b .nil pass0 (pa_cons (pe_ix ix_list (pv 4) (pe_un un_neg pe_int) (fun _ _=>rfl)) pa_nil)) pa_nil))) (pss_one (ps_ret (pe_globI rfl T.g_UNFIT_PAGE))) pss_nil)
      (pss_cons (ps_if (pt_cmpR op_lt (pe_meth0 (pv 0) T.c_Memory T.f_free_frame_count.mt (ok_free_frame_count T) (hr.mono (by decide)) T.f_free_frame_count.b .nil pass0) (pe_op op_add (pe_call (ok_missing_table_count T) (hr.mono (by decide)) rfl T.f_missing_table_count.m T.f_missing_table_count.f.kp T.f_missing_table_count.b .nil pass0 (pa_cons (pv 4) pa_nil)) pe_int) (nomark _)) (pss_one (ps_ret (pe_globI rfl T.g_TOO_FEW_FRAMES))) pss_nil)
      (pss_cons (ps_set (i:=5) sc_give.nd rfl (Or.inl rfl) (pe_call (ok_build_tables T) (hr.mono (by decide)) rfl T.f_build_tables.m T.f_build_tables.f.kp T.f_build_tables.b .nil pass0 (pa_cons (pv 0) (pa_cons (pv 4) (pa_cons (pv 2) pa_nil)))))
      (pss_cons (ps_set (i:=6) sc_give.nd rfl (Or.inl rfl) (pe_meth0 (pv 0) T.c_Memory T.f_take_frame.mt (ok_take_frame T) (hr.mono (by decide)) T.f_take_frame.b .nil pass0))
      (pss_cons (ps_expr (pe_meth (pv 0) T.c_Memory T.f_put_word.mt (ok_put_word T) (hr.mono (by decide)) T.f_put_word.b .nil pass0 (pa_cons (pv 5) (pa_cons (pe_call (ok_page_entry T) (hr.mono (by decide)) rfl T.f_page_entry.m T.f_page_entry.f.kp T.f_page_entry.b .nil pass0 (pa_cons (pv 6) (pa_cons (pv 3) pa_nil))) pa_nil))))
      (pss_one (ps_ret (pv 6)))))))))),?_⟩
    refine⟨_,rfl,addr,rfl,ha,fun H1 s1=>⟨_,rfl,?_⟩⟩
    have B1:=B.keep s1
    have k1:=k.kp (Same.kp s1)
    refine ite2 (fun g=>?_) (fun g=>?_)
    · refine iteT ?_
      have g':Sd19.page addr=false:=by simpa using g
      rw[give_1 s root addr flags (.inl g')]at k1
      exact k1 H1 B1 (Kp.refl _ _ _)
    · have g' : Sd19.page addr = true := by simpa using g
      refine⟨_,rfl,_,_,rfl,rfl,_,rfl,?_⟩
      refine ite2 (fun g2=>?_) (fun g2=>?_)
      · have g2':7<flags:=by
          have:(7:Int)<(flags:Int):=of_decide_eq_true g2
          omega
        rw[give_1 s root addr flags (.inr g2')]at k1
        exact k1 H1 B1 (Kp.refl _ _ _)
      · have g2':¬7<flags:=fun z=>g2 (decide_eq_true (by omega))
        have hno:¬(Sd19.page addr=false∨7<flags):=by
          rintro(z|z)
          · rw[g']at z;cases z
          · exact g2' z
        refine⟨_,rfl,_,rfl,_,rfl,p,lw,lc,s,root,addr,L3,L2,L1,pg,rfl,B1,S,fun H2 z hz nz s2=>?_⟩
        have B2:=B1.keep s2
        have k2:=k1.kp (Same.kp s2)
        rw[F.eq]at hz
        have al:=F.al
        obtain⟨dx,ob⟩:=B2.ob
        refine⟨_,rfl,p,dx,_,rfl,ob,mf_no _ _ (by decide +kernel) (by decide +kernel),_,rfl,_,rfl,z,_,_,.int (a:Int),rfl,rfl,SqL.of hz,(by rw[il_snoc];exact atI_last _ _),p,lw,lc,s,a,rfl,B2,al,_,rfl,_,rfl,?_⟩
        have hhas:=F.has
        refine ite2 (fun g3=>?_) (fun g3=>?_)
        · have g3':Sd19.present s a=true:=g3
          rw[give_3 s root addr flags hno (by rw[hhas];exact g3')]at k2
          exact k2 H2 B2 (Kp.refl _ _ _)
        · have g3':Sd19.present s a=false:=nf g3
          have mk:=F.make B.wf g3'
          have hn2:¬Sd19.hasPage s root addr=true:=by rw[hhas,g3'];decide
          have ql:=F.ql
          have lq:(q++[a]).length=q.length+1:=by simp
          refine⟨_,rfl,p,dx,_,rfl,ob,mf_no _ _ (by decide +kernel) (by decide +kernel),p,lw,lc,s,rfl,B2,_,rfl,z,q++[a],rfl,hz,by omega,_,_,rfl,rfl,_,_,rfl,rfl,_,rfl,?_⟩
          have e4:4 - (q++[a]).length=n:=by omega
          have e3:3 - q.length=n:=by omega
          refine ite2 (fun g4=>?_) (fun g4=>?_)
          · have g4':M.freeN s<n+1:=by
              have:((M.freeN s:Nat):Int)<((4 - (q++[a]).length:Nat):Int)+1:=of_decide_eq_true g4
              rw[e4]at this
              omega
            have e:Sd19.make addr 4 root s=none∨∃y,Sd19.make addr 4 root s=some y∧y.2.take=none:=by
              rw[mk]
              by_cases c:M.freeN s<n
              · exact .inl (M.bld_none addr n a s B.wf c)
              · obtain⟨a',s',e,w',n',_,_⟩:=M.bld_some addr n a s B.wf al (by omega)
                exact .inr ⟨(a',s'),e,M.take_none w' (show M.freeN s'=0 by omega)⟩
            rw[give_2 s root addr flags hno hn2 e]at k2
            exact k2 H2 B2 (Kp.refl _ _ _)
          · have g4':n+1≤M.freeN s:=by
              apply Decidable.byContradiction
              intro c
              apply g4
              apply decide_eq_true
              rw[e4]
              omega
            refine⟨_,rfl,_,rfl,_,rfl,p,lw,lc,z,s,addr,a,q,rfl,B2,hz,by omega,by omega,al,fun H3 a' s' eb al' B3 k3=>?_⟩
            rw[e3]at eb
            obtain⟨a2,s2',eb2,w',n',_,_⟩:=M.bld_some addr n a s B.wf al (by omega)
            rw[eb]at eb2
            cases eb2
            obtain⟨dx3,ob3⟩:=B3.ob
            refine⟨_,rfl,p,dx3,_,rfl,ob3,mf_no _ _ (by decide +kernel) (by decide +kernel),p,lw,lc,s',rfl,B3,by omega,fun f t H4 tk4 B4 k4=>?_⟩
            obtain⟨dx4,ob4⟩:=B4.ob
            refine⟨_,rfl,p,dx4,_,rfl,ob4,mf_no _ _ (by decide +kernel) (by decide +kernel),_,rfl,_,rfl,_,rfl,f,flags,rfl,tk4.lt,p,lw,lc,t,a',Sd19.entry f flags,rfl,B4,al',M.entry_lt tk4.lt,fun H5 B5 k5=>?_⟩
            refine⟨_,rfl,?_⟩
            rw[give_0 s root addr flags hno hn2 (mk.trans eb) tk4.eq]at k2
            exact k2 H5 B5 ((k3.trans k4).trans k5)
def spCan (C:Addr):Sp:=fun vs H Q _=>∃(p lw lc:Addr) (s:Sd19.St) (f:Nat),vs=[.ref p,.int (f:Int)]∧MemAt C H p lw lc s∧Q (.bl (decide (f<256∧0<s.used f∧s.used f<65535))) H
theorem sc_can_be_shared:FnScope ["memory","frame"] ["memory","frame"] (defScope s_can_be_shared):=⟨rfl,rfl,rfl,by decide +kernel,rfl,by decide +kernel,by decide +kernel⟩
theorem ok_can_be_shared (T:Txt K mg A):FnOk P w K mg base CX0 1 A.can_be_shared.1 A.can_be_shared.2 ["memory","frame"] (spCan A.C_Memory):=by
  refine T.f_can_be_shared.f.ok sc_can_be_shared (fun vs H Q E h=>?_) (fun cdv A' outer s0 H vs Q E hr h=>?_)
  · obtain⟨p,lw,lc,s,f,rfl,_⟩:=h
    rfl
  · obtain⟨p,lw,lc,s,f,rfl,B,k⟩:=h
    obtain⟨dx,ob⟩:=B.ob
    refine⟨_,(pss_one (ps_ret (pe_and (pe_cmpR op_lt (pv 1) (pe_globI rfl T.g_FRAME_COUNT) (nomark _)) (pe_one (pe_chain op_lt op_lt pe_int (pe_ix ix_list (pe_fld (pv 0) rfl) (pv 1) (fun _ _=>rfl)) (pe_globI rfl T.g_MOST_USES)))))),?_⟩
    refine⟨_,rfl,_,_,rfl,rfl,_,rfl,?_⟩
    refine ite2 (fun g=>?_) (fun g=>?_)
    · have g':f<256:=by
        have:(f:Int)<256:=of_decide_eq_true g
        omega
      refine⟨_,rfl,p,_,dx,_,_,rfl,ob,T.c_Memory,T.na_Memory_counts,mf_counts _ _,_,rfl,lc,_,_,_,rfl,rfl,SqL.of B.cs,atI_nat (cnt_at B.wf g'),_,_,rfl,rfl,_,rfl,?_⟩
      refine ite2 (fun g2=>?_) (fun g2=>?_)
      · have g2':0<s.used f:=by
          have:(0:Int)<((s.used f:Nat):Int):=of_decide_eq_true g2
          omega
        refine⟨_,_,rfl,rfl,cb ?_ k⟩
        by_cases h:s.used f<65535
        · rw[decide_eq_true (show f<256∧0<s.used f∧s.used f<65535 from⟨g',g2',h⟩)]
          exact decide_eq_true (by omega)
        · rw[decide_eq_false (show ¬(f<256∧0<s.used f∧s.used f<65535) from fun z=>h z.2.2)]
          exact decide_eq_false (by omega)
      · refine cb ?_ k
        exact(decide_eq_false (fun z=>g2 (decide_eq_true (by omega)))).symm
    · refine cb ?_ k
      rw[decide_eq_false (show ¬(f<256∧0<s.used f∧s.used f<65535) from fun z=>g (decide_eq_true (by omega)))]
def spShare (C:Addr):Sp:=fun vs H Q _=>∃(p lw lc:Addr) (s:Sd19.St) (root addr f flags:Nat),vs=[.ref p,.int (root:Int),.int (addr:Int),.int (f:Int),.int (flags:Int)]∧MemAt C H p lw lc s∧Sd19.sound s root=true∧addr<2 ^ 64∧DoneI C H p lw lc (Sd19.step s (.share root addr f flags)) Q
theorem sc_share:FnScope ["memory","root","addr","frame","flags","places","place"] ["memory","root","addr","frame","flags"] (defScope s_share):=⟨rfl,rfl,rfl,by decide +kernel,rfl,by decide +kernel,by decide +kernel⟩
set_option maxHeartbeats 1000000 in
theorem ok_share (T:Txt K mg A):FnOk P w K mg base CX0 4 A.share.1 A.share.2 ["memory","root","addr","frame","flags"] (spShare A.C_Memory):=by
  refine T.f_share.f.ok sc_share (fun vs H Q E h=>?_) (fun cdv A' outer s0 H vs Q E hr h=>?_)
  · obtain⟨p,lw,lc,s,root,addr,fr,flags,rfl,_⟩:=h
    rfl
  · obtain ⟨p, lw, lc, s, root, addr, fr, flags, rfl, B, hs, ha, k⟩ := h
    obtain⟨L3,L2,L1,pg,S⟩:=M.snd_of hs
    obtain⟨q,n,a,tk,F⟩:=way_f S addr
    refine⟨_,(pss_cons (ps_if (PW.pt (pw_or (pt_not (pt_val (pe_call (ok_is_of_page T) (hr.mono (by decide)) rfl T.f_is_of_page.m T.f_is_of_page.f.kp T.f_is_of_page.b .nil pass0 (pa_cons (pv 2) pa_nil)))) (pw_or (pt_cmpR op_gt (pv 4) (pe_globI rfl T.g_MOST_FLAGS) (nomark _)) (pw_or1 (pt_not (pt_val (pe_call (ok_can_be_shared T) (hr.mono (by decide)) rfl T.f_can_be_shared.m T.f_can_be_shared.f.kp T.f_can_be_shared.b .nil pass0 (pa_cons (pv 0) (pa_cons (pv 3) pa_nil))))))))) (pss_one (ps_ret (pe_globI rfl T.g_REFUSED))) pss_nil)
      (pss_cons (ps_set (i:=5) sc_share.nd rfl (Or.inl rfl) (pe_call (ok_places_on_way T) (hr.mono (by decide)) rfl T.f_places_on_way.m T.f_places_on_way.f.kp T.f_places_on_way.b .nil pass0 (pa_cons (pv 0) (pa_cons (pv 1) (pa_cons (pv 2) pa_nil)))))
      (pss_cons (ps_if (pt_val (pe_call (ok_is_there T) (hr.mono (by decide)) rfl T.f_is_there.m T.f_is_there.f.kp T.f_is_there.b .nil pass0 (pa_cons (pe_meth (pv 0) T.c_Memory T.f_word_at.mt (ok_word_at T) (hr.mono (by decide)) T.f_word_at.b .nil pass0 (pa_cons (pe_ix ix_list (pv 5) (pe_un un_neg pe_int) (fun _ _=>rfl)) pa_nil)) pa_nil))) (pss_one (ps_ret (pe_globI rfl T.g_UNFIT_PAGE))) pss_nil)
      (pss_cons (ps_if (pt_cmpR op_lt (pe_meth0 (pv 0) T.c_Memory T.f_free_frame_count.mt (ok_free_frame_count T) (hr.mono (by decide)) T.f_free_frame_count.b .nil pass0) (pe_call (ok_missing_table_count T) (hr.mono (by decide)) rfl T.f_missing_table_count.m T.f_missing_table_count.f.kp T.f_missing_table_count.b .nil pass0 (pa_cons (pv 5) pa_nil)) (nomark _)) (pss_one (ps_ret (pe_globI rfl T.g_TOO_FEW_FRAMES))) pss_nil)
      (pss_cons (ps_set (i:=6) sc_share.nd rfl (Or.inl rfl) (pe_call (ok_build_tables T) (hr.mono (by decide)) rfl T.f_build_tables.m T.f_build_tables.f.kp T.f_build_tables.b .nil pass0 (pa_cons (pv 0) (pa_cons (pv 5) (pa_cons (pv 2) pa_nil)))))
      (pss_cons (ps_expr (pe_meth (pv 0) T.c_Memory T.f_use_once_more.mt (ok_use_once_more T) (hr.mono (by decide)) T.f_use_once_more.b .nil pass0 (pa_cons (pv 3) pa_nil)))
      (pss_cons (ps_expr (pe_meth (pv 0) T.c_Memory T.f_put_word.mt (ok_put_word T) (hr.mono (by decide)) T.f_put_word.b .nil pass0 (pa_cons (pv 6) (pa_cons (pe_call (ok_page_entry T) (hr.mono (by decide)) rfl T.f_page_entry.m T.f_page_entry.f.kp T.f_page_entry.b .nil pass0 (pa_cons (pv 3) (pa_cons (pv 4) pa_nil))) pa_nil))))
      (pss_one (ps_ret (pe_globI rfl T.g_DONE)))))))))),?_⟩
    refine⟨_,rfl,addr,rfl,ha,fun H1 s1=>⟨_,rfl,?_⟩⟩
    have B1:=B.keep s1
    have k1:=k.kp (Same.kp s1)
    refine ite2 (fun g=>?_) (fun g=>?_)
    · refine iteT ?_
      have g':Sd19.page addr=false:=by simpa using g
      rw[share_1 s root addr fr flags (.inl g')]at k1
      exact k1 H1 B1 (Kp.refl _ _ _)
    · have g' : Sd19.page addr = true := by simpa using g
      refine⟨_,rfl,_,_,rfl,rfl,_,rfl,?_⟩
      refine ite2 (fun g2=>?_) (fun g2=>?_)
      · refine iteT ?_
        have g2':7<flags:=by
          have:(7:Int)<(flags:Int):=of_decide_eq_true g2
          omega
        rw[share_1 s root addr fr flags (.inr (.inl g2'))]at k1
        exact k1 H1 B1 (Kp.refl _ _ _)
      · have g2':¬7<flags:=fun z=>g2 (decide_eq_true (by omega))
        refine⟨_,rfl,_,rfl,p,lw,lc,s,fr,rfl,B1,_,rfl,?_⟩
        refine ite2 (fun g3=>?_) (fun g3=>?_)
        · have g3':¬(fr<256∧0<s.used fr∧s.used fr<65535):=fun z=>by
            rw[decide_eq_true z]at g3
            cases g3
          have:NoShare s addr fr flags:=by
            by_cases c1:fr<256
            · by_cases c2:s.used fr=0
              · exact .inr (.inr (.inr (.inl c2)))
              · refine .inr (.inr (.inr (.inr ?_)))
                apply Decidable.byContradiction
                intro c3
                exact g3' ⟨c1,by omega,by omega⟩
            · exact .inr (.inr (.inl (show 256≤fr by omega)))
          rw[share_1 s root addr fr flags this]at k1
          exact k1 H1 B1 (Kp.refl _ _ _)
        · have g3':fr<256∧0<s.used fr∧s.used fr<65535:=by
            apply Decidable.byContradiction
            intro z
            rw[decide_eq_false z]at g3
            exact g3 rfl
          have hno:¬NoShare s addr fr flags:=by
            rintro(z|z|z|z|z)
            · rw[g']at z;cases z
            · exact g2' z
            · have:256≤fr:=z
              omega
            · omega
            · omega
          refine⟨_,rfl,_,rfl,_,rfl,p,lw,lc,s,root,addr,L3,L2,L1,pg,rfl,B1,S,fun H2 z hz nz s2=>?_⟩
          have B2:=B1.keep s2
          have k2:=k1.kp (Same.kp s2)
          rw[F.eq]at hz
          have al:=F.al
          obtain⟨dx,ob⟩:=B2.ob
          refine⟨_,rfl,p,dx,_,rfl,ob,mf_no _ _ (by decide +kernel) (by decide +kernel),_,rfl,_,rfl,z,_,_,.int (a:Int),rfl,rfl,SqL.of hz,(by rw[il_snoc];exact atI_last _ _),p,lw,lc,s,a,rfl,B2,al,_,rfl,_,rfl,?_⟩
          have hhas:=F.has
          refine ite2 (fun g4=>?_) (fun g4=>?_)
          · have g4':Sd19.present s a=true:=g4
            rw[share_3 s root addr fr flags hno (by rw[hhas];exact g4')]at k2
            exact k2 H2 B2 (Kp.refl _ _ _)
          · have g4':Sd19.present s a=false:=nf g4
            have mk:=F.make B.wf g4'
            have hn2:¬Sd19.hasPage s root addr=true:=by rw[hhas,g4'];decide
            have ql:=F.ql
            have lq:(q++[a]).length=q.length+1:=by simp
            refine⟨_,rfl,p,dx,_,rfl,ob,mf_no _ _ (by decide +kernel) (by decide +kernel),p,lw,lc,s,rfl,B2,_,rfl,z,q++[a],rfl,hz,by omega,_,_,rfl,rfl,_,rfl,?_⟩
            have e4:4 - (q++[a]).length=n:=by omega
            have e3:3 - q.length=n:=by omega
            refine ite2 (fun g5=>?_) (fun g5=>?_)
            · have g5':M.freeN s<n:=by
                have:((M.freeN s:Nat):Int)<((4 - (q++[a]).length:Nat):Int):=of_decide_eq_true g5
                rw[e4]at this
                omega
              rw[share_2 s root addr fr flags hno hn2 (by rw[mk];exact M.bld_none addr n a s B.wf g5')]at k2
              exact k2 H2 B2 (Kp.refl _ _ _)
            · have g5':n≤M.freeN s:=by
                apply Decidable.byContradiction
                intro c
                apply g5
                apply decide_eq_true
                rw[e4]
                omega
              refine⟨_,rfl,_,rfl,_,rfl,p,lw,lc,z,s,addr,a,q,rfl,B2,hz,by omega,by omega,al,fun H3 a' s' eb al' B3 k3=>?_⟩
              rw[e3]at eb
              obtain⟨dx3,ob3⟩:=B3.ob
              refine⟨_,rfl,p,dx3,_,rfl,ob3,mf_no _ _ (by decide +kernel) (by decide +kernel),_,rfl,p,lw,lc,s',fr,rfl,B3,g3'.1,trivial,fun H4 B4 k4=>?_⟩
              obtain⟨dx4,ob4⟩:=B4.ob
              refine⟨_,rfl,p,dx4,_,rfl,ob4,mf_no _ _ (by decide +kernel) (by decide +kernel),_,rfl,_,rfl,_,rfl,fr,flags,rfl,g3'.1,p,lw,lc,_,a',Sd19.entry fr flags,rfl,B4,al',M.entry_lt g3'.1,fun H5 B5 k5=>?_⟩
              rw[share_0 s root addr fr flags hno hn2 (mk.trans eb)]at k2
              exact k2 H5 B5 ((k3.trans k4).trans k5)
end
end G
namespace G
open PySem PySem.Spec PyProof.Rows L2
def pis (l:List Nat):List PyData:=l.map fun(n:Nat)=>PyData.int (n:Int)
theorem dp_all (K:PySem.W.Frag) (H:Hp):∀l:List Nat,DpAll K H (il l) (pis l)
 | []=>.nil
 | n::l=>.cons (.int _) (dp_all K H l)
theorem dp_list {K:PySem.W.Frag} {H:Hp} {a:Addr} {l:List Nat} (h:H a=some (.lst (il l))):Dp K H (.ref a) (.list (pis l)):=.lst (SqL.of h) (dp_all K H l)
theorem pis_lay:∀l:List Nat,PyData.canLayAll0 (pis l)=true∧PyData.depthAll (pis l)=0
  | []=>⟨by simp[pis,PyData.canLayAll0],by simp[pis,PyData.depthAll]⟩
  | n::l=>by
    obtain⟨h1,h2⟩:=pis_lay l
    have e:pis (n::l)=PyData.int (n:Int)::pis l:=rfl
    rw[e]
    constructor
    · simp only[PyData.canLayAll0,PyData.canLay0,h1,Bool.and_self]
    · simp only[PyData.depthAll,PyData.depth,h2,Nat.max_self]
theorem pis_shaped (l:List Nat):SeqAt.shaped (.list (pis l))=true:=by
 obtain⟨h1,h2⟩:=pis_lay l
 unfold SeqAt.shaped
 rw[Bool.and_eq_true]
 constructor
 ·simp only[PyData.canLay0,h1]
 ·simp only[PyData.depth,h2]
  decide
theorem pis_eqv (l:List Nat):PyData.eqv (.list (pis l)) (.list (pis []))=decide (l=[]):=by
 cases l with
 | nil=>simp[pis,PyData.eqv,PyData.eqvAll]
 | cons n l=>simp[pis,PyData.eqv,PyData.eqvAll]
theorem mem_ext {m m':Sd19.Mem} (h:M.MOk m) (h':M.MOk m') (e:∀b,Sd19.load m b=Sd19.load m' b):m=m':=by
 have z1:=h.sz
 have z2:=h'.sz
 apply Array.ext
 ·rw[z1,z2]
 ·intro i h1 h2
  have q:=e (8 * i)
  unfold Sd19.load at q
  rw[show 8 * i / 8=i by omega]at q
  simp only[Array.getD_eq_getD_getElem?]at q
  simpa [h1,h2] using q
theorem back_1 (s:Sd19.St) (r addr:Nat) (h:Sd19.page addr=false):Sd19.step s (.takeBack r addr)=(s,Sd19.no (-1)):=by
 show(if Sd19.page addr=false then _ else _)=_
 rw[if_pos h]
theorem back_3 (s:Sd19.St) (r addr:Nat) (h:¬Sd19.page addr=false) (h2:Sd19.find s addr 4 r=none∨∃a,Sd19.find s addr 4 r=some a∧Sd19.present s a=false):Sd19.step s (.takeBack r addr)=(s,Sd19.no (-3)):=by
 show(if Sd19.page addr=false then _ else _)=_
 rw[if_neg h]
 rcases h2 with e|⟨a,e,e2⟩
 ·rw[e]
 ·rw[e]
  simp only
  rw[if_pos e2]
theorem back_0 (s:Sd19.St) (r addr:Nat) (h:¬Sd19.page addr=false) {a:Nat} (e:Sd19.find s addr 4 r=some a) (e2:¬Sd19.present s a=false):Sd19.step s (.takeBack r addr)=(Sd19.prune addr 4 r ((s.put a 0).less (Sd19.leads s a)),Sd19.no 0):=by
 show(if Sd19.page addr=false then _ else _)=_
 rw[if_neg h,e]
 simp only
 rw[if_neg e2]
section
variable {P:Program} {w:World} {K:PySem.W.Frag} {mg:Str→Option Value} {base:Heap} {A:Adr}
def spFreeT (C:Addr):Sp:=fun vs H Q _=>∃(p lw lc z:Addr) (s:Sd19.St) (a4 a3 a2 a1:Nat),vs=[.ref p,.ref z]∧MemAt C H p lw lc s∧H z=some (.lst (il [a4,a3,a2,a1]))∧a4<1048576∧a3<1048576∧a2<1048576∧a1<1048576 ∧
 ∀H',MemAt C H' p lw lc (M.prn s [(a1 / 4096,a2),(a2 / 4096,a3),(a3 / 4096,a4)])→Kp lw lc H H'→Q .non H'
theorem prs_get {a4 a3 a2 a1 i:Nat} (hi:i<3) (h4:a4<1048576) (h3:a3<1048576) (h2:a2<1048576) (h1:a1<1048576):∃x y:Nat,[(a1 / 4096,a2),(a2 / 4096,a3),(a3 / 4096,a4)].drop i=(x / 4096,y)::[(a1 / 4096,a2),(a2 / 4096,a3),(a3 / 4096,a4)].drop (i+1) ∧
  atI (il [a4,a3,a2,a1]) (3+(i:Nat) * (-1))=some (.int (x:Int))∧atI (il [a4,a3,a2,a1]) (3+(i:Nat) * (-1) - 1)=some (.int (y:Int))∧x<1048576∧y<1048576:=by
 match i,hi with
 | 0,_=>exact⟨a1,a2,rfl,rfl,rfl,h1,h2⟩
 | 1,_=>exact⟨a2,a3,rfl,rfl,rfl,h2,h3⟩
 | 2,_=>exact⟨a3,a4,rfl,rfl,rfl,h3,h4⟩
theorem prn_go {u:Sd19.St} {t y:Nat} {r:List (Nat×Nat)} (h:M.fill u.mem t=[]):M.prn u ((t,y)::r)=M.prn ((u.uses t 0).put y 0) r:=by
 show(if M.fill u.mem t=[]then M.prn ((u.uses t 0).put y 0) r else u)=_
 rw[if_pos h]
theorem prn_stop {u:Sd19.St} {t y:Nat} {r:List (Nat×Nat)} (h:¬M.fill u.mem t=[]):M.prn u ((t,y)::r)=u:=by
 show(if M.fill u.mem t=[]then M.prn ((u.uses t 0).put y 0) r else u)=_
 rw[if_neg h]
theorem sc_free_empty_tables:FnScope ["memory","places","k","table"] ["memory","places"] (defScope s_free_empty_tables):=⟨rfl,rfl,rfl,by decide +kernel,rfl,by decide +kernel,by decide +kernel⟩
set_option maxHeartbeats 1000000 in
theorem ok_free_empty_tables (T:Txt K mg A):FnOk P w K mg base CX0 2 A.free_empty_tables.1 A.free_empty_tables.2 ["memory","places"] (spFreeT A.C_Memory):=by
  refine T.f_free_empty_tables.f.ok sc_free_empty_tables (fun vs H Q E h=>?_) (fun cdv A' outer s0 H vs Q E hr h=>?_)
  · obtain⟨p,lw,lc,z,s,a4,a3,a2,a1,rfl,_⟩:=h
    rfl
  · obtain⟨p,lw,lc,z,s,a4,a3,a2,a1,rfl,B,hz,h4,h3,h2,h1,k⟩:=h
    refine⟨_,(pss_one (ps_for PassesOwn.never rfl (pi_range3 rfl T.no_range (pa_cons (pe_op op_sub (pe_callB call_len_seq (by rfl) T.no_len boot_len (pa_cons (pv 1) pa_nil)) pe_int) (pa_cons pe_int (pa_cons (pe_un un_neg pe_int) pa_nil)))) (pg_name (i:=2) sc_free_empty_tables.nd rfl (Or.inl rfl)) (pss_cons (ps_set (i:=3) sc_free_empty_tables.nd rfl (Or.inl rfl) (pe_op op_fdivW (pe_ix ix_list (pv 1) (pv 2) (fun _ _=>rfl)) (pe_globI rfl T.g_FRAME_SIZE)))
      (pss_cons (ps_if (pt_cmpR (op_neD hr.units) (pe_meth (pv 0) T.c_Memory T.f_filled_places.mt (ok_filled_places T) (hr.mono (by decide)) T.f_filled_places.b .nil pass0 (pa_cons (pv 3) pa_nil)) (pe_lst pa_nil) (nomark _)) (pss_one ps_retN) pss_nil)
      (pss_cons (ps_expr (pe_meth (pv 0) T.c_Memory T.f_set_free.mt (ok_set_free T) (hr.mono (by decide)) T.f_set_free.b .nil pass0 (pa_cons (pv 3) pa_nil)))
      (pss_one (ps_expr (pe_meth (pv 0) T.c_Memory T.f_put_word.mt (ok_put_word T) (hr.mono (by decide)) T.f_put_word.b .nil pass0 (pa_cons (pe_ix ix_list (pv 1) (pe_op op_sub (pv 2) pe_int) (fun _ _=>rfl)) (pa_cons pe_int pa_nil)))))))))),?_⟩
    have offz:=B.off hz (by show ¬(4=256);decide)
    refine⟨_,rfl,z,_,rfl,.inl (SqL.of hz),_,_,rfl,rfl,_,rfl,3,0,-1,3,rfl,RgC.neg (i:=3) (j:=0) (by decide) (by decide) (by decide) (by decide),?_⟩
    refine for_rangeC (fun i σ H'=>∃(u:Sd19.St) (v2 v3:Option V),σ=[some (.ref p),some (.ref z),v2,v3]∧MemAt A.C_Memory H' p lw lc u∧Kp lw lc H H' ∧
        M.prn s [(a1 / 4096,a2),(a2 / 4096,a3),(a3 / 4096,a4)]=M.prn u ([(a1 / 4096,a2),(a2 / 4096,a3),(a3 / 4096,a4)].drop i)) ⟨s,none,none,rfl,B,Kp.refl _ _ _,rfl⟩ ?_ ?_
    · rintro i σ H' hi ⟨u,v2,v3,rfl,B',kp,ep⟩
      obtain⟨x,y,ed,hx,hy,lx,ly⟩:=prs_get hi h4 h3 h2 h1
      rw[ed]at ep
      have hz':=kp.keep _ _ hz offz.1 offz.2 trivial
      refine⟨_,rfl,_,rfl,z,_,_,_,rfl,rfl,SqL.of hz',hx,_,_,rfl,rfl,⟨by decide,by decide⟩,?_⟩
      obtain⟨dx,ob⟩:=B'.ob
      have ex:(x:Int) / 4096=((x / 4096:Nat):Int):=by omega
      refine⟨_,rfl,p,dx,_,rfl,ob,mf_no _ _ (by decide +kernel) (by decide +kernel),_,rfl,p,lw,lc,u,x / 4096,congrArg (fun v=>[V.ref p,V.int v]) ex,B',by omega,fun H2 l hl nl s2=>?_⟩
      refine⟨(by show 0≤sizeLine;decide),fun l0 hl0=>?_⟩
      have nl0:l≠l0:=ne_of_none hl hl0
      have sm3:Same H' (upd H2 l0 (.lst [])):=s2.trans (Same.new hl0)
      have hl3:upd H2 l0 (.lst []) l=some (.lst (il (M.fill u.mem (x / 4096)))):=by rw[upd_ne nl0];exact hl
      have hl4:upd H2 l0 (.lst []) l0=some (.lst (il [])):=upd_same
      generalize upd H2 l0 (.lst [])=H3 at sm3 hl3 hl4
      refine⟨.list (pis (M.fill u.mem (x / 4096))),.list (pis []),dp_list hl3,dp_list hl4,pis_shaped _,pis_shaped _,_,rfl,?_⟩
      rw[pis_eqv]
      have B3:=B'.keep sm3
      have kp3:=kp.trans (Same.kp sm3)
      refine ite2 (fun g=>?_) (fun g=>?_)
      · have g':¬M.fill u.mem (x / 4096)=[]:=fun q=>by
          rw[decide_eq_true q]at g
          cases g
        rw[prn_stop g']at ep
        exact k H3 (by rw[ep];exact B3) kp3
      · have g':M.fill u.mem (x / 4096)=[]:=by
          apply Decidable.byContradiction
          intro q
          rw[decide_eq_false q]at g
          exact g rfl
        rw[prn_go g']at ep
        obtain⟨dx3,ob3⟩:=B3.ob
        refine⟨_,rfl,p,dx3,_,rfl,ob3,mf_no _ _ (by decide +kernel) (by decide +kernel),_,rfl,p,lw,lc,u,x / 4096,congrArg (fun v=>[V.ref p,V.int v]) ex,B3,by omega,trivial,fun H4 B4 k4=>?_⟩
        obtain⟨dx4,ob4⟩:=B4.ob
        have kp4:=kp3.trans k4
        have hz4:=kp4.keep _ _ hz offz.1 offz.2 trivial
        refine⟨_,rfl,p,dx4,_,rfl,ob4,mf_no _ _ (by decide +kernel) (by decide +kernel),_,rfl,_,rfl,_,_,rfl,rfl,z,_,_,_,rfl,rfl,SqL.of hz4,hy,p,lw,lc,_,y,0,rfl,B4,ly,by decide,fun H5 B5 k5=>?_⟩
        exact⟨_,_,_,rfl,B5,kp4.trans k5,ep⟩
    · rintro σ H' ⟨u,v2,v3,rfl,B',kp,ep⟩
      exact k H' (by rw[ep];exact B') kp
def spBack (C:Addr):Sp:=fun vs H Q _=>∃(p lw lc:Addr) (s:Sd19.St) (root addr:Nat),vs=[.ref p,.int (root:Int),.int (addr:Int)]∧MemAt C H p lw lc s∧Sd19.sound s root=true∧addr<2 ^ 64∧DoneI C H p lw lc (Sd19.step s (.takeBack root addr)) Q
theorem sc_take_back:FnScope ["memory","root","addr","places","entry"] ["memory","root","addr"] (defScope s_take_back):=⟨rfl,rfl,rfl,by decide +kernel,rfl,by decide +kernel,by decide +kernel⟩
set_option maxHeartbeats 1000000 in
theorem ok_take_back (T:Txt K mg A):FnOk P w K mg base CX0 4 A.take_back.1 A.take_back.2 ["memory","root","addr"] (spBack A.C_Memory):=by
  refine T.f_take_back.f.ok sc_take_back (fun vs H Q E h=>?_) (fun cdv A' outer s0 H vs Q E hr h=>?_)
  · obtain⟨p,lw,lc,s,root,addr,rfl,_⟩:=h
    rfl
  · obtain ⟨p, lw, lc, s, root, addr, rfl, B, hs, ha, k⟩ := h
    obtain⟨L3,L2,L1,pg,S⟩:=M.snd_of hs
    obtain⟨q,n,a,tk,F⟩:=way_f S addr
    refine⟨_,(pss_cons (ps_if (pt_not (pt_val (pe_call (ok_is_of_page T) (hr.mono (by decide)) rfl T.f_is_of_page.m T.f_is_of_page.f.kp T.f_is_of_page.b .nil pass0 (pa_cons (pv 2) pa_nil)))) (pss_one (ps_ret (pe_globI rfl T.g_REFUSED))) pss_nil)
      (pss_cons (ps_set (i:=3) sc_take_back.nd rfl (Or.inl rfl) (pe_call (ok_places_on_way T) (hr.mono (by decide)) rfl T.f_places_on_way.m T.f_places_on_way.f.kp T.f_places_on_way.b .nil pass0 (pa_cons (pv 0) (pa_cons (pv 1) (pa_cons (pv 2) pa_nil)))))
      (pss_cons (ps_set (i:=4) sc_take_back.nd rfl (Or.inl rfl) (pe_meth (pv 0) T.c_Memory T.f_word_at.mt (ok_word_at T) (hr.mono (by decide)) T.f_word_at.b .nil pass0 (pa_cons (pe_ix ix_list (pv 3) (pe_un un_neg pe_int) (fun _ _=>rfl)) pa_nil)))
      (pss_cons (ps_if (pt_not (pt_val (pe_call (ok_is_there T) (hr.mono (by decide)) rfl T.f_is_there.m T.f_is_there.f.kp T.f_is_there.b .nil pass0 (pa_cons (pv 4) pa_nil)))) (pss_one (ps_ret (pe_globI rfl T.g_UNFIT_PAGE))) pss_nil)
      (pss_cons (ps_expr (pe_meth (pv 0) T.c_Memory T.f_put_word.mt (ok_put_word T) (hr.mono (by decide)) T.f_put_word.b .nil pass0 (pa_cons (pe_ix ix_list (pv 3) (pe_un un_neg pe_int) (fun _ _=>rfl)) (pa_cons pe_int pa_nil))))
      (pss_cons (ps_expr (pe_meth (pv 0) T.c_Memory T.f_use_once_less.mt (ok_use_once_less T) (hr.mono (by decide)) T.f_use_once_less.b .nil pass0 (pa_cons (pe_call (ok_frame_led_to T) (hr.mono (by decide)) rfl T.f_frame_led_to.m T.f_frame_led_to.f.kp T.f_frame_led_to.b .nil pass0 (pa_cons (pv 4) pa_nil)) pa_nil)))
      (pss_cons (ps_expr (pe_call (ok_free_empty_tables T) (hr.mono (by decide)) rfl T.f_free_empty_tables.m T.f_free_empty_tables.f.kp T.f_free_empty_tables.b .nil pass0 (pa_cons (pv 0) (pa_cons (pv 3) pa_nil))))
      (pss_one (ps_ret (pe_globI rfl T.g_DONE)))))))))),?_⟩
    refine⟨_,rfl,addr,rfl,ha,fun H1 s1=>⟨_,rfl,?_⟩⟩
    have B1:=B.keep s1
    have k1:=k.kp (Same.kp s1)
    refine ite2 (fun g=>?_) (fun g=>?_)
    · have g':Sd19.page addr=false:=by simpa using g
      rw[back_1 s root addr g']at k1
      exact k1 H1 B1 (Kp.refl _ _ _)
    · have g':Sd19.page addr=true:=by simpa using g
      have hno:¬Sd19.page addr=false:=by rw[g'];decide
      refine⟨_,rfl,_,rfl,_,rfl,p,lw,lc,s,root,addr,L3,L2,L1,pg,rfl,B1,S,fun H2 z hz nz s2=>?_⟩
      have B2:=B1.keep s2
      have k2:=k1.kp (Same.kp s2)
      have hzw:=hz
      rw[F.eq]at hz
      have al:=F.al
      obtain⟨dx,ob⟩:=B2.ob
      refine⟨_,rfl,p,dx,_,rfl,ob,mf_no _ _ (by decide +kernel) (by decide +kernel),_,rfl,_,rfl,z,_,_,.int (a:Int),rfl,rfl,SqL.of hz,(by rw[il_snoc];exact atI_last _ _),p,lw,lc,s,a,rfl,B2,al,?_⟩
      refine⟨_,rfl,_,rfl,_,rfl,?_⟩
      refine ite2 (fun g2=>?_) (fun g2=>?_)
      · have g2':Sd19.present s a=false:=by
          show Sd19.bit (Sd19.load s.mem a) 0=false
          simpa using g2
        have e:Sd19.find s addr 4 root=none∨∃a,Sd19.find s addr 4 root=some a∧Sd19.present s a=false:=by
          have f:=F.we.find
          by_cases c:n=0
          · rw[if_pos c]at f
            exact .inr ⟨a,f,g2'⟩
          · rw[if_neg c]at f
            exact .inl f
        rw[back_3 s root addr hno e]at k2
        exact k2 H2 B2 (Kp.refl _ _ _)
      · have g2':Sd19.present s a=true:=by
          show Sd19.bit (Sd19.load s.mem a) 0=true
          simpa using g2
        have n0:n=0:=by
          apply Decidable.byContradiction
          intro c
          have:=F.we.abs c
          rw[g2']at this
          cases this
        have ff:Sd19.find s addr 4 root=some a:=by
          rw[F.we.find,if_pos n0]
        obtain⟨t3,t2,t1,Pt,ea,ew⟩:=M.path_of ff
        obtain⟨l3,l2,l1⟩:=Pt.levs S
        have ap:=S.apart4 l3 l2 l1
        have hp1:=S.page l1 (addr:=addr) (by rw[←ea];exact g2')
        rw[←ea]at hp1
        have offz:=B2.off hz (by rw[il_len];have:=F.ql;simp;omega)
        refine⟨_,rfl,p,dx,_,rfl,ob,mf_no _ _ (by decide +kernel) (by decide +kernel),_,rfl,_,rfl,z,_,_,.int (a:Int),rfl,rfl,SqL.of hz,(by rw[il_snoc];exact atI_last _ _),p,lw,lc,s,a,0,rfl,B2,al,by decide,fun H3 B3 k3=>?_⟩
        obtain⟨dx3,ob3⟩:=B3.ob
        refine⟨_,rfl,p,dx3,_,rfl,ob3,mf_no _ _ (by decide +kernel) (by decide +kernel),_,rfl,_,rfl,p,lw,lc,_,Sd19.leads s a,rfl,B3,hp1.1,?_,fun H4 B4 k4=>?_⟩
        · show s.used (Sd19.leads s a)≠0
          have:=hp1.2.2
          omega
        have kp4:=k3.trans k4
        have hz4:H4 z=some (.lst (il [Sd19.entryAt root 4 addr,Sd19.entryAt t3 3 addr,Sd19.entryAt t2 2 addr,Sd19.entryAt t1 1 addr])):=by
          rw[kp4.keep _ _ hz offz.1 offz.2 trivial,←F.eq,ew]
        refine⟨_,rfl,_,rfl,p,lw,lc,z,_,_,_,_,_,rfl,B4,hz4,M.entryAt_lt S.t4.1,M.entryAt_lt (S.t3 l3).1,M.entryAt_lt (S.t2 l2).1,M.entryAt_lt (S.t1 l1).1,fun H5 B5 k5=>?_⟩
        rw[back_0 s root addr hno ff (by rw[g2'];decide)]at k2
        refine k2 H5 ?_ (kp4.trans k5)
        have wfu:M.WF ((s.put a 0).less (Sd19.leads s a)):=B4.wf
        have Pb:M.Path ((s.put a 0).less (Sd19.leads s a)) root addr t3 t2 t1:=by
          rw[ea]
          exact Pt.back B.wf (S.t1 l1).1 ⟨ap.2.2.1,ap.2.2.2.2.1,ap.2.2.2.2.2⟩
        have ep:=M.prune_as (s:=s) wfu Pb ⟨S.t4.1,(S.t3 l3).1,(S.t2 l2).1,(S.t1 l1).1⟩ ap
        have f1:=(M.entryAt_frame (t:=t1) (level:=1) (addr:=addr)).1
        have f2:=(M.entryAt_frame (t:=t2) (level:=2) (addr:=addr)).1
        have f3:=(M.entryAt_frame (t:=t3) (level:=3) (addr:=addr)).1
        rw[f1,f2,f3]at B5
        rw[ep]
        exact B5
theorem bit9_int (e:Nat):decide (V.int (Builtin.bitAnd (e:Int) 512)=V.int 0)=!Sd19.bit e 9:=by
 have h:=and_ne e 512 (M.and_pow e 9)
 rw[←h,Bool.not_not]
 rfl
theorem free_of {s t:Sd19.St} {f:Nat} (tk:M.Took s f t):s.free=some f:=by
  have e:=tk.eq
  unfold Sd19.St.take at e
  cases q:s.free with
  | none=>rw[q]at e;cases e
  | some g =>
    rw[q,Option.map_some]at e
    cases e
    rfl
theorem touch_1 (s:Sd19.St) (r addr:Nat) (h:Sd19.canonical addr=false):Sd19.step s (.touch r addr)=(s,Sd19.no (-1)):=by
 show(if Sd19.canonical addr=false then _ else _)=_
 rw[if_pos h]
theorem touch_e (s:Sd19.St) (r addr:Nat) (h:¬Sd19.canonical addr=false):Sd19.step s (.touch r addr)=Sd19.touched s r addr:=by
 show(if Sd19.canonical addr=false then _ else _)=_
 rw[if_neg h]
theorem touched_3 (s:Sd19.St) (r addr:Nat) (h:Sd19.find s addr 4 r=none∨∃a,Sd19.find s addr 4 r=some a∧(Sd19.bit (Sd19.load s.mem a) 0=false∨Sd19.bit (Sd19.load s.mem a) 9=false)):Sd19.touched s r addr=(s,Sd19.no (-3)):=by
 unfold Sd19.touched
 rcases h with e|⟨a,e,e2⟩
 ·rw[e]
 ·rw[e]
  simp only
  rw[if_pos e2]
theorem touched_s (s:Sd19.St) (r addr:Nat) {a:Nat} (e:Sd19.find s addr 4 r=some a) (e2:¬(Sd19.bit (Sd19.load s.mem a) 0=false∨Sd19.bit (Sd19.load s.mem a) 9=false)):Sd19.touched s r addr =
  if s.used (Sd19.base (Sd19.load s.mem a) / 4096)=1 then(s.put a (Sd19.clearBit (Sd19.setBit (Sd19.load s.mem a) 1) 9),Sd19.no 0)
  else match s.free with
   | none=>(s,Sd19.no (-2))
   | some g=>(((({ s with mem:=Sd19.filled s.mem g fun(i:Nat)=>Sd19.load s.mem (4096 * (Sd19.base (Sd19.load s.mem a) / 4096)+8 * i) }:Sd19.St).uses g 1).less (Sd19.base (Sd19.load s.mem a) / 4096)).put a (Sd19.clearBit (Sd19.setBit (Sd19.load s.mem a) 1) 9 - 4096 * (Sd19.base (Sd19.load s.mem a) / 4096)+4096 * g),Sd19.no 1):=by
 unfold Sd19.touched
 rw[e]
 simp only
 rw[if_neg e2]
 by_cases h:s.used (Sd19.base (Sd19.load s.mem a) / 4096)=1
 ·rw[if_pos h,if_pos h]
 ·rw[if_neg h,if_neg h]
  cases s.free<;>rfl
theorem used_mk (m:Sd19.Mem) (t:Sd19.St) (f:Nat):(⟨m,t.count⟩:Sd19.St).used f=t.used f:=rfl
def spTouch (C:Addr):Sp:=fun vs H Q _=>∃(p lw lc:Addr) (s:Sd19.St) (root addr:Nat),vs=[.ref p,.int (root:Int),.int (addr:Int)]∧MemAt C H p lw lc s∧Sd19.sound s root=true∧addr<2 ^ 64∧DoneI C H p lw lc (Sd19.step s (.touch root addr)) Q
theorem eq1 (n:Nat):decide (V.int (n:Int)=V.int 1)=decide (n=1):=by
 by_cases h:n=1
 ·subst h;rfl
 ·rw[decide_eq_false h,decide_eq_false (by intro e;injection e with e;omega)]
theorem sc_touch:FnScope ["memory","root","addr","place","entry","page","own_page"] ["memory","root","addr"] (defScope s_touch):=⟨rfl,rfl,rfl,by decide +kernel,rfl,by decide +kernel,by decide +kernel⟩
set_option maxHeartbeats 1000000 in
theorem ok_touch (T:Txt K mg A):FnOk P w K mg base CX0 4 A.touch.1 A.touch.2 ["memory","root","addr"] (spTouch A.C_Memory):=by
  refine T.f_touch.f.ok sc_touch (fun vs H Q E h=>?_) (fun cdv A' outer s0 H vs Q E hr h=>?_)
  · obtain⟨p,lw,lc,s,root,addr,rfl,_⟩:=h
    rfl
  · obtain ⟨p, lw, lc, s, root, addr, rfl, B, hs, ha, k⟩ := h
    obtain⟨L3,L2,L1,pg,S⟩:=M.snd_of hs
    obtain⟨q,n,a,tk,F⟩:=way_f S addr
    refine⟨_,(pss_cons (ps_if (pt_val (pe_call (ok_is_none T) (hr.mono (by decide)) rfl T.f_is_none.m T.f_is_none.f.kp T.f_is_none.b .nil pass0 (pa_cons (pv 2) pa_nil))) (pss_one (ps_ret (pe_globI rfl T.g_REFUSED))) pss_nil)
      (pss_cons (ps_set (i:=3) sc_touch.nd rfl (Or.inl rfl) (pe_ix ix_list (pe_call (ok_places_on_way T) (hr.mono (by decide)) rfl T.f_places_on_way.m T.f_places_on_way.f.kp T.f_places_on_way.b .nil pass0 (pa_cons (pv 0) (pa_cons (pv 1) (pa_cons (pv 2) pa_nil)))) (pe_un un_neg pe_int) (fun _ _=>rfl)))
      (pss_cons (ps_set (i:=4) sc_touch.nd rfl (Or.inl rfl) (pe_meth (pv 0) T.c_Memory T.f_word_at.mt (ok_word_at T) (hr.mono (by decide)) T.f_word_at.b .nil pass0 (pa_cons (pv 3) pa_nil)))
      (pss_cons (ps_if (PW.pt (pw_or (pt_not (pt_val (pe_call (ok_is_there T) (hr.mono (by decide)) rfl T.f_is_there.m T.f_is_there.f.kp T.f_is_there.b .nil pass0 (pa_cons (pv 4) pa_nil)))) (pw_or1 (pt_cmpR op_eq (pe_op op_and (pv 4) (pe_globI rfl T.g_COPIED_WHEN_WRITTEN)) pe_int (nomark _))))) (pss_one (ps_ret (pe_globI rfl T.g_UNFIT_PAGE))) pss_nil)
      (pss_cons (ps_set (i:=5) sc_touch.nd rfl (Or.inl rfl) (pe_call (ok_frame_led_to T) (hr.mono (by decide)) rfl T.f_frame_led_to.m T.f_frame_led_to.f.kp T.f_frame_led_to.b .nil pass0 (pa_cons (pv 4) pa_nil)))
      (pss_cons (ps_if (pt_cmpR op_eq (pe_ix ix_list (pe_fld (pv 0) rfl) (pv 5) (fun _ _=>rfl)) pe_int (nomark _)) (pss_cons (ps_expr (pe_meth (pv 0) T.c_Memory T.f_put_word.mt (ok_put_word T) (hr.mono (by decide)) T.f_put_word.b .nil pass0 (pa_cons (pv 3) (pa_cons (pe_call (ok_let_be_written T) (hr.mono (by decide)) rfl T.f_let_be_written.m T.f_let_be_written.f.kp T.f_let_be_written.b .nil pass0 (pa_cons (pv 4) pa_nil)) pa_nil))))
      (pss_one (ps_ret (pe_globI rfl T.g_DONE)))) pss_nil)
      (pss_cons (ps_if (pt_cmpR op_eq (pe_meth0 (pv 0) T.c_Memory T.f_free_frame_count.mt (ok_free_frame_count T) (hr.mono (by decide)) T.f_free_frame_count.b .nil pass0) pe_int (nomark _)) (pss_one (ps_ret (pe_globI rfl T.g_TOO_FEW_FRAMES))) pss_nil)
      (pss_cons (ps_set (i:=6) sc_touch.nd rfl (Or.inl rfl) (pe_meth0 (pv 0) T.c_Memory T.f_take_frame.mt (ok_take_frame T) (hr.mono (by decide)) T.f_take_frame.b .nil pass0))
      (pss_cons (ps_expr (pe_meth (pv 0) T.c_Memory T.f_copy_words.mt (ok_copy_words T) (hr.mono (by decide)) T.f_copy_words.b .nil pass0 (pa_cons (pv 5) (pa_cons (pv 6) pa_nil))))
      (pss_cons (ps_expr (pe_meth (pv 0) T.c_Memory T.f_use_once_less.mt (ok_use_once_less T) (hr.mono (by decide)) T.f_use_once_less.b .nil pass0 (pa_cons (pv 5) pa_nil)))
      (pss_cons (ps_expr (pe_meth (pv 0) T.c_Memory T.f_put_word.mt (ok_put_word T) (hr.mono (by decide)) T.f_put_word.b .nil pass0 (pa_cons (pv 3) (pa_cons (pe_call (ok_let_be_written T) (hr.mono (by decide)) rfl T.f_let_be_written.m T.f_let_be_written.f.kp T.f_let_be_written.b .nil pass0 (pa_cons (pe_call (ok_leading_to T) (hr.mono (by decide)) rfl T.f_leading_to.m T.f_leading_to.f.kp T.f_leading_to.b .nil pass0 (pa_cons (pv 6) (pa_cons (pv 4) pa_nil))) pa_nil)) pa_nil))))
      (pss_one (ps_ret (pe_globI rfl T.g_MOVED)))))))))))))),?_⟩
    refine⟨_,rfl,addr,rfl,ha,fun H1 s1=>⟨_,rfl,?_⟩⟩
    have B1:=B.keep s1
    have k1:=k.kp (Same.kp s1)
    refine ite2 (fun g=>?_) (fun g=>?_)
    · have g':Sd19.canonical addr=false:=by simpa using g
      rw[touch_1 s root addr g']at k1
      exact k1 H1 B1 (Kp.refl _ _ _)
    · have g' : Sd19.canonical addr = true := by simpa using g
      have hno:¬Sd19.canonical addr=false:=by rw[g'];decide
      rw[touch_e s root addr hno]at k1
      refine⟨_,rfl,_,rfl,_,rfl,p,lw,lc,s,root,addr,L3,L2,L1,pg,rfl,B1,S,fun H2 z hz nz s2=>?_⟩
      have B2:=B1.keep s2
      have k2:=k1.kp (Same.kp s2)
      rw[F.eq]at hz
      have al:=F.al
      obtain⟨dx,ob⟩:=B2.ob
      refine⟨_,rfl,z,_,_,.int (a:Int),rfl,rfl,SqL.of hz,(by rw[il_snoc];exact atI_last _ _),?_⟩
      refine⟨_,rfl,p,dx,_,rfl,ob,mf_no _ _ (by decide +kernel) (by decide +kernel),_,rfl,p,lw,lc,s,a,rfl,B2,al,?_⟩
      have e64:=B.wf.m.load a
      refine⟨_,rfl,_,rfl,_,rfl,?_⟩
      have miss:(Sd19.bit (Sd19.load s.mem a) 0=false∨Sd19.bit (Sd19.load s.mem a) 9=false)→Sd19.touched s root addr=(s,Sd19.no (-3)):=by
        intro h
        apply touched_3
        have f:=F.we.find
        by_cases c:n=0
        · rw[if_pos c]at f
          exact .inr ⟨a,f,h⟩
        · rw[if_neg c]at f
          exact .inl f
      refine ite2 (fun g2=>?_) (fun g2=>?_)
      · refine iteT ?_
        have g2':Sd19.bit (Sd19.load s.mem a) 0=false:=by simpa using g2
        rw[miss (.inl g2')]at k2
        exact k2 H2 B2 (Kp.refl _ _ _)
      · have g2':Sd19.bit (Sd19.load s.mem a) 0=true:=by simpa using g2
        refine⟨_,rfl,_,_,rfl,rfl,rfl,_,rfl,?_⟩
        have b9:=bit9_int (Sd19.load s.mem a)
        refine ite2 (fun g3=>?_) (fun g3=>?_)
        · have g3':Sd19.bit (Sd19.load s.mem a) 9=false:=by
            have:=b9.symm.trans g3
            simpa using this
          rw[miss (.inr g3')]at k2
          exact k2 H2 B2 (Kp.refl _ _ _)
        · have g3':Sd19.bit (Sd19.load s.mem a) 9=true:=by
            have:=b9.symm.trans (nf g3)
            simpa using this
          have pa:Sd19.present s a=true:=g2'
          have n0:n=0:=by
            apply Decidable.byContradiction
            intro c
            have:=F.we.abs c
            rw[pa]at this
            cases this
          have ff:Sd19.find s addr 4 root=some a:=by
            rw[F.we.find,if_pos n0]
          rw[touched_s s root addr ff (by rw[g2',g3'];decide)]at k2
          obtain⟨t3,t2,t1,Pt,ea,ew⟩:=M.path_of ff
          obtain⟨l3,l2,l1⟩:=Pt.levs S
          have hp1:=S.page l1 (addr:=addr) (by rw[←ea];exact pa)
          rw[←ea]at hp1
          have el:Sd19.leads s a=Sd19.base (Sd19.load s.mem a) / 4096:=rfl
          rw[el]at hp1
          refine⟨_,rfl,_,rfl,?_⟩
          generalize hf:Sd19.base (Sd19.load s.mem a) / 4096=f at *
          refine⟨_,rfl,p,_,dx,_,_,rfl,ob,T.c_Memory,T.na_Memory_counts,mf_counts _ _,_,rfl,lc,_,_,_,rfl,rfl,SqL.of B2.cs,atI_nat (cnt_at B.wf hp1.1),rfl,_,rfl,?_⟩
          have u1:=eq1 (s.used f)
          refine ite2 (fun g4=>?_) (fun g4=>?_)
          · have g4':s.used f=1:=of_decide_eq_true (u1.symm.trans g4)
            rw[if_pos g4']at k2
            refine⟨_,rfl,p,dx,_,rfl,ob,mf_no _ _ (by decide +kernel) (by decide +kernel),_,rfl,_,rfl,_,rfl,p,lw,lc,s,a,_,rfl,B2,al,M.touched_lt e64,fun H3 B3 k3=>?_⟩
            exact k2 H3 B3 k3
          · have g4':¬s.used f=1:=fun c=>g4 (u1.trans (decide_eq_true c))
            rw[if_neg g4']at k2
            refine⟨_,rfl,p,dx,_,rfl,ob,mf_no _ _ (by decide +kernel) (by decide +kernel),p,lw,lc,s,rfl,B2,rfl,_,rfl,?_⟩
            refine ite2 (fun g5=>?_) (fun g5=>?_)
            · have g5':M.freeN s=0:=of_decide_eq_true ((eq0 _).symm.trans g5)
              have fr:s.free=none:=by
                rcases M.free_spec B.wf with⟨_,h⟩|⟨_,_,_,_,_,h⟩
                · exact h
                · omega
              rw[fr]at k2
              exact k2 H2 B2 (Kp.refl _ _ _)
            · have g5':M.freeN s≠0:=fun c=>g5 ((eq0 _).trans (decide_eq_true c))
              refine⟨_,rfl,p,dx,_,rfl,ob,mf_no _ _ (by decide +kernel) (by decide +kernel),p,lw,lc,s,rfl,B2,g5',fun gg t H3 tk3 B3 k3=>?_⟩
              rw[free_of tk3]at k2
              have hfg:gg≠f:=fun c=>by
                have:=tk3.zero
                rw[c]at this
                have:=hp1.2.2
                omega
              obtain⟨dx3,ob3⟩:=B3.ob
              refine⟨_,rfl,p,dx3,_,rfl,ob3,mf_no _ _ (by decide +kernel) (by decide +kernel),_,rfl,_,rfl,p,lw,lc,t,f,gg,rfl,B3,hp1.1,tk3.lt,fun H4 B4 k4=>?_⟩
              have e2:Sd19.filled t.mem gg (fun i=>Sd19.load t.mem (4096 * f+8 * i))=Sd19.filled s.mem gg (fun i=>Sd19.load s.mem (4096 * f+8 * i)):=by
                refine mem_ext (M.filled_ok tk3.wf.m _ _) (M.filled_ok B.wf.m _ _) fun b=>?_
                rw[M.load_filled tk3.wf.m gg tk3.lt,M.load_filled B.wf.m gg tk3.lt]
                by_cases c:b / 4096=gg
                · rw[if_pos c,if_pos c,tk3.load,if_neg (by omega)]
                · rw[if_neg c,if_neg c,tk3.load,if_neg c]
              rw[e2]at B4
              clear e2
              dsimp only at k2
              generalize Sd19.filled s.mem gg (fun(i:Nat)=>Sd19.load s.mem (4096 * f+8 * i))=mm at B4 k2
              obtain⟨dx4,ob4⟩:=B4.ob
              refine⟨_,rfl,p,dx4,_,rfl,ob4,mf_no _ _ (by decide +kernel) (by decide +kernel),_,rfl,p,lw,lc,_,f,rfl,B4,hp1.1,?_,fun H5 B5 k5=>?_⟩
              · dsimp only
                rw[used_mk,tk3.used,if_neg hfg]
                have:=hp1.2.2
                omega
              obtain⟨dx5,ob5⟩:=B5.ob
              refine⟨_,rfl,p,dx5,_,rfl,ob5,mf_no _ _ (by decide +kernel) (by decide +kernel),_,rfl,_,rfl,_,rfl,gg,_,rfl,tk3.lt,_,rfl,p,lw,lc,_,a,_,rfl,B5,al,M.touched_lt (M.lead_lt _ _ e64 tk3.lt),fun H6 B6 k6=>?_⟩
              refine k2 H6 ?_ (((k3.trans k4).trans k5).trans k6)
              have e1:Sd19.clearBit (Sd19.setBit (Sd19.load s.mem a % 4096+Sd19.load s.mem a / 2 ^ 52 * 2 ^ 52+4096 * gg) 1) 9=Sd19.clearBit (Sd19.setBit (Sd19.load s.mem a) 1) 9 - 4096 * f+4096 * gg:=by
                rcases M.move_entry (Sd19.load s.mem a) gg with h|h
                · rw[h,hf]
                · exact absurd (Nat.lt_of_lt_of_le tk3.lt (by decide)) h
              have e3:t.count=s.count.setIfInBounds gg 1:=tk3.cnt
              rw[e1,e3]at B6
              exact B6
end
end G
namespace G
open PySem PySem.Spec PyProof.Rows L2
theorem fill_len (m:Sd19.Mem) (f:Nat):(M.fill m f).length≤512:=by
 unfold M.fill
 refine Nat.le_trans (List.length_filter_le _ _) ?_
 simp
theorem fill_lt {m:Sd19.Mem} {f a:Nat} (hf:f<256) (h:a∈M.fill m f):a<1048576∧a / 4096=f∧a % 8=0:=by
 obtain⟨⟨i,hi,e⟩,_⟩:=M.mem_fill.mp h
 omega
def belowL (s:Sd19.St) (ts:List Nat):List Nat:=ts.flatMap fun t=>(M.fill s.mem t).map (Sd19.leads s)
theorem below_len (s:Sd19.St):∀ts:List Nat,(belowL s ts).length≤512 * ts.length
  | []=>Nat.le_refl _
  | t::ts=>by
    have h:=below_len s ts
    have h2:=fill_len s.mem t
    unfold belowL at h ⊢
    rw[List.flatMap_cons,List.length_append,List.length_map,List.length_cons]
    omega
theorem below_snoc (s:Sd19.St) (ts:List Nat) (t:Nat):belowL s (ts++[t])=belowL s ts++(M.fill s.mem t).map (Sd19.leads s):=by
 unfold belowL
 rw[List.flatMap_append]
 simp
theorem below_kids {s:Sd19.St}:∀{ts:List Nat},(∀t∈ts,M.Zer s t)→belowL s ts=M.kids s ts
  | [],_=>by rw[M.kids_nil];rfl
  | t::ts,h=>by
    have ih:=below_kids (s:=s) (ts:=ts) fun x hx=>h x (by simp[hx])
    unfold belowL at ih ⊢
    rw[List.flatMap_cons,ih,M.kids_cons,M.entries_fill (h t (by simp))]
section
variable {P:Program} {w:World} {K:PySem.W.Frag} {mg:Str→Option Value} {base:Heap} {A:Adr}
def spBelow (C:Addr):Sp:=fun vs H Q _=>∃(p lw lc z:Addr) (s:Sd19.St) (ts:List Nat),vs=[.ref p,.ref z]∧MemAt C H p lw lc s∧H z=some (.lst (il ts))∧(∀t∈ts,t<256)∧ts.length≤256 ∧
 ∀(H':Hp) (q:Addr),H' q=some (.lst (il (belowL s ts)))→H q=none→Same H H'→Q (.ref q) H'
theorem sc_frames_below:FnScope ["memory","tables","frames","table","place"] ["memory","tables"] (defScope s_frames_below):=⟨rfl,rfl,rfl,by decide +kernel,rfl,by decide +kernel,by decide +kernel⟩
set_option maxHeartbeats 1000000 in
theorem ok_frames_below (T:Txt K mg A):FnOk P w K mg base CX0 2 A.frames_below.1 A.frames_below.2 ["memory","tables"] (spBelow A.C_Memory):=by
  refine T.f_frames_below.f.ok sc_frames_below (fun vs H Q E h=>?_) (fun cdv A' outer s0 H vs Q E hr h=>?_)
  · obtain⟨p,lw,lc,z,s,ts,rfl,_⟩:=h
    rfl
  · obtain ⟨p, lw, lc, z, s, ts, rfl, B, hz, hts, hln, k⟩ := h
    refine⟨_,(pss_cons (ps_set (i:=2) sc_frames_below.nd rfl (Or.inl rfl) (pe_lst pa_nil))
      (pss_cons (ps_for PassesOwn.never rfl (pi_list (pv 1)) (pg_name (i:=3) sc_frames_below.nd rfl (Or.inl rfl)) (pss_one (ps_expr (pe_bm PySem.F.plainAttrs_list PySem.F.slot_list_extend PySem.F.type_list_extend mt_extend (pv 2) (pa_cons (pe_lc rfl sc_frames_below.nd (pi_list (pe_meth (pv 0) T.c_Memory T.f_filled_places.mt (ok_filled_places T) (hr.mono (by decide)) T.f_filled_places.b .nil pass0 (pa_cons (pv 3) pa_nil))) (own:=[("place",4)]) (show BlkOk ["memory","tables","frames","table","place"] (defScope s_frames_below) _ _ from⟨rfl,by decide +kernel,by decide +kernel,by decide +kernel,by decide +kernel⟩) (fun _ _ _ _ _=>(pg_name (i:=4) sc_frames_below.nd rfl (Or.inl rfl))) (fun _ _ _ _ _=>pts_nil) (fun _ _ _ _ _=>(pe_call (ok_frame_led_to T) (hr.mono (by decide)) rfl T.f_frame_led_to.m T.f_frame_led_to.f.kp T.f_frame_led_to.b .nil pass0 (pa_cons (pe_meth (pv 0) T.c_Memory T.f_word_at.mt (ok_word_at T) (hr.mono (by decide)) T.f_word_at.b .nil pass0 (pa_cons (pv 4) pa_nil)) pa_nil)))) pa_nil)))))
      (pss_one (ps_ret (pv 2))))),?_⟩
    refine⟨(by show 0≤sizeLine;decide),fun q hq=>?_⟩
    have nzq:z≠q:=ne_of_none hz hq
    refine⟨_,rfl,z,rfl,⟨_,SqL.of (by rw[upd_ne nzq];exact hz)⟩,?_⟩
    refine for_list (K:=K) (a:=z) (xs:=il ts) (fun i σ H'=>∃(v3:Option V),σ=[some (.ref p),some (.ref z),some (.ref q),v3,none]∧Same H H'∧H' q=some (.lst (il (belowL s (ts.take i)))))
      ⟨none,rfl,Same.new hq,upd_same⟩ (fun i σ H' _ ⟨_,_,sm,_⟩=>SqL.of (sm _ _ hz)) ?_ ?_
    · rintro i x σ H' hi ⟨v3,rfl,sm,hq'⟩
      have hlt:i<ts.length:=by
        have:=(List.getElem?_eq_some_iff.mp hi).1
        rw[il_len]at this
        exact this
      rw[il_get hlt]at hi
      cases hi
      have tlt:=hts _ (List.getElem_mem hlt)
      generalize htt:ts[i]=t at *
      have B':=B.keep sm
      obtain⟨dx,ob⟩:=B'.ob
      refine⟨_,rfl,.inl ⟨rfl,_,SqL.of hq'⟩,_,rfl,p,dx,_,rfl,ob,mf_no _ _ (by decide +kernel) (by decide +kernel),_,rfl,p,lw,lc,s,t,rfl,B',tlt,fun H2 l hl nl s2=>⟨l,rfl,⟨_,SqL.of hl⟩,fun D hD=>?_⟩⟩
      have nlD:l≠D:=ne_of_none hl hD
      have hq2:=s2 _ _ hq'
      have nqD:q≠D:=ne_of_none hq2 hD
      refine lc_by (M.fill s.mem t).length (fun j H3=>H3 D=some (.lst (il (((M.fill s.mem t).take j).map (Sd19.leads s))))∧∀b o,H2 b=some o→H3 b=some o) ?_ ?_ ?_
      · exact⟨upd_same,fun b o e=>by rw[upd_ne (ne_of_none e hD)];exact e⟩
      · rintro j H3 hj ⟨g1,g2⟩
        refine⟨⟨_,_,SqL.of (g2 _ _ hl),il_get hj⟩,?_⟩
        rintro x H4 ⟨rfl,hx⟩
        have ex:=hx _ (SqL.of (g2 _ _ hl))
        rw[il_get hj]at ex
        cases ex
        refine⟨rfl,?_⟩
        have al:=fill_lt tlt (List.getElem_mem hj)
        have B3:=(B'.keep s2).keep g2
        obtain⟨dx3,ob3⟩:=B3.ob
        refine⟨_,rfl,p,dx3,_,rfl,ob3,mf_no _ _ (by decide +kernel) (by decide +kernel),_,rfl,p,lw,lc,s,_,rfl,B3,al.1,_,rfl,_,g1,?_,?_,fun b o e=>by rw[upd_ne (ne_of_none e hD)];exact g2 b o e⟩
        · rw[il_len,List.length_map,List.length_take]
          exact Nat.lt_of_le_of_lt (Nat.le_trans (Nat.min_le_right _ _) (fill_len _ _)) (by decide)
        · rw[upd_same,take_one hj,List.map_append,il_app]
          rfl
      · rintro H3 ⟨g1,g2⟩
        rw[List.take_length]at g1
        refine⟨⟨_,SqL.of (g2 _ _ hl),by rw[il_len];exact Nat.le_refl _⟩,?_⟩
        have hq3:=g2 _ _ hq2
        refine⟨q,D,_,_,rfl,rfl,hq3,g1,?_,?_⟩
        · rw[il_len,il_len,List.length_map]
          have h1:=below_len s (ts.take i)
          have h2:=fill_len s.mem t
          rw[List.length_take]at h1
          have h3:min i ts.length≤256:=Nat.le_trans (Nat.min_le_right _ _) hln
          exact Nat.le_of_lt (Nat.lt_of_le_of_lt (show(belowL s (ts.take i)).length+(M.fill s.mem t).length≤140000 by omega) (by decide))
        · refine⟨_,rfl,fun b o e=>?_,?_⟩
          · rw[upd_ne (ne_of_none e hq)]
            exact g2 _ _ (s2 _ _ (sm b o e))
          · rw[upd_same,take_one hlt,htt,below_snoc,il_app]
    · rintro σ H' ⟨v3,rfl,sm,hq'⟩
      rw[il_len,List.take_length]at hq'
      refine⟨_,rfl,?_⟩
      exact k _ q hq' hq sm
def tf (lt lp:Addr):List (Str×V):=putF "pages" (.ref lp) (putF "tables" (.ref lt) [])
theorem tf_tables (lt lp:Addr):(tf lt lp).lookup ("tables" : Str)=some (.ref lt):=by
 unfold tf
 rw[lookup_putF,if_neg (by decide +kernel),lookup_putF,if_pos rfl]
theorem tf_pages (lt lp:Addr):(tf lt lp).lookup ("pages" : Str)=some (.ref lp):=by
 unfold tf
 rw[lookup_putF,if_pos rfl]
theorem tf0_tables (lt:Addr):(putF ("tables" : Str) (V.ref lt) []).lookup ("tables" : Str)=some (.ref lt):=by rw[lookup_putF,if_pos rfl]
structure TreeAt (C:Addr) (H:Hp) (x lt lp:Addr) (ts pg:List Nat):Prop where
 ob:∃dx,H x=some (.ins C dx (tf lt lp))
 ts:H lt=some (.lst (il ts))
 ps:H lp=some (.lst (il pg))
def lvl (s:Sd19.St) (root:Nat):Nat→List Nat
 | 0=>[root]
 | i+1=>M.kids s (lvl s root i)
def acc (s:Sd19.St) (root:Nat):Nat→List Nat
 | 0=>[]
 | i+1=>acc s root i++lvl s root i
theorem acc4 {s:Sd19.St} {root:Nat} {L3 L2 L1 pg:List Nat} (S:M.Snd s root L3 L2 L1 pg):acc s root 4=M.tabsF s 4 [root]∧lvl s root 4=M.pgsF s 4 [root]:=by
 rw[M.tabs4,M.pgs4]
 constructor
 ·show((([]++[root])++M.kids s [root])++M.kids s (M.kids s [root]))++M.kids s (M.kids s (M.kids s [root]))=_
  simp only[List.nil_append,List.append_assoc]
 ·rfl
theorem lvl_ok {s:Sd19.St} {root:Nat} {L3 L2 L1 pg:List Nat} (S:M.Snd s root L3 L2 L1 pg):∀i,i<4→(∀t∈lvl s root i,t∈M.tabsF s 4 [root]):=by
 intro i hi t ht
 rw[M.tabs4]
 match i,hi with
 | 0,_=>exact List.mem_append.mpr (.inl ht)
 | 1,_=>exact List.mem_append.mpr (.inr (List.mem_append.mpr (.inl ht)))
 | 2,_=>exact List.mem_append.mpr (.inr (List.mem_append.mpr (.inr (List.mem_append.mpr (.inl ht)))))
 | 3,_=>exact List.mem_append.mpr (.inr (List.mem_append.mpr (.inr (List.mem_append.mpr (.inr ht)))))
theorem nd_le {l:List Nat} (h:l.Nodup) (hl:∀t∈l,t<256):l.length≤256:=by
 have:=h.length_le_of_subset (l₂:=List.range 256) (fun t ht=>List.mem_range.mpr (hl t ht))
 simpa using this
theorem tabs_nd {s:Sd19.St} {root:Nat} {L3 L2 L1 pg:List Nat} (S:M.Snd s root L3 L2 L1 pg):(M.tabsF s 4 [root]).Nodup∧(M.tabsF s 4 [root]).length≤256:=by
 have h1:(M.tabsF s 4 [root]).Nodup:=List.nodup_iff_count.mpr S.sub.one
 exact⟨h1,nd_le h1 fun t ht=>(S.sub.lt t ht).1⟩
theorem lvl_len {s:Sd19.St} {root:Nat} {L3 L2 L1 pg:List Nat} (S:M.Snd s root L3 L2 L1 pg) (i:Nat) (hi:i<4):(lvl s root i).length≤256∧(acc s root i).length+(lvl s root i).length≤256:=by
 have h:=(tabs_nd S).2
 rw[←(acc4 S).1]at h
 have e:acc s root 4=((([]++lvl s root 0)++lvl s root 1)++lvl s root 2)++lvl s root 3:=rfl
 rw[e]at h
 simp only[List.length_append,List.length_nil]at h
 match i,hi with
 | 0,_=>exact⟨by omega,by show 0+_≤_;omega⟩
 | 1,_=>exact⟨by omega,by show([]++lvl s root 0).length+_≤_;simp only[List.length_append,List.length_nil];omega⟩
 | 2,_=>exact⟨by omega,by show(([]++lvl s root 0)++lvl s root 1).length+_≤_;simp only[List.length_append,List.length_nil];omega⟩
 | 3,_=>exact⟨by omega,by show((([]++lvl s root 0)++lvl s root 1)++lvl s root 2).length+_≤_;simp only[List.length_append,List.length_nil];omega⟩
def spTreeInit (C CT:Addr):Sp:=fun vs H Q _=>∃(x dx p lw lc:Addr) (s:Sd19.St) (root:Nat) (L3 L2 L1 pg:List Nat),vs=[.ref x,.ref p,.int (root:Int)]∧H x=some (.ins CT dx [])∧MemAt C H p lw lc s∧M.Snd s root L3 L2 L1 pg ∧
 ∀(H':Hp) (lt lp:Addr),TreeAt CT H' x lt lp (M.tabsF s 4 [root]) (M.pgsF s 4 [root])→H lt=none→H lp=none→(∀b o,H b=some o→b≠x→H' b=some o)→Q .non H'
theorem sc_Tree_init:FnScope ["self","memory","root","frames","level"] ["self","memory","root"] (defScope s_Tree_init):=⟨rfl,rfl,rfl,by decide +kernel,rfl,by decide +kernel,by decide +kernel⟩
set_option maxHeartbeats 1000000 in
theorem ok_Tree_init (T:Txt K mg A):FnOk P w K mg base CX0 3 A.Tree_init.1 A.Tree_init.2 ["self","memory","root"] (spTreeInit A.C_Memory A.C_Tree):=by
  refine T.f_Tree_init.f.ok sc_Tree_init (fun vs H Q E h=>?_) (fun cdv A' outer s0 H vs Q E hr h=>?_)
  · obtain⟨x,dx,p,lw,lc,s,root,L3,L2,L1,pg,rfl,_⟩:=h
    rfl
  · obtain⟨x,dx,p,lw,lc,s,root,L3,L2,L1,pg,rfl,hx,B,S,k⟩:=h
    refine⟨_,(pss_cons (ps_fld (pv 0) (pe_lst pa_nil) rfl)
      (pss_cons (ps_set (i:=3) sc_Tree_init.nd rfl (Or.inl rfl) (pe_lst (pa_cons (pv 2) pa_nil)))
      (pss_cons (ps_for PassesOwn.never rfl (pi_tup (pe_globR rfl T.g_LEVELS)) (pg_name (i:=4) sc_Tree_init.nd rfl (Or.inl rfl)) (pss_cons (ps_expr (pe_bm PySem.F.plainAttrs_list PySem.F.slot_list_extend PySem.F.type_list_extend mt_extend (pe_fld (pv 0) rfl) (pa_cons (pv 3) pa_nil)))
      (pss_one (ps_set (i:=3) sc_Tree_init.nd rfl (Or.inl rfl) (pe_call (ok_frames_below T) (hr.mono (by decide)) rfl T.f_frames_below.m T.f_frames_below.f.kp T.f_frames_below.b .nil pass0 (pa_cons (pv 1) (pa_cons (pv 3) pa_nil)))))))
      (pss_one (ps_fld (pv 0) (pv 3) rfl))))),?_⟩
    refine⟨(by show 0≤sizeLine;decide),fun lt hlt=>?_⟩
    have nxt:x≠lt:=ne_of_none hx hlt
    refine⟨_,rfl,x,_,dx,_,rfl,(by rw[upd_ne nxt];exact hx),T.c_Tree,T.na_Tree_tables,(by show 0<1000;decide),?_⟩
    refine⟨_,rfl,(by show 1≤sizeLine;decide),fun f0 hf0=>?_⟩
    have nf0x:f0≠x:=fun e=>by rw[e,upd_same]at hf0;cases hf0
    have nf0t:f0≠lt:=fun e=>by rw[e,upd_ne (Ne.symm nxt),upd_same]at hf0;cases hf0
    have hf0':H f0=none:=by rw[upd_ne nf0x,upd_ne nf0t]at hf0;exact hf0
    refine⟨A.a_LEVELS,rfl,⟨_,T.sq_LEVELS _⟩,?_⟩
    have kx:∀b o,H b=some o→b≠x→upd (upd (upd H lt (.lst [])) x (.ins A.C_Tree dx (putF "tables" (.ref lt) []))) f0 (.lst [.int (root:Int)]) b=some o:=fun b o e hb=>by
      rw[upd_ne (ne_of_none e hf0'),upd_ne hb,upd_ne (ne_of_none e hlt)]
      exact e
    refine for_tup (K:=K) (a:=A.a_LEVELS) (xs:=[.int 4,.int 3,.int 2,.int 1])
      (fun i σ H'=>∃(fr:Addr) (v4:Option V),σ=[some (.ref x),some (.ref p),some (.int (root:Int)),some (.ref fr),v4]∧(∀b o,H b=some o→b≠x→H' b=some o)∧H' x=some (.ins A.C_Tree dx (putF "tables" (.ref lt) [])) ∧
        H' lt=some (.lst (il (acc s root i)))∧H' fr=some (.lst (il (lvl s root i)))∧fr≠lt∧H fr=none) ?_ (fun i σ H' _ _=>T.sq_LEVELS _) ?_ ?_
    · refine⟨f0,none,rfl,kx,by rw[upd_ne (Ne.symm nf0x),upd_same],?_,upd_same,nf0t,hf0'⟩
      rw[upd_ne (Ne.symm nf0t),upd_ne (Ne.symm nxt),upd_same]
      rfl
    · rintro i v σ H' hv ⟨fr,v4,rfl,kp,hx',ht',hfr,nft,hfr0⟩
      obtain⟨l,hl,hil,rfl⟩:=levels_get hv
      have hi4:i<4:=by omega
      have ln:=lvl_len S i hi4
      refine⟨_,rfl,x,_,dx,_,_,rfl,hx',T.c_Tree,T.na_Tree_tables,tf0_tables lt,.inl ⟨rfl,_,SqL.of ht'⟩,_,rfl,lt,fr,_,_,rfl,rfl,ht',hfr,?_,?_⟩
      · rw[il_len,il_len]
        exact Nat.le_trans ln.2 (by decide)
      rw[←il_app]
      have nxl:x≠lt:=nxt
      have kp2:∀b o,H b=some o→b≠x→upd H' lt (.lst (il (acc s root i++lvl s root i))) b=some o:=fun b o e hb=>by
        rw[upd_ne (ne_of_none e hlt)]
        exact kp b o e hb
      have hx2:upd H' lt (.lst (il (acc s root i++lvl s root i))) x=some (.ins A.C_Tree dx (putF "tables" (.ref lt) [])):=by rw[upd_ne nxl];exact hx'
      have ht2:upd H' lt (.lst (il (acc s root i++lvl s root i))) lt=some (.lst (il (acc s root (i+1)))):=upd_same
      have hf2:upd H' lt (.lst (il (acc s root i++lvl s root i))) fr=some (.lst (il (lvl s root i))):=by rw[upd_ne nft];exact hfr
      generalize upd H' lt (.lst (il (acc s root i++lvl s root i)))=H2 at kp2 hx2 ht2 hf2
      have B2:MemAt A.C_Memory H2 p lw lc s:=by
        obtain⟨d1,o1⟩:=B.ob
        obtain⟨ds,h1,h2,h3,h4⟩:=B.ws
        have npx:p≠x:=fun e=>by
          rw[e,hx]at o1
          have e2:=(HO.ins.inj (Option.some.inj o1)).2.2
          have e3:=mf_frames lw lc
          rw[←e2]at e3
          cases e3
        exact⟨⟨d1,kp2 _ _ o1 npx⟩,⟨ds,kp2 _ _ h1 (ne_of h1 hx (fun e=>nomatch e)),h2,h3,fun g d e=>let ⟨kv,h5,h6⟩:=h4 g d e;⟨kv,kp2 _ _ h5 (ne_of h5 hx (fun e=>nomatch e)),h6⟩⟩,kp2 _ _ B.cs (ne_of B.cs hx (fun e=>nomatch e)),B.wf⟩
      refine⟨_,rfl,_,rfl,p,lw,lc,fr,s,lvl s root i,rfl,B2,hf2,fun t ht=>(S.sub.lt t (lvl_ok S i hi4 t ht)).1,ln.1,fun H3 q hq nq s3=>?_⟩
      refine⟨q,_,rfl,fun b o e hb=>s3 _ _ (kp2 b o e hb),s3 _ _ hx2,s3 _ _ ht2,?_,?_,?_⟩
      · rw[hq,below_kids fun t ht=>S.sub.zer t (lvl_ok S i hi4 t ht)]
        rfl
      · exact fun e=>by rw[e,ht2]at nq;cases nq
      · cases e:H q with
        | none=>rfl
        | some o =>
          by_cases c:q=x
          · rw[c,hx2]at nq;cases nq
          · rw[kp2 q o e c]at nq;cases nq
    · rintro σ H' ⟨fr,v4,rfl,kp,hx',ht',hfr,nft,hfr0⟩
      have ht':H' lt=some (.lst (il (acc s root 4))):=ht'
      have hfr:H' fr=some (.lst (il (lvl s root 4))):=hfr
      have nfx:fr≠x:=fun e=>by rw[e,hx]at hfr0;cases hfr0
      refine⟨_,rfl,_,rfl,x,_,dx,_,rfl,hx',T.c_Tree,T.na_Tree_pages,(by show 1<1000;decide),?_⟩
      refine k _ lt fr ⟨⟨dx,upd_same⟩,by rw[upd_ne (Ne.symm nxt),ht',(acc4 S).1],by rw[upd_ne nfx,hfr,(acc4 S).2]⟩ hlt hfr0 fun b o e hb=>by rw[upd_ne hb];exact kp b o e hb
end
end G
namespace G
open PySem PySem.Spec PyProof.Rows L2
theorem put_self {s:Sd19.St} (h:M.WF s) (a:Nat):s.put a (Sd19.load s.mem a)=s:=by
 unfold Sd19.St.put
 rw[M.store_self h.m]
section
variable {P:Program} {w:World} {K:PySem.W.Frag} {mg:Str→Option Value} {base:Heap} {A:Adr}
def spSharePage (C:Addr):Sp:=fun vs H Q _=>∃(p lw lc:Addr) (s:Sd19.St) (a:Nat),vs=[.ref p,.int (a:Int)]∧MemAt C H p lw lc s∧a<1048576∧Sd19.base (Sd19.load s.mem a) / 4096<256 ∧
 ∀H',MemAt C H' p lw lc ((s.put a (Sd19.kept (Sd19.load s.mem a))).uses (Sd19.base (Sd19.load s.mem a) / 4096) (s.used (Sd19.base (Sd19.load s.mem a) / 4096)+1))→Kp lw lc H H'→Q (.int ((Sd19.kept (Sd19.load s.mem a):Nat):Int)) H'
theorem sc_share_page:FnScope ["memory","place","entry"] ["memory","place"] (defScope s_share_page):=⟨rfl,rfl,rfl,by decide +kernel,rfl,by decide +kernel,by decide +kernel⟩
theorem ok_share_page (T:Txt K mg A):FnOk P w K mg base CX0 2 A.share_page.1 A.share_page.2 ["memory","place"] (spSharePage A.C_Memory):=by
 refine T.f_share_page.f.ok sc_share_page (fun vs H Q E h=>?_) (fun cdv A' outer s0 H vs Q E hr h=>?_)
 ·obtain⟨p,lw,lc,s,a,rfl,_⟩:=h
  rfl
 ·obtain⟨p,lw,lc,s,a,rfl,B,ha,hf,k⟩:=h
  obtain⟨dx,ob⟩:=B.ob
  have e64:=B.wf.m.load a
  have eself:=put_self B.wf a
  refine⟨_,(pss_cons (ps_set (i:=2) sc_share_page.nd rfl (Or.inl rfl) (pe_meth (pv 0) T.c_Memory T.f_word_at.mt (ok_word_at T) (hr.mono (by decide)) T.f_word_at.b .nil pass0 (pa_cons (pv 1) pa_nil)))
   (pss_cons (ps_expr (pe_meth (pv 0) T.c_Memory T.f_use_once_more.mt (ok_use_once_more T) (hr.mono (by decide)) T.f_use_once_more.b .nil pass0 (pa_cons (pe_call (ok_frame_led_to T) (hr.mono (by decide)) rfl T.f_frame_led_to.m T.f_frame_led_to.f.kp T.f_frame_led_to.b .nil pass0 (pa_cons (pv 2) pa_nil)) pa_nil)))
   (pss_cons (ps_if (pt_cmpR op_ne (pe_op op_and (pv 2) (pe_globI rfl T.g_WRITABLE)) pe_int (nomark _)) (pss_cons (ps_set (i:=2) sc_share_page.nd rfl (Or.inl rfl) (pe_call (ok_kept_from_writing T) (hr.mono (by decide)) rfl T.f_kept_from_writing.m T.f_kept_from_writing.f.kp T.f_kept_from_writing.b .nil pass0 (pa_cons (pv 2) pa_nil)))
   (pss_one (ps_expr (pe_meth (pv 0) T.c_Memory T.f_put_word.mt (ok_put_word T) (hr.mono (by decide)) T.f_put_word.b .nil pass0 (pa_cons (pv 1) (pa_cons (pv 2) pa_nil)))))) pss_nil)
   (pss_one (ps_ret (pv 2)))))),?_⟩
  refine⟨_,rfl,p,dx,_,rfl,ob,mf_no _ _ (by decide +kernel) (by decide +kernel),_,rfl,p,lw,lc,s,a,rfl,B,ha,?_⟩
  generalize he:Sd19.load s.mem a=e at *
  refine⟨_,rfl,p,dx,_,rfl,ob,mf_no _ _ (by decide +kernel) (by decide +kernel),_,rfl,e,rfl,p,lw,lc,s,_,rfl,B,hf,trivial,fun H2 B2 k2=>?_⟩
  obtain⟨dx2,ob2⟩:=B2.ob
  have bw:=and_ne e 2 (M.writable e)
  refine⟨_,rfl,_,_,rfl,rfl,rfl,_,rfl,?_⟩
  refine ite2 (fun g=>?_) (fun g=>?_)
  ·have g':Sd19.bit e 1=true:=bw.symm.trans g
   refine⟨_,rfl,e,rfl,g',?_⟩
   refine⟨_,rfl,p,dx2,_,rfl,ob2,mf_no _ _ (by decide +kernel) (by decide +kernel),_,rfl,_,rfl,p,lw,lc,_,a,_,rfl,B2,ha,M.kept_lt e64,fun H3 B3 k3=>?_⟩
   refine⟨_,rfl,?_⟩
   exact k H3 B3 (k2.trans k3)
  ·have g':Sd19.bit e 1=false:=bw.symm.trans (nf g)
   refine⟨_,rfl,?_⟩
   rw[M.kept_not e g',eself]at k
   exact k H2 B2 k2
def spCopyT (C:Addr) (l:Nat):Sp:=fun vs H Q _=>∃(p lw lc:Addr) (s s':Sd19.St) (t f:Nat),vs=[.ref p,.int (t:Int),.int ((l+1:Nat):Int)]∧MemAt C H p lw lc s∧M.Copies (l+1) t s f s' ∧
 ∀H',MemAt C H' p lw lc s'→Kp lw lc H H'→Q (.int (f:Int)) H'
def spNever:Sp:=fun _ _ _ _=>False
theorem took_fun {s t t':Sd19.St} {f f':Nat} (h:M.Took s f t) (h':M.Took s f' t'):f=f'∧t=t':=by
 have e:=h.eq.symm.trans h'.eq
 cases e
 exact⟨rfl,rfl⟩
theorem sc_copy_table:FnScope ["memory","table","level","twin","place","entry"] ["memory","table","level"] (defScope s_copy_table):=⟨rfl,rfl,rfl,by decide +kernel,rfl,by decide +kernel,by decide +kernel⟩
theorem never_copy_table (T:Txt K mg A) (k:Nat):FnOk P w K mg base CX0 (k+1) A.copy_table.1 A.copy_table.2 ["memory","table","level"] spNever :=
 T.f_copy_table.f.ok sc_copy_table (fun vs H Q E h=>h.elim) (fun cdv A' outer s0 H vs Q E hr h=>h.elim)
set_option maxHeartbeats 1000000 in
theorem lv_copy_table (T:Txt K mg A) (l k:Nat) (hk:2≤k) {sp0:Sp} (ih:FnOk P w K mg base CX0 k A.copy_table.1 A.copy_table.2 ["memory","table","level"] sp0) (hsp:l=0∨∃l',l=l'+1∧sp0=spCopyT A.C_Memory l') :
    FnOk P w K mg base CX0 (k+1) A.copy_table.1 A.copy_table.2 ["memory","table","level"] (spCopyT A.C_Memory l):=by
  refine T.f_copy_table.f.ok sc_copy_table (fun vs H Q E h=>?_) (fun cdv A' outer s0 H vs Q E hr h=>?_)
  · obtain⟨p,lw,lc,s,s',t,f,rfl,_⟩:=h
    rfl
  · obtain⟨p,lw,lc,s,s',t,f,rfl,B,hc,fin⟩:=h
    rw[M.copies_iff]at hc
    obtain⟨ht,_,s1,tk,ch⟩:=hc
    have flt:=tk.lt
    obtain⟨dx,ob⟩:=B.ob
    refine⟨_,(pss_cons (ps_set (i:=3) sc_copy_table.nd rfl (Or.inl rfl) (pe_meth0 (pv 0) T.c_Memory T.f_take_frame.mt (ok_take_frame T) (hr.mono (by omega)) T.f_take_frame.b .nil pass0))
      (pss_cons (ps_for PassesOwn.never rfl (pi_list (pe_meth (pv 0) T.c_Memory T.f_filled_places.mt (ok_filled_places T) (hr.mono (by omega)) T.f_filled_places.b .nil pass0 (pa_cons (pv 1) pa_nil))) (pg_name (i:=4) sc_copy_table.nd rfl (Or.inl rfl)) (pss_cons (ps_if (pt_cmpR op_eq (pv 2) (pe_ix ix_tup (pe_globR rfl T.g_LEVELS) (pe_un un_neg pe_int) (fun _ _=>rfl)) (nomark _)) (pss_one (ps_set (i:=5) sc_copy_table.nd rfl (Or.inl rfl) (pe_call (ok_share_page T) (hr.mono (by omega)) rfl T.f_share_page.m T.f_share_page.f.kp T.f_share_page.b .nil pass0 (pa_cons (pv 0) (pa_cons (pv 4) pa_nil))))) (pss_cons (ps_set (i:=5) sc_copy_table.nd rfl (Or.inl rfl) (pe_meth (pv 0) T.c_Memory T.f_word_at.mt (ok_word_at T) (hr.mono (by omega)) T.f_word_at.b .nil pass0 (pa_cons (pv 4) pa_nil)))
      (pss_one (ps_set (i:=5) sc_copy_table.nd rfl (Or.inl rfl) (pe_call (ok_leading_to T) (hr.mono (by omega)) rfl T.f_leading_to.m T.f_leading_to.f.kp T.f_leading_to.b .nil pass0 (pa_cons (pe_call ih (hr.mono (Nat.le_refl _)) rfl T.f_copy_table.m T.f_copy_table.f.kp T.f_copy_table.b .nil pass0 (pa_cons (pv 0) (pa_cons (pe_call (ok_frame_led_to T) (hr.mono (by omega)) rfl T.f_frame_led_to.m T.f_frame_led_to.f.kp T.f_frame_led_to.b .nil pass0 (pa_cons (pv 5) pa_nil)) (pa_cons (pe_op op_sub (pv 2) pe_int) pa_nil)))) (pa_cons (pv 5) pa_nil)))))))
      (pss_one (ps_expr (pe_meth (pv 0) T.c_Memory T.f_put_word.mt (ok_put_word T) (hr.mono (by omega)) T.f_put_word.b .nil pass0 (pa_cons (pe_op op_add (pe_op op_mul (pv 3) (pe_globI rfl T.g_FRAME_SIZE)) (pe_op op_mod (pv 4) (pe_globI rfl T.g_FRAME_SIZE))) (pa_cons (pv 5) pa_nil)))))))
      (pss_one (ps_ret (pv 3))))),?_⟩
    refine⟨_,rfl,p,dx,_,rfl,ob,mf_no _ _ (by decide +kernel) (by decide +kernel),p,lw,lc,s,rfl,B,?_,fun f' t' H1 tk' B1 k1=>?_⟩
    · have:=tk.n
      omega
    obtain⟨ef,et⟩:=took_fun tk tk'
    subst ef et
    obtain⟨dx1,ob1⟩:=B1.ob
    refine⟨_,rfl,p,dx1,_,rfl,ob1,mf_no _ _ (by decide +kernel) (by decide +kernel),_,rfl,p,lw,lc,s1,t,rfl,B1,ht,fun H2 z hz nz s2=>?_⟩
    have nzw:z≠lw∧z≠lc:=by
      obtain⟨ds,h1,_⟩:=B1.ws
      exact⟨Ne.symm (ne_of_none h1 nz),Ne.symm (ne_of_none B1.cs nz)⟩
    refine⟨z,rfl,⟨_,SqL.of hz⟩,?_⟩
    refine for_list (K:=K) (a:=z) (xs:=il (M.fill s1.mem t)) (fun i σ H'=>∃(u:Sd19.St) (v4 v5:Option V),σ=[some (.ref p),some (.int (t:Int)),some (.int ((l+1:Nat):Int)),some (.int (f:Int)),v4,v5]∧MemAt A.C_Memory H' p lw lc u ∧
        Kp lw lc H2 H'∧M.Chain (M.StepR l t f) ((M.fill s1.mem t).drop i) u s') ⟨s1,none,none,rfl,B1.keep s2,Kp.refl _ _ _,ch⟩ (fun i σ H' _ ⟨_,_,_,_,_,kp,_⟩=>SqL.of (kp.keep _ _ hz nzw.1 nzw.2 trivial)) ?_ ?_
    · rintro i x σ H' hi ⟨u,v4,v5,rfl,B',kp,ch'⟩
      have hlt:i<(M.fill s1.mem t).length:=by
        have:=(List.getElem?_eq_some_iff.mp hi).1
        rw[il_len]at this
        exact this
      rw[il_get hlt]at hi
      cases hi
      rw[List.drop_eq_getElem_cons hlt]at ch'
      obtain⟨u',st,ch2⟩:=ch'
      have al:=(fill_lt ht (List.getElem_mem hlt)).1
      generalize (M.fill s1.mem t)[i]=a at *
      obtain⟨wu,ha1,ha2,hfb,st⟩:=st
      have e64:=B'.wf.m.load a
      have ept:V.int ((f:Int) * 4096+(a:Int) % 4096)=V.int ((4096 * f+a % 4096:Nat):Int):=by
        refine congrArg V.int ?_
        omega
      have lpt:4096 * f+a % 4096<1048576:=by omega
      obtain⟨dx',ob'⟩:=B'.ob
      refine⟨_,rfl,_,rfl,A.a_LEVELS,_,_,.int 1,rfl,rfl,T.sq_LEVELS _,rfl,rfl,_,rfl,?_⟩
      by_cases hl0:l=0
      · subst hl0
        rw[if_pos rfl]at st
        obtain⟨hu0,rfl⟩:=st
        refine iteT ?_
        refine⟨_,rfl,_,rfl,p,lw,lc,u,a,rfl,B',al,hfb,fun H3 B3 k3=>?_⟩
        obtain⟨dx3,ob3⟩:=B3.ob
        refine⟨_,rfl,p,dx3,_,rfl,ob3,mf_no _ _ (by decide +kernel) (by decide +kernel),_,rfl,_,_,rfl,rfl,.inr ⟨by decide,by decide⟩,_,rfl,_,_,rfl,rfl,(by show(0:Int)<4096;decide),_,_,rfl,rfl,_,rfl,
          p,lw,lc,_,4096 * f+a % 4096,_,congrArg (fun v=>[V.ref p,v,V.int ((Sd19.kept (Sd19.load u.mem a):Nat):Int)]) ept,B3,lpt,M.kept_lt e64,fun H4 B4 k4=>?_⟩
        exact⟨_,_,_,rfl,B4,(kp.trans k3).trans k4,ch2⟩
      · rw[if_neg hl0]at st
        obtain⟨g,v,cp,hg,rfl⟩:=st
        obtain⟨l',rfl,rfl⟩:∃l',l=l'+1∧sp0=spCopyT A.C_Memory l':=by
          rcases hsp with h|h
          · exact absurd h hl0
          · exact h
        have en:decide (V.int ((l'+1+1:Nat):Int)=V.int 1)=false:=decide_eq_false (by intro e;injection e with e;omega)
        have ent:∀{X Y:Prop},Y→if decide (V.int ((l'+1+1:Nat):Int)=V.int 1)=true then X else Y:=fun {X Y} h=>by rw[en];exact iteF h
        refine ent ?_
        refine⟨_,rfl,p,dx',_,rfl,ob',mf_no _ _ (by decide +kernel) (by decide +kernel),_,rfl,p,lw,lc,u,a,rfl,B',al,?_⟩
        refine⟨_,rfl,_,rfl,_,rfl,_,rfl,_,_,rfl,rfl,p,lw,lc,u,v,Sd19.base (Sd19.load u.mem a) / 4096,g,?_,B',cp,fun H3 B3 k3=>?_⟩
        · show [V.ref p,V.int ((Sd19.base (Sd19.load u.mem a) / 4096:Nat):Int),V.int (((l'+1+1:Nat):Int) - 1)]=_
          rw[show((l'+1+1:Nat):Int) - 1=((l'+1:Nat):Int) by omega]
        refine⟨_,rfl,g,Sd19.load u.mem a,rfl,hg,?_⟩
        obtain⟨dx3,ob3⟩:=B3.ob
        refine⟨_,rfl,p,dx3,_,rfl,ob3,mf_no _ _ (by decide +kernel) (by decide +kernel),_,rfl,_,_,rfl,rfl,.inr ⟨by decide,by decide⟩,_,rfl,_,_,rfl,rfl,(by show(0:Int)<4096;decide),_,_,rfl,rfl,_,rfl,
          p,lw,lc,v,4096 * f+a % 4096,_,congrArg (fun x=>[V.ref p,x,V.int ((Sd19.load u.mem a % 4096+Sd19.load u.mem a / 2 ^ 52 * 2 ^ 52+4096 * g:Nat):Int)]) ept,B3,lpt,M.lead_lt _ _ e64 hg,fun H4 B4 k4=>?_⟩
        exact⟨_,_,_,rfl,B4,(kp.trans k3).trans k4,ch2⟩
    · rintro σ H' ⟨u,v4,v5,rfl,B',kp,ch'⟩
      rw[il_len,List.drop_length]at ch'
      have eu:u=s':=ch'
      subst eu
      exact⟨_,rfl,fin H' B' ((k1.trans (Same.kp s2)).trans kp)⟩
theorem ok_copy_table (T:Txt K mg A):FnOk P w K mg base CX0 6 A.copy_table.1 A.copy_table.2 ["memory","table","level"] (spCopyT A.C_Memory 3):=by
 have h0:=lv_copy_table (P:=P) (w:=w) (base:=base) T 0 2 (by decide) (never_copy_table T 1) (.inl rfl)
 have h1:=lv_copy_table T 1 3 (by decide) h0 (.inr ⟨0,rfl,rfl⟩)
 have h2:=lv_copy_table T 2 4 (by decide) h1 (.inr ⟨1,rfl,rfl⟩)
 exact lv_copy_table T 3 5 (by decide) h2 (.inr ⟨2,rfl,rfl⟩)
def incd (c:Array Nat) (l:List Nat):Array Nat:=l.foldl (fun(c:Array Nat) (p:Nat)=>c.setIfInBounds p (c.getD p 0+1)) c
theorem incd_snoc (c:Array Nat) (l:List Nat) (p:Nat):incd c (l++[p])=(incd c l).setIfInBounds p ((incd c l).getD p 0+1):=by
 unfold incd
 rw[List.foldl_append]
 rfl
theorem incd_size (c:Array Nat) (l:List Nat):(incd c l).size=c.size:=by
  induction l generalizing c with
  | nil=>rfl
  | cons p l ih =>
    show(incd (c.setIfInBounds p (c.getD p 0+1)) l).size=c.size
    rw[ih,Array.size_setIfInBounds]
theorem incd_get (l:List Nat):∀(c:Array Nat) (g:Nat),g<c.size→(incd c l).getD g 0=c.getD g 0+l.count g:=by
  induction l with
  | nil=>intro c g _;rfl
  | cons p l ih =>
    intro c g hg
    show(incd (c.setIfInBounds p (c.getD p 0+1)) l).getD g 0=_
    rw[ih _ _ (by rw[Array.size_setIfInBounds];exact hg),M.getD_set,List.count_cons]
    by_cases h:p=g
    · subst h
      rw[if_pos ⟨rfl,hg⟩]
      simp
      omega
    · rw[if_neg (fun q=>h q.1)]
      simp[h]
theorem nl_ints (m:Array Nat):nl m=(m.toList.map fun(n:Nat)=>(n:Int)).map V.int:=by
 unfold nl
 rw[List.map_map]
 rfl
def spCanCopy (C CT:Addr):Sp:=fun vs H Q _=>∃(p lw lc x lt lp:Addr) (s:Sd19.St) (ts pg:List Nat),vs=[.ref p,.ref x]∧MemAt C H p lw lc s∧TreeAt CT H x lt lp ts pg∧(∀f∈pg,f<256)∧M.Cnt s ∧
 ∀(H':Hp) (b:Bool),(b=true↔M.Room s ts.length pg)→Same H H'→Q (.bl b) H'
theorem sc_can_be_copied:FnScope ["memory","tree","uses","page"] ["memory","tree"] (defScope s_can_be_copied):=⟨rfl,rfl,rfl,by decide +kernel,rfl,by decide +kernel,by decide +kernel⟩
set_option maxHeartbeats 1000000 in
theorem ok_can_be_copied (T:Txt K mg A):FnOk P w K mg base CX0 2 A.can_be_copied.1 A.can_be_copied.2 ["memory","tree"] (spCanCopy A.C_Memory A.C_Tree):=by
  refine T.f_can_be_copied.f.ok sc_can_be_copied (fun vs H Q E h=>?_) (fun cdv A' outer s0 H vs Q E hr h=>?_)
  · obtain⟨p,lw,lc,x,lt,lp,s,ts,pg,rfl,_⟩:=h
    rfl
  · obtain ⟨p, lw, lc, x, lt, lp, s, ts, pg, rfl, B, W, hpg, hcnt, k⟩ := h
    obtain⟨dx,ob⟩:=B.ob
    obtain⟨dt,ot⟩:=W.ob
    refine⟨_,(pss_cons (ps_set (i:=2) sc_can_be_copied.nd rfl (Or.inl rfl) (pe_callTy call_list_of (by rfl) T.no_list boot_list (pa_cons (pe_fld (pv 0) rfl) pa_nil)))
      (pss_cons (ps_for PassesOwn.never rfl (pi_list (pe_fld (pv 1) rfl)) (pg_name (i:=3) sc_can_be_copied.nd rfl (Or.inl rfl)) (pss_one (ps_augS (pv 2) (pv 3) get_list pe_int ip_add set_list)))
      (pss_one (ps_ret (pe_and (pe_cmpR op_le (pe_callB call_len_seq (by rfl) T.no_len boot_len (pa_cons (pe_fld (pv 1) rfl) pa_nil)) (pe_meth0 (pv 0) T.c_Memory T.f_free_frame_count.mt (ok_free_frame_count T) (hr.mono (by decide)) T.f_free_frame_count.b .nil pass0) (nomark _)) (pe_one (pe_cmpR op_le (pe_callB (cr_max rfl) (by rfl) T.no_max boot_max (pa_cons (pv 2) pa_nil)) (pe_globI rfl T.g_MOST_USES) (nomark _)))))))),?_⟩
    refine⟨_,rfl,p,_,dx,_,_,rfl,ob,T.c_Memory,T.na_Memory_counts,mf_counts _ _,lc,_,rfl,.inl (SqL.of B.cs),fun lu hlu=>?_⟩
    have nxu:x≠lu:=ne_of_none ot hlu
    have npu:lp≠lu:=ne_of_none W.ps hlu
    refine⟨_,rfl,x,_,dt,_,_,rfl,(by rw[upd_ne nxu];exact ot),T.c_Tree,T.na_Tree_pages,tf_pages _ _,lp,rfl,⟨_,SqL.of (by rw[upd_ne npu];exact W.ps)⟩,?_⟩
    refine for_list (K:=K) (a:=lp) (xs:=il pg) (fun i σ H'=>∃(v3:Option V),σ=[some (.ref p),some (.ref x),some (.ref lu),v3]∧Same H H'∧H' lu=some (.lst (nl (incd s.count (pg.take i)))))
      ⟨none,rfl,Same.new hlu,upd_same⟩ (fun i σ H' _ ⟨_,_,sm,_⟩=>SqL.of (sm _ _ W.ps)) ?_ ?_
    · rintro i y σ H' hi ⟨v3,rfl,sm,hu'⟩
      have hlt:i<pg.length:=by
        have:=(List.getElem?_eq_some_iff.mp hi).1
        rw[il_len]at this
        exact this
      rw[il_get hlt]at hi
      cases hi
      have flt:=hpg _ (List.getElem_mem hlt)
      have tko:=take_one hlt
      generalize pg[i]=f at *
      have sz:(incd s.count (pg.take i)).size=256:=by rw[incd_size];exact B.wf.c
      refine⟨_,rfl,_,rfl,lu,_,f,_,rfl,rfl,SqL.of hu',nl_get (by rw[sz];exact flt),_,_,rfl,rfl,lu,_,_,f,rfl,rfl,hu',ixN_nat (by rw[nl_len,sz];exact flt),?_⟩
      have e:(nl (incd s.count (pg.take i))).set f (.int (((incd s.count (pg.take i)).getD f 0:Nat)+1:Int))=nl (incd s.count (pg.take (i+1))):=by
        rw[tko,incd_snoc]
        exact nl_set _ f ((incd s.count (pg.take i)).getD f 0+1)
      refine⟨_,rfl,fun b o h=>by rw[upd_ne (ne_of_none h hlu)];exact sm b o h,?_⟩
      rw[upd_same]
      exact congrArg (fun z=>some (HO.lst z)) e
    · rintro σ H' ⟨v3,rfl,sm,hu'⟩
      rw[il_len,List.take_length]at hu'
      have B':=B.keep sm
      obtain⟨dx',ob'⟩:=B'.ob
      have ot':=sm _ _ ot
      have ht':=sm _ _ W.ts
      have sz:(incd s.count pg).size=256:=by rw[incd_size];exact B.wf.c
      have mxI:∀m:Int,m∈((incd s.count pg).toList.map fun(n:Nat)=>(n:Int))→(∀y∈((incd s.count pg).toList.map fun(n:Nat)=>(n:Int)),y≤m)→(m≤65535↔∀f∈pg,s.used f+pg.count f≤65535):=by
        intro m hm hmx
        constructor
        · intro h f hf
          have flt:=hpg f hf
          have mem:(((incd s.count pg).getD f 0:Nat):Int)∈((incd s.count pg).toList.map fun(n:Nat)=>(n:Int)):=by
            refine List.mem_map.mpr ⟨(incd s.count pg).getD f 0,?_,rfl⟩
            rw[Array.getD_eq_getD_getElem?,Array.getElem?_eq_getElem (by rw[sz];exact flt)]
            simp
          have:=hmx _ mem
          rw[incd_get pg s.count f (by rw[B.wf.c];exact flt)]at this
          have e:s.used f=s.count.getD f 0:=rfl
          omega
        · intro h
          obtain⟨n,hn,e⟩:=List.mem_map.mp hm
          obtain⟨g,hg,eg⟩:=List.getElem_of_mem hn
          have hg':g<256:=by simpa [sz] using hg
          have en:n=s.used g+pg.count g:=by
            rw[←eg]
            have:=incd_get pg s.count g (by rw[B.wf.c];exact hg')
            rw[Array.getD_eq_getD_getElem?,Array.getElem?_eq_getElem (by rw[sz];exact hg')]at this
            simpa [Sd19.St.used,Array.getD_eq_getD_getElem?] using this
          rw[←e,en]
          by_cases c:g∈pg
          · have:=h g c
            omega
          · rw[List.count_eq_zero.mpr c]
            have:=hcnt g
            omega
      refine⟨_,rfl,x,_,dt,_,_,rfl,ot',T.c_Tree,T.na_Tree_tables,tf_tables _ _,lt,_,rfl,.inl (SqL.of ht'),_,rfl,p,dx',_,rfl,ob',mf_no _ _ (by decide +kernel) (by decide +kernel),p,lw,lc,s,rfl,B',_,_,rfl,rfl,_,rfl,?_⟩
      refine ite2 (fun g=>?_) (fun g=>?_)
      · have g':ts.length≤M.freeN s:=by
          have:((il ts).length:Int)≤((M.freeN s:Nat):Int):=of_decide_eq_true g
          rw[il_len]at this
          omega
        refine⟨_,rfl,lu,_,rfl,SqL.of (by rw[←nl_ints];exact hu'),?_,fun m hm hmx=>?_⟩
        · rw[List.length_map,Array.length_toList,sz]
          decide
        refine⟨_,_,rfl,rfl,k H' _ ?_ sm⟩
        have:=mxI m hm hmx
        constructor
        · intro h
          exact⟨g',this.mp (of_decide_eq_true h)⟩
        · intro h
          exact decide_eq_true (this.mpr h.2)
      · refine k H' _ ?_ sm
        constructor
        · intro h
          cases h
        · intro h
          refine absurd (decide_eq_true ?_) g
          rw[il_len]
          have:=h.1
          omega
def spCopy (C:Addr):Sp:=fun vs H Q _=>∃(p lw lc:Addr) (s:Sd19.St) (root:Nat),vs=[.ref p,.int (root:Int)]∧MemAt C H p lw lc s∧Sd19.sound s root=true∧M.Cnt s∧DoneI C H p lw lc (Sd19.step s (.copy root)) Q
theorem copy_none (s:Sd19.St) (r:Nat) (h:Sd19.copy 4 r s=none):Sd19.step s (.copy r)=(s,Sd19.no (-2)):=by
 show(match Sd19.copy 4 r s with|none=>(s,Sd19.no (-2))|some x=>(x.2,Sd19.no (x.1:Int)))=_
 rw[h]
theorem copy_some (s:Sd19.St) (r:Nat) {f:Nat} {s':Sd19.St} (h:Sd19.copy 4 r s=some (f,s')):Sd19.step s (.copy r)=(s',Sd19.no (f:Int)):=by
 show(match Sd19.copy 4 r s with|none=>(s,Sd19.no (-2))|some x=>(x.2,Sd19.no (x.1:Int)))=_
 rw[h]
theorem sc_copy_tree:FnScope ["memory","root"] ["memory","root"] (defScope s_copy_tree):=⟨rfl,rfl,rfl,by decide +kernel,rfl,by decide +kernel,by decide +kernel⟩
set_option maxHeartbeats 1000000 in
theorem ok_copy_tree (T:Txt K mg A):FnOk P w K mg base CX0 7 A.copy_tree.1 A.copy_tree.2 ["memory","root"] (spCopy A.C_Memory):=by
  refine T.f_copy_tree.f.ok sc_copy_tree (fun vs H Q E h=>?_) (fun cdv A' outer s0 H vs Q E hr h=>?_)
  · obtain⟨p,lw,lc,s,root,rfl,_⟩:=h
    rfl
  · obtain⟨p,lw,lc,s,root,rfl,B,hs,hcnt,k⟩:=h
    obtain⟨L3,L2,L1,pg,S⟩:=M.snd_of hs
    have SB:=S.sub
    refine⟨_,(pss_cons (ps_if (pt_not (pt_val (pe_call (ok_can_be_copied T) (hr.mono (by decide)) rfl T.f_can_be_copied.m T.f_can_be_copied.f.kp T.f_can_be_copied.b .nil pass0 (pa_cons (pv 0) (pa_cons (pe_make T.mk_Tree (ok_Tree_init T) (hr.mono (by decide)) rfl T.m_Tree T.f_Tree_init.b .nil pass0 (pa_cons (pv 0) (pa_cons (pv 1) pa_nil))) pa_nil))))) (pss_one (ps_ret (pe_globI rfl T.g_TOO_FEW_FRAMES))) pss_nil)
      (pss_one (ps_ret (pe_call (ok_copy_table T) (hr.mono (by decide)) rfl T.f_copy_table.m T.f_copy_table.f.kp T.f_copy_table.b .nil pass0 (pa_cons (pv 0) (pa_cons (pv 1) (pa_cons (pe_ix ix_tup (pe_globR rfl T.g_LEVELS) pe_int (fun _ _=>rfl)) pa_nil))))))),?_⟩
    refine⟨_,rfl,_,rfl,_,rfl,fun x dx hx hdx nx=>?_⟩
    have sm1:Same H (upd (upd H dx (.own x)) x (.ins A.C_Tree dx [])):=(Same.new (o:=.own x) hdx).trans (fun b o e=>by
      by_cases c:b=x
      · rw[c]at e
        rw[upd_ne (Ne.symm nx),hx]at e
        cases e
      · rw[upd_ne c];exact e)
    refine⟨x,dx,p,lw,lc,s,root,L3,L2,L1,pg,rfl,upd_same,B.keep sm1,S,fun H2 lt lp W nlt nlp k2=>⟨rfl,?_⟩⟩
    have sm2:Same H H2:=Same.made hx hdx k2
    have B2:=B.keep sm2
    refine⟨p,lw,lc,x,lt,lp,s,_,_,rfl,B2,W,fun f hf=>(SB.pg f hf).1,hcnt,fun H3 b hb s3=>⟨_,rfl,?_⟩⟩
    have B3:=B2.keep s3
    have kp3:Kp lw lc H H3:=Same.kp (sm2.trans s3)
    have ca:=M.copy_sub 3 root s B.wf SB
    refine ite2 (fun g=>?_) (fun g=>?_)
    · have nr:¬M.Room s (M.tabsF s 4 [root]).length (M.pgsF s 4 [root]):=fun q=>by
        rw[hb.mpr q]at g
        cases g
      rcases ca with⟨R,_⟩|⟨_,e⟩
      · exact absurd R nr
      · rw[copy_none s root e]at k
        exact k H3 B3 kp3
    · have rr:M.Room s (M.tabsF s 4 [root]).length (M.pgsF s 4 [root]):=by
        apply hb.mp
        cases b with
        | true=>rfl
        | false=>exact absurd rfl g
      rcases ca with⟨_,f,s',e,cp,_⟩|⟨R,_⟩
      · rw[copy_some s root e]at k
        refine⟨_,rfl,_,rfl,A.a_LEVELS,_,_,_,rfl,rfl,T.sq_LEVELS _,rfl,p,lw,lc,s,s',root,f,rfl,B3,cp,fun H4 B4 k4=>?_⟩
        exact k H4 B4 (kp3.trans k4)
      · exact absurd rr R
def spDrop (C:Addr):Sp:=fun vs H Q _=>∃(p lw lc:Addr) (s:Sd19.St) (root:Nat),vs=[.ref p,.int (root:Int)]∧MemAt C H p lw lc s∧Sd19.sound s root=true∧DoneI C H p lw lc (Sd19.step s (.drop root)) Q
theorem freed_snoc (s:Sd19.St) (l:List Nat) (t:Nat):M.freed s (l++[t])=(M.freed s l).uses t 0:=by
 unfold M.freed
 rw[List.foldl_append]
 rfl
theorem lessd_snoc (s:Sd19.St) (l:List Nat) (t:Nat):M.lessd s (l++[t])=(M.lessd s l).less t:=by
 unfold M.lessd
 rw[List.foldl_append]
 rfl
theorem sc_drop_tree:FnScope ["memory","root","tree","table","page"] ["memory","root"] (defScope s_drop_tree):=⟨rfl,rfl,rfl,by decide +kernel,rfl,by decide +kernel,by decide +kernel⟩
set_option maxHeartbeats 1000000 in
theorem ok_drop_tree (T:Txt K mg A):FnOk P w K mg base CX0 5 A.drop_tree.1 A.drop_tree.2 ["memory","root"] (spDrop A.C_Memory):=by
  refine T.f_drop_tree.f.ok sc_drop_tree (fun vs H Q E h=>?_) (fun cdv A' outer s0 H vs Q E hr h=>?_)
  · obtain⟨p,lw,lc,s,root,rfl,_⟩:=h
    rfl
  · obtain ⟨p, lw, lc, s, root, rfl, B, hs, k⟩ := h
    obtain⟨L3,L2,L1,pg,S⟩:=M.snd_of hs
    have SB:=S.sub
    obtain⟨et,ep⟩:=S.tabs
    refine⟨_,(pss_cons (ps_set (i:=2) sc_drop_tree.nd rfl (Or.inl rfl) (pe_make T.mk_Tree (ok_Tree_init T) (hr.mono (by decide)) rfl T.m_Tree T.f_Tree_init.b .nil pass0 (pa_cons (pv 0) (pa_cons (pv 1) pa_nil))))
      (pss_cons (ps_for PassesOwn.never rfl (pi_list (pe_fld (pv 2) rfl)) (pg_name (i:=3) sc_drop_tree.nd rfl (Or.inl rfl)) (pss_one (ps_expr (pe_meth (pv 0) T.c_Memory T.f_set_free.mt (ok_set_free T) (hr.mono (by decide)) T.f_set_free.b .nil pass0 (pa_cons (pv 3) pa_nil)))))
      (pss_cons (ps_for PassesOwn.never rfl (pi_list (pe_fld (pv 2) rfl)) (pg_name (i:=4) sc_drop_tree.nd rfl (Or.inl rfl)) (pss_one (ps_expr (pe_meth (pv 0) T.c_Memory T.f_use_once_less.mt (ok_use_once_less T) (hr.mono (by decide)) T.f_use_once_less.b .nil pass0 (pa_cons (pv 4) pa_nil)))))
      (pss_one (ps_ret (pe_globI rfl T.g_DONE)))))),?_⟩
    refine⟨_,rfl,_,rfl,fun x dx hx hdx nx=>?_⟩
    have sm1:Same H (upd (upd H dx (.own x)) x (.ins A.C_Tree dx [])):=(Same.new (o:=.own x) hdx).trans (fun b o e=>by
      by_cases c:b=x
      · rw[c]at e
        rw[upd_ne (Ne.symm nx),hx]at e
        cases e
      · rw[upd_ne c];exact e)
    refine⟨x,dx,p,lw,lc,s,root,L3,L2,L1,pg,rfl,upd_same,B.keep sm1,S,fun H2 lt lp W nlt nlp k2=>⟨rfl,?_⟩⟩
    have sm2:Same H H2:=Same.made hx hdx k2
    have B2:=B.keep sm2
    have nlt':H lt=none:=Same.free sm1 nlt
    have nlp':H lp=none:=Same.free sm1 nlp
    have offt:lt≠lw∧lt≠lc:=by
      obtain⟨ds,h1,_⟩:=B.ws
      exact⟨Ne.symm (ne_of_none h1 nlt'),Ne.symm (ne_of_none B.cs nlt')⟩
    have offp:lp≠lw∧lp≠lc:=by
      obtain⟨ds,h1,_⟩:=B.ws
      exact⟨Ne.symm (ne_of_none h1 nlp'),Ne.symm (ne_of_none B.cs nlp')⟩
    obtain⟨dt,ot⟩:=W.ob
    have offx:=B2.offo ot (fun _ e=>nomatch e)
    have hsub:∀t∈M.tabsF s 4 [root],t<256:=fun t ht=>(SB.lt t ht).1
    have hpgs:∀f∈M.pgsF s 4 [root],f<256∧f∉M.tabsF s 4 [root]∧(M.pgsF s 4 [root]).count f≤s.used f:=by
      rw[ep]
      intro f hf
      refine⟨S.pf f hf,fun hm=>?_,S.pc f hf⟩
      rw[et]at hm
      exact(S.one f (S.mem4.mp hm)).2.1 hf
    have hdrop:Sd19.step s (.drop root)=(M.lessd (M.freed s (M.tabsF s 4 [root])) (M.pgsF s 4 [root]),Sd19.no 0):=by
      show(Sd19.drop 4 root s,Sd19.no 0)=_
      rw[M.drop_as B.wf root _ _ rfl rfl]
    rw[hdrop]at k
    have W2:=W
    generalize M.tabsF s 4 [root]=ts at *
    generalize M.pgsF s 4 [root]=ps at *
    refine⟨_,rfl,x,_,dt,_,_,rfl,ot,T.c_Tree,T.na_Tree_tables,tf_tables _ _,lt,rfl,⟨_,SqL.of W.ts⟩,?_⟩
    refine for_list (K:=K) (a:=lt) (xs:=il ts) (fun i σ H'=>∃(v3:Option V),σ=[some (.ref p),some (.int (root:Int)),some (.ref x),v3,none]∧MemAt A.C_Memory H' p lw lc (M.freed s (ts.take i))∧Kp lw lc H2 H')
      ⟨none,rfl,B2,Kp.refl _ _ _⟩ (fun i σ H' _ ⟨_,_,_,kp⟩=>SqL.of (kp.keep _ _ W.ts offt.1 offt.2 trivial)) ?_ ?_
    · rintro i y σ H' hi ⟨v3,rfl,B',kp⟩
      have hlt:i<ts.length:=by
        have:=(List.getElem?_eq_some_iff.mp hi).1
        rw[il_len]at this
        exact this
      rw[il_get hlt]at hi
      cases hi
      have tlt:=hsub _ (List.getElem_mem hlt)
      have tko:=take_one hlt
      generalize ts[i]=t at *
      obtain⟨dx',ob'⟩:=B'.ob
      refine⟨_,rfl,p,dx',_,rfl,ob',mf_no _ _ (by decide +kernel) (by decide +kernel),_,rfl,p,lw,lc,_,t,rfl,B',tlt,trivial,fun H3 B3 k3=>?_⟩
      refine⟨_,rfl,?_,kp.trans k3⟩
      rw[tko,freed_snoc]
      exact B3
    · rintro σ H' ⟨v3,rfl,B',kp⟩
      rw[il_len,List.take_length]at B'
      have ot':=kp.keep _ _ ot offx.1 offx.2 trivial
      have hp':=kp.keep _ _ W.ps offp.1 offp.2 trivial
      have fd:=M.freed_drp ts s B.wf
      refine⟨_,rfl,x,_,dt,_,_,rfl,ot',T.c_Tree,T.na_Tree_pages,tf_pages _ _,lp,rfl,⟨_,SqL.of hp'⟩,?_⟩
      refine for_list (K:=K) (a:=lp) (xs:=il ps) (fun i σ H'=>∃(v4:Option V),σ=[some (.ref p),some (.int (root:Int)),some (.ref x),v3,v4]∧MemAt A.C_Memory H' p lw lc (M.lessd (M.freed s ts) (ps.take i))∧Kp lw lc H2 H')
        ⟨none,rfl,B',kp⟩ (fun i σ H' _ ⟨_,_,_,kp⟩=>SqL.of (kp.keep _ _ W.ps offp.1 offp.2 trivial)) ?_ ?_
      · rintro i y σ H4 hi ⟨v4,rfl,B4,kp4⟩
        have hlt:i<ps.length:=by
          have:=(List.getElem?_eq_some_iff.mp hi).1
          rw[il_len]at this
          exact this
        rw[il_get hlt]at hi
        cases hi
        have hm:=List.getElem_mem hlt
        have tko:=take_one hlt
        have cnt:(ps.take i).count ps[i]+1≤ps.count ps[i]:=by
          have h2:ps.count ps[i]=(ps.take (i+1)).count ps[i]+(ps.drop (i+1)).count ps[i]:=by
            rw[←List.count_append,List.take_append_drop]
          rw[tko,List.count_append]at h2
          simp at h2
          omega
        generalize ps[i]=f at *
        obtain⟨flt,fnt,fct⟩:=hpgs f hm
        have ld:=M.lessd_drp (ps.take i) (M.freed s ts) fd.wf
        obtain⟨dx',ob'⟩:=B4.ob
        refine⟨_,rfl,p,dx',_,rfl,ob',mf_no _ _ (by decide +kernel) (by decide +kernel),_,rfl,p,lw,lc,_,f,rfl,B4,flt,?_,fun H3 B3 k3=>?_⟩
        · dsimp only
          rw[ld.used,if_neg (by simp),fd.used,if_neg fnt]
          simp
          omega
        refine⟨_,rfl,?_,kp4.trans k3⟩
        rw[tko,lessd_snoc]
        exact B3
      · rintro σ H4 ⟨v4,rfl,B4,kp4⟩
        rw[il_len,List.take_length]at B4
        exact k H4 B4 ((Same.kp sm2).trans kp4)
end
end G
namespace G
open PySem PySem.Spec PyProof.Rows L2
def rf (ln:Addr) (pos:Nat):List (Str×V):=putF "position" (.int (pos:Int)) (putF "numbers" (.ref ln) [])
theorem rf_numbers (ln:Addr) (pos:Nat):(rf ln pos).lookup ("numbers" : Str)=some (.ref ln):=by
 unfold rf
 rw[lookup_putF,if_neg (by decide +kernel),lookup_putF,if_pos rfl]
theorem rf_position (ln:Addr) (pos:Nat):(rf ln pos).lookup ("position" : Str)=some (.int (pos:Int)):=by
 unfold rf
 rw[lookup_putF,if_pos rfl]
theorem rf_no (ln:Addr) (pos:Nat) {m:Str} (h1:¬m = "numbers") (h2:¬m = "position"):(rf ln pos).lookup m=none:=by
 unfold rf
 rw[lookup_putF,if_neg h2,lookup_putF,if_neg h1]
 rfl
theorem rf_put (ln:Addr) (pos pos':Nat) (z:Int) (h:z=(pos':Int)):putF ("position" : Str) (.int z) (rf ln pos)=rf ln pos':=by
 subst h
 have e1:rf ln pos=[(("numbers" : Str),V.ref ln),(("position" : Str),V.int (pos:Int))]:=by
  unfold rf
  show putF ("position" : Str) (.int (pos:Int)) [(("numbers" : Str),V.ref ln)]=_
  show(if("numbers" : Str) = "position" then _ else _)=_
  rw[if_neg (by decide +kernel)]
  rfl
 have e2:rf ln pos'=[(("numbers" : Str),V.ref ln),(("position" : Str),V.int (pos':Int))]:=by
  unfold rf
  show(if("numbers" : Str) = "position" then _ else _)=_
  rw[if_neg (by decide +kernel)]
  rfl
 rw[e1,e2]
 show(if("numbers" : Str) = "position" then _ else _)=_
 rw[if_neg (by decide +kernel)]
 show _::(if("position" : Str) = "position" then _ else _)=_
 rw[if_pos rfl]
theorem rf_len (ln:Addr) (pos:Nat):(rf ln pos).length<1000:=by
 unfold rf
 show(if("numbers" : Str) = "position" then _ else _:List (Str×V)).length<1000
 rw[if_neg (by decide +kernel)]
 show 2<1000
 decide
def ReadAt (C:Addr) (H:Hp) (r ln:Addr) (pos:Nat):Prop:=∃dx,H r=some (.ins C dx (rf ln pos))
structure KO (r:Addr) (H H':Hp):Prop where
 keep:∀b o,H b=some o→b≠r→H' b=some o
 there:∀b,H' b=none→H b=none
theorem KO.trans {r:Addr} {H H1 H2:Hp} (a:KO r H H1) (b:KO r H1 H2):KO r H H2:=⟨fun c o h h1=>b.keep c o (a.keep c o h h1) h1,fun c h=>a.there c (b.there c h)⟩
theorem KO.upd {r:Addr} {H:Hp} {o:HO}:KO r H (upd H r o):=⟨fun b u e h=>by rw[upd_ne h];exact e,fun _ h=>upd_there h⟩
theorem KO.new {r q:Addr} {H:Hp} {o:HO} (h:H q=none):KO r H (L2.upd H q o):=⟨fun b u e _=>by rw[upd_ne (ne_of_none e h)];exact e,fun _ h=>upd_there h⟩
theorem KO.seq {K:PySem.W.Frag} {r a:Addr} {H H':Hp} {xs:List V} (k:KO r H H') (h:SqL K H a xs) (n:a≠r∨∀H'',SqL K H'' a xs):SqL K H' a xs:=by
 rcases n with n|n
 case inr=>exact n _
 rcases h with(h|⟨o,h⟩)|h
 ·exact .inl (.inl (k.keep _ _ h n))
 ·exact .inl (.inr ⟨o,k.keep _ _ h n⟩)
 ·exact .inr h
theorem Kp.seq {K:PySem.W.Frag} {lw lc a:Addr} {H H':Hp} {xs:List V} (k:Kp lw lc H H') (h:SqL K H a xs) (n1:a≠lw∨∀H'',SqL K H'' a xs) (n2:a≠lc∨∀H'',SqL K H'' a xs):SqL K H' a xs:=by
 rcases n1 with n1|n1
 case inr=>exact n1 _
 rcases n2 with n2|n2
 case inr=>exact n2 _
 rcases h with(h|⟨o,h⟩)|h
 ·exact .inl (.inl (k.keep _ _ h n1 n2 trivial))
 ·exact .inl (.inr ⟨o,k.keep _ _ h n1 n2 trivial⟩)
 ·exact .inr h
theorem MemAt.ko {C p lw lc r CR ln:Addr} {pos:Nat} {s:Sd19.St} {H H':Hp} (B:MemAt C H p lw lc s) (R:ReadAt CR H r ln pos) (k:KO r H H'):MemAt C H' p lw lc s:=by
 obtain⟨dx,ob⟩:=B.ob
 obtain⟨dr,hr⟩:=R
 obtain⟨ds,h1,h2,h3,h4⟩:=B.ws
 have npr:p≠r:=fun e=>by
  rw[e,hr]at ob
  have e2:=(HO.ins.inj (Option.some.inj ob)).2.2
  have e3:=rf_numbers ln pos
  rw[e2,mf_no lw lc (by decide +kernel) (by decide +kernel)]at e3
  cases e3
 exact⟨⟨dx,k.keep _ _ ob npr⟩,⟨ds,k.keep _ _ h1 (ne_of h1 hr (fun e=>nomatch e)),h2,h3,fun g d e=>let ⟨kv,h5,h6⟩:=h4 g d e;⟨kv,k.keep _ _ h5 (ne_of h5 hr (fun e=>nomatch e)),h6⟩⟩,k.keep _ _ B.cs (ne_of B.cs hr (fun e=>nomatch e)),B.wf⟩
section
variable {P:Program} {w:World} {K:PySem.W.Frag} {mg:Str→Option Value} {base:Heap} {A:Adr}
def vi (l:List Int):List V:=l.map V.int
theorem vi_len (l:List Int):(vi l).length=l.length:=by simp[vi]
theorem drop_at {ns rest:List Int} {pos:Nat} {x:Int} (h:ns.drop pos=x::rest):ns[pos]? = some x∧ns.drop (pos+1)=rest∧pos<ns.length:=by
 have hl:pos<ns.length:=by
  apply Decidable.byContradiction
  intro c
  rw[List.drop_eq_nil_iff.mpr (by omega)]at h
  cases h
 rw[List.drop_eq_getElem_cons hl]at h
 injection h with h1 h2
 exact⟨by rw[List.getElem?_eq_getElem hl,h1],h2,hl⟩
def spReaderInit (C:Addr):Sp:=fun vs H Q _=>∃(r dx ln:Addr),vs=[.ref r,.ref ln]∧H r=some (.ins C dx [])∧∀H',ReadAt C H' r ln 0→KO r H H'→Q .non H'
theorem sc_Reader_init:FnScope ["self","numbers"] ["self","numbers"] (defScope s_Reader_init):=⟨rfl,rfl,rfl,by decide +kernel,rfl,by decide +kernel,by decide +kernel⟩
theorem ok_Reader_init (T:Txt K mg A):FnOk P w K mg base CX0 1 A.Reader_init.1 A.Reader_init.2 ["self","numbers"] (spReaderInit A.C_Reader):=by
 refine T.f_Reader_init.f.ok sc_Reader_init (fun vs H Q E h=>?_) (fun cdv A' outer s0 H vs Q E hr h=>?_)
 ·obtain⟨r,dx,ln,rfl,_⟩:=h
  rfl
 ·obtain⟨r,dx,ln,rfl,h,k⟩:=h
  refine⟨_,(pss_cons (ps_fld (pv 0) (pv 1) rfl)
   (pss_one (ps_fld (pv 0) pe_int rfl))),?_⟩
  refine⟨_,rfl,_,rfl,r,_,dx,_,rfl,h,T.c_Reader,T.na_Reader_numbers,(by show 0<1000;decide),?_⟩
  refine⟨_,rfl,r,_,dx,_,rfl,upd_same,T.c_Reader,T.na_Reader_position,(by show 1<1000;decide),?_⟩
  rw[upd_upd]
  exact k _ ⟨dx,upd_same⟩ KO.upd
def spAtEnd (C:Addr):Sp:=fun vs H Q _=>∃(r ln:Addr) (pos:Nat) (ns:List Int),vs=[.ref r]∧ReadAt C H r ln pos∧SqL K H ln (vi ns)∧Q (.bl (decide (pos=ns.length))) H
theorem sc_at_end:FnScope ["self"] ["self"] (defScope s_at_end):=⟨rfl,rfl,rfl,by decide +kernel,rfl,by decide +kernel,by decide +kernel⟩
theorem ok_at_end (T:Txt K mg A):FnOk P w K mg base CX0 1 A.at_end.1 A.at_end.2 ["self"] (spAtEnd (K:=K) A.C_Reader):=by
 refine T.f_at_end.f.ok sc_at_end (fun vs H Q E h=>?_) (fun cdv A' outer s0 H vs Q E hr h=>?_)
 ·obtain⟨r,ln,pos,ns,rfl,_⟩:=h
  rfl
 ·obtain⟨r,ln,pos,ns,rfl,⟨dr,or_⟩,hn,k⟩:=h
  refine⟨_,(pss_one (ps_ret (pe_cmpR op_eq (pe_fld (pv 0) rfl) (pe_callB call_len_seq (by rfl) T.no_len boot_len (pa_cons (pe_fld (pv 0) rfl) pa_nil)) (nomark _)))),?_⟩
  refine⟨_,rfl,r,_,dr,_,_,rfl,or_,T.c_Reader,T.na_Reader_position,rf_position _ _,_,rfl,r,_,dr,_,_,rfl,or_,T.c_Reader,T.na_Reader_numbers,rf_numbers _ _,ln,_,rfl,.inl hn,rfl,cb ?_ k⟩
  rw[vi_len]
  by_cases h:pos=ns.length
  ·rw[decide_eq_true h,h]
   exact decide_eq_true rfl
  ·rw[decide_eq_false h]
   exact decide_eq_false (by intro e;injection e with e;omega)
def spTakeN (C:Addr):Sp:=fun vs H Q _=>∃(r ln:Addr) (pos:Nat) (ns rest:List Int) (x:Int),vs=[.ref r]∧ReadAt C H r ln pos∧SqL K H ln (vi ns)∧ns.drop pos=x::rest∧∀H',ReadAt C H' r ln (pos+1)→KO r H H'→Q (.int x) H'
theorem sc_take_number:FnScope ["self","number"] ["self"] (defScope s_take_number):=⟨rfl,rfl,rfl,by decide +kernel,rfl,by decide +kernel,by decide +kernel⟩
theorem ok_take_number (T:Txt K mg A):FnOk P w K mg base CX0 1 A.take_number.1 A.take_number.2 ["self"] (spTakeN (K:=K) A.C_Reader):=by
 refine T.f_take_number.f.ok sc_take_number (fun vs H Q E h=>?_) (fun cdv A' outer s0 H vs Q E hr h=>?_)
 ·obtain⟨r,ln,pos,ns,rest,x,rfl,_⟩:=h
  rfl
 ·obtain⟨r,ln,pos,ns,rest,x,rfl,⟨dr,or_⟩,hn,hd,k⟩:=h
  obtain⟨hx,_,_⟩:=drop_at hd
  refine⟨_,(pss_cons (ps_set (i:=1) sc_take_number.nd rfl (Or.inl rfl) (pe_ix ix_list (pe_fld (pv 0) rfl) (pe_fld (pv 0) rfl) (fun _ _=>rfl)))
   (pss_cons (ps_fldaug (pv 0) pe_int in_add)
   (pss_one (ps_ret (pv 1))))),?_⟩
  refine⟨_,rfl,r,_,dr,_,_,rfl,or_,T.c_Reader,T.na_Reader_numbers,rf_numbers _ _,_,rfl,r,_,dr,_,_,rfl,or_,T.c_Reader,T.na_Reader_position,rf_position _ _,ln,_,_,_,rfl,rfl,hn,atI_nat (by unfold vi;rw[List.getElem?_map,hx];rfl),?_⟩
  refine⟨_,rfl,r,_,dr,_,_,rfl,or_,T.c_Reader,T.na_Reader_position,rf_position _ _,_,_,rfl,rfl,dr,_,or_,rf_len _ _,?_⟩
  refine⟨_,rfl,?_⟩
  rw[rf_put ln pos (pos+1) _ (by omega)]
  exact k _ ⟨dr,upd_same⟩ KO.upd
theorem cut_vi {ns xs rest:List Int} {pos:Nat} (h:ns.drop pos=xs++rest) (z:Int) (hz:z=((pos+xs.length:Nat):Int)):cutV (vi ns) (some ((pos:Nat):Int)) (some z)=vi xs:=by
 subst hz
 unfold cutV vi
 rw[HT.sIx_nat,HT.sIx_nat,List.length_map]
 have hlen:ns.length - pos=xs.length+rest.length:=by
  have:=congrArg List.length h
  rw[List.length_drop,List.length_append]at this
  exact this
 by_cases hp:pos≤ns.length
 ·rw[Nat.min_eq_left hp,Nat.min_eq_left (by omega),show pos+xs.length - pos=xs.length by omega,←List.map_drop,h,List.map_append,List.take_left' (by simp)]
 ·have e0:xs.length=0:=by omega
  have e1:xs=[]:=List.length_eq_zero_iff.mp e0
  subst e1
  have hm:min pos ns.length=ns.length:=Nat.min_eq_right (by omega)
  have hm2:min (pos+([]:List Int).length) ns.length=ns.length:=Nat.min_eq_right (show ns.length≤pos+0 by omega)
  rw[hm2,hm,Nat.sub_self]
  rfl
def spTakeNs (C:Addr):Sp:=fun vs H Q _=>∃(r ln:Addr) (pos:Nat) (ns xs rest:List Int) (n:Int),vs=[.ref r,.int n]∧ReadAt C H r ln pos∧SqL K H ln (vi ns)∧ns.drop pos=xs++rest∧n=(xs.length:Int) ∧
 ∀(H':Hp) (q:Addr),H' q=some (.lst (vi xs))→H q=none→ReadAt C H' r ln (pos+xs.length)→KO r H H'→Q (.ref q) H'
theorem sc_take_numbers:FnScope ["self","how_many","taken"] ["self","how_many"] (defScope s_take_numbers):=⟨rfl,rfl,rfl,by decide +kernel,rfl,by decide +kernel,by decide +kernel⟩
theorem ok_take_numbers (T:Txt K mg A):FnOk P w K mg base CX0 1 A.take_numbers.1 A.take_numbers.2 ["self","how_many"] (spTakeNs (K:=K) A.C_Reader):=by
 refine T.f_take_numbers.f.ok sc_take_numbers (fun vs H Q E h=>?_) (fun cdv A' outer s0 H vs Q E hr h=>?_)
 ·obtain⟨r,ln,pos,ns,xs,rest,n,rfl,_⟩:=h
  rfl
 ·obtain⟨r,ln,pos,ns,xs,rest,n,rfl,⟨dr,or_⟩,hn,hd,hxl,k⟩:=h
  refine⟨_,(pss_cons (ps_set (i:=2) sc_take_numbers.nd rfl (Or.inl rfl) (pe_slice sl_list (pe_fld (pv 0) rfl) (po_some (pe_fld (pv 0) rfl)) (po_some (pe_op op_add (pe_fld (pv 0) rfl) (pv 1)))))
   (pss_cons (ps_fldaug (pv 0) (pv 1) in_add)
   (pss_one (ps_ret (pv 2))))),?_⟩
  refine⟨_,rfl,r,_,dr,_,_,rfl,or_,T.c_Reader,T.na_Reader_numbers,rf_numbers _ _,_,rfl,r,_,dr,_,_,rfl,or_,T.c_Reader,T.na_Reader_position,rf_position _ _,_,rfl,_,rfl,r,_,dr,_,_,rfl,or_,T.c_Reader,T.na_Reader_position,rf_position _ _,_,rfl,_,_,rfl,rfl,_,rfl,ln,_,rfl,hn,fun q hq=>?_⟩
  rw[cut_vi hd _ (by rw[hxl];omega)]
  have nrq:r≠q:=ne_of_none or_ hq
  have or2:L2.upd H q (.lst (vi xs)) r=some (.ins A.C_Reader dr (rf ln pos)):=by rw[upd_ne nrq];exact or_
  refine⟨_,rfl,r,_,dr,_,_,rfl,or2,T.c_Reader,T.na_Reader_position,rf_position _ _,_,rfl,_,_,rfl,rfl,dr,_,or2,rf_len _ _,?_⟩
  refine⟨_,rfl,?_⟩
  rw[rf_put ln pos (pos+xs.length) _ (by rw[hxl];omega)]
  exact k _ q (by rw[upd_ne (Ne.symm nrq),upd_same]) hq ⟨dr,upd_same⟩ ((KO.new hq).trans KO.upd)
def spTakeRow (C:Addr):Sp:=fun vs H Q _=>∃(r ln:Addr) (pos:Nat) (ns xs rest:List Int),vs=[.ref r]∧ReadAt C H r ln pos∧SqL K H ln (vi ns)∧(ln≠r∨∀H',SqL K H' ln (vi ns))∧ns.drop pos=(xs.length:Int)::(xs++rest) ∧
 ∀(H':Hp) (q:Addr),H' q=some (.lst (vi xs))→H q=none→ReadAt C H' r ln (pos+1+xs.length)→KO r H H'→Q (.ref q) H'
theorem sc_take_row:FnScope ["self"] ["self"] (defScope s_take_row):=⟨rfl,rfl,rfl,by decide +kernel,rfl,by decide +kernel,by decide +kernel⟩
theorem ok_take_row (T:Txt K mg A):FnOk P w K mg base CX0 2 A.take_row.1 A.take_row.2 ["self"] (spTakeRow (K:=K) A.C_Reader):=by
 refine T.f_take_row.f.ok sc_take_row (fun vs H Q E h=>?_) (fun cdv A' outer s0 H vs Q E hr h=>?_)
 ·obtain⟨r,ln,pos,ns,xs,rest,rfl,_⟩:=h
  rfl
 ·obtain⟨r,ln,pos,ns,xs,rest,rfl,⟨dr,or_⟩,hn,nl,hd,k⟩:=h
  refine⟨_,(pss_one (ps_ret (pe_meth (pv 0) T.c_Reader T.f_take_numbers.mt (ok_take_numbers T) (hr.mono (by decide)) T.f_take_numbers.b .nil pass0 (pa_cons (pe_meth0 (pv 0) T.c_Reader T.f_take_number.mt (ok_take_number T) (hr.mono (by decide)) T.f_take_number.b .nil pass0) pa_nil)))),?_⟩
  refine⟨_,rfl,r,dr,_,rfl,or_,rf_no _ _ (by decide +kernel) (by decide +kernel),_,rfl,r,dr,_,rfl,or_,rf_no _ _ (by decide +kernel) (by decide +kernel),r,ln,pos,ns,_,_,rfl,⟨dr,or_⟩,hn,hd,fun H1 R1 k1=>?_⟩
  refine⟨r,ln,pos+1,ns,xs,rest,_,rfl,R1,k1.seq hn nl,(drop_at hd).2.1,rfl,fun H2 q hq nq R2 k2=>?_⟩
  exact k H2 q hq (k1.there q nq) R2 (k1.trans k2)
def spMemInit (C:Addr):Sp:=fun vs H Q _=>∃(p dx:Addr),vs=[.ref p]∧H p=some (.ins C dx [])∧∀(H':Hp) (lw lc:Addr),MemAt C H' p lw lc Sd19.begun→H lw=none→H lc=none→KO p H H'→Q .non H'
theorem rep_zero (n:Nat):(List.replicate n [V.int 0]).flatten=List.replicate n (V.int 0):=by
 induction n with
 | zero=>rfl
 | succ n ih=>rw[List.replicate_succ,List.flatten_cons,ih,List.replicate_succ];rfl
theorem nl_begun:nl Sd19.begun.count=List.replicate 256 (V.int 0):=by
 unfold nl Sd19.begun
 show(Array.replicate 256 0).toList.map _=_
 rw[Array.toList_replicate,List.map_replicate]
 rfl
theorem begun_wf:M.WF Sd19.begun:=⟨M.blank_ok,by show(Array.replicate 256 0).size=256;rw[Array.size_replicate]⟩
theorem begun_load (b:Nat):Sd19.load Sd19.begun.mem b=0:=by
 show Sd19.load Sd19.blank b=0
 unfold Sd19.load Sd19.blank
 rw[Array.getD_eq_getD_getElem?,Array.getElem?_replicate]
 split<;>rfl
theorem sc_Memory_init:FnScope ["self","frame"] ["self"] (defScope s_Memory_init):=⟨rfl,rfl,rfl,by decide +kernel,rfl,by decide +kernel,by decide +kernel⟩
set_option maxHeartbeats 1000000 in
theorem ok_Memory_init (T:Txt K mg A):FnOk P w K mg base CX0 1 A.Memory_init.1 A.Memory_init.2 ["self"] (spMemInit A.C_Memory):=by
  refine T.f_Memory_init.f.ok sc_Memory_init (fun vs H Q E h=>?_) (fun cdv A' outer s0 H vs Q E hr h=>?_)
  · obtain⟨p,dx,rfl,_⟩:=h
    rfl
  · obtain⟨p,dx,rfl,hp,k⟩:=h
    refine⟨_,(pss_cons (ps_fld (pv 0) (pe_lc rfl sc_Memory_init.nd (pi_range1 rfl T.no_range (pa_cons (pe_globI rfl T.g_FRAME_COUNT) pa_nil)) (own:=[("frame",1)]) (show BlkOk ["self","frame"] (defScope s_Memory_init) _ _ from⟨rfl,by decide +kernel,by decide +kernel,by decide +kernel,by decide +kernel⟩) (fun _ _ _ _ _=>(pg_name (i:=1) sc_Memory_init.nd rfl (Or.inl rfl))) (fun _ _ _ _ _=>pts_nil) (fun _ _ _ _ _=>pe_dnewK)) rfl)
      (pss_one (ps_fld (pv 0) (pe_op op_rep (pe_lst (pa_cons pe_int pa_nil)) (pe_globI rfl T.g_FRAME_COUNT)) rfl))),?_⟩
    refine⟨256,rfl,by decide,by decide,fun D hD=>?_⟩
    have npD:p≠D:=ne_of_none hp hD
    refine lc_by 256 (fun i H'=>∃ds:List Addr,H' D=some (.lst (ds.map V.ref))∧ds.length=i∧ds.Nodup∧(∀d∈ds,H' d=some (.dK [])∧H d=none)∧∀b o,H b=some o→H' b=some o) ?_ ?_ ?_
    · exact⟨[],upd_same,rfl,List.nodup_nil,(fun _ h=>nomatch h),fun b o e=>by rw[upd_ne (ne_of_none e hD)];exact e⟩
    · rintro i H' hi ⟨ds,g1,g2,g3,g4,g5⟩
      refine⟨hi,?_⟩
      rintro x H'' ⟨rfl,rfl⟩
      refine⟨rfl,?_⟩
      refine fun d hd=>?_
      have nDd:D≠d:=ne_of_none g1 hd
      have hd0:H d=none:=by
        cases e:H d with
        | none=>rfl
        | some o=>rw[g5 d o e]at hd;cases hd
      have nin:d∉ds:=fun m=>by rw[(g4 d m).1]at hd;cases hd
      refine⟨_,(by rw[upd_ne nDd];exact g1),?_,ds++[d],?_,by simp[g2],nd_snoc g3 nin,fun c hc=>?_,fun b o e=>?_⟩
      · rw[List.length_map,g2]
        exact Nat.lt_trans hi (by decide)
      · rw[upd_same,List.map_append]
        rfl
      · rcases List.mem_append.mp hc with m|m
        · have h1:=g4 c m
          have n1:c≠D:=fun e=>by rw[e,g1]at h1;cases h1.1
          have n2:c≠d:=fun e=>nin (e▸m)
          exact⟨by rw[upd_ne n1,upd_ne n2];exact h1.1,h1.2⟩
        · have:c=d:=by simpa using m
          rw[this]
          exact⟨by rw[upd_ne (Ne.symm nDd),upd_same],hd0⟩
      · rw[upd_ne (ne_of_none e hD),upd_ne (ne_of_none e hd0)]
        exact g5 b o e
    · rintro H' ⟨ds,g1,g2,g3,g4,g5⟩
      refine⟨Nat.le_refl _,?_⟩
      have hp':=g5 _ _ hp
      refine⟨_,rfl,p,_,dx,_,rfl,hp',T.c_Memory,T.na_Memory_frames,(by show 0<1000;decide),?_⟩
      refine⟨(by show 1≤sizeLine;decide),fun l1 hl1=>?_⟩
      refine⟨l1,256,_,rfl,rfl,upd_same,by decide,by decide,(by show 1 * 256≤sizeLine;decide),fun l2 hl2=>?_⟩
      have np1:p≠l1:=fun e=>by rw[←e,upd_same]at hl1;cases hl1
      have np2:p≠l2:=fun e=>by rw[←e,upd_ne np1,upd_same]at hl2;cases hl2
      have hl1':H' l1=none:=by rw[upd_ne (Ne.symm np1)]at hl1;exact hl1
      have n12:l1≠l2:=fun e=>by rw[←e,upd_same]at hl2;cases hl2
      have hl2':H' l2=none:=by rw[upd_ne (Ne.symm n12),upd_ne (Ne.symm np2)]at hl2;exact hl2
      have n2D:D≠l2:=ne_of_none g1 hl2'
      have n1D:D≠l1:=ne_of_none g1 hl1'
      refine⟨_,rfl,p,_,dx,_,rfl,(by rw[upd_ne np2,upd_ne np1,upd_same]),T.c_Memory,T.na_Memory_counts,(by show 1<1000;decide),?_⟩
      have ers:(List.replicate ((256:Int)).toNat [V.int 0]).flatten=nl Sd19.begun.count:=by
        rw[nl_begun]
        exact rep_zero 256
      have hl20:H l2=none:=by
        cases e:H l2 with
        | none=>rfl
        | some o=>rw[g5 l2 o e]at hl2';cases hl2'
      have hl10:H l1=none:=by
        cases e:H l1 with
        | none=>rfl
        | some o=>rw[g5 l1 o e]at hl1';cases hl1'
      have npD':D≠p:=Ne.symm npD
      refine k _ D l2 ⟨⟨dx,upd_same⟩,⟨ds,?_,g2,g3,fun f d e=>⟨[],?_,FrOk.new fun i _=>begun_load _⟩⟩,?_,begun_wf⟩ hD hl20 ⟨fun b o e hb=>?_,fun b e=>?_⟩
      · rw[upd_ne npD',upd_ne n2D,upd_ne n1D,upd_ne npD']
        exact g1
      · obtain⟨h1,h2⟩:=g4 d (List.mem_of_getElem? e)
        rw[upd_ne (fun e=>by rw[e,hp']at h1;cases h1),upd_ne (ne_of_none h1 hl2'),upd_ne (ne_of_none h1 hl1'),upd_ne (fun e=>by rw[e,hp']at h1;cases h1)]
        exact h1
      · rw[upd_ne (Ne.symm np2),upd_same]
        exact congrArg (fun z=>some (HO.lst z)) ers
      · rw[upd_ne hb,upd_ne (ne_of_none e hl20),upd_ne (ne_of_none e hl10),upd_ne hb]
        exact g5 b o e
      · have e1:=upd_there (upd_there (upd_there (upd_there e)))
        cases c:H b with
        | none=>rfl
        | some o=>rw[g5 b o c]at e1;cases e1
end
end G
namespace G
open PySem PySem.Spec PyProof.Rows L2
structure Sit (C CR:Addr) (K:PySem.W.Frag) (H:Hp) (p lw lc r ln:Addr) (s:Sd19.St) (ns:List Int) (pos:Nat):Prop where
 m:MemAt C H p lw lc s
 rd:ReadAt CR H r ln pos
 n:SqL K H ln (vi ns)
 n1:ln≠lw∨∀H'',SqL K H'' ln (vi ns)
 n2:ln≠lc∨∀H'',SqL K H'' ln (vi ns)
 n3:ln≠r∨∀H'',SqL K H'' ln (vi ns)
structure KR (lw lc r:Addr) (H H':Hp):Prop where
 keep:∀b o,H b=some o→b≠lw→b≠lc→b≠r→NoD o→H' b=some o
 there:∀b,H' b=none→H b=none
theorem KR.trans {lw lc r:Addr} {H H1 H2:Hp} (a:KR lw lc r H H1) (b:KR lw lc r H1 H2):KR lw lc r H H2:=⟨fun c o h h1 h2 h3 h4=>b.keep c o (a.keep c o h h1 h2 h3 h4) h1 h2 h3 h4,fun c h=>a.there c (b.there c h)⟩
theorem KO.kr {lw lc r:Addr} {H H':Hp} (k:KO r H H'):KR lw lc r H H':=⟨fun b o h _ _ h3 _=>k.keep b o h h3,k.there⟩
theorem Kp.kr {lw lc r:Addr} {H H':Hp} (k:Kp lw lc H H'):KR lw lc r H H':=⟨fun b o h h1 h2 _ h4=>k.keep b o h h1 h2 h4,k.there⟩
section
variable {C CR:Addr} {K:PySem.W.Frag} {H H':Hp} {p lw lc r ln:Addr} {s s':Sd19.St} {ns:List Int} {pos pos':Nat}
theorem Sit.ko (S:Sit C CR K H p lw lc r ln s ns pos) (k:KO r H H') (R:ReadAt CR H' r ln pos'):Sit C CR K H' p lw lc r ln s ns pos' :=
 ⟨S.m.ko S.rd k,R,k.seq S.n S.n3,S.n1,S.n2,S.n3⟩
theorem Sit.kp (S:Sit C CR K H p lw lc r ln s ns pos) (k:Kp lw lc H H') (B:MemAt C H' p lw lc s'):Sit C CR K H' p lw lc r ln s' ns pos:=by
 obtain⟨dr,hr⟩:=S.rd
 have o:=S.m.offo hr (fun _ e=>nomatch e)
 exact⟨B,⟨dr,k.keep _ _ hr o.1 o.2 trivial⟩,k.seq S.n S.n1 S.n2,S.n1,S.n2,S.n3⟩
theorem Sit.at_l (S:Sit C CR K H p lw lc r ln s ns pos) {l:Addr} {xs ys:List V} (h:H l=some (.lst xs)) (h1:l≠lw) (h2:l≠lc) (h3:ln≠l∨∀H'',SqL K H'' ln (vi ns)):Sit C CR K (L2.upd H l (.lst ys)) p lw lc r ln s ns pos:=by
 obtain⟨dx,ob⟩:=S.m.ob
 obtain⟨dr,hr⟩:=S.rd
 obtain⟨ds,g1,g2,g3,g4⟩:=S.m.ws
 refine⟨⟨⟨dx,by rw[upd_ne (ne_of ob h (fun e=>nomatch e))];exact ob⟩,⟨ds,by rw[upd_ne (Ne.symm h1)];exact g1,g2,g3,fun g d e=>let ⟨kv,h5,h6⟩:=g4 g d e;⟨kv,by rw[upd_ne (ne_of h5 h (fun e=>nomatch e))];exact h5,h6⟩⟩,by rw[upd_ne (Ne.symm h2)];exact S.m.cs,S.m.wf⟩,
  ⟨dr,by rw[upd_ne (ne_of hr h (fun e=>nomatch e))];exact hr⟩,?_,S.n1,S.n2,S.n3⟩
 exact(KO.upd (r:=l)).seq S.n h3
def AnsD (C CR:Addr) (K:PySem.W.Frag) (H:Hp) (p lw lc r ln:Addr) (s':Sd19.St) (ns:List Int) (pos':Nat) (l:List Int) (Q:VK):Prop :=
 ∀(H':Hp) (z:Addr),H' z=some (.lst (vi l))→H z=none→Sit C CR K H' p lw lc r ln s' ns pos'→KR lw lc r H H'→Q (.ref z) H'
end
def spA (K:PySem.W.Frag) (C CR:Addr) (pre:Sd19.St→List Int→Sd19.St→List Int→Prop):Sp:=fun vs H Q _=>∃(p lw lc r ln:Addr) (s s':Sd19.St) (ns args rest l:List Int) (pos:Nat),vs=[.ref p,.ref r]∧Sit C CR K H p lw lc r ln s ns pos ∧
 ns.drop pos=args++rest∧pre s args s' l∧AnsD C CR K H p lw lc r ln s' ns (pos+args.length) l Q
def preGive (s:Sd19.St) (args:List Int) (s':Sd19.St) (l:List Int):Prop:=∃root addr flags:Nat,args=[(root:Int),(addr:Int),(flags:Int)]∧Sd19.sound s root=true∧addr<2 ^ 64∧s'=(Sd19.step s (.give root addr flags)).1∧l=[(Sd19.step s (.give root addr flags)).2.value]
def preShare (s:Sd19.St) (args:List Int) (s':Sd19.St) (l:List Int):Prop:=∃root addr f flags:Nat,args=[(root:Int),(addr:Int),(f:Int),(flags:Int)]∧Sd19.sound s root=true∧addr<2 ^ 64∧s'=(Sd19.step s (.share root addr f flags)).1∧l=[(Sd19.step s (.share root addr f flags)).2.value]
def preBack (s:Sd19.St) (args:List Int) (s':Sd19.St) (l:List Int):Prop:=∃root addr:Nat,args=[(root:Int),(addr:Int)]∧Sd19.sound s root=true∧addr<2 ^ 64∧s'=(Sd19.step s (.takeBack root addr)).1∧l=[(Sd19.step s (.takeBack root addr)).2.value]
def preTouch (s:Sd19.St) (args:List Int) (s':Sd19.St) (l:List Int):Prop:=∃root addr:Nat,args=[(root:Int),(addr:Int)]∧Sd19.sound s root=true∧addr<2 ^ 64∧s'=(Sd19.step s (.touch root addr)).1∧l=[(Sd19.step s (.touch root addr)).2.value]
def preLook (s:Sd19.St) (args:List Int) (s':Sd19.St) (l:List Int):Prop:=∃(a f r addr:Nat) (kz:Int),args=[(a:Int),(f:Int),(r:Int),(addr:Int),kz]∧addr<2 ^ 64∧s'=(Sd19.step s (.look (M.cpuOf a f r) addr kz)).1∧l=ansOf (Sd19.step s (.look (M.cpuOf a f r) addr kz)).2
def preRead (s:Sd19.St) (args:List Int) (s':Sd19.St) (l:List Int):Prop:=∃(a f r addr:Nat) (kz:Int),args=[(a:Int),(f:Int),(r:Int),(addr:Int),kz]∧addr<2 ^ 64∧s'=(Sd19.step s (.read (M.cpuOf a f r) addr kz)).1∧l=ansOf (Sd19.step s (.read (M.cpuOf a f r) addr kz)).2
def preWrite (s:Sd19.St) (args:List Int) (s':Sd19.St) (l:List Int):Prop:=∃(a f r addr:Nat) (kz:Int) (bs:List Nat),args=[(a:Int),(f:Int),(r:Int),(addr:Int),kz]++((bs.length:Int)::Sd19Neutral.ints bs)∧addr<2 ^ 64∧(∀b∈bs,b<256)∧((0≤kz∧kz≤65536)→(bs.length:Int)=kz) ∧
 s'=(Sd19.step s (.write (M.cpuOf a f r) addr kz bs)).1∧l=ansOf (Sd19.step s (.write (M.cpuOf a f r) addr kz bs)).2
section
variable {P:Program} {w:World} {K:PySem.W.Frag} {mg:Str→Option Value} {base:Heap} {A:Adr}
theorem sc_answer_give:FnScope ["memory","reader","root","addr","flags"] ["memory","reader"] (defScope s_answer_give):=⟨rfl,rfl,rfl,by decide +kernel,rfl,by decide +kernel,by decide +kernel⟩
theorem ok_answer_give (T:Txt K mg A):FnOk P w K mg base CX0 5 A.answer_give.1 A.answer_give.2 ["memory","reader"] (spA K A.C_Memory A.C_Reader preGive):=by
 refine T.f_answer_give.f.ok sc_answer_give (fun vs H Q E h=>?_) (fun cdv A' outer s0 H vs Q E hr h=>?_)
 ·obtain⟨p,lw,lc,r,ln,s,s',ns,args,rest,l,pos,rfl,_⟩:=h
  rfl
 ·obtain⟨p,lw,lc,r,ln,s,s',ns,args,rest,l,pos,rfl,S,hd,⟨root,addr,flags,rfl,hs,ha,rfl,rfl⟩,k⟩:=h
  refine⟨_,(pss_cons (ps_set (i:=2) sc_answer_give.nd rfl (Or.inl rfl) (pe_meth0 (pv 1) T.c_Reader T.f_take_number.mt (ok_take_number T) (hr.mono (by decide)) T.f_take_number.b .nil pass0))
   (pss_cons (ps_set (i:=3) sc_answer_give.nd rfl (Or.inl rfl) (pe_meth0 (pv 1) T.c_Reader T.f_take_number.mt (ok_take_number T) (hr.mono (by decide)) T.f_take_number.b .nil pass0))
   (pss_cons (ps_set (i:=4) sc_answer_give.nd rfl (Or.inl rfl) (pe_meth0 (pv 1) T.c_Reader T.f_take_number.mt (ok_take_number T) (hr.mono (by decide)) T.f_take_number.b .nil pass0))
   (pss_one (ps_ret (pe_lst (pa_cons (pe_call (ok_give T) (hr.mono (by decide)) rfl T.f_give.m T.f_give.f.kp T.f_give.b .nil pass0 (pa_cons (pv 0) (pa_cons (pv 2) (pa_cons (pv 3) (pa_cons (pv 4) pa_nil))))) pa_nil))))))),?_⟩
  obtain⟨dr,or_⟩:=S.rd
  refine⟨_,rfl,r,dr,_,rfl,or_,rf_no _ _ (by decide +kernel) (by decide +kernel),r,ln,pos,ns,_,_,rfl,S.rd,S.n,hd,fun H1 R1 k1=>?_⟩
  have S1:=S.ko k1 R1
  obtain⟨dr1,or1⟩:=S1.rd
  have hd1:=(drop_at hd).2.1
  refine⟨_,rfl,r,dr1,_,rfl,or1,rf_no _ _ (by decide +kernel) (by decide +kernel),r,ln,_,ns,_,_,rfl,S1.rd,S1.n,hd1,fun H2 R2 k2=>?_⟩
  have S2:=S1.ko k2 R2
  obtain⟨dr2,or2⟩:=S2.rd
  have hd2:=(drop_at hd1).2.1
  refine⟨_,rfl,r,dr2,_,rfl,or2,rf_no _ _ (by decide +kernel) (by decide +kernel),r,ln,_,ns,_,_,rfl,S2.rd,S2.n,hd2,fun H3 R3 k3=>?_⟩
  have S3:=S2.ko k3 R3
  refine⟨_,rfl,_,rfl,_,rfl,_,rfl,p,lw,lc,s,root,addr,flags,rfl,S3.m,hs,ha,fun H4 B4 k4=>?_⟩
  refine⟨(by show 1≤sizeLine;decide),fun z hz=>?_⟩
  have kk:KR lw lc r H H4:=(((KO.kr k1).trans (KO.kr k2)).trans (KO.kr k3)).trans (Kp.kr k4)
  exact k _ z upd_same (kk.there z hz) ((S3.kp k4 B4).kp (Kp.new hz) (B4.new hz)) (kk.trans (Kp.kr (Kp.new hz)))
theorem sc_answer_share:FnScope ["memory","reader","root","addr","frame","flags"] ["memory","reader"] (defScope s_answer_share):=⟨rfl,rfl,rfl,by decide +kernel,rfl,by decide +kernel,by decide +kernel⟩
theorem ok_answer_share (T:Txt K mg A):FnOk P w K mg base CX0 5 A.answer_share.1 A.answer_share.2 ["memory","reader"] (spA K A.C_Memory A.C_Reader preShare):=by
 refine T.f_answer_share.f.ok sc_answer_share (fun vs H Q E h=>?_) (fun cdv A' outer s0 H vs Q E hr h=>?_)
 ·obtain⟨p,lw,lc,r,ln,s,s',ns,args,rest,l,pos,rfl,_⟩:=h
  rfl
 ·obtain⟨p,lw,lc,r,ln,s,s',ns,args,rest,l,pos,rfl,S,hd,⟨root,addr,f,flags,rfl,hs,ha,rfl,rfl⟩,k⟩:=h
  refine⟨_,(pss_cons (ps_set (i:=2) sc_answer_share.nd rfl (Or.inl rfl) (pe_meth0 (pv 1) T.c_Reader T.f_take_number.mt (ok_take_number T) (hr.mono (by decide)) T.f_take_number.b .nil pass0))
   (pss_cons (ps_set (i:=3) sc_answer_share.nd rfl (Or.inl rfl) (pe_meth0 (pv 1) T.c_Reader T.f_take_number.mt (ok_take_number T) (hr.mono (by decide)) T.f_take_number.b .nil pass0))
   (pss_cons (ps_set (i:=4) sc_answer_share.nd rfl (Or.inl rfl) (pe_meth0 (pv 1) T.c_Reader T.f_take_number.mt (ok_take_number T) (hr.mono (by decide)) T.f_take_number.b .nil pass0))
   (pss_cons (ps_set (i:=5) sc_answer_share.nd rfl (Or.inl rfl) (pe_meth0 (pv 1) T.c_Reader T.f_take_number.mt (ok_take_number T) (hr.mono (by decide)) T.f_take_number.b .nil pass0))
   (pss_one (ps_ret (pe_lst (pa_cons (pe_call (ok_share T) (hr.mono (by decide)) rfl T.f_share.m T.f_share.f.kp T.f_share.b .nil pass0 (pa_cons (pv 0) (pa_cons (pv 2) (pa_cons (pv 3) (pa_cons (pv 4) (pa_cons (pv 5) pa_nil)))))) pa_nil)))))))),?_⟩
  obtain⟨dr,or_⟩:=S.rd
  refine⟨_,rfl,r,dr,_,rfl,or_,rf_no _ _ (by decide +kernel) (by decide +kernel),r,ln,pos,ns,_,_,rfl,S.rd,S.n,hd,fun H1 R1 k1=>?_⟩
  have S1:=S.ko k1 R1
  obtain⟨dr1,or1⟩:=S1.rd
  have hd1:=(drop_at hd).2.1
  refine⟨_,rfl,r,dr1,_,rfl,or1,rf_no _ _ (by decide +kernel) (by decide +kernel),r,ln,_,ns,_,_,rfl,S1.rd,S1.n,hd1,fun H2 R2 k2=>?_⟩
  have S2:=S1.ko k2 R2
  obtain⟨dr2,or2⟩:=S2.rd
  have hd2:=(drop_at hd1).2.1
  refine⟨_,rfl,r,dr2,_,rfl,or2,rf_no _ _ (by decide +kernel) (by decide +kernel),r,ln,_,ns,_,_,rfl,S2.rd,S2.n,hd2,fun H3 R3 k3=>?_⟩
  have S3:=S2.ko k3 R3
  obtain⟨dr3,or3⟩:=S3.rd
  have hd3:=(drop_at hd2).2.1
  refine⟨_,rfl,r,dr3,_,rfl,or3,rf_no _ _ (by decide +kernel) (by decide +kernel),r,ln,_,ns,_,_,rfl,S3.rd,S3.n,hd3,fun H4 R4 k4=>?_⟩
  have S4:=S3.ko k4 R4
  refine⟨_,rfl,_,rfl,_,rfl,_,rfl,_,rfl,p,lw,lc,s,root,addr,f,flags,rfl,S4.m,hs,ha,fun H5 B5 k5=>?_⟩
  refine⟨(by show 1≤sizeLine;decide),fun z hz=>?_⟩
  have kk:KR lw lc r H H5:=((((KO.kr k1).trans (KO.kr k2)).trans (KO.kr k3)).trans (KO.kr k4)).trans (Kp.kr k5)
  exact k _ z upd_same (kk.there z hz) ((S4.kp k5 B5).kp (Kp.new hz) (B5.new hz)) (kk.trans (Kp.kr (Kp.new hz)))
theorem sc_answer_back:FnScope ["memory","reader","root","addr"] ["memory","reader"] (defScope s_answer_back):=⟨rfl,rfl,rfl,by decide +kernel,rfl,by decide +kernel,by decide +kernel⟩
theorem ok_answer_back (T:Txt K mg A):FnOk P w K mg base CX0 5 A.answer_back.1 A.answer_back.2 ["memory","reader"] (spA K A.C_Memory A.C_Reader preBack):=by
 refine T.f_answer_back.f.ok sc_answer_back (fun vs H Q E h=>?_) (fun cdv A' outer s0 H vs Q E hr h=>?_)
 ·obtain⟨p,lw,lc,r,ln,s,s',ns,args,rest,l,pos,rfl,_⟩:=h
  rfl
 ·obtain⟨p,lw,lc,r,ln,s,s',ns,args,rest,l,pos,rfl,S,hd,⟨root,addr,rfl,hs,ha,rfl,rfl⟩,k⟩:=h
  refine⟨_,(pss_cons (ps_set (i:=2) sc_answer_back.nd rfl (Or.inl rfl) (pe_meth0 (pv 1) T.c_Reader T.f_take_number.mt (ok_take_number T) (hr.mono (by decide)) T.f_take_number.b .nil pass0))
   (pss_cons (ps_set (i:=3) sc_answer_back.nd rfl (Or.inl rfl) (pe_meth0 (pv 1) T.c_Reader T.f_take_number.mt (ok_take_number T) (hr.mono (by decide)) T.f_take_number.b .nil pass0))
   (pss_one (ps_ret (pe_lst (pa_cons (pe_call (ok_take_back T) (hr.mono (by decide)) rfl T.f_take_back.m T.f_take_back.f.kp T.f_take_back.b .nil pass0 (pa_cons (pv 0) (pa_cons (pv 2) (pa_cons (pv 3) pa_nil)))) pa_nil)))))),?_⟩
  obtain⟨dr,or_⟩:=S.rd
  refine⟨_,rfl,r,dr,_,rfl,or_,rf_no _ _ (by decide +kernel) (by decide +kernel),r,ln,pos,ns,_,_,rfl,S.rd,S.n,hd,fun H1 R1 k1=>?_⟩
  have S1:=S.ko k1 R1
  obtain⟨dr1,or1⟩:=S1.rd
  have hd1:=(drop_at hd).2.1
  refine⟨_,rfl,r,dr1,_,rfl,or1,rf_no _ _ (by decide +kernel) (by decide +kernel),r,ln,_,ns,_,_,rfl,S1.rd,S1.n,hd1,fun H2 R2 k2=>?_⟩
  have S2:=S1.ko k2 R2
  refine⟨_,rfl,_,rfl,_,rfl,p,lw,lc,s,root,addr,rfl,S2.m,hs,ha,fun H4 B4 k4=>?_⟩
  refine⟨(by show 1≤sizeLine;decide),fun z hz=>?_⟩
  have kk:KR lw lc r H H4:=((KO.kr k1).trans (KO.kr k2)).trans (Kp.kr k4)
  exact k _ z upd_same (kk.there z hz) ((S2.kp k4 B4).kp (Kp.new hz) (B4.new hz)) (kk.trans (Kp.kr (Kp.new hz)))
theorem sc_answer_touch:FnScope ["memory","reader","root","addr"] ["memory","reader"] (defScope s_answer_touch):=⟨rfl,rfl,rfl,by decide +kernel,rfl,by decide +kernel,by decide +kernel⟩
theorem ok_answer_touch (T:Txt K mg A):FnOk P w K mg base CX0 5 A.answer_touch.1 A.answer_touch.2 ["memory","reader"] (spA K A.C_Memory A.C_Reader preTouch):=by
 refine T.f_answer_touch.f.ok sc_answer_touch (fun vs H Q E h=>?_) (fun cdv A' outer s0 H vs Q E hr h=>?_)
 ·obtain⟨p,lw,lc,r,ln,s,s',ns,args,rest,l,pos,rfl,_⟩:=h
  rfl
 ·obtain⟨p,lw,lc,r,ln,s,s',ns,args,rest,l,pos,rfl,S,hd,⟨root,addr,rfl,hs,ha,rfl,rfl⟩,k⟩:=h
  refine⟨_,(pss_cons (ps_set (i:=2) sc_answer_touch.nd rfl (Or.inl rfl) (pe_meth0 (pv 1) T.c_Reader T.f_take_number.mt (ok_take_number T) (hr.mono (by decide)) T.f_take_number.b .nil pass0))
   (pss_cons (ps_set (i:=3) sc_answer_touch.nd rfl (Or.inl rfl) (pe_meth0 (pv 1) T.c_Reader T.f_take_number.mt (ok_take_number T) (hr.mono (by decide)) T.f_take_number.b .nil pass0))
   (pss_one (ps_ret (pe_lst (pa_cons (pe_call (ok_touch T) (hr.mono (by decide)) rfl T.f_touch.m T.f_touch.f.kp T.f_touch.b .nil pass0 (pa_cons (pv 0) (pa_cons (pv 2) (pa_cons (pv 3) pa_nil)))) pa_nil)))))),?_⟩
  obtain⟨dr,or_⟩:=S.rd
  refine⟨_,rfl,r,dr,_,rfl,or_,rf_no _ _ (by decide +kernel) (by decide +kernel),r,ln,pos,ns,_,_,rfl,S.rd,S.n,hd,fun H1 R1 k1=>?_⟩
  have S1:=S.ko k1 R1
  obtain⟨dr1,or1⟩:=S1.rd
  have hd1:=(drop_at hd).2.1
  refine⟨_,rfl,r,dr1,_,rfl,or1,rf_no _ _ (by decide +kernel) (by decide +kernel),r,ln,_,ns,_,_,rfl,S1.rd,S1.n,hd1,fun H2 R2 k2=>?_⟩
  have S2:=S1.ko k2 R2
  refine⟨_,rfl,_,rfl,_,rfl,p,lw,lc,s,root,addr,rfl,S2.m,hs,ha,fun H4 B4 k4=>?_⟩
  refine⟨(by show 1≤sizeLine;decide),fun z hz=>?_⟩
  have kk:KR lw lc r H H4:=((KO.kr k1).trans (KO.kr k2)).trans (Kp.kr k4)
  exact k _ z upd_same (kk.there z hz) ((S2.kp k4 B4).kp (Kp.new hz) (B4.new hz)) (kk.trans (Kp.kr (Kp.new hz)))
theorem sc_answer_look:FnScope ["memory","reader","cpu","addr","kind"] ["memory","reader"] (defScope s_answer_look):=⟨rfl,rfl,rfl,by decide +kernel,rfl,by decide +kernel,by decide +kernel⟩
theorem ok_answer_look (T:Txt K mg A):FnOk P w K mg base CX0 7 A.answer_look.1 A.answer_look.2 ["memory","reader"] (spA K A.C_Memory A.C_Reader preLook):=by
 refine T.f_answer_look.f.ok sc_answer_look (fun vs H Q E h=>?_) (fun cdv A' outer s0 H vs Q E hr h=>?_)
 ·obtain⟨p,lw,lc,r,ln,s,s',ns,args,rest,l,pos,rfl,_⟩:=h
  rfl
 ·obtain⟨p,lw,lc,r,ln,s,s',ns,args,rest,l,pos,rfl,S,hd,⟨a,f,ri,addr,kz,rfl,ha,rfl,rfl⟩,k⟩:=h
  refine⟨_,(pss_cons (ps_set (i:=2) sc_answer_look.nd rfl (Or.inl rfl) (pe_meth (pv 1) T.c_Reader T.f_take_numbers.mt (ok_take_numbers T) (hr.mono (by decide)) T.f_take_numbers.b .nil pass0 (pa_cons pe_int pa_nil)))
   (pss_cons (ps_set (i:=3) sc_answer_look.nd rfl (Or.inl rfl) (pe_meth0 (pv 1) T.c_Reader T.f_take_number.mt (ok_take_number T) (hr.mono (by decide)) T.f_take_number.b .nil pass0))
   (pss_cons (ps_set (i:=4) sc_answer_look.nd rfl (Or.inl rfl) (pe_meth0 (pv 1) T.c_Reader T.f_take_number.mt (ok_take_number T) (hr.mono (by decide)) T.f_take_number.b .nil pass0))
   (pss_one (ps_ret (pe_call (ok_look T) (hr.mono (by decide)) rfl T.f_look.m T.f_look.f.kp T.f_look.b .nil pass0 (pa_cons (pv 0) (pa_cons (pv 2) (pa_cons (pv 3) (pa_cons (pv 4) pa_nil)))))))))),?_⟩
  obtain⟨dr,or_⟩:=S.rd
  have hd0:ns.drop pos=[(a:Int),(f:Int),(ri:Int)]++((addr:Int)::kz::rest):=hd
  refine⟨_,rfl,r,dr,_,rfl,or_,rf_no _ _ (by decide +kernel) (by decide +kernel),r,ln,pos,ns,[(a:Int),(f:Int),(ri:Int)],_,_,rfl,S.rd,S.n,hd0,rfl,fun H1 c hc nc R1 k1=>?_⟩
  have S1:=S.ko k1 R1
  obtain⟨dr1,or1⟩:=S1.rd
  have hd1:ns.drop (pos+3)=(addr:Int)::kz::rest:=by
   rw[←List.drop_drop,hd0]
   rfl
  refine⟨_,rfl,r,dr1,_,rfl,or1,rf_no _ _ (by decide +kernel) (by decide +kernel),r,ln,_,ns,_,_,rfl,S1.rd,S1.n,hd1,fun H2 R2 k2=>?_⟩
  have S2:=S1.ko k2 R2
  obtain⟨dr2,or2⟩:=S2.rd
  have hd2:=(drop_at hd1).2.1
  refine⟨_,rfl,r,dr2,_,rfl,or2,rf_no _ _ (by decide +kernel) (by decide +kernel),r,ln,_,ns,_,_,rfl,S2.rd,S2.n,hd2,fun H3 R3 k3=>?_⟩
  have S3:=S2.ko k3 R3
  have ncr:c≠r:=fun e=>by rw[e,or_]at nc;cases nc
  have hc3:=(k2.trans k3).keep _ _ hc ncr
  refine⟨_,rfl,_,rfl,_,rfl,_,rfl,p,lw,lc,c,s,a,f,ri,addr,kz,rfl,S3.m,hc3,ha,fun H4 z hz nz B4 k4=>?_⟩
  have kk:KR lw lc r H H3:=((KO.kr k1).trans (KO.kr k2)).trans (KO.kr k3)
  exact k _ z hz (kk.there z nz) (S3.kp k4 B4) (kk.trans (Kp.kr k4))
theorem sc_answer_read:FnScope ["memory","reader","cpu","addr","how_many"] ["memory","reader"] (defScope s_answer_read):=⟨rfl,rfl,rfl,by decide +kernel,rfl,by decide +kernel,by decide +kernel⟩
theorem ok_answer_read (T:Txt K mg A):FnOk P w K mg base CX0 8 A.answer_read.1 A.answer_read.2 ["memory","reader"] (spA K A.C_Memory A.C_Reader preRead):=by
 refine T.f_answer_read.f.ok sc_answer_read (fun vs H Q E h=>?_) (fun cdv A' outer s0 H vs Q E hr h=>?_)
 ·obtain⟨p,lw,lc,r,ln,s,s',ns,args,rest,l,pos,rfl,_⟩:=h
  rfl
 ·obtain⟨p,lw,lc,r,ln,s,s',ns,args,rest,l,pos,rfl,S,hd,⟨a,f,ri,addr,kz,rfl,ha,rfl,rfl⟩,k⟩:=h
  refine⟨_,(pss_cons (ps_set (i:=2) sc_answer_read.nd rfl (Or.inl rfl) (pe_meth (pv 1) T.c_Reader T.f_take_numbers.mt (ok_take_numbers T) (hr.mono (by decide)) T.f_take_numbers.b .nil pass0 (pa_cons pe_int pa_nil)))
   (pss_cons (ps_set (i:=3) sc_answer_read.nd rfl (Or.inl rfl) (pe_meth0 (pv 1) T.c_Reader T.f_take_number.mt (ok_take_number T) (hr.mono (by decide)) T.f_take_number.b .nil pass0))
   (pss_cons (ps_set (i:=4) sc_answer_read.nd rfl (Or.inl rfl) (pe_meth0 (pv 1) T.c_Reader T.f_take_number.mt (ok_take_number T) (hr.mono (by decide)) T.f_take_number.b .nil pass0))
   (pss_one (ps_ret (pe_call (ok_read T) (hr.mono (by decide)) rfl T.f_read.m T.f_read.f.kp T.f_read.b .nil pass0 (pa_cons (pv 0) (pa_cons (pv 2) (pa_cons (pv 3) (pa_cons (pv 4) pa_nil)))))))))),?_⟩
  obtain⟨dr,or_⟩:=S.rd
  have hd0:ns.drop pos=[(a:Int),(f:Int),(ri:Int)]++((addr:Int)::kz::rest):=hd
  refine⟨_,rfl,r,dr,_,rfl,or_,rf_no _ _ (by decide +kernel) (by decide +kernel),r,ln,pos,ns,[(a:Int),(f:Int),(ri:Int)],_,_,rfl,S.rd,S.n,hd0,rfl,fun H1 c hc nc R1 k1=>?_⟩
  have S1:=S.ko k1 R1
  obtain⟨dr1,or1⟩:=S1.rd
  have hd1:ns.drop (pos+3)=(addr:Int)::kz::rest:=by
   rw[←List.drop_drop,hd0]
   rfl
  refine⟨_,rfl,r,dr1,_,rfl,or1,rf_no _ _ (by decide +kernel) (by decide +kernel),r,ln,_,ns,_,_,rfl,S1.rd,S1.n,hd1,fun H2 R2 k2=>?_⟩
  have S2:=S1.ko k2 R2
  obtain⟨dr2,or2⟩:=S2.rd
  have hd2:=(drop_at hd1).2.1
  refine⟨_,rfl,r,dr2,_,rfl,or2,rf_no _ _ (by decide +kernel) (by decide +kernel),r,ln,_,ns,_,_,rfl,S2.rd,S2.n,hd2,fun H3 R3 k3=>?_⟩
  have S3:=S2.ko k3 R3
  have ncr:c≠r:=fun e=>by rw[e,or_]at nc;cases nc
  have hc3:=(k2.trans k3).keep _ _ hc ncr
  refine⟨_,rfl,_,rfl,_,rfl,_,rfl,p,lw,lc,c,s,a,f,ri,addr,kz,rfl,S3.m,hc3,ha,fun H4 z hz nz B4 k4=>?_⟩
  have kk:KR lw lc r H H3:=((KO.kr k1).trans (KO.kr k2)).trans (KO.kr k3)
  exact k _ z hz (kk.there z nz) (S3.kp k4 B4) (kk.trans (Kp.kr k4))
theorem sc_answer_write:FnScope ["memory","reader","cpu","addr","how_many","octets"] ["memory","reader"] (defScope s_answer_write):=⟨rfl,rfl,rfl,by decide +kernel,rfl,by decide +kernel,by decide +kernel⟩
theorem ok_answer_write (T:Txt K mg A):FnOk P w K mg base CX0 8 A.answer_write.1 A.answer_write.2 ["memory","reader"] (spA K A.C_Memory A.C_Reader preWrite):=by
 refine T.f_answer_write.f.ok sc_answer_write (fun vs H Q E h=>?_) (fun cdv A' outer s0 H vs Q E hr h=>?_)
 ·obtain⟨p,lw,lc,r,ln,s,s',ns,args,rest,l,pos,rfl,_⟩:=h
  rfl
 ·obtain⟨p,lw,lc,r,ln,s,s',ns,args,rest,l,pos,rfl,S,hd,⟨a,f,ri,addr,kz,bs,rfl,ha,hb,hbl,rfl,rfl⟩,k⟩:=h
  refine⟨_,(pss_cons (ps_set (i:=2) sc_answer_write.nd rfl (Or.inl rfl) (pe_meth (pv 1) T.c_Reader T.f_take_numbers.mt (ok_take_numbers T) (hr.mono (by decide)) T.f_take_numbers.b .nil pass0 (pa_cons pe_int pa_nil)))
   (pss_cons (ps_set (i:=3) sc_answer_write.nd rfl (Or.inl rfl) (pe_meth0 (pv 1) T.c_Reader T.f_take_number.mt (ok_take_number T) (hr.mono (by decide)) T.f_take_number.b .nil pass0))
   (pss_cons (ps_set (i:=4) sc_answer_write.nd rfl (Or.inl rfl) (pe_meth0 (pv 1) T.c_Reader T.f_take_number.mt (ok_take_number T) (hr.mono (by decide)) T.f_take_number.b .nil pass0))
   (pss_cons (ps_set (i:=5) sc_answer_write.nd rfl (Or.inl rfl) (pe_meth0 (pv 1) T.c_Reader T.f_take_row.mt (ok_take_row T) (hr.mono (by decide)) T.f_take_row.b .nil pass0))
   (pss_one (ps_ret (pe_call (ok_write T) (hr.mono (by decide)) rfl T.f_write.m T.f_write.f.kp T.f_write.b .nil pass0 (pa_cons (pv 0) (pa_cons (pv 2) (pa_cons (pv 3) (pa_cons (pv 4) (pa_cons (pv 5) pa_nil)))))))))))),?_⟩
  obtain⟨dr,or_⟩:=S.rd
  have bl:(Sd19Neutral.ints bs).length=bs.length:=by simp[Sd19Neutral.ints]
  have hd0:ns.drop pos=[(a:Int),(f:Int),(ri:Int)]++((addr:Int)::kz::(((Sd19Neutral.ints bs).length:Int)::(Sd19Neutral.ints bs++rest))):=by
   rw[bl,hd]
   simp
  refine⟨_,rfl,r,dr,_,rfl,or_,rf_no _ _ (by decide +kernel) (by decide +kernel),r,ln,pos,ns,[(a:Int),(f:Int),(ri:Int)],_,_,rfl,S.rd,S.n,hd0,rfl,fun H1 c hc nc R1 k1=>?_⟩
  have S1:=S.ko k1 R1
  obtain⟨dr1,or1⟩:=S1.rd
  have hd1:ns.drop (pos+3)=(addr:Int)::kz::(((Sd19Neutral.ints bs).length:Int)::(Sd19Neutral.ints bs++rest)):=by
   rw[←List.drop_drop,hd0]
   rfl
  refine⟨_,rfl,r,dr1,_,rfl,or1,rf_no _ _ (by decide +kernel) (by decide +kernel),r,ln,_,ns,_,_,rfl,S1.rd,S1.n,hd1,fun H2 R2 k2=>?_⟩
  have S2:=S1.ko k2 R2
  obtain⟨dr2,or2⟩:=S2.rd
  have hd2:=(drop_at hd1).2.1
  refine⟨_,rfl,r,dr2,_,rfl,or2,rf_no _ _ (by decide +kernel) (by decide +kernel),r,ln,_,ns,_,_,rfl,S2.rd,S2.n,hd2,fun H3 R3 k3=>?_⟩
  have S3:=S2.ko k3 R3
  obtain⟨dr3,or3⟩:=S3.rd
  have hd3:=(drop_at hd2).2.1
  refine⟨_,rfl,r,dr3,_,rfl,or3,rf_no _ _ (by decide +kernel) (by decide +kernel),r,ln,_,ns,Sd19Neutral.ints bs,rest,rfl,S3.rd,S3.n,S3.n3,hd3,fun H4 q hq nq R4 k4=>?_⟩
  have S4:=S3.ko k4 R4
  have ncr:c≠r:=fun e=>by rw[e,or_]at nc;cases nc
  have hc4:=((k2.trans k3).trans k4).keep _ _ hc ncr
  have nqw:q≠lw∧q≠lc:=by
   obtain⟨ds,h1,_⟩:=S3.m.ws
   exact⟨Ne.symm (ne_of_none h1 nq),Ne.symm (ne_of_none S3.m.cs nq)⟩
  refine⟨_,rfl,_,rfl,_,rfl,_,rfl,_,rfl,p,lw,lc,c,q,s,a,f,ri,addr,kz,bs,rfl,S4.m,hc4,(by rw[hq,il_ints];rfl),nqw.1,nqw.2,hb,hbl,ha,fun H5 z hz nz B5 k5=>?_⟩
  have kk:KR lw lc r H H4:=(((KO.kr k1).trans (KO.kr k2)).trans (KO.kr k3)).trans (KO.kr k4)
  have ep:pos+([(a:Int),(f:Int),(ri:Int),(addr:Int),kz]++((bs.length:Int)::Sd19Neutral.ints bs)).length=pos+3+1+1+1+(Sd19Neutral.ints bs).length:=by
   simp
   omega
  rw[ep]at k
  exact k _ z hz (kk.there z nz) (S4.kp k5 B5) (kk.trans (Kp.kr k5))
end
end G
namespace G
open PySem PySem.Spec PyProof.Rows L2
open Sd19Neutral (pairs nats firsts seconds laid layOk)
theorem pairs_at {F G:Int}:∀(m:List Int),m.length % 2=0→(∀z∈firsts m,0≤z∧z<F)→(∀z∈seconds m,0≤z∧z<G)→∀i,2 * i<m.length →
    ∃a x:Nat,m[2 * i]? = some (a:Int)∧m[2 * i+1]? = some (x:Int)∧(pairs (nats m))[i]? = some (a,x)∧(a:Int)<F∧(x:Int)<G
  | [],_,_,_,i,h=>by simp at h
  | [_],h,_,_,_,_=>by simp at h
  | u :: v :: r, hl, h1, h2, i, hi => by
    have hu:=h1 u (by simp[firsts])
    have hv:=h2 v (by simp[seconds])
    have hp:pairs (nats (u::v::r))=(u.toNat,v.toNat)::pairs (nats r):=rfl
    cases i with
    | zero =>
      refine⟨u.toNat,v.toNat,?_,?_,by rw[hp];rfl,by omega,by omega⟩
      · show some u=_
        rw[Int.toNat_of_nonneg hu.1]
      · show some v=_
        rw[Int.toNat_of_nonneg hv.1]
    | succ i =>
      have hl':r.length % 2=0:=by simp only[List.length_cons]at hl;omega
      have hi':2 * i<r.length:=by simp only[List.length_cons]at hi;omega
      obtain⟨a,x,e1,e2,e3,e4,e5⟩:=pairs_at (F:=F) (G:=G) r hl' (fun z hz=>h1 z (by simp[firsts,hz])) (fun z hz=>h2 z (by simp[seconds,hz])) i hi'
      refine⟨a,x,?_,?_,by rw[hp];exact e3,e4,e5⟩
      · rw[show 2 * (i+1)=(2 * i+1)+1 by omega]
        exact e1
      · rw[show 2 * (i+1)+1=(2 * i+1+1)+1 by omega]
        exact e2
theorem pairs_len:∀(m:List Int),(pairs (nats m)).length=m.length / 2
  | []=>rfl
  | [u]=>by simp[nats,pairs]
  | u::v::r=>by
    have hp:pairs (nats (u::v::r))=(u.toNat,v.toNat)::pairs (nats r):=rfl
    rw[hp,List.length_cons,pairs_len r,List.length_cons,List.length_cons]
    omega
theorem take_snoc' {α:Type} {l:List α} {i:Nat} {x:α} (h:l[i]? = some x):l.take (i+1)=l.take i++[x]:=by
 rw[List.take_succ,h]
 rfl
theorem rng_up {i j c:Int} {n:Nat} (hc:0<c) (hc2:c<1000000) (hi:-(2 ^ 60)<i) (hi2:i<2 ^ 60) (hj:-(2 ^ 60)<j) (hj2:j<2 ^ 60) (hs:Builtin.Range.rangeSize i j c=n) (hn:n<2 ^ 60):RgC i j c n:=by
 refine⟨by omega,by omega,?_,hs⟩
 unfold Builtin.Range.small
 rw[hs]
 simp only[Builtin.Range.rangeFitsLong,Bool.and_eq_true,Bool.or_eq_true,decide_eq_true_eq,beq_iff_eq,show c > 0 from hc,if_true]
 omega
theorem rng_two {n:Nat} (he:n % 2=0) (hb:n<100000):RgC 0 (n:Int) 2 (n / 2):=by
 refine rng_up (by decide) (by decide) (by decide) (by decide) (by omega) (by omega) ?_ (by omega)
 unfold Builtin.Range.rangeSize
 rw[if_pos (by decide)]
 split<;>omega
theorem layOk_of {m k:List Int} (h:layOk m k=true):m.length % 2=0∧k.length % 2=0∧m.length≤8192∧(∀z∈firsts m,0≤z∧z<1048576)∧(∀z∈seconds m,0≤z∧z<2 ^ 64)∧(∀z∈firsts k,0≤z∧z<256)∧(∀z∈seconds k,0≤z∧z<65536):=by
 unfold layOk at h
 simp only[Bool.and_eq_true,beq_iff_eq,decide_eq_true_eq,List.all_eq_true]at h
 obtain⟨h1,h2,h3,h4,h5,_,h6,h7,_⟩:=h
 refine⟨h1,h2,h3,fun z hz=>?_,fun z hz=>?_,fun z hz=>?_,fun z hz=>?_⟩
 ·have q:=h4 z hz
  unfold Sd19Neutral.place NeutralIO.within at q
  simp only[Bool.and_eq_true,decide_eq_true_eq]at q
  omega
 ·have q:=h5 z hz
  unfold Sd19Neutral.natural at q
  simp only[Bool.and_eq_true,decide_eq_true_eq]at q
  exact q
 ·have q:=h6 z hz
  unfold Sd19Neutral.natural at q
  simp only[Bool.and_eq_true,decide_eq_true_eq]at q
  omega
 ·have q:=h7 z hz
  unfold Sd19Neutral.natural at q
  simp only[Bool.and_eq_true,decide_eq_true_eq]at q
  omega
def preLay (s:Sd19.St) (args:List Int) (s':Sd19.St) (l:List Int):Prop:=∃m k:List Int,args=((m.length:Int)::m)++((k.length:Int)::k)∧layOk m k=true∧k.length≤15800∧s=Sd19.begun∧s'=laid m k∧l=[]
section
variable {P:Program} {w:World} {K:PySem.W.Frag} {mg:Str→Option Value} {base:Heap} {A:Adr}
theorem vi_at {l:List Int} {j:Nat} {x:Int} (h:l[j]? = some x) (z:Int) (e:z=(j:Int)):atI (vi l) z=some (.int x):=at_of e (by unfold vi;rw[List.getElem?_map,h];rfl)
theorem sc_answer_lay:FnScope ["memory","reader","words","counts","k"] ["memory","reader"] (defScope s_answer_lay):=⟨rfl,rfl,rfl,by decide +kernel,rfl,by decide +kernel,by decide +kernel⟩
set_option maxHeartbeats 1000000 in
theorem ok_answer_lay (T:Txt K mg A):FnOk P w K mg base CX0 3 A.answer_lay.1 A.answer_lay.2 ["memory","reader"] (spA K A.C_Memory A.C_Reader preLay):=by
  refine T.f_answer_lay.f.ok sc_answer_lay (fun vs H Q E h=>?_) (fun cdv A' outer s0 H vs Q E hr h=>?_)
  · obtain⟨p,lw,lc,r,ln,s,s',ns,args,rest,l,pos,rfl,_⟩:=h
    rfl
  · obtain⟨p,lw,lc,r,ln,s,s',ns,args,rest,l,pos,rfl,S,hd,⟨m,kk,rfl,hok,hkl,rfl,rfl,rfl⟩,k⟩:=h
    obtain⟨em,ek,hml,m1,m2,k1',k2'⟩:=layOk_of hok
    refine⟨_,(pss_cons (ps_set (i:=2) sc_answer_lay.nd rfl (Or.inl rfl) (pe_meth0 (pv 1) T.c_Reader T.f_take_row.mt (ok_take_row T) (hr.mono (by decide)) T.f_take_row.b .nil pass0))
      (pss_cons (ps_set (i:=3) sc_answer_lay.nd rfl (Or.inl rfl) (pe_meth0 (pv 1) T.c_Reader T.f_take_row.mt (ok_take_row T) (hr.mono (by decide)) T.f_take_row.b .nil pass0))
      (pss_cons (ps_for PassesOwn.never rfl (pi_range3 rfl T.no_range (pa_cons pe_int (pa_cons (pe_callB call_len_seq (by rfl) T.no_len boot_len (pa_cons (pv 2) pa_nil)) (pa_cons pe_int pa_nil)))) (pg_name (i:=4) sc_answer_lay.nd rfl (Or.inl rfl)) (pss_one (ps_expr (pe_meth (pv 0) T.c_Memory T.f_put_word.mt (ok_put_word T) (hr.mono (by decide)) T.f_put_word.b .nil pass0 (pa_cons (pe_ix ix_list (pv 2) (pv 4) (fun _ _=>rfl)) (pa_cons (pe_ix ix_list (pv 2) (pe_op op_add (pv 4) pe_int) (fun _ _=>rfl)) pa_nil))))))
      (pss_cons (ps_for PassesOwn.never rfl (pi_range3 rfl T.no_range (pa_cons pe_int (pa_cons (pe_callB call_len_seq (by rfl) T.no_len boot_len (pa_cons (pv 3) pa_nil)) (pa_cons pe_int pa_nil)))) (pg_name (i:=4) sc_answer_lay.nd rfl (Or.inl rfl)) (pss_one (ps_asg (pe_ix ix_list (pv 3) (pe_op op_add (pv 4) pe_int) (fun _ _=>rfl)) (pg_sub (pe_fld (pv 0) rfl) (pe_ix ix_list (pv 3) (pv 4) (fun _ _=>rfl)) set_list))))
      (pss_one (ps_ret (pe_lst pa_nil))))))),?_⟩
    obtain⟨dr,or_⟩:=S.rd
    have hd0:ns.drop pos=(m.length:Int)::(m++(((kk.length:Int)::kk)++rest)):=by rw[hd];simp
    refine⟨_,rfl,r,dr,_,rfl,or_,rf_no _ _ (by decide +kernel) (by decide +kernel),r,ln,pos,ns,m,_,rfl,S.rd,S.n,S.n3,hd0,fun H1 q1 hq1 nq1 R1 k1=>?_⟩
    have S1:=S.ko k1 R1
    obtain⟨dr1,or1⟩:=S1.rd
    have hd1:ns.drop (pos+1+m.length)=(kk.length:Int)::(kk++rest):=by
      rw[←List.drop_drop,(drop_at hd0).2.1,List.drop_left]
      rfl
    refine⟨_,rfl,r,dr1,_,rfl,or1,rf_no _ _ (by decide +kernel) (by decide +kernel),r,ln,_,ns,kk,rest,rfl,S1.rd,S1.n,S1.n3,hd1,fun H2 q2 hq2 nq2 R2 k2=>?_⟩
    have S2:=S1.ko k2 R2
    have n1r:q1≠r:=fun e=>by rw[e,or_]at nq1;cases nq1
    have hq1':=k2.keep _ _ hq1 n1r
    have off1:q1≠lw∧q1≠lc:=by
      obtain⟨ds,h1,_⟩:=S.m.ws
      exact⟨Ne.symm (ne_of_none h1 nq1),Ne.symm (ne_of_none S.m.cs nq1)⟩
    have off2:q2≠lw∧q2≠lc:=by
      obtain⟨ds,h1,_⟩:=S1.m.ws
      exact⟨Ne.symm (ne_of_none h1 nq2),Ne.symm (ne_of_none S1.m.cs nq2)⟩
    have kr2:KR lw lc r H H2:=(KO.kr k1).trans (KO.kr k2)
    refine⟨_,rfl,q1,_,rfl,.inl (SqL.of hq1'),0,((vi m).length:Int),2,m.length / 2,rfl,(by rw[vi_len];exact rng_two em (by omega)),?_⟩
    refine for_rangeC (fun i σ H'=>∃v4:Option V,σ=[some (.ref p),some (.ref r),some (.ref q1),some (.ref q2),v4]∧MemAt A.C_Memory H' p lw lc ⟨((pairs (nats m)).take i).foldl (fun(f:Sd19.Mem) (p:Nat×Nat)=>Sd19.store f p.1 p.2) Sd19.blank,Sd19.begun.count⟩∧Kp lw lc H2 H')
      ⟨none,rfl,S2.m,Kp.refl _ _ _⟩ ?_ ?_
    · rintro i σ H' hi ⟨v4,rfl,B',kp⟩
      obtain⟨a,x,e1,e2,e3,e4,e5⟩:=pairs_at m em m1 m2 i (by omega)
      have hq:=kp.keep _ _ hq1' off1.1 off1.2 trivial
      obtain⟨dx,ob⟩:=B'.ob
      refine⟨_,rfl,p,dx,_,rfl,ob,mf_no _ _ (by decide +kernel) (by decide +kernel),_,rfl,_,rfl,q1,_,_,_,rfl,rfl,SqL.of hq,vi_at e1 _ (by omega),_,rfl,_,rfl,_,_,rfl,rfl,q1,_,_,_,rfl,rfl,SqL.of hq,vi_at e2 _ (by omega),p,lw,lc,_,a,x,rfl,B',by omega,by omega,fun H3 B3 k3=>?_⟩
      refine⟨_,rfl,?_,kp.trans k3⟩
      rw[take_snoc' e3,List.foldl_append]
      exact B3
    · rintro σ H' ⟨v4,rfl,B',kp⟩
      rw[←pairs_len,List.take_length]at B'
      have hq2':=kp.keep _ _ hq2 off2.1 off2.2 trivial
      refine⟨_,rfl,q2,_,rfl,.inl (SqL.of hq2'),0,((vi kk).length:Int),2,kk.length / 2,rfl,(by rw[vi_len];exact rng_two ek (by omega)),?_⟩
      generalize hmm:(pairs (nats m)).foldl (fun(f:Sd19.Mem) (p:Nat×Nat)=>Sd19.store f p.1 p.2) Sd19.blank=mm at B'
      refine for_rangeC (fun i σ H'=>∃v4:Option V,σ=[some (.ref p),some (.ref r),some (.ref q1),some (.ref q2),v4]∧MemAt A.C_Memory H' p lw lc ⟨mm,((pairs (nats kk)).take i).foldl (fun(f:Array Nat) (p:Nat×Nat)=>f.setIfInBounds p.1 p.2) (Array.replicate Sd19.FRAMES 0)⟩∧Kp lw lc H2 H')
        ⟨v4,rfl,B',kp⟩ ?_ ?_
      · rintro i σ H3 hi ⟨v4,rfl,B3,kp3⟩
        obtain⟨a,x,e1,e2,e3,e4,e5⟩:=pairs_at kk ek k1' k2' i (by omega)
        have hq:=kp3.keep _ _ hq2 off2.1 off2.2 trivial
        obtain⟨dx,ob⟩:=B3.ob
        refine⟨_,rfl,_,rfl,_,_,rfl,rfl,q2,_,_,_,rfl,rfl,SqL.of hq,vi_at e2 _ (by omega),_,rfl,p,_,dx,_,_,rfl,ob,T.c_Memory,T.na_Memory_counts,mf_counts _ _,_,rfl,_,rfl,q2,_,_,_,rfl,rfl,SqL.of hq,vi_at e1 _ (by omega),lc,_,_,a,rfl,rfl,B3.cs,ixN_nat (by rw[nl_len,B3.wf.c];omega),?_⟩
        refine⟨_,rfl,?_,kp3.trans Kp.atc⟩
        have es:=nl_set (((pairs (nats kk)).take i).foldl (fun(f:Array Nat) (p:Nat×Nat)=>f.setIfInBounds p.1 p.2) (Array.replicate Sd19.FRAMES 0)) a x
        rw[es,take_snoc' e3,List.foldl_append]
        exact B3.setc (by rw[Array.size_setIfInBounds];exact B3.wf.c)
      · rintro σ H3 ⟨v4,rfl,B3,kp3⟩
        rw[←pairs_len,List.take_length]at B3
        refine⟨(by show 0≤sizeLine;decide),fun z hz=>?_⟩
        have kr3:KR lw lc r H H3:=kr2.trans (Kp.kr kp3)
        have ep:pos+(((m.length:Int)::m)++((kk.length:Int)::kk)).length=pos+1+m.length+1+kk.length:=by
          simp
          omega
        have el:laid m kk=⟨mm,(pairs (nats kk)).foldl (fun(f:Array Nat) (p:Nat×Nat)=>f.setIfInBounds p.1 p.2) (Array.replicate Sd19.FRAMES 0)⟩:=by
          unfold laid
          rw[hmm]
        rw[ep,el]at k
        exact k _ z upd_same (kr3.there z hz) ((S2.kp kp3 B3).kp (Kp.new hz) (B3.new hz)) (kr3.trans (Kp.kr (Kp.new hz)))
def cntL (s:Sd19.St) (i:Nat):List Nat:=(List.range i).flatMap fun(f:Nat)=>if s.used f=0 then []else [f,s.used f]
theorem cntL_succ (s:Sd19.St) (i:Nat):cntL s (i+1)=cntL s i++(if s.used i=0 then []else [i,s.used i]):=by
 unfold cntL
 rw[List.range_succ,List.flatMap_append]
 simp
theorem cntL_len (s:Sd19.St):∀i,(cntL s i).length≤2 * i
  | 0=>Nat.le_refl _
  | i + 1 => by
    have h:=cntL_len s i
    rw[cntL_succ,List.length_append]
    split
    · simp
      omega
    · simp
      omega
theorem counts_eq (s:Sd19.St):Sd19Neutral.counts s=Sd19Neutral.ints (cntL s 256):=by
 unfold Sd19Neutral.counts cntL Sd19Neutral.ints
 show(List.range 256).flatMap _=_
 rw[List.map_flatMap]
 congr 1
 funext f
 split<;>rfl
def preTell (s:Sd19.St) (args:List Int) (s':Sd19.St) (l:List Int):Prop:=∃ps:List Nat,args=(ps.length:Int)::Sd19Neutral.ints ps∧(∀a∈ps,a<1048576)∧ps.length≤1000∧s=s'∧l=Sd19Neutral.ints (ps.map (Sd19.load s.mem))++Sd19Neutral.counts s
theorem sc_answer_tell:FnScope ["memory","reader","told","place","frame","count"] ["memory","reader"] (defScope s_answer_tell):=⟨rfl,rfl,rfl,by decide +kernel,rfl,by decide +kernel,by decide +kernel⟩
set_option maxHeartbeats 1000000 in
theorem ok_answer_tell (T:Txt K mg A):FnOk P w K mg base CX0 3 A.answer_tell.1 A.answer_tell.2 ["memory","reader"] (spA K A.C_Memory A.C_Reader preTell):=by
  refine T.f_answer_tell.f.ok sc_answer_tell (fun vs H Q E h=>?_) (fun cdv A' outer s0 H vs Q E hr h=>?_)
  · obtain⟨p,lw,lc,r,ln,s,s',ns,args,rest,l,pos,rfl,_⟩:=h
    rfl
  · obtain ⟨p, lw, lc, r, ln, s, s', ns, args, rest, l, pos, rfl, S, hd, ⟨ps, rfl, hps, hpl, rfl, rfl⟩, k⟩ := h
    refine⟨_,(pss_cons (ps_setLc (i:=2) rfl sc_answer_tell.nd rfl rfl rfl (pi_list (pe_meth0 (pv 1) T.c_Reader T.f_take_row.mt (ok_take_row T) (hr.mono (by decide)) T.f_take_row.b .nil pass0)) (own:=[("place",3)]) (show BlkOk ["memory","reader","told","place","frame","count"] (defScope s_answer_tell) _ _ from⟨rfl,by decide +kernel,by decide +kernel,by decide +kernel,by decide +kernel⟩) (fun _ _ _ _ _=>(pg_name (i:=3) sc_answer_tell.nd rfl (Or.inl rfl))) (fun _ _ _ _ _=>pts_nil) (fun _ _ _ _ _=>(pe_meth (pv 0) T.c_Memory T.f_word_at.mt (ok_word_at T) (hr.mono (by decide)) T.f_word_at.b .nil pass0 (pa_cons (pv 3) pa_nil))))
      (pss_cons (ps_for PassesOwn.never rfl (pi_enum rfl T.no_enumerate (pa_cons (pe_fld (pv 0) rfl) pa_nil)) (pg_two (K:=K) (i:=4) (j:=5) sc_answer_tell.nd rfl rfl (Or.inl rfl) (Or.inl rfl) rfl rfl) (pss_one (ps_if (pt_cmpR op_ne (pv 5) pe_int (nomark _)) (pss_one (ps_expr (pe_bm PySem.F.plainAttrs_list PySem.F.slot_list_extend PySem.F.type_list_extend mt_extend (pv 2) (pa_cons (pe_lst (pa_cons (pv 4) (pa_cons (pv 5) pa_nil))) pa_nil)))) pss_nil)))
      (pss_one (ps_ret (pv 2))))),?_⟩
    obtain⟨dr,or_⟩:=S.rd
    have il_ps:(Sd19Neutral.ints ps).length=ps.length:=by simp[Sd19Neutral.ints]
    have hd0:ns.drop pos=((Sd19Neutral.ints ps).length:Int)::(Sd19Neutral.ints ps++rest):=by rw[il_ps,hd];rfl
    refine⟨_,rfl,r,dr,_,rfl,or_,rf_no _ _ (by decide +kernel) (by decide +kernel),r,ln,pos,ns,Sd19Neutral.ints ps,rest,rfl,S.rd,S.n,S.n3,hd0,fun H1 q hq nq R1 k1=>⟨q,rfl,⟨_,SqL.of hq⟩,fun D hD=>?_⟩⟩
    have S1:=S.ko k1 R1
    have hq':H1 q=some (.lst (il ps)):=by rw[hq,il_ints];rfl
    have kr1:KR lw lc r H H1:=KO.kr k1
    have offD:D≠lw∧D≠lc:=by
      obtain⟨ds,h1,_⟩:=S1.m.ws
      exact⟨Ne.symm (ne_of_none h1 hD),Ne.symm (ne_of_none S1.m.cs hD)⟩
    refine lc_by ps.length (fun j H3=>H3 D=some (.lst (il ((ps.take j).map (Sd19.load s.mem))))∧∀b o,H1 b=some o→H3 b=some o) ?_ ?_ ?_
    · exact⟨upd_same,fun b o e=>by rw[upd_ne (ne_of_none e hD)];exact e⟩
    · rintro j H3 hj ⟨g1,g2⟩
      refine⟨⟨_,_,SqL.of (g2 _ _ hq'),il_get hj⟩,?_⟩
      rintro x H4 ⟨rfl,hx⟩
      have ex:=hx _ (SqL.of (g2 _ _ hq'))
      rw[il_get hj]at ex
      cases ex
      refine⟨rfl,?_⟩
      have B3:=S1.m.keep g2
      obtain⟨dx3,ob3⟩:=B3.ob
      refine⟨_,rfl,p,dx3,_,rfl,ob3,mf_no _ _ (by decide +kernel) (by decide +kernel),_,rfl,p,lw,lc,s,_,rfl,B3,hps _ (List.getElem_mem hj),_,g1,?_,?_,fun b o e=>by rw[upd_ne (ne_of_none e hD)];exact g2 b o e⟩
      · rw[il_len,List.length_map,List.length_take]
        exact Nat.lt_of_le_of_lt (Nat.le_trans (Nat.min_le_right _ _) hpl) (by decide)
      · rw[upd_same,take_one hj,List.map_append,il_app]
        rfl
    · rintro H3 ⟨g1,g2⟩
      rw[List.take_length]at g1
      refine⟨⟨_,SqL.of (g2 _ _ hq'),by rw[il_len];exact Nat.le_refl _⟩,?_⟩
      have B3:=S1.m.keep g2
      obtain⟨dx3,ob3⟩:=B3.ob
      have sm3:Same H1 H3:=g2
      refine⟨_,rfl,p,_,dx3,_,_,rfl,ob3,T.c_Memory,T.na_Memory_counts,mf_counts _ _,lc,_,rfl,SqL.of B3.cs,?_⟩
      have clen:(nl s.count).length=256:=by rw[nl_len];exact S.m.wf.c
      have hD1:H1 D=none:=hD
      refine for_enum (K:=K) (a:=lc) (xs:=nl s.count) (fun i σ H'=>∃(v4 v5:Option V),σ=[some (.ref p),some (.ref r),some (.ref D),none,v4,v5]∧Same H1 H'∧H' D=some (.lst (il (ps.map (Sd19.load s.mem)++cntL s i))))
        ⟨none,none,rfl,sm3,by rw[g1];show _=some (HO.lst (il (ps.map (Sd19.load s.mem)++[])));rw[List.append_nil]⟩ (fun i σ H' _ ⟨_,_,_,sm,_⟩=>SqL.of (sm _ _ S1.m.cs)) ?_ ?_
      · rintro i x t σ H' hi ⟨v4,v5,rfl,sm,hD'⟩ ht
        have hlt:i<256:=by
          have:=(List.getElem?_eq_some_iff.mp hi).1
          rw[clen]at this
          exact this
        rw[cnt_at S.m.wf hlt]at hi
        cases hi
        refine⟨t,_,rfl,SqT.of upd_same,rfl,_,_,rfl,_,_,rfl,rfl,?_⟩
        have sm2:Same H1 (L2.upd H' t (.tup [.int ((i:Nat):Int),.int ((s.used i:Nat):Int)])):=sm.trans (Same.new ht)
        have hD2:L2.upd H' t (.tup [.int ((i:Nat):Int),.int ((s.used i:Nat):Int)]) D=some (.lst (il (ps.map (Sd19.load s.mem)++cntL s i))):=by rw[upd_ne (ne_of_none hD' ht)];exact hD'
        generalize L2.upd H' t (.tup [.int ((i:Nat):Int),.int ((s.used i:Nat):Int)])=H4 at *
        refine⟨_,rfl,rfl,_,rfl,?_⟩
        have en:=ne_int0 (s.used i)
        refine ite2 (fun g=>?_) (fun g=>?_)
        · have g':s.used i≠0:=of_decide_eq_true (en.symm.trans g)
          refine⟨_,rfl,.inl ⟨rfl,_,SqL.of hD2⟩,_,rfl,_,rfl,(by show 2≤sizeLine;decide),fun l1 hl1=>?_⟩
          have nDl:D≠l1:=ne_of_none hD2 hl1
          refine⟨D,l1,_,_,rfl,rfl,(by rw[upd_ne nDl];exact hD2),upd_same,?_,?_⟩
          · rw[il_len,List.length_append,List.length_map]
            have:=cntL_len s i
            show ps.length+(cntL s i).length+2≤sizeLine
            exact Nat.le_of_lt (Nat.lt_of_le_of_lt (show ps.length+(cntL s i).length+2≤2000 by omega) (by decide))
          · refine⟨_,_,rfl,fun b o e=>?_,?_⟩
            · rw[upd_ne (ne_of_none e hD1),upd_ne (ne_of_none (sm2 b o e) hl1)]
              exact sm2 b o e
            · rw[upd_same,cntL_succ,if_neg g',←List.append_assoc,il_app (ps.map (Sd19.load s.mem)++cntL s i)]
              rfl
        · have g':s.used i=0:=by
            apply Decidable.byContradiction
            intro c
            exact g (en.trans (decide_eq_true c))
          refine⟨_,_,rfl,sm2,?_⟩
          rw[cntL_succ,if_pos g',List.append_nil]
          exact hD2
      · rintro σ H' ⟨v4,v5,rfl,sm,hD'⟩
        rw[clen]at hD'
        refine⟨_,rfl,?_⟩
        have ep:pos+((ps.length:Int)::Sd19Neutral.ints ps).length=pos+1+(Sd19Neutral.ints ps).length:=by
          simp
          omega
        rw[ep]at k
        refine k _ D ?_ (kr1.there D hD1) (S1.kp (Same.kp sm) (S1.m.keep sm)) (kr1.trans (Kp.kr (Same.kp sm)))
        rw[hD',il_ints,counts_eq]
        unfold vi Sd19Neutral.ints
        rw[List.map_append]
end
end G
namespace G
open PySem PySem.Spec PyProof.Rows L2
open Sd19Neutral (pairs nats firsts seconds laid layOk)
inductive CallF (s:Sd19.St):List Int→Sd19.St→List Int→Prop
 | lay {args:List Int} {s':Sd19.St} {l:List Int}:preLay s args s' l→CallF s (11::args) s' l
 | tell {args:List Int} {s':Sd19.St} {l:List Int}:preTell s args s' l→CallF s (0::args) s' l
 | look {args:List Int} {s':Sd19.St} {l:List Int}:preLook s args s' l→CallF s (1::args) s' l
 | read {args:List Int} {s':Sd19.St} {l:List Int}:preRead s args s' l→CallF s (2::args) s' l
 | write {args:List Int} {s':Sd19.St} {l:List Int}:preWrite s args s' l→CallF s (3::args) s' l
 | new:CallF s [4] (Sd19.step s .new).1 [(Sd19.step s .new).2.value]
 | give {args:List Int} {s':Sd19.St} {l:List Int}:preGive s args s' l→CallF s (5::args) s' l
 | share {args:List Int} {s':Sd19.St} {l:List Int}:preShare s args s' l→CallF s (6::args) s' l
 | back {args:List Int} {s':Sd19.St} {l:List Int}:preBack s args s' l→CallF s (7::args) s' l
 | copy {root:Nat}:Sd19.sound s root=true→M.Cnt s→CallF s [8,(root:Int)] (Sd19.step s (.copy root)).1 [(Sd19.step s (.copy root)).2.value]
 | touch {args:List Int} {s':Sd19.St} {l:List Int}:preTouch s args s' l→CallF s (9::args) s' l
 | drop {root:Nat}:Sd19.sound s root=true→CallF s [10,(root:Int)] (Sd19.step s (.drop root)).1 [(Sd19.step s (.drop root)).2.value]
section
variable {P:Program} {w:World} {K:PySem.W.Frag} {mg:Str→Option Value} {base:Heap} {A:Adr}
theorem sc_answer_call:FnScope ["memory","reader","number"] ["memory","reader"] (defScope s_answer_call):=⟨rfl,rfl,rfl,by decide +kernel,rfl,by decide +kernel,by decide +kernel⟩
set_option maxHeartbeats 2000000 in
theorem ok_answer_call (T:Txt K mg A):FnOk P w K mg base CX0 9 A.answer_call.1 A.answer_call.2 ["memory","reader"] (spA K A.C_Memory A.C_Reader CallF):=by
  refine T.f_answer_call.f.ok sc_answer_call (fun vs H Q E h=>?_) (fun cdv A' outer s0 H vs Q E hr h=>?_)
  · obtain⟨p,lw,lc,r,ln,s,s',ns,args,rest,l,pos,rfl,_⟩:=h
    rfl
  · obtain⟨p,lw,lc,r,ln,s,s',ns,args,rest,l,pos,rfl,S,hd,hc,k⟩:=h
    refine⟨_,(pss_cons (ps_set (i:=2) sc_answer_call.nd rfl (Or.inl rfl) (pe_meth0 (pv 1) T.c_Reader T.f_take_number.mt (ok_take_number T) (hr.mono (by decide)) T.f_take_number.b .nil pass0))
      (pss_cons (ps_if (pt_cmpR op_eq (pv 2) (pe_globI rfl T.g_LAY) (nomark _)) (pss_one (ps_ret (pe_call (ok_answer_lay T) (hr.mono (by decide)) rfl T.f_answer_lay.m T.f_answer_lay.f.kp T.f_answer_lay.b .nil pass0 (pa_cons (pv 0) (pa_cons (pv 1) pa_nil))))) pss_nil)
      (pss_cons (ps_if (pt_cmpR op_eq (pv 2) (pe_globI rfl T.g_TELL) (nomark _)) (pss_one (ps_ret (pe_call (ok_answer_tell T) (hr.mono (by decide)) rfl T.f_answer_tell.m T.f_answer_tell.f.kp T.f_answer_tell.b .nil pass0 (pa_cons (pv 0) (pa_cons (pv 1) pa_nil))))) pss_nil)
      (pss_cons (ps_if (pt_cmpR op_eq (pv 2) (pe_globI rfl T.g_LOOK) (nomark _)) (pss_one (ps_ret (pe_call (ok_answer_look T) (hr.mono (by decide)) rfl T.f_answer_look.m T.f_answer_look.f.kp T.f_answer_look.b .nil pass0 (pa_cons (pv 0) (pa_cons (pv 1) pa_nil))))) pss_nil)
      (pss_cons (ps_if (pt_cmpR op_eq (pv 2) (pe_globI rfl T.g_READ) (nomark _)) (pss_one (ps_ret (pe_call (ok_answer_read T) (hr.mono (by decide)) rfl T.f_answer_read.m T.f_answer_read.f.kp T.f_answer_read.b .nil pass0 (pa_cons (pv 0) (pa_cons (pv 1) pa_nil))))) pss_nil)
      (pss_cons (ps_if (pt_cmpR op_eq (pv 2) (pe_globI rfl T.g_WRITE) (nomark _)) (pss_one (ps_ret (pe_call (ok_answer_write T) (hr.mono (by decide)) rfl T.f_answer_write.m T.f_answer_write.f.kp T.f_answer_write.b .nil pass0 (pa_cons (pv 0) (pa_cons (pv 1) pa_nil))))) pss_nil)
      (pss_cons (ps_if (pt_cmpR op_eq (pv 2) (pe_globI rfl T.g_NEW) (nomark _)) (pss_one (ps_ret (pe_lst (pa_cons (pe_call (ok_new T) (hr.mono (by decide)) rfl T.f_new.m T.f_new.f.kp T.f_new.b .nil pass0 (pa_cons (pv 0) pa_nil)) pa_nil)))) pss_nil)
      (pss_cons (ps_if (pt_cmpR op_eq (pv 2) (pe_globI rfl T.g_GIVE) (nomark _)) (pss_one (ps_ret (pe_call (ok_answer_give T) (hr.mono (by decide)) rfl T.f_answer_give.m T.f_answer_give.f.kp T.f_answer_give.b .nil pass0 (pa_cons (pv 0) (pa_cons (pv 1) pa_nil))))) pss_nil)
      (pss_cons (ps_if (pt_cmpR op_eq (pv 2) (pe_globI rfl T.g_SHARE) (nomark _)) (pss_one (ps_ret (pe_call (ok_answer_share T) (hr.mono (by decide)) rfl T.f_answer_share.m T.f_answer_share.f.kp T.f_answer_share.b .nil pass0 (pa_cons (pv 0) (pa_cons (pv 1) pa_nil))))) pss_nil)
      (pss_cons (ps_if (pt_cmpR op_eq (pv 2) (pe_globI rfl T.g_BACK) (nomark _)) (pss_one (ps_ret (pe_call (ok_answer_back T) (hr.mono (by decide)) rfl T.f_answer_back.m T.f_answer_back.f.kp T.f_answer_back.b .nil pass0 (pa_cons (pv 0) (pa_cons (pv 1) pa_nil))))) pss_nil)
      (pss_cons (ps_if (pt_cmpR op_eq (pv 2) (pe_globI rfl T.g_COPY) (nomark _)) (pss_one (ps_ret (pe_lst (pa_cons (pe_call (ok_copy_tree T) (hr.mono (by decide)) rfl T.f_copy_tree.m T.f_copy_tree.f.kp T.f_copy_tree.b .nil pass0 (pa_cons (pv 0) (pa_cons (pe_meth0 (pv 1) T.c_Reader T.f_take_number.mt (ok_take_number T) (hr.mono (by decide)) T.f_take_number.b .nil pass0) pa_nil))) pa_nil)))) pss_nil)
      (pss_cons (ps_if (pt_cmpR op_eq (pv 2) (pe_globI rfl T.g_TOUCH) (nomark _)) (pss_one (ps_ret (pe_call (ok_answer_touch T) (hr.mono (by decide)) rfl T.f_answer_touch.m T.f_answer_touch.f.kp T.f_answer_touch.b .nil pass0 (pa_cons (pv 0) (pa_cons (pv 1) pa_nil))))) pss_nil)
      (pss_cons (ps_if (pt_cmpR op_eq (pv 2) (pe_globI rfl T.g_DROP) (nomark _)) (pss_one (ps_ret (pe_lst (pa_cons (pe_call (ok_drop_tree T) (hr.mono (by decide)) rfl T.f_drop_tree.m T.f_drop_tree.f.kp T.f_drop_tree.b .nil pass0 (pa_cons (pv 0) (pa_cons (pe_meth0 (pv 1) T.c_Reader T.f_take_number.mt (ok_take_number T) (hr.mono (by decide)) T.f_take_number.b .nil pass0) pa_nil))) pa_nil)))) pss_nil)
      (pss_one ps_never)))))))))))))),?_⟩
    obtain⟨dr,or_⟩:=S.rd
    obtain⟨num,args',rfl⟩:∃num args',args=num::args':=by cases hc<;>exact⟨_,_,rfl⟩
    refine⟨_,rfl,r,dr,_,rfl,or_,rf_no _ _ (by decide +kernel) (by decide +kernel),r,ln,pos,ns,_,num,rfl,S.rd,S.n,hd,fun H1 R1 k1=>?_⟩
    have S1:=S.ko k1 R1
    have hd1:ns.drop (pos+1)=args'++rest:=(drop_at hd).2.1
    have ep:pos+(num::args').length=pos+1+args'.length:=by
      rw[List.length_cons]
      omega
    rw[ep]at k
    have k':AnsD A.C_Memory A.C_Reader K H1 p lw lc r ln s' ns (pos+1+args'.length) l Q:=fun H2 z h1 h2 h3 h4=>k H2 z h1 (k1.there z h2) h3 ((KO.kr k1).trans h4)
    clear k
    cases hc with
    | lay hp =>
      refine⟨_,rfl,rfl,_,rfl,iteT ?_⟩
      exact⟨_,rfl,_,rfl,p,lw,lc,r,ln,s,s',ns,args',rest,l,pos+1,rfl,S1,hd1,hp,k'⟩
    | tell hp =>
      refine⟨_,rfl,rfl,_,rfl,iteF ?_⟩
      refine⟨_,rfl,rfl,_,rfl,iteT ?_⟩
      exact⟨_,rfl,_,rfl,p,lw,lc,r,ln,s,s',ns,args',rest,l,pos+1,rfl,S1,hd1,hp,k'⟩
    | look hp =>
      refine⟨_,rfl,rfl,_,rfl,iteF ?_⟩
      refine⟨_,rfl,rfl,_,rfl,iteF ?_⟩
      refine⟨_,rfl,rfl,_,rfl,iteT ?_⟩
      exact⟨_,rfl,_,rfl,p,lw,lc,r,ln,s,s',ns,args',rest,l,pos+1,rfl,S1,hd1,hp,k'⟩
    | read hp =>
      refine⟨_,rfl,rfl,_,rfl,iteF ?_⟩
      refine⟨_,rfl,rfl,_,rfl,iteF ?_⟩
      refine⟨_,rfl,rfl,_,rfl,iteF ?_⟩
      refine⟨_,rfl,rfl,_,rfl,iteT ?_⟩
      exact⟨_,rfl,_,rfl,p,lw,lc,r,ln,s,s',ns,args',rest,l,pos+1,rfl,S1,hd1,hp,k'⟩
    | write hp =>
      refine⟨_,rfl,rfl,_,rfl,iteF ?_⟩
      refine⟨_,rfl,rfl,_,rfl,iteF ?_⟩
      refine⟨_,rfl,rfl,_,rfl,iteF ?_⟩
      refine⟨_,rfl,rfl,_,rfl,iteF ?_⟩
      refine⟨_,rfl,rfl,_,rfl,iteT ?_⟩
      exact⟨_,rfl,_,rfl,p,lw,lc,r,ln,s,s',ns,args',rest,l,pos+1,rfl,S1,hd1,hp,k'⟩
    | new =>
      refine⟨_,rfl,rfl,_,rfl,iteF ?_⟩
      refine⟨_,rfl,rfl,_,rfl,iteF ?_⟩
      refine⟨_,rfl,rfl,_,rfl,iteF ?_⟩
      refine⟨_,rfl,rfl,_,rfl,iteF ?_⟩
      refine⟨_,rfl,rfl,_,rfl,iteF ?_⟩
      refine⟨_,rfl,rfl,_,rfl,iteT ?_⟩
      refine⟨_,rfl,p,lw,lc,s,rfl,S1.m,fun H4 B4 k4=>⟨(by show 1≤sizeLine;decide),fun z hz=>?_⟩⟩
      exact k' _ z upd_same (k4.there z hz) ((S1.kp k4 B4).kp (Kp.new hz) (B4.new hz)) ((Kp.kr k4).trans (Kp.kr (Kp.new hz)))
    | give hp =>
      refine⟨_,rfl,rfl,_,rfl,iteF ?_⟩
      refine⟨_,rfl,rfl,_,rfl,iteF ?_⟩
      refine⟨_,rfl,rfl,_,rfl,iteF ?_⟩
      refine⟨_,rfl,rfl,_,rfl,iteF ?_⟩
      refine⟨_,rfl,rfl,_,rfl,iteF ?_⟩
      refine⟨_,rfl,rfl,_,rfl,iteF ?_⟩
      refine⟨_,rfl,rfl,_,rfl,iteT ?_⟩
      exact⟨_,rfl,_,rfl,p,lw,lc,r,ln,s,s',ns,args',rest,l,pos+1,rfl,S1,hd1,hp,k'⟩
    | share hp =>
      refine⟨_,rfl,rfl,_,rfl,iteF ?_⟩
      refine⟨_,rfl,rfl,_,rfl,iteF ?_⟩
      refine⟨_,rfl,rfl,_,rfl,iteF ?_⟩
      refine⟨_,rfl,rfl,_,rfl,iteF ?_⟩
      refine⟨_,rfl,rfl,_,rfl,iteF ?_⟩
      refine⟨_,rfl,rfl,_,rfl,iteF ?_⟩
      refine⟨_,rfl,rfl,_,rfl,iteF ?_⟩
      refine⟨_,rfl,rfl,_,rfl,iteT ?_⟩
      exact⟨_,rfl,_,rfl,p,lw,lc,r,ln,s,s',ns,args',rest,l,pos+1,rfl,S1,hd1,hp,k'⟩
    | back hp =>
      refine⟨_,rfl,rfl,_,rfl,iteF ?_⟩
      refine⟨_,rfl,rfl,_,rfl,iteF ?_⟩
      refine⟨_,rfl,rfl,_,rfl,iteF ?_⟩
      refine⟨_,rfl,rfl,_,rfl,iteF ?_⟩
      refine⟨_,rfl,rfl,_,rfl,iteF ?_⟩
      refine⟨_,rfl,rfl,_,rfl,iteF ?_⟩
      refine⟨_,rfl,rfl,_,rfl,iteF ?_⟩
      refine⟨_,rfl,rfl,_,rfl,iteF ?_⟩
      refine⟨_,rfl,rfl,_,rfl,iteT ?_⟩
      exact⟨_,rfl,_,rfl,p,lw,lc,r,ln,s,s',ns,args',rest,l,pos+1,rfl,S1,hd1,hp,k'⟩
    | copy hs hcnt =>
      refine⟨_,rfl,rfl,_,rfl,iteF ?_⟩
      refine⟨_,rfl,rfl,_,rfl,iteF ?_⟩
      refine⟨_,rfl,rfl,_,rfl,iteF ?_⟩
      refine⟨_,rfl,rfl,_,rfl,iteF ?_⟩
      refine⟨_,rfl,rfl,_,rfl,iteF ?_⟩
      refine⟨_,rfl,rfl,_,rfl,iteF ?_⟩
      refine⟨_,rfl,rfl,_,rfl,iteF ?_⟩
      refine⟨_,rfl,rfl,_,rfl,iteF ?_⟩
      refine⟨_,rfl,rfl,_,rfl,iteF ?_⟩
      refine⟨_,rfl,rfl,_,rfl,iteT ?_⟩
      obtain⟨dr1,or1⟩:=S1.rd
      refine⟨_,rfl,_,rfl,r,dr1,_,rfl,or1,rf_no _ _ (by decide +kernel) (by decide +kernel),r,ln,pos+1,ns,_,_,rfl,S1.rd,S1.n,hd1,fun H2 R2 k2=>?_⟩
      have S2:=S1.ko k2 R2
      refine⟨p,lw,lc,s,_,rfl,S2.m,hs,hcnt,fun H4 B4 k4=>⟨(by show 1≤sizeLine;decide),fun z hz=>?_⟩⟩
      exact k' _ z upd_same (k2.there z (k4.there z hz)) ((S2.kp k4 B4).kp (Kp.new hz) (B4.new hz)) (((KO.kr k2).trans (Kp.kr k4)).trans (Kp.kr (Kp.new hz)))
    | touch hp =>
      refine⟨_,rfl,rfl,_,rfl,iteF ?_⟩
      refine⟨_,rfl,rfl,_,rfl,iteF ?_⟩
      refine⟨_,rfl,rfl,_,rfl,iteF ?_⟩
      refine⟨_,rfl,rfl,_,rfl,iteF ?_⟩
      refine⟨_,rfl,rfl,_,rfl,iteF ?_⟩
      refine⟨_,rfl,rfl,_,rfl,iteF ?_⟩
      refine⟨_,rfl,rfl,_,rfl,iteF ?_⟩
      refine⟨_,rfl,rfl,_,rfl,iteF ?_⟩
      refine⟨_,rfl,rfl,_,rfl,iteF ?_⟩
      refine⟨_,rfl,rfl,_,rfl,iteF ?_⟩
      refine⟨_,rfl,rfl,_,rfl,iteT ?_⟩
      exact⟨_,rfl,_,rfl,p,lw,lc,r,ln,s,s',ns,args',rest,l,pos+1,rfl,S1,hd1,hp,k'⟩
    | drop hs =>
      refine⟨_,rfl,rfl,_,rfl,iteF ?_⟩
      refine⟨_,rfl,rfl,_,rfl,iteF ?_⟩
      refine⟨_,rfl,rfl,_,rfl,iteF ?_⟩
      refine⟨_,rfl,rfl,_,rfl,iteF ?_⟩
      refine⟨_,rfl,rfl,_,rfl,iteF ?_⟩
      refine⟨_,rfl,rfl,_,rfl,iteF ?_⟩
      refine⟨_,rfl,rfl,_,rfl,iteF ?_⟩
      refine⟨_,rfl,rfl,_,rfl,iteF ?_⟩
      refine⟨_,rfl,rfl,_,rfl,iteF ?_⟩
      refine⟨_,rfl,rfl,_,rfl,iteF ?_⟩
      refine⟨_,rfl,rfl,_,rfl,iteF ?_⟩
      refine⟨_,rfl,rfl,_,rfl,iteT ?_⟩
      obtain⟨dr1,or1⟩:=S1.rd
      refine⟨_,rfl,_,rfl,r,dr1,_,rfl,or1,rf_no _ _ (by decide +kernel) (by decide +kernel),r,ln,pos+1,ns,_,_,rfl,S1.rd,S1.n,hd1,fun H2 R2 k2=>?_⟩
      have S2:=S1.ko k2 R2
      refine⟨p,lw,lc,s,_,rfl,S2.m,hs,fun H4 B4 k4=>⟨(by show 1≤sizeLine;decide),fun z hz=>?_⟩⟩
      exact k' _ z upd_same (k2.there z (k4.there z hz)) ((S2.kp k4 B4).kp (Kp.new hz) (B4.new hz)) (((KO.kr k2).trans (Kp.kr k4)).trans (Kp.kr (Kp.new hz)))
end
end G
namespace G
open PySem PySem.Spec PyProof.Rows L2
open Sd19Neutral (pairs nats firsts seconds laid layOk going asked1 callOf natural)
theorem nat_of {z:Int} {b:Nat} (h:natural z b=true):0≤z∧z<2 ^ b:=by
 unfold Sd19Neutral.natural at h
 simp only[Bool.and_eq_true,decide_eq_true_eq]at h
 exact h
theorem ints_nats:∀{l:List Int},(∀z∈l,0≤z)→Sd19Neutral.ints (nats l)=l
  | [],_=>rfl
  | z::l,h=>by
    show((z.toNat:Nat):Int)::Sd19Neutral.ints (nats l)=_
    rw[Int.toNat_of_nonneg (h z (by simp)),ints_nats fun x hx=>h x (by simp[hx])]
theorem pairs_mem:∀{l:List Int} {p:Nat×Nat},p∈pairs (nats l)→∃z∈seconds l,p.2=z.toNat
  | [],p,h=>by simp[nats,pairs]at h
  | [u],p,h=>by simp[nats,pairs]at h
  | u :: v :: r, p, h => by
    have hp:pairs (nats (u::v::r))=(u.toNat,v.toNat)::pairs (nats r):=rfl
    rw[hp]at h
    rcases List.mem_cons.mp h with e|e
    · exact⟨v,by simp[seconds],by rw[e]⟩
    · obtain⟨z,hz,e2⟩:=pairs_mem e
      exact⟨z,by simp[seconds,hz],e2⟩
theorem fold_le:∀(l:List (Nat×Nat)) (c:Array Nat),(∀p∈l,p.2≤65535)→(∀g,c.getD g 0≤65535)→∀g,(l.foldl (fun(f:Array Nat) (p:Nat×Nat)=>f.setIfInBounds p.1 p.2) c).getD g 0≤65535
  | [],c,_,h,g=>h g
  | p::l,c,hp,h,g=>by
    refine fold_le l _ (fun q hq=>hp q (by simp[hq])) (fun g=>?_) g
    rw[M.getD_set]
    split
    · exact hp p (by simp)
    · exact h g
theorem laid_cnt {m k:List Int} (h:layOk m k=true):M.Cnt (laid m k):=by
 obtain⟨_,_,_,_,_,_,h7⟩:=layOk_of h
 intro g
 show((pairs (nats k)).foldl (fun(f:Array Nat) (p:Nat×Nat)=>f.setIfInBounds p.1 p.2) (Array.replicate Sd19.FRAMES 0)).getD g 0≤65535
 refine fold_le _ _ (fun p hp=>?_) (fun g=>?_) g
 ·obtain⟨z,hz,e⟩:=pairs_mem hp
  have:=h7 z hz
  omega
 ·rw[Array.getD_eq_getD_getElem?,Array.getElem?_replicate]
  split<;>simp
def Good (s:Sd19.St) (todo:List (List (List Int))) (n:Nat):Prop :=
 todo=[]∨(∃m k r,todo=[[11],m,k]::r∧layOk m k=true∧going (laid m k) r 0=true∧s=Sd19.begun∧n=0)∨(going s todo n=true∧M.Cnt s)
theorem num_ans {y:Sd19.St×Sd19.Ans} (h:M.Num y):y.2.value::Sd19Neutral.ints (y.2.told++y.2.out)=[y.2.value]:=by
 rw[h.1,h.2]
 rfl
theorem nn {z:Int} (h:0≤z):z=((z.toNat:Nat):Int):=(Int.toNat_of_nonneg h).symm
theorem call_f {s:Sd19.St} {c:List (List Int)} (hk:PyFlat.okCall PySd19.shape c) (ha:asked1 c=true) {x:Sd19.Call} (hx:callOf c=some x) (hm:Sd19.may s x=true) (hcnt:M.Cnt s):CallF s (PyFlat.put1 c) (Sd19Neutral.step s c).1 (Sd19Neutral.step s c).2:=by
 refine M.call_cases (P:=fun c=>asked1 c=true→callOf c=some x→CallF s (PyFlat.put1 c) (Sd19Neutral.step s c).1 (Sd19Neutral.step s c).2) hk ?_ ?_ ?_ ?_ ?_ ?_ ?_ ?_ ?_ ?_ ?_ ?_ ha hx<;>clear ha hx hk c
 ·intro r ha
  cases ha
 ·intro a b cc y k ha hx
  replace ha:([a,b,cc,y].all (fun z=>natural z 64)&&Sd19Neutral.whole32 k)=true:=ha
  simp only[Bool.and_eq_true,List.all_cons,List.all_nil]at ha
  obtain⟨⟨h1,h2,h3,h4,_⟩,_⟩:=ha
  have h1:=nat_of h1
  have h2:=nat_of h2
  have h3:=nat_of h3
  have h4:=nat_of h4
  refine .look ⟨a.toNat,b.toNat,cc.toNat,y.toNat,k,?_,by omega,rfl,rfl⟩
  show [a,b,cc,y,k]=_
  rw[←nn h1.1,←nn h2.1,←nn h3.1,←nn h4.1]
 ·intro a b cc y k ha hx
  replace ha:([a,b,cc,y].all (fun z=>natural z 64)&&Sd19Neutral.whole32 k)=true:=ha
  simp only[Bool.and_eq_true,List.all_cons,List.all_nil]at ha
  obtain⟨⟨h1,h2,h3,h4,_⟩,_⟩:=ha
  have h1:=nat_of h1
  have h2:=nat_of h2
  have h3:=nat_of h3
  have h4:=nat_of h4
  refine .read ⟨a.toNat,b.toNat,cc.toNat,y.toNat,k,?_,by omega,rfl,rfl⟩
  show [a,b,cc,y,k]=_
  rw[←nn h1.1,←nn h2.1,←nn h3.1,←nn h4.1]
 ·intro a b cc y k l ha hx
  replace ha:([a,b,cc,y].all (fun z=>natural z 64)&&(Sd19Neutral.whole32 k&&(l.all (fun z=>natural z 8)&&decide ((l.length:Int)=if 0≤k∧k≤65536 then k else 0))))=true:=ha
  simp only[Bool.and_eq_true,List.all_cons,List.all_nil,decide_eq_true_eq,List.all_eq_true]at ha
  obtain⟨⟨h1,h2,h3,h4,_⟩,_,hl,hn⟩:=ha
  have h1:=nat_of h1
  have h2:=nat_of h2
  have h3:=nat_of h3
  have h4:=nat_of h4
  have hin:=ints_nats (l:=l) fun z hz=>(nat_of (hl z hz)).1
  have hlen:(nats l).length=l.length:=by simp[nats]
  refine .write ⟨a.toNat,b.toNat,cc.toNat,y.toNat,k,nats l,?_,by omega,fun z hz=>?_,fun h=>?_,rfl,rfl⟩
  ·show [a,b,cc,y,k]++(((l.length:Int)::l)++[])=_
   rw[hin,hlen,←nn h1.1,←nn h2.1,←nn h3.1,←nn h4.1,List.append_nil]
  ·obtain⟨v,hv,e⟩:=List.mem_map.mp hz
   have:=nat_of (hl v hv)
   omega
  ·rw[hlen,hn,if_pos h]
 ·intro ha hx
  have e:=num_ans (M.num_new s)
  show CallF s [4] (Sd19.step s .new).1 ((Sd19.step s .new).2.value::Sd19Neutral.ints ((Sd19.step s .new).2.told++(Sd19.step s .new).2.out))
  rw[e]
  exact .new
 ·intro a b cc ha hx
  replace ha:(natural a 8&&(natural b 64&&natural cc 32))=true:=ha
  simp only[Bool.and_eq_true]at ha
  obtain⟨h1,h2,h3⟩:=ha
  have h1:=nat_of h1
  have h2:=nat_of h2
  have h3:=nat_of h3
  have hx':Sd19.Call.give a.toNat b.toNat cc.toNat=x:=Option.some.inj hx
  subst hx'
  have hs:Sd19.sound s a.toNat=true:=by
   have:(decide (a.toNat<256)&&Sd19.sound s a.toNat)=true:=hm
   rw[Bool.and_eq_true]at this
   exact this.2
  have e:=num_ans (M.num_give s a.toNat b.toNat cc.toNat)
  show CallF s (5::[a,b,cc]) (Sd19.step s (.give a.toNat b.toNat cc.toNat)).1 ((Sd19.step s (.give a.toNat b.toNat cc.toNat)).2.value::Sd19Neutral.ints ((Sd19.step s (.give a.toNat b.toNat cc.toNat)).2.told++(Sd19.step s (.give a.toNat b.toNat cc.toNat)).2.out))
  rw[e]
  refine .give ⟨a.toNat,b.toNat,cc.toNat,?_,hs,by omega,rfl,rfl⟩
  rw[←nn h1.1,←nn h2.1,←nn h3.1]
 ·intro a b cc d ha hx
  replace ha:(natural a 8&&(natural b 64&&(natural cc 32&&natural d 32)))=true:=ha
  simp only[Bool.and_eq_true]at ha
  obtain⟨h1,h2,h3,h4⟩:=ha
  have h1:=nat_of h1
  have h2:=nat_of h2
  have h3:=nat_of h3
  have h4:=nat_of h4
  have hx':Sd19.Call.share a.toNat b.toNat cc.toNat d.toNat=x:=Option.some.inj hx
  subst hx'
  have hs:Sd19.sound s a.toNat=true:=by
   have:(decide (a.toNat<256)&&Sd19.sound s a.toNat)=true:=hm
   rw[Bool.and_eq_true]at this
   exact this.2
  have e:=num_ans (M.num_share s a.toNat b.toNat cc.toNat d.toNat)
  show CallF s (6::[a,b,cc,d]) (Sd19.step s (.share a.toNat b.toNat cc.toNat d.toNat)).1 ((Sd19.step s (.share a.toNat b.toNat cc.toNat d.toNat)).2.value::Sd19Neutral.ints ((Sd19.step s (.share a.toNat b.toNat cc.toNat d.toNat)).2.told++(Sd19.step s (.share a.toNat b.toNat cc.toNat d.toNat)).2.out))
  rw[e]
  refine .share ⟨a.toNat,b.toNat,cc.toNat,d.toNat,?_,hs,by omega,rfl,rfl⟩
  rw[←nn h1.1,←nn h2.1,←nn h3.1,←nn h4.1]
 ·intro a b ha hx
  replace ha:(natural a 8&&natural b 64)=true:=ha
  simp only[Bool.and_eq_true]at ha
  obtain⟨h1,h2⟩:=ha
  have h1:=nat_of h1
  have h2:=nat_of h2
  have hx':Sd19.Call.takeBack a.toNat b.toNat=x:=Option.some.inj hx
  subst hx'
  have hs:Sd19.sound s a.toNat=true:=by
   have:(decide (a.toNat<256)&&Sd19.sound s a.toNat)=true:=hm
   rw[Bool.and_eq_true]at this
   exact this.2
  have e:=num_ans (M.num_back s a.toNat b.toNat)
  show CallF s (7::[a,b]) (Sd19.step s (.takeBack a.toNat b.toNat)).1 ((Sd19.step s (.takeBack a.toNat b.toNat)).2.value::Sd19Neutral.ints ((Sd19.step s (.takeBack a.toNat b.toNat)).2.told++(Sd19.step s (.takeBack a.toNat b.toNat)).2.out))
  rw[e]
  refine .back ⟨a.toNat,b.toNat,?_,hs,by omega,rfl,rfl⟩
  rw[←nn h1.1,←nn h2.1]
 ·intro a ha hx
  replace ha:natural a 8=true:=ha
  have h1:=nat_of ha
  have hx':Sd19.Call.copy a.toNat=x:=Option.some.inj hx
  subst hx'
  have hs:Sd19.sound s a.toNat=true:=by
   have:(decide (a.toNat<256)&&Sd19.sound s a.toNat)=true:=hm
   rw[Bool.and_eq_true]at this
   exact this.2
  have e:=num_ans (M.num_copy s a.toNat)
  show CallF s [8,a] (Sd19.step s (.copy a.toNat)).1 ((Sd19.step s (.copy a.toNat)).2.value::Sd19Neutral.ints ((Sd19.step s (.copy a.toNat)).2.told++(Sd19.step s (.copy a.toNat)).2.out))
  rw[e]
  have c:=CallF.copy hs hcnt
  rw[←nn h1.1]at c
  exact c
 ·intro a b ha hx
  replace ha:(natural a 8&&natural b 64)=true:=ha
  simp only[Bool.and_eq_true]at ha
  obtain⟨h1,h2⟩:=ha
  have h1:=nat_of h1
  have h2:=nat_of h2
  have hx':Sd19.Call.touch a.toNat b.toNat=x:=Option.some.inj hx
  subst hx'
  have hs:Sd19.sound s a.toNat=true:=by
   have:(decide (a.toNat<256)&&Sd19.sound s a.toNat)=true:=hm
   rw[Bool.and_eq_true]at this
   exact this.2
  have e:=num_ans (M.num_touch s a.toNat b.toNat)
  show CallF s (9::[a,b]) (Sd19.step s (.touch a.toNat b.toNat)).1 ((Sd19.step s (.touch a.toNat b.toNat)).2.value::Sd19Neutral.ints ((Sd19.step s (.touch a.toNat b.toNat)).2.told++(Sd19.step s (.touch a.toNat b.toNat)).2.out))
  rw[e]
  refine .touch ⟨a.toNat,b.toNat,?_,hs,by omega,rfl,rfl⟩
  rw[←nn h1.1,←nn h2.1]
 ·intro a ha hx
  replace ha:natural a 8=true:=ha
  have h1:=nat_of ha
  have hx':Sd19.Call.drop a.toNat=x:=Option.some.inj hx
  subst hx'
  have hs:Sd19.sound s a.toNat=true:=by
   have:(decide (a.toNat<256)&&Sd19.sound s a.toNat)=true:=hm
   rw[Bool.and_eq_true]at this
   exact this.2
  have e:=num_ans (M.num_drop s a.toNat)
  show CallF s [10,a] (Sd19.step s (.drop a.toNat)).1 ((Sd19.step s (.drop a.toNat)).2.value::Sd19Neutral.ints ((Sd19.step s (.drop a.toNat)).2.told++(Sd19.step s (.drop a.toNat)).2.out))
  rw[e]
  have c:=CallF.drop hs
  rw[←nn h1.1]at c
  exact c
 ·intro r l ha
  cases ha
theorem step_1 {s:Sd19.St} {c:List (List Int)} (ha:asked1 c=true) {x:Sd19.Call} (hx:callOf c=some x):(Sd19Neutral.step s c).1=(Sd19.step s x).1:=by
 unfold Sd19Neutral.step
 split
 ·cases ha
 ·cases ha
 ·rw[hx]
theorem good_step {s:Sd19.St} {c:List (List Int)} {r:List (List (List Int))} {n:Nat} (hk:PyFlat.okCall PySd19.shape c) (hw:M.WF s) (h:Good s (c::r) n) (hl:(PyFlat.put1 c).length≤15800) :
    CallF s (PyFlat.put1 c) (Sd19Neutral.step s c).1 (Sd19Neutral.step s c).2∧Good (Sd19Neutral.step s c).1 r (n+(Sd19Neutral.step s c).2.length)∧n+(Sd19Neutral.step s c).2.length<1000000:=by
  rcases h with h|⟨m,k,r',e,hok,hg,hs,hn⟩|⟨hg,hcnt⟩
  · cases h
  · injection e with e1 e2
    subst e1 e2 hs hn
    have ep:PyFlat.put1 [[11],m,k]=11::(((m.length:Int)::m)++((k.length:Int)::k)):=by
      show [11]++(((m.length:Int)::m)++(((k.length:Int)::k)++[]))=_
      rw[List.append_nil]
      rfl
    have hkl:k.length≤15800:=by
      rw[ep]at hl
      simp only[List.length_cons,List.length_append]at hl
      omega
    refine⟨?_,?_,by show 0+0<1000000;decide⟩
    · rw[ep]
      exact .lay ⟨m,k,rfl,hok,hkl,rfl,rfl,rfl⟩
    · exact .inr (.inr ⟨hg,laid_cnt hok⟩)
  · unfold Sd19Neutral.going at hg
    split at hg
    · rename_i l heq
      injection heq with e1 e2
      subst e1 e2
      simp only[Bool.and_eq_true,decide_eq_true_eq,List.all_eq_true]at hg
      obtain⟨h1,h2,h3⟩:=hg
      refine⟨?_,.inl rfl,h3⟩
      have hpl:∀z∈l,0≤z∧z<1048576:=fun z hz=>by
        have q:=h1 z hz
        unfold Sd19Neutral.place NeutralIO.within at q
        simp only[Bool.and_eq_true,decide_eq_true_eq]at q
        omega
      have hin:=ints_nats (l:=l) fun z hz=>(hpl z hz).1
      have hlen:(nats l).length=l.length:=by simp[nats]
      have ep:PyFlat.put1 [[0],l]=0::(((nats l).length:Int)::Sd19Neutral.ints (nats l)):=by
        show [0]++(((l.length:Int)::l)++[])=_
        rw[List.append_nil,hin,hlen]
        rfl
      rw[ep]
      refine .tell ⟨nats l,rfl,fun a ha=>?_,by omega,rfl,rfl⟩
      obtain⟨v,hv,e⟩:=List.mem_map.mp ha
      have:=hpl v hv
      omega
    · rename_i c' r' hne heq
      injection heq with e1 e2
      subst e1 e2
      simp only[Bool.and_eq_true]at hg
      obtain⟨ha,hg⟩:=hg
      cases hx:callOf c with
      | none=>rw[hx]at hg;cases hg
      | some x =>
        rw[hx]at hg
        simp only[Bool.and_eq_true,decide_eq_true_eq]at hg
        obtain⟨hm,h2,h3⟩:=hg
        refine⟨call_f hk ha hx hm hcnt,.inr (.inr ⟨h3,?_⟩),h2⟩
        rw[step_1 ha hx]
        exact hcnt.step hw x
    · rename_i heq
      cases heq
theorem good_start {cs:List (List (List Int))} (h:Sd19Neutral.asked cs=true):Good Sd19.begun cs 0:=by
 unfold Sd19Neutral.asked at h
 split at h
 ·rename_i m k r
  simp only[Bool.and_eq_true,decide_eq_true_eq]at h
  exact .inr (.inl ⟨m,k,r,rfl,h.1,h.2.2,rfl,rfl⟩)
 ·cases h
theorem put1_len {c:List (List Int)} (h:PyFlat.okCall PySd19.shape c):1≤(PyFlat.put1 c).length:=by
 obtain⟨p,a,xs,e,_⟩:=h
 subst e
 show 1≤((p::a)++PyFlat.putRows xs).length
 rw[List.length_append,List.length_cons]
 omega
def posOf (r:Addr) (H:Hp):Nat:=match H r with
  | some (.ins _ _ fs)=>match fs.lookup ("position" : Str)with
    | some (.int z)=>z.toNat
    | _=>0
  | _=>0
theorem pos_of {C:Addr} {H:Hp} {r ln:Addr} {pos:Nat} (R:ReadAt C H r ln pos):posOf r H=pos:=by
 obtain⟨dx,h⟩:=R
 unfold posOf
 rw[h]
 simp only[rf_position,Int.toNat_natCast]
section
variable {P:Program} {w:World} {K:PySem.W.Frag} {mg:Str→Option Value} {base:Heap} {A:Adr}
def spAnswers (K:PySem.W.Frag):Sp:=fun vs H Q _=>∃(a:Addr) (ns:List Int),vs=[.ref a]∧SqL K H a (vi ns)∧PySd19.answers_asked ns=true∧ns.length≤15800∧∀(H':Hp) (z:Addr),H' z=some (.lst (vi (PySd19.answers ns)))→Q (.ref z) H'
theorem sc_answers:FnScope ["calls","reader","memory","told","answer"] ["calls"] (defScope s_answers):=⟨rfl,rfl,rfl,by decide +kernel,rfl,by decide +kernel,by decide +kernel⟩
set_option maxHeartbeats 2000000 in
theorem ok_answers (T:Txt K mg A):FnOk P w K mg base CX0 10 A.answers.1 A.answers.2 ["calls"] (spAnswers K):=by
  refine T.f_answers.f.ok sc_answers (fun vs H Q E h=>?_) (fun cdv A' outer s0 H vs Q E hr h=>?_)
  · obtain⟨a,ns,rfl,_⟩:=h
    rfl
  · obtain ⟨a, ns, rfl, hn, hask, hnl, k⟩ := h
    obtain⟨cs,hput,hok,hcl,hak,hans⟩:=M.asked_of hask
    refine⟨_,(pss_cons (ps_set (i:=1) sc_answers.nd rfl (Or.inl rfl) (pe_make T.mk_Reader (ok_Reader_init T) (hr.mono (by decide)) rfl T.m_Reader T.f_Reader_init.b .nil pass0 (pa_cons (pv 0) pa_nil)))
      (pss_cons (ps_set (i:=2) sc_answers.nd rfl (Or.inl rfl) (pe_make0 T.mk_Memory (ok_Memory_init T) (hr.mono (by decide)) rfl T.m_Memory T.f_Memory_init.b .nil pass0))
      (pss_cons (ps_set (i:=3) sc_answers.nd rfl (Or.inl rfl) (pe_lst pa_nil))
      (pss_cons (ps_while PassesOwn.never (pt_not (pt_val (pe_meth0 (pv 1) T.c_Reader T.f_at_end.mt (ok_at_end T) (hr.mono (by decide)) T.f_at_end.b .nil pass0))) (pss_cons (ps_set (i:=4) sc_answers.nd rfl (Or.inl rfl) (pe_call (ok_answer_call T) (hr.mono (by decide)) rfl T.f_answer_call.m T.f_answer_call.f.kp T.f_answer_call.b .nil pass0 (pa_cons (pv 2) (pa_cons (pv 1) pa_nil))))
      (pss_cons (ps_expr (pe_bm PySem.F.plainAttrs_list PySem.F.slot_list_append PySem.F.type_list_append mt_append (pv 3) (pa_cons (pe_callB call_len_seq (by rfl) T.no_len boot_len (pa_cons (pv 4) pa_nil)) pa_nil)))
      (pss_one (ps_expr (pe_bm PySem.F.plainAttrs_list PySem.F.slot_list_extend PySem.F.type_list_extend mt_extend (pv 3) (pa_cons (pv 4) pa_nil)))))))
      (pss_one (ps_ret (pv 3))))))),?_⟩
    refine⟨_,rfl,fun r dr hr hdr nr=>?_⟩
    refine⟨r,dr,a,rfl,upd_same,fun H1 R1 k1=>⟨rfl,?_⟩⟩
    have sm1:Same H H1:=Same.made hr hdr k1.keep
    have hn1:SqL K H1 a (vi ns):=sm1.seq hn
    refine fun p dp hp hdp np=>?_
    refine⟨p,dp,rfl,upd_same,fun H2 lw lc B2 nlw nlc k2=>⟨rfl,?_⟩⟩
    have sm2:Same H1 H2:=Same.made hp hdp k2.keep
    have hn2:=sm2.seq hn1
    have R2:ReadAt A.C_Reader H2 r a 0:=by
      obtain⟨d,o⟩:=R1
      exact⟨d,sm2 _ _ o⟩
    have nlw1:H1 lw=none:=by
      by_cases e:lw=p
      · rw[e];exact hp
      · by_cases e2:lw=dp
        · rw[e2];exact hdp
        · rw[upd_ne e,upd_ne e2]at nlw;exact nlw
    have nlc1:H1 lc=none:=by
      by_cases e:lc=p
      · rw[e];exact hp
      · by_cases e2:lc=dp
        · rw[e2];exact hdp
        · rw[upd_ne e,upd_ne e2]at nlc;exact nlc
    refine⟨(by show 0≤sizeLine;decide),fun lt hlt=>?_⟩
    have offt:lt≠lw∧lt≠lc:=by
      obtain⟨ds,h1,_⟩:=B2.ws
      exact⟨Ne.symm (ne_of_none h1 hlt),Ne.symm (ne_of_none B2.cs hlt)⟩
    have oftr:lt≠r:=by
      obtain⟨d,o⟩:=R2
      exact Ne.symm (ne_of_none o hlt)
    have na:(a≠lw∧a≠lc∧a≠r∧a≠lt)∨∀H',SqL K H' a (vi ns):=by
      rcases hn with(h|⟨o,h⟩)|h
      · left
        have h1:=sm1 _ _ h
        exact⟨ne_of_none h1 nlw1,ne_of_none h1 nlc1,ne_of_none h hr,ne_of_none (sm2 _ _ h1) hlt⟩
      · left
        have h1:=sm1 _ _ h
        exact⟨ne_of_none h1 nlw1,ne_of_none h1 nlc1,ne_of_none h hr,ne_of_none (sm2 _ _ h1) hlt⟩
      · right
        exact fun H'=>.inr h
    have na1:a≠lw∨∀H',SqL K H' a (vi ns):=na.imp (fun h=>h.1) id
    have na2:a≠lc∨∀H',SqL K H' a (vi ns):=na.imp (fun h=>h.2.1) id
    have na3:a≠r∨∀H',SqL K H' a (vi ns):=na.imp (fun h=>h.2.2.1) id
    have na4:a≠lt∨∀H',SqL K H' a (vi ns):=na.imp (fun h=>h.2.2.2) id
    have sm3:Same H2 (L2.upd H2 lt (.lst [])):=Same.new hlt
    refine while_by (fun σ H'=>∃(s:Sd19.St) (todo:List (List (List Int))) (n pos:Nat) (tol:List Int) (v4:Option V),σ=[some (.ref a),some (.ref r),some (.ref p),some (.ref lt),v4]∧Sit A.C_Memory A.C_Reader K H' p lw lc r a s ns pos∧H' lt=some (.lst (vi tol)) ∧
        ns.drop pos=PyFlat.put todo∧pos≤ns.length∧Good s todo n∧(∀c∈todo,PyFlat.okCall PySd19.shape c)∧PySd19.answers ns=tol++PyFlat.told (PyFlat.played Sd19Neutral.step s todo)∧tol.length+todo.length≤n+402∧n<1000000)
      (fun _ H'=>ns.length - posOf r H') ?_ ?_ ?_
    · refine⟨Sd19.begun,cs,0,0,[],none,rfl,⟨B2.new hlt,?_,sm3.seq hn2,na1,na2,na3⟩,upd_same,by rw[List.drop_zero];exact hput,Nat.zero_le _,good_start hak,hok,hans,by show 0+cs.length≤0+402;omega,by decide⟩
      obtain⟨d,o⟩:=R2
      exact⟨d,sm3 _ _ o⟩
    · rintro σ H' ⟨s,todo,n,pos,tol,v4,rfl,S,htl,hd,hpl,hg,hoks,ha,hbd,hn6⟩
      obtain⟨dr',or'⟩:=S.rd
      refine⟨_,rfl,r,dr',_,rfl,or',rf_no _ _ (by decide +kernel) (by decide +kernel),r,a,pos,ns,rfl,S.rd,S.n,_,rfl,?_⟩
      refine ite2 (fun g=>?_) (fun g=>?_)
      · have g':pos≠ns.length:=fun q=>by
          rw[decide_eq_true q]at g
          cases g
        cases todo with
        | nil =>
          have:ns.drop pos=[]:=hd
          rw[List.drop_eq_nil_iff]at this
          omega
        | cons c rest =>
          have hd':ns.drop pos=PyFlat.put1 c++PyFlat.put rest:=hd
          have hc1:=put1_len (hoks c (by simp))
          have hlen:(PyFlat.put1 c).length+(PyFlat.put rest).length=ns.length - pos:=by
            have:=congrArg List.length hd'
            rw[List.length_drop,List.length_append]at this
            omega
          obtain⟨cf,hg2,hlt6⟩:=good_step (hoks c (by simp)) S.m.wf hg (by omega)
          have e1:PyFlat.told (PyFlat.played Sd19Neutral.step s (c::rest))=(((Sd19Neutral.step s c).2.length:Int)::(Sd19Neutral.step s c).2)++PyFlat.told (PyFlat.played Sd19Neutral.step (Sd19Neutral.step s c).1 rest):=by
            show((Sd19Neutral.step s c).2::PyFlat.played Sd19Neutral.step (Sd19Neutral.step s c).1 rest).flatMap (fun a=>(a.length:Int)::a)=_
            rw[List.flatMap_cons]
            rfl
          rw[e1]at ha
          generalize (Sd19Neutral.step s c).1=s' at *
          generalize (Sd19Neutral.step s c).2=l at *
          refine⟨_,rfl,_,rfl,p,lw,lc,r,a,s,s',ns,PyFlat.put1 c,PyFlat.put rest,l,pos,rfl,S,hd',cf,fun H4 z hz nz S4 kr=>?_⟩
          have ht4:=kr.keep _ _ htl offt.1 offt.2 oftr trivial
          have nzt:z≠lt:=fun e=>by rw[e,htl]at nz;cases nz
          have tb:tol.length≤1000402:=by
            have:tol.length+(rest.length+1)≤n+402:=hbd
            omega
          refine⟨_,rfl,.inl ⟨rfl,_,SqL.of ht4⟩,_,rfl,z,_,rfl,.inl (SqL.of hz),lt,_,_,rfl,rfl,ht4,(by rw[vi_len];exact Nat.lt_of_le_of_lt tb (by decide)),?_⟩
          have hz5:L2.upd H4 lt (.lst (vi tol++[.int ((vi l).length:Int)])) z=some (.lst (vi l)):=by rw[upd_ne nzt];exact hz
          have S5:=S4.at_l (ys:=vi tol++[.int ((vi l).length:Int)]) ht4 offt.1 offt.2 na4
          have ht5:L2.upd H4 lt (.lst (vi tol++[.int ((vi l).length:Int)])) lt=some (.lst (vi tol++[.int ((vi l).length:Int)])):=upd_same
          generalize L2.upd H4 lt (.lst (vi tol++[.int ((vi l).length:Int)]))=H5 at *
          refine⟨_,rfl,.inl ⟨rfl,_,SqL.of ht5⟩,_,rfl,lt,z,_,_,rfl,rfl,ht5,hz5,?_,?_⟩
          · rw[List.length_append,vi_len,vi_len]
            show tol.length+1+l.length≤sizeLine
            exact Nat.le_of_lt (Nat.lt_of_le_of_lt (show tol.length+1+l.length≤2100000 by omega) (by decide))
          have S6:=S5.at_l (ys:=vi tol++[.int ((vi l).length:Int)]++vi l) ht5 offt.1 offt.2 na4
          refine⟨⟨s',rest,n+l.length,pos+(PyFlat.put1 c).length,tol++((l.length:Int)::l),_,rfl,S6,?_,?_,by omega,hg2,fun x hx=>hoks x (by simp[hx]),?_,?_,hlt6⟩,?_⟩
          · rw[upd_same,vi_len]
            unfold vi
            rw[List.map_append,List.append_assoc]
            rfl
          · rw[←List.drop_drop,hd',List.drop_left]
          · rw[ha,List.append_assoc]
          · rw[List.length_append,List.length_cons]
            have:tol.length+(rest.length+1)≤n+402:=hbd
            omega
          · show ns.length - posOf r _<ns.length - posOf r H'
            rw[pos_of S6.rd,pos_of S.rd]
            omega
      · have g':pos=ns.length:=by
          apply Decidable.byContradiction
          intro q
          rw[decide_eq_false q]at g
          exact g rfl
        have hnil:todo=[]:=by
          cases todo with
          | nil=>rfl
          | cons c rest =>
            have hd':ns.drop pos=PyFlat.put1 c++PyFlat.put rest:=hd
            have hc1:=put1_len (hoks c (by simp))
            have:=congrArg List.length hd'
            rw[List.length_drop,List.length_append]at this
            omega
        subst hnil
        have ha':PySd19.answers ns=tol:=by
          rw[ha]
          exact List.append_nil _
        refine⟨_,rfl,?_⟩
        exact k H' lt (by rw[ha',htl])
    · rintro σ H' Q1 Q2 hq ⟨x1,h1,x2,x3,x4,h2,h3,h4,x5,x6,x7,x8,h5,h6,h7,x9,h8,h9⟩
      exact⟨x1,h1,x2,x3,x4,h2,h3,h4,x5,x6,x7,x8,h5,h6,h7,x9,h8,hq _ _ h9⟩
end
end G
namespace G
open PySem PySem.Spec PyProof.Rows L2
theorem all_ok {P:Program} {w:World} {K:PySem.W.Frag} {mg:Str→Option Value} {A:Adr} (T:Txt K mg A) {fa:Addr} (hfa:mg "answers" = some (.ref fa)) :
  ∃fd:FuncData,(∀(s:Shared) (us:List Value),us.length=(["calls"]:List Str).length→BindsTo s fd ⟨us,[]⟩ ((["calls"]:List Str).zip us))∧∀base:Heap,K.In base→base.Ns mainGlobals mg→FnOk P w K mg base CX0 10 fa fd ["calls"] (spAnswers K):=by
 have e:=hfa.symm.trans T.f_answers.m
 have e2:fa=A.answers.1:=by
  have:=Option.some.inj e
  injection this
 subst e2
 obtain⟨oc,od,kV,doc,pm,an,cdv,ct,osl,efd,lk,hcd⟩:=T.f_answers.f.ex
 refine⟨A.answers.2,fun s us hu=>?_,fun base _ _=>ok_answers T⟩
 rw[efd]
 exact match us,hu with
  | [_],_=>.of_eq rfl
end G
structure PySem.W.Fast:Prop where
 (tw10824899492308892896 tw15815119339700411712 tw6451308144709192160 tw3871761853882283552 tw9674891415604059872 tw16236839123770730208 tw13746588690249258848 tw11677424917958432801 tw13279118726228420801 tw1280236410134932769 tw2541149542848104865 tw3346375403562923425 tw17627421705653939681 tw12564266713269614113 tw10943086879030608481 tw1717828216934870657 tw17022904531189770913 tw4429920188305967873 tw16014391618523838209 tw9665234612721861569 tw13182288822670856161 tw13376941166431224834 tw10560172108106682882 tw4718372813061227202 tw7056646214563796674 tw9885461020568022754 tw13830857811554419490 tw14293284173936070691 tw12096758738585479395 tw7407531159468158243 tw9691063797368901923 tw10317098110653690179 tw4224695790582888771 tw5859703246513055107 tw1573308848760819203 tw911885475852236579 tw8650160456671054627 tw15032496365571265507 tw3866265950898507780 tw3900603300432025668 tw12551237355549804644 tw12566162201990301028 tw3133052943057747364 tw8184992843303000676 tw13444243098980629124 tw13470994141846554244 tw1497997411165439652 tw15425365895153878692 tw17264084496485207716 tw7969504626625491684 tw11986279566713481956 tw12830586575859952388 tw17705992026495323940 tw15679836135380602756 tw16736509579750546340 tw4507140703322058724 tw5036832417733387365 tw2983773267858710629 tw15255314577655125221 tw17069185172471258437 tw13173340321919920485 tw8844736575846806949 tw17646128774604484037 tw722244491115376229 tw12101760677154401893 tw11195049464479297349 tw8196195710764953445 tw16099481132097051525 tw13284762353427925925 tw8666103337679429638 tw2680364019681509446 tw17161476971876196454 tw2890681371787895974 tw9634420469582966982 tw5030646427572443430 tw17304705497517690182 tw10287176393489640806 tw4224325360747912582 tw12107048303882421798 tw7031149637216590566 tw10108696424133472006 tw4886066996146670599 tw5131378623222236167 tw3098116134549331271 tw13487958940016557447 tw13448246007825660327 tw8680272820549307847 tw1264857084953635303 tw1309450476387033607 tw6525626124924154535 tw9811983577154802375 tw10114709749545907943 tw15079559650173579207 tw15098895302865605640 tw4346428774879720456 tw7780361575519274056 tw4361235650356824168 tw3560430618353169736 tw6526906271989340552 tw2335901235688368520 tw5178744720749531560 tw5043983028743644712 tw15689310506270746184 tw16335518880638563944 tw2487655657764291176 tw10613739732128546472 tw8629108143873902280 tw12604785044949169960 tw12931607224145566536 tw135232190192783240 tw4791954932873447465 tw16989088913059402025 tw4577518352910421353 tw2912632151104050569 tw8833184529902203273 tw5196621050128445001 tw17072129515627760201 tw1441072759222765193 tw15737073394479624873 tw13514599922578350761 tw3771162725866936009 tw2064164435892318025 tw10060631163134941097 tw18264516211810811849 tw502331016549264329 tw3792168638748251113 tw5474235592120925194 tw2876559434050380874 tw15779939698806546570 tw10421507899619977386 tw1015114001655458986 tw874356750024997066 tw3710443399393546 tw5269162767043169578 tw15004093534636440906 tw11791129793523790410 tw7020708996358624874 tw17617339713224352426 tw13316790857601260234 tw6281268888332081930 tw1497209498860969866 tw1127868911979924394 tw11892583749009626187 tw13338690825585975563 tw14899502332458263819 tw13256947161542089099 tw12428209042107035051 tw1515143438906356139 tw793669496105978347 tw11859818484543564299 tw2170292183239504395 tw8955372915174227467 tw10122938927624300075 tw3727498337426630315 tw9392075767964831627 tw16950068926951331723 tw3048280327613850539 tw3966796839734378411 tw3624393275431427084 tw15324399166880291916 tw5475370224728467532 tw4942900425253620940 tw11717815712032742636 tw1748508054155891020 tw12933444611763468748 tw14254023985934937676 tw1553582072987843212 tw9851680804628849516 tw1032428287751059372 tw15428760477539632076 tw7738131057600815181 tw18411750258816872525 tw5668681300093058221 tw2064249946687195373 tw6828148310550145261 tw9684205586912001357 tw17963396005195677037 tw3546385654820092333 tw8617425035344306733 tw9653146361243029197 tw18073227800343419661 tw12909551873557010253 tw12913080973783699341 tw12768565971717058477 tw10712243348794446829 tw11932379567402331214 tw10805536479044418670 tw16393195931732221070 tw10787497489904386574 tw17428848879078390446 tw9818044021984105166 tw12753115482511457998 tw10423845777871291118 tw11868166600688613134 tw3818253408973976430 tw17649225338108003278 tw10298763601789795375 tw15390735921014679663 tw15273312801923769487 tw6600609309847365807 tw17130217146493663439 tw5353725538304094447 tw15077370630474907983 tw14250077585534549359 tw1774782867736243599 tw17102287104137641391 tw17470026776898982351 tw8101743286587775503 tw2229565322406016655 tw11257348553830248528 tw999559248902118512 tw16201983784528479376 tw15062053485806905488 tw1092170436516116656 tw1033376559503674608 tw3268503232352405808 tw407712895606004208 tw14548356605189957104 tw13617735788931997168 tw4399117982440170032 tw11778277364781522576 tw3494450589488090800 tw6866376649290932912 tw7209681466708440784 tw13108849991848183792 tw4025603637205340241 tw2461686964625243281 tw17274583252025516273 tw17141111848111427985 tw4998560238778930609 tw6718334151134938609 tw2426566778716186289 tw2465734408869585745 tw1622839528194598737 tw2255774961145191570 tw11281082572430652626 tw16156887875335491858 tw16668011484944251218 tw18383290402585103730 tw2232991404001427090 tw7221291211864383186 tw2486204752979909362 tw17827570720057173746 tw6733487348420565874 tw16904515845974466418 tw5256338698091068306 tw8470776495332200563 tw10697318152614227123 tw2614965428902353075 tw11956116729047826643 tw16705146990967911635 tw12581568731906308339 tw9965916527066784019 tw10351352423594878323 tw18036378152577303027 tw17614072204406126067 tw4616698886950993555 tw17413040777326318291 tw3661688168274413363 tw4468770860805031763 tw3636409475020747699 tw12980700482711212019 tw9950513217095307316 tw1215928939344965748 tw4272123510033006708 tw38954519535197460 tw1117652743841747348 tw8957794757161324948 tw433332297937095092 tw1714452852108633812 tw11968917992137939700 tw10643966286817535093 tw12913179287576050805 tw11394612773649579285 tw8242259011105366325 tw6829916466142055893 tw2721832480897798901 tw12383627616970249045 tw13350935974771577717 tw18058106054559306645 tw11860765212397660085 tw17974884831660904630 tw17143492906770294998 tw1342982641482898678 tw2631756911298106646 tw4196202467783677238 tw12017536458300714454 tw10649308944939757238 tw10991513126272047958 tw544970756575881046 tw15462369576423675766 tw9134257661143958454 tw11039161926115026071 tw8139827997311017431 tw16725161555108409847 tw3976950158203474423 tw14648145956550257303 tw11216669812043326327 tw2794460831110092663 tw6135750121851207575 tw13609985443833236375 tw13974718484363970648 tw15839493214725714136 tw10582678212325535960 tw8323047427342881240 tw12690696999072813592 tw1401715542933557816 tw9687843763832602232 tw3184818232068820632 tw3085324289089911608 tw2074746909998996440 tw12685506691948976120 tw725236119976030233 tw2845787293248331833 tw15785020474932449337 tw7773515647626189945 tw1774493040874230937 tw16598541842760112281 tw1444316360788625593 tw10676458637261590905 tw16417552810628775289 tw11096297539563468217 tw9148679857769753049 tw14507536894775722489 tw17368262026753495545 tw4672770665852248633 tw18208146542413383321 tw18138535641529289369 tw16757258915401509561 tw13173457528235548345 tw4196547710377576281 tw8718656590897370009 tw13191723077440578489 tw1824982310177519674 tw851468720954147962 tw3847180255539447962 tw18168328061970431194 tw2166501913175228762 tw5700070058625206650 tw14644329714735923706 tw1693946799698493210 tw6021472437727171450 tw12511853179569615834 tw7870870534260863962 tw7207367649992251611 tw10299581589241271547 tw7844405896107370747 tw18093641086281678139 tw6405800407729117531 tw1689339005829916091 tw4760949921543871003 tw16788983166813999675 tw1276575109223992923 tw13385816543091161691 tw14524885652614353595 tw9720978904398182139 tw1914965060443659035 tw4033671540912595771 tw16585815807214366587 tw12503436121067783163 tw8887910770447602683 tw11909181443233841308 tw13049418791985764508 tw5776015489685543196 tw11244613398073520444 tw3361503372609886588 tw10370980251524865404 tw3498220785583310204 tw12638453365856146844 tw16981742793002585564 tw12448352753793877596 tw13116309421591031484 tw12540355300130369244 tw3793346257059575548 tw16742521106426237788 tw15336480815523047292 tw4966017092621075613 tw12987243565424137373 tw2404265769356271869 tw9672795814068385149 tw1958221767721623165 tw5777813478035675869 tw2807311465507830525 tw5384842053310299997 tw10884679850311621501 tw1156586533248492445 tw340270298710308797 tw13849640854948273406 tw17589109591639053630 tw8115561422095590750 tw2417972124387496286 tw5473983065829948862 tw15698526993402155454 tw12766635463937379806 tw8851263025489712670 tw9997551025229136446 tw7412404620367729214 tw3498934581151727230 tw7709204545668970142 tw10498604655211735998 tw2871799675632055391 tw15046470375739407519 tw4670544292147222751 tw3969385340945322239 tw16904197283276035359 tw11744225459484043583 tw3097121099821100351 tw4055199197586833727 tw18303330873025133919 tw6184458407876918719 tw14505634420160650719 tw3423888906086220351 tw16189184929548076671 tw12529333615245952639 tw3120588187296352031 tw14245353950136161119 tw5266707864335304671 tw17652445481444982087:True)
open PySem PySem.W PyProof.Rows
set_option maxRecDepth 100000 in
set_option maxHeartbeats 0 in
theorem G.main:PySem.Challenge.rw_pagedmemory_s01_answers.Holds:=by
  w_on;k_headS;(case hw=>exact⟨[.list [.int 11,.int 0,.int 0,.int 0,.int 0]],by decide +kernel,by decide +kernel⟩)
  k_fillS
  refine L2.walk_specK (r:=PySem.Challenge.rw_pagedmemory_s01_answers) (k:=10) (CX:=L2.CX0) (ps:=["calls"]) (sp:=G.spAnswers) (by decide +kernel) rfl rfl ⟨rfl,by decide,by decide⟩ (fun w h Y=>PySem.W.kIn_of Y) ?F ?S (fun _ _ _ _ z=>z)
  case F =>
    intro w mg fa h Y KX Gn hmg
    refine Exists.elim (?T:∃A,G.Txt _ mg A) fun A T=>G.all_ok T hmg
    refine' G.txt_mk KX Gn ?aC0 ?gC0 ?hC0 ?oC0 ?sC0 ?mC0 ?kC0 ?nC0_0 ?nC0_1 ?aC1 ?gC1 ?hC1 ?oC1 ?sC1 ?mC1 ?kC1 ?nC1_0 ?nC1_1 ?nC1_2 ?nC1_3 ?aC2 ?gC2 ?hC2 ?oC2 ?sC2 ?mC2 ?kC2 ?nC2_0 ?nC2_1 ?aC3 ?gC3 ?hC3 ?oC3 ?sC3 ?mC3 ?kC3 ?nC3_0 ?nC3_1 ?aC4 ?gC4 ?hC4 ?oC4 ?sC4 ?mC4 ?kC4 ?nC4_0 ?nC4_1 ?a0 ?i0 ?l0 ?d0 ?k0 ?a1 ?i1 ?l1 ?d1 ?k1 ?a2 ?i2 ?l2 ?d2 ?k2 ?a3 ?i3 ?l3 ?d3 ?k3 ?a4 ?i4 ?l4 ?d4 ?k4 ?a5 ?i5 ?l5 ?d5 ?k5 ?a6 ?i6 ?l6 ?d6 ?k6 ?a7 ?i7 ?l7 ?d7 ?k7 ?a8 ?i8 ?l8 ?d8 ?k8 ?a9 ?i9 ?l9 ?d9 ?k9 ?a10 ?i10 ?l10 ?d10 ?k10 ?a11 ?i11 ?l11 ?d11 ?k11 ?a12 ?i12 ?l12 ?d12 ?k12 ?a13 ?l13 ?d13 ?k13 ?a14 ?l14 ?d14 ?k14 ?a15 ?l15 ?d15 ?k15 ?a16 ?l16 ?d16 ?k16 ?a17 ?l17 ?d17 ?k17 ?a18 ?l18 ?d18 ?k18 ?a19 ?l19 ?d19 ?k19 ?a20 ?l20 ?d20 ?k20 ?a21 ?l21 ?d21 ?k21 ?a22 ?l22 ?d22 ?k22 ?a23 ?l23 ?d23 ?k23 ?a24 ?i24 ?l24 ?d24 ?k24 ?a25 ?i25 ?l25 ?d25 ?k25 ?a26 ?i26 ?l26 ?d26 ?k26 ?a27 ?i27 ?l27 ?d27 ?k27 ?a28 ?i28 ?l28 ?d28 ?k28 ?a29 ?i29 ?l29 ?d29 ?k29 ?a30 ?i30 ?l30 ?d30 ?k30 ?a31 ?i31 ?l31 ?d31 ?k31 ?a32 ?l32 ?d32 ?k32 ?a33 ?l33 ?d33 ?k33 ?a34 ?l34 ?d34 ?k34 ?a35 ?l35 ?d35 ?k35 ?a36 ?l36 ?d36 ?k36 ?a37 ?l37 ?d37 ?k37 ?a38 ?l38 ?d38 ?k38 ?a39 ?l39 ?d39 ?k39 ?a40 ?l40 ?d40 ?k40 ?a41 ?l41 ?d41 ?k41 ?a42 ?l42 ?d42 ?k42 ?a43 ?l43 ?d43 ?k43 ?a44 ?l44 ?d44 ?k44 ?a45 ?l45 ?d45 ?k45 ?a46 ?l46 ?d46 ?k46 ?a47 ?l47 ?d47 ?k47 ?a48 ?l48 ?d48 ?k48 ?a49 ?l49 ?d49 ?k49 ?a50 ?l50 ?d50 ?k50 ?a51 ?l51 ?d51 ?k51 ?a52 ?l52 ?d52 ?k52 ?a53 ?l53 ?d53 ?k53 ?a54 ?l54 ?d54 ?k54 ?a55 ?l55 ?d55 ?k55 ?a56 ?l56 ?d56 ?k56 ?a57 ?l57 ?d57 ?k57 ?a58 ?l58 ?d58 ?k58 ?a59 ?l59 ?d59 ?k59 ?a60 ?i60 ?l60 ?d60 ?k60 ?a61 ?l61 ?d61 ?k61 ?a62 ?l62 ?d62 ?k62 ?a63 ?l63 ?d63 ?k63 ?a64 ?l64 ?d64 ?k64 ?a65 ?l65 ?d65 ?k65 ?a66 ?l66 ?d66 ?k66 ?a67 ?i67 ?l67 ?d67 ?k67 ?a68 ?i68 ?l68 ?d68 ?k68 ?a69 ?i69 ?l69 ?d69 ?k69 ?a70 ?i70 ?l70 ?d70 ?k70 ?a71 ?i71 ?l71 ?d71 ?k71 ?a72 ?l72 ?d72 ?k72 ?a73 ?l73 ?d73 ?k73 ?a74 ?l74 ?d74 ?k74 ?a75 ?l75 ?d75 ?k75 ?a76 ?l76 ?d76 ?k76 ?a77 ?l77 ?d77 ?k77 ?a78 ?l78 ?d78 ?k78 ?a79 ?l79 ?d79 ?k79 ?a80 ?l80 ?d80 ?k80 ?a81 ?l81 ?d81 ?k81 ?a82 ?l82 ?d82 ?k82 ?gc0 ?gc1 ?gc2 ?gc3 ?gc4 ?gc5 ?gc6 ?gc7 ?gc8 ?gc9 ?gc10 ?gc11 ?gc12 ?gc13 ?gc14 ?gc15 ?gc16 ?gc17 ?gc18 ?gc19 ?gc20 ?gc21 ?gc22 ?gc23 ?gc24 ?gc25 ?gc26 ?gc27 ?gc28 ?gc29 ?gc30 ?gc31 ?gc32 ?gc33 ?gc34 ?gc35 ?gc36 ?gc37 ?gc38 ?gc39 ?gc40 ?gc41 ?gc42 ?gc43 ?gc44 ?gc45 ?gc46 ?gc47 ?gc48 ?gc49 ?gc50 ?gc51 ?gc52 ?gc53 ?gc54 ?gc55 ?gc56 ?gc57 ?oc57 ?gc58 ?oc58 ?yc58 ?no_len ?no_min ?no_max ?no_all ?no_any ?no_range ?no_enumerate ?no_list ?no_dict ?no_sorted
    (case aC0=>k_is)
    (case gC0=>k_is)
    (case hC0=>k_is)
    (case oC0=>k_is)
    (case sC0=>k_is)
    (case mC0=>k_is)
    (case kC0=>k_is)
    (case nC0_0=>k_is)
    (case nC0_1=>k_is)
    (case aC1=>k_is)
    (case gC1=>k_is)
    (case hC1=>k_is)
    (case oC1=>k_is)
    (case sC1=>k_is)
    (case mC1=>k_is)
    (case kC1=>k_is)
    (case nC1_0=>k_is)
    (case nC1_1=>k_is)
    (case nC1_2=>k_is)
    (case nC1_3=>k_is)
    (case aC2=>k_is)
    (case gC2=>k_is)
    (case hC2=>k_is)
    (case oC2=>k_is)
    (case sC2=>k_is)
    (case mC2=>k_is)
    (case kC2=>k_is)
    (case nC2_0=>k_is)
    (case nC2_1=>k_is)
    (case aC3=>k_is)
    (case gC3=>k_is)
    (case hC3=>k_is)
    (case oC3=>k_is)
    (case sC3=>k_is)
    (case mC3=>k_is)
    (case kC3=>k_is)
    (case nC3_0=>k_is)
    (case nC3_1=>k_is)
    (case aC4=>k_is)
    (case gC4=>k_is)
    (case hC4=>k_is)
    (case oC4=>k_is)
    (case sC4=>k_is)
    (case mC4=>k_is)
    (case kC4=>k_is)
    (case nC4_0=>k_is)
    (case nC4_1=>k_is)
    (case a0=>k_is)
    (case i0=>k_is)
    (case l0=>k_is)
    (case d0=>k_is)
    (case k0=>k_is)
    (case a1=>k_is)
    (case i1=>k_is)
    (case l1=>k_is)
    (case d1=>k_is)
    (case k1=>k_is)
    (case a2=>k_is)
    (case i2=>k_is)
    (case l2=>k_is)
    (case d2=>k_is)
    (case k2=>k_is)
    (case a3=>k_is)
    (case i3=>k_is)
    (case l3=>k_is)
    (case d3=>k_is)
    (case k3=>k_is)
    (case a4=>k_is)
    (case i4=>k_is)
    (case l4=>k_is)
    (case d4=>k_is)
    (case k4=>k_is)
    (case a5=>k_is)
    (case i5=>k_is)
    (case l5=>k_is)
    (case d5=>k_is)
    (case k5=>k_is)
    (case a6=>k_is)
    (case i6=>k_is)
    (case l6=>k_is)
    (case d6=>k_is)
    (case k6=>k_is)
    (case a7=>k_is)
    (case i7=>k_is)
    (case l7=>k_is)
    (case d7=>k_is)
    (case k7=>k_is)
    (case a8=>k_is)
    (case i8=>k_is)
    (case l8=>k_is)
    (case d8=>k_is)
    (case k8=>k_is)
    (case a9=>k_is)
    (case i9=>k_is)
    (case l9=>k_is)
    (case d9=>k_is)
    (case k9=>k_is)
    (case a10=>k_is)
    (case i10=>k_is)
    (case l10=>k_is)
    (case d10=>k_is)
    (case k10=>k_is)
    (case a11=>k_is)
    (case i11=>k_is)
    (case l11=>k_is)
    (case d11=>k_is)
    (case k11=>k_is)
    (case a12=>k_is)
    (case i12=>k_is)
    (case l12=>k_is)
    (case d12=>k_is)
    (case k12=>k_is)
    (case a13=>k_is)
    (case l13=>k_is)
    (case d13=>k_is)
    (case k13=>k_is)
    (case a14=>k_is)
    (case l14=>k_is)
    (case d14=>k_is)
    (case k14=>k_is)
    (case a15=>k_is)
    (case l15=>k_is)
    (case d15=>k_is)
    (case k15=>k_is)
    (case a16=>k_is)
    (case l16=>k_is)
    (case d16=>k_is)
    (case k16=>k_is)
    (case a17=>k_is)
    (case l17=>k_is)
    (case d17=>k_is)
    (case k17=>k_is)
    (case a18=>k_is)
    (case l18=>k_is)
    (case d18=>k_is)
    (case k18=>k_is)
    (case a19=>k_is)
    (case l19=>k_is)
    (case d19=>k_is)
    (case k19=>k_is)
    (case a20=>k_is)
    (case l20=>k_is)
    (case d20=>k_is)
    (case k20=>k_is)
    (case a21=>k_is)
    (case l21=>k_is)
    (case d21=>k_is)
    (case k21=>k_is)
    (case a22=>k_is)
    (case l22=>k_is)
    (case d22=>k_is)
    (case k22=>k_is)
    (case a23=>k_is)
    (case l23=>k_is)
    (case d23=>k_is)
    (case k23=>k_is)
    (case a24=>k_is)
    (case i24=>k_is)
    (case l24=>k_is)
    (case d24=>k_is)
    (case k24=>k_is)
    (case a25=>k_is)
    (case i25=>k_is)
    (case l25=>k_is)
    (case d25=>k_is)
    (case k25=>k_is)
    (case a26=>k_is)
    (case i26=>k_is)
    (case l26=>k_is)
    (case d26=>k_is)
    (case k26=>k_is)
    (case a27=>k_is)
    (case i27=>k_is)
    (case l27=>k_is)
    (case d27=>k_is)
    (case k27=>k_is)
    (case a28=>k_is)
    (case i28=>k_is)
    (case l28=>k_is)
    (case d28=>k_is)
    (case k28=>k_is)
    (case a29=>k_is)
    (case i29=>k_is)
    (case l29=>k_is)
    (case d29=>k_is)
    (case k29=>k_is)
    (case a30=>k_is)
    (case i30=>k_is)
    (case l30=>k_is)
    (case d30=>k_is)
    (case k30=>k_is)
    (case a31=>k_is)
    (case i31=>k_is)
    (case l31=>k_is)
    (case d31=>k_is)
    (case k31=>k_is)
    (case a32=>k_is)
    (case l32=>k_is)
    (case d32=>k_is)
    (case k32=>k_is)
    (case a33=>k_is)
    (case l33=>k_is)
    (case d33=>k_is)
    (case k33=>k_is)
    (case a34=>k_is)
    (case l34=>k_is)
    (case d34=>k_is)
    (case k34=>k_is)
    (case a35=>k_is)
    (case l35=>k_is)
    (case d35=>k_is)
    (case k35=>k_is)
    (case a36=>k_is)
    (case l36=>k_is)
    (case d36=>k_is)
    (case k36=>k_is)
    (case a37=>k_is)
    (case l37=>k_is)
    (case d37=>k_is)
    (case k37=>k_is)
    (case a38=>k_is)
    (case l38=>k_is)
    (case d38=>k_is)
    (case k38=>k_is)
    (case a39=>k_is)
    (case l39=>k_is)
    (case d39=>k_is)
    (case k39=>k_is)
    (case a40=>k_is)
    (case l40=>k_is)
    (case d40=>k_is)
    (case k40=>k_is)
    (case a41=>k_is)
    (case l41=>k_is)
    (case d41=>k_is)
    (case k41=>k_is)
    (case a42=>k_is)
    (case l42=>k_is)
    (case d42=>k_is)
    (case k42=>k_is)
    (case a43=>k_is)
    (case l43=>k_is)
    (case d43=>k_is)
    (case k43=>k_is)
    (case a44=>k_is)
    (case l44=>k_is)
    (case d44=>k_is)
    (case k44=>k_is)
    (case a45=>k_is)
    (case l45=>k_is)
    (case d45=>k_is)
    (case k45=>k_is)
    (case a46=>k_is)
    (case l46=>k_is)
    (case d46=>k_is)
    (case k46=>k_is)
    (case a47=>k_is)
    (case l47=>k_is)
    (case d47=>k_is)
    (case k47=>k_is)
    (case a48=>k_is)
    (case l48=>k_is)
    (case d48=>k_is)
    (case k48=>k_is)
    (case a49=>k_is)
    (case l49=>k_is)
    (case d49=>k_is)
    (case k49=>k_is)
    (case a50=>k_is)
    (case l50=>k_is)
    (case d50=>k_is)
    (case k50=>k_is)
    (case a51=>k_is)
    (case l51=>k_is)
    (case d51=>k_is)
    (case k51=>k_is)
    (case a52=>k_is)
    (case l52=>k_is)
    (case d52=>k_is)
    (case k52=>k_is)
    (case a53=>k_is)
    (case l53=>k_is)
    (case d53=>k_is)
    (case k53=>k_is)
    (case a54=>k_is)
    (case l54=>k_is)
    (case d54=>k_is)
    (case k54=>k_is)
    (case a55=>k_is)
    (case l55=>k_is)
    (case d55=>k_is)
    (case k55=>k_is)
    (case a56=>k_is)
    (case l56=>k_is)
    (case d56=>k_is)
    (case k56=>k_is)
    (case a57=>k_is)
    (case l57=>k_is)
    (case d57=>k_is)
    (case k57=>k_is)
    (case a58=>k_is)
    (case l58=>k_is)
    (case d58=>k_is)
    (case k58=>k_is)
    (case a59=>k_is)
    (case l59=>k_is)
    (case d59=>k_is)
    (case k59=>k_is)
    (case a60=>k_is)
    (case i60=>k_is)
    (case l60=>k_is)
    (case d60=>k_is)
    (case k60=>k_is)
    (case a61=>k_is)
    (case l61=>k_is)
    (case d61=>k_is)
    (case k61=>k_is)
    (case a62=>k_is)
    (case l62=>k_is)
    (case d62=>k_is)
    (case k62=>k_is)
    (case a63=>k_is)
    (case l63=>k_is)
    (case d63=>k_is)
    (case k63=>k_is)
    (case a64=>k_is)
    (case l64=>k_is)
    (case d64=>k_is)
    (case k64=>k_is)
    (case a65=>k_is)
    (case l65=>k_is)
    (case d65=>k_is)
    (case k65=>k_is)
    (case a66=>k_is)
    (case l66=>k_is)
    (case d66=>k_is)
    (case k66=>k_is)
    (case a67=>k_is)
    (case i67=>k_is)
    (case l67=>k_is)
    (case d67=>k_is)
    (case k67=>k_is)
    (case a68=>k_is)
    (case i68=>k_is)
    (case l68=>k_is)
    (case d68=>k_is)
    (case k68=>k_is)
    (case a69=>k_is)
    (case i69=>k_is)
    (case l69=>k_is)
    (case d69=>k_is)
    (case k69=>k_is)
    (case a70=>k_is)
    (case i70=>k_is)
    (case l70=>k_is)
    (case d70=>k_is)
    (case k70=>k_is)
    (case a71=>k_is)
    (case i71=>k_is)
    (case l71=>k_is)
    (case d71=>k_is)
    (case k71=>k_is)
    (case a72=>k_is)
    (case l72=>k_is)
    (case d72=>k_is)
    (case k72=>k_is)
    (case a73=>k_is)
    (case l73=>k_is)
    (case d73=>k_is)
    (case k73=>k_is)
    (case a74=>k_is)
    (case l74=>k_is)
    (case d74=>k_is)
    (case k74=>k_is)
    (case a75=>k_is)
    (case l75=>k_is)
    (case d75=>k_is)
    (case k75=>k_is)
    (case a76=>k_is)
    (case l76=>k_is)
    (case d76=>k_is)
    (case k76=>k_is)
    (case a77=>k_is)
    (case l77=>k_is)
    (case d77=>k_is)
    (case k77=>k_is)
    (case a78=>k_is)
    (case l78=>k_is)
    (case d78=>k_is)
    (case k78=>k_is)
    (case a79=>k_is)
    (case l79=>k_is)
    (case d79=>k_is)
    (case k79=>k_is)
    (case a80=>k_is)
    (case l80=>k_is)
    (case d80=>k_is)
    (case k80=>k_is)
    (case a81=>k_is)
    (case l81=>k_is)
    (case d81=>k_is)
    (case k81=>k_is)
    (case a82=>k_is)
    (case l82=>k_is)
    (case d82=>k_is)
    (case k82=>k_is)
    (case gc0=>k_is)
    (case gc1=>k_is)
    (case gc2=>k_is)
    (case gc3=>k_is)
    (case gc4=>k_is)
    (case gc5=>k_is)
    (case gc6=>k_is)
    (case gc7=>k_is)
    (case gc8=>k_is)
    (case gc9=>k_is)
    (case gc10=>k_is)
    (case gc11=>k_is)
    (case gc12=>k_is)
    (case gc13=>k_is)
    (case gc14=>k_is)
    (case gc15=>k_is)
    (case gc16=>k_is)
    (case gc17=>k_is)
    (case gc18=>k_is)
    (case gc19=>k_is)
    (case gc20=>k_is)
    (case gc21=>k_is)
    (case gc22=>k_is)
    (case gc23=>k_is)
    (case gc24=>k_is)
    (case gc25=>k_is)
    (case gc26=>k_is)
    (case gc27=>k_is)
    (case gc28=>k_is)
    (case gc29=>k_is)
    (case gc30=>k_is)
    (case gc31=>k_is)
    (case gc32=>k_is)
    (case gc33=>k_is)
    (case gc34=>k_is)
    (case gc35=>k_is)
    (case gc36=>k_is)
    (case gc37=>k_is)
    (case gc38=>k_is)
    (case gc39=>k_is)
    (case gc40=>k_is)
    (case gc41=>k_is)
    (case gc42=>k_is)
    (case gc43=>k_is)
    (case gc44=>k_is)
    (case gc45=>k_is)
    (case gc46=>k_is)
    (case gc47=>k_is)
    (case gc48=>k_is)
    (case gc49=>k_is)
    (case gc50=>k_is)
    (case gc51=>k_is)
    (case gc52=>k_is)
    (case gc53=>k_is)
    (case gc54=>k_is)
    (case gc55=>k_is)
    (case gc56=>k_is)
    (case gc57=>k_is)
    (case oc57=>k_is)
    (case gc58=>k_is)
    (case oc58=>k_is)
    (case yc58=>first|rfl|decide)
    (case no_len=>k_is)
    (case no_min=>k_is)
    (case no_max=>k_is)
    (case no_all=>k_is)
    (case no_any=>k_is)
    (case no_range=>k_is)
    (case no_enumerate=>k_is)
    (case no_list=>k_is)
    (case no_dict=>k_is)
    (case no_sorted=>k_is)
  case S =>
    intro K H xs a hO hwi hask hx
    cases hx with
    | cons h1 h2 =>
      cases h2
      cases h1 with
      | lst hs ha =>
        have e:=L2.ints_dw a.1 _ ha
        subst e
        have q:((Codec.inLen 0 15800 a.1&&a.1.all (Codec.inInt (-2147483648) 18446744073709551615))&&true)=true:=hwi
        rw[Bool.and_eq_true,Bool.and_eq_true]at q
        exact⟨_,a.1,rfl,hs,hask,(Codec.inNat_iff.mp q.1.1).2,fun H' p hp=>.lst (L2.SqL.of hp) (L2.dw_ints _)⟩
theorem PySem.Challenge.cw_pagedmemory_s01_answers_holds : PySem.Challenge.rw_pagedmemory_s01_answers.Holds := by
 exact G.main
