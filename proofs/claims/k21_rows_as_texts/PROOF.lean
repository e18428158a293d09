import PyProof.Rows.All
import Wide.All
import OpenK.AllK
import Wide.FinOn
import Lean
import PyProof.EqAt
import PyProof.EqKinds
import PyProof.TupleCall
import PyProof.IsiH_tuple
import PyProof.FString
import PyProof.ReprRoads
import PySem.Challenge.RW_costorder_k21_rows_as_texts
set_option Elab.async false
set_option linter.all false
set_option maxRecDepth 100000
noncomputable section
theorem obs {α β : Type _} {x : Option α} {f : α -> Option β} {b : β} (h : x.bind f = some b) : ∃ a, x = some a /\ f a = some b := Option.bind_eq_some_iff.mp h
theorem oms {α β : Type _} {x : Option α} {f : α -> β} {b : β} (h : x.map f = some b) : ∃ a, x = some a /\ f a = b := Option.map_eq_some_iff.mp h
open PySem.W (Frag)
namespace L2
open PySem PySem.Spec PyProof.Rows
abbrev Key:=Sum Int Str
def keyIs:Key->Value->Bool
 | .inl k,v=>Value.isInt k v
 | .inr x,v=>Value.isStrOf x v
def keyH (w:World):Key->Int
 | .inl k=>hashInt k
 | .inr x=>hashStr w x
theorem keyIs_shape: ∀ {k:Key} {v:Value},keyIs k v=true->(∃i t,k=Sum.inl i/\v=Value.int i t)\/(∃x t,k=Sum.inr x/\v=Value.str x t)
 | .inl i,v,h=>by
  obtain ⟨t,e⟩:=Value.isInt_shape (k:=i) (v:=v) h
  exact .inl ⟨i,t,rfl,e⟩
 | .inr x,v,h=>by
  obtain ⟨t,e⟩:=Value.isStrOf_shape (x:=x) (v:=v) h
  exact .inr ⟨x,t,rfl,e⟩
theorem key_ll (a b:Int):decide ((Sum.inl a:Key)=Sum.inl b)=(a==b):=by
 by_cases e:a=b
 ·subst e;simp
 ·have h: ¬(Sum.inl a:Key)=Sum.inl b:=λq=>e (Sum.inl.inj q)
  rw [decide_eq_false h]
  exact (beq_eq_false_iff_ne.mpr e).symm
theorem key_rr (a b:Str):decide ((Sum.inr a:Key)=Sum.inr b)=decide (a=b):=by
 by_cases e:a=b
 ·subst e;simp
 ·have h: ¬(Sum.inr a:Key)=Sum.inr b:=λq=>e (Sum.inr.inj q)
  rw [decide_eq_false h,decide_eq_false e]
theorem key_lr (a:Int) (b:Str):decide ((Sum.inl a:Key)=Sum.inr b)=false:=decide_eq_false (λq=>nomatch q)
theorem key_rl (a:Str) (b:Int):decide ((Sum.inr a:Key)=Sum.inl b)=false:=decide_eq_false (λq=>nomatch q)
def mixKind (prog:Program) (w:World):PySem.KeyKind prog w Key where
 is:=keyIs
 hash:=keyH w
 inj:=λv a b ha hb=>by
  rcases keyIs_shape ha with ⟨i,t,rfl,rfl⟩|⟨x,t,rfl,rfl⟩
  ·rcases keyIs_shape hb with ⟨j,u,rfl,e⟩|⟨y,u,rfl,e⟩
   ·injection e with e1 _;rw [e1]
   ·exact nomatch e
  ·rcases keyIs_shape hb with ⟨j,u,rfl,e⟩|⟨y,u,rfl,e⟩
   ·exact nomatch e
   ·injection e with e1 _;rw [e1]
 byValue:=λk v h=>by
  rcases keyIs_shape h with ⟨i,t,rfl,rfl⟩|⟨x,t,rfl,rfl⟩<;>rfl
 pyHash:=λhv h=>by
  rcases keyIs_shape hv with ⟨i,t,rfl,rfl⟩|⟨x,t,rfl,rfl⟩
  ·exact wpAny_pyHash_int h
  ·exact wpAny_pyHash_str h
 eqBool:=λhu hv h=>by
  rcases keyIs_shape hu with ⟨i,t,rfl,rfl⟩|⟨x,t,rfl,rfl⟩
  ·rcases keyIs_shape hv with ⟨j,u,rfl,rfl⟩|⟨y,u,rfl,rfl⟩
   ·rw [key_ll] at h;exact wpAny_eqBool_int h
   ·rw [key_lr] at h;exact SeqAt.EqAt.int_str i t y u _ _ _ _ h
  ·rcases keyIs_shape hv with ⟨j,u,rfl,rfl⟩|⟨y,u,rfl,rfl⟩
   ·rw [key_rl] at h;exact SeqAt.EqAt.str_int x t j u _ _ _ _ h
   ·rw [key_rr] at h;exact wpAny_eqBool_str h
 «strs» :=λk x t v h=>by
  rcases keyIs_shape h with ⟨i,u,rfl,e⟩|⟨y,u,rfl,e⟩
  ·exact nomatch e
  ·injection e with e1 _
   subst e1
   cases v<;>rfl
inductive V where
 |non|bl (b:Bool)|int (i:Int)|str (x:Str)|byt (b:Array UInt8)|flt (b:UInt64)|ref (a:Addr)|ty (n:String)
 deriving DecidableEq
def RelV:V->Value->Prop
 | .non,u=>u=Value.none
 | .bl b,u=>u=Value.bool b
 | .int i,u=> ∃t,u=Value.int i t
 | .str x,u=> ∃t,u=Value.str x t
 | .byt b,u=> ∃t,u=Value.bytes b t
 | .flt b,u=> ∃t,u=Value.float b t
 | .ref a,u=>u=Value.ref a
 | .ty n,u=>u=Value.type n
abbrev Vals:List V->List Value->Prop:=Paired RelV
theorem Vals.length {xs:List V} {us:List Value} (r:Vals xs us):xs.length=us.length:=Paired.length r
theorem Vals.get: ∀ {xs:List V} {us:List Value} {i:Nat} {x:V},Vals xs us->xs[i]? =some x-> ∃u,us[i]? =some u/\RelV x u
 |_,_,_,_,.nil,e=>by simp at e
 |_,_,0,_,.cons r _,e=>by simp at e;subst e;exact ⟨_,rfl,r⟩
 |_,_,i+1,x,.cons _ t,e=>by
  obtain ⟨u,h1,h2⟩:=Vals.get (i:=i) (x:=x) t (by simpa using e)
  exact ⟨u,by simpa using h1,h2⟩
theorem Vals.set {x:V} {u:Value} (r:RelV x u): ∀ {xs:List V} {us:List Value} (i:Nat),Vals xs us->Vals (xs.set i x) (us.set i u)
 |_,_,_,.nil=> .nil
 |_,_,0,.cons _ t=> .cons r t
 |_,_,i+1,.cons q t=> .cons q (Vals.set r i t)
theorem Vals.append: ∀ {xs ys:List V} {us ws:List Value},Vals xs us->Vals ys ws->Vals (xs++ys) (us++ws)
 |_,_,_,_,.nil,s=>s
 |_,_,_,_,.cons r t,s=> .cons r (Vals.append t s)
theorem Vals.take: ∀ {xs:List V} {us:List Value} (n:Nat),Vals xs us->Vals (xs.take n) (us.take n)
 |_,_,0,_=> .nil
 |_,_,_+1,.nil=> .nil
 |_,_,n+1,.cons r t=> .cons r (Vals.take n t)
theorem Vals.drop: ∀ {xs:List V} {us:List Value} (n:Nat),Vals xs us->Vals (xs.drop n) (us.drop n)
 |_,_,0,r=>r
 |_,_,_+1,.nil=> .nil
 |_,_,n+1,.cons _ t=>Vals.drop n t
def RelO:Option V->Option Value->Prop
 |some v,some u=>RelV v u
 |none,none=>True
 |_,_=>False
def KV {κ:Type}:List (κ×V)->List (κ×Value)->Prop:=Paired λ(p:κ×V) (q:κ×Value)=>p.1=q.1/\RelV p.2 q.2
def kV:Key->V
 | .inl i=> .int i
 | .inr x=> .str x
inductive HO where
 |lst (xs:List V)
 |tup (xs:List V)
 |dK (kvs:List (Key×V))|dT (kvs:List (List Key×V))
 |set (S:Int->Bool) (n:Nat)
 |ins (C dx:Addr) (fs:List (Str×V))
 |own (x:Addr)
 |xd (fs:List (Str×V))
 |met (f x:Addr)
 |rng (lo hi:Int)
 |frz (o:Obj) (u:HO)
 |tbl (ps:Array Value)
 |ext (φ:Heap->Prop)
abbrev Hp:=Addr->Option HO
def upd (H:Hp) (a:Addr) (o:HO):Hp:=λb=>if b=a then some o else H b
theorem upd_same {H:Hp} {a:Addr} {o:HO}:upd H a o a=some o:=by unfold upd;rw [if_pos rfl]
theorem upd_ne {H:Hp} {a b:Addr} {o:HO} (h:b≠a):upd H a o b=H b:=by unfold upd;rw [if_neg h]
theorem ne_of_none {H:Hp} {a b:Addr} {o:HO} (h:H a=some o) (h':H b=none):a≠b:=by
 intro e;subst e;rw [h] at h';cases h'
section
variable (P:Program) (w:World)
def ObjOk (H:Hp) (h:Heap) (a:Addr):HO->Prop
 | .lst xs=>xs.length<=sizeLine/\ ∃(its:List Value) (n:Nat),Vals xs its/\h.get? a=some {cls:= .type "list",data:= .seq its.toArray n}
 | .tup xs=>xs.length<=sizeLine/\ ∃its:List Value,Vals xs its/\IsTup h a its.toArray
 | .dK kvs=>kvs.length<=sizeLine/\(a==sysModules)=false/\ ∃vs,KV kvs vs/\h.DictOf (mixKind P w) a vs
 | .dT kvs=>kvs.length<=sizeLine/\(a==sysModules)=false/\ ∃xs:List (List Key×Addr×Value),
   Paired (λ(p:List Key×V) (q:List Key×Addr×Value)=>p.1=q.1/\H q.2.1=some (.tup (p.1.map kV))/\RelV p.2 q.2.2) kvs xs/\
   ∃o es ep,h.get? a=some o/\o.ExactDict/\o.data= .dict es ep/\es.toList=xs.map (entryOfKey (tupleKind (mixKind P w)))/\(xs.map (·.1)).Nodup
 | .set S n=>h.SetOf (intKind P w) a S n
 | .ins C dx fs=>H dx=some (.own a)/\fs.length<=1000/\dx≠a/\h.get? a=some (PySem.W.instObj C dx)/\
   ∃mA,h.Ns1 dx mA/\(∀f,RelO (fs.lookup f) (mA f))/\PySem.Within mA (fs.map (·.1))
 | .own _=> ∃o,h.get? a=some o
 | .xd fs=> ∃mA,h.Ns1 a mA/\ ∀f,RelO (fs.lookup f) (mA f)
 | .rng lo hi=> ∃t u v,h.get? a=some {cls:= .type "range",data:= .fields #[.int lo t,.int hi u,.int 1 v]}
 | .frz o u=>h.get? a=some o/\ObjOk H h a u
 | .tbl ps=>h.get? a=some {cls:= .none,data:= .fields ps}
 | .met f x=>h.get? a=some (PySem.W.methodObj (.ref f) (.ref x))
 | .ext φ=>φ h/\(∃o,h.get? a=some o)/\ ∀h1 h2:Heap,φ h1->(∀o,h1.get? a=some o->h2.get? a=some o)->φ h2
def HOk (H:Hp) (h:Heap):Prop:= ∀a o,H a=some o->ObjOk P w H h a o
end
section
variable {P:Program} {w:World} {H H':Hp} {h h':Heap} {a:Addr} {o:HO}
theorem ObjOk.lt (x:ObjOk P w H h a o):a<h.objs.size:=by
 cases o with
 |lst xs=>obtain ⟨_,_,_,_,e⟩:=x;exact Heap.lt_size e
 |tup xs=>obtain ⟨_,_,_,p⟩:=x;exact p.lt
 |dK kvs=>obtain ⟨_,_,_,_,o,_,_,e,_⟩:=x;exact Heap.lt_size e
 |dT kvs=>obtain ⟨_,_,_,_,o,_,_,e,_⟩:=x;exact Heap.lt_size e
 |set S n=>obtain ⟨o,_,_,_,e,_⟩:=x;exact Heap.lt_size e
 |ins C dx fs=>obtain ⟨_,_,_,e,_⟩:=x;exact Heap.lt_size e
 |own y=>obtain ⟨_,e⟩:=x;exact Heap.lt_size e
 |xd fs=>obtain ⟨_,⟨_,_,_,e,_⟩,_⟩:=x;exact Heap.lt_size e
 |rng lo hi=>obtain ⟨_,_,_,e⟩:=x;exact Heap.lt_size e
 |frz ob u=>obtain ⟨e,_⟩:=x;exact Heap.lt_size e
 |tbl ps=>exact Heap.lt_size (show h.get? a=some _ from x)
 |met f y=>exact Heap.lt_size (show h.get? a=some _ from x)
 |ext φ=>obtain ⟨_,⟨_,e⟩,_⟩:=x;exact Heap.lt_size e
theorem Paired.mapP {α β:Type} {F G:α->β->Prop}: ∀ {l₁:List α} {l₂:List β},Paired F l₁ l₂->(∀a b,F a b->G a b)->Paired G l₁ l₂
 |_,_,.nil,_=> .nil
 |_,_,.cons r t,f=> .cons (f _ _ r) (Paired.mapP t f)
theorem ObjOk.stay (x:ObjOk P w H h a o) (k: ∀b u,(b=a\/H b=some (.own a))->h.get? b=some u->h'.get? b=some u)
  (ho: ∀b,H b=some (.own a)->H' b=some (.own a)) (ht: ∀b xs,H b=some (.tup xs)->H' b=some (.tup xs)):ObjOk P w H' h' a o:=by
 induction o with
 |lst xs=>obtain ⟨z,its,n,r,e⟩:=x;exact ⟨z,its,n,r,k _ _ (.inl rfl) e⟩
 |tup xs=>obtain ⟨z,its,r,ob,e,c⟩:=x;exact ⟨z,its,r,ob,k _ _ (.inl rfl) e,c⟩
 |dK kvs=>obtain ⟨z,y,vs,r,ob,es,ep,e,c⟩:=x;exact ⟨z,y,vs,r,ob,es,ep,k _ _ (.inl rfl) e,c⟩
 |dT kvs=>
  obtain ⟨z,y,xs,r,ob,es,ep,e,c⟩:=x
  exact ⟨z,y,xs,Paired.mapP r λp q z=>⟨z.1,ht _ _ z.2.1,z.2.2⟩,ob,es,ep,k _ _ (.inl rfl) e,c⟩
 |set S n=>obtain ⟨ob,es,ep,t,e,c⟩:=x;exact ⟨ob,es,ep,t,k _ _ (.inl rfl) e,c⟩
 |ins C dx fs=>
  obtain ⟨d,z,ne,e,mA,⟨od,es,ep,e2,c⟩,r⟩:=x
  exact ⟨ho _ d,z,ne,k _ _ (.inl rfl) e,mA,⟨od,es,ep,k _ _ (.inr d) e2,c⟩,r⟩
 |own y=>obtain ⟨ob,e⟩:=x;exact ⟨ob,k _ _ (.inl rfl) e⟩
 |xd fs=>obtain ⟨mA,⟨od,es,ep,e,c⟩,r⟩:=x;exact ⟨mA,⟨od,es,ep,k _ _ (.inl rfl) e,c⟩,r⟩
 |rng lo hi=>obtain ⟨t,u,v,e⟩:=x;exact ⟨t,u,v,k _ _ (.inl rfl) e⟩
 |frz ob u ih=>obtain ⟨e,q⟩:=x;exact ⟨k _ _ (.inl rfl) e,ih q⟩
 |tbl ps=>
  have e:h.get? a=some {cls:= .none,data:= .fields ps}:=x
  show h'.get? a=some {cls:= .none,data:= .fields ps}
  exact k a _ (.inl rfl) e
 |met f y=>
  have e:h.get? a=some (PySem.W.methodObj (.ref f) (.ref y)):=x
  show h'.get? a=some (PySem.W.methodObj (.ref f) (.ref y))
  exact k a _ (.inl rfl) e
 |ext φ=>obtain ⟨p,⟨o,e⟩,st⟩:=x;exact ⟨st _ _ p λo q=>k _ _ (.inl rfl) q,⟨o,k _ _ (.inl rfl) e⟩,st⟩
theorem HOk.lt (x:HOk P w H h) (e:H a=some o):a<h.objs.size:=(x a o e).lt
theorem HOk.fresh (x:HOk P w H h) (e:h.objs.size<=a):H a=none:=by
 cases q:H a with
 |none=>rfl
 |some u=>exact absurd (Nat.lt_of_lt_of_le (x.lt q) e) (Nat.lt_irrefl _)
theorem HOk.kept (x:HOk P w H h) (k: ∀b u,h.get? b=some u->h'.get? b=some u):HOk P w H h':=λa o e=>
 (x a o e).stay (λb u _ q=>k b u q) (λ_ q=>q) λ_ _ q=>q
theorem HOk.laid (x:HOk P w H h) (k: ∀b u,h.get? b=some u->h'.get? b=some u) (hp:h.objs.size<=a) (new:ObjOk P w (upd H a o) h' a o):HOk P w (upd H a o) h':=λb u e=>by
 have hn:=x.fresh hp
 by_cases hb:b=a
 ·subst hb;rw [upd_same] at e;cases e;exact new
 ·rw [upd_ne hb] at e
  exact (x b u e).stay (λc v _ q=>k c v q) (λc q=>by rw [upd_ne (ne_of_none q hn)];exact q) λc xs q=>by rw [upd_ne (ne_of_none q hn)];exact q
end
def Rd (H:Hp) (a:Addr) (u:HO):Prop:=H a=some u\/ ∃o,H a=some (.frz o u)
theorem Rd.ok {P:Program} {w:World} {H:Hp} {h:Heap} {a:Addr} {u:HO} (r:Rd H a u) (x:HOk P w H h):ObjOk P w H h a u:=by
 rcases r with r|⟨o,r⟩
 ·exact x a u r
 ·obtain ⟨_,q⟩:=x a _ r
  exact q
def Mut:Option HO->Prop
 |some (.lst _)=>True
 |some (.dK _)=>True
 |some (.dT _)=>True
 |some (.set _ _)=>True
 |some (.ins _ _ _)=>True
 |some (.ext _)=>True
 |_=>False
section
variable {P:Program} {w:World} {H:Hp} {h h':Heap} {x e:Addr} {o':HO}
theorem HOk.write (ok:HOk P w H h) (mu:Mut (H x)) (he:e=x\/H e=some (.own x)) (k: ∀b u,b≠e->h.get? b=some u->h'.get? b=some u) (heo: ∃u,h'.get? e=some u)
  (new:ObjOk P w (upd H x o') h' x o'):HOk P w (upd H x o') h':=λb u q=>by
 have nown: ∀c y,H c=some (.own y)->c≠x:=λc y r z=>by subst z;rw [r] at mu;exact mu
 have ntup: ∀c xs,H c=some (.tup xs)->c≠x:=λc xs r z=>by subst z;rw [r] at mu;exact mu
 by_cases hb:b=x
 ·subst hb;rw [upd_same] at q;cases q;exact new
 ·rw [upd_ne hb] at q
  by_cases hbe:b=e
  ·have q':H b=some (.own x):=by
    rcases he with z|z
    ·exact absurd (hbe.trans z) hb
    ·rw [hbe];exact z
   rw [q] at q';cases q'
   obtain ⟨v,hv⟩:=heo
   exact ⟨v,by rw [hbe];exact hv⟩
  ·refine (ok b u q).stay (λc v hc r=>k c v ?_ r) (λc r=>by rw [upd_ne (nown c b r)];exact r) λc xs r=>by rw [upd_ne (ntup c xs r)];exact r
   rcases hc with rfl|hc
   ·exact hbe
   ·rintro rfl
    rcases he with z|z
    ·exact nown c b hc z
    ·rw [hc] at z;cases z;exact hb rfl
end
structure Un (fs ex:List Addr) (H H':Hp) (h h':Heap):Prop where
 keep: ∀b o,h.get? b=some o->H b=none->b∉fs->b∉ex->h'.get? b=some o
 slot: ∀b o,h.get? b=some o->H b=none->b∈fs->b∉ex-> ∃sl,h'.get? b=some {o with slots:=sl}
 free: ∀b o,h.get? b=some o->H b=none->b∉ex->H' b=none
 there: ∀b o,h.get? b=some o->b∉ex-> ∃o',h'.get? b=some o'
 tups: ∀b xs,H b=some (.tup xs)->H' b=some (.tup xs)
 frzs: ∀b o u,H b=some (.frz o u)->H' b=some (.frz o u)
 tbls: ∀b ps,H b=some (.tbl ps)-> ∃more,H' b=some (.tbl (ps++more))
section
variable {fs fs' ex ex':List Addr} {H H1 H2:Hp} {h h1 h2 h':Heap} {a x e:Addr} {o:HO}
theorem Un.any (u:Un fs ex H H1 h h1) {b:Addr} {ob:Obj} (q:h.get? b=some ob) (n:H b=none) (hx:b∉ex): ∃sl,h1.get? b=some {ob with slots:=sl}:=by
 by_cases hb:b∈fs
 ·exact u.slot b ob q n hb hx
 ·exact ⟨ob.slots,u.keep b ob q n hb hx⟩
theorem Un.kept (k: ∀b u,h.get? b=some u->h'.get? b=some u):Un fs ex H H h h':=
 ⟨λb ob q _ _ _=>k b ob q,λb ob q _ _ _=>⟨ob.slots,k b ob q⟩,λ_ _ _ n _=>n,λb ob q _=>⟨ob,k b ob q⟩,λ_ _ q=>q,λ_ _ _ q=>q,λ_ ps q=>⟨#[],by rw [q];simp⟩⟩
theorem Un.refl:Un fs ex H H h h:=Un.kept λ_ _ q=>q
theorem Un.laid (k: ∀b u,h.get? b=some u->h'.get? b=some u) (hp:h.objs.size<=a) (hn:H a=none):Un fs ex H (upd H a o) h h' where
 keep:=λb u q _ _ _=>k b u q
 slot:=λb u q _ _ _=>⟨u.slots,k b u q⟩
 free:=λb u q n _=>by rw [upd_ne (Nat.ne_of_lt (Nat.lt_of_lt_of_le (Heap.lt_size q) hp))];exact n
 there:=λb u q _=>⟨u,k b u q⟩
 tups:=λb xs q=>by rw [upd_ne (ne_of_none q hn)];exact q
 frzs:=λb u xs q=>by rw [upd_ne (ne_of_none q hn)];exact q
 tbls:=λb ps q=>⟨#[],by rw [upd_ne (ne_of_none q hn),q];simp⟩
theorem Un.write (mu:Mut (H x)) (he:e=x\/H e=some (.own x)) (k: ∀b u,b≠e->h.get? b=some u->h'.get? b=some u) (heo: ∃u,h'.get? e=some u):Un fs ex H (upd H x o) h h':=by
 have hx: ∀b,H b=none->b≠x:=λb n z=>by subst z;rw [n] at mu;exact mu
 have hb: ∀b,H b=none->b≠e:=λb n z=>by
  subst z
  rcases he with r|r
  ·exact hx b n r
  ·rw [n] at r;cases r
 have hm: ∀b u,H b=some u-> ¬Mut (some u)->b≠x:=λb u q nm z=>by subst z;rw [q] at mu;exact nm mu
 refine ⟨λb u q n _ _=>k b u (hb b n) q,λb u q n _ _=>⟨u.slots,k b u (hb b n) q⟩,λb u q n _=>by rw [upd_ne (hx b n)];exact n,λb u q _=> ?_,
  λb xs q=>by rw [upd_ne (hm b _ q λz=>z)];exact q,λb u xs q=>by rw [upd_ne (hm b _ q λz=>z)];exact q,λb ps q=>⟨#[],by rw [upd_ne (hm b _ q λz=>z),q];simp⟩⟩
 by_cases hbe:b=e
 ·subst hbe;exact heo
 ·exact ⟨u,k b u hbe q⟩
end
def trk (h:Heap) (H:Hp):List Addr:=(List.range h.objs.size).filter λa=>(H a).isSome
def hidT (h:Heap) (H:Hp):Heap:=PySem.W.hideAll h (trk h H)
theorem hidT_size (h:Heap) (H:Hp):(hidT h H).objs.size=h.objs.size:=PySem.W.hideAll_size _ _
theorem hidT_get {h:Heap} {H:Hp} {b:Addr} {o:Obj} (e:h.get? b=some o) (n:H b=none):(hidT h H).get? b=some o:=
 PySem.W.hideAll_get _ e λhm=>by
  have q:(H b).isSome=true:=(List.mem_filter.mp hm).2
  rw [n] at q;simp at q
theorem of_hidT {h:Heap} {H:Hp} {b:Addr} {o:Obj} (e:(hidT h H).get? b=some o):h.get? b=some o/\H b=none:=by
 have e':h.get? b=some o:=PySem.W.of_hideAll (trk h H) e
 refine ⟨e',?_⟩
 cases q:H b with
 |none=>rfl
 |some x=>
  have hm:b∈trk h H:=List.mem_filter.mpr ⟨List.mem_range.mpr (Heap.lt_size e'),by simp [q]⟩
  have z:(hidT h H).get? b=none:=PySem.W.hideAll_none (trk h H) hm
  rw [z] at e;cases e
structure Mod (K:Frag) (mg:Str->Option Value) (base:Heap):Prop where
 kin:K.In base
 glob:base.Ns mainGlobals mg
 blt: ∃mb,base.Ns builtinsNs mb/\ ∀x:Str,x≠ "__name__" ->mb x=bootBuiltins x
 nolimit:base.NoLimit
structure Cx where
 prog:Program
 w:World
 K:Frag
 mg:Str->Option Value
 base:Heap
 A:Around
 N:List Str
 s₀:Shared
 H₀:Hp
 env:Env
 outer:List Env
 stack:List Env
 ex:List Addr
 fn:Str->Bool
 calm:Bool
 pn:List (Addr×Obj)
 xe:Value->Shared->Prop
def frs (l:List Env):List Addr:=l.filterMap (·.frame)
abbrev Cx.fs (X:Cx):List Addr:=frs X.outer
def Vis (sc:Scope) (x:Str):Prop:=sc.names.lookup x=some .local\/sc.names.lookup x=some .cell\/sc.names.lookup x=some .free
def Loc (sc:Scope) (x:Str):Prop:=sc.names.lookup x=some .local\/sc.names.lookup x=some .cell
def Look (env:Env) (h:Heap) (m:Str->Option Value) (x:Str) (u:Value):Prop:=
 (env.kindOf x=some .local/\m x=some u)\/((env.kindOf x=some .cell\/env.kindOf x=some .free)/\ ∃c,env.cells.lookup x=some c/\h.IsCell c (some u))
structure Cx.Ok (X:Cx):Prop where
 mod:Mod X.K X.mg X.base
 kind:X.env.scope.kind= .function
 glob:X.env.globals=mainGlobals
 blt:X.env.builtins=builtinsNs
 above:X.s₀.heap.objs.size<=X.env.locals
 inj: ∀x y c,X.env.cells.lookup x=some c->X.env.cells.lookup y=some c->x=y
 has: ∀x,(X.env.kindOf x=some .cell\/X.env.kindOf x=some .free)-> ∃c,X.env.cells.lookup x=some c
 cab: ∀x c,X.fn x=true->X.env.cells.lookup x=some c->X.s₀.heap.objs.size<=c
 hd:X.calm=true->X.A.handled=none
 frames:X.A.frames=some X.stack
 stk:X.stack=X.outer\/(X.stack=X.env::X.outer/\X.env.frame=some X.env.locals)
 exf: ∀b∈X.ex,b≠X.env.locals/\ ∀x c,X.env.cells.lookup x=some c->c≠b
 bs: ∀b o,X.base.get? b=some o->X.s₀.heap.get? b=some o/\X.H₀ b=none
 bsz:X.base.objs.size<=X.s₀.heap.objs.size
 noex: ∀b o,X.base.get? b=some o->b∉X.ex
 exfs: ∀b∈X.ex,b∉X.fs
 funs:X.s₀.heap.FunFrames X.base X.outer
 frf: ∀b∈X.fs,X.H₀ b=none
structure Inv (X:Cx) (pins:List (Addr×Obj)) (σ:List (Option V)) (H:Hp) (s:Shared):Prop where
 ok:X.Ok
 os:s.os=X.s₀.os
 bare:AllBare s.gens
 base:Un X.fs X.ex X.H₀ H X.s₀.heap s.heap
 loc: ∃m,s.heap.Ns X.env.locals m/\ ∀(i:Nat) (x:Str) (v:V),X.N[i]? =some x->σ[i]? =some (some v)->Vis X.env.scope x-> ∃u,RelV v u/\Look X.env s.heap m x u
 cell: ∀x c,X.env.cells.lookup x=some c-> ∃v,s.heap.IsCell c v
 free:H X.env.locals=none
 freeC: ∀x c,X.env.cells.lookup x=some c->H c=none
 pin: ∀p∈X.pn++pins,s.heap.get? p.1=some p.2/\H p.1=none/\p.1≠X.env.locals/\p.1∉X.fs/\ ∀v,p.2.data≠ .cell v
 hok:HOk X.prog X.w H s.heap
 len:σ.length=X.N.length
section
variable {X:Cx} {pins:List (Addr×Obj)} {σ:List (Option V)} {H H':Hp} {s:Shared} {h':Heap}
theorem Cx.Ok.nofr (ok:X.Ok) {b:Addr} {o:Obj} (e:X.base.get? b=some o):b∉X.fs:=λhb=>by
 have:=(ok.funs.mem hb).1
 rw [e] at this;cases this
theorem Inv.bs (I:Inv X pins σ H s): ∀b o,X.base.get? b=some o->s.heap.get? b=some o/\H b=none:=λb o e=>
 ⟨I.base.keep b o (I.ok.bs b o e).1 (I.ok.bs b o e).2 (I.ok.nofr e) (I.ok.noex b o e),I.base.free b o (I.ok.bs b o e).1 (I.ok.bs b o e).2 (I.ok.noex b o e)⟩
theorem Inv.bk (I:Inv X pins σ H s): ∀b o,X.base.get? b=some o->s.heap.get? b=some o:=λb o e=>(I.bs b o e).1
theorem Inv.mod (I:Inv X pins σ H s):Mod X.K X.mg X.base:=I.ok.mod
theorem Inv.kIn (I:Inv X pins σ H s):X.K.In s.heap:=I.ok.mod.kin.keeps I.bk
theorem Inv.fr (I:Inv X pins σ H s): ∃m,Fr X.base X.env.locals s.heap m:=
 let ⟨m,hn,_⟩:=I.loc
 ⟨m,hn,I.bk,Nat.le_trans I.ok.bsz I.ok.above⟩
theorem Inv.lt (I:Inv X pins σ H s):X.env.locals<s.heap.objs.size:=let ⟨_,hn,_⟩:=I.loc;hn.lt
theorem Inv.sz (I:Inv X pins σ H s):X.s₀.heap.objs.size<=s.heap.objs.size:=Nat.le_trans I.ok.above (Nat.le_of_lt I.lt)
theorem Inv.nofs (I:Inv X pins σ H s) {a:Addr} (h:s.heap.objs.size<=a):a∉X.fs:=λhb=>by
 obtain ⟨_,o,ho,_⟩:=I.ok.funs.mem hb
 exact absurd (Nat.lt_of_lt_of_le (Heap.lt_size ho) (Nat.le_trans I.sz h)) (Nat.lt_irrefl _)
theorem Inv.cne (I:Inv X pins σ H s): ∀x c,X.env.cells.lookup x=some c->c≠X.env.locals:=λx c e z=>by
 obtain ⟨v,o,ho,hd⟩:=I.cell x c e
 obtain ⟨m,⟨o',es,ep,ho',hd',_⟩,_⟩:=I.loc
 rw [z,ho'] at ho;cases ho;rw [hd'] at hd;cases hd
theorem Inv.funs (I:Inv X pins σ H s):s.heap.FunFrames X.base X.outer:=by
 have all: ∀(l:List Env),(∀b∈frs l,b∈X.fs)->X.s₀.heap.FunFrames X.base l->s.heap.FunFrames X.base l:=by
  intro l
  induction l with
  |nil=>intro _ _;trivial
  |cons env r ih=>
   intro hs hl
   obtain ⟨hk,⟨L,o,hf,hn,ho,hd⟩,hr⟩:=hl
   have hL:L∈X.fs:=hs L (by unfold frs;rw [List.filterMap_cons,hf];exact List.mem_cons_self)
   obtain ⟨sl,e⟩:=I.base.slot L o ho (I.ok.frf L hL) hL λz=>I.ok.exfs L z hL
   exact ⟨hk,⟨L,_,hf,hn,e,hd⟩,ih (λb hb=>hs b (by unfold frs;rw [List.filterMap_cons,hf];exact List.mem_cons_of_mem _ hb)) hr⟩
 exact all X.outer (λ_ hb=>hb) I.ok.funs
theorem Inv.stack (I:Inv X pins σ H s):s.heap.FunFrames X.base X.stack:=by
 rcases I.ok.stk with e|⟨e,hf⟩
 ·rw [e];exact I.funs
 ·rw [e]
  obtain ⟨m,hn,_⟩:=I.loc
  refine .cons (by rw [I.ok.kind];decide) hf hn ?_ I.funs
  exact Heap.get?_none_of_le (Nat.le_trans I.ok.bsz I.ok.above)
theorem Inv.stkSub (I:Inv X pins σ H s): ∀b∈frs X.stack,b∈X.env.locals::X.fs:=λb hb=>by
 rcases I.ok.stk with e|⟨e,hf⟩
 ·rw [e] at hb;exact List.mem_cons_of_mem _ hb
 ·rw [e] at hb
  unfold frs at hb
  rw [List.filterMap_cons,hf] at hb
  exact hb
theorem Inv.stkFree (I:Inv X pins σ H s): ∀b∈frs X.stack,H b=none:=λb hb=>by
 rcases List.mem_cons.mp (I.stkSub b hb) with e|hb
 ·rw [e];exact I.free
 ·obtain ⟨_,o,ho,_⟩:=I.ok.funs.mem hb
  exact I.base.free b o ho (I.ok.frf b hb) λz=>I.ok.exfs b z hb
theorem Inv.step {g':Array GenState} {t':Nat} {d':Drawn} {ch:List Addr} (I:Inv X pins σ H s)
  (hch: ∀b∈ch,(b∈X.ex\/X.s₀.heap.objs.size<=b)/\b≠X.env.locals/\(∀x c,X.env.cells.lookup x=some c->c≠b)/\ ∀p∈X.pn++pins,p.1≠b)
  (keep: ∀b o,b≠X.env.locals->b∉X.fs->b∉ch->s.heap.get? b=some o->H b=none->h'.get? b=some o)
  (slot: ∀b o,b≠X.env.locals->b∈X.fs->b∉ch->s.heap.get? b=some o->H b=none-> ∃sl,h'.get? b=some {o with slots:=sl}) (free: ∀b o,b∉ch->s.heap.get? b=some o->H b=none->H' b=none)
  (there: ∀b o,b∉ch->s.heap.get? b=some o-> ∃o',h'.get? b=some o')
  (tups: ∀b xs,H b=some (.tup xs)->H' b=some (.tup xs)) (frzs: ∀b o u,H b=some (.frz o u)->H' b=some (.frz o u)) (tbls: ∀b ps,H b=some (.tbl ps)-> ∃more,H' b=some (.tbl (ps++more)))
  (ns: ∀m,s.heap.Ns X.env.locals m->h'.Ns X.env.locals m) (hok:HOk X.prog X.w H' h') (hg:AllBare g'):
  Inv X pins σ H' {s with heap:=h',gens:=g',drawn:=d',toks:=t'}:=by
 have neL: ∀b o,X.s₀.heap.get? b=some o->b≠X.env.locals:=λb o e=>Nat.ne_of_lt (Nat.lt_of_lt_of_le (Heap.lt_size e) I.ok.above)
 have neC: ∀b o,X.s₀.heap.get? b=some o->b∉X.ex->b∉ch:=λb o e hx hb=>by
  rcases (hch b hb).1 with z|z
  ·exact hx z
  ·exact absurd (Nat.lt_of_lt_of_le (Heap.lt_size e) z) (Nat.lt_irrefl _)
 have cellK: ∀x c,X.env.cells.lookup x=some c-> ∀v,s.heap.IsCell c v->h'.IsCell c v:=λx c e v ⟨o,ho,hd⟩=>by
  have nch:c∉ch:=λz=>(hch c z).2.2.1 x c e rfl
  by_cases hc:c∈X.fs
  ·obtain ⟨sl,q⟩:=slot c o (I.cne x c e) hc nch ho (I.freeC x c e)
   exact ⟨_,q,hd⟩
  ·exact ⟨o,keep c o (I.cne x c e) hc nch ho (I.freeC x c e),hd⟩
 refine ⟨I.ok,I.os,hg,⟨λb o e n hb hx=> ?_,λb o e n hb hx=> ?_,λb o e n hx=> ?_,λb o e hx=> ?_,λb xs e=>tups b xs (I.base.tups b xs e),λb o xs e=>frzs b o xs (I.base.frzs b o xs e),λb ps e=> ?_⟩,?_,λx c e=> ?_,?_,λx c e=> ?_,λp hp=> ?_,hok,I.len⟩
 ·exact keep b o (neL b o e) hb (neC b o e hx) (I.base.keep b o e n hb hx) (I.base.free b o e n hx)
 ·obtain ⟨sl,e1⟩:=I.base.slot b o e n hb hx
  obtain ⟨sl',e2⟩:=slot b _ (neL b o e) hb (neC b o e hx) e1 (I.base.free b o e n hx)
  exact ⟨sl',e2⟩
 ·obtain ⟨o',e1⟩:=I.base.there b o e hx
  exact free b o' (neC b o e hx) e1 (I.base.free b o e n hx)
 ·obtain ⟨o',e1⟩:=I.base.there b o e hx
  exact there b o' (neC b o e hx) e1
 ·obtain ⟨m1,e1⟩:=I.base.tbls b ps e
  obtain ⟨m2,e2⟩:=tbls b _ e1
  exact ⟨m1++m2,by rw [e2,Array.append_assoc]⟩
 ·obtain ⟨m,hn,hl⟩:=I.loc
  refine ⟨m,ns m hn,λi x v e1 e2 e3=> ?_⟩
  obtain ⟨u,r,l⟩:=hl i x v e1 e2 e3
  refine ⟨u,r,?_⟩
  rcases l with l|⟨k,c,e,z⟩
  ·exact .inl l
  ·exact .inr ⟨k,c,e,cellK x c e _ z⟩
 ·obtain ⟨v,z⟩:=I.cell x c e
  exact ⟨v,cellK x c e v z⟩
 ·obtain ⟨m,⟨o,_,_,ho,_⟩,_⟩:=I.loc
  exact free _ o (λz=>(hch _ z).2.1 rfl) ho I.free
 ·obtain ⟨v,o,ho,hd⟩:=I.cell x c e
  exact free c o (λz=>(hch c z).2.2.1 x c e rfl) ho (I.freeC x c e)
 ·obtain ⟨e,n,ne,nf,d⟩:=I.pin p hp
  have nch:p.1∉ch:=λz=>(hch p.1 z).2.2.2 p hp rfl
  exact ⟨keep p.1 p.2 ne nf nch e n,free p.1 p.2 nch e n,ne,nf,d⟩
theorem Inv.un {t':Nat} (I:Inv X pins σ H s) (u:Un X.fs [] H H' s.heap h') (hok:HOk X.prog X.w H' h'):Inv X pins σ H' {s with heap:=h',toks:=t'}:=by
 obtain ⟨m,⟨o,es,ep,ho,r⟩,_⟩:=id I.loc
 obtain ⟨sl,hL⟩:=u.any ho I.free (by simp)
 exact I.step (g':=s.gens) (d':=s.drawn) (ch:= []) (λ_ z=>nomatch z) (λb o _ hb _ e n=>u.keep b o e n hb (by simp)) (λb o _ hb _ e n=>u.slot b o e n hb (by simp)) (λb o _ e n=>u.free b o e n (by simp)) (λb o _ e=>u.there b o e (by simp)) u.tups u.frzs u.tbls (λm' hm=>by
  obtain ⟨o',es',ep',ho',r'⟩:=hm
  rw [ho] at ho';cases ho'
  exact ⟨_,es',ep',hL,r'⟩) hok I.bare
theorem Inv.call {g':Array GenState} {t':Nat} {d':Drawn} {ch:List Addr} (I:Inv X pins σ H s) (u:Un (frs X.stack) ch H H' s.heap h') (hok:HOk X.prog X.w H' h') (hg:AllBare g')
  (hch: ∀b∈ch,(b∈X.ex\/X.s₀.heap.objs.size<=b)/\b≠X.env.locals/\(∀x c,X.env.cells.lookup x=some c->c≠b)/\ ∀p∈X.pn++pins,p.1≠b):
  Inv X pins σ H' {s with heap:=h',gens:=g',drawn:=d',toks:=t'}:=by
 obtain ⟨m,⟨o,es,ep,ho,r⟩,_⟩:=id I.loc
 obtain ⟨sl,hL⟩:=u.any ho I.free λz=>(hch _ z).2.1 rfl
 exact I.step (ch:=ch) hch (λb o hL hb hc e n=>u.keep b o e n (λz=>(List.mem_cons.mp (I.stkSub b z)).elim hL hb) hc) (λb o _ _ hc e n=>u.any e n hc) (λb o hc e n=>u.free b o e n hc) (λb o hc e=>u.there b o e hc) u.tups u.frzs u.tbls (λm' hm=>by
  obtain ⟨o',es',ep',ho',r'⟩:=hm
  rw [ho] at ho';cases ho'
  exact ⟨_,es',ep',hL,r'⟩) hok hg
theorem Inv.turned {t':Nat} {it:Addr} (I:Inv X pins σ H s) (k: ∀b o,b≠it->s.heap.get? b=some o->h'.get? b=some o) (hn:H it=none) (hL:it≠X.env.locals)
  (h1:it∈X.ex\/X.s₀.heap.objs.size<=it) (h2: ∀x c,X.env.cells.lookup x=some c->c≠it) (h3: ∀p∈X.pn++pins,p.1≠it):Inv X pins σ H {s with heap:=h',toks:=t'}:=by
 have nit: ∀b u,H b=some u->b≠it:=λb u e z=>by rw [z,hn] at e;cases e
 refine I.step (g':=s.gens) (d':=s.drawn) (ch:= [it]) (λb hb=> ?_) (λb o _ _ hc e _=>k b o (λz=>hc (by simp [z])) e) (λb o _ _ hc e _=>⟨o.slots,k b o (λz=>hc (by simp [z])) e⟩) (λ_ _ _ _ n=>n)
  (λb o hc e=>⟨o,k b o (λz=>hc (by simp [z])) e⟩) (λ_ _ e=>e) (λ_ _ _ e=>e) (λb ps e=>⟨#[],by rw [e];simp⟩) (λm hm=> ?_) (λb u e=> ?_) I.bare
 ·have e:b=it:=by simpa using hb
  subst e
  exact ⟨h1,hL,h2,h3⟩
 ·obtain ⟨o,es,ep,ho,r⟩:=hm
  exact ⟨o,es,ep,k _ o (Ne.symm hL) ho,r⟩
 ·refine (I.hok b u e).stay (λc v hc q=>k c v ?_ q) (λ_ q=>q) λ_ _ q=>q
  rcases hc with z|z
  ·rw [z];exact nit b u e
  ·exact nit c _ z
theorem Inv.tok (I:Inv X pins σ H s) (t:Nat):Inv X pins σ H {s with toks:=t}:=I.un (h':=s.heap) (t':=t) Un.refl I.hok
theorem Inv.kept {t':Nat} (I:Inv X pins σ H s) (k: ∀b u,s.heap.get? b=some u->h'.get? b=some u):Inv X pins σ H {s with heap:=h',toks:=t'}:=I.un (Un.kept k) (I.hok.kept k)
theorem Inv.laid {a:Addr} {o:HO} {t':Nat} (I:Inv X pins σ H s) (k: ∀b u,s.heap.get? b=some u->h'.get? b=some u) (hp:s.heap.objs.size<=a) (new:ObjOk X.prog X.w (upd H a o) h' a o):
  Inv X pins σ (upd H a o) {s with heap:=h',toks:=t'}:=I.un (Un.laid k hp (I.hok.fresh hp)) (I.hok.laid k hp new)
theorem Inv.write {x e:Addr} {o:HO} {t':Nat} (I:Inv X pins σ H s) (mu:Mut (H x)) (he:e=x\/H e=some (.own x)) (k: ∀b u,b≠e->s.heap.get? b=some u->h'.get? b=some u) (heo: ∃u,h'.get? e=some u)
  (new:ObjOk X.prog X.w (upd H x o) h' x o):Inv X pins σ (upd H x o) {s with heap:=h',toks:=t'}:=I.un (Un.write mu he k heo) (I.hok.write mu he k heo new)
theorem Inv.weak {σ':List (Option V)} (I:Inv X pins σ H s) (hl:σ'.length=σ.length) (w: ∀(i:Nat) v,σ'[i]? =some (some v)->σ[i]? =some (some v)):Inv X pins σ' H s:=
 ⟨I.ok,I.os,I.bare,I.base,let ⟨m,hn,hl'⟩:=I.loc;⟨m,hn,λi x v e1 e2 e3=>hl' i x v e1 (w i v e2) e3⟩,I.cell,I.free,I.freeC,I.pin,I.hok,hl.trans I.len⟩
theorem Inv.pins_of {pins':List (Addr×Obj)} (I:Inv X pins σ H s) (h: ∀p∈pins',s.heap.get? p.1=some p.2/\H p.1=none/\p.1≠X.env.locals/\p.1∉X.fs/\ ∀v,p.2.data≠ .cell v):Inv X pins' σ H s:=
 ⟨I.ok,I.os,I.bare,I.base,I.loc,I.cell,I.free,I.freeC,λp hp=>(List.mem_append.mp hp).elim (λz=>I.pin p (List.mem_append_left _ z)) (h p),I.hok,I.len⟩
theorem nodup_ix {N:List Str} (hN:N.Nodup) {i j:Nat} {x:Str} (a:N[i]? =some x) (b:N[j]? =some x):i=j:=by
 obtain ⟨h1,e1⟩:=List.getElem?_eq_some_iff.mp a
 obtain ⟨h2,e2⟩:=List.getElem?_eq_some_iff.mp b
 exact (List.getElem_inj hN).mp (e1.trans e2.symm)
theorem store_ok2 {M:Model} {A:Around} {E:Value->Shared->Prop} {i:Nat} {x:Str} {v:V} {u:Value} {Q:Unit->Shared->Prop} (I:Inv X pins σ H s) (hN:X.N.Nodup) (hi:X.N[i]? =some x) (hx:Loc X.env.scope x) (r:RelV v u)
  (h: ∀s',Inv X pins (σ.set i (some v)) H s'->(∃a,Heap.SameBut a s.heap s'.heap/\(a=X.env.locals\/X.env.cells.lookup x=some a))->Q () s') (hf:X.fn x=true\/X.env.scope.names.lookup x=some .local:=by first|exact .inl rfl|exact .inr rfl|assumption):wpAny M A (storeName X.env x u) Q E s:=by
 obtain ⟨m,hn,hl⟩:=id I.loc
 have hcls:(X.env.scope.kind== .class||(X.env.scope.kind== .module && X.env.locals !=X.env.globals))=false:=by rw [I.ok.kind];rfl
 have hiσ:i<σ.length:=by rw [I.len];exact (List.getElem?_eq_some_iff.mp hi).1
 have cne:=I.cne
 have tracked: ∀ {a:Addr} {h':Heap},(∃o,s.heap.get? a=some o/\H a=none)->Heap.SameBut a s.heap h'->HOk X.prog X.w H h':=λ{a h'} ha hs b ob e=>by
  obtain ⟨_,_,hfree⟩:=ha
  refine (I.hok b ob e).stay (λc w' hc q=>(hs.2 c ?_).trans q) (λ_ q=>q) λ_ _ q=>q
  rintro rfl
  rcases hc with rfl|hc
  ·rw [hfree] at e;cases e
  ·rw [hfree] at hc;cases hc
 rcases hx with hk|hk
 ·refine wpAny_storeName_local hk hn (λh' hn' hs=> ?_) hcls
  obtain ⟨oL,_,_,hoL,_⟩:=id hn
  refine h _ ⟨I.ok,I.os,I.bare,⟨λb o e n hb hx=> ?_,λb o e n hb hx=> ?_,I.base.free,λb o e hx=> ?_,I.base.tups,I.base.frzs,I.base.tbls⟩,⟨_,hn',λj y v' e1 e2 e3=> ?_⟩,λy c e=> ?_,I.free,I.freeC,λp hp=> ?_,tracked ⟨oL,hoL,I.free⟩ hs,by simpa using I.len⟩ ⟨_,hs,.inl rfl⟩
  ·exact (hs.2 b (Nat.ne_of_lt (Nat.lt_of_lt_of_le (Heap.lt_size e) I.ok.above))).trans (I.base.keep b o e n hb hx)
  ·obtain ⟨sl,e1⟩:=I.base.slot b o e n hb hx
   exact ⟨sl,(hs.2 b (Nat.ne_of_lt (Nat.lt_of_lt_of_le (Heap.lt_size e) I.ok.above))).trans e1⟩
  ·obtain ⟨o',e1⟩:=I.base.there b o e hx
   exact ⟨o',(hs.2 b (Nat.ne_of_lt (Nat.lt_of_lt_of_le (Heap.lt_size e) I.ok.above))).trans e1⟩
  ·by_cases hj:j=i
   ·subst hj
    rw [hi] at e1;cases e1
    rw [List.getElem?_set_self hiσ] at e2
    cases e2
    exact ⟨u,r,.inl ⟨hk,by simp⟩⟩
   ·rw [List.getElem?_set_ne (Ne.symm hj)] at e2
    obtain ⟨u',r',q⟩:=hl j y v' e1 e2 e3
    refine ⟨u',r',?_⟩
    rcases q with ⟨k,e⟩|⟨k,c,e,z⟩
    ·refine .inl ⟨k,?_⟩
     have:y≠x:=λe=>hj (nodup_ix hN e1 (e ▸ hi))
     simp [this,e]
    ·exact .inr ⟨k,c,e,z.sameBut hs (cne y c e)⟩
  ·obtain ⟨w',z⟩:=I.cell y c e
   exact ⟨w',z.sameBut hs (cne y c e)⟩
  ·obtain ⟨e,n,ne,nf,d⟩:=I.pin p hp
   exact ⟨(hs.2 p.1 ne).trans e,n,ne,nf,d⟩
 ·have hfn:X.fn x=true:=by
   rcases hf with z|z
   ·exact z
   ·rw [z] at hk;cases hk
  obtain ⟨c,hc⟩:=I.ok.has x (.inl hk)
  obtain ⟨w',z⟩:=I.cell x c hc
  refine wpAny_storeName_cell I.ok.kind hk hc z (λh' hc' hs=> ?_)
  obtain ⟨oc,hoc,hocd⟩:=id z
  refine h {s with heap:=h'} ⟨I.ok,I.os,I.bare,⟨λb o e n hb hx=> ?_,λb o e n hb hx=> ?_,I.base.free,λb o e hx=> ?_,I.base.tups,I.base.frzs,I.base.tbls⟩,⟨m,hn.sameBut hs (Ne.symm (cne x c hc)),λj y v' e1 e2 e3=> ?_⟩,λy c' e=> ?_,I.free,I.freeC,λp hp=> ?_,tracked ⟨oc,hoc,I.freeC x c hc⟩ hs,by simpa using I.len⟩ ⟨c,hs,.inr hc⟩
  ·exact (hs.2 b (Nat.ne_of_lt (Nat.lt_of_lt_of_le (Heap.lt_size e) (I.ok.cab x c hfn hc)))).trans (I.base.keep b o e n hb hx)
  ·obtain ⟨sl,e1⟩:=I.base.slot b o e n hb hx
   exact ⟨sl,(hs.2 b (Nat.ne_of_lt (Nat.lt_of_lt_of_le (Heap.lt_size e) (I.ok.cab x c hfn hc)))).trans e1⟩
  ·obtain ⟨o',e1⟩:=I.base.there b o e hx
   exact ⟨o',(hs.2 b (Nat.ne_of_lt (Nat.lt_of_lt_of_le (Heap.lt_size e) (I.ok.cab x c hfn hc)))).trans e1⟩
  ·by_cases hj:j=i
   ·subst hj
    rw [hi] at e1;cases e1
    rw [List.getElem?_set_self hiσ] at e2
    cases e2
    exact ⟨u,r,.inr ⟨.inl hk,c,hc,hc'⟩⟩
   ·rw [List.getElem?_set_ne (Ne.symm hj)] at e2
    obtain ⟨u',r',q⟩:=hl j y v' e1 e2 e3
    refine ⟨u',r',?_⟩
    rcases q with q|⟨k,c',e,z'⟩
    ·exact .inl q
    ·refine .inr ⟨k,c',e,z'.sameBut hs ?_⟩
     rintro rfl
     exact hj (nodup_ix hN e1 (I.ok.inj _ _ _ e hc ▸ hi))
  ·by_cases hcc:c'=c
   ·subst hcc;exact ⟨_,hc'⟩
   ·obtain ⟨w2,z2⟩:=I.cell y c' e
    exact ⟨w2,z2.sameBut hs hcc⟩
  ·obtain ⟨e,n,ne,nf,d⟩:=I.pin p hp
   refine ⟨(hs.2 p.1 ?_).trans e,n,ne,nf,d⟩
   intro q
   rw [q,hoc] at e
   have q':oc=p.2:=Option.some.inj e
   exact d w' (by rw [<-q'];exact hocd)
theorem store_ok {M:Model} {A:Around} {E:Value->Shared->Prop} {i:Nat} {x:Str} {v:V} {u:Value} {Q:Unit->Shared->Prop} (I:Inv X pins σ H s) (hN:X.N.Nodup) (hi:X.N[i]? =some x) (hx:Loc X.env.scope x) (r:RelV v u)
  (h: ∀s',Inv X pins (σ.set i (some v)) H s'->Q () s') (hf:X.fn x=true\/X.env.scope.names.lookup x=some .local:=by first|exact .inl rfl|exact .inr rfl|assumption):wpAny M A (storeName X.env x u) Q E s:=
 store_ok2 I hN hi hx r (λs' I' _=>h s' I') hf
theorem Inv.call' {s':Shared} {ch:List Addr} (I:Inv X pins σ H s) (ho:s'.os=s.os) (u:Un (frs X.stack) ch H H' s.heap s'.heap) (hok:HOk X.prog X.w H' s'.heap) (hg:AllBare s'.gens)
  (hch: ∀b∈ch,(b∈X.ex\/X.s₀.heap.objs.size<=b)/\b≠X.env.locals/\(∀x c,X.env.cells.lookup x=some c->c≠b)/\ ∀p∈X.pn++pins,p.1≠b):Inv X pins σ H' s':=by
 obtain ⟨h',g',d',t',o'⟩:=s'
 have e:o'=s.os:=ho
 subst e
 exact I.call (g':=g') (t':=t') (d':=d') u hok hg hch
end
abbrev XK:=Value->Option Addr->Hp->Prop
abbrev St:=List (Option V)
abbrev VK:=V->Hp->Prop
abbrev TE:=St->Hp->VK->Prop
abbrev TT:=St->Hp->(Bool->Hp->Prop)->Prop
abbrev TA:=St->Hp->(List V->Hp->Prop)->Prop
structure Ends where
 nx:St->Hp->Prop
 rt:VK
 bk:St->Hp->Prop:=λ_ _=>False
 ct:St->Hp->Prop:=λ_ _=>False
abbrev TS:=Ends->St->Hp->Prop
def EP (X:Cx) (pins:List (Addr×Obj)) (σ:St) (Q:VK) (u:Value) (s':Shared):Prop:= ∃v H',Inv X pins σ H' s'/\RelV v u/\Q v H'
def TP (X:Cx) (pins:List (Addr×Obj)) (σ:St) (Q:Bool->Hp->Prop) (b:Bool) (s':Shared):Prop:= ∃H',Inv X pins σ H' s'/\Q b H'
def AP (X:Cx) (pins:List (Addr×Obj)) (σ:St) (Q:List V->Hp->Prop) (us:List Value) (s':Shared):Prop:= ∃vs H',Inv X pins σ H' s'/\Vals vs us/\Q vs H'
def SP (X:Cx) (pins:List (Addr×Obj)) (D:Ends) (f:Flow) (s':Shared):Prop:=
 match f with
 | .next=> ∃σ' H',Inv X pins σ' H' s'/\D.nx σ' H'
 | .brk=> ∃σ' H',Inv X pins σ' H' s'/\D.bk σ' H'
 | .cont=> ∃σ' H',Inv X pins σ' H' s'/\D.ct σ' H'
 | .ret u=> ∃v σ' H',Inv X pins σ' H' s'/\RelV v u/\D.rt v H'
def PE (X:Cx) (e:Expr) (t:TE):Prop:=
 ∀(pins:List (Addr×Obj)) (s:Shared) (σ:St) (H:Hp) (Q:VK),Inv X pins σ H s->t σ H Q->wpAny (model X.prog X.w) X.A (eval e X.env) (EP X pins σ Q) X.xe s
def PT (X:Cx) (e:Expr) (t:TT):Prop:=
 ∀(pins:List (Addr×Obj)) (s:Shared) (σ:St) (H:Hp) (Q:Bool->Hp->Prop),Inv X pins σ H s->t σ H Q->wpAny (model X.prog X.w) X.A (isTrue e X.env (eval e X.env)) (TP X pins σ Q) X.xe s
def PW (X:Cx) (e:Expr) (t:TT):Prop:=
 ∀(whole:Sem Value) (pins:List (Addr×Obj)) (s:Shared) (σ:St) (H:Hp) (Q:Bool->Hp->Prop),Inv X pins σ H s->t σ H Q->wpAny (model X.prog X.w) X.A (isTrue e X.env whole) (TP X pins σ Q) X.xe s
theorem PW.pt {X:Cx} {e:Expr} {t:TT} (h:PW X e t):PT X e t:=h _
def PA (X:Cx) (es:List Expr) (t:TA):Prop:=
 ∀(pos:Pos) (pins:List (Addr×Obj)) (s:Shared) (σ:St) (H:Hp) (Q:List V->Hp->Prop),Inv X pins σ H s->t σ H Q->wpAny (model X.prog X.w) X.A (spliced (backTo pos (starEach es X.env))) (AP X pins σ Q) X.xe s
def PS (X:Cx) (st:Stmt) (t:TS):Prop:=
 ∀(pins:List (Addr×Obj)) (s:Shared) (σ:St) (H:Hp) (D:Ends),Inv X pins σ H s->t D σ H->wpAny (model X.prog X.w) X.A (exec st X.env) (SP X pins D) X.xe s
def PSs (X:Cx) (st:List Stmt) (t:TS):Prop:=
 ∀(pins:List (Addr×Obj)) (s:Shared) (σ:St) (H:Hp) (D:Ends),Inv X pins σ H s->t D σ H->wpAny (model X.prog X.w) X.A (execs st X.env) (SP X pins D) X.xe s
theorem thn {α:Type} {t:Sem α} {Q Q':α->Shared->Prop} {M:Model} {A:Around} {E:Value->Shared->Prop} {s:Shared} (h:wpAny M A t Q E s) (hQ: ∀a s,Q a s->Q' a s):wpAny M A t Q' E s:=wpAny_mono h hQ λ_ _ x=>x
section
variable {X:Cx}
theorem bin {a b:Expr} {ta tb:TE} (ha:PE X a ta) (hb:PE X b tb) {pins:List (Addr×Obj)} {s:Shared} {σ:St} {H:Hp} {R:V->V->Hp->Prop} (I:Inv X pins σ H s) (h:ta σ H λx H1=>tb σ H1 λy H2=>R x y H2)
  {α:Type} {Q:α->Shared->Prop} {f:Value->Value->Sem α}
  (hf: ∀v u s2 x y H2,Inv X pins σ H2 s2->RelV x v->RelV y u->R x y H2->wpAny (model X.prog X.w) X.A (f v u) Q X.xe s2):
  wpAny (model X.prog X.w) X.A (eval a X.env) (λv s₁=>wpAny (model X.prog X.w) X.A (eval b X.env) (λu s₂=>wpAny (model X.prog X.w) X.A (f v u) Q X.xe s₂) X.xe s₁) X.xe s:=by
 refine thn (ha pins s σ H _ I h) λv s1 ⟨x,H1,I1,r1,q1⟩=> ?_
 refine thn (hb pins s1 σ H1 _ I1 q1) λu s2 ⟨y,H2,I2,r2,q2⟩=> ?_
 exact hf v u s2 x y H2 I2 r1 r2 q2
def tVar (i:Nat):TE:=λσ H Q=> ∃v,σ[i]? =some (some v)/\Q v H
def tC (v:V):TE:=λ_ H Q=>Q v H
theorem pe_var {i:Nat} {x:Str} {pos:Pos} (hN:X.N[i]? =some x) (hv:Vis X.env.scope x) (hd:(x==("__debug__" :Str))=false:=by decide) (hcd:(x==("__classdict__" :Str))=false:=by decide):PE X (.Name x pos) (tVar i):=by
 intro pins s σ H Q I h
 obtain ⟨v,e,h⟩:=h
 obtain ⟨m,hn,hl⟩:=I.loc
 obtain ⟨u,r,l⟩:=hl i x v hN e hv
 have fin:EP X pins σ Q u s:=⟨v,H,I,r,h⟩
 rcases l with ⟨hk,hm⟩|⟨hk,c,hc,hcell⟩
 ·exact wpAny_Name (wpAny_loadName_local I.ok.kind hk hn hm fin) hd
 ·rcases hk with hk|hk
  ·exact wpAny_Name (wpAny_loadName_cell I.ok.kind hk hc hcell fin) hd
  ·exact wpAny_Name (wpAny_loadName_free I.ok.kind hk hc hcell fin hcd) hd
theorem pe_int {i j pos}:PE X (.Constant (.int i) j pos) (tC (.int i)):=λ_ _ _ H _ I h=>wpAny_Constant_int ⟨.int i,H,I.tok _,⟨_,rfl⟩,h⟩
theorem pe_bl {b j pos}:PE X (.Constant (.bool b) j pos) (tC (.bl b)):=λ_ _ _ H _ I h=>Constant_bool ⟨.bl b,H,I,rfl,h⟩
theorem pe_non {j pos}:PE X (.Constant .none j pos) (tC .non):=λ_ _ _ H _ I h=>Constant_none ⟨.non,H,I,rfl,h⟩
theorem pe_str {x j pos}:PE X (.Constant (.str x) j pos) (tC (.str x)):=λ_ _ _ H _ I h=>Calls.Constant_str ⟨.str x,H,I.tok _,⟨_,rfl⟩,h⟩
def Gl (X:Cx) (x:Str):Prop:=X.env.kindOf x=some .globalImplicit
theorem ld_glob {E:Value->Shared->Prop} {pins:List (Addr×Obj)} {s:Shared} {σ:St} {H:Hp} {x:Str} {u:Value} {pos:Pos} {Q:Value->Shared->Prop} (I:Inv X pins σ H s) (hg:Gl X x) (hm:X.mg x=some u) (h:Q u s)
  (hd:(x==("__debug__" :Str))=false:=by decide):wpAny (model X.prog X.w) X.A (eval (.Name x pos) X.env) Q E s:=
 Calls.Name_function_global I.ok.kind hg (Calls.loadGlobal_global (by rw [I.ok.glob];exact I.mod.glob.keeps I.bk) hm h) hd
theorem ld_blt {E:Value->Shared->Prop} {pins:List (Addr×Obj)} {s:Shared} {σ:St} {H:Hp} {x:Str} {u:Value} {pos:Pos} {Q:Value->Shared->Prop} (I:Inv X pins σ H s) (hg:Gl X x) (hm:X.mg x=none) (hv:bootBuiltins x=some u) (h:Q u s)
  (hn:x≠ "__name__" :=by decide) (hd:(x==("__debug__" :Str))=false:=by decide):wpAny (model X.prog X.w) X.A (eval (.Name x pos) X.env) Q E s:=by
 obtain ⟨mb,h1,h2⟩:=I.mod.blt
 exact Calls.Name_function_global I.ok.kind hg (Calls.loadGlobal_builtin (by rw [I.ok.glob];exact I.mod.glob.keeps I.bk) hm (by rw [I.ok.blt];exact h1.keeps I.bk) ((h2 x hn).trans hv) h) hd
theorem pe_glob {x:Str} {v:V} {u:Value} {pos:Pos} (hg:Gl X x) (hm:X.mg x=some u) (r:RelV v u) (hd:(x==("__debug__" :Str))=false:=by decide):PE X (.Name x pos) (tC v):=
 λ_ _ _ H _ I h=>ld_glob I hg hm ⟨v,H,I,r,h⟩ hd
theorem pe_bltn {x:Str} {v:V} {u:Value} {pos:Pos} (hg:Gl X x) (hm:X.mg x=none) (hv:bootBuiltins x=some u) (r:RelV v u) (hn:x≠ "__name__" :=by decide) (hd:(x==("__debug__" :Str))=false:=by decide):PE X (.Name x pos) (tC v):=
 λ_ _ _ H _ I h=>ld_blt I hg hm hv ⟨v,H,I,r,h⟩ hn hd
variable {a b:Expr} {ta tb:TE} {pos:Pos}
def PC (X:Cx) (op:CmpOp) (a b:Expr) (t:TE):Prop:=
 ∀(pins:List (Addr×Obj)) (s:Shared) (σ:St) (H:Hp) (Q:VK),Inv X pins σ H s->t σ H Q->
  wpAny (model X.prog X.w) X.A (eval a X.env) (λv s₁=>wpAny (model X.prog X.w) X.A (eval b X.env) (λu s₂=>wpAny (model X.prog X.w) X.A (compareOp op v u) (EP X pins σ Q) X.xe s₂) X.xe s₁) X.xe s
def tB (t:TE):TT:=λσ H Q=>t σ H λx H1=> ∃c,x= .bl c/\Q c H1
theorem pt_cmp {op:CmpOp} {t:TE} (h:PC X op a b t) (h1:behindInMarks op b=false:=by first|exact nobehind _ (by decide) (by decide)|rfl):PT X (.Compare a [op] [b] pos) (tB t):=by
 intro pins s σ H Q I hw
 refine wpAny_isTrue_Compare1 (thn (h pins s σ H _ I hw) λv s1 h1=>thn h1 λu s2 h2=>thn h2 λc s3 ⟨x,H1,I1,r1,q1⟩=> ?_) h1
 obtain ⟨d,rfl,q⟩:=q1
 cases r1
 exact wpAny_truthy_bool ⟨H1,I1,q⟩
theorem pt_val {e:Expr} {t:TE} (h:PE X e t) (he: ∀whole,isTrue e X.env whole=(do let v <-whole;standAt e.pos;holding [v] (truthy v)):=by intro _;rfl):PT X e (tB t):=by
 intro pins s σ H Q I hw
 refine isTrue_plain (thn (h pins s σ H _ I hw) λv s1 ⟨x,H1,I1,r1,q1⟩=> ?_) (he _)
 obtain ⟨d,rfl,q⟩:=q1
 cases r1
 exact wpAny_truthy_bool ⟨H1,I1,q⟩
variable {tA tB':TT} {rest:List Expr}
def tAnd (t u:TT):TT:=λσ H Q=>t σ H λc H1=>if c=true then u σ H1 Q else Q false H1
def tOr (t u:TT):TT:=λσ H Q=>t σ H λc H1=>if c=true then Q true H1 else u σ H1 Q
def tNot (t:TT):TT:=λσ H Q=>t σ H λc H1=>Q (!c) H1
theorem pw_and1 (ha:PT X a tA):PW X (.BoolOp .And [a] pos) tA:=by
 intro wh pins s σ H Q I h
 refine isTrue_and (thn (ha pins s σ H Q I h) λc s1 e=> ?_)
 cases c with
 |true=>exact isTrue_and_nil e
 |false=>exact e
theorem pw_or1 (ha:PT X a tA):PW X (.BoolOp .Or [a] pos) tA:=by
 intro wh pins s σ H Q I h
 refine isTrue_or (thn (ha pins s σ H Q I h) λc s1 e=> ?_)
 cases c with
 |false=>exact isTrue_or_nil e
 |true=>exact e
theorem pw_and (ha:PT X a tA) (hb:PW X (.BoolOp .And (b::rest) pos) tB'):PW X (.BoolOp .And (a::b::rest) pos) (tAnd tA tB'):=by
 intro wh pins s σ H Q I h
 refine isTrue_and (thn (ha pins s σ H _ I h) λc s1 ⟨H1,I1,q1⟩=> ?_)
 cases c with
 |true=>exact hb wh pins s1 σ H1 Q I1 q1
 |false=>exact ⟨H1,I1,q1⟩
theorem pw_or (ha:PT X a tA) (hb:PW X (.BoolOp .Or (b::rest) pos) tB'):PW X (.BoolOp .Or (a::b::rest) pos) (tOr tA tB'):=by
 intro wh pins s σ H Q I h
 refine isTrue_or (thn (ha pins s σ H _ I h) λc s1 ⟨H1,I1,q1⟩=> ?_)
 cases c with
 |true=>exact ⟨H1,I1,q1⟩
 |false=>exact hb wh pins s1 σ H1 Q I1 q1
theorem pt_not (ha:PT X a tA):PT X (.UnaryOp .Not a pos) (tNot tA):=by
 intro pins s σ H Q I h
 exact isTrue_not (ha pins s σ H (λc H1=>Q (!c) H1) I h)
def tAndV (ta tb:TE):TE:=λσ H Q=>ta σ H λx H1=> ∃c,x= .bl c/\if c=true then tb σ H1 Q else Q (.bl false) H1
def tOrV (ta tb:TE):TE:=λσ H Q=>ta σ H λx H1=> ∃c,x= .bl c/\if c=true then Q (.bl true) H1 else tb σ H1 Q
def tNotV (ta:TE):TE:=λσ H Q=>ta σ H λx H1=> ∃c,x= .bl c/\Q (.bl (!c)) H1
theorem pe_one {op} {t:TE} (h:PE X a t):PE X (.BoolOp op [a] pos) t:=λpins s σ H Q I hw=>BoolOp_one (h pins s σ H Q I hw)
theorem pe_and (ha:PE X a ta) (hb:PE X (.BoolOp .And (b::rest) pos) tb):PE X (.BoolOp .And (a::b::rest) pos) (tAndV ta tb):=by
 intro pins s σ H Q I h
 refine BoolOp_and (thn (ha pins s σ H _ I h) λv s1 ⟨x,H1,I1,r1,q1⟩=> ?_)
 obtain ⟨c,rfl,q1⟩:=q1
 cases r1
 refine wpAny_truthy_bool ?_
 cases c with
 |true=>exact hb pins s1 σ H1 Q I1 q1
 |false=>exact ⟨.bl false,H1,I1,rfl,q1⟩
theorem pe_or (ha:PE X a ta) (hb:PE X (.BoolOp .Or (b::rest) pos) tb):PE X (.BoolOp .Or (a::b::rest) pos) (tOrV ta tb):=by
 intro pins s σ H Q I h
 refine BoolOp_or (thn (ha pins s σ H _ I h) λv s1 ⟨x,H1,I1,r1,q1⟩=> ?_)
 obtain ⟨c,rfl,q1⟩:=q1
 cases r1
 refine wpAny_truthy_bool ?_
 cases c with
 |false=>exact hb pins s1 σ H1 Q I1 q1
 |true=>exact ⟨.bl true,H1,I1,rfl,q1⟩
theorem pe_not (ha:PE X a ta):PE X (.UnaryOp .Not a pos) (tNotV ta):=by
 intro pins s σ H Q I h
 refine UnaryOp_ (thn (ha pins s σ H _ I h) λv s1 ⟨x,H1,I1,r1,q1⟩=> ?_)
 obtain ⟨c,rfl,q1⟩:=q1
 cases r1
 exact not_of (wpAny_truthy_bool ⟨.bl (!c),H1,I1,rfl,q1⟩)
def tIf (t:TT) (ta tb:TE):TE:=λσ H Q=>t σ H λc H1=>if c=true then ta σ H1 Q else tb σ H1 Q
theorem pe_ifExp {c:Expr} (hc:PT X c tA) (ha:PE X a ta) (hb:PE X b tb):PE X (.IfExp c a b pos) (tIf tA ta tb):=by
 intro pins s σ H Q I h
 refine wpAny_IfExp (thn (hc pins s σ H _ I h) λd s1 ⟨H1,I1,q1⟩=> ?_)
 cases d with
 |true=>exact ha pins s1 σ H1 Q I1 q1
 |false=>exact hb pins s1 σ H1 Q I1 q1
end
def SqL (K:Frag) (H:Hp) (a:Addr) (xs:List V):Prop:=
 Rd H a (.lst xs)\/
  ∃(o:Obj) (its:Array Value) (n:Nat),K.lookup a=some o/\o.cls= .type "list" /\o.dict=none/\o.data= .seq its n/\its.size<=sizeLine/\Vals xs its.toList
def SqT (K:Frag) (H:Hp) (a:Addr) (xs:List V):Prop:=
 Rd H a (.tup xs)\/
  ∃(o:Obj) (its:Array Value) (n:Nat),K.lookup a=some o/\o.cls= .type "tuple" /\o.data= .seq its n/\its.size<=sizeLine/\Vals xs its.toList
def absV:Value->Option V
 | .none=>some .non
 | .bool b=>some (.bl b)
 | .int i _=>some (.int i)
 | .str x _=>some (.str x)
 | .bytes b _=>some (.byt b)
 | .float b _=>some (.flt b)
 | .ref a=>some (.ref a)
 | .type n=>some (.ty n)
 |_=>none
theorem RelV.abs {x:V} {u:Value} (r:RelV x u):absV u=some x:=by
 cases x with
 |non=>cases r;rfl
 |bl _=>cases r;rfl
 |int _=>obtain ⟨t,rfl⟩:=r;rfl
 |str _=>obtain ⟨t,rfl⟩:=r;rfl
 |byt _=>obtain ⟨t,rfl⟩:=r;rfl
 |flt _=>obtain ⟨t,rfl⟩:=r;rfl
 |ref _=>cases r;rfl
 |ty _=>cases r;rfl
theorem RelV.inj {x y:V} {u:Value} (r:RelV x u) (q:RelV y u):x=y:=Option.some.inj (r.abs.symm.trans q.abs)
theorem Vals.inj: ∀ {xs ys:List V} {us:List Value},Vals xs us->Vals ys us->xs=ys
 |_,_,_,.nil,.nil=>rfl
 |_,_,_,.cons r t,.cons r' t'=>by rw [r.inj r',Vals.inj t t']
section
variable {X:Cx} {pins:List (Addr×Obj)} {σ:St} {H:Hp} {s:Shared} {a:Addr} {xs ys:List V}
theorem SqL.of {K:Frag} (h:H a=some (.lst xs)):SqL K H a xs:= .inl (.inl h)
theorem SqT.of {K:Frag} (h:H a=some (.tup xs)):SqT K H a xs:= .inl (.inl h)
theorem Inv.list (I:Inv X pins σ H s) (h:SqL X.K H a xs): ∃its:List Value,Vals xs its/\PlainL s.heap a its.toArray/\xs.length<=sizeLine:=by
 rcases h with h|⟨o,its,n,hk,hc,hd,hs,hz,r⟩
 ·obtain ⟨z,its,n,r,e⟩:=h.ok I.hok
  exact ⟨its,r,⟨_,n,e,rfl,rfl,rfl⟩,z⟩
 ·refine ⟨its.toList,r,⟨o,n,I.kIn a o hk,hc,hd,by simpa using hs⟩,?_⟩
  have e:=r.length
  simp only [Array.length_toList] at e
  omega
theorem Inv.tuple (I:Inv X pins σ H s) (h:SqT X.K H a xs): ∃its:List Value,Vals xs its/\IsTup s.heap a its.toArray/\xs.length<=sizeLine:=by
 rcases h with h|⟨o,its,n,hk,hc,hs,hz,r⟩
 ·obtain ⟨z,its,r,p⟩:=h.ok I.hok
  exact ⟨its,r,p,z⟩
 ·refine ⟨its.toList,r,⟨o,I.kIn a o hk,hc,n,by simpa using hs⟩,?_⟩
  have e:=r.length
  simp only [Array.length_toList] at e
  omega
theorem Inv.list_inj (I:Inv X pins σ H s) (h:SqL X.K H a xs) (h':SqL X.K H a ys):xs=ys:=by
 obtain ⟨its,r,⟨o,n,e,_,_,d⟩,_⟩:=I.list h
 obtain ⟨its',r',⟨o',n',e',_,_,d'⟩,_⟩:=I.list h'
 rw [e] at e';cases e'
 rw [d] at d'
 injection d' with d1 _
 have:its=its':=by simpa using congrArg Array.toList d1
 subst this
 exact r.inj r'
theorem Inv.tuple_inj (I:Inv X pins σ H s) (h:SqT X.K H a xs) (h':SqT X.K H a ys):xs=ys:=by
 obtain ⟨its,r,⟨o,e,_,n,d⟩,_⟩:=I.tuple h
 obtain ⟨its',r',⟨o',e',_,n',d'⟩,_⟩:=I.tuple h'
 rw [e] at e';cases e'
 rw [d] at d'
 injection d' with d1 _
 have:its=its':=by simpa using congrArg Array.toList d1
 subst this
 exact r.inj r'
end
abbrev Cx.wish (X:Cx) (E:Value->Shared->Prop):Cx:= {X with xe:=E}
abbrev Cx.nox (X:Cx):Cx:=X.wish λ_ _=>False
theorem Cx.Ok.wish {X:Cx} (ok:X.Ok) (E:Value->Shared->Prop):(X.wish E).Ok:=
 ⟨ok.mod,ok.kind,ok.glob,ok.blt,ok.above,ok.inj,ok.has,ok.cab,ok.hd,ok.frames,ok.stk,ok.exf,ok.bs,ok.bsz,ok.noex,ok.exfs,ok.funs,ok.frf⟩
theorem Cx.Ok.unwish {X:Cx} {E:Value->Shared->Prop} (ok:(X.wish E).Ok):X.Ok:=
 ⟨ok.mod,ok.kind,ok.glob,ok.blt,ok.above,ok.inj,ok.has,ok.cab,ok.hd,ok.frames,ok.stk,ok.exf,ok.bs,ok.bsz,ok.noex,ok.exfs,ok.funs,ok.frf⟩
section
variable {X:Cx} {pins:List (Addr×Obj)} {σ:St} {H:Hp} {s:Shared} {E:Value->Shared->Prop}
theorem Inv.wish (I:Inv X pins σ H s) (E:Value->Shared->Prop):Inv (X.wish E) pins σ H s:=⟨I.ok.wish E,I.os,I.bare,I.base,I.loc,I.cell,I.free,I.freeC,I.pin,I.hok,I.len⟩
theorem Inv.unwish (I:Inv (X.wish E) pins σ H s):Inv X pins σ H s:=⟨I.ok.unwish,I.os,I.bare,I.base,I.loc,I.cell,I.free,I.freeC,I.pin,I.hok,I.len⟩
theorem SP.unwish {D:Ends} {f:Flow} {s':Shared} (h:SP (X.wish E) pins D f s'):SP X pins D f s':=by
 cases f with
 |next=>obtain ⟨σ',H',I,q⟩:=h;exact ⟨σ',H',I.unwish,q⟩
 |brk=>obtain ⟨σ',H',I,q⟩:=h;exact ⟨σ',H',I.unwish,q⟩
 |cont=>obtain ⟨σ',H',I,q⟩:=h;exact ⟨σ',H',I.unwish,q⟩
 |ret u=>obtain ⟨v,σ',H',I,r,q⟩:=h;exact ⟨v,σ',H',I.unwish,r,q⟩
theorem PSs.nox {st:List Stmt} {t:TS} (h:PSs X.nox st t):PSs X st t:=λpins s σ H D I hw=>
 wpAny_mono (h pins s σ H D (I.wish _) hw) (λ_ _ q=>q.unwish) λ_ _ z=>False.elim z
end
section
variable {X:Cx} {st:Stmt} {rest:List Stmt} {t u:TS} {e:Expr} {te:TE} {pos:Pos}
def tNext:TS:=λD σ H=>D.nx σ H
def tSeq (t u:TS):TS:=λD σ H=>t {D with nx:=u D} σ H
theorem pss_nil:PSs X [] tNext:=λ_ _ σ H _ I h=>wpAny_execs_nil ⟨σ,H,I,h⟩
theorem pss_cons (h1:PS X st t) (h2:PSs X rest u):PSs X (st::rest) (tSeq t u):=by
 intro pins s σ H D I h
 refine wpAny_execs_cons (thn (h1 pins s σ H {D with nx:=u D} I h) λf s1 q=> ?_)
 cases f with
 |next=>
  obtain ⟨σ',H',I',q⟩:=q
  exact h2 pins s1 σ' H' D I' q
 |ret v=>exact q
 |brk=>exact q
 |cont=>exact q
theorem pss_one (h1:PS X st t):PSs X [st] t:=by
 intro pins s σ H D I h
 refine wpAny_execs_cons (thn (h1 pins s σ H D I h) λf s1 q=> ?_)
 cases f with
 |next=>exact wpAny_execs_nil q
 |ret v=>exact q
 |brk=>exact q
 |cont=>exact q
theorem Inv.quiet {pins:List (Addr×Obj)} {σ:St} {H:Hp} {s:Shared} (I:Inv X pins σ H s):interactive X.env=false:=by simp [interactive,I.ok.kind]
def tDrop (te:TE):TS:=λD σ H=>te σ H λ_ H1=>D.nx σ H1
theorem ps_expr (he:PE X e te) (hs:swapsWith e none pos.line X.env=pure false:=by rfl):PS X (.Expr e pos) (tDrop te):=by
 intro pins s σ H D I h
 exact wpAny_Expr_any (thn (he pins s σ H _ I h) λv s1 ⟨x,H1,I1,r1,q1⟩=>⟨σ,H1,I1,q1⟩) I.quiet hs
def tRet (te:TE):TS:=λD σ H=>te σ H D.rt
theorem ps_ret (he:PE X e te):PS X (.Return (some e) pos) (tRet te):=by
 intro pins s σ H D I h
 exact wpAny_Return_some (thn (he pins s σ H _ I h) λv s1 ⟨x,H1,I1,r1,q1⟩=>⟨x,σ,H1,I1,r1,q1⟩)
def tIfS (c:TT) (t u:TS):TS:=λD σ H=>c σ H λb H1=>if b=true then t D σ H1 else u D σ H1
theorem ps_if {c:Expr} {a b:List Stmt} {tc:TT} (hc:PT X c tc) (ha:PSs X a t) (hb:PSs X b u):PS X (.If c a b pos) (tIfS tc t u):=by
 intro pins s σ H D I h
 refine wpAny_If (thn (hc pins s σ H _ I h) λd s1 ⟨H1,I1,q1⟩=> ?_)
 cases d with
 |true=>exact ha pins s1 σ H1 D I1 q1
 |false=>exact hb pins s1 σ H1 D I1 q1
end
abbrev TG:=V->St->Hp->(St->Hp->Prop)->Prop
abbrev TGs:=List V->St->Hp->(St->Hp->Prop)->Prop
def PG (X:Cx) (target:Expr) (t:TG):Prop:=
 ∀(pins:List (Addr×Obj)) (s:Shared) (σ:St) (H:Hp) (v:V) (u:Value) (Q:St->Hp->Prop),Inv X pins σ H s->RelV v u->t v σ H Q->
  wpAny (model X.prog X.w) X.A (assign target X.env u) (λ_ s'=> ∃σ' H',Inv X pins σ' H' s'/\Q σ' H') X.xe s
def PGs (X:Cx) (ts:List Expr) (t:TGs):Prop:=
 ∀(pins:List (Addr×Obj)) (s:Shared) (σ:St) (H:Hp) (vs:List V) (us:List Value) (Q:St->Hp->Prop),Inv X pins σ H s->Vals vs us->t vs σ H Q->
  wpAny (model X.prog X.w) X.A (assignInOrder ((assignEach ts X.env).map (·.2)) us) (λ_ s'=> ∃σ' H',Inv X pins σ' H' s'/\Q σ' H') X.xe s
abbrev TSet:=V->V->V->Hp->(Hp->Prop)->Prop
def PSet (X:Cx) (t:TSet):Prop:=
 ∀(pins:List (Addr×Obj)) (s:Shared) (σ:St) (H:Hp) (o i v:V) (ov iv u:Value) (Q:Hp->Prop),Inv X pins σ H s->RelV o ov->RelV i iv->RelV v u->t o i v H Q->
  wpAny (model X.prog X.w) X.A (setItem ov iv u) (λ_ s'=> ∃H',Inv X pins σ H' s'/\Q H') X.xe s
section
variable {X:Cx} {pos:Pos}
def gName (i:Nat):TG:=λv σ H Q=>Q (σ.set i (some v)) H
theorem pg_name {i:Nat} {x:Str} (hN:X.N.Nodup) (hi:X.N[i]? =some x) (hx:Loc X.env.scope x) (hf:X.fn x=true\/X.env.scope.names.lookup x=some .local:=by first|exact .inl rfl|exact .inr rfl|assumption):PG X (.Name x pos) (gName i):=by
 intro pins s σ H v u Q I r h
 exact wpAny_assign_Name (store_ok I hN hi hx r (λs' I'=>⟨_,H,I',h⟩) hf)
def gNil:TGs:=λvs σ H Q=>vs= []/\Q σ H
def gCons (t:TG) (u:TGs):TGs:=λvs σ H Q=> ∃v r,vs=v::r/\t v σ H λσ' H'=>u r σ' H' Q
theorem pgs_nil:PGs X [] gNil:=by
 intro pins s σ H vs us Q I r h
 obtain ⟨e,h⟩:=h
 subst e
 cases r
 exact assignInOrder_nil ⟨σ,H,I,h⟩
theorem pgs_cons {e:Expr} {es:List Expr} {t:TG} {u:TGs} (h1:PG X e t) (h2:PGs X es u)
  (hs:(assignEach (e::es) X.env).map (·.2)=assign e X.env::(assignEach es X.env).map (·.2):=by rfl):PGs X (e::es) (gCons t u):=by
 intro pins s σ H vs us Q I r h
 obtain ⟨v,vr,e1,h⟩:=h
 subst e1
 cases r with
 |cons r rr=>
  rw [hs]
  refine assignInOrder_cons (thn (h1 pins s σ H _ _ _ I r h) λ_ s1 ⟨σ1,H1,I1,q1⟩=> ?_)
  exact h2 pins s1 σ1 H1 _ _ Q I1 rr q1
def gTup (K:Frag) (n:Nat) (t:TGs):TG:=λv σ H Q=> ∃a xs,v= .ref a/\SqT K H a xs/\xs.length=n/\t xs σ H Q
theorem pg_tup {es:List Expr} {k:Nat} {t:TGs} {n:Nat} (hc:X.calm=true) (h:PGs X es t)
  (hn:(assignEach es X.env).length=n:=by rfl) (hst:(assignEach es X.env).findIdx? (·.1)=none:=by rfl):PG X (.Tuple es k pos) (gTup X.K n t):=by
 intro pins s σ H v u Q I r hw
 obtain ⟨a,xs,e1,hq,hl,hw⟩:=hw
 subst e1
 cases r
 obtain ⟨its,rv,ht,hz⟩:=I.tuple hq
 refine assign_Tuple_tuple (I.ok.hd hc) ht (by simp [hn, <-hl,rv.length]) hst λh' hx=> ?_
 have I1:Inv X pins σ H {s with heap:=h'}:=I.kept (t':=s.toks) λb o e=>hx b o (Nat.ne_of_lt (Heap.lt_size e)) e
 exact h pins _ σ H xs _ Q I1 (by simpa using rv) hw
def gSub (to ti:TE) (t:TSet):TG:=λv σ H Q=>to σ H λo H1=>ti σ H1 λi H2=>t o i v H2 λH3=>Q σ H3
theorem pg_sub {o i:Expr} {to ti:TE} {t:TSet} (ho:PE X o to) (hi:PE X i ti) (hs:PSet X t)
  (ha: ∀v,assign (.Subscript o i pos) X.env v=(do
   let ov <-holding [v] (eval o X.env)
   let iv <-holding [v,ov] (eval i X.env)
   standAt pos
   holding [v,ov,iv] (setItem ov iv v)
   release [v,ov,iv] []):=by intro _;rfl):PG X (.Subscript o i pos) (gSub to ti t):=by
 intro pins s σ H v u Q I r h
 rw [ha]
 refine wpAny_bind (wpAny_holding (thn (ho pins s σ H _ I h) λov s1 ⟨x,H1,I1,r1,q1⟩=> ?_))
 refine wpAny_bind (wpAny_holding (thn (hi pins s1 σ H1 _ I1 q1) λiv s2 ⟨y,H2,I2,r2,q2⟩=> ?_))
 refine wpAny_bind (wpAny_standAt (wpAny_bind (wpAny_holding (thn (hs pins s2 σ H2 x y v ov iv u _ I2 r1 r2 r q2) λ_ s3 ⟨H3,I3,q3⟩=> ?_))))
 exact wpAny_release ⟨σ,H3,I3,q3⟩
def tAsg (te:TE) (g:TG):TS:=λD σ H=>te σ H λx H1=>g x σ H1 D.nx
theorem ps_asg {tg e:Expr} {te:TE} {g:TG} (he:PE X e te) (hg:PG X tg g) (hs:swapsWithSole [tg] e pos.line X.env=pure false:=by rfl) (hw:swappedStores [tg] e X.env=pure none:=by rfl)
  (h1:(assignEach [tg] X.env).map (·.2)= [assign tg X.env]:=by rfl):PS X (.Assign [tg] e pos) (tAsg te g):=by
 intro pins s σ H D I h
 refine wpAny_Assign_stores (thn (he pins s σ H _ I h) λv s1 ⟨x,H1,I1,r1,q1⟩=> ?_) hs hw
 rw [h1]
 exact thn (hg pins s1 σ H1 x v _ I1 r1 q1) λ_ s2 q=>q
theorem ps_set {i:Nat} {x:Str} {e:Expr} {te:TE} {pos':Pos} (hN:X.N.Nodup) (hi:X.N[i]? =some x) (hx:Loc X.env.scope x) (he:PE X e te) (hs:swapsWith e (some (.Name x pos')) pos.line X.env=pure false:=by rfl) (hf:X.fn x=true\/X.env.scope.names.lookup x=some .local:=by first|exact .inl rfl|exact .inr rfl|assumption):
  PS X (.Assign [.Name x pos'] e pos) (tAsg te (gName i)):=by
 intro pins s σ H D I h
 refine wpAny_Assign_Name (thn (he pins s σ H _ I h) λv s1 ⟨y,H1,I1,r1,q1⟩=> ?_) hs
 exact store_ok I1 hN hi hx r1 (λs2 I2=>⟨_,H1,I2,q1⟩) hf
end
structure It where
 go:Nat->Hp->Prop
 yld:Nat->Hp->V->Hp->Prop
 stop:Nat->Hp->Prop
def FpOk (X:Cx) (pins:List (Addr×Obj)) (H:Hp) (b:Addr):Prop:=
 H b=none/\b≠X.env.locals/\b∉X.fs/\(b∈X.ex\/X.s₀.heap.objs.size<=b)/\(∀x c,X.env.cells.lookup x=some c->c≠b)/\ ∀p∈X.pn++pins,p.1≠b
theorem Inv.fpOk {X:Cx} {pins:List (Addr×Obj)} {σ:St} {H H':Hp} {s:Shared} {b:Addr} (I:Inv X pins σ H s) (hb:s.heap.objs.size<=b) (hn:H' b=none):FpOk X pins H' b:=by
 refine ⟨hn,Nat.ne_of_gt (Nat.lt_of_lt_of_le I.lt hb),I.nofs hb,.inr (Nat.le_trans I.sz hb),λx c e z=> ?_,λp hp z=> ?_⟩
 ·obtain ⟨v,q⟩:=I.cell x c e
  exact absurd (Nat.lt_of_lt_of_le q.lt (by rw [z];exact hb)) (Nat.lt_irrefl _)
 ·exact absurd (Nat.lt_of_lt_of_le (Heap.lt_size (I.pin p hp).1) (by rw [z];exact hb)) (Nat.lt_irrefl _)
structure Turn (P:Program) (w:World) (K:Frag) (tg:Expr) (J:It) (fp:List Addr) (it:Addr) (tn:Nat->Heap->Prop):Prop where
 mem:it∈fp
 obj: ∀i h,tn i h-> ∀b∈fp,∃o,h.get? b=some o/\ ∀v,o.data≠ .cell v
 keep: ∀i h h',tn i h->(∀b∈fp,∀o,h.get? b=some o->h'.get? b=some o)->tn i h'
 item: ∀(X:Cx),X.prog=P->X.w=w->X.K=K->X.calm=true-> ∀(i:Nat) (pins:List (Addr×Obj)) (s:Shared) (σ:St) (H:Hp) (E:Value->Shared->Prop),Inv X pins σ H s->(∀b∈fp,FpOk X pins H b)->tn i s.heap->J.go i H->
  wpAny (model P w) X.A (pyNext (.ref it)) (λr s1=> ∃u,r=some u/\
   wpAny (model P w) X.A (letOwnedTupleGo tg (.ref it) u) (λ_ s2=> ∃x H',Inv X pins σ H' s2/\RelV x u/\J.yld i H x H'/\tn (i+1) s2.heap/\ ∀b∈fp,H' b=none) E s1) E s
 done: ∀(X:Cx),X.prog=P->X.w=w->X.K=K->X.calm=true-> ∀(i:Nat) (pins:List (Addr×Obj)) (s:Shared) (σ:St) (H:Hp) (E:Value->Shared->Prop),Inv X pins σ H s->(∀b∈fp,FpOk X pins H b)->tn i s.heap->J.stop i H->
  wpAny (model P w) X.A (pyNext (.ref it)) (λr s1=>r=none/\Inv X pins σ H s1) E s
 self: ∀(A:Around) (i:Nat) (s:Shared) (Q:Value->Shared->Prop) (E:Value->Shared->Prop),tn i s.heap->Q (.ref it) s->wpAny (model P w) A (pyIter (.ref it)) Q E s
abbrev TI:=St->Hp->(It->Hp->Prop)->Prop
def PIE (X:Cx) (pins:List (Addr×Obj)) (σ:St) (tg:Expr) (R:It->Hp->Prop) (itv:Value) (s2:Shared):Prop:=
 ∃(it:Addr) (fp:List Addr) (tn:Nat->Heap->Prop) (J:It) (H':Hp),itv= .ref it/\Inv X pins σ H' s2/\Turn X.prog X.w X.K tg J fp it tn/\tn 0 s2.heap/\(∀b∈fp,FpOk X pins H' b)/\R J H'
def PI (X:Cx) (tg iter:Expr) (wi:TI):Prop:=
 ∀(pins:List (Addr×Obj)) (s:Shared) (σ:St) (H:Hp) (R:It->Hp->Prop),Inv X pins σ H s->wi σ H R->
  wpAny (model X.prog X.w) X.A (eval iter X.env) (λv s1=>wpAny (model X.prog X.w) X.A (pyIter v) (PIE X pins σ tg R) X.xe s1) X.xe s
theorem go_of {M:Model} {A:Around} {E:Value->Shared->Prop} {s:Shared} {tg:Expr} {it:Addr} {u:Value} {o:Obj} {n:String} {vs:Array Value} {Q:Unit->Shared->Prop} (ho:s.heap.get? it=some o) (hc:o.cls= .type n) (hd:o.data= .fields vs)
  (hn: ["enumerate","zip","dict_itemiterator","dict_reverseitemiterator","odict_iterator","itertools.zip_longest","itertools.pairwise"].contains n=false) (hQ:Q () s):wpAny M A (letOwnedTupleGo tg (.ref it) u) Q E s:=by
 unfold letOwnedTupleGo
 cases tg<;>first
  |exact wpAny_pure hQ
  |(cases u<;>first
    |exact wpAny_pure hQ
    |(refine wpAny_bind (wpAny_load ho ?_)
      rw [hc,hd]
      show wpAny M A (if (["enumerate","zip","dict_itemiterator","dict_reverseitemiterator","odict_iterator","itertools.zip_longest","itertools.pairwise"].contains n && vs[0]? ==some (rawInt _))=true then _ else _) Q E s
      rw [if_neg (by intro h;rw [hn,Bool.false_and] at h;cases h)]
      exact wpAny_pure hQ))
def Itl (K:Frag) (a:Addr):It:=
 ⟨λi H=> ∃xs x,SqL K H a xs/\xs[i]? =some x,λi H x H'=>H'=H/\ ∀xs,SqL K H a xs->xs[i]? =some x,λi H=> ∃xs,SqL K H a xs/\xs.length<=i⟩
def Itt (K:Frag) (a:Addr):It:=
 ⟨λi H=> ∃xs x,SqT K H a xs/\xs[i]? =some x,λi H x H'=>H'=H/\ ∀xs,SqT K H a xs->xs[i]? =some x,λi H=> ∃xs,SqT K H a xs/\xs.length<=i⟩
def Itr (lo:Int) (n:Nat):It:=⟨λi _=>i<n,λi H x H'=>H'=H/\x= .int (lo+i),λi _=>n<=i⟩
theorem turn_list {P:Program} {w:World} {K:Frag} {tg:Expr} (a it:Addr):Turn P w K tg (Itl K a) [it] it (λi h=>h.IsListIter it a i) where
 mem:=by simp
 obj:=λi h st b hb=>by
  have e:b=it:=by simpa using hb
  subst e
  obtain ⟨o,e,c,d⟩:=st
  exact ⟨o,e,λv z=>by rw [d] at z;cases z⟩
 keep:=λi h h' st k=>st.at λo e=>k it (by simp) o e
 item:=by
  intro X hP hw hK hc i pins s σ H E I hf st hg
  subst hP hw hK
  obtain ⟨xs,x,hq,hx⟩:=hg
  obtain ⟨its,rv,p,hz⟩:=I.list hq
  obtain ⟨u,hu,ru⟩:=rv.get hx
  obtain ⟨f0,f1,f2,f3,f4,f5⟩:=hf it (by simp)
  refine wpAny_pyNext_list_item st p.isList (x:=u) (by simpa using hu) λh' st' sb=> ?_
  have I1:Inv X pins σ H {s with heap:=h'}:=I.turned (t':=s.toks) (λb o hb e=>(sb.2 b hb).trans e) f0 f1 f3 f4 f5
  obtain ⟨o,e,c,d⟩:=id st'
  exact ⟨u,rfl,go_of (s:= {s with heap:=h'}) e c d (by decide) ⟨x,H,I1,ru,⟨rfl,λys hy=>by rw [I.list_inj hy hq];exact hx⟩,st',λb hb=>(hf b hb).1⟩⟩
 done:=by
  intro X hP hw hK hc i pins s σ H E I hf st hg
  subst hP hw hK
  obtain ⟨xs,hq,hx⟩:=hg
  obtain ⟨its,rv,p,hz⟩:=I.list hq
  obtain ⟨f0,f1,f2,f3,f4,f5⟩:=hf it (by simp)
  have hl:=rv.length
  exact wpAny_pyNext_list_end (I.ok.hd hc) st p.isList (by simp;omega) λh' eb=>⟨rfl,I.turned (t':=s.toks) (λb o hb e=>eb b o hb e) f0 f1 f3 f4 f5⟩
 self:=λ_ _ _ _ _ st h=>wpAny_pyIter_listiter st h
theorem turn_tuple {P:Program} {w:World} {K:Frag} {tg:Expr} (a it:Addr):Turn P w K tg (Itt K a) [it] it (λi h=>h.IsTupleIter it a i) where
 mem:=by simp
 obj:=λi h st b hb=>by
  have e:b=it:=by simpa using hb
  subst e
  obtain ⟨o,e,c,d⟩:=st
  exact ⟨o,e,λv z=>by rw [d] at z;cases z⟩
 keep:=λi h h' st k=>st.at λo e=>k it (by simp) o e
 item:=by
  intro X hP hw hK hc i pins s σ H E I hf st hg
  subst hP hw hK
  obtain ⟨xs,x,hq,hx⟩:=hg
  obtain ⟨its,rv,p,hz⟩:=I.tuple hq
  obtain ⟨u,hu,ru⟩:=rv.get hx
  obtain ⟨f0,f1,f2,f3,f4,f5⟩:=hf it (by simp)
  refine wpAny_pyNext_tuple_item st (show s.heap.IsTuple a its.toArray from p) (x:=u) (by simpa using hu) λh' st' sb=> ?_
  have I1:Inv X pins σ H {s with heap:=h'}:=I.turned (t':=s.toks) (λb o hb e=>(sb.2 b hb).trans e) f0 f1 f3 f4 f5
  obtain ⟨o,e,c,d⟩:=id st'
  exact ⟨u,rfl,go_of (s:= {s with heap:=h'}) e c d (by decide) ⟨x,H,I1,ru,⟨rfl,λys hy=>by rw [I.tuple_inj hy hq];exact hx⟩,st',λb hb=>(hf b hb).1⟩⟩
 done:=by
  intro X hP hw hK hc i pins s σ H E I hf st hg
  subst hP hw hK
  obtain ⟨xs,hq,hx⟩:=hg
  obtain ⟨its,rv,p,hz⟩:=I.tuple hq
  obtain ⟨f0,f1,f2,f3,f4,f5⟩:=hf it (by simp)
  have hl:=rv.length
  exact wpAny_pyNext_tuple_end (I.ok.hd hc) st (show s.heap.IsTuple a its.toArray from p) (by simp;omega) λh' eb=>⟨rfl,I.turned (t':=s.toks) (λb o hb e=>eb b o hb e) f0 f1 f3 f4 f5⟩
 self:=λ_ _ _ _ _ st h=>wpAny_pyIter_tupleiter st h
theorem turn_range {P:Program} {w:World} {K:Frag} {tg:Expr} (it:Addr) (lo:Int) (n:Nat):Turn P w K tg (Itr lo n) [it] it (λi h=>IsRangeIter h it (lo+(i:Nat)*1) ((n:Int) - (i:Nat)) 1) where
 mem:=by simp
 obj:=λi h st b hb=>by
  have e:b=it:=by simpa using hb
  subst e
  exact ⟨_,st,λv z=>by
   have z':Data.fields _=Data.cell v:=z
   cases z'⟩
 keep:=λi h h' st k=>k it (by simp) _ st
 item:=by
  intro X hP hw hK hc i pins s σ H E I hf st hg
  subst hP hw hK
  obtain ⟨f0,f1,f2,f3,f4,f5⟩:=hf it (by simp)
  have W:=Walks.range (prog:=X.prog) (w:=X.w) (I.ok.hd hc) it lo 1 n
  refine W.item i s _ _ hg st λv h' tk hv st' kk=> ?_
  obtain ⟨t,rfl⟩:=hv
  have I1:Inv X pins σ H {s with heap:=h',toks:=tk}:=I.turned (λb o hb e=>kk b o (by simpa using hb) e) f0 f1 f3 f4 f5
  refine ⟨_,rfl,go_of (s:= {s with heap:=h',toks:=tk}) (n:= "range_iterator") st' rfl rfl (by decide) ⟨.int (lo+i),H,I1,⟨t,?_⟩,⟨rfl,rfl⟩,st',λb hb=>(hf b hb).1⟩⟩
  rw [Int.mul_one]
 done:=by
  intro X hP hw hK hc i pins s σ H E I hf st hg
  subst hP hw hK
  obtain ⟨f0,f1,f2,f3,f4,f5⟩:=hf it (by simp)
  exact wpAny_pyNext_range_end (I.ok.hd hc) st (by have:n<=i:=hg;omega) λh' eb=>⟨rfl,I.turned (t':=s.toks) (λb o hb e=>eb b o hb e) f0 f1 f3 f4 f5⟩
 self:=λ_ _ _ _ _ st h=>wpAny_pyIter_rangeiter st h
section
variable {X:Cx} {tg:Expr}
def iList (K:Frag) (tl:TE):TI:=λσ H R=>tl σ H λx H1=> ∃a,x= .ref a/\(∃xs,SqL K H1 a xs)/\R (Itl K a) H1
def iTup (K:Frag) (tl:TE):TI:=λσ H R=>tl σ H λx H1=> ∃a,x= .ref a/\(∃xs,SqT K H1 a xs)/\R (Itt K a) H1
theorem pi_list {l:Expr} {tl:TE} (hl:PE X l tl):PI X tg l (iList X.K tl):=by
 intro pins s σ H R I h
 refine thn (hl pins s σ H _ I h) λv s1 ⟨x,H1,I1,r1,q1⟩=> ?_
 obtain ⟨a,e,⟨xs,hq⟩,q⟩:=q1
 subst e
 cases r1
 obtain ⟨its,rv,p,hz⟩:=I1.list hq
 refine wpAny_pyIter_list p.isList ?_
 refine ⟨s1.heap.objs.size,[s1.heap.objs.size],_,_,H1,rfl,I1.kept (t':=s1.toks) λb o e=>Heap.get?_push_of_some _ e,turn_list a _,⟨_,Heap.get?_push_size _ rfl,rfl,rfl⟩,λb hb=> ?_,q⟩
 have e:b=s1.heap.objs.size:=by simpa using hb
 subst e
 exact I1.fpOk (Nat.le_refl _) (I1.hok.fresh (Nat.le_refl _))
theorem pi_tup {l:Expr} {tl:TE} (hl:PE X l tl):PI X tg l (iTup X.K tl):=by
 intro pins s σ H R I h
 refine thn (hl pins s σ H _ I h) λv s1 ⟨x,H1,I1,r1,q1⟩=> ?_
 obtain ⟨a,e,⟨xs,hq⟩,q⟩:=q1
 subst e
 cases r1
 obtain ⟨its,rv,p,hz⟩:=I1.tuple hq
 refine wpAny_pyIter_tuple (show s1.heap.IsTuple a its.toArray from p) ?_
 refine ⟨s1.heap.objs.size,[s1.heap.objs.size],_,_,H1,rfl,I1.kept (t':=s1.toks) λb o e=>Heap.get?_push_of_some _ e,turn_tuple a _,⟨_,Heap.get?_push_size _ rfl,rfl,rfl⟩,λb hb=> ?_,q⟩
 have e:b=s1.heap.objs.size:=by simpa using hb
 subst e
 exact I1.fpOk (Nat.le_refl _) (I1.hok.fresh (Nat.le_refl _))
theorem range_it {pins:List (Addr×Obj)} {σ:St} {H:Hp} {s:Shared} {R:It->Hp->Prop} {E:Value->Shared->Prop} {lo hi:Int} {t u v:Tok} {tk:Nat} (I:Inv X pins σ H s) (h1: -(2^62)<=lo) (h2:lo<2^62) (h3: -(2^62)<=hi) (h4:hi<2^62)
  (q:R (Itr lo (hi - lo).toNat) H):wpAny (model X.prog X.w) X.A (pyIter (.ref s.heap.objs.size)) (PIE X pins σ tg R) E {s with heap:=s.heap.push {cls:= .type "range",data:= .fields #[.int lo t,.int hi u,.int 1 v]},toks:=tk}:=by
 refine wpAny_pyIter_range (IsRange.new ..) (small_one h1 h2 h3 h4) ?_
 have I1:Inv X pins σ H {s with heap:=s.heap.push {cls:= .type "range",data:= .fields #[.int lo t,.int hi u,.int 1 v]},toks:=tk}:=I.kept λb o e=>Heap.get?_push_of_some _ e
 refine ⟨(s.heap.push {cls:= .type "range",data:= .fields #[.int lo t,.int hi u,.int 1 v]}).objs.size,[(s.heap.push {cls:= .type "range",data:= .fields #[.int lo t,.int hi u,.int 1 v]}).objs.size],_,_,H,rfl,
  I1.kept (t':=tk) λb o e=>Heap.get?_push_of_some _ e,turn_range _ lo (hi - lo).toNat,?_,λb hb=> ?_,q⟩
 ·have e1:lo+((0:Nat):Int)*1=lo:=by simp
  have e2:(((hi - lo).toNat:Nat):Int) - ((0:Nat):Int)=Builtin.Range.rangeSize lo hi 1:=by rw [rangeSize_one];split<;>omega
  show IsRangeIter _ _ (lo+((0:Nat):Int)*1) ((((hi - lo).toNat:Nat):Int) - ((0:Nat):Int)) 1
  rw [e1,e2]
  exact Heap.get?_push_size _ rfl
 ·have e:b=(s.heap.push {cls:= .type "range",data:= .fields #[.int lo t,.int hi u,.int 1 v]}).objs.size:=by simpa using hb
  subst e
  exact I1.fpOk (Nat.le_refl _) (I1.hok.fresh (Nat.le_refl _))
def iRng1 (ta:TA):TI:=λσ H R=>ta σ H λvs H1=> ∃j:Int,vs= [.int j]/\ -(2^62)<=j/\j<2^62/\R (Itr 0 j.toNat) H1
theorem pi_range1 {a:Expr} {ta:TA} {p pos:Pos} (hg:Gl X "range") (hm:X.mg "range" =none) (ha:PA X [a] ta) (hs:starEach [a] X.env= [(false,eval a X.env)]:=by rfl):PI X tg (.Call (.Name "range" p) [a] [] pos) (iRng1 ta):=by
 intro pins s σ H R I h
 refine Call_ (ld_blt I hg hm boot_range (PyProof.Rows.callWith_type1 (thn (ha pos pins s σ H _ I h) λus s1 ⟨vs,H1,I1,r1,q1⟩=> ?_) hs rfl))
 obtain ⟨j,e,q1,q2,q⟩:=q1
 subst e
 cases r1 with
 |cons r rr=>
  cases rr
  obtain ⟨t,rfl⟩:=r
  exact call_range_1 (range_it I1 (by omega) (by omega) q1 q2 (by simpa using q))
def tFor (wi:TI) (g:TG) (tb:TS):TS:=λD σ H=>wi σ H λJ H1=> ∃W:Nat->Nat->St->Hp->Prop,(∃m,W 0 m σ H1)/\ ∀i m σ H,W i m σ H->
 (J.stop i H/\D.nx σ H)\/(J.go i H/\ ∃N:St->Hp->Prop,(∀σ' H',N σ' H'-> ∃m',m'<m/\W (i+1) m' σ' H')/\ ∀x H',J.yld i H x H'->g x σ H' λσ2 H2=>tb {D with nx:=N,ct:=N,bk:=D.nx} σ2 H2)
def pinsAt (fp:List Addr) (h:Heap):List (Addr×Obj):=fp.filterMap λb=>(h.get? b).map λo=>(b,o)
theorem mem_pinsAt {fp:List Addr} {h:Heap} {b:Addr} {o:Obj} (hb:b∈fp) (e:h.get? b=some o):(b,o)∈pinsAt fp h:=List.mem_filterMap.mpr ⟨b,hb,by rw [e];rfl⟩
theorem of_pinsAt {fp:List Addr} {h:Heap} {p:Addr×Obj} (hp:p∈pinsAt fp h):p.1∈fp/\h.get? p.1=some p.2:=by
 obtain ⟨b,hb,e⟩:=List.mem_filterMap.mp hp
 cases q:h.get? b with
 |none=>rw [q] at e;cases e
 |some o=>
  rw [q] at e
  have e':(b,o)=p:=Option.some.inj e
  subst e'
  exact ⟨hb,q⟩
theorem Inv.pinned {pins:List (Addr×Obj)} {σ:St} {H:Hp} {s:Shared} {fp:List Addr} (I:Inv X pins σ H s) (hf: ∀b∈fp,FpOk X pins H b) (ho: ∀b∈fp,∃o,s.heap.get? b=some o/\ ∀v,o.data≠ .cell v):Inv X (pins++pinsAt fp s.heap) σ H s:=
 I.pins_of λp hp=>(List.mem_append.mp hp).elim (λz=>I.pin p (List.mem_append_right _ z)) λz=>by
  obtain ⟨hb,e⟩:=of_pinsAt z
  obtain ⟨f0,f1,f2,_⟩:=hf p.1 hb
  obtain ⟨o,e',d⟩:=ho p.1 hb
  rw [e] at e';cases e'
  exact ⟨e,f0,f1,f2,d⟩
theorem Inv.unpinned {pins pl:List (Addr×Obj)} {σ:St} {H:Hp} {s:Shared} (I:Inv X (pins++pl) σ H s):Inv X pins σ H s:=I.pins_of λp hp=>I.pin p (List.mem_append_right _ (List.mem_append_left _ hp))
theorem ps_for {iter:Expr} {body:List Stmt} {wi:TI} {g:TG} {tb:TS} {pos:Pos} (hp:PassesOwn (model X.prog X.w) X.A X.env X.xe) (hc:X.calm=true) (hi:PI X tg iter wi) (hg:PG X tg g) (hb:PSs X body tb)
  (hs: ∀x,foldedSetIterable iter X.env x=pure x:=by intro _;rfl):PS X (.For tg iter body [] pos) (tFor wi g tb):=by
 intro pins s σ H D I h
 refine wpAny_For (thn (hi pins s σ H _ I h) λv s1 h1=>thn h1 λitv s2 h2=> ?_) hs
 obtain ⟨it,fp,tn,J,H2,e,I2,T,st2,f2,W,⟨m0,w0⟩,turn⟩:=h2
 subst e
 have stat: ∀ {H':Hp},(∀b∈fp,H' b=none)-> ∀b∈fp,FpOk X pins H' b:=λhn b hb=>⟨hn b hb,(f2 b hb).2⟩
 refine codeAny_forLoop_any (λn s'=> ∃i σ' H',Inv X pins σ' H' s'/\tn i s'.heap/\(∀b∈fp,H' b=none)/\W i n σ' H') ?_ m0 ⟨0,σ,H2,I2,st2,λb hb=>(f2 b hb).1,w0⟩
 rintro n s3 ⟨i,σ3,H3,I3,st3,fr3,w3⟩
 rcases turn i n σ3 H3 w3 with ⟨stop,qn⟩|⟨go,N,hN,step⟩
 ·refine wpAny_passesOwn hp (thn (T.done X rfl rfl rfl hc i pins s3 σ3 H3 X.xe I3 (stat fr3) st3 stop) λr s4 ⟨hr,I4⟩=> ?_)
  subst hr
  exact wpAny_execs_nil ⟨σ3,H3,I4,qn⟩
 ·refine wpAny_passesOwn hp (thn (T.item X rfl rfl rfl hc i pins s3 σ3 H3 X.xe I3 (stat fr3) st3 go) λr s4 ⟨u,hr,h4⟩=> ?_)
  subst hr
  refine wpAny_passesOwn hp (thn h4 λ_ s5 ⟨x,H5,I5,r5,y5,st5,fr5⟩=> ?_)
  have I5':=I5.pinned (stat fr5) (T.obj _ _ st5)
  refine wpAny_passesOwn hp (thn (hg _ s5 σ3 H5 x u _ I5' r5 (step x H5 y5)) λ_ s6 ⟨σ6,H6,I6,q6⟩=> ?_)
  refine wpAny_passesOwn hp (thn (hb _ s6 σ6 H6 _ I6 q6) λf s7 q7=> ?_)
  have again: ∀ {σ7:St} {H7:Hp},Inv X (pins++pinsAt fp s5.heap) σ7 H7 s7->N σ7 H7-> ∃m,m<n/\ ∃i σ' H',Inv X pins σ' H' s7/\tn i s7.heap/\(∀b∈fp,H' b=none)/\W i m σ' H':=λ{σ7 H7} I7 n7=>by
   obtain ⟨m',hm,w7⟩:=hN σ7 H7 n7
   refine ⟨m',hm,i+1,σ7,H7,I7.unpinned,T.keep _ _ _ st5 λb hb o e=>(I7.pin (b,o) (List.mem_append_right _ (List.mem_append_right _ (mem_pinsAt hb e)))).1,λb hb=> ?_,w7⟩
   obtain ⟨o,e,d⟩:=T.obj _ _ st5 b hb
   exact (I7.pin (b,o) (List.mem_append_right _ (List.mem_append_right _ (mem_pinsAt hb e)))).2.1
  cases f with
  |next=>obtain ⟨σ7,H7,I7,n7⟩:=q7;exact again I7 n7
  |cont=>obtain ⟨σ7,H7,I7,n7⟩:=q7;exact again I7 n7
  |brk=>obtain ⟨σ7,H7,I7,q7⟩:=q7;exact ⟨σ7,H7,I7.unpinned,q7⟩
  |ret v=>obtain ⟨x7,σ7,H7,I7,r7,q7⟩:=q7;exact ⟨x7,σ7,H7,I7.unpinned,r7,q7⟩
end
abbrev R2:=V->V->Hp->VK->Prop
def OpR (X:Cx) (f:Value->Value->Sem Value) (r:R2):Prop:=
 ∀(pins:List (Addr×Obj)) (s:Shared) (σ:St) (H:Hp) (x y:V) (v u:Value) (Q:VK),Inv X pins σ H s->RelV x v->RelV y u->r x y H Q->
  wpAny (model X.prog X.w) X.A (f v u) (EP X pins σ Q) X.xe s
def UnR (X:Cx) (f:Value->Sem Value) (r:V->Hp->VK->Prop):Prop:=
 ∀(pins:List (Addr×Obj)) (s:Shared) (σ:St) (H:Hp) (x:V) (v:Value) (Q:VK),Inv X pins σ H s->RelV x v->r x H Q->
  wpAny (model X.prog X.w) X.A (f v) (EP X pins σ Q) X.xe s
def CallR (X:Cx) (f:Value) (r:List V->Hp->VK->Prop):Prop:=
 ∀(pins:List (Addr×Obj)) (s:Shared) (σ:St) (H:Hp) (xs:List V) (us:List Value) (Q:VK),Inv X pins σ H s->Vals xs us->r xs H Q->
  wpAny (model X.prog X.w) X.A (call f us) (EP X pins σ Q) X.xe s
def tOp (r:R2) (ta tb:TE):TE:=λσ H Q=>ta σ H λx H1=>tb σ H1 λy H2=>r x y H2 Q
def tUn (r:V->Hp->VK->Prop) (ta:TE):TE:=λσ H Q=>ta σ H λx H1=>r x H1 Q
def rI (C:Int->Int->Prop) (g:Int->Int->V):R2:=λx y H Q=> ∃i j,x= .int i/\y= .int j/\C i j/\Q (g i j) H
def rI0 (g:Int->Int->V):R2:=λx y H Q=> ∃i j,x= .int i/\y= .int j/\Q (g i j) H
def rU (g:Int->V):V->Hp->VK->Prop:=λx H Q=> ∃i,x= .int i/\Q (g i) H
section
variable {X:Cx} {a b c:Expr} {ta tb tc:TE} {pos:Pos}
theorem binT (ha:PE X a ta) (hb:PE X b tb) {pins:List (Addr×Obj)} {s:Shared} {σ:St} {H:Hp} {R:V->V->Hp->Prop} (I:Inv X pins σ H s)
  (h:ta σ H λx H1=>tb σ H1 λy H2=>R x y H2) {Q:Value->Shared->Prop} {f:Value->Value->Sem Value}
  (hf: ∀v u s2 x y H2,Inv X pins σ H2 s2->RelV x v->RelV y u->R x y H2->wpAny (model X.prog X.w) X.A (f v u) Q X.xe s2):
  wpAny (model X.prog X.w) X.A (eval a X.env) (λv s₁=>wpAny (model X.prog X.w) X.A (eval b X.env) (λu s₂=>wpAny (model X.prog X.w) X.A (f v u) Q X.xe s₂) X.xe s₁) X.xe s:=by
 refine thn (ha pins s σ H _ I h) λv s1 ⟨x,H1,I1,r1,q1⟩=> ?_
 refine thn (hb pins s1 σ H1 _ I1 q1) λu s2 ⟨y,H2,I2,r2,q2⟩=> ?_
 exact hf v u s2 x y H2 I2 r1 r2 q2
theorem pe_op {op:Operator} {r:R2} (ho:OpR X (binaryOp op) r) (ha:PE X a ta) (hb:PE X b tb):PE X (.BinOp a op b pos) (tOp r ta tb):=by
 intro pins s σ H Q I h
 exact wpAny_BinOp (binT ha hb I h λv u s2 x y H2 I2 rx ry q=>ho pins s2 σ H2 x y v u Q I2 rx ry q)
theorem pe_un {op:UnaryOp} {r:V->Hp->VK->Prop} (ho:UnR X (unaryOp op) r) (ha:PE X a ta):PE X (.UnaryOp op a pos) (tUn r ta):=by
 intro pins s σ H Q I h
 exact UnaryOp_ (thn (ha pins s σ H _ I h) λv s1 ⟨x,H1,I1,r1,q1⟩=>ho pins s1 σ H1 x v Q I1 r1 q1)
theorem opI {f:Value->Value->Sem Value} {C:Int->Int->Prop} {g:Int->Int->Int}
  (rule: ∀(i j:Int) (t u:Tok) (s:Shared) (Q:Value->Shared->Prop) (E:Value->Shared->Prop),C i j->Q (.int (g i j) s.toks) {s with toks:=s.toks+1}->wpAny (model X.prog X.w) X.A (f (.int i t) (.int j u)) Q E s):
  OpR X f (rI C λi j=> .int (g i j)):=by
 intro pins s σ H x y v u Q I rx ry h
 obtain ⟨i,j,rfl,rfl,hc,q⟩:=h
 obtain ⟨t,rfl⟩:=rx
 obtain ⟨t',rfl⟩:=ry
 exact rule i j t t' s _ _ hc ⟨.int (g i j),H,I.tok _,⟨_,rfl⟩,q⟩
theorem opI0 {f:Value->Value->Sem Value} {g:Int->Int->Int}
  (rule: ∀(i j:Int) (t u:Tok) (s:Shared) (Q:Value->Shared->Prop) (E:Value->Shared->Prop),Q (.int (g i j) s.toks) {s with toks:=s.toks+1}->wpAny (model X.prog X.w) X.A (f (.int i t) (.int j u)) Q E s):
  OpR X f (rI0 λi j=> .int (g i j)):=by
 intro pins s σ H x y v u Q I rx ry h
 obtain ⟨i,j,rfl,rfl,q⟩:=h
 obtain ⟨t,rfl⟩:=rx
 obtain ⟨t',rfl⟩:=ry
 exact rule i j t t' s _ _ ⟨.int (g i j),H,I.tok _,⟨_,rfl⟩,q⟩
theorem opB0 {f:Value->Value->Sem Value} {g:Int->Int->Bool}
  (rule: ∀(i j:Int) (t u:Tok) (s:Shared) (Q:Value->Shared->Prop) (E:Value->Shared->Prop),Q (.bool (g i j)) s->wpAny (model X.prog X.w) X.A (f (.int i t) (.int j u)) Q E s):
  OpR X f (rI0 λi j=> .bl (g i j)):=by
 intro pins s σ H x y v u Q I rx ry h
 obtain ⟨i,j,rfl,rfl,q⟩:=h
 obtain ⟨t,rfl⟩:=rx
 obtain ⟨t',rfl⟩:=ry
 exact rule i j t t' s _ _ ⟨.bl (g i j),H,I,rfl,q⟩
def CPow (i j:Int):Prop:=0<=j/\j<=1000000/\i.natAbs<2^64
def CMul (i j:Int):Prop:=(-(2^64)<i/\i<2^64)\/(-(2^64)<j/\j<2^64)
theorem CMul.ok {i j:Int} (h:CMul i j):IntMulOk i j:=by
 rcases h with ⟨h1,h2⟩|⟨h1,h2⟩
 ·exact .of_left (intBits_le_64 h1 h2)
 ·exact .of_right (intBits_le_64 h1 h2)
theorem op_add:OpR X (binaryOp .Add) (rI0 λi j=> .int (i+j)):=opI0 λ_ _ _ _ _ _ _ q=>add_int q
theorem op_sub:OpR X (binaryOp .Sub) (rI0 λi j=> .int (i - j)):=opI0 λ_ _ _ _ _ _ _ q=>sub_int q
theorem op_mul:OpR X (binaryOp .Mult) (rI CMul λi j=> .int (i*j)):=opI λ_ _ _ _ _ _ _ hc q=>mul_int q hc.ok
theorem op_mod:OpR X (binaryOp .Mod) (rI (λ_ j=>0<j) λi j=> .int (i % j)):=opI λi j _ _ _ _ _ hc q=>by
 have h1:(0:Int)<j:=hc
 exact mod_int' (by omega) (by rw [Int.fmod_eq_emod_of_nonneg i (by omega)];exact q)
theorem iop_add:OpR X (inplaceOp .Add) (rI0 λi j=> .int (i+j)):=opI0 λ_ _ _ _ _ _ _ q=>iadd_int q
theorem unI {f:Value->Sem Value} {g:Int->Int}
  (rule: ∀(i:Int) (t:Tok) (s:Shared) (Q:Value->Shared->Prop) (E:Value->Shared->Prop),Q (.int (g i) s.toks) {s with toks:=s.toks+1}->wpAny (model X.prog X.w) X.A (f (.int i t)) Q E s):
  UnR X f (rU λi=> .int (g i)):=by
 intro pins s σ H x v Q I rx h
 obtain ⟨i,rfl,q⟩:=h
 obtain ⟨t,rfl⟩:=rx
 exact rule i t s _ _ ⟨.int (g i),H,I.tok _,⟨_,rfl⟩,q⟩
theorem un_neg:UnR X (unaryOp .USub) (rU λi=> .int (-i)):=unI λ_ _ _ _ _ q=>neg_int q
end
noncomputable def scal:V->V->Bool
 | .non,.non=>true| .non,.int _=>true| .int _,.non=>true| .non,.bl _=>true| .bl _,.non=>true| .non,.str _=>true| .str _,.non=>true
 | .int _,.int _=>true| .bl _,.bl _=>true| .str _,.str _=>true| .byt _,.byt _=>true
 | .int _,.str _=>true| .str _,.int _=>true| .bl _,.str _=>true| .str _,.bl _=>true
 |_,_=>false
def rEq:R2:=λx y H Q=>scal x y=true/\Q (.bl (decide (x=y))) H
def rNe:R2:=λx y H Q=>scal x y=true/\Q (.bl (!decide (x=y))) H
theorem dec_int {i j:Int}:decide (V.int i=V.int j)=(i==j):=by
 rw [Bool.eq_iff_iff]
 simp
theorem dec_bl {i j:Bool}:decide (V.bl i=V.bl j)=(i==j):=by
 rw [Bool.eq_iff_iff]
 simp
theorem dec_str {i j:Str}:decide (V.str i=V.str j)=(i==j):=by
 rw [Bool.eq_iff_iff]
 simp
theorem dec_byt {i j:Array UInt8}:decide (V.byt i=V.byt j)=(i.toList==j.toList):=by
 rw [Bool.eq_iff_iff]
 cases i
 cases j
 simp
section
variable {X:Cx} {a b c:Expr} {ta tb tc:TE} {pos:Pos}
theorem fin_bl {pins:List (Addr×Obj)} {σ:St} {H:Hp} {s:Shared} {Q:VK} {k k':Bool} (I:Inv X pins σ H s) (q:Q (.bl k) H) (e:k=k'):EP X pins σ Q (.bool k') s:=by
 subst e
 exact ⟨.bl k,H,I,rfl,q⟩
theorem op_eq:OpR X (compareOp .Eq) rEq:=by
 intro pins s σ H x y v u Q I rx ry h
 obtain ⟨hs,q⟩:=h
 cases x with
 |non=>
  cases rx
  cases y with
  |non=>cases ry;exact PySem.EqNone.eq_none_none (fin_bl I q (by simp))
  |bl j=>cases ry;exact PySem.EqNone.eq_none_bool (fin_bl I q (by simp))
  |int j=>obtain ⟨t',rfl⟩:=ry;exact PySem.EqNone.eq_none_int (fin_bl I q (by simp))
  |str j=>obtain ⟨t',rfl⟩:=ry;exact PySem.EqNone.eq_none_str (fin_bl I q (by simp))
  |_=>exact absurd (show false=true from hs) Bool.false_ne_true
 |bl i=>
  cases rx
  cases y with
  |non=>cases ry;exact PySem.EqNone.eq_bool_none (fin_bl I q (by simp))
  |bl j=>cases ry;exact eq_bool (fin_bl I q dec_bl)
  |str j=>obtain ⟨t',rfl⟩:=ry;exact PySem.EqMixed.eq_bool_str (fin_bl I q (by simp))
  |_=>exact absurd (show false=true from hs) Bool.false_ne_true
 |int i=>
  obtain ⟨t,rfl⟩:=rx
  cases y with
  |non=>cases ry;exact PySem.EqNone.eq_int_none (fin_bl I q (by simp))
  |int j=>obtain ⟨t',rfl⟩:=ry;exact eq_int (fin_bl I q dec_int)
  |str j=>obtain ⟨t',rfl⟩:=ry;exact PySem.EqMixed.eq_int_str (fin_bl I q (by simp))
  |_=>exact absurd (show false=true from hs) Bool.false_ne_true
 |str i=>
  obtain ⟨t,rfl⟩:=rx
  cases y with
  |non=>cases ry;exact PySem.EqNone.eq_str_none (fin_bl I q (by simp))
  |bl j=>cases ry;exact PySem.EqMixed.eq_str_bool (fin_bl I q (by simp))
  |int j=>obtain ⟨t',rfl⟩:=ry;exact PySem.EqMixed.eq_str_int (fin_bl I q (by simp))
  |str j=>obtain ⟨t',rfl⟩:=ry;exact eq_str (fin_bl I q dec_str)
  |_=>exact absurd (show false=true from hs) Bool.false_ne_true
 |byt i=>
  obtain ⟨t,rfl⟩:=rx
  cases y with
  |byt j=>obtain ⟨t',rfl⟩:=ry;exact PySem.W.eq_bytes (fin_bl I q dec_byt)
  |_=>exact absurd (show false=true from hs) Bool.false_ne_true
 |_=>cases y<;>exact absurd (show false=true from hs) Bool.false_ne_true
theorem op_ne:OpR X (compareOp .NotEq) rNe:=by
 intro pins s σ H x y v u Q I rx ry h
 obtain ⟨hs,q⟩:=h
 cases x with
 |non=>
  cases rx
  cases y with
  |non=>cases ry;exact PySem.EqNone.ne_none_none (fin_bl I q (by simp))
  |bl j=>cases ry;exact PySem.EqNone.ne_none_bool (fin_bl I q (by simp))
  |int j=>obtain ⟨t',rfl⟩:=ry;exact PySem.EqNone.ne_none_int (fin_bl I q (by simp))
  |str j=>obtain ⟨t',rfl⟩:=ry;exact PySem.EqNone.ne_none_str (fin_bl I q (by simp))
  |_=>exact absurd (show false=true from hs) Bool.false_ne_true
 |bl i=>
  cases rx
  cases y with
  |non=>cases ry;exact PySem.EqNone.ne_bool_none (fin_bl I q (by simp))
  |bl j=>cases ry;exact ne_bool (fin_bl I q (congrArg not dec_bl))
  |str j=>obtain ⟨t',rfl⟩:=ry;exact PySem.EqMixed.ne_bool_str (fin_bl I q (by simp))
  |_=>exact absurd (show false=true from hs) Bool.false_ne_true
 |int i=>
  obtain ⟨t,rfl⟩:=rx
  cases y with
  |non=>cases ry;exact PySem.EqNone.ne_int_none (fin_bl I q (by simp))
  |int j=>obtain ⟨t',rfl⟩:=ry;exact ne_int (fin_bl I q (congrArg not dec_int))
  |str j=>obtain ⟨t',rfl⟩:=ry;exact PySem.EqMixed.ne_int_str (fin_bl I q (by simp))
  |_=>exact absurd (show false=true from hs) Bool.false_ne_true
 |str i=>
  obtain ⟨t,rfl⟩:=rx
  cases y with
  |non=>cases ry;exact PySem.EqNone.ne_str_none (fin_bl I q (by simp))
  |bl j=>cases ry;exact PySem.EqMixed.ne_str_bool (fin_bl I q (by simp))
  |int j=>obtain ⟨t',rfl⟩:=ry;exact PySem.EqMixed.ne_str_int (fin_bl I q (by simp))
  |str j=>obtain ⟨t',rfl⟩:=ry;exact ne_str (fin_bl I q (congrArg not dec_str))
  |_=>exact absurd (show false=true from hs) Bool.false_ne_true
 |byt i=>
  obtain ⟨t,rfl⟩:=rx
  cases y with
  |byt j=>obtain ⟨t',rfl⟩:=ry;exact PySem.W.ne_bytes (fin_bl I q (congrArg not dec_byt))
  |_=>exact absurd (show false=true from hs) Bool.false_ne_true
 |_=>cases y<;>exact absurd (show false=true from hs) Bool.false_ne_true
theorem op_lt:OpR X (compareOp .Lt) (rI0 λi j=> .bl (decide (i<j))):=opB0 λ_ _ _ _ _ _ _ q=>lt_int q
theorem op_le:OpR X (compareOp .LtE) (rI0 λi j=> .bl (decide (i<=j))):=opB0 λ_ _ _ _ _ _ _ q=>le_int q
theorem op_gt:OpR X (compareOp .Gt) (rI0 λi j=> .bl (decide (j<i))):=opB0 λ_ _ _ _ _ _ _ q=>gt_int q
theorem op_ge:OpR X (compareOp .GtE) (rI0 λi j=> .bl (decide (j<=i))):=opB0 λ_ _ _ _ _ _ _ q=>ge_int q
theorem op_isN:OpR X (compareOp .Is) (λx y H Q=>y= .non/\Q (.bl (decide (x= .non))) H):=by
 intro pins s σ H x y v u Q I rx ry h
 obtain ⟨rfl,q⟩:=h
 cases ry
 refine is_none_gen (fin_bl I q ?_)
 cases x<;>first
  |(cases rx;rfl)
  |(obtain ⟨t,rfl⟩:=rx;rfl)
theorem op_notN:OpR X (compareOp .IsNot) (λx y H Q=>y= .non/\Q (.bl (!decide (x= .non))) H):=by
 intro pins s σ H x y v u Q I rx ry h
 obtain ⟨rfl,q⟩:=h
 cases ry
 refine isnot_none_gen (fin_bl I q ?_)
 cases x<;>first
  |(cases rx;rfl)
  |(obtain ⟨t,rfl⟩:=rx;rfl)
theorem nomark (b:Expr) {op:CmpOp} (h:op≠ .In:=by decide) (h2:op≠ .NotIn:=by decide):behindInMarks op b=false:=by
 have e1:(op==CmpOp.In)=false:=by cases op<;>first|rfl|exact absurd rfl h
 have e2:(op==CmpOp.NotIn)=false:=by cases op<;>first|rfl|exact absurd rfl h2
 cases b<;>simp [behindInMarks,e1,e2]
theorem pe_cmpR {op:CmpOp} {r:R2} (ho:OpR X (compareOp op) r) (ha:PE X a ta) (hb:PE X b tb) (hm:behindInMarks op b=false):PE X (.Compare a [op] [b] pos) (tOp r ta tb):=by
 intro pins s σ H Q I h
 exact wpAny_Compare1 (binT ha hb I h λv u s2 x y H2 I2 rx ry q=>ho pins s2 σ H2 x y v u Q I2 rx ry q) hm
def tTest (t:TE):TT:=λσ H Q=>t σ H λx H'=> ∃k,x= .bl k/\Q k H'
theorem pt_cmpR {op:CmpOp} {r:R2} (ho:OpR X (compareOp op) r) (ha:PE X a ta) (hb:PE X b tb) (hm:behindInMarks op b=false):PT X (.Compare a [op] [b] pos) (tTest (tOp r ta tb)):=by
 intro pins s σ H Q I h
 refine wpAny_isTrue_Compare1 (thn (ha pins s σ H _ I h) λv s1 ⟨x,H1,I1,r1,q1⟩=>thn (hb pins s1 σ H1 _ I1 q1) λu s2 ⟨y,H2,I2,r2,q2⟩=>
  thn (ho pins s2 σ H2 x y v u _ I2 r1 r2 q2) λc s3 ⟨z,H3,I3,r3,k,e,q3⟩=> ?_) hm
 subst e
 cases r3
 exact wpAny_truthy_bool ⟨H3,I3,q3⟩
def tChain (r r':R2) (ta tb tc:TE):TE:=λσ H Q=>ta σ H λx H1=>tb σ H1 λy H2=>r x y H2 λz H3=> ∃k,z= .bl k/\
 (if k=true then tc σ H3 λw' H4=>r' y w' H4 Q else Q (.bl false) H3)
theorem pt_chain {op op':CmpOp} {r r':R2} (ho:OpR X (compareOp op) r) (ho':OpR X (compareOp op') r') (ha:PE X a ta) (hb:PE X b tb) (hc:PE X c tc)
  (hm:lastMarks [op,op'] [b,c]=false:=by with_unfolding_all rfl):PT X (.Compare a [op,op'] [b,c] pos) (tTest (tChain r r' ta tb tc)):=by
 intro pins s σ H Q I h
 refine isTrue_chain (thn (ha pins s σ H _ I h) λv s1 ⟨x,H1,I1,r1,q1⟩=>test_link (thn (hb pins s1 σ H1 _ I1 q1) λu s2 ⟨y,H2,I2,r2,q2⟩=>
  thn (ho pins s2 σ H2 x y v u _ I2 r1 r2 q2) λd s3 ⟨z,H3,I3,r3,k,e,q3⟩=> ?_)) hm
 subst e
 cases r3
 refine wpAny_truthy_bool ?_
 cases k with
 |false=>
  obtain ⟨k',e',q'⟩:=q3
  cases e'
  exact ite_ff ⟨H3,I3,q'⟩
 |true=>
  refine ite_tt (test_last (thn (hc pins s3 σ H3 _ I3 q3) λw' s4 ⟨z',H4,I4,r4,q4⟩=>thn (ho' pins s4 σ H4 y z' u w' _ I4 r2 r4 q4) λd' s5 ⟨z2,H5,I5,r5,k2,e2,q5⟩=> ?_))
  subst e2
  cases r5
  exact wpAny_truthy_bool ⟨H5,I5,q5⟩
theorem line63:(sizeLine:Nat)<2^63:=by rw [sizeLine_eq];decide
theorem op_add_str:OpR X (binaryOp .Add) (λx y H Q=> ∃i j,x= .str i/\y= .str j/\i.length+j.length<=sizeLine/\Q (.str (i++j)) H):=by
 intro pins s σ H x y v u Q I rx ry h
 obtain ⟨i,j,rfl,rfl,hz,q⟩:=h
 obtain ⟨t,rfl⟩:=rx
 obtain ⟨t',rfl⟩:=ry
 exact add_str (λt' tk=>⟨.str (i++j),H,I.tok _,⟨_,rfl⟩,q⟩) hz
theorem vals1 {x:V} {us:List Value} (r:Vals [x] us): ∃u,us= [u]/\RelV x u:=by
 cases r with
 |cons r1 r2=>cases r2;exact ⟨_,rfl,r1⟩
theorem vals2 {x y:V} {us:List Value} (r:Vals [x,y] us): ∃u w',us= [u,w']/\RelV x u/\RelV y w':=by
 cases r with
 |cons r1 r2=>
  cases r2 with
  |cons r3 r4=>cases r4;exact ⟨_,_,rfl,r1,r3⟩
theorem call_max2 (hc:X.calm=true):CallR X (.builtin "max") (λxs H Q=> ∃i j,xs= [.int i,.int j]/\Q (.int (if j>i then j else i)) H):=by
 intro pins s σ H xs us Q I r h
 obtain ⟨i,j,rfl,q⟩:=h
 obtain ⟨u,w',rfl,⟨t,rfl⟩,⟨t',rfl⟩⟩:=vals2 r
 refine max_two_ints (I.ok.hd hc) λh' tk k=>⟨_,H,I.kept k,?_,q⟩
 by_cases hj:j>i
 ·rw [if_pos hj,if_pos hj];exact ⟨_,rfl⟩
 ·rw [if_neg hj,if_neg hj];exact ⟨_,rfl⟩
theorem call_min2 (hc:X.calm=true):CallR X (.builtin "min") (λxs H Q=> ∃i j,xs= [.int i,.int j]/\Q (.int (if j<i then j else i)) H):=by
 intro pins s σ H xs us Q I r h
 obtain ⟨i,j,rfl,q⟩:=h
 obtain ⟨u,w',rfl,⟨t,rfl⟩,⟨t',rfl⟩⟩:=vals2 r
 refine min_two_ints (I.ok.hd hc) λh' tk k=>⟨_,H,I.kept k,?_,q⟩
 by_cases hj:j<i
 ·rw [if_pos hj,if_pos hj];exact ⟨_,rfl⟩
 ·rw [if_neg hj,if_neg hj];exact ⟨_,rfl⟩
theorem call_int1:CallR X (.type "int") (λxs H Q=>(∃i,xs= [.int i]/\Q (.int i) H)\/ ∃k,xs= [.bl k]/\Q (.int (if k then 1 else 0)) H):=by
 intro pins s σ H xs us Q I r h
 rcases h with ⟨i,rfl,q⟩|⟨k,rfl,q⟩
 ·obtain ⟨u,rfl,t,rfl⟩:=vals1 r
  exact call_int_int ⟨.int i,H,I,⟨_,rfl⟩,q⟩
 ·obtain ⟨u,rfl,r1⟩:=vals1 r
  cases r1
  exact call_int_bool ⟨.int (if k then 1 else 0),H,I.tok _,⟨_,rfl⟩,q⟩
end
structure ObjM (h:Heap) (x dx C:Addr) (mA:Str->Option Value):Prop where
 obj:h.get? x=some (PySem.W.instObj C dx)
 ns:h.Ns1 dx mA
 ne:dx≠x
theorem lookIn_ns {h:Heap} {dx:Addr} {mA:Str->Option Value} (n:h.Ns1 dx mA): ∃od,h.get? dx=some od/\ ∀name,PySem.W.lookIn name od=some (mA name):=by
 obtain ⟨o,es,ep,ho,hd,hk,_,hm⟩:=n
 refine ⟨o,ho,λname=> ?_⟩
 have e:=hm name
 unfold nsFind findBy at e
 rw [<-Array.find?_toList] at e
 unfold PySem.W.lookIn
 rw [hd]
 dsimp only
 split
 ·rename_i y q
  rw [q] at e
  exact congrArg some e
 ·rename_i q
  rw [q] at e
  have a:es.toList.any (·.refKey)=false:=by
   rw [List.any_eq_false]
   intro y hy
   obtain ⟨z,t,hkey⟩:=hk y (Array.mem_toList_iff.mp hy)
   simp [DictEntry.refKey,hkey]
  have a': ¬es.toList.any (·.refKey)=true:=by rw [a];exact Bool.false_ne_true
  rw [if_neg a']
  exact congrArg some e
theorem ObjM.look {h:Heap} {x dx C:Addr} {mA:Str->Option Value} (I:ObjM h x dx C mA): ∃od,PySem.W.InstAt h x (PySem.W.instObj C dx) C (some od)/\ ∀name,PySem.W.lookIn name od=some (mA name):=
 let ⟨od,ho,hl⟩:=lookIn_ns I.ns
 ⟨od,⟨I.obj,rfl,rfl,ho⟩,hl⟩
section
variable {prog:Program} {w:World} {A:Around} {E:Value->Shared->Prop} {s:Shared} {K:Frag} {x dx C f:Addr} {mA:Str->Option Value} {name:Str} {v:Value}
theorem get_map {expr:Bool} {Q:Value->Shared->Prop} (X:K.In s.heap) (I:ObjM s.heap x dx C mA) (hg:PySem.W.plainGet K C name=true) (hh:PySem.W.hasDictIn K C=true)
  (ha:PySem.W.findIn K (.ref C) name=some none) (hv:mA name=some v) (hv':PySem.W.handedIn v=true) (h:Q v {s with toks:=s.toks+1}):
  wpAny (model prog w) A (getAttr (.ref x) name expr) Q E s:=by
 obtain ⟨od,J,hl⟩:=I.look
 exact PySem.W.get_value X J (PySem.W.plainGet_of hg).1 (PySem.W.findObj_own hh ha rfl (by rw [hl,hv])) hv' h
theorem get_meth {pl:Sem Bool} {Q:Value×List Value->Shared->Prop} (X:K.In s.heap) (I:ObjM s.heap x dx C mA) (hg:PySem.W.plainGet K C name=true)
  (hf:PySem.W.findIn K (.ref C) name=some (some (.ref f))) (ht:PySem.W.isFn K (.ref f)=true) (hv:mA name=none) (h:Q (.ref f,[.ref x]) s):
  wpAny (model prog w) A (getMethod (.ref x) name pl) Q E s:=by
 obtain ⟨od,J,hl⟩:=I.look
 exact PySem.W.method_fn X J (PySem.W.plainGet_of hg).1 (PySem.W.plainGet_of hg).2 hf (beq_iff_eq.mp ht) (by show (PySem.W.lookIn name od).map (·.isSome)=some false;rw [hl,hv];rfl) h
theorem set_map {ns:List Str} {Q:Unit->Shared->Prop} (X:K.In s.heap) (I:ObjM s.heap x dx C mA)
  (hs:PySem.W.findIn K (.ref C) "__setattr__" =some (some (.builtin "object.__setattr__"))) (hp:PySem.W.plainOver K C=true) (ht:PySem.W.takerIn K C name=some none) (hh:PySem.W.hasDictIn K C=true)
  (hw:PySem.Within mA ns) (hsz:ns.length<=sizeLine)
  (h: ∀h',ObjM h' x dx C (λy=>if y=name then some v else mA y)->Heap.SameBut dx s.heap h'->Q () {s with heap:=h',toks:=s.toks+2}):
  wpAny (model prog w) A (setAttr (.ref x) name v) Q E s:=by
 obtain ⟨od,J,hl⟩:=I.look
 refine PySem.W.set_plain X J hs (PySem.W.osa_open (s:= {s with toks:=s.toks+1}) (r:=none) X J hp ht λb=> ?_)
 obtain ⟨cd,hc,hd'⟩:=PySem.W.any_some hh
 have hx:s.heap.get? x=some ⟨.ref C,some dx,.plain, #[]⟩:=I.obj
 refine wpAny_bind (wpAny_pure (wpAny_bind (wpAny_bind (wpAny_loadPart hx (wpAny_bind (PySem.W.Looks.here (s:= {s with toks:=s.toks+1}) (PySem.W.looks_clsIn X hc) ?_))))))
 rw [hd']
 refine wpAny_pure (a:=some dx) (wpAny_bind (wpAny_pure (wpAny_bind ?_)))
 refine wpAny_nsSet1 (s:= {s with toks:=s.toks+1}) I.ns λh' hn2 hs2=> ?_
 obtain ⟨oD,esD,epD,hoD,hdD,hcD⟩:=hn2.count (PySem.Within.cons name v hw)
 refine wpAny_bind (wpAny_lookBehind hoD (by rw [hdD];exact pastItsLine_dict (Nat.le_trans hcD (by rw [List.length_cons];omega))) ?_)
 exact wpAny_pure (h _ ⟨(hs2.2 _ (Ne.symm I.ne)).trans I.obj,hn2,I.ne⟩ hs2)
theorem make_map {R:Result->Shared->Prop} {vs:List Value} {kw:List (Str×Value)} (X:K.In s.heap) (hm:PySem.W.makesIn K C=true)
  (hi:PySem.W.findIn K (.ref C) "__init__" =some (some (.ref f))) (hf:PySem.W.typeIn K (.ref f)=some (.type "function"))
  (h:codeAny (model prog w) (A.under (.builtin "type.__call__" ⟨.ref C::vs,kw⟩)) (.call (.ref f) ⟨.ref (s.heap.objs.size+1)::vs,kw⟩) (PySem.W.InitBack (s.heap.objs.size+1) R)
   {s with heap:=(s.heap.push PySem.W.emptyDict).push (PySem.W.instObj C s.heap.objs.size)}):
  codeAny (model prog w) A (.call (.ref C) ⟨vs,kw⟩) R s:=by
 obtain ⟨hh,g,d,t,os⟩:=s
 exact PySem.W.make_core (PySem.W.makes_of X hm) (PySem.W.looks_findIn X hi) (λself=>PySem.W.bind_fn X self hf) (.inl rfl) h
end
def putF (f:Str) (v:V):List (Str×V)->List (Str×V)
 | []=> [(f,v)]
 |(g,x)::r=>if g=f then (g,v)::r else (g,x)::putF f v r
theorem lookup_putF (f g:Str) (v:V): ∀fs:List (Str×V),(putF f v fs).lookup g=if g=f then some v else fs.lookup g
 | []=>by
  show List.lookup g [(f,v)]=_
  by_cases h:g=f
  ·have hb:(g==f)=true:=beq_iff_eq.mpr h
   simp only [List.lookup,hb,if_pos h]
  ·have hb:(g==f)=false:=beq_eq_false_iff_ne.mpr h
   simp only [List.lookup,hb,if_neg h]
 |(k,x)::r=>by
  have ih:=lookup_putF f g v r
  rw [show putF f v ((k,x)::r)=(if k=f then (k,v)::r else (k,x)::putF f v r) from rfl]
  by_cases hk:k=f
  ·rw [if_pos hk]
   by_cases h:g=k
   ·have hb:(g==k)=true:=beq_iff_eq.mpr h
    simp only [List.lookup,hb,if_pos (h.trans hk)]
   ·have hb:(g==k)=false:=beq_eq_false_iff_ne.mpr h
    simp only [List.lookup,hb,if_neg (λe:g=f=>h (e.trans hk.symm))]
  ·rw [if_neg hk]
   by_cases h:g=k
   ·have hb:(g==k)=true:=beq_iff_eq.mpr h
    simp only [List.lookup,hb,if_neg (λe:g=f=>hk (h.symm.trans e))]
   ·have hb:(g==k)=false:=beq_eq_false_iff_ne.mpr h
    simp only [List.lookup,hb]
    exact ih
theorem keys_putF (f:Str) (v:V): ∀fs:List (Str×V),f∈(putF f v fs).map (·.1)/\ ∀g,g∈fs.map (·.1)->g∈(putF f v fs).map (·.1)
 | []=>⟨by simp [putF],λg h=>by simp at h⟩
 |(k,x)::r=>by
  obtain ⟨i1,i2⟩:=keys_putF f v r
  rw [show putF f v ((k,x)::r)=(if k=f then (k,v)::r else (k,x)::putF f v r) from rfl]
  by_cases hk:k=f
  ·rw [if_pos hk]
   subst hk
   exact ⟨by simp,λg h=>by simpa using h⟩
  ·rw [if_neg hk]
   refine ⟨?_,λg h=> ?_⟩
   ·rw [List.map_cons]
    exact List.mem_cons_of_mem _ i1
   ·rw [List.map_cons] at h ⊢
    rcases List.mem_cons.mp h with e|e
    ·exact List.mem_cons.mpr (.inl e)
    ·exact List.mem_cons_of_mem _ (i2 g e)
theorem length_putF (f:Str) (v:V): ∀fs:List (Str×V),(putF f v fs).length<=fs.length+1
 | []=>by simp [putF]
 |(k,x)::r=>by
  have ih:=length_putF f v r
  rw [show putF f v ((k,x)::r)=(if k=f then (k,v)::r else (k,x)::putF f v r) from rfl]
  by_cases hk:k=f
  ·rw [if_pos hk,List.length_cons,List.length_cons];omega
  ·rw [if_neg hk,List.length_cons,List.length_cons];omega
theorem RelO.some_of {v:V} {o:Option Value} (r:RelO (some v) o): ∃u,o=some u/\RelV v u:=by
 cases o with
 |none=>exact (show False from r).elim
 |some u=>exact ⟨u,rfl,r⟩
theorem RelO.none_of {o:Option Value} (r:RelO none o):o=none:=by
 cases o with
 |none=>rfl
 |some u=>exact (show False from r).elim
theorem handed_of {v:V} {u:Value} (r:RelV v u):PySem.W.handedIn u=true:=by
 cases v with
 |non=>cases (show u=Value.none from r);rfl
 |bl b=>cases (show u=Value.bool b from r);rfl
 |int i=>obtain ⟨t,e⟩:=(show∃t,u=Value.int i t from r);cases e;rfl
 |str x=>obtain ⟨t,e⟩:=(show∃t,u=Value.str x t from r);cases e;rfl
 |byt b=>obtain ⟨t,e⟩:=(show∃t,u=Value.bytes b t from r);cases e;rfl
 |flt b=>obtain ⟨t,e⟩:=(show∃t,u=Value.float b t from r);cases e;rfl
 |ref a=>cases (show u=Value.ref a from r);rfl
 |ty n=>cases (show u=Value.type n from r);rfl
section
variable {P:Program} {w:World} {H H':Hp} {h h':Heap} {a C dx:Addr} {fs fs':List (Str×V)}
theorem ins_get (hok:HOk P w H h) (e:H a=some (.ins C dx fs)): ∃mA,ObjM h a dx C mA/\(∀f,RelO (fs.lookup f) (mA f))/\PySem.Within mA (fs.map (·.1))/\fs.length<=1000/\H dx=some (.own a):=by
 obtain ⟨d,z,ne,ob,mA,n,r,q⟩:=(show ObjOk P w H h a (.ins C dx fs) from hok a _ e)
 exact ⟨mA,⟨ob,n,ne⟩,r,q,z,d⟩
end
structure Cls (K:Frag) (C:Addr):Prop where
 pg:PySem.W.plainGet K C Str.empty=true
 hd:PySem.W.hasDictIn K C=true
 po:PySem.W.plainOver K C=true
 sa:PySem.W.findIn K (.ref C) "__setattr__" =some (some (.builtin "object.__setattr__"))
theorem Cls.get {K:Frag} {C:Addr} (c:Cls K C) (f:Str):PySem.W.plainGet K C f=true:=c.pg
def NoAttr (K:Frag) (C:Addr) (f:Str):Prop:=PySem.W.findIn K (.ref C) f=some none
theorem NoAttr.taker {K:Frag} {C:Addr} {f:Str} (n:NoAttr K C f):PySem.W.takerIn K C f=some none:=by
 unfold PySem.W.takerIn
 rw [show PySem.W.findIn K (.ref C) f=some none from n]
 rfl
structure Meth (K:Frag) (C:Addr) (m:Str) (f:Addr):Prop where
 at_:PySem.W.findIn K (.ref C) m=some (some (.ref f))
 fn:PySem.W.isFn K (.ref f)=true
 kp:PySem.W.keepIn K (.ref f)=true
section
variable {X:Cx} {pins:List (Addr×Obj)} {σ:St} {H:Hp} {s:Shared} {a C dx:Addr} {fs:List (Str×V)} {f:Str} {v:V} {A:Around} {E:Value->Shared->Prop}
theorem getattr_ok {b:Bool} {Q:Value->Shared->Prop} (I:Inv X pins σ H s) (e:H a=some (.ins C dx fs)) (c:Cls X.K C) (n:NoAttr X.K C f) (l:fs.lookup f=some v)
  (h: ∀u s',Inv X pins σ H s'->RelV v u->Q u s'):wpAny (model X.prog X.w) A (getAttr (.ref a) f b) Q E s:=by
 obtain ⟨mA,O,r,_,_,_⟩:=ins_get I.hok e
 obtain ⟨u,hu,ru⟩:=RelO.some_of (v:=v) (o:=mA f) (by rw [<-l];exact r f)
 exact get_map I.kIn O (c.get f) c.hd n hu (handed_of ru) (h u _ (I.tok _) ru)
theorem getmeth_ok {m:Str} {g:Addr} {pl:Sem Bool} {Q:Value×List Value->Shared->Prop} (I:Inv X pins σ H s) (e:H a=some (.ins C dx fs)) (c:Cls X.K C) (k:Meth X.K C m g) (l:fs.lookup m=none)
  (h:Q (.ref g,[.ref a]) s):wpAny (model X.prog X.w) A (getMethod (.ref a) m pl) Q E s:=by
 obtain ⟨mA,O,r,_,_,_⟩:=ins_get I.hok e
 have hn:mA m=none:=RelO.none_of (by rw [<-l];exact r m)
 exact get_meth I.kIn O (c.get m) k.at_ k.fn hn h
theorem setattr_ok {y:V} {u:Value} {Q:Unit->Shared->Prop} (I:Inv X pins σ H s) (e:H a=some (.ins C dx fs)) (c:Cls X.K C) (n:NoAttr X.K C f) (hl:fs.length<1000) (ry:RelV y u)
  (h: ∀s',Inv X pins σ (upd H a (.ins C dx (putF f y fs))) s'->Q () s'):wpAny (model X.prog X.w) A (setAttr (.ref a) f u) Q E s:=by
 obtain ⟨mA,O,r,wi,_,ho⟩:=ins_get I.hok e
 have hz:(fs.map (·.1)).length<=sizeLine:=by rw [List.length_map,sizeLine_eq];omega
 refine set_map I.kIn O c.sa c.po n.taker c.hd wi hz λh' O' sb=>h _ ?_
 have hd: ∃o,h'.get? dx=some o:=let ⟨o,_,_,e',_⟩:=O'.ns;⟨o,e'⟩
 refine I.write (x:=a) (e:=dx) (by rw [e];exact True.intro) (.inr ho) (λb q hb z=>(sb.2 b hb).trans z) hd ?_
 refine ⟨by rw [upd_ne O.ne];exact ho,?_,O.ne,O'.obj,_,O'.ns,λg=> ?_,λg hg=> ?_⟩
 ·have:=length_putF f y fs;omega
 ·show RelO ((putF f y fs).lookup g) (if g=f then some u else mA g)
  rw [lookup_putF]
  by_cases q:g=f
  ·rw [if_pos q,if_pos q];exact ry
  ·rw [if_neg q,if_neg q];exact r g
 ·by_cases q:g=f
  ·rw [q];exact (keys_putF f y fs).1
  ·refine (keys_putF f y fs).2 g (wi g λz=>hg ?_)
   show (if g=f then some u else mA g)=none
   rw [if_neg q];exact z
theorem Inv.made (I:Inv X pins σ H s):Inv X pins σ (upd (upd H s.heap.objs.size (.own (s.heap.objs.size+1))) (s.heap.objs.size+1) (.ins C s.heap.objs.size []))
  {s with heap:=(s.heap.push PySem.W.emptyDict).push (PySem.W.instObj C s.heap.objs.size)}:=by
 have e1:(s.heap.push PySem.W.emptyDict).get? s.heap.objs.size=some PySem.W.emptyDict:=Heap.get?_push_size s.heap rfl
 have e2:((s.heap.push PySem.W.emptyDict).push (PySem.W.instObj C s.heap.objs.size)).get? (s.heap.objs.size+1)=some (PySem.W.instObj C s.heap.objs.size):=by
  have:=Heap.get?_push_size (s.heap.push PySem.W.emptyDict) (o:=PySem.W.instObj C s.heap.objs.size) rfl
  rwa [Heap.size_push] at this
 have e3:(s.heap.push PySem.W.emptyDict).Ns s.heap.objs.size (λ_=>none):=⟨PySem.W.emptyDict, #[],_,e1,rfl,(λe he=>absurd he (by simp)),λ_=>rfl⟩
 have I1:=I.laid (a:=s.heap.objs.size) (o:= .own (s.heap.objs.size+1)) (h':=s.heap.push PySem.W.emptyDict) (t':=s.toks) (λb u q=>Heap.get?_push_of_some _ q) (Nat.le_refl _) ⟨_,e1⟩
 refine I1.laid (a:=s.heap.objs.size+1) (o:= .ins C s.heap.objs.size []) (t':=s.toks) (λb u q=>Heap.get?_push_of_some _ q) (Nat.le_of_eq (Heap.size_push _ _)) ?_
 have ne:s.heap.objs.size≠s.heap.objs.size+1:=Nat.ne_of_lt (Nat.lt_succ_self _)
 refine ⟨by rw [upd_ne ne,upd_same],Nat.zero_le _,ne,e2,λ_=>none,(Heap.Ns1.of_empty e3).at λo q=>Heap.get?_push_of_some _ q,λ_=>True.intro,λy hy=>absurd rfl hy⟩
theorem attr_of {prog:Program} {w:World} {env:Env} {e:Expr} {f:Str} {pos:Pos} {s:Shared} {Q:Value->Shared->Prop} (hb:attributeBase e f env (eval e env)=eval e env)
  (h:wpAny (model prog w) A (eval e env) (λo s₁=>wpAny (model prog w) A (getAttr o f true) Q E s₁) E s):wpAny (model prog w) A (eval (.Attribute e f pos) env) Q E s:=
 Attribute_any_ h (by rw [arm_eval_Attribute,hb])
end
def tFld (K:Frag) (ta:TE) (f:Str):TE:=λσ H Q=>ta σ H λx H1=> ∃a C dx fs v,x= .ref a/\H1 a=some (.ins C dx fs)/\Cls K C/\NoAttr K C f/\fs.lookup f=some v/\Q v H1
def sFld (K:Frag) (ta tv:TE) (f:Str):TS:=λD σ H=>tv σ H λy H1=>ta σ H1 λx H2=> ∃a C dx fs,x= .ref a/\H2 a=some (.ins C dx fs)/\Cls K C/\NoAttr K C f/\fs.length<1000/\
 D.nx σ (upd H2 a (.ins C dx (putF f y fs)))
def InOp (X:Cx) (op:Operator) (rd:V->V->Hp->VK->Prop):Prop:=
 ∀(pins:List (Addr×Obj)) (s:Shared) (σ:St) (H:Hp) (x y:V) (u v:Value) (Q:VK),Inv X pins σ H s->RelV x u->RelV y v->rd x y H Q->wpAny (model X.prog X.w) X.A (inplaceOp op u v) (EP X pins σ Q) X.xe s
def sFldAug (K:Frag) (ta tv:TE) (rd:V->V->Hp->VK->Prop) (f:Str):TS:=λD σ H=>ta σ H λx H1=> ∃a C dx fs v,x= .ref a/\H1 a=some (.ins C dx fs)/\Cls K C/\NoAttr K C f/\fs.lookup f=some v/\
 tv σ H1 λy H2=>rd v y H2 λz H3=> ∃dx' fs',H3 a=some (.ins C dx' fs')/\fs'.length<1000/\D.nx σ (upd H3 a (.ins C dx' (putF f z fs')))
section
variable {X:Cx} {o e value:Expr} {f:Str} {pos pos' tpos:Pos} {ta tv:TE}
theorem pe_fld (he:PE X e ta) (hb:attributeBase e f X.env (eval e X.env)=eval e X.env):PE X (.Attribute e f pos) (tFld X.K ta f):=by
 intro pins s σ H Q I h
 refine attr_of hb (thn (he pins s σ H _ I h) λu s1 ⟨x,H1,I1,rx,a,C,dx,fs,v,ex,ea,c,n,l,q⟩=> ?_)
 subst ex
 obtain rfl:u=Value.ref a:=rx
 exact getattr_ok I1 ea c n l λu' s2 I2 ru=>⟨v,H1,I2,ru,q⟩
theorem ps_fld (ha:PE X o ta) (hv:PE X value tv) (hs:swapsWith value (some (.Attribute o f pos')) pos.line X.env=pure false):PS X (.Assign [.Attribute o f pos'] value pos) (sFld X.K ta tv f):=by
 intro pins s σ H D I h
 refine plainObj_wpAny_Assign_Attribute (thn (hv pins s σ H _ I h) λu s1 ⟨y,H1,I1,ry,q⟩=>thn (ha pins s1 σ H1 _ I1 q) λov s2 ⟨x,H2,I2,rx,a,C,dx,fs,ex,ea,c,n,l,q2⟩=> ?_) hs
 subst ex
 obtain rfl:ov=Value.ref a:=rx
 exact setattr_ok I2 ea c n l ry λs3 I3=>⟨σ,_,I3,q2⟩
theorem ps_fldaug {op:Operator} {rd:V->V->Hp->VK->Prop} (ha:PE X o ta) (hv:PE X value tv) (hop:InOp X op rd):PS X (.AugAssign (.Attribute o f tpos) op value pos) (sFldAug X.K ta tv rd f):=by
 intro pins s σ H D I h
 refine wpAny_AugAssign_AttributeAny (thn (ha pins s σ H _ I h) λov s1 ⟨x,H1,I1,rx,a,C,dx,fs,v,ex,ea,c,n,l,q⟩=> ?_)
 subst ex
 obtain rfl:ov=Value.ref a:=rx
 refine getattr_ok I1 ea c n l λu s2 I2 ru=>thn (hv pins s2 σ H1 _ I2 q) λw3 s3 ⟨y,H2,I3,ry,q3⟩=>thn (hop pins s3 σ H2 v y u w3 _ I3 ru ry q3) λw4 s4 ⟨z,H3,I4,rz,dx',fs',ea',l',q4⟩=> ?_
 exact setattr_ok I4 ea' c n l' rz λs5 I5=>⟨σ,_,I5,q4⟩
def rAdd:V->V->Hp->VK->Prop:=λx y H Q=> ∃i j,x= .int i/\y= .int j/\Q (.int (i+j)) H
theorem methcall_of {pl:Sem Bool} {m:Str} {apos:Pos} {args:List Expr} {pins:List (Addr×Obj)} {s:Shared} {σ:St} {H:Hp} {Q:Value->Shared->Prop} {te:TE} (he:PE X e te) (I:Inv X pins σ H s)
  (h:te σ H λx H1=> ∃a C dx fs g,x= .ref a/\H1 a=some (.ins C dx fs)/\Cls X.K C/\Meth X.K C m g/\fs.lookup m=none/\
   ∀s1,Inv X pins σ H1 s1->wpAny (model X.prog X.w) X.A (callWith pos (.ref g) [.ref a] (backTo pos (starEach args X.env)) (backToKw pos (keywordEach [] X.env))) Q X.xe s1)
  (ht:eval (.Call (.Attribute e m apos) args [] pos) X.env=(do
   let ov <-eval e X.env
   standAt apos.atName
   let (f,first) <-holding [ov] (getMethod ov m pl)
   callWith pos f first (backTo pos (starEach args X.env)) (backToKw pos (keywordEach [] X.env)))):
  wpAny (model X.prog X.w) X.A (eval (.Call (.Attribute e m apos) args [] pos) X.env) Q X.xe s:=by
 refine PySem.W.methodCall_KW (pl:=pl) (thn (he pins s σ H _ I h) λu s1 ⟨x,H1,I1,rx,a,C,dx,fs,g,ex,ea,c,k,l,q⟩=> ?_) ht
 subst ex
 obtain rfl:u=Value.ref a:=rx
 exact getmeth_ok I1 ea c k l (q s1 I1)
end
section
variable {X:Cx} {pins:List (Addr×Obj)} {σ:St} {H:Hp} {s:Shared} {A:Around} {E:Value->Shared->Prop} {Q:Value->Shared->Prop} {c:Value} {b:Bool}
inductive TyOf (K:Frag) (H:Hp):V->Value->Prop where
 |non:TyOf K H .non (.type "NoneType")
 |bl (x:Bool):TyOf K H (.bl x) (.type "bool")
 |int (i:Int):TyOf K H (.int i) (.type "int")
 |str (x:Str):TyOf K H (.str x) (.type "str")
 |flt (x:UInt64):TyOf K H (.flt x) (.type "float")
 |lst {a:Addr} {xs:List V} (e:H a=some (.lst xs)):TyOf K H (.ref a) (.type "list")
 |frz {a:Addr} {o:Obj} {xs:List V} (e:H a=some (.frz o (.lst xs))):TyOf K H (.ref a) (.type "list")
 |tup {a:Addr} {xs:List V} (e:H a=some (.tup xs)):TyOf K H (.ref a) (.type "tuple")
 |dK {a:Addr} {kvs:List (Key×V)} (e:H a=some (.dK kvs)):TyOf K H (.ref a) (.type "dict")
 |dT {a:Addr} {kvs:List (List Key×V)} (e:H a=some (.dT kvs)):TyOf K H (.ref a) (.type "dict")
 |ins {a C dx:Addr} {fs:List (Str×V)} (e:H a=some (.ins C dx fs)) (cl:Cls K C) (ha:PySem.W.findIn K (.ref C) "__class__" =some (some (.builtin "object.__class__")))
   (hn:PySem.W.specialIn K (.builtin "object.__class__") "__get__" =some (some (.builtin "getset_descriptor.__get__"))) (htk:PySem.W.takesIn K (.builtin "object.__class__")=some true)
   (hm:PySem.W.mroIn K C (.type "object")=some true):TyOf K H (.ref a) (.ref C)
theorem isinst_ok {x:V} {u t:Value} (I:Inv X pins σ H s) (rx:RelV x u) (ty:TyOf X.K H x t) (e:PySem.W.kitOne X.K t c=some b) (h: ∀tk,Q (.bool b) {s with toks:=tk}):
  wpAny (model X.prog X.w) A (call (.builtin "isinstance") [u,c]) Q E s:=by
 cases ty with
 |non=>cases (show u=Value.none from rx);exact PySem.W.kia_one PySem.W.kitx_none I.kIn True.intro e (λz=>nomatch z) h
 |bl y=>cases (show u=Value.bool y from rx);exact PySem.W.kia_one PySem.W.kitx_bool I.kIn True.intro e (λz=>nomatch z) h
 |int i=>obtain ⟨t,q⟩:=(show∃t,u=Value.int i t from rx);cases q;exact PySem.W.kia_one PySem.W.kitx_int I.kIn True.intro e (λz=>nomatch z) h
 |str y=>obtain ⟨t,q⟩:=(show∃t,u=Value.str y t from rx);cases q;exact PySem.W.kia_one PySem.W.kitx_str I.kIn True.intro e (λz=>nomatch z) h
 |flt y=>obtain ⟨t,q⟩:=(show∃t,u=Value.float y t from rx);cases q;exact PySem.W.kia_one PySem.W.kitx_float I.kIn True.intro e (λz=>nomatch z) h
 | @lst a xs ea=>
  cases (show u=Value.ref a from rx)
  obtain ⟨_,_,n,_,h1⟩:=(show ObjOk X.prog X.w H s.heap a (.lst xs) from I.hok a _ ea)
  exact PySem.W.kia_one PySem.W.kitx_list I.kIn ⟨_,h1,rfl⟩ e (λz=>nomatch z) h
 | @frz a ob xs ea=>
  cases (show u=Value.ref a from rx)
  obtain ⟨_,_,_,n,_,h1⟩:=(show ObjOk X.prog X.w H s.heap a (.frz ob (.lst xs)) from I.hok a _ ea)
  exact PySem.W.kia_one PySem.W.kitx_list I.kIn ⟨_,h1,rfl⟩ e (λz=>nomatch z) h
 | @tup a xs ea=>
  cases (show u=Value.ref a from rx)
  obtain ⟨_,_,_,p⟩:=(show ObjOk X.prog X.w H s.heap a (.tup xs) from I.hok a _ ea)
  obtain ⟨o,h1,h2,_⟩:=p
  exact PySem.W.kia_one PySem.W.kitx_tuple I.kIn ⟨o,h1,h2⟩ e (λz=>nomatch z) h
 | @dK a kvs ea=>
  cases (show u=Value.ref a from rx)
  obtain ⟨_,_,vs,_,p⟩:=(show ObjOk X.prog X.w H s.heap a (.dK kvs) from I.hok a _ ea)
  obtain ⟨o,es,ep,h1,h2,_⟩:=p
  exact PySem.W.kia_one PySem.W.kitx_dict I.kIn ⟨o,h1,h2.1⟩ e (λz=>nomatch z) h
 | @dT a kvs ea=>
  cases (show u=Value.ref a from rx)
  obtain ⟨_,_,xs,_,o,es,ep,h1,h2,_⟩:=(show ObjOk X.prog X.w H s.heap a (.dT kvs) from I.hok a _ ea)
  exact PySem.W.kia_one PySem.W.kitx_dict I.kIn ⟨o,h1,h2.1⟩ e (λz=>nomatch z) h
 | @ins a C dx fs ea cl ha hn htk hm=>
  cases (show u=Value.ref a from rx)
  obtain ⟨mA,O,_⟩:=ins_get I.hok ea
  obtain ⟨od,J,_⟩:=O.look
  exact PySem.W.kia_one (PySem.W.kitx_own (cl.get _) cl.hd ha hn htk hm) I.kIn J e (λz=>nomatch z) h
end
structure Room (k:Nat) (A:Around):Prop where
 hd:A.handled=none
 dp:A.depth+3*k+5<recursionLimit
 un:A.units+16*k+200<cLine
 gd:A.guards=some []
theorem Room.mono {j k:Nat} {A:Around} (r:Room k A) (h:j<=k):Room j A:=⟨r.hd,by have:=r.dp;omega,by have:=r.un;omega,r.gd⟩
theorem Room.deeper {k:Nat} {A:Around} (r:Room (k+1) A) (env:Env):Room k (A.deeper env):=
 ⟨r.hd,by have:=r.dp;show A.depth+1+3*k+5<_;omega,by have:=r.un;show A.units+3+16*k+200<_;omega,r.gd⟩
theorem make_depth {A:Around} {C:Addr} {us:List Value} {kw:List (Str×Value)}:(A.under (.builtin "type.__call__" ⟨.ref C::us,kw⟩)).depth=A.depth+1:=by
 first|rfl|simp [Around.under,Code.weight,Code.isCreation,Code.isGuard,Code.isCaller,Code.frames,Code.isFrame,guardIds]
theorem make_units {A:Around} {C:Addr} {us:List Value} {kw:List (Str×Value)}:(A.under (.builtin "type.__call__" ⟨.ref C::us,kw⟩)).units=A.units+1:=by
 first|rfl|simp [Around.under,Code.cUnits,Code.frames,Code.isFrame]
theorem make_guards {A:Around} {C:Addr} {us:List Value} {kw:List (Str×Value)}:(A.under (.builtin "type.__call__" ⟨.ref C::us,kw⟩)).guards=A.guards:=by
 first|rfl|simp [Around.under,Code.guards,Code.isGuard,guardIds,pushGuards]
theorem Room.make {k:Nat} {A:Around} (r:Room (k+1) A) (C:Addr) (us:List Value) (kw:List (Str×Value)):Room k (A.under (.builtin "type.__call__" ⟨.ref C::us,kw⟩)):=
 ⟨r.hd,by have:=r.dp;rw [make_depth];omega,by have:=r.un;rw [make_units];omega,by rw [make_guards];exact r.gd⟩
theorem Room.depth {k:Nat} {A:Around} (r:Room k A):A.depth<recursionLimit:=by have:=r.dp;omega
theorem Room.units0 {k:Nat} {A:Around} (r:Room k A):A.units<cLine:=by have:=r.un;omega
def tNil:TA:=λ_ H Q=>Q [] H
def tCons (ta:TE) (tr:TA):TA:=λσ H Q=>ta σ H λx H1=>tr σ H1 λxs H2=>Q (x::xs) H2
section
variable {X:Cx} {e:Expr} {es:List Expr} {te:TE} {t:TA} {pos:Pos}
theorem pa_nil:PA X [] tNil:=λ_ _ _ _ H Q I h=>Calls.spliced_nil ⟨[],H,I,.nil,h⟩
theorem pa_cons (ha:PE X e te) (hr:PA X es t) (hs:starEach (e::es) X.env=(false,eval e X.env)::starEach es X.env:=by rfl):PA X (e::es) (tCons te t):=by
 intro pos pins s σ H Q I h
 rw [hs]
 show wpAny _ _ (spliced ((false,eval e X.env)::backTo pos (starEach es X.env))) _ _ s
 refine Calls.spliced_cons (thn (ha pins s σ H _ I h) λu s1 ⟨x,H1,I1,r1,q1⟩=> ?_)
 exact thn (hr pos pins s1 σ H1 _ I1 q1) λus s2 ⟨xs,H2,I2,r2,q2⟩=>⟨x::xs,H2,I2,.cons r1 r2,q2⟩
def tTup (t:TA):TE:=λσ H Q=>t σ H λxs H1=>xs.length<=sizeLine/\ ∀p,H1 p=none->Q (.ref p) (upd H1 p (.tup xs))
def tLst (t:TA):TE:=λσ H Q=>t σ H λxs H1=>xs.length<=sizeLine/\ ∀p,H1 p=none->Q (.ref p) (upd H1 p (.lst xs))
theorem pe_tup {x1} (h:PA X es t):PE X (.Tuple es x1 pos) (tTup t):=by
 intro pins s σ H Q I hq
 refine wpAny_Tuple_spliced (thn (h pos pins s σ H _ I hq) λus s1 ⟨xs,H1,I1,r,z,q⟩=>⟨by rw [<-r.length];exact z,?_⟩)
 have hf:H1 s1.heap.objs.size=none:=I1.hok.fresh (Nat.le_refl _)
 refine ⟨.ref s1.heap.objs.size,upd H1 s1.heap.objs.size (.tup xs),I1.laid (t':=s1.toks) (λb u e=>Heap.get?_push_of_some _ e) (Nat.le_refl _) ?_,rfl,q _ hf⟩
 exact ⟨z,us,r,⟨_,Heap.get?_push_size _ rfl,rfl,_,rfl⟩⟩
theorem pe_lst (h:PA X es t):PE X (.List es pos) (tLst t):=by
 intro pins s σ H Q I hq
 refine wpAny_List_spliced (thn (h pos pins s σ H _ I hq) λus s1 ⟨xs,H1,I1,r,z,q⟩=>⟨by rw [<-r.length];exact z,?_⟩)
 have hf:H1 s1.heap.objs.size=none:=I1.hok.fresh (Nat.le_refl _)
 refine ⟨.ref s1.heap.objs.size,upd H1 s1.heap.objs.size (.lst xs),I1.laid (t':=s1.toks) (λb u e=>Heap.get?_push_of_some _ e) (Nat.le_refl _) ?_,rfl,q _ hf⟩
 exact ⟨z,us,0,r,Heap.get?_push_size _ rfl⟩
end
abbrev Sp:=List V->Hp->VK->XK->Prop
abbrev CXT:=List Env->Hp->Shared->XK->Value->Shared->Prop
structure Env0 (P:Program) (w:World) (K:Frag) (mg:Str->Option Value) (base:Heap) (A:Around) (outer:List Env) (s:Shared) (H:Hp):Prop where
 frames:A.frames=some outer
 mod:Mod K mg base
 bs: ∀b o,base.get? b=some o->s.heap.get? b=some o/\H b=none
 bsz:base.objs.size<=s.heap.objs.size
 funs:s.heap.FunFrames base outer
 frf: ∀b∈frs outer,H b=none
 hok:HOk P w H s.heap
 bare:AllBare s.gens
def CE (outer:List Env) (P:Program) (w:World) (H:Hp) (s:Shared) (Q:VK) (u:Value) (s':Shared):Prop:=
 ∃v H',s'.os=s.os/\AllBare s'.gens/\Un (frs outer) [] H H' s.heap s'.heap/\HOk P w H' s'.heap/\RelV v u/\Q v H'
def CR (CX:CXT) (outer:List Env) (P:Program) (w:World) (H:Hp) (s:Shared) (Q:VK) (E:XK) (r:Result) (s':Shared):Prop:=
 match r with
 | .ok (.ret u)=>CE outer P w H s Q u s'
 | .ok _=>False
 | .error e=>CX outer H s E e s'
structure FnOk (P:Program) (w:World) (K:Frag) (mg:Str->Option Value) (base:Heap) (CX:CXT) (k:Nat) (f:Addr) (fd:FuncData) (ps:List Str) (sp:Sp):Prop where
 len: ∀vs H Q E,sp vs H Q E->vs.length=ps.length
 run: ∀(A:Around) (outer:List Env) (s:Shared) (H:Hp) (args:Args) (us:List Value) (vs:List V) (Q:VK) (E:XK),Room k A->Env0 P w K mg base A outer s H->BindsTo s fd args (ps.zip us)->Vals vs us->sp vs H Q E->
  codeAny (model P w) A (.call (.ref f) args) (CR CX outer P w H s Q E) s
theorem Env0.make {P:Program} {w:World} {K:Frag} {mg:Str->Option Value} {base:Heap} {A:Around} {outer:List Env} {s:Shared} {H:Hp} (e:Env0 P w K mg base A outer s H) (C:Addr) (us:List Value) (kw:List (Str×Value)):
  Env0 P w K mg base (A.under (.builtin "type.__call__" ⟨.ref C::us,kw⟩)) outer s H:=⟨by first|exact e.frames|(simpa [Around.under,Code.envs,Code.isFrame,pushEnvs] using e.frames),e.mod,e.bs,e.bsz,e.funs,e.frf,e.hok,e.bare⟩
section
variable {X:Cx} {pins:List (Addr×Obj)} {σ:St} {H:Hp} {s s':Shared}
theorem Inv.env0 (I:Inv X pins σ H s):Env0 X.prog X.w X.K X.mg X.base X.A X.stack s H:=
 ⟨I.ok.frames,I.ok.mod,I.bs,Nat.le_trans I.ok.bsz I.sz,I.stack,I.stkFree,I.hok,I.bare⟩
theorem Inv.after {Q:VK} {u:Value} (I:Inv X pins σ H s) (h:CE X.stack X.prog X.w H s Q u s'):EP X pins σ Q u s':=by
 obtain ⟨v,H',os,bare,un,hok,r,q⟩:=h
 obtain ⟨hh,g,d,t,os'⟩:=s'
 obtain rfl:os'=s.os:=os
 exact ⟨v,H',I.call (h':=hh) (g':=g) (d':=d) (t':=t) (ch:= []) un hok bare (λb z=>absurd z (by simp)),r,q⟩
end
def tCall (sp:Sp) (dvs:List V) (E:XK) (t:TA):TE:=λσ H Q=>t σ H λvs H1=>sp (vs++dvs) H1 Q E
def tMeth (C:Addr) (m:Str) (sp:Sp) (dvs:List V) (E:XK) (ta:TE) (t:TA):TE:=λσ H Q=>ta σ H λx H1=> ∃a dx fs,x= .ref a/\H1 a=some (.ins C dx fs)/\fs.lookup m=none/\
 t σ H1 λvs H2=>sp (x::(vs++dvs)) H2 Q E
def tMake (C:Addr) (sp:Sp) (dvs:List V) (E:XK) (t:TA):TE:=λσ H Q=>t σ H λvs H1=> ∀x dx,H1 x=none->H1 dx=none->dx≠x->
 sp (.ref x::(vs++dvs)) (upd (upd H1 dx (.own x)) x (.ins C dx [])) (λv H2=>v= .non/\Q (.ref x) H2) E
def Binds (K:Frag) (fd:FuncData) (ps:List Str) (ds:List Value):Prop:=
 ∀(s:Shared) (us:List Value),K.In s.heap->(us++ds).length=ps.length->BindsTo s fd ⟨us,[]⟩ (ps.zip (us++ds))
theorem Binds.all {K:Frag} {fd:FuncData} {ps:List Str} (h: ∀us:List Value,us.length=ps.length->bindArgs fd ⟨us,[]⟩=pure (ps.zip us)):Binds K fd ps []:=λs us _ hl=>by
 rw [List.append_nil] at hl ⊢
 exact .of_eq (h us hl)
def Passes (CX:CXT) (X:Cx) (E:XK):Prop:= ∀(pins:List (Addr×Obj)) (σ:St) (H:Hp) (s:Shared) (e:Value) (s':Shared),Inv X pins σ H s->CX X.stack H s E e s'->X.xe e s'
section
variable {X:Cx} {CX:CXT} {k:Nat} {f C:Addr} {fd:FuncData} {ps:List Str} {sp:Sp} {dvs:List V} {ds:List Value} {E:XK} {x m:Str} {p pos apos:Pos} {e o:Expr} {es:List Expr} {ta:TE} {t:TA}
theorem run_fn {pins:List (Addr×Obj)} {σ:St} {H:Hp} {s:Shared} {Q:VK} {us:List Value} {vs:List V} (F:FnOk X.prog X.w X.K X.mg X.base CX k f fd ps sp) (hr:Room k X.A) (hb:Binds X.K fd ps ds) (hd:Vals dvs ds) (hx:Passes CX X E)
  (I:Inv X pins σ H s) (r:Vals vs us) (h:sp (vs++dvs) H Q E):wpAny (model X.prog X.w) X.A (call (.ref f) us) (EP X pins σ Q) X.xe s:=by
 have r2:Vals (vs++dvs) (us++ds):=r.append hd
 have hl:(us++ds).length=ps.length:=by rw [<-r2.length];exact F.len _ _ _ _ h
 refine wpAny_call (codeAny_mono (F.run X.A X.stack s H ⟨us,[]⟩ (us++ds) (vs++dvs) Q E hr I.env0 (hb s us I.kIn hl) r2 h) λr s' hq=> ?_)
 cases r with
 |error e=>exact hx pins σ H s e s' I hq
 |ok fl=>
  cases fl with
  |ret u=>exact I.after hq
  |next=>exact False.elim hq
  |brk=>exact False.elim hq
  |cont=>exact False.elim hq
theorem pe_call (F:FnOk X.prog X.w X.K X.mg X.base CX k f fd ps sp) (hr:Room k X.A) (hg:Gl X x) (hm:X.mg x=some (.ref f)) (hk:PySem.W.keepIn X.K (.ref f)=true) (hb:Binds X.K fd ps ds) (hd:Vals dvs ds) (hx:Passes CX X E)
  (ha:PA X (e::es) t) (hdb:(x==("__debug__" :Str))=false:=by decide) (he:starEach (e::es) X.env=(false,eval e X.env)::starEach es X.env:=by rfl) (hpl:(backTo pos (starEach es X.env)).any (·.1)=false:=by rfl):
  PE X (.Call (.Name x p) (e::es) [] pos) (tCall sp dvs E t):=by
 intro pins s σ H Q I h
 refine wpAny_Call_Name_kw (ld_glob I hg hm ?_ hdb)
 refine PySem.W.callWith_K (h₀:=X.base) I.ok.mod.kin hk (thn (ha pos pins s σ H _ I h) λus s1 ⟨vs,H1,I1,r,q⟩=>⟨I1.kIn,?_⟩) he hpl
 exact run_fn F hr hb hd hx I1 r q
theorem pe_meth {pl:Sem Bool} (he:PE X o ta) (c:Cls X.K C) (hm:Meth X.K C m f) (F:FnOk X.prog X.w X.K X.mg X.base CX k f fd ps sp) (hr:Room k X.A) (hb:Binds X.K fd ps ds) (hd:Vals dvs ds) (hx:Passes CX X E) (ha:PA X (e::es) t)
  (hst:starEach (e::es) X.env=(false,eval e X.env)::starEach es X.env:=by rfl) (hpl:(backTo pos (starEach es X.env)).any (·.1)=false:=by rfl)
  (ht:eval (.Call (.Attribute o m apos) (e::es) [] pos) X.env=(do
   let ov <-eval o X.env
   standAt apos.atName
   let (f,first) <-holding [ov] (getMethod ov m pl)
   callWith pos f first (backTo pos (starEach (e::es) X.env)) (backToKw pos (keywordEach [] X.env))):=by rfl):
  PE X (.Call (.Attribute o m apos) (e::es) [] pos) (tMeth C m sp dvs E ta t):=by
 intro pins s σ H Q I h
 refine PySem.W.methodCall_KW (pl:=pl) (thn (he pins s σ H _ I h) λu s1 ⟨x,H1,I1,rx,a,dx,fs,ex,ea,l,q⟩=> ?_) ht
 subst ex
 obtain rfl:u=Value.ref a:=rx
 refine getmeth_ok I1 ea c hm l ?_
 refine PySem.W.callWith_K (first:= [.ref a]) (h₀:=X.base) I.ok.mod.kin hm.kp (thn (ha pos pins s1 σ H1 _ I1 q) λus s2 ⟨vs,H2,I2,r,q2⟩=>⟨I2.kIn,?_⟩) hst hpl
 exact run_fn (us:= .ref a::us) (vs:= .ref a::vs) F hr hb hd hx I2 (.cons rfl r) q2
theorem pe_meth0 {pl:Sem Bool} (he:PE X o ta) (c:Cls X.K C) (hm:Meth X.K C m f) (F:FnOk X.prog X.w X.K X.mg X.base CX k f fd ps sp) (hr:Room k X.A) (hb:Binds X.K fd ps ds) (hd:Vals dvs ds) (hx:Passes CX X E)
  (ht:eval (.Call (.Attribute o m apos) [] [] pos) X.env=(do
   let ov <-eval o X.env
   standAt apos.atName
   let (f,first) <-holding [ov] (getMethod ov m pl)
   callWith pos f first (backTo pos (starEach [] X.env)) (backToKw pos (keywordEach [] X.env))):=by rfl):
  PE X (.Call (.Attribute o m apos) [] [] pos) (tMeth C m sp dvs E ta tNil):=by
 intro pins s σ H Q I h
 refine PySem.W.methodCall_KW (pl:=pl) (thn (he pins s σ H _ I h) λu s1 ⟨x,H1,I1,rx,a,dx,fs,ex,ea,l,q⟩=> ?_) ht
 subst ex
 obtain rfl:u=Value.ref a:=rx
 refine getmeth_ok I1 ea c hm l ?_
 exact PySem.W.callWith_K0 (first:= [.ref a]) I1.kIn hm.kp (run_fn (us:= [.ref a]) (vs:= [.ref a]) F hr hb hd hx I1 (.cons rfl .nil) q)
structure Mk (K:Frag) (C f:Addr):Prop where
 makes:PySem.W.makesIn K C=true
 init:PySem.W.findIn K (.ref C) "__init__" =some (some (.ref f))
 fn:PySem.W.isFn K (.ref f)=true
 kp:PySem.W.keepIn K (.ref C)=true
theorem run_make {pins:List (Addr×Obj)} {σ:St} {H:Hp} {s:Shared} {Q:VK} {us:List Value} {vs:List V} (M:Mk X.K C f) (F:FnOk X.prog X.w X.K X.mg X.base CX k f fd ps sp) (hr:Room (k+1) X.A) (hb:Binds X.K fd ps ds) (hd:Vals dvs ds)
  (hx:Passes CX X E) (I:Inv X pins σ H s) (r:Vals vs us)
  (h: ∀x dx,H x=none->H dx=none->dx≠x->sp (.ref x::(vs++dvs)) (upd (upd H dx (.own x)) x (.ins C dx [])) (λv H2=>v= .non/\Q (.ref x) H2) E):
  wpAny (model X.prog X.w) X.A (call (.ref C) us) (EP X pins σ Q) X.xe s:=by
 have hq:=h (s.heap.objs.size+1) s.heap.objs.size (I.hok.fresh (Nat.le_succ _)) (I.hok.fresh (Nat.le_refl _)) (Nat.ne_of_lt (Nat.lt_succ_self _))
 have I2:=Inv.made (C:=C) I
 have r2:Vals (V.ref (s.heap.objs.size+1)::(vs++dvs)) (Value.ref (s.heap.objs.size+1)::(us++ds)):= .cons rfl (r.append hd)
 have hl:(Value.ref (s.heap.objs.size+1)::us++ds).length=ps.length:=by
  have e:=r2.length
  rw [F.len _ _ _ _ hq] at e
  exact e.symm
 refine wpAny_call (make_map (f:=f) I.kIn M.makes M.init (beq_iff_eq.mp M.fn) (codeAny_mono (F.run _ X.stack _ _ ⟨Value.ref (s.heap.objs.size+1)::us,[]⟩ (Value.ref (s.heap.objs.size+1)::(us++ds)) _ _ E (hr.make C us [])
  (I2.env0.make C us []) (hb _ (Value.ref (s.heap.objs.size+1)::us) I2.kIn hl) r2 hq) λr s' hq'=> ?_))
 cases r with
 |error e=>exact hx pins σ _ _ e s' I2 hq'
 |ok fl=>
  cases fl with
  |ret u=>
   obtain ⟨v,H',I3,rv,ev,q3⟩:=I2.after hq'
   subst ev
   exact ⟨rv,⟨V.ref (s.heap.objs.size+1),H',I3,rfl,q3⟩⟩
  |next=>exact False.elim hq'
  |brk=>exact False.elim hq'
  |cont=>exact False.elim hq'
theorem pe_make (M:Mk X.K C f) (F:FnOk X.prog X.w X.K X.mg X.base CX k f fd ps sp) (hr:Room (k+1) X.A) (hg:Gl X x) (hm:X.mg x=some (.ref C)) (hb:Binds X.K fd ps ds) (hd:Vals dvs ds) (hx:Passes CX X E)
  (ha:PA X (e::es) t) (hdb:(x==("__debug__" :Str))=false:=by decide) (he:starEach (e::es) X.env=(false,eval e X.env)::starEach es X.env:=by rfl) (hpl:(backTo pos (starEach es X.env)).any (·.1)=false:=by rfl):
  PE X (.Call (.Name x p) (e::es) [] pos) (tMake C sp dvs E t):=by
 intro pins s σ H Q I h
 refine wpAny_Call_Name_kw (ld_glob I hg hm ?_ hdb)
 refine PySem.W.callWith_K (h₀:=X.base) I.ok.mod.kin M.kp (thn (ha pos pins s σ H _ I h) λus s1 ⟨vs,H1,I1,r,q⟩=>⟨I1.kIn,?_⟩) he hpl
 exact run_make M F hr hb hd hx I1 r q
end
structure FnScope (N P:List Str) (sc:Scope):Prop where
 kind:sc.kind= .function
 co:sc.isCoroutine=false
 gen:sc.isGenerator=false
 nd:N.Nodup
 pre:N.take P.length=P
 par: ∀x∈P,sc.names.lookup x=some .local\/sc.names.lookup x=some .cell
 nofree: ∀y∈sc.names,y.2≠ .free
theorem bindL_out {kindOf:Str->Option NameKind} {x:Str}: ∀ {binds:List (Str×Value)} {m:Str->Option Value},(∀v,(x,v)∉binds)->bindL kindOf binds m x=m x
 | [],_,_=>rfl
 |(n,v)::r,m,h=>by
  unfold bindL
  rw [bindL_out λw hw=>h w (List.mem_cons_of_mem _ hw)]
  split
  ·have:x≠n:=by rintro rfl;exact h v List.mem_cons_self
   simp [this]
  ·rfl
theorem bindC_out {kindOf:Str->Option NameKind} {x:Str}: ∀ {binds:List (Str×Value)} {m:Str->Option Value},(∀v,(x,v)∉binds)->bindC kindOf binds m x=m x
 | [],_,_=>rfl
 |(n,v)::r,m,h=>by
  unfold bindC
  rw [bindC_out λw hw=>h w (List.mem_cons_of_mem _ hw)]
  split
  ·rfl
  ·have:x≠n:=by rintro rfl;exact h v List.mem_cons_self
   simp [this]
theorem bindL_get {kindOf:Str->Option NameKind} {x:Str} {v:Value}: ∀ {P:List Str} {vs:List Value} {i:Nat} {m:Str->Option Value},P.Nodup->P[i]? =some x->vs[i]? =some v->kindOf x=some .local->
  bindL kindOf (P.zip vs) m x=some v
 | [],_,_,_,_,h,_,_=>by simp at h
 |_::_,[],_,_,_,_,h,_=>by simp at h
 |p::P,w::vs,0,m,nd,h1,h2,hk=>by
  simp at h1 h2;subst h1;subst h2
  show bindL kindOf ((p,w)::P.zip vs) m p=_
  unfold bindL
  rw [bindL_out λv hv=>(List.nodup_cons.mp nd).1 (List.of_mem_zip hv).1,if_pos hk]
  simp
 |p::P,w::vs,i+1,m,nd,h1,h2,hk=>by
  show bindL kindOf ((p,w)::P.zip vs) m x=_
  unfold bindL
  exact bindL_get (i:=i) (List.nodup_cons.mp nd).2 (by simpa using h1) (by simpa using h2) hk
theorem bindC_get {kindOf:Str->Option NameKind} {x:Str} {v:Value}: ∀ {P:List Str} {vs:List Value} {i:Nat} {m:Str->Option Value},P.Nodup->P[i]? =some x->vs[i]? =some v->kindOf x≠some .local->
  bindC kindOf (P.zip vs) m x=some v
 | [],_,_,_,_,h,_,_=>by simp at h
 |_::_,[],_,_,_,_,h,_=>by simp at h
 |p::P,w::vs,0,m,nd,h1,h2,hk=>by
  simp at h1 h2;subst h1;subst h2
  show bindC kindOf ((p,w)::P.zip vs) m p=_
  unfold bindC
  rw [bindC_out λv hv=>(List.nodup_cons.mp nd).1 (List.of_mem_zip hv).1,if_neg hk]
  simp
 |p::P,w::vs,i+1,m,nd,h1,h2,hk=>by
  show bindC kindOf ((p,w)::P.zip vs) m x=_
  unfold bindC
  exact bindC_get (i:=i) (List.nodup_cons.mp nd).2 (by simpa using h1) (by simpa using h2) hk
def start (N:List Str) (vs:List V):St:=vs.map some++List.replicate (N.length - vs.length) none
def cxOf (CX:CXT) (P:Program) (w:World) (K:Frag) (mg:Str->Option Value) (base:Heap) (N:List Str) (qual:Str) (scope:Scope) (f:Addr) (cd:Value) (A:Around) (outer:List Env) (s:Shared) (H:Hp) (E:XK):Cx where
 prog:=P
 w:=w
 K:=K
 mg:=mg
 base:=base
 A:=A.deeper (envOfC qual scope s.heap.objs.size f cd)
 N:=N
 s₀:=s
 H₀:=H
 env:=envOfC qual scope s.heap.objs.size f cd
 outer:=outer
 stack:=envOfC qual scope s.heap.objs.size f cd::outer
 ex:= []
 calm:=true
 fn:=λ_=>true
 pn:= []
 xe:=λe s'=>wpAny (model P w) (A.deeper (envOfC qual scope s.heap.objs.size f cd)) (leaving (envOfC qual scope s.heap.objs.size f cd) e) (λ_ s''=>CX outer H s E e s'') (λe' s''=>CX outer H s E e' s'') s'
theorem cell_has {sc:Scope} {n:Nat} {x:Str} (h:sc.names.lookup x=some .cell): ∃c,(cellsFrom n sc.names []).lookup x=some c:=by
 have q:=PySem.W.cellsFrom_some sc.names n [] (.inl h)
 exact Option.isSome_iff_exists.mp q
theorem inv_start {CX:CXT} {P:Program} {w:World} {K:Frag} {mg:Str->Option Value} {base:Heap} {N ps:List Str} {qual:Str} {scope:Scope} {f:Addr} {cd:Value} {A:Around} {outer:List Env} {s s1:Shared} {H:Hp} {E:XK} {us:List Value} {vs:List V}
  (S:FnScope N ps scope) (hd:A.handled=none) (e0:Env0 P w K mg base A outer s H) (hl:vs.length=ps.length) (r:Vals vs us)
  (x:InCallC s s.heap.objs.size (bindL (envOfC qual scope s.heap.objs.size f cd).kindOf (ps.zip us) λ_=>none) (cellsFrom (s.heap.objs.size+1) scope.names []) (bindC (envOfC qual scope s.heap.objs.size f cd).kindOf (ps.zip us) λ_=>none) s1):
  Inv (cxOf CX P w K mg base N qual scope f cd A outer s H E) [] (start N vs) H s1:=by
 have hpl:ps.length<=N.length:=by have:=congrArg List.length S.pre;rw [List.length_take] at this;omega
 obtain ⟨h1,tk,rfl,hk⟩:=x.done
 have noA: ∀b:Addr,b∉(cxOf CX P w K mg base N qual scope f cd A outer s H E).ex:=λb z=>absurd (show b∈([]:List Addr) from z) (by simp)
 refine ⟨⟨e0.mod,S.kind,rfl,rfl,Nat.le_refl _,λy z c h1 h2=> ?_,λy hy=> ?_,λy c _ h=> ?_,λ_=>hd,Around.frames_deeper e0.frames,.inr ⟨rfl,rfl⟩,λb z=>absurd z (noA b),e0.bs,e0.bsz,λb _ _=>noA b,λb z=>absurd z (noA b),e0.funs,e0.frf⟩,
  rfl,e0.bare,Un.kept hk,⟨_,x.toInCall.ns,λi y v h1 h2 h3=> ?_⟩,λy c h=>⟨_,x.cell y c h⟩,e0.hok.fresh (Nat.le_refl _),λy c h=> ?_,λp hp=>absurd (show p∈([]:List (Addr×Obj)) from hp) (by simp),e0.hok.kept hk,?_⟩
 ·exact name_of_addr x.apart (PySem.mem_of_lookup h1) (PySem.mem_of_lookup h2)
 ·have hy:scope.names.lookup y=some .cell\/scope.names.lookup y=some .free:=hy
  rcases hy with hy|hy
  ·exact cell_has hy
  ·exact absurd rfl (S.nofree _ (PySem.mem_of_lookup hy))
 ·exact Nat.le_of_lt (x.above y c (PySem.mem_of_lookup h))
 ·have hi:i<vs.length:=by
   unfold start at h2
   by_cases hi:i<vs.length
   ·exact hi
   ·rw [List.getElem?_append_right (by simpa using hi)] at h2
    rw [List.getElem?_replicate] at h2
    split at h2<;>cases h2
  have ha:vs[i]? =some v:=by
   unfold start at h2
   rw [List.getElem?_append_left (by simpa using hi),List.getElem?_map] at h2
   cases e:vs[i]? with
   |none=>rw [e] at h2;cases h2
   |some a=>rw [e] at h2;cases h2;rfl
  obtain ⟨u,hu,rv⟩:=r.get ha
  have hp:ps[i]? =some y:=by
   rw [<-S.pre,List.getElem?_take_of_lt (by omega)];exact h1
  have ndP:ps.Nodup:=by rw [<-S.pre];exact S.nd.sublist (List.take_sublist _ _)
  refine ⟨u,rv,?_⟩
  rcases S.par y (List.mem_of_getElem? hp) with k|k
  ·exact .inl ⟨k,bindL_get ndP hp hu k⟩
  ·obtain ⟨c,e⟩:=cell_has (n:=s.heap.objs.size+1) k
   refine .inr ⟨.inl k,c,e,?_⟩
   have q:=x.cell y c e
   rw [bindC_get ndP hp hu (by show scope.names.lookup y≠_;rw [k];decide)] at q
   exact q
 ·exact e0.hok.fresh (Nat.le_of_lt (x.above y c (PySem.mem_of_lookup h)))
 ·unfold start
  show _=N.length
  rw [List.length_append,List.length_map,List.length_replicate]
  omega
theorem fn_of {CX:CXT} {P:Program} {w:World} {K:Frag} {mg:Str->Option Value} {base:Heap} {k:Nat} {f:Addr} {name qual:Str} {params:Arguments} {body:List Stmt} {scope:Scope} {dV kV doc pm cdv ct oc:Value} {an od:Option Addr}
  {osl:Array (Option Value)} {N ps:List Str} {sp:Sp} (lk:K.lookup f=some ⟨oc,od,.func (PySem.W.fnOf name qual params body scope dV kV doc pm an cdv ct),osl⟩) (hcd:PySem.W.codeIn K cdv qual=true) (S:FnScope N ps scope)
  (len: ∀vs H Q E,sp vs H Q E->vs.length=ps.length)
  (hbody: ∀(A:Around) (outer:List Env) (s:Shared) (H:Hp) (vs:List V) (Q:VK) (E:XK),Room k (A.deeper (envOfC qual scope s.heap.objs.size f cdv))->sp vs H Q E->
   ∃t,PSs (cxOf CX P w K mg base N qual scope f cdv A outer s H E) body t/\t {nx:=λ_ H'=>Q .non H',rt:=Q} (start N vs) H):
  FnOk P w K mg base CX (k+1) f (PySem.W.fnOf name qual params body scope dV kV doc pm an cdv ct) ps sp:=by
 refine ⟨len,λA outer s H args us vs Q E hr e0 hb r hsp=> ?_⟩
 have hl:=len _ _ _ _ hsp
 have KX:K.In s.heap:=e0.mod.kin.keeps λb o e=>(e0.bs b o e).1
 have lim:s.heap.NoLimit:=e0.mod.nolimit.keeps λb o e=>(e0.bs b o e).1
 have hkind: ∀y∈ps.zip us,scope.names.lookup y.1=some .local\/(scope.names.lookup y.1=some .cell/\((cellsFrom (s.heap.objs.size+1) scope.names []).lookup y.1).isSome=true):=λ⟨n,v⟩ hy=>by
  rcases S.par n (List.of_mem_zip hy).1 with q|q
  ·exact .inl q
  ·exact .inr ⟨q,PySem.W.cellsFrom_some _ _ _ (.inl q)⟩
 refine codeAny_call_function hr.depth (KX _ _ lk) rfl S.co S.gen rfl (PySem.W.codeRec_of KX hcd) (hb _ _ _ _ ?_)
 refine wpAny_newFunctionEnv_cells S.kind hkind λenv he s1 x=> ?_
 subst he
 refine ⟨lim.keeps x.toInCall.keep,codeAny_func ?_⟩
 obtain ⟨t,ht,hq⟩:=hbody A outer s H vs Q E (hr.deeper _) hsp
 have I:Inv (cxOf CX P w K mg base N qual scope f cdv A outer s H E) [] (start N vs) H s1:=inv_start S hr.hd e0 hl r x
 refine wpAny_mono (ht [] s1 (start N vs) H _ I hq) (λfl s' hs=> ?_) λe s' hs=>hs
 have fin: ∀ {σ':St} {H':Hp} {v:V} {u:Value},Inv (cxOf CX P w K mg base N qual scope f cdv A outer s H E) [] σ' H' s'->RelV v u->Q v H'->CE outer P w H s Q u s':=
  λ{σ' H' v u} J rv q=>⟨v,H',J.os,J.bare,J.base,J.hok,rv,q⟩
 cases fl with
 |ret u=>
  obtain ⟨v,σ',H',J,rv,q⟩:=hs
  exact fin J rv q
 |next=>
  obtain ⟨σ',H',J,q⟩:=hs
  exact fin (v:=V.non) (u:=Value.none) J rfl q
 |brk=>
  obtain ⟨_,_,_,q⟩:=hs
  exact False.elim q
 |cont=>
  obtain ⟨_,_,_,q⟩:=hs
  exact False.elim q
section
variable {X:Cx} {x:Str} {p pos:Pos} {e:Expr} {es:List Expr} {t:TA} {id T:String} {r:List V->Hp->VK->Prop}
def tCB (r:List V->Hp->VK->Prop) (t:TA):TE:=λσ H Q=>t σ H λvs H1=>r vs H1 Q
theorem pe_callB (hc:CallR X (.builtin id) r) (hg:Gl X x) (hm:X.mg x=none) (hv:bootBuiltins x=some (.builtin id)) (ha:PA X (e::es) t) (hn:x≠ "__name__" :=by decide) (hdb:(x==("__debug__" :Str))=false:=by decide)
  (he:starEach (e::es) X.env=(false,eval e X.env)::starEach es X.env:=by rfl) (hpl:(backTo pos (starEach es X.env)).any (·.1)=false:=by rfl):PE X (.Call (.Name x p) (e::es) [] pos) (tCB r t):=by
 intro pins s σ H Q I h
 refine wpAny_Call_Name_kw (ld_blt I hg hm hv ?_ hn hdb)
 exact PyProof.Rows.callWith_builtin1 (thn (ha pos pins s σ H _ I h) λus s1 ⟨vs,H1,I1,r1,q1⟩=>hc pins s1 σ H1 vs us Q I1 r1 q1) he hpl
theorem pe_callTy (hc:CallR X (.type T) r) (hg:Gl X x) (hm:X.mg x=none) (hv:bootBuiltins x=some (.type T)) (ha:PA X (e::es) t) (hn:x≠ "__name__" :=by decide) (hdb:(x==("__debug__" :Str))=false:=by decide)
  (he:starEach (e::es) X.env=(false,eval e X.env)::starEach es X.env:=by rfl) (hpl:(backTo pos (starEach es X.env)).any (·.1)=false:=by rfl):PE X (.Call (.Name x p) (e::es) [] pos) (tCB r t):=by
 intro pins s σ H Q I h
 refine wpAny_Call_Name_kw (ld_blt I hg hm hv ?_ hn hdb)
 exact PyProof.Rows.callWith_type1 (thn (ha pos pins s σ H _ I h) λus s1 ⟨vs,H1,I1,r1,q1⟩=>hc pins s1 σ H1 vs us Q I1 r1 q1) he hpl
end
end L2
namespace HT
open PySem PyProof.Rows
def lexLt:List Int->List Int->Bool
 | [],[]=>false
 | [],_::_=>true
 |_::_,[]=>false
 |x::xs,y::ys=>if x=y then lexLt xs ys else decide (x<y)
theorem lexLt_cons (x y:Int) (xs ys:List Int):lexLt (x::xs) (y::ys)=if x=y then lexLt xs ys else decide (x<y):=rfl
theorem lexLt_nil_nil:lexLt [] []=false:=rfl
theorem lexLt_nil_cons (y:Int) (ys:List Int):lexLt [] (y::ys)=true:=rfl
theorem lexLt_cons_nil (x:Int) (xs:List Int):lexLt (x::xs) []=false:=rfl
theorem eqAt_int (A:Around) (s:Shared) (a:Int) (t:Tok) (c:Int) (u:Tok): ∃e,SeqAt.EqAt A s (.int a t) (.int c u) e/\(e=true↔a=c):=
 ⟨(a==c),SeqAt.EqAt.int_int a t c u,by simp⟩
section
variable {prog:Program} {w:World} {A:Around} {E:Value->Shared->Prop} {s:Shared}
theorem cat_tup {t b:Addr} {vs ws:List Value} {Q:Value->Shared->Prop} (ht:IsTup s.heap t vs.toArray) (hb:IsTup s.heap b ws.toArray) (hv:vs≠ [])
  (h1:ws= []->Q (.ref t) s) (h2:ws≠ []->Q (.ref s.heap.objs.size) {s with heap:=s.heap.push {cls:= .type "tuple",data:= .seq (vs++ws).toArray}})
  (hsz:vs.length+ws.length<=sizeLine):wpAny (model prog w) A (binaryOp .Add (.ref t) (.ref b)) Q E s:=by
 obtain ⟨⟨cls,dd,data,sl⟩,ho,hc,n,hd⟩:=id ht
 obtain ⟨⟨cls2,dd2,data2,sl2⟩,ho2,hc2,n2,hd2⟩:=id hb
 simp only at hc hd hc2 hd2
 subst hc hd hc2 hd2
 have e:vs.toArray++ws.toArray=(vs++ws).toArray:=by simp
 by_cases hw:ws= []
 ·exact concat_meets ⟨_,ho,rfl⟩ ⟨_,ho2,rfl⟩ noFill_tuple_add seq_tuple_add PySem.F.slot_tuple_add PySem.F.entry_tuple_add (PySem.F.args_tuple_add_2 _ _)
   (tuple_addW1 t b vs.toArray ws.toArray n n2 dd dd2 sl sl2 (by simpa using hv) (by simp [hw])) ⟨ho,ho2,h1 hw⟩
 ·refine concat_meets ⟨_,ho,rfl⟩ ⟨_,ho2,rfl⟩ noFill_tuple_add seq_tuple_add PySem.F.slot_tuple_add PySem.F.entry_tuple_add (PySem.F.args_tuple_add_2 _ _)
   (tuple_addW2 t b vs.toArray ws.toArray n n2 dd dd2 sl sl2 (by simpa using hv) (by simpa using hw) (by rw [List.size_toArray,List.size_toArray];exact hsz)) ⟨ho,ho2,?_⟩
  rw [e]
  exact h2 hw
def sIx (n d:Nat):Option Int->Nat
 |none=>d
 |some v=>if v<0 then (v+(n:Int)).toNat else min v.toNat n
theorem sIx_le (n d:Nat) (hd:d<=n) (o:Option Int):sIx n d o<=n:=by
 cases o with
 |none=>exact hd
 |some v=>
  show (if v<0 then (v+(n:Int)).toNat else min v.toNat n)<=n
  by_cases hv:v<0
  ·rw [if_pos hv];omega
  ·rw [if_neg hv];exact Nat.min_le_right _ _
theorem clip_eq (v:Int) (n d:Nat):(if v<0 then max (v+(n:Int)) 0 else min v (n:Int))=((sIx n d (some v):Nat):Int):=by
 show (if v<0 then max (v+(n:Int)) 0 else min v (n:Int))=(((if v<0 then (v+(n:Int)).toNat else min v.toNat n):Nat):Int)
 by_cases hv:v<0
 ·simp only [if_pos hv];omega
 ·simp only [if_neg hv];omega
theorem adjust_gen (lo hi:Option Int) (n:Nat):Builtin.Slice.sliceAdjust lo hi 1 (n:Int)=(((sIx n 0 lo:Nat):Int),((sIx n n hi:Nat):Int)):=by
 have h1: ¬((1:Int)<0):=by omega
 unfold Builtin.Slice.sliceAdjust
 simp only [h1,if_false]
 refine Prod.ext ?_ ?_
 ·cases lo with
  |none=>rfl
  |some v=>exact clip_eq v n 0
 ·cases hi with
  |none=>rfl
  |some v=>exact clip_eq v n n
theorem places_gen (i j:Nat):Builtin.Slice.slicePlaces (i:Int) (j:Int) 1=j - i:=by
 unfold Builtin.Slice.slicePlaces
 have h1:(1:Int)>0:=by omega
 simp only [h1,if_true,Int.ediv_one]
 split<;>omega
theorem slicePart_ {v:Value} {o:Option Int} {Q:Option Int->Shared->Prop} (p:IsPart v o) (h:Q o s):wpAny (model prog w) A (Builtin.Slice.slicePartIndex v) Q E s:=by
 cases p with
 |none=>exact slicePart_none h
 |int i t=>exact slicePart_int h
theorem sliceApplied_gen {sl:Addr} {vl vu:Value} {lo hi:Option Int} {n:Nat} {Q:Int×Int×Nat->Shared->Prop} (hs:s.heap.IsSliceOf sl vl vu .none) (pl:IsPart vl lo) (pu:IsPart vu hi)
  (h:Q (((sIx n 0 lo:Nat):Int),1,sIx n n hi - sIx n 0 lo) s):wpAny (model prog w) A (Builtin.Slice.sliceApplied (.ref sl) (pure (n:Int))) Q E s:=by
 obtain ⟨os,hos,hcs,hds⟩:=id hs
 unfold Builtin.Slice.sliceApplied Builtin.Slice.sliceFields
 refine wpAny_bind (wpAny_bind (wpAny_field hos hds (x:=vl) rfl (wpAny_bind (wpAny_field hos hds (x:=vu) rfl (wpAny_bind (wpAny_field hos hds (x:= .none) rfl (wpAny_pure ?_)))))))
 refine wpAny_bind (slicePart_none ?_)
 show wpAny _ _ (if ((1:Int)==0)=true then _ else _) _ _ s
 rw [if_neg (by decide)]
 refine wpAny_bind (slicePart_ pl (wpAny_bind (slicePart_ pu (wpAny_bind (wpAny_pure ?_)))))
 show wpAny _ _ (match Builtin.Slice.sliceAdjust lo hi 1 (n:Int) with|(lo,hi)=>pure (lo,(1:Int),Builtin.Slice.slicePlaces lo hi 1)) _ _ s
 rw [adjust_gen lo hi n]
 show wpAny _ _ (pure (((sIx n 0 lo:Nat):Int),(1:Int),Builtin.Slice.slicePlaces ((sIx n 0 lo:Nat):Int) ((sIx n n hi:Nat):Int) 1)) _ _ s
 rw [places_gen]
 exact wpAny_pure h
theorem pick_gen (xs:Array Value) (i k:Nat):((List.range k).filterMap λ(m:Nat)=>xs[((i:Int)+(m:Int)*1).toNat]?).toArray=((xs.toList.drop i).take k).toArray:=by
 have e:(λ(m:Nat)=>xs[((i:Int)+(m:Int)*1).toNat]?)=λm=>xs[i+m]? :=by
  funext m
  have:((i:Int)+(m:Int)*1).toNat=i+m:=by omega
  rw [this]
 rw [e]
 have:=pick_run xs i k
 rw [List.filterMap_map] at this
 have e2:((λx=>xs[x]?) ∘ λx=>i+x)=λm=>xs[i+m]? :=rfl
 rw [e2] at this
 rw [this]
theorem getItem_tuple_cut {t sl:Addr} {items:Array Value} {vl vu:Value} {lo hi:Option Int} {Q:Value->Shared->Prop} (ht:IsTup s.heap t items) (hs:s.heap.IsSliceOf sl vl vu .none) (pl:IsPart vl lo) (pu:IsPart vu hi)
  (hw: ¬(sIx items.size 0 lo=0/\sIx items.size items.size hi=items.size))
  (h:Q (.ref s.heap.objs.size) {s with heap:=s.heap.push {cls:= .type "tuple",data:= .seq ((items.toList.drop (sIx items.size 0 lo)).take (sIx items.size items.size hi - sIx items.size 0 lo)).toArray}})
  (hsz:items.size<=sizeLine):wpAny (model prog w) A (getItem (.ref t) (.ref sl)) Q E s:=by
 have htake:sizeOk (.seq ((items.toList.drop (sIx items.size 0 lo)).take (sIx items.size items.size hi - sIx items.size 0 lo)).toArray):=by
  show ((items.toList.drop (sIx items.size 0 lo)).take (sIx items.size items.size hi - sIx items.size 0 lo)).toArray.size<=sizeLine
  rw [List.size_toArray,List.length_take,List.length_drop,Array.length_toList]
  omega
 have hj:sIx items.size items.size hi<=items.size:=sIx_le _ _ (Nat.le_refl _) hi
 obtain ⟨os,hos,hcs,hds⟩:=id hs
 have hTs:s.TypeIs (.ref sl) "slice" :=⟨os,hos,hcs⟩
 unfold getItem
 try with_reducible refine wpAny_holding ?_
 first|refine wpAny_bind (wpAny_pure ?_)|skip
 refine wpAny_bind (wpAny_sequenceKey ht.typeIs (by decide) ?_)
 refine wpAny_bind (wpAny_callSpecial?_slot (name:=Str.ofString "__getitem__") ht.typeIs PyProof.Rows.slot_tuple_getitem
  (wpAny_call_entry PyProof.Rows.slot_tuple_getitem ht.typeIs entry_tuple_getitem ?_ (args_tuple_getitem _ _)))
 show wpAny _ _ (Builtin.Tuple.tupleItemsOf (.ref t)>>=_) _ _ s
 refine wpAny_bind (tupleItemsOf_ ht ?_)
 refine wpAny_bind (wpAny_typeOf hTs ?_)
 rw [if_pos (by decide)]
 refine wpAny_bind (sliceApplied_gen hs pl pu ?_)
 have hno: ¬((((sIx items.size 0 lo:Nat):Int)==0 && (1:Int)==1 && (sIx items.size items.size hi - sIx items.size 0 lo)==items.size)=true):=by
  intro q
  rw [Bool.and_eq_true,Bool.and_eq_true] at q
  have q1:((sIx items.size 0 lo:Nat):Int)=0:=eq_of_beq q.1.1
  have q2:sIx items.size items.size hi - sIx items.size 0 lo=items.size:=eq_of_beq q.2
  exact hw ⟨by omega,by omega⟩
 show wpAny _ _ (if (((sIx items.size 0 lo:Nat):Int)==0 && (1:Int)==1 && (sIx items.size items.size hi - sIx items.size 0 lo)==items.size)=true then _ else _) _ _ s
 rw [if_neg hno,pick_gen]
 first
  |exact wpAny_bind (m:=Builtin.Tuple.tupleExact _) (wpAny_newObj_type (wpAny_pure ⟨_,rfl,wpAny_pure h⟩) htake)
  |exact wpAny_bind (m:=Builtin.Tuple.tupleExact _) (wpAny_newObj_type (wpAny_bind (wpAny_pure (wpAny_pure ⟨_,rfl,wpAny_pure h⟩))) htake)
  |exact wpAny_bind (wpAny_bind (m:=Builtin.Tuple.tupleExact _) (wpAny_newObj_type (wpAny_pure (wpAny_pure ⟨_,rfl,wpAny_pure h⟩)) htake))
  |exact wpAny_bind (wpAny_bind (m:=Builtin.Tuple.tupleExact _) (wpAny_newObj_type (wpAny_pure ⟨_,rfl,wpAny_pure h⟩) htake))
end
end HT
namespace L2
open PySem PySem.Spec PyProof.Rows
abbrev TO:=St->Hp->(Option Int->Hp->Prop)->Prop
def PO (X:Cx) (e:Option Expr) (t:TO):Prop:=
 ∀(pins:List (Addr×Obj)) (s:Shared) (σ:St) (H:Hp) (Q:Option Int->Hp->Prop),Inv X pins σ H s->t σ H Q->
  wpAny (model X.prog X.w) X.A (evalPart e X.env) (λu s'=> ∃o H',Inv X pins σ H' s'/\IsPart u o/\Q o H') X.xe s
def tNoPart:TO:=λ_ H Q=>Q none H
def tPart (t:TE):TO:=λσ H Q=>t σ H λx H1=> ∃i,x= .int i/\Q (some i) H1
theorem intsAre_of {ns:List Int}: ∀ {us:List Value},Vals (ns.map V.int) us->IntsAre us ns:=by
 induction ns with
 |nil=>intro us r;rw [List.map_nil] at r;cases r;exact .nil
 |cons n ns ih=>
  intro us r
  rw [List.map_cons] at r
  cases r with
  |cons r1 r2=>
   obtain ⟨t,e⟩:=r1
   subst e
   exact .cons n t (ih r2)
section
variable {X:Cx} {e:Expr} {te:TE} {lo hi:Option Expr} {tl th:TO} {pos p2:Pos}
theorem po_none:PO X none tNoPart:=by
 intro pins s σ H Q I h
 rw [evalPart_none]
 exact wpAny_pure ⟨none,H,I,.none,h⟩
theorem po_some (h:PE X e te):PO X (some e) (tPart te):=by
 intro pins s σ H Q I hw
 rw [evalPart_some]
 refine thn (h pins s σ H _ I hw) λu s1 ⟨x,H1,I1,r1,q1⟩=> ?_
 obtain ⟨i,rfl,q⟩:=q1
 obtain ⟨t,rfl⟩:=r1
 exact ⟨some i,H1,I1,.int i t,q⟩
def SlR (X:Cx) (r:V->Option Int->Option Int->Hp->VK->Prop):Prop:=
 ∀(pins:List (Addr×Obj)) (s:Shared) (σ:St) (H:Hp) (x:V) (v vl vu:Value) (lo hi:Option Int) (sl:Addr) (Q:VK),Inv X pins σ H s->RelV x v->s.heap.IsSliceOf sl vl vu .none->IsPart vl lo->IsPart vu hi->r x lo hi H Q->
  ∃T id,typeLookup (.type T) "__getitem__" =pure (some (.builtin id))/\s.TypeIs v T/\wpAny (model X.prog X.w) X.A (getItem v (.ref sl)) (EP X pins σ Q) X.xe s
def tSl (r:V->Option Int->Option Int->Hp->VK->Prop) (te:TE) (tl th:TO):TE:=λσ H Q=>te σ H λx H1=>tl σ H1 λl H2=>th σ H2 λu H3=>r x l u H3 Q
theorem pe_slice {r:V->Option Int->Option Int->Hp->VK->Prop} (hr:SlR X r) (he:PE X e te) (hl:PO X lo tl) (hu:PO X hi th):PE X (.Subscript e (.Slice lo hi none p2) pos) (tSl r te tl th):=by
 intro pins s σ H Q I h
 refine Subscript_ (thn (he pins s σ H _ I h) λv s1 ⟨x,H1,I1,r1,q1⟩=> ?_)
 refine wpAny_Slice (thn (hl pins s1 σ H1 _ I1 q1) λvl s2 ⟨l,H2,I2,pl,q2⟩=>thn (hu pins s2 σ H2 _ I2 q2) λvu s3 ⟨u,H3,I3,pu,q3⟩=> ?_)
 rw [evalPart_none]
 refine wpAny_pure ?_
 have I4:Inv X pins σ H3 {s3 with heap:=s3.heap.push {cls:= .type "slice",data:= .fields #[vl,vu,.none]}}:=I3.kept (t':=s3.toks) λb ob q=>Heap.get?_push_of_some _ q
 obtain ⟨T,id,hT,ht,hg⟩:=hr pins {s3 with heap:=s3.heap.push {cls:= .type "slice",data:= .fields #[vl,vu,.none]}} σ H3 x v vl vu l u s3.heap.objs.size Q I4 r1 (Heap.IsSliceOf.new ..) pl pu q3
 show wpAny (model X.prog X.w) X.A (subscriptTail e (.Slice lo hi none p2) v (.ref s3.heap.objs.size)) (EP X pins σ Q) X.xe {s3 with heap:=s3.heap.push {cls:= .type "slice",data:= .fields #[vl,vu,.none]}}
 exact tail_any (ops:= [.ref s3.heap.objs.size,v]) ht hT hg (by with_unfolding_all rfl)
def cutV (xs:List V) (lo hi:Option Int):List V:=(xs.drop (HT.sIx xs.length 0 lo)).take (HT.sIx xs.length xs.length hi - HT.sIx xs.length 0 lo)
theorem cutV_length (xs:List V) (lo hi:Option Int):(cutV xs lo hi).length<=xs.length:=by
 unfold cutV
 rw [List.length_take,List.length_drop]
 omega
def rSlT (K:Frag):V->Option Int->Option Int->Hp->VK->Prop:=λx lo hi H Q=> ∃a xs,x= .ref a/\SqT K H a xs/\
 ¬(HT.sIx xs.length 0 lo=0/\HT.sIx xs.length xs.length hi=xs.length)/\ ∀p,H p=none->Q (.ref p) (upd H p (.tup (cutV xs lo hi)))
theorem sl_tup:SlR X (rSlT X.K):=by
 intro pins s σ H x v vl vu lo hi sl Q I rx hs pl pu h
 obtain ⟨a,xs,rfl,hx,hw,q⟩:=h
 cases rx
 obtain ⟨its,r,ht,hz⟩:=I.tuple hx
 have hlen:its.toArray.size=xs.length:=by rw [List.size_toArray];exact r.length.symm
 refine ⟨"tuple",_,PyProof.Rows.slot_tuple_getitem.lookup,ht.typeIs,?_⟩
 refine HT.getItem_tuple_cut ht hs pl pu (by rw [hlen];exact hw) ?_ (by rw [hlen];exact hz)
 rw [hlen]
 refine ⟨.ref s.heap.objs.size,_,I.laid (t':=s.toks) (o:= .tup (cutV xs lo hi)) (λb ob q=>Heap.get?_push_of_some _ q) (Nat.le_refl _) ?_,rfl,q _ (I.hok.fresh (Nat.le_refl _))⟩
 exact ⟨Nat.le_trans (cutV_length xs lo hi) hz,_,(r.drop (HT.sIx xs.length 0 lo)).take (HT.sIx xs.length xs.length hi - HT.sIx xs.length 0 lo),IsTup.new _ _⟩
def rCatT (K:Frag):R2:=λx y H Q=> ∃a b xs ys,x= .ref a/\y= .ref b/\SqT K H a xs/\SqT K H b ys/\xs≠ []/\xs.length+ys.length<=sizeLine/\
 (ys= []->Q (.ref a) H)/\(ys≠ []-> ∀p,H p=none->Q (.ref p) (upd H p (.tup (xs++ys))))
theorem Vals.nil_iff {xs:List V} {us:List Value} (r:Vals xs us):us= []↔xs= []:=by
 cases r with
 |nil=>simp
 |cons _ _=>simp
theorem op_catT:OpR X (binaryOp .Add) (rCatT X.K):=by
 intro pins s σ H x y v u Q I rx ry h
 obtain ⟨a,b,xs,ys,rfl,rfl,ha,hb,hx,hz,q1,q2⟩:=h
 cases rx
 cases ry
 obtain ⟨its,r1,p1,_⟩:=I.tuple ha
 obtain ⟨its2,r2,p2,_⟩:=I.tuple hb
 refine HT.cat_tup p1 p2 (λz=>hx (r1.nil_iff.mp z)) (λz=>⟨.ref a,H,I,rfl,q1 (r2.nil_iff.mp z)⟩) (λz=> ?_) (by rw [<-r1.length, <-r2.length];exact hz)
 refine ⟨.ref s.heap.objs.size,_,I.laid (t':=s.toks) (o:= .tup (xs++ys)) (λb ob q=>Heap.get?_push_of_some _ q) (Nat.le_refl _) ?_,rfl,q2 (λw=>z (r2.nil_iff.mpr w)) _ (I.hok.fresh (Nat.le_refl _))⟩
 exact ⟨by rw [List.length_append];exact hz,_,r1.append r2,IsTup.new _ _⟩
end
noncomputable def ixN (n:Nat) (i:Int):Option Nat:=if 0<=i then (if i<n then some i.toNat else none) else if -(n:Int)<=i then some (i+n).toNat else none
noncomputable def atI {α:Type} (xs:List α) (i:Int):Option α:=(ixN xs.length i).bind λj=>xs[j]?
theorem ixN_seq {n:Nat} {i:Int} {j:Nat} (h:ixN n i=some j):seqIndex? i n=some j/\j<n/\ -(n:Int)<=i/\i<n:=by
 unfold ixN at h
 by_cases h0:0<=i
 ·rw [if_pos h0] at h
  by_cases h1:i<n
  ·rw [if_pos h1] at h
   have e:i.toNat=j:=Option.some.inj h
   exact ⟨by rw [seqIndex_of h0 h1,e],by omega,by omega,h1⟩
  ·rw [if_neg h1] at h;cases h
 ·rw [if_neg h0] at h
  by_cases h1: -(n:Int)<=i
  ·rw [if_pos h1] at h
   have e:(i+n).toNat=j:=Option.some.inj h
   exact ⟨by rw [seqIndex_neg (by omega) h1,e],by omega,h1,by omega⟩
  ·rw [if_neg h1] at h;cases h
theorem atI_get {α:Type} {xs:List α} {i:Int} {v:α} (h:atI xs i=some v): ∃j,seqIndex? i xs.length=some j/\xs[j]? =some v/\j<xs.length/\ -(xs.length:Int)<=i/\i<xs.length:=by
 unfold atI at h
 cases e:ixN xs.length i with
 |none=>rw [e] at h;cases h
 |some j=>
  rw [e] at h
  obtain ⟨h1,h2,h3,h4⟩:=ixN_seq e
  exact ⟨j,h1,h,h2,h3,h4⟩
def PlainIx (b:Expr):Prop:= ∀o i,subscripted b false o i=operate [o,i] (getItem o i)
def IxR (X:Cx) (r:R2):Prop:=
 ∀(value slice:Expr) (pins:List (Addr×Obj)) (s:Shared) (σ:St) (H:Hp) (x y:V) (v u:Value) (Q:VK),Inv X pins σ H s->RelV x v->RelV y u->r x y H Q->
  subscripted slice false v u=operate [v,u] (getItem v u)->wpAny (model X.prog X.w) X.A (subscriptTail value slice v u) (EP X pins σ Q) X.xe s
def MtR (X:Cx) (id:String) (r:V->List V->Hp->VK->Prop):Prop:=
 ∀(pins:List (Addr×Obj)) (s:Shared) (σ:St) (H:Hp) (x:V) (xs:List V) (v:Value) (us:List Value) (Q:VK),Inv X pins σ H s->RelV x v->Vals xs us->r x xs H Q->
  wpAny (model X.prog X.w) X.A (call (.builtin id) (v::us)) (EP X pins σ Q) X.xe s
section
variable {X:Cx} {a b:Expr} {ta tb:TE} {pos:Pos}
theorem pe_ix {r:R2} (hr:IxR X r) (ha:PE X a ta) (hb:PE X b tb) (hs:PlainIx b):PE X (.Subscript a b pos) (tOp r ta tb):=by
 intro pins s σ H Q I h
 exact Subscript_ (binT ha hb I h λv u s2 x y H2 I2 rx ry q=>hr a b pins s2 σ H2 x y v u Q I2 rx ry q (hs _ _))
def rIxL (K:Frag):R2:=λx y H Q=> ∃p xs i v,x= .ref p/\y= .int i/\SqL K H p xs/\atI xs i=some v/\Q v H
def rIxT (K:Frag):R2:=λx y H Q=> ∃p xs i v,x= .ref p/\y= .int i/\SqT K H p xs/\atI xs i=some v/\Q v H
theorem ix_list:IxR X (rIxL X.K):=by
 intro value slice pins s σ H x y v u Q I rx ry h hs
 obtain ⟨p,xs,i,z,rfl,rfl,hq,he,q⟩:=h
 cases rx
 obtain ⟨t,rfl⟩:=ry
 obtain ⟨its,r,pl,hz⟩:=I.list hq
 obtain ⟨j,h1,h2,h3,h4,h5⟩:=atI_get he
 obtain ⟨w,ew,rw'⟩:=r.get h2
 have hl:=r.length
 have hn:=line63
 have fin:EP X pins σ Q w s:=⟨z,H,I,rw',q⟩
 by_cases h0:0<=i
 ·have hj:i.toNat=j:=by
   rw [seqIndex_of h0 h5] at h1
   exact Option.some.inj h1
  exact item_listR pl.isList h0 (by omega) (by rw [hj];simpa using ew) fin hs
 ·have hj:(i+(its.toArray.size:Int)).toNat=j:=by
   rw [seqIndex_neg (by omega) h4] at h1
   rw [List.size_toArray, <-hl]
   exact Option.some.inj h1
  exact subscriptTail_builtinR (x:=w) pl.isList.typeIs slot_list_getitem.lookup
   (wpAny_getItem_list_neg (Q:=λr s'=>r=w/\EP X pins σ Q r s') pl.isList (by omega) (by rw [List.size_toArray]<;>omega) (by omega) (by rw [hj];simpa using ew) ⟨rfl,fin⟩) hs
theorem ix_tup:IxR X (rIxT X.K):=by
 intro value slice pins s σ H x y v u Q I rx ry h hs
 obtain ⟨p,xs,i,z,rfl,rfl,hq,he,q⟩:=h
 cases rx
 obtain ⟨t,rfl⟩:=ry
 obtain ⟨its,r,pl,hz⟩:=I.tuple hq
 obtain ⟨j,h1,h2,h3,h4,h5⟩:=atI_get he
 obtain ⟨w,ew,rw'⟩:=r.get h2
 have hl:=r.length
 have hn:=line63
 have fin:EP X pins σ Q w s:=⟨z,H,I,rw',q⟩
 exact subscriptTail_builtinR (x:=w) pl.typeIs slot_tuple_getitem.lookup
  (getItem_tuple (j:=j) (Q:=λr s'=>r=w/\EP X pins σ Q r s') pl (by omega) (by omega) (by rw [List.size_toArray, <-hl];exact h1) (by simpa using ew) ⟨rfl,fin⟩) hs
theorem mapSeq_set (its:List Value) (n j:Nat) (u:Value):Obj.mapSeq (·.setIfInBounds j u) {cls:= .type "list",data:= .seq its.toArray n}= {cls:= .type "list",data:= .seq (its.set j u).toArray n}:=by
 simp [Obj.mapSeq]
theorem Inv.lst {pins:List (Addr×Obj)} {σ:St} {H:Hp} {s:Shared} {p:Addr} {xs:List V} (I:Inv X pins σ H s) (h:H p=some (.lst xs)):
  ∃(its:List Value) (n:Nat),Vals xs its/\s.heap.get? p=some {cls:= .type "list",data:= .seq its.toArray n}/\xs.length<=sizeLine:=by
 obtain ⟨z,its,n,r,e⟩:=I.hok p _ h
 exact ⟨its,n,r,e,z⟩
theorem Inv.lstUpd {pins:List (Addr×Obj)} {σ:St} {H:Hp} {s:Shared} {p:Addr} {xs ys:List V} {its its':List Value} {n n':Nat} {f:Obj->Obj} (I:Inv X pins σ H s) (h:H p=some (.lst xs))
  (ho:s.heap.get? p=some {cls:= .type "list",data:= .seq its.toArray n}) (hf:f {cls:= .type "list",data:= .seq its.toArray n}= {cls:= .type "list",data:= .seq its'.toArray n'}) (r:Vals ys its') (hz:ys.length<=sizeLine) (t:Nat):
  Inv X pins σ (upd H p (.lst ys)) {s with heap:=s.heap.update p f,toks:=t}:=by
 have e:(s.heap.update p f).get? p=some {cls:= .type "list",data:= .seq its'.toArray n'}:=by
  rw [Heap.get?_update_self f ho (by rw [hf]<;>rfl),hf]
 refine I.write (x:=p) (e:=p) (by rw [h];trivial) (.inl rfl) (λb u hb q=>(Heap.get?_update_other _ _ (Ne.symm hb)).trans q) ⟨_,e⟩ ?_
 exact ⟨hz,its',n',r,e⟩
def rSetL:V->V->V->Hp->(Hp->Prop)->Prop:=λo i v H Q=> ∃p xs k j,o= .ref p/\i= .int k/\H p=some (.lst xs)/\ixN xs.length k=some j/\Q (upd H p (.lst (xs.set j v)))
theorem set_list:PSet X rSetL:=by
 intro pins s σ H o i v ov iv u Q I ro ri rv h
 obtain ⟨p,xs,k,j,rfl,rfl,hp,hj,q⟩:=h
 cases ro
 obtain ⟨t,rfl⟩:=ri
 obtain ⟨its,n,r,ho,hz⟩:=I.lst hp
 obtain ⟨h1,h2,h3,h4⟩:=ixN_seq hj
 have hl:=r.length
 have hn:=line63
 have I':Inv X pins σ (upd H p (.lst (xs.set j v))) {s with heap:=s.heap.update p (Obj.mapSeq (·.setIfInBounds j u))}:=
  I.lstUpd hp ho (mapSeq_set its n j u) (r.set rv j) (by rw [List.length_set];exact hz) s.toks
 by_cases h0:0<=k
 ·have hk:k.toNat=j:=by
   rw [seqIndex_of h0 h4] at h1
   exact Option.some.inj h1
  exact PySem.W.ki_setAt ho h0 (by omega) (by rw [List.size_toArray, <-hl];exact h4) (by rw [hk];exact ⟨_,I',q⟩)
 ·have hk:(k+(its.toArray.size:Int)).toNat=j:=by
   rw [seqIndex_neg (by omega) h3] at h1
   rw [List.size_toArray, <-hl]
   exact Option.some.inj h1
  exact PySem.W.ki_setBack ho (by omega) (by rw [List.size_toArray, <-hl];exact h3) (by omega) (by rw [hk];exact ⟨_,I',q⟩)
theorem slice_bounds (lo hi:Option Int) (n:Nat):(sliceBounds lo hi none n).1=((HT.sIx n 0 lo:Nat):Int)/\(sliceBounds lo hi none n).2.1=((HT.sIx n n hi:Nat):Int)/\(sliceBounds lo hi none n).2.2=1:=by
 refine ⟨?_,?_,rfl⟩
 ·cases lo with
  |none=>simp [sliceBounds,HT.sIx]
  |some i=>
   simp only [sliceBounds,HT.sIx,Option.getD_none,show (1:Int)>0 by decide,if_true]
   by_cases h:i<0
   ·simp only [h,if_true]<;>omega
   ·simp only [h,if_false]<;>omega
 ·cases hi with
  |none=>simp [sliceBounds,HT.sIx]
  |some i=>
   simp only [sliceBounds,HT.sIx,Option.getD_none,show (1:Int)>0 by decide,if_true]
   by_cases h:i<0
   ·simp only [h,if_true]<;>omega
   ·simp only [h,if_false]<;>omega
theorem slicePick_cut (its:List Value) (lo hi:Option Int):slicePick its.toArray lo hi none=((its.drop (HT.sIx its.length 0 lo)).take (HT.sIx its.length its.length hi - HT.sIx its.length 0 lo)).toArray:=by
 obtain ⟨h1,h2,h3⟩:=slice_bounds lo hi its.toArray.size
 unfold slicePick
 rw [h1,h2,h3]
 simp only [sliceRange_one,pick_run,List.size_toArray]<;>rfl
def rSlL (K:Frag):V->Option Int->Option Int->Hp->VK->Prop:=λx lo hi H Q=> ∃a xs,x= .ref a/\SqL K H a xs/\ ∀p,H p=none->Q (.ref p) (upd H p (.lst (cutV xs lo hi)))
theorem sl_list:SlR X (rSlL X.K):=by
 intro pins s σ H x v vl vu lo hi sl Q I rx hs pl pu h
 obtain ⟨a,xs,rfl,hx,q⟩:=h
 cases rx
 obtain ⟨its,r,ht,hz⟩:=I.list hx
 have hlen:=r.length
 refine ⟨"list",_,slot_list_getitem.lookup,ht.isList.typeIs,?_⟩
 refine wpAny_getItem_list_slice ht.isList hs pl pu .none (by simp) ?_ (by rw [List.size_toArray]<;>omega)
 rw [slicePick_cut, <-hlen]
 refine ⟨.ref s.heap.objs.size,_,I.laid (t':=s.toks) (o:= .lst (cutV xs lo hi)) (λb ob q=>Heap.get?_push_of_some _ q) (Nat.le_refl _) ?_,rfl,q _ (I.hok.fresh (Nat.le_refl _))⟩
 exact ⟨Nat.le_trans (cutV_length xs lo hi) hz,_,0,(r.drop (HT.sIx xs.length 0 lo)).take (HT.sIx xs.length xs.length hi - HT.sIx xs.length 0 lo),Heap.get?_push_size _ rfl⟩
def flatV:V->Bool
 | .non=>true
 | .bl _=>true
 | .int _=>true
 | .str _=>true
 |_=>false
noncomputable def eqV:V->V->Bool
 | .non,.non=>true
 | .bl a,.bl b=>a==b
 | .bl a,.int b=>(if a then 1 else 0)==b
 | .int a,.bl b=>a==(if b then 1 else 0)
 | .int a,.int b=>a==b
 | .str a,.str b=>a==b
 |_,_=>false
theorem eqAt_V {A:Around} {s:Shared} {y x:V} {u v:Value} (ry:RelV y u) (rx:RelV x v) (fy:flatV y=true) (fx:flatV x=true):SeqAt.EqAt A s u v (eqV y x):=by
 cases y with
 |non=>
  cases ry
  cases x with
  |non=>cases rx;exact SeqAt.EqAt.same _
  |bl b=>cases rx;exact SeqAt.EqAt.none_bool b
  |int b=>obtain ⟨t,rfl⟩:=rx;exact SeqAt.EqAt.none_int b t
  |str b=>obtain ⟨t,rfl⟩:=rx;exact SeqAt.EqAt.none_str b t
  |_=>exact absurd (show false=true from fx) Bool.false_ne_true
 |bl a=>
  cases ry
  cases x with
  |non=>cases rx;exact SeqAt.EqAt.bool_none a
  |bl b=>cases rx;exact SeqAt.EqAt.bool_bool a b
  |int b=>obtain ⟨t,rfl⟩:=rx;exact SeqAt.EqAt.bool_int a b t
  |str b=>obtain ⟨t,rfl⟩:=rx;exact SeqAt.EqAt.bool_str a b t
  |_=>exact absurd (show false=true from fx) Bool.false_ne_true
 |int a=>
  obtain ⟨t',rfl⟩:=ry
  cases x with
  |non=>cases rx;exact SeqAt.EqAt.int_none a t'
  |bl b=>cases rx;exact SeqAt.EqAt.int_bool a t' b
  |int b=>obtain ⟨t,rfl⟩:=rx;exact SeqAt.EqAt.int_int a t' b t
  |str b=>obtain ⟨t,rfl⟩:=rx;exact SeqAt.EqAt.int_str a t' b t
  |_=>exact absurd (show false=true from fx) Bool.false_ne_true
 |str a=>
  obtain ⟨t',rfl⟩:=ry
  cases x with
  |non=>cases rx;exact SeqAt.EqAt.str_none a t'
  |bl b=>cases rx;exact SeqAt.EqAt.str_bool a t' b
  |int b=>obtain ⟨t,rfl⟩:=rx;exact SeqAt.EqAt.str_int a t' b t
  |str b=>obtain ⟨t,rfl⟩:=rx;exact SeqAt.EqAt.str_str a t' b t
  |_=>exact absurd (show false=true from fx) Bool.false_ne_true
 |_=>exact absurd (show false=true from fy) Bool.false_ne_true
def eqU (x:V) (u:Value):Bool:=match u with
 | .none=>eqV .non x
 | .bool b=>eqV (.bl b) x
 | .int i _=>eqV (.int i) x
 | .str z _=>eqV (.str z) x
 |_=>false
theorem eqU_of {x y:V} {u:Value} (r:RelV y u) (f:flatV y=true):eqU x u=eqV y x:=by
 cases y with
 |non=>cases r;rfl
 |bl b=>cases r;rfl
 |int i=>obtain ⟨t,rfl⟩:=r;rfl
 |str z=>obtain ⟨t,rfl⟩:=r;rfl
 |_=>exact absurd (show false=true from f) Bool.false_ne_true
theorem any_eqU {x:V}: ∀ {xs:List V} {us:List Value},Vals xs us->xs.all flatV=true->us.any (eqU x)=xs.any λy=>eqV y x
 |_,_,.nil,_=>rfl
 |y::xs,u::us,.cons r t,f=>by
  rw [List.all_cons,Bool.and_eq_true] at f
  rw [List.any_cons,List.any_cons,eqU_of r f.1,any_eqU t f.2]
theorem mem_eqAt {A:Around} {s:Shared} {x:V} {v:Value} (rx:RelV x v) (fx:flatV x=true): ∀ {xs:List V} {us:List Value},Vals xs us->xs.all flatV=true-> ∀u∈us,SeqAt.EqAt A s u v (eqU x u)
 |_,_,.nil,_=>λu hu=>by cases hu
 |y::xs,u::us,.cons r t,f=>λu' hu=>by
  rw [List.all_cons,Bool.and_eq_true] at f
  rcases List.mem_cons.mp hu with rfl|hu
  ·rw [eqU_of r f.1];exact eqAt_V r rx f.1 fx
  ·exact mem_eqAt rx fx t f.2 u' hu
noncomputable def inV (x:V) (xs:List V):Bool:=xs.any λy=>eqV y x
def rIn (K:Frag) (neg:Bool):R2:=λx y H Q=> ∃p xs,y= .ref p/\(SqL K H p xs\/SqT K H p xs)/\flatV x=true/\xs.all flatV=true/\Q (.bl (if neg then !inV x xs else inV x xs)) H
theorem op_in_seq:OpR X (compareOp .In) (rIn X.K false):=by
 intro pins s σ H x y v u Q I rx ry h
 obtain ⟨p,xs,rfl,hq,fx,fs,q⟩:=h
 cases ry
 rcases hq with hq|hq
 ·obtain ⟨its,r,pl,hz⟩:=I.list hq
  refine SeqAt.in_listAt (eqU x) pl.isList (λw hw=>mem_eqAt rx fx r fs w (by simpa using hw)) ⟨.bl _,H,I,rfl,?_⟩
  rw [show its.toArray.any (eqU x)=its.any (eqU x) by simp,any_eqU r fs]
  exact q
 ·obtain ⟨its,r,pl,hz⟩:=I.tuple hq
  refine SeqAt.in_tupleAt (eqU x) pl (λw hw=>mem_eqAt rx fx r fs w (by simpa using hw)) ⟨.bl _,H,I,rfl,?_⟩
  rw [show its.toArray.any (eqU x)=its.any (eqU x) by simp,any_eqU r fs]
  exact q
theorem call_len_seq:CallR X (.builtin "len") (λxs H Q=> ∃p ys,xs= [.ref p]/\(SqL X.K H p ys\/SqT X.K H p ys)/\Q (.int ys.length) H):=by
 intro pins s σ H xs us Q I r h
 obtain ⟨p,ys,rfl,hq,q⟩:=h
 obtain ⟨u,rfl,rx⟩:=vals1 r
 cases rx
 have hn:=line63
 rcases hq with hq|hq
 ·obtain ⟨its,r',pl,hz⟩:=I.list hq
  have hlen:=r'.length
  exact Calls.call_len_list pl.isList (by simp only [List.size_toArray]<;>omega) ⟨.int ys.length,H,I.tok _,⟨s.toks+1,by rw [List.size_toArray,hlen]⟩,q⟩
 ·obtain ⟨its,r',pl,hz⟩:=I.tuple hq
  have hlen:=r'.length
  exact len_tuple pl (by simp only [List.size_toArray]<;>omega) ⟨.int ys.length,H,I.tok _,⟨s.toks+1,by rw [List.size_toArray,hlen]⟩,q⟩
theorem CallR.or {f:Value} {r r':List V->Hp->VK->Prop} (h:CallR X f r) (h':CallR X f r'):CallR X f (λxs H Q=>r xs H Q\/r' xs H Q):=by
 intro pins s σ H xs us Q I rs q
 rcases q with q|q
 ·exact h pins s σ H xs us Q I rs q
 ·exact h' pins s σ H xs us Q I rs q
theorem call_list_of:CallR X (.type "list") (λxs H Q=> ∃p ys,xs= [.ref p]/\(SqL X.K H p ys\/SqT X.K H p ys)/\ ∀l,H l=none->Q (.ref l) (upd H l (.lst ys))):=by
 intro pins s σ H xs us Q I r h
 obtain ⟨p,ys,rfl,hq,q⟩:=h
 obtain ⟨u,rfl,rx⟩:=vals1 r
 cases rx
 have fin: ∀(its:List Value),Vals ys its->ys.length<=sizeLine-> ∀(h':Heap) (c':Nat),(∀b o',s.heap.get? b=some o'->h'.get? b=some o')->
   h'.get? s.heap.objs.size=some {cls:= .type "list",dict:=none,data:= .seq its.toArray c',slots:= #[]}->EP X pins σ Q (.ref s.heap.objs.size) {s with heap:=h'}:=λits r' hz h' c' kp e=>
  ⟨.ref s.heap.objs.size,_,I.laid (t':=s.toks) kp (Nat.le_refl _) (show ObjOk X.prog X.w _ h' _ (.lst ys) from ⟨hz,its,c',r',e⟩),rfl,q _ (I.hok.fresh (Nat.le_refl _))⟩
 rcases hq with hq|hq
 ·obtain ⟨its,r',pl,hz⟩:=I.list hq
  have hlen:=r'.length
  obtain ⟨o,ho,hc,n,hd⟩:=pl.isList
  exact call_list_seq p (.inl rfl) ho hc hd (λh' c' kp e=>fin its r' hz h' c' kp e) (by simp only [List.size_toArray]<;>omega)
 ·obtain ⟨its,r',pl,hz⟩:=I.tuple hq
  have hlen:=r'.length
  obtain ⟨o,ho,hc,n,hd⟩:=pl
  exact call_list_seq p (.inr rfl) ho hc hd (λh' c' kp e=>fin its r' hz h' c' kp e) (by simp only [List.size_toArray]<;>omega)
def tyV (K:Frag) (T:String) (x:V) (H:Hp):Prop:=match x with
 | .str _=>T= "str"
 | .int _=>T= "int"
 | .ref p=>(T= "list" /\ ∃xs,SqL K H p xs)\/(T= "tuple" /\ ∃o,K.lookup p=some o/\o.cls= .type "tuple" /\o.dict=none)\/
   (T= "dict" /\((∃kvs,H p=some (.dK kvs))\/ ∃kvs,H p=some (.dT kvs)))\/(T= "set" /\ ∃S n,H p=some (.set S n))
 |_=>False
theorem tyV_is {pins:List (Addr×Obj)} {σ:St} {H:Hp} {s:Shared} {T:String} {x:V} {v:Value} (I:Inv X pins σ H s) (r:RelV x v) (ty:tyV X.K T x H):
  s.TypeIs v T/\ ∀a,v= .ref a-> ∃ob,s.heap.get? a=some ob/\ob.dict=none:=by
 cases x with
 |str z=>
  obtain ⟨t,rfl⟩:=r
  cases (show T= "str" from ty)
  exact ⟨typeIs_str s z t,λ_ e=>nomatch e⟩
 |int i=>
  obtain ⟨t,rfl⟩:=r
  cases (show T= "int" from ty)
  exact ⟨typeIs_int s i t,λ_ e=>nomatch e⟩
 |ref p=>
  cases r
  rcases ty with ⟨rfl,xs,hq⟩|⟨rfl,o,hk,hc,hd⟩|⟨rfl,hk⟩|⟨rfl,S,n,hk⟩
  ·obtain ⟨its,_,pl,_⟩:=I.list hq
   refine ⟨pl.isList.typeIs,λa e=> ?_⟩
   cases e
   obtain ⟨o,n,e,c,hd,_⟩:=pl
   exact ⟨o,e,hd⟩
  ·refine ⟨⟨o,I.kIn p o hk,hc⟩,λa e=> ?_⟩
   cases e
   exact ⟨o,I.kIn _ o hk,hd⟩
  ·have z: ∃o,s.heap.get? p=some o/\o.ExactDict:=by
    rcases hk with ⟨kvs,hk⟩|⟨kvs,hk⟩
    ·obtain ⟨_,_,_,_,o,_,_,e,ex,_⟩:=I.hok p _ hk
     exact ⟨o,e,ex⟩
    ·obtain ⟨_,_,_,_,o,_,_,e,ex,_⟩:=I.hok p _ hk
     exact ⟨o,e,ex⟩
   obtain ⟨o,e,ex⟩:=z
   refine ⟨⟨o,e,ex.1⟩,λa e2=> ?_⟩
   cases e2
   exact ⟨o,e,ex.2.1⟩
  ·obtain ⟨o,_,_,_,e,ex,_⟩:=I.hok p _ hk
   refine ⟨⟨o,e,ex.1⟩,λa e2=> ?_⟩
   cases e2
   exact ⟨o,e,ex.2.1⟩
 |_=>exact False.elim ty
def tBM (K:Frag) (T:String) (r:V->List V->Hp->VK->Prop) (to:TE) (t:TA):TE:=λσ H Q=>to σ H λx H1=>tyV K T x H1/\t σ H1 λxs H2=>r x xs H2 Q
variable {o e:Expr} {es:List Expr} {to:TE} {t:TA} {name:Str} {apos cpos:Pos} {T id:String} {r:V->List V->Hp->VK->Prop}
theorem pe_bm (pa:PlainAttrs T) (slot:Slot T name id) (hty:typeOf (.builtin id)=pure (.type "method_descriptor")) (hm:MtR X id r) (ho:PE X o to) (ha:PA X (e::es) t)
  (hbase:attributeBase o name X.env (eval o X.env)=eval o X.env:=by rfl)
  (hfew:((backTo cpos (starEach (e::es) X.env)).all (λx=> !x.1) && (backToKw cpos (keywordEach [] X.env)).all (λx=>x.1.isSome)
   && decide ((e::es).length+([]:List Keyword).length+(if ([]:List Keyword).isEmpty then 0 else 1)<30))=true:=by rfl)
  (hline:(apos.endLine==cpos.line)=true:=by rfl) (hs:starEach (e::es) X.env=(false,eval e X.env)::starEach es X.env:=by rfl) (hplain:(backTo cpos (starEach es X.env)).any (·.1)=false:=by rfl):
  PE X (.Call (.Attribute o name apos) (e::es) [] cpos) (tBM X.K T r to t):=by
 intro pins s σ H Q I h
 refine wpAny_Call_method_late hbase hfew hline rfl (thn (ho pins s σ H _ I h) λv s1 ⟨x,H1,I1,r1,ty,q1⟩=> ?_)
 obtain ⟨h1,h2⟩:=tyV_is I1 r1 ty
 refine ⟨T,id,pa,slot,hty,h1,h2,?_⟩
 have hA:=ha cpos pins s1 σ H1 _ I1 q1
 rw [hs] at hA ⊢
 refine Calls.callWith_builtin (by show (false||(backTo cpos (starEach es X.env)).any (·.1))=false;rw [hplain]<;>rfl) (Calls.evalArgs_plain ?_)
 exact thn hA λus s2 ⟨vs,H2,I2,r2,q2⟩=>hm pins s2 σ H2 x vs v us Q I2 r1 r2 q2
end
def MtM (X:Cx) (id:String) (r:V->List V->Hp->VK->Prop):Prop:=
 ∀(pins:List (Addr×Obj)) (s:Shared) (σ:St) (H:Hp) (x:V) (xs:List V) (v:Value) (us:List Value) (Q:VK),Inv X pins σ H s->RelV x v->Vals xs us->r x xs H Q->
  wpAny (model X.prog X.w) X.A (call (.builtin id) (v::us)) (EP X pins σ Q) X.xe s
theorem Vals.one: ∀ {x:V} {us:List Value},Vals [x] us-> ∃u,us= [u]/\RelV x u
 |_,_,.cons r .nil=>⟨_,rfl,r⟩
section
variable {X:Cx} {pins:List (Addr×Obj)} {σ:St} {H:Hp} {s:Shared} {l b:Addr} {xs ys zs:List V}
theorem Inv.lset {its its':List Value} {n:Nat} {f:Array Value->Array Value} {t':Nat} (I:Inv X pins σ H s) (hH:H l=some (.lst xs))
  (e:s.heap.get? l=some {cls:= .type "list",data:= .seq its.toArray n}) (hf:f its.toArray=its'.toArray) (hv:Vals ys its') (hz:ys.length<=sizeLine):
  Inv X pins σ (upd H l (.lst ys)) {s with heap:=s.heap.update l (Obj.mapSeq f),toks:=t'}:=by
 have q:=PySem.IsL.update e f
 rw [hf] at q
 refine I.write (x:=l) (e:=l) (by rw [hH];exact trivial) (.inl rfl) (λb' u hb hu=>(Heap.get?_update_other s.heap (Obj.mapSeq f) (Ne.symm hb)).trans hu) ⟨_,q⟩ ?_
 exact ⟨hz,its',_,hv,q⟩
theorem Inv.lnew {its:List Value} {t':Nat} (I:Inv X pins σ H s) (hv:Vals ys its) (hz:ys.length<=sizeLine):
  Inv X pins σ (upd H s.heap.objs.size (.lst ys)) {s with heap:=s.heap.push {cls:= .type "list",data:= .seq its.toArray},toks:=t'}:=
 I.laid (λ_ _ q=>Heap.get?_push_of_some _ q) (Nat.le_refl _) ⟨hz,its,0,hv,Heap.get?_push_size _ rfl⟩
theorem Inv.fresh (I:Inv X pins σ H s):H s.heap.objs.size=none:=I.hok.fresh (Nat.le_refl _)
theorem Inv.lstM (I:Inv X pins σ H s) (hH:H l=some (.lst xs)):xs.length<=sizeLine/\ ∃(its:List Value) (n:Nat),Vals xs its/\xs.length=its.length/\s.heap.get? l=some {cls:= .type "list",data:= .seq its.toArray n}:=by
 obtain ⟨z,its,n,r,e⟩:=I.hok l _ hH
 exact ⟨z,its,n,r,r.length,e⟩
end
section
variable {X:Cx}
def rAppend:V->List V->Hp->VK->Prop:=λx vs H Q=> ∃l xs y,x= .ref l/\vs= [y]/\H l=some (.lst xs)/\xs.length<sizeLine/\Q .non (upd H l (.lst (xs++ [y])))
theorem mt_append:MtM X "list.append" rAppend:=by
 intro pins s σ H x vs v us Q I rx rv h
 obtain ⟨l,xs,y,rfl,rfl,hH,hz,q⟩:=h
 cases rx
 obtain ⟨u,rfl,ru⟩:=rv.one
 obtain ⟨z,its,n,r,hl,e⟩:=I.lstM hH
 refine call_meets F.slot_list_append ⟨_,e,rfl⟩ F.entry_list_append (F.args_list_append_2 _ _) (PySem.list_append l its.toArray n u (by rw [List.size_toArray];omega)) ⟨e,?_⟩
 refine ⟨.non,_,I.lset (its':=its++ [u]) hH e (by simp) (r.append (.cons ru .nil)) ?_,rfl,q⟩
 rw [List.length_append,List.length_singleton]
 omega
end
end L2
namespace Att
open PySem PySem.W PySem.Calls PyProof.Rows
theorem ints_of_wellAll {P:Params} {h:Heap}: ∀(ns:List Int) (vs:List Value),WellAll P h vs (ns.map WData.int)->IntsAre vs ns:=by
 intro ns
 induction ns with
 |nil=>
  intro vs w
  rw [List.map_nil] at w
  cases w
  exact .nil
 |cons n ns ih=>
  intro vs w
  rw [List.map_cons] at w
  cases w with
  |cons a b=>
   cases a
   exact .cons _ _ (ih _ b)
theorem script_of {l:OpenLaw} {n:Nat} (hn:l.most=some n) {P:Params} {h:Heap} {args:List WData} {vals:List Value}
  (hpre:l.row.toRowW.claim.pre args=true) (hwl:WellAll P h vals args):
  ∃a vs ns,vals= [Value.ref a]/\args= [WData.list (ns.map WData.int)]/\h.get? a=some {cls:= .type "list",data:= .seq vs.toArray}/\IntsAre vs ns/\ns.length<=n:=by
 have hsh:WShape.hasAll [] args [.list .int]=true:=(pre_splitW hpre).1
 have hc:l.pre.holds [] {args:=args}=true:=(pre_splitW hpre).2
 obtain ⟨d,r,rfl,h1,h2⟩:=hasAllW_cons hsh
 obtain rfl:=hasAllW_nil h2
 obtain ⟨xs,rfl,h3⟩:=hasW_list h1
 obtain ⟨ns,rfl⟩:=items_int h3
 have hlen:ns.length<=n:=by
  unfold OpenLaw.pre at hc
  have h4:(WTm.not (.lt (.lit (.int (n:Int))) (.len (.arg 0)))).holds [] {args:= [.list (ns.map .int)]}=true:=by
   have h4:=(holds_andW hc).1
   rw [hn] at h4
   exact h4
  have h5:=condW_of h4 (w_not (w_lt w_lit (w_len_list (w_arg rfl))))
  rw [List.length_map] at h5
  refine Nat.le_of_not_lt λq=> ?_
  have q':(n:Int)<((ns.length:Nat):Int):=by omega
  first
   |(rw [decide_eq_true q'] at h5;exact absurd h5 (by decide))
   |(simp at h5;omega)
 cases hwl with
 |cons w1 w2=>
  cases w2
  cases w1 with
  |list ho hall=>exact ⟨_,_,ns,rfl,rfl,ho,ints_of_wellAll ns _ hall,hlen⟩
theorem post_true (l:OpenLaw) (args:List WData):l.row.toRowW.claim.post args (.bool true) args=true:=
 postW_of (r:=l.row.toRowW) (X:=(true==true))
  (show WShape.has [] (.bool true) .bool=true by first|rfl|decide|simp [WShape.has,WShape.arms,WShape.armsAll])
  (show (WTm.eq .res (.lit (.bool true))).value [] {args:=args,res:=some (.bool true),after:=args}=some (.bool (true==true)) from w_eq_bool (w_res rfl) w_lit) rfl
theorem attach_call {l:OpenLaw} {n:Nat} {q:Program} {loose:List Str} {XP:(Str->Option Value)->Heap->Prop} {YP:World->Heap->Prop} {d:DefRec}
  (hn:l.most=some n) (hdf:d.params.defaults= [])
  (call: ∀(w:World) (s₀ s₁:Shared) (mg mb:Str->Option Value) (fa:Addr) (o:Obj) (pm cd doc:Value) (a:Addr) (vs:List Value) (ns:List Int),
   Ground q loose [] XP w s₀ mg mb s₁.heap->YP w s₁.heap->
   s₁.heap.get? fa=some o->o.data= .func (docDef d.name d.params d.body d.scope pm cd doc)->s₁.heap.CodeRec cd d.name->mg d.name=some (.ref fa)->
   s₁.heap.get? a=some {cls:= .type "list",data:= .seq vs.toArray}->IntsAre vs ns->ns.length<=n->s₁.gens= #[]->
   codeAny (model l.prog w) callerA (.call (.ref fa) ⟨[.ref a],[]⟩) (λr s'=>r= .ok (.ret (.bool true))/\OldK s₁.heap s'.heap/\s'.os=s₁.os/\AllBare s'.gens) s₁):
  WalkO q loose XP YP l.row.toRowW d [] (λf vs=>PySem.call f vs):=by
 intro w s₀ s₁ mg mb G Y fa o pm cd doc dV kV ho hd hcd hD hmg hg args vals as hpre hlay hrd hwl hlo
 obtain rfl:dV= .none:=Dflts.none hD hdf
 obtain rfl:kV= .none:=Dflts.noKw hD
 obtain ⟨a,vs,ns,rfl,rfl,hobj,hints,hlen⟩:=script_of hn hpre hwl
 refine enter_call (codeAny_mono (call w s₀ s₁ mg mb fa o pm cd doc a vs ns G Y ho (fd_plain hd) hcd hmg hobj hints hlen hg) λr s' hq=> ?_)
 obtain ⟨rfl,h2,h3,h4⟩:=hq
 exact ⟨.inl ⟨.bool true,.bool true,[],rfl,λ_=>rfl,.bool true,post_true l _,λ_=>⟨List.Pairwise.nil,λ_ hm=>(nomatch hm)⟩⟩,h2,h3,h4⟩
end Att
namespace L2
open PySem PySem.Spec PyProof.Rows
theorem vals_ints: ∀ {vs:List Value} {ns:List Int},IntsAre vs ns->Vals (ns.map V.int) vs
 |_,_,.nil=> .nil
 |_,_,.cons n t h=> .cons ⟨t,rfl⟩ (vals_ints h)
def Only (H:Hp):Prop:= ∀b,H b=none\/ ∃o xs,H b=some (.frz o (.lst xs))
theorem law_call {P:Program} {w:World} {K:Frag} {mg mb:Str->Option Value} {CX:CXT} {k:Nat} {fa a:Addr} {fd:FuncData} {x:Str} {sp:Sp} {s₁:Shared} {vs:List Value} {ns:List Int}
  (KX:K.In s₁.heap) (hns:s₁.heap.Ns mainGlobals mg) (hb:s₁.heap.Ns builtinsNs mb) (hbb: ∀x:Str,x≠ "__name__" ->mb x=bootBuiltins x) (hlim:s₁.heap.NoLimit) (hg:s₁.gens= #[])
  (ha:s₁.heap.get? a=some {cls:= .type "list",data:= .seq vs.toArray}) (hi:IntsAre vs ns) (hl:ns.length<=sizeLine) (hr:Room k callerA)
  (F: ∀base:Heap,K.In base->base.Ns mainGlobals mg->FnOk P w K mg base CX k fa fd [x] sp) (hbind: ∀(s:Shared) (u:Value),BindsTo s fd ⟨[u],[]⟩ [(x,u)])
  (hsp: ∀H:Hp,Only H->SqL K H a (ns.map V.int)->sp [.ref a] H (λv _=>v= .bl true) λ_ _ _=>False)
  (hCX: ∀H e s',CX [] H s₁ (λ_ _ _=>False) e s'->False):
  codeAny (model P w) callerA (.call (.ref fa) ⟨[.ref a],[]⟩) (λr s'=>r= .ok (.ret (.bool true))/\OldK s₁.heap s'.heap/\s'.os=s₁.os/\AllBare s'.gens) s₁:=by
 have rv:=vals_ints hi
 have lenV:=hi.length
 have core: ∀H:Hp,Only H->SqL K H a (ns.map V.int)->HOk P w H s₁.heap->(∀b,H b≠none->b=a)->(H a≠none->K.lookup a=none)->
   codeAny (model P w) callerA (.call (.ref fa) ⟨[.ref a],[]⟩) (λr s'=>r= .ok (.ret (.bool true))/\OldK s₁.heap s'.heap/\s'.os=s₁.os/\AllBare s'.gens) s₁:=by
  intro H hO hS hok hA hK
  have base_of: ∀ {b:Addr} {o:Obj},s₁.heap.get? b=some o->H b=none->(hidT s₁.heap H).get? b=some o:=λe n=>hidT_get e n
  have noA: ∀ {b:Addr} {o:Obj} {es:Array DictEntry} {ep:Nat},s₁.heap.get? b=some o->o.data= .dict es ep->H b=none:=λ{b o es ep} e d=>by
   cases q:H b with
   |none=>rfl
   |some u=>
    have e':b=a:=hA b (by rw [q];simp)
    subst e'
    rw [ha] at e;cases e
    have d':Data.seq vs.toArray _=Data.dict es ep:=d
    cases d'
  have nsK: ∀ {b:Addr} {m:Str->Option Value},s₁.heap.Ns b m->(hidT s₁.heap H).Ns b m:=λ{b m} ⟨o,es,ep,e,d,r⟩=>⟨o,es,ep,base_of e (noA e d),d,r⟩
  have hKb:K.In (hidT s₁.heap H):=λb o e=>base_of (KX b o e) (by
   cases q:H b with
   |none=>rfl
   |some u=>
    have e':b=a:=hA b (by rw [q];simp)
    subst e'
    rw [hK (by rw [q];simp)] at e;cases e)
  have hM:Mod K mg (hidT s₁.heap H):=⟨hKb,nsK hns,⟨mb,nsK hb,hbb⟩,let ⟨mc,h1,h2⟩:=hlim;⟨mc,nsK h1,h2⟩⟩
  have e0:Env0 P w K mg (hidT s₁.heap H) callerA [] s₁ H:=⟨rfl,hM,λb o e=>of_hidT e,Nat.le_of_eq (hidT_size _ _),trivial,λb hb=>absurd (show b∈([]:List Addr) from hb) (by simp),hok,.of_eq hg⟩
  refine codeAny_mono ((F _ hKb (nsK hns)).run callerA [] s₁ H ⟨[.ref a],[]⟩ [.ref a] [.ref a] _ _ hr e0 (hbind s₁ (.ref a)) (.cons rfl .nil) (hsp H hO hS)) λr s' h=> ?_
  cases r with
  |error e=>exact (hCX H e s' h).elim
  |ok fl=>
   cases fl with
   |next=>exact False.elim h
   |brk=>exact False.elim h
   |cont=>exact False.elim h
   |ret u=>
    obtain ⟨v,H',os,bare,un,hok',r',q⟩:=h
    have q':v= .bl true:=q
    subst q'
    obtain rfl:u=Value.bool true:=r'
    refine ⟨rfl,OldK.of_keep λb o e=> ?_,os,bare⟩
    cases q:H b with
    |none=>exact un.keep b o e q (by intro z;exact absurd (show b∈([]:List Addr) from z) (by simp)) (by simp)
    |some u=>
     rcases hO b with z|⟨ob,xs,z⟩
     ·rw [q] at z;cases z
     ·have z2:=un.frzs b ob _ z
      obtain ⟨e1,_⟩:=hok b _ z
      obtain ⟨e2,_⟩:=hok' b _ z2
      rw [e] at e1;cases e1
      exact e2
 cases hk:K.lookup a with
 |some o=>
  have e:=KX a o hk
  rw [ha] at e
  cases e
  refine core (λ_=>none) (λ_=> .inl rfl) (.inr ⟨_,vs.toArray,_,hk,rfl,rfl,rfl,by rw [List.size_toArray,lenV];exact hl,by simpa using rv⟩) (λb u z=>by have z':(none:Option HO)=some u:=z;cases z') (λb z=>absurd rfl z) λz=>absurd rfl z
 |none=>
  refine core (λb=>if b=a then some (.frz {cls:= .type "list",data:= .seq vs.toArray} (.lst (ns.map V.int))) else none) (λb=> ?_) (.inl (.inr ⟨{cls:= .type "list",data:= .seq vs.toArray},if_pos rfl⟩)) (λb u z=> ?_) (λb z=> ?_) λ_=>hk
  ·by_cases hb:b=a
   ·exact .inr ⟨_,_,if_pos hb⟩
   ·exact .inl (if_neg hb)
  ·by_cases hb:b=a
   ·have z':=(if_pos hb).symm.trans z
    cases z'
    subst hb
    exact ⟨ha,by rw [List.length_map];exact hl,vs,_,rv,ha⟩
   ·have z':=(if_neg hb).symm.trans z
    cases z'
  ·by_cases hb:b=a
   ·exact hb
   ·exact absurd (if_neg hb) z
theorem walk_of {l:PySem.W.OpenLaw} {n k:Nat} {q:Program} {loose:List Str} {XP:(Str->Option Value)->Heap->Prop} {YP:World->Heap->Prop} {d:DefRec} {K:Params->Frag} {CX:World->CXT} {sp:World->Sp} {x:Str}
  (hn:l.most=some n) (hn2:n<=sizeLine) (hdf:d.params.defaults= []) (hr:Room k callerA)
  (hY: ∀(w:World) (h:Heap),YP w h->(K w.params).In h)
  (F: ∀(w:World) (mg:Str->Option Value) (fa:Addr) (h:Heap),(K w.params).In h->h.Ns mainGlobals mg->mg d.name=some (.ref fa)->
   ∃fd:FuncData,(∀(s:Shared) (u:Value),BindsTo s fd ⟨[u],[]⟩ [(x,u)])/\
    ∀base:Heap,(K w.params).In base->base.Ns mainGlobals mg->FnOk l.prog w (K w.params) mg base (CX w) k fa fd [x] (sp w))
  (hsp: ∀(w:World) (H:Hp) (a:Addr) (ns:List Int),ns.length<=n->Only H->SqL (K w.params) H a (ns.map V.int)->sp w [.ref a] H (λv _=>v= .bl true) λ_ _ _=>False)
  (hCX: ∀(w:World) (H:Hp) (s:Shared) (e:Value) (s':Shared),CX w [] H s (λ_ _ _=>False) e s'->False):
  PySem.W.WalkO q loose XP YP l.row.toRowW d [] (λf vs=>PySem.call f vs):=by
 refine Att.attach_call hn hdf λw s₀ s₁ mg mb fa o pm cd doc a vs ns G Y ho hd hcd hmg hobj hints hlen hg=> ?_
 have KX:=hY w _ Y
 obtain ⟨fd,hb,hF⟩:=F w mg fa _ KX G.T.g hmg
 exact law_call KX G.T.g G.T.b G.T.builtins G.T.nolimit hg hobj hints (Nat.le_trans hlen hn2) hr hF hb (λH hO hS=>hsp w H a ns hlen hO hS) λH e s'=>hCX w H s₁ e s'
def inClass (s:Stmt) (j:Nat):Stmt:=match s with
 | .ClassDef _ _ _ body _ _ _ _ _ _ _=>body.getD j (.Pass ⟨0,0,0,0⟩)
 |_=> .Pass ⟨0,0,0,0⟩
def defArgs (s:Stmt):Arguments:=match s with
 | .FunctionDef _ a _ _ _ _ _ _ _ _=>a
 |_=> {posonlyargs:= [],args:= [],vararg:=none,kwonlyargs:= [],kw_defaults:= [],kwarg:=none,defaults:= []}
def defBody (s:Stmt):List Stmt:=match s with
 | .FunctionDef _ _ b _ _ _ _ _ _ _=>b
 |_=> []
def defScope (s:Stmt):Scope:=match s with
 | .FunctionDef _ _ _ _ _ _ sc _ _ _=>sc
 |_=> {kind:= .function,names:= [],isGenerator:=false,isCoroutine:=false}
abbrev CX0:CXT:=λ_ _ _ _ _ _=>False
abbrev E0:XK:=λ_ _ _=>False
theorem pass0 {X:Cx}:Passes CX0 X E0:=λ_ _ _ _ _ _ _ h=>h.elim
structure Fun (K:Frag) (x qual:Str) (st:Stmt) (f:Addr) (fd:FuncData):Prop where
 ex: ∃(oc:Value) (od:Option Addr) (kV doc pm:Value) (an:Option Addr) (cdv ct:Value) (osl:Array (Option Value)),
  fd=PySem.W.fnOf x qual (defArgs st) (defBody st) (defScope st) .none kV doc pm an cdv ct/\K.lookup f=some ⟨oc,od,.func fd,osl⟩/\PySem.W.codeIn K cdv qual=true
 kp:PySem.W.keepIn K (.ref f)=true
section
variable {P:Program} {w:World} {K:Frag} {mg:Str->Option Value} {base:Heap}
theorem Fun.binds {x qual:Str} {st:Stmt} {f:Addr} {fd:FuncData} {ps:List Str} (F:Fun K x qual st f fd)
  (h: ∀(kV doc pm:Value) (an:Option Addr) (cdv ct:Value) (us:List Value),us.length=ps.length->bindArgs (PySem.W.fnOf x qual (defArgs st) (defBody st) (defScope st) .none kV doc pm an cdv ct) ⟨us,[]⟩=pure (ps.zip us)):Binds K fd ps []:=by
 obtain ⟨oc,od,kV,doc,pm,an,cdv,ct,osl,rfl,lk,hcd⟩:=F.ex
 exact .all (h kV doc pm an cdv ct)
theorem fun_mk {x qual:Str} {st:Stmt} {f:Addr} {oc:Value} {od an:Option Addr} {osl:Array (Option Value)} {kV doc pm cdv ct:Value} (l:K.lookup f=some ⟨oc,od,.func (PySem.W.fnOf x qual (defArgs st) (defBody st) (defScope st) .none kV doc pm an cdv ct),osl⟩)
  (c:PySem.W.codeIn K cdv qual=true) (k:PySem.W.keepIn K (.ref f)=true):Fun K x qual st f (PySem.W.fnOf x qual (defArgs st) (defBody st) (defScope st) .none kV doc pm an cdv ct):=⟨⟨oc,od,kV,doc,pm,an,cdv,ct,osl,rfl,l,c⟩,k⟩
end
section
variable {X:Cx}
theorem pv (i:Nat) {x:Str} {pos:Pos} (hN:X.N[i]? =some x:=by rfl) (hv:Vis X.env.scope x:=by first|exact Or.inl rfl|exact Or.inr (Or.inl rfl)|exact Or.inr (Or.inr rfl)) (hd:(x==("__debug__" :Str))=false:=by decide)
  (hcd:(x==("__classdict__" :Str))=false:=by decide):PE X (.Name x pos) (tVar i):=pe_var hN hv hd hcd
end
theorem iteF {A B:Prop} (h:B):if false=true then A else B:=by
 rw [if_neg Bool.false_ne_true]
 exact h
theorem iteT {A B:Prop} (h:A):if true=true then A else B:=by
 rw [if_pos rfl]
 exact h
def Same (H H':Hp):Prop:= ∀b o,H b=some o->H' b=some o
theorem Same.refl (H:Hp):Same H H:=λ_ _ h=>h
theorem comp_walk {P:Program} {w:World} {A:Around} {R:Result->Shared->Prop} {s:Shared} {elt tg iter:Expr} {ifs:List Expr} {sc:Scope} {pos:Pos} {it acc:Value} {env:Env} (J:Nat->Shared->Prop)
  (turn: ∀n s,J n s->wpAny (model P w) A (pyNext it) (λr s1=>match r with
   |none=>R (.ok .next) s1
   |some v=>wpAny (model P w) A (letOwnedTupleGo tg it v) (λ_ s2=>wpAny (model P w) A (assign tg env v) (λ_ s3=>
     wpAny (model P w) A (forIn ifs true λc r=>if r=true then do let ok <-isTrue c env (eval c env);pure (ForInStep.yield ok) else pure (ForInStep.yield r)) (λok s4=>
      if ok=true then wpAny (model P w) A (eval elt env) (λx s5=>wpAny (model P w) A (call (.builtin "list.append") [acc,x]) (λ_ s6=> ∃m,m<n/\J m s6) (λ_ _=>False) s5) (λ_ _=>False) s4
      else∃m,m<n/\J m s4) (λ_ _=>False) s3) (λ_ _=>False) s2) (λ_ _=>False) s1) (λ_ _=>False) s)
  (n:Nat) (h:J n s):codeAny (model P w) A (.compLoop (.ListComp elt [⟨tg,iter,ifs,0⟩] sc pos) 0 it acc env) R s:=by
 have no: ∀ {E:Value->Shared->Prop} (e:Value) (z:Shared),(λ_ _=>False:Value->Shared->Prop) e z->E e z:=λ_ _ f=>False.elim f
 refine codeAny_loop rfl J (λn s hJ=> ?_) n h
 show wpAny _ A ((compTurn (.ListComp elt [⟨tg,iter,ifs,0⟩] sc pos) 0 it acc env).onRaise (λx=>do noteFrame x env;theTreesLotGoes x)) _ _ s
 refine wpAny_noted ?_
 rw [compTurn_list]
 refine wpAny_bind (wpAny_standAt (wpAny_bind (wpAny_mono (turn n s hJ) (λr s1 h1=> ?_) no)))
 cases r with
 |none=>exact wpAny_pure h1
 |some v=>
  refine wpAny_bind (wpAny_mono h1 (λ_ s2 h2=> ?_) no)
  refine wpAny_bind (wpAny_mono h2 (λ_ s3 h3=> ?_) no)
  refine wpAny_bind (wpAny_mono h3 (λok s4 h4=> ?_) no)
  cases ok with
  |false=>exact wpAny_pure ⟨rfl,h4⟩
  |true=>
   refine wpAny_bind (wpAny_bind (wpAny_mono h4 (λx s5 h5=> ?_) no))
   exact wpAny_bind (wpAny_mono h5 (λ_ s6 h6=>wpAny_pure (wpAny_pure ⟨rfl,h6⟩)) no)
theorem look_free {env:Env}: ∀ {names:List (Str×NameKind)} {x:Str},names.lookup x=some .free->env.scope.kind= .function->env.kindOf x=some .cell->
  (names.map λ(n,k)=>if (k==NameKind.free && env.scope.kind== .function && env.kindOf n==some .cell) then (n,NameKind.cell) else (n,k)).lookup x=some .cell
 | [],_,h,_,_=>by simp at h
 |(n,k)::r,x,h,hf,hc=>by
  have ih:= @look_free env r x
  show List.lookup x ((if (k==NameKind.free && env.scope.kind== .function && env.kindOf n==some .cell)=true then (n,NameKind.cell) else (n,k))::_)=_
  cases hx:x==n with
  |true=>
   simp only [List.lookup_cons,hx] at h
   cases h
   have e:x=n:=by simpa using hx
   subst e
   simp [List.lookup_cons,hf,hc]
  |false=>
   simp only [List.lookup_cons,hx] at h
   split
   ·simp only [List.lookup_cons,hx];exact ih h hf hc
   ·simp only [List.lookup_cons,hx];exact ih h hf hc
theorem closure_of {env:Env}: ∀(names:List (Str×NameKind)) (acc:List (Str×Addr)),(∀y∈names,y.2= .free-> ∃c,env.cells.lookup y.1=some c)->(∀n c,acc.lookup n=some c->env.cells.lookup n=some c)->
  ∃cl:List (Str×Addr),(forIn names acc λ(p:Str×NameKind) r=>if (p.2==NameKind.free)=true then do let c <-cellOf env p.1;pure (ForInStep.yield ((p.1,c)::r)) else pure (ForInStep.yield r):Sem (List (Str×Addr)))=pure cl/\
   (∀n c,cl.lookup n=some c->env.cells.lookup n=some c)/\(∀n c,acc.lookup n=some c-> ∃c',cl.lookup n=some c')/\ ∀y∈names,y.2= .free-> ∃c,cl.lookup y.1=some c
 | [],acc,_,ha=>⟨acc,rfl,ha,λn c h=>⟨c,h⟩,λ_ h=>nomatch h⟩
 |(n,k)::r,acc,hn,ha=>by
  have hr: ∀y∈r,y.2=NameKind.free-> ∃c,env.cells.lookup y.1=some c:=λy hy=>hn y (List.mem_cons_of_mem _ hy)
  by_cases hk:k= .free
  ·subst hk
   obtain ⟨c,hc⟩:=hn (n,.free) List.mem_cons_self rfl
   have hc:env.cells.lookup n=some c:=hc
   obtain ⟨cl,e,h1,h2,h3⟩:=closure_of r ((n,c)::acc) hr λm d hm=>by
    rw [List.lookup_cons] at hm
    cases q:m==n with
    |true=>
     rw [q] at hm
     have z:m=n:=by simpa using q
     cases hm
     rw [z];exact hc
    |false=>
     rw [q] at hm
     exact ha m d hm
   have there: ∀m d,acc.lookup m=some d-> ∃c',cl.lookup m=some c':=λm d hm=>by
    cases q:m==n with
    |true=>
     have z:m=n:=by simpa using q
     subst z
     exact h2 m c (by simp [List.lookup_cons])
    |false=>exact h2 m d (by rw [List.lookup_cons,q];exact hm)
   refine ⟨cl,?_,h1,there,λy hy hf=> ?_⟩
   ·rw [List.forIn_cons]
    have ec:cellOf env n=pure c:=by unfold cellOf;rw [hc]
    simp only [beq_self_eq_true,if_true,ec]
    exact e
   ·rcases List.mem_cons.mp hy with z|z
    ·subst z
     exact h2 n c (by simp [List.lookup_cons])
    ·exact h3 y z hf
  ·obtain ⟨cl,e,h1,h2,h3⟩:=closure_of r acc hr ha
   refine ⟨cl,?_,h1,h2,λy hy hf=> ?_⟩
   ·rw [List.forIn_cons]
    have q:(k==NameKind.free)=false:=by cases k<;>first|rfl|exact absurd rfl hk
    simp only [q,Bool.false_eq_true,if_false]
    exact e
   ·rcases List.mem_cons.mp hy with z|z
    ·subst z
     exact absurd hf hk
    ·exact h3 y z hf
theorem closure_ok {env:Env} {sc:Scope} (h: ∀y∈sc.names,y.2= .free-> ∃c,env.cells.lookup y.1=some c):
  ∃cl:List (Str×Addr),closureFor sc env=pure cl/\(∀n c,cl.lookup n=some c->env.cells.lookup n=some c)/\ ∀y∈sc.names,y.2= .free-> ∃c,cl.lookup y.1=some c:=by
 obtain ⟨cl,e,h1,_,h3⟩:=closure_of (env:=env) sc.names [] h (λ_ _ z=>nomatch z)
 refine ⟨cl,?_,h1,h3⟩
 unfold closureFor
 show ((forIn sc.names [] λ(p:Str×NameKind) r=>if (p.2==NameKind.free)=true then do let c <-cellOf env p.1;pure (ForInStep.yield ((p.1,c)::r)) else pure (ForInStep.yield r))>>=pure)=_
 rw [e]
 rfl
def cxComp (X:Cx) (N:List Str) (sc:Scope) (cl:List (Str×Addr)) (s:Shared) (H:Hp) (ex:List Addr):Cx:=
 {X with N:=N,s₀:=s,H₀:=H,env:=compEnvC sc cl s.heap.objs.size X.env,outer:=X.stack,stack:=X.stack,ex:=ex,fn:=λ_=>false,pn:= [],xe:=λ_ _=>False}
def frOk (NX N:List Str) (sx sc:Scope) (k:Nat) (js:List Nat):Bool:=
 (N.length==k+js.length) && (List.range js.length).all λi=>match js[i]? with
  |none=>true
  |some j=>match NX[j]? with
   |none=>false
   |some y=>(N[k+i]? ==some y) && (sx.names.lookup y==some .cell) && (sc.names.lookup y==some .free)
def cst (σ:St) (k:Nat) (js:List Nat):St:=List.replicate k none++js.map λj=>(σ[j]?).join
theorem frOk_at {NX N:List Str} {sx sc:Scope} {k:Nat} {js:List Nat} (h:frOk NX N sx sc k js=true):N.length=k+js.length/\
  ∀i j,js[i]? =some j-> ∃y,NX[j]? =some y/\N[k+i]? =some y/\sx.names.lookup y=some .cell/\sc.names.lookup y=some .free:=by
 unfold frOk at h
 rw [Bool.and_eq_true] at h
 obtain ⟨h1,h2⟩:=h
 refine ⟨by simpa using h1,λi j e=> ?_⟩
 have hi:i<js.length:=(List.getElem?_eq_some_iff.mp e).1
 have q:=List.all_eq_true.mp h2 i (List.mem_range.mpr hi)
 rw [e] at q
 dsimp only at q
 cases ny:NX[j]? with
 |none=>rw [ny] at q;cases q
 |some y=>
  rw [ny] at q
  simp only [Bool.and_eq_true] at q
  obtain ⟨⟨q1,q2⟩,q3⟩:=q
  exact ⟨y,rfl,by simpa using q1,by simpa using q2,by simpa using q3⟩
section
variable {X:Cx} {pins:List (Addr×Obj)} {σ:St} {H:Hp} {s:Shared}
theorem Inv.compOk {N:List Str} {sc:Scope} {cl:List (Str×Addr)} {fp:List Addr} (I:Inv X pins σ H s) (hf: ∀b∈fp,FpOk X pins H b) (hin: ∀b∈fp,∃o,s.heap.get? b=some o)
  (hk:sc.kind= .function) (hsub: ∀n c,cl.lookup n=some c->X.env.cells.lookup n=some c) (hall: ∀y∈sc.names,y.2= .free-> ∃c,cl.lookup y.1=some c) (hcell: ∀y∈sc.names,y.2≠ .cell):
  (cxComp X N sc cl s H fp).Ok where
 mod:=I.ok.mod
 kind:=hk
 glob:=I.ok.glob
 blt:=I.ok.blt
 above:=Nat.le_refl _
 inj:=λx y c h1 h2=>I.ok.inj x y c (hsub x c h1) (hsub y c h2)
 has:=λx hx=>by
  have mem: ∀ {names:List (Str×NameKind)},(∀y∈names,y.2≠NameKind.cell)->(∀y∈names,y.2= .free-> ∃c,cl.lookup y.1=some c)->
    ((names.map λ(n,k)=>if (k==NameKind.free && X.env.scope.kind== .function && X.env.kindOf n==some .cell) then (n,NameKind.cell) else (n,k)).lookup x=some .cell\/
     (names.map λ(n,k)=>if (k==NameKind.free && X.env.scope.kind== .function && X.env.kindOf n==some .cell) then (n,NameKind.cell) else (n,k)).lookup x=some .free)-> ∃c,cl.lookup x=some c:=by
   intro names
   induction names with
   |nil=>intro _ _ h;rcases h with h|h<;>simp at h
   |cons p r ih=>
    obtain ⟨n,k⟩:=p
    intro h1 h2 h3
    have t1: ∀y∈r,y.2≠NameKind.cell:=λy hy=>h1 y (List.mem_cons_of_mem _ hy)
    have t2: ∀y∈r,y.2=NameKind.free-> ∃c,cl.lookup y.1=some c:=λy hy=>h2 y (List.mem_cons_of_mem _ hy)
    by_cases hx:x=n
    ·subst hx
     by_cases hf:k= .free
     ·exact h2 (x,k) List.mem_cons_self hf
     ·exfalso
      have hc:k≠ .cell:=h1 (x,k) List.mem_cons_self
      have q:(k==NameKind.free)=false:=by cases k<;>first|rfl|exact absurd rfl hf
      simp only [List.map_cons,q,Bool.false_and,Bool.false_eq_true,if_false,List.lookup_cons,beq_self_eq_true] at h3
      rcases h3 with h3|h3
      ·exact hc (Option.some.inj h3)
      ·exact hf (Option.some.inj h3)
    ·have q:(x==n)=false:=by simpa using hx
     refine ih t1 t2 ?_
     rw [List.map_cons] at h3
     by_cases hb:(k==NameKind.free && X.env.scope.kind== .function && X.env.kindOf n==some .cell)=true
     ·simpa only [hb,if_true,List.lookup_cons,q] using h3
     ·simpa only [hb,if_false,Bool.false_eq_true,List.lookup_cons,q] using h3
  exact mem hcell hall hx
 cab:=λx c h _=>nomatch h
 hd:=I.ok.hd
 frames:=I.ok.frames
 stk:= .inl rfl
 exf:=λb hb=>by
  obtain ⟨o,e⟩:=hin b hb
  exact ⟨Nat.ne_of_lt (Heap.lt_size e),λx c h z=>(hf b hb).2.2.2.2.1 x c (hsub x c h) z⟩
 bs:=I.bs
 bsz:=Nat.le_trans I.ok.bsz I.sz
 noex:=λb o e hb=>by
  rcases (hf b hb).2.2.2.1 with z|z
  ·exact I.ok.noex b o e z
  ·exact absurd (Nat.lt_of_lt_of_le (Heap.lt_size e) (Nat.le_trans I.ok.bsz z)) (Nat.lt_irrefl _)
 exfs:=λb hb z=>by
  rcases List.mem_cons.mp (I.stkSub b z) with e|e
  ·exact (hf b hb).2.1 e
  ·exact (hf b hb).2.2.1 e
 funs:=I.stack
 frf:=I.stkFree
theorem cst_len {k:Nat} {js:List Nat}:(cst σ k js).length=k+js.length:=by unfold cst;simp
theorem cst_lo {k i:Nat} {js:List Nat} {v:V} (h:(cst σ k js)[i]? =some (some v)):k<=i:=by
 unfold cst at h
 by_cases hi:i<k
 ·rw [List.getElem?_append_left (by simpa using hi),List.getElem?_replicate,if_pos hi] at h
  cases h
 ·omega
theorem cst_hi {k i:Nat} {js:List Nat} {v:V} (h:(cst σ k js)[k+i]? =some (some v)): ∃j,js[i]? =some j/\σ[j]? =some (some v):=by
 unfold cst at h
 rw [List.getElem?_append_right (by simp),List.length_replicate,Nat.add_sub_cancel_left,List.getElem?_map] at h
 cases q:js[i]? with
 |none=>rw [q] at h;cases h
 |some j=>
  rw [q] at h
  refine ⟨j,rfl,?_⟩
  have h:(σ[j]?).join=some v:=Option.some.inj h
  cases z:σ[j]? with
  |none=>rw [z] at h;cases h
  |some o=>rw [z] at h;exact congrArg some h
theorem Inv.compStart {N:List Str} {sc sx:Scope} {cl:List (Str×Addr)} {fp:List Addr} {k:Nat} {js:List Nat} {NX:List Str} {h1:Heap} (I:Inv X pins σ H s) (hf: ∀b∈fp,FpOk X pins H b) (hin: ∀b∈fp,∃o,s.heap.get? b=some o)
  (hk:sc.kind= .function) (hsub: ∀n c,cl.lookup n=some c->X.env.cells.lookup n=some c) (hall: ∀y∈sc.names,y.2= .free-> ∃c,cl.lookup y.1=some c) (hcell: ∀y∈sc.names,y.2≠ .cell)
  (hNX:X.N=NX) (hsx:X.env.scope=sx) (hfr:frOk NX N sx sc k js=true) {m:Str->Option Value} (hns:h1.Ns s.heap.objs.size m) (keep: ∀b o,s.heap.get? b=some o->h1.get? b=some o) {tk:Nat}:
  Inv (cxComp X N sc cl s H fp) [] (cst σ k js) H {s with heap:=h1,toks:=tk}:=by
 obtain ⟨hlen,hat⟩:=frOk_at hfr
 refine ⟨I.compOk hf hin hk hsub hall hcell,rfl,I.bare,Un.kept keep,⟨m,hns,λi x v e1 e2 _=> ?_⟩,λx c h=> ?_,I.hok.fresh (Nat.le_refl _),λx c h=>I.freeC x c (hsub x c h),λp hp=>absurd (show p∈([]:List (Addr×Obj)) from hp) (by simp),I.hok.kept keep,?_⟩
 ·have hi:=cst_lo e2
  obtain ⟨d,rfl⟩: ∃d,i=k+d:=⟨i - k,by omega⟩
  obtain ⟨j,ej,ev⟩:=cst_hi e2
  obtain ⟨y,ny,nn,sxl,scl⟩:=hat d j ej
  have exy:x=y:=Option.some.inj ((show N[k+d]? =some x from e1).symm.trans nn)
  subst exy
  obtain ⟨m',hn',hl'⟩:=I.loc
  obtain ⟨u,r,l⟩:=hl' j x v (by rw [hNX];exact ny) ev (.inr (.inl (by rw [hsx];exact sxl)))
  refine ⟨u,r,?_⟩
  have kx:X.env.kindOf x=some .cell:=by show X.env.scope.names.lookup x=_;rw [hsx];exact sxl
  rcases l with ⟨z,_⟩|⟨_,c,hc,ic⟩
  ·rw [kx] at z;cases z
  ·obtain ⟨c',hc'⟩:=hall (x,.free) (PySem.mem_of_lookup scl) rfl
   have ecc:c'=c:=Option.some.inj ((hsub x c' hc').symm.trans hc)
   subst ecc
   refine .inr ⟨.inl ?_,c',hc',?_⟩
   ·exact look_free scl I.ok.kind kx
   ·obtain ⟨o,ho,hd⟩:=ic
    exact ⟨o,keep c' o ho,hd⟩
 ·obtain ⟨v,o,ho,hd⟩:=I.cell x c (hsub x c h)
  exact ⟨v,o,keep c o ho,hd⟩
 ·show (cst σ k js).length=N.length
  rw [cst_len,hlen]
theorem Inv.compWeak {X':Cx} {pl:List (Addr×Obj)} {σ':St} {H':Hp} {s':Shared} {k:Nat} {js:List Nat} (I:Inv X' pl σ' H' s') (hl:σ'.length=k+js.length) (hd: ∀i,k<=i->σ'[i]? =(cst σ k js)[i]?):Inv X' pl (cst σ k js) H' s':=
 I.weak (by rw [cst_len,hl]) λi v e=>by rw [hd i (cst_lo e)];exact e
theorem Inv.compBack {N:List Str} {sc:Scope} {cl:List (Str×Addr)} {fp:List Addr} {σ':St} {H':Hp} {s':Shared} {h':Heap} (I:Inv X pins σ H s) (hf: ∀b∈fp,FpOk X pins H b)
  (J:Inv (cxComp X N sc cl s H fp) [] σ' H' s') (hs: ∀b o,b≠s.heap.objs.size->s'.heap.get? b=some o->h'.get? b=some o):Inv X pins σ H' {s' with heap:=h'}:=by
 have ne: ∀b o,s.heap.get? b=some o->b≠s.heap.objs.size:=λb o e=>Nat.ne_of_lt (Heap.lt_size e)
 have nC:H' s.heap.objs.size=none:=J.free
 refine I.call' (s':= {s' with heap:=h'}) (ch:=fp) J.os ⟨λb o e n hb hx=> ?_,λb o e n hb hx=> ?_,λb o e n hx=>J.base.free b o e n hx,λb o e hx=> ?_,J.base.tups,J.base.frzs,J.base.tbls⟩ (λb u q=> ?_) J.bare (λb hb=> ?_)
 ·exact hs b o (ne b o e) (J.base.keep b o e n hb hx)
 ·obtain ⟨sl,z⟩:=J.base.slot b o e n hb hx
  exact ⟨sl,hs b _ (ne b o e) z⟩
 ·obtain ⟨o',z⟩:=J.base.there b o e hx
  exact ⟨o',hs b o' (ne b o e) z⟩
 ·refine (J.hok b u q).stay (λc v hc z=>hs c v ?_ z) (λ_ z=>z) λ_ _ z=>z
  rintro rfl
  rcases hc with z|z
  ·rw [<-z,nC] at q;cases q
  ·rw [nC] at z;cases z
 ·obtain ⟨f0,f1,f2,f3,f4,f5⟩:=hf b hb
  exact ⟨f3,f1,f4,f5⟩
end
def PTs (X:Cx) (ifs:List Expr) (t:TT):Prop:=
 ∀(pins:List (Addr×Obj)) (s:Shared) (σ:St) (H:Hp) (Q:Bool->Hp->Prop),Inv X pins σ H s->t σ H Q->
  wpAny (model X.prog X.w) X.A (forIn ifs true λc r=>if r=true then do let ok <-isTrue c X.env (eval c X.env);pure (ForInStep.yield ok) else pure (ForInStep.yield r)) (TP X pins σ Q) X.xe s
def tTT:TT:=λ_ H Q=>Q true H
theorem pts_nil {X:Cx}:PTs X [] tTT:=λ_ _ _ H _ I h=>wpAny_tests_nil ⟨H,I,h⟩
theorem pts_one {X:Cx} {c:Expr} {t:TT} (h:PT X c t):PTs X [c] t:=λpins s σ H Q I q=>wpAny_tests_one (h pins s σ H Q I q)
def CompBody (J:It) (g:TG) (tt:TT) (te:TE) (k:Nat) (σ0:St) (D:Addr) (H1:Hp) (Q:Hp->Prop):Prop:=
 ∃W:Nat->Nat->List V->Hp->Prop,(∃m,W 0 m [] (upd H1 D (.lst [])))/\ ∀i m ys H,W i m ys H->
  (J.stop i H/\Q H)\/(J.go i H/\ ∃N:List V->Hp->Prop,(∀ys' H',N ys' H'-> ∃m',m'<m/\W (i+1) m' ys' H')/\ ∀x H2,J.yld i H x H2->g x σ0 H2 λσ3 H3=>(σ3.length=σ0.length/\ ∀j,k<=j->σ3[j]? =σ0[j]?)/\tt σ3 H3 λb H4=>
   if b=true then te σ3 H4 λy H5=>H5 D=some (.lst ys)/\ys.length<sizeLine/\N (ys++ [y]) (upd H5 D (.lst (ys++ [y]))) else N ys H4)
def tComp (wi:TI) (g:TG) (tt:TT) (te:TE) (k:Nat) (js:List Nat):TE:=λσ H Q=>wi σ H λJ H1=> ∀D,H1 D=none->CompBody J g tt te k (cst σ k js) D H1 λH2=>Q (.ref D) H2
section
variable {X:Cx} {elt iter tg:Expr} {ifs:List Expr} {sc sx:Scope} {N NX:List Str} {k:Nat} {js:List Nat} {wi:TI} {g:TG} {tt:TT} {te:TE} {pos:Pos}
theorem comp_block {pins:List (Addr×Obj)} {σ:St} {cl:List (Str×Addr)} {Q:Addr->Hp->Prop} {RR:Value->Addr->Result->Shared->Prop} {s2:Shared} {it:Addr} {fp:List Addr} {tn:Nat->Heap->Prop} {J:It} {H2:Hp}
  (hc:X.calm=true) (hk:sc.kind= .function) (hcell: ∀y∈sc.names,y.2≠ .cell) (hNX:X.N=NX) (hsx:X.env.scope=sx) (hfr:frOk NX N sx sc k js=true)
  (hsub: ∀n c,cl.lookup n=some c->X.env.cells.lookup n=some c) (hall: ∀y∈sc.names,y.2= .free-> ∃c,cl.lookup y.1=some c)
  (hg: ∀s H ex,PG (cxComp X N sc cl s H ex) tg g) (ht: ∀s H ex,PTs (cxComp X N sc cl s H ex) ifs tt) (he: ∀s H ex,PE (cxComp X N sc cl s H ex) elt te)
  (I2:Inv X pins σ H2 s2) (T:Turn X.prog X.w X.K tg J fp it tn) (st2:tn 0 s2.heap) (f2: ∀b∈fp,FpOk X pins H2 b)
  (hq: ∀D,H2 D=none->CompBody J g tt te k (cst σ k js) D H2 (Q D))
  (hR: ∀(D:Addr) (s3 s4:Shared) (H3 H4:Hp) (σ4:St),s3.heap.get? s3.heap.objs.size=none->Inv X pins σ H3 s3->(∀b∈fp,FpOk X pins H3 b)->Inv (cxComp X N sc cl s3 H3 fp) [] σ4 H4 s4->Q D H4->RR (.ref D) s3.heap.objs.size (.ok .next) s4):
  wpAny (model X.prog X.w) X.A (newList []) (λacc s3=>wpAny (model X.prog X.w) X.A (newFunctionEnv sc X.env.globals cl [] X.env.qual none .none (some X.env)) (λcenv s4=>
   codeAny (model X.prog X.w) X.A (.compStart (.ListComp elt [⟨tg,iter,ifs,0⟩] sc pos) 0 (.ref it) acc {cenv with scope:=relabel sc X.env}) (RR acc cenv.locals) s4) X.xe s3) X.xe s2:=by
 have hD:H2 s2.heap.objs.size=none:=I2.hok.fresh (Nat.le_refl _)
 refine wpAny_newObj_type ?_
 have I3:Inv X pins σ (upd H2 s2.heap.objs.size (.lst [])) {s2 with heap:=s2.heap.push {cls:= .type "list",dict:=none,data:= .seq ([]:List Value).toArray}}:=I2.laid (t':=s2.toks) (λb u e=>Heap.get?_push_of_some _ e) (Nat.le_refl _) ⟨Nat.zero_le _,[],0,.nil,Heap.get?_push_size _ rfl⟩
 have f3: ∀b∈fp,FpOk X pins (upd H2 s2.heap.objs.size (.lst [])) b:=λb hb=>by
  obtain ⟨o,e,_⟩:=T.obj _ _ st2 b hb
  obtain ⟨f0,fr⟩:=f2 b hb
  exact ⟨by rw [upd_ne (Nat.ne_of_lt (Heap.lt_size e))];exact f0,fr⟩
 have st3:tn 0 (s2.heap.push {cls:= .type "list",dict:=none,data:= .seq ([]:List Value).toArray}):=T.keep _ _ _ st2 λb _ o e=>Heap.get?_push_of_some _ e
 have q3:=hq s2.heap.objs.size hD
 generalize s2.heap.objs.size=D at I3 f3 q3 ⊢
 generalize e3:({s2 with heap:=s2.heap.push {cls:= .type "list",dict:=none,data:= .seq ([]:List Value).toArray}}:Shared)=s3 at I3 ⊢
 have st3:tn 0 s3.heap:=by rw [<-e3];exact st3
 have in3: ∀b∈fp,∃o,s3.heap.get? b=some o:=λb hb=>by
  obtain ⟨o,e,_⟩:=T.obj _ _ st3 b hb
  exact ⟨o,e⟩
 refine wpAny_newFunctionEnv hcell (by intro y hy;simp at hy) (λh1 hns hsb=> ?_) hk
 have keep: ∀b o,s3.heap.get? b=some o->h1.get? b=some o:=λb o e=>hsb.extBut b o (Nat.ne_of_lt (Heap.lt_size e)) (Heap.get?_push_of_some _ e)
 have I4:Inv (cxComp X N sc cl s3 (upd H2 D (.lst [])) fp) [] (cst σ k js) (upd H2 D (.lst [])) {s3 with heap:=h1,toks:=s3.toks+([]:List (Str×Value)).length}:=I3.compStart f3 in3 hk hsub hall hcell hNX hsx hfr hns keep
 have st4:tn 0 h1:=T.keep _ _ _ st3 λb _ o e=>keep b o e
 obtain ⟨W,⟨m0,w0⟩,turn⟩:=q3
 have stat: ∀ {H':Hp},(∀b∈fp,H' b=none)-> ∀b∈fp,FpOk (cxComp X N sc cl s3 (upd H2 D (.lst [])) fp) [] H' b:=λhn b hb=>by
  obtain ⟨o,e⟩:=in3 b hb
  refine ⟨hn b hb,Nat.ne_of_lt (Heap.lt_size e),I4.ok.exfs b hb,.inl hb,λx c h z=>(f3 b hb).2.2.2.2.1 x c (hsub x c h) z,λp hp=>absurd (show p∈([]:List (Addr×Obj)) from hp) (by simp)⟩
 have loop: ∀s5:Shared,Inv (cxComp X N sc cl s3 (upd H2 D (.lst [])) fp) [] (cst σ k js) (upd H2 D (.lst [])) s5->tn 0 s5.heap->upd H2 D (.lst []) D=some (.lst [])->
   codeAny (model X.prog X.w) X.A (.compLoop (.ListComp elt [⟨tg,iter,ifs,0⟩] sc pos) 0 (.ref it) (.ref D) (compEnvC sc cl s3.heap.objs.size X.env)) (RR (.ref D) s3.heap.objs.size) s5:=λs5 I5 st5 _=>by
  refine comp_walk (λn s'=> ∃i ys H',Inv (cxComp X N sc cl s3 (upd H2 D (.lst [])) fp) [] (cst σ k js) H' s'/\tn i s'.heap/\(∀b∈fp,H' b=none)/\W i n ys H') ?_ m0 ⟨0,[],_,I5,st5,λb hb=>(f3 b hb).1,w0⟩
  rintro n s6 ⟨i,ys,H6,I6,st6,fr6,w6⟩
  rcases turn i n ys H6 w6 with ⟨stop,qe⟩|⟨go,NN,hN,step⟩
  ·refine thn (T.done (cxComp X N sc cl s3 (upd H2 D (.lst [])) fp) rfl rfl rfl hc i [] s6 _ H6 _ I6 (stat fr6) st6 stop) λr s7 ⟨hr,I7⟩=> ?_
   subst hr
   exact hR D s3 s7 _ H6 _ (Heap.get?_none_of_le (Nat.le_refl _)) I3 f3 I7 qe
  ·refine thn (T.item (cxComp X N sc cl s3 (upd H2 D (.lst [])) fp) rfl rfl rfl hc i [] s6 _ H6 _ I6 (stat fr6) st6 go) λr s7 ⟨u,hr,h7⟩=> ?_
   subst hr
   refine thn h7 λ_ s8 ⟨x,H8,I8,r8,y8,st8,fr8⟩=> ?_
   have I8':=I8.pinned (stat fr8) (T.obj _ _ st8)
   refine thn (hg _ _ _ _ s8 _ H8 x u _ I8' r8 (step x H8 y8)) λ_ s9 ⟨σ9,H9,I9,⟨l9,d9⟩,q9⟩=> ?_
   refine thn (ht _ _ _ _ s9 σ9 H9 _ I9 q9) λok s10 ⟨H10,I10,q10⟩=> ?_
   have back: ∀ {H':Hp} {s':Shared},Inv (cxComp X N sc cl s3 (upd H2 D (.lst [])) fp) ([]++pinsAt fp s8.heap) σ9 H' s'->Inv (cxComp X N sc cl s3 (upd H2 D (.lst [])) fp) [] (cst σ k js) H' s'/\tn (i+1) s'.heap/\ ∀b∈fp,H' b=none:=λ{H' s'} Ie=>by
    refine ⟨(Ie.unpinned).compWeak (by rw [l9,cst_len]) d9,T.keep _ _ _ st8 λb hb o e=>(Ie.pin (b,o) (List.mem_append_right _ (List.mem_append_right _ (mem_pinsAt hb e)))).1,λb hb=> ?_⟩
    obtain ⟨o,e,d⟩:=T.obj _ _ st8 b hb
    exact (Ie.pin (b,o) (List.mem_append_right _ (List.mem_append_right _ (mem_pinsAt hb e)))).2.1
   cases ok with
   |false=>
    obtain ⟨m',hm,w'⟩:=hN ys H10 q10
    obtain ⟨b1,b2,b3⟩:=back I10
    exact ⟨m',hm,i+1,ys,H10,b1,b2,b3,w'⟩
   |true=>
    refine thn (he _ _ _ _ s10 σ9 H10 _ I10 q10) λyv s11 ⟨y,H11,I11,r11,hl,hz,nn⟩=> ?_
    obtain ⟨m',hm,w'⟩:=hN _ _ nn
    refine thn (mt_append (X:=cxComp X N sc cl s3 (upd H2 D (.lst [])) fp) _ s11 σ9 H11 (.ref D) [y] (.ref D) [yv] (λ_ H'=>H'=upd H11 D (.lst (ys++ [y]))) I11 rfl (.cons r11 .nil) ⟨D,ys,y,rfl,rfl,hl,hz,rfl⟩) λ_ s12 ⟨_,H12,I12,_,e12⟩=> ?_
    subst e12
    obtain ⟨b1,b2,b3⟩:=back I12
    exact ⟨m',hm,i+1,ys++ [y],_,b1,b2,b3,w'⟩
 exact codeAny_compStart_list (loop _ I4 st4 upd_same) (T.self _ 0 _ _ _ st4 (loop _ I4 st4 upd_same))
theorem pe_comp (NX:List Str) (sx:Scope) (k:Nat) (js:List Nat) (N:List Str) (hc:X.calm=true) (hfr:frOk NX N sx sc k js=true) (hi:PI X tg iter wi)
  (hg: ∀cl s H ex,PG (cxComp X N sc cl s H ex) tg g) (ht: ∀cl s H ex,PTs (cxComp X N sc cl s H ex) ifs tt) (he: ∀cl s H ex,PE (cxComp X N sc cl s H ex) elt te)
  (hfree: ∀y∈sc.names,y.2= .free->sx.names.lookup y.1=some .cell) (hnames: ∀y∈sc.names,y.2= .local->sc.names.lookup y.1=some .local) (hcell: ∀y∈sc.names,y.2≠ .cell)
  (hNX:X.N=NX:=by rfl) (hsx:X.env.scope=sx:=by rfl) (hk:sc.kind= .function:=by rfl) (hs: ∀x,foldedSetIterable iter X.env x=pure x:=by intro _;rfl):
  PE X (.ListComp elt [⟨tg,iter,ifs,0⟩] sc pos) (tComp wi g tt te k js):=by
 intro pins s σ H Q I h
 obtain ⟨cl,hclos,hsub,hall⟩:=closure_ok (env:=X.env) (sc:=sc) λy hy hf=>I.ok.has y.1 (.inl (by show X.env.scope.names.lookup y.1=_;rw [hsx];exact hfree y hy hf))
 rw [eval_ListComp]
 refine wpAny_comprehension_free (use:=none) rfl hs hclos hk hnames (thn (hi pins s σ H _ I h) λxv s1 h1=>thn h1 λitv s2 h2=> ?_)
 obtain ⟨it,fp,tn,J,H2,e,I2,T,st2,f2,q2⟩:=h2
 subst e
 refine comp_block (RR:=λacc C=>compPost (model X.prog X.w) X.A X.xe none (EP X pins σ Q) acc C) (Q:=λD H'=>Q (.ref D) H') hc hk hcell hNX hsx hfr hsub hall (hg cl) (ht cl) (he cl) I2 T st2 f2 q2 ?_
 intro D s3 s4 H3 H4 σ4 _ I3 f3 J4 q4
 obtain ⟨m,hn,_⟩:=J4.loc
 exact ⟨m,hn,λh' hs'=>⟨.ref D,H4,I3.compBack f3 J4 λb o hb e=>(hs'.2 b hb).trans e,rfl,q4⟩⟩
theorem ps_comp (NX:List Str) (sx:Scope) (k:Nat) (js:List Nat) (N:List Str) {i:Nat} {y:Str} {py spos:Pos} (hN:X.N.Nodup) (hyi:X.N[i]? =some y) (hc:X.calm=true) (hfr:frOk NX N sx sc k js=true) (hi:PI X tg iter wi)
  (hg: ∀cl s H ex,PG (cxComp X N sc cl s H ex) tg g) (ht: ∀cl s H ex,PTs (cxComp X N sc cl s H ex) ifs tt) (he: ∀cl s H ex,PE (cxComp X N sc cl s H ex) elt te)
  (hfree: ∀y∈sc.names,y.2= .free->sx.names.lookup y.1=some .cell) (hnames: ∀y∈sc.names,y.2= .local->sc.names.lookup y.1=some .local) (hcell: ∀y∈sc.names,y.2≠ .cell)
  (hy:X.env.scope.names.lookup y=some .local:=by rfl)
  (hsw:swapsWith (.ListComp elt [⟨tg,iter,ifs,0⟩] sc pos) (some (.Name y py)) spos.line X.env=pure true:=by rfl)
  (hNX:X.N=NX:=by rfl) (hsx:X.env.scope=sx:=by rfl) (hk:sc.kind= .function:=by rfl) (hs: ∀x,foldedSetIterable iter X.env x=pure x:=by intro _;rfl):
  PS X (.Assign [.Name y py] (.ListComp elt [⟨tg,iter,ifs,0⟩] sc pos) spos) (tAsg (tComp wi g tt te k js) (gName i)):=by
 intro pins s σ H D I h
 obtain ⟨cl,hclos,hsub,hall⟩:=closure_ok (env:=X.env) (sc:=sc) λy hy hf=>I.ok.has y.1 (.inl (by show X.env.scope.names.lookup y.1=_;rw [hsx];exact hfree y hy hf))
 rw [exec_Assign_Name_used _ _ _ _ hsw]
 refine wpAny_bind (wpAny_standAt (wpAny_bind ?_))
 show wpAny _ X.A (comprehension (.ListComp elt [⟨tg,iter,ifs,0⟩] sc pos) sc X.env _ (newList []) false (eval iter X.env) (some (assign (.Name y py) X.env))>>=λ_=>pure ()) _ _ s
 refine wpAny_bind (wpAny_mono (Q:=λ_ s'=>SP X pins D .next s') (wpAny_comprehension_free (use:=some (assign (.Name y py) X.env)) (Q:=λ_ s'=>SP X pins D .next s') rfl hs hclos hk hnames
  (thn (hi pins s σ H _ I h) λxv s1 h1=>thn h1 λitv s2 h2=> ?_)) (λ_ s' hq=>wpAny_pure (wpAny_pure hq)) λ_ _ e=>e)
 obtain ⟨it,fp,tn,J,H2,e,I2,T,st2,f2,q2⟩:=h2
 subst e
 refine comp_block (RR:=λacc C=>compPost (model X.prog X.w) X.A X.xe (some (assign (.Name y py) X.env)) (λ_ s'=>SP X pins D .next s') acc C) (Q:=λL H'=>D.nx (σ.set i (some (.ref L))) H') hc hk hcell hNX hsx hfr hsub hall (hg cl) (ht cl) (he cl) I2 T st2 f2 q2 ?_
 intro L s3 s4 H3 H4 σ4 _ I3 f3 J4 q4
 obtain ⟨m,hn,_⟩:=J4.loc
 have I4:Inv X pins σ H4 s4:=I3.compBack (h':=s4.heap) f3 J4 λb o _ e=>e
 show wpAny _ X.A (assign (.Name y py) X.env (.ref L)) _ _ _
 refine wpAny_assign_Name (store_ok2 I4 hN hyi (.inl hy) (v:= .ref L) (u:= .ref L) rfl (λs5 I5 hsb=> ?_) (.inr hy))
 have neC: ∀a,(a=X.env.locals\/X.env.cells.lookup y=some a)->a≠s3.heap.objs.size:=λa ha z=>by
  rcases ha with ha|ha
  ·have:=I3.lt
   rw [<-ha,z] at this
   exact Nat.lt_irrefl _ this
  ·obtain ⟨v,q⟩:=I3.cell y a ha
   have:=q.lt
   rw [z] at this
   exact Nat.lt_irrefl _ this
 obtain ⟨a,sb,ha⟩:=hsb
 refine ⟨m,hn.sameBut sb (Ne.symm (neC a ha)),λh' hs'=> ?_⟩
 have fC:H4 s3.heap.objs.size=none:=J4.free
 refine ⟨_,H4,?_,q4⟩
 have nL:X.env.locals≠s3.heap.objs.size:=neC _ (.inl rfl)
 refine I5.turned (it:=s3.heap.objs.size) (t':=s5.toks) (λb o hb e=>(hs'.2 b hb).trans e) fC (Ne.symm nL) (.inr I3.sz) (λx c e z=> ?_) λp hp z=> ?_
 ·obtain ⟨v,q⟩:=I3.cell x c e
  have:=q.lt
  rw [z] at this
  exact Nat.lt_irrefl _ this
 ·have:=Heap.lt_size (I3.pin p hp).1
  rw [z] at this
  exact Nat.lt_irrefl _ this
end
section
variable {X:Cx}
def rIsi (K:Frag):List V->Hp->VK->Prop:=λxs H Q=> ∃x T t b,xs= [x,.ty T]/\TyOf K H x t/\PySem.W.kitOne K t (.type T)=some b/\Q (.bl b) H
theorem call_isi:CallR X (.builtin "isinstance") (rIsi X.K):=by
 intro pins s σ H xs us Q I r h
 obtain ⟨x,T,t,b,rfl,ty,e,q⟩:=h
 obtain ⟨u,w,rfl,rx,ry⟩:=vals2 r
 cases ry
 exact isinst_ok I rx ty e λtk=>⟨.bl b,H,I.tok _,rfl,q⟩
def CDivB (_ j:Int):Prop:=0<j/\j<18446744073709551616
theorem op_fdivB:OpR X (binaryOp .FloorDiv) (rI CDivB λi j=> .int (i/j)):=opI λi j _ _ _ _ _ hc q=>by
 have h1:(0:Int)<j:=hc.1
 have h2:j<18446744073709551616:=hc.2
 refine floordiv_int (by omega) (by rw [Int.fdiv_eq_ediv_of_nonneg i (by omega)];exact q) (.inl (PyProof.noPylong_of_log2 ?_))
 have h0:j.natAbs≠0:=by omega
 have h64:j.natAbs.log2<64:=(Nat.log2_lt h0).mpr (by omega)
 omega
def EqW (x y:V) (b:Bool):Prop:=(flatV x=true/\flatV y=true/\b=eqV x y)\/(∃a,x= .ref a/\y= .ref a/\b=true)
theorem EqW.at {A:Around} {s:Shared} {x y:V} {u v:Value} {b:Bool} (h:EqW x y b) (rx:RelV x u) (ry:RelV y v):SeqAt.EqAt A s u v b:=by
 rcases h with ⟨fx,fy,e⟩|⟨a,e1,e2,e3⟩
 ·subst e
  exact eqAt_V rx ry fx fy
 ·subst e1 e2 e3
  cases rx
  cases ry
  exact SeqAt.EqAt.same _
def rEqL (K:Frag):R2:=λx y H Q=> ∃a b xs ys,x= .ref a/\y= .ref b/\SqL K H a xs/\SqL K H b ys/\
 ((xs.length≠ys.length/\Q (.bl false) H)\/(xs.length=ys.length/\ ∃e:Nat->Bool,(∀j x y,xs[j]? =some x->ys[j]? =some y->EqW x y (e j))/\Q (.bl ((List.range xs.length).all e)) H))
theorem op_eqL (hu:X.A.units<cLine):OpR X (compareOp .Eq) (rEqL X.K):=by
 intro pins s σ H x y v u Q I rx ry h
 obtain ⟨a,b,xs,ys,rfl,rfl,ha,hb,h⟩:=h
 cases rx
 cases ry
 obtain ⟨its,r1,p1,_⟩:=I.list ha
 obtain ⟨its2,r2,p2,_⟩:=I.list hb
 have l1:=r1.length
 have l2:=r2.length
 rcases h with ⟨hn,q⟩|⟨he,e,hq,q⟩
 ·refine SeqAt.eq_list_lengthsAt p1.isList p2.isList ?_ hu ⟨.bl false,H,I,rfl,q⟩
  simp only [List.size_toArray,bne_iff_ne,ne_eq]
  omega
 ·refine SeqAt.eq_listAt (e:=e) p1.isList p2.isList (by simp only [List.size_toArray];omega) hu (λj h1 h2=> ?_) ?_
  ·simp only [List.size_toArray] at h1 h2
   have e1:xs[j]? =some xs[j]:=List.getElem?_eq_getElem (by omega)
   have e2:ys[j]? =some ys[j]:=List.getElem?_eq_getElem (by omega)
   obtain ⟨v1,g1,rv1⟩:=r1.get e1
   obtain ⟨v2,g2,rv2⟩:=r2.get e2
   have z1:its.toArray[j]=v1:=by
    have:its[j]? =some its[j]:=List.getElem?_eq_getElem h1
    rw [this] at g1
    simpa using Option.some.inj g1
   have z2:its2.toArray[j]=v2:=by
    have:its2[j]? =some its2[j]:=List.getElem?_eq_getElem h2
    rw [this] at g2
    simpa using Option.some.inj g2
   rw [z1,z2]
   exact (hq j _ _ e1 e2).at rv1 rv2
  ·have z:its.toArray.size=xs.length:=by simp only [List.size_toArray];omega
   rw [z]
   exact ⟨.bl _,H,I,rfl,q⟩
end
structure Fn (P:Program) (w:World) (K:Frag) (mg:Str->Option Value) (base:Heap) (x:Str) (k:Nat) (ps:List Str) (sp:Sp):Prop where
 ex: ∃f fd,FnOk P w K mg base CX0 k f fd ps sp/\mg x=some (.ref f)/\PySem.W.keepIn K (.ref f)=true/\Binds K fd ps []
section
variable {X:Cx} {k:Nat} {ps:List Str} {sp:Sp} {x:Str} {p pos:Pos} {e:Expr} {es:List Expr} {t:TA}
theorem pe_fn {j:Nat} (F:Fn X.prog X.w X.K X.mg X.base x k ps sp) (hr:Room j X.A) (hj:k<=j) (hg:Gl X x) (ha:PA X (e::es) t) (hdb:(x==("__debug__" :Str))=false:=by decide)
  (he:starEach (e::es) X.env=(false,eval e X.env)::starEach es X.env:=by rfl) (hpl:(backTo pos (starEach es X.env)).any (·.1)=false:=by rfl):
  PE X (.Call (.Name x p) (e::es) [] pos) (tCall sp [] E0 t):=by
 obtain ⟨f,fd,G,hm,hk,hb⟩:=F.ex
 exact pe_call G (hr.mono hj) hg hm hk hb .nil pass0 ha hdb he hpl
theorem pe_globI {i:Int} (hg:Gl X x) (hm: ∃t,X.mg x=some (.int i t)) (hd:(x==("__debug__" :Str))=false:=by decide):PE X (.Name x pos) (tC (.int i)):=by
 obtain ⟨t,hm⟩:=hm
 exact pe_glob hg hm ⟨t,rfl⟩ hd
end
section
variable {σ:St} {H:Hp} {Q:VK} {D:Ends} {ta tb tc:TE} {t u:TS} {tt uu:TT} {tA:TA}
theorem r_isi {K:Frag} {x:V} {T:String} {t:Value} {b:Bool} (ty:TyOf K H x t) (e:PySem.W.kitOne K t (.type T)=some b) (q:Q (.bl b) H):rIsi K [x,.ty T] H Q:=⟨x,T,t,b,rfl,ty,e,q⟩
end
theorem Same.new {H:Hp} {p:Addr} {o:HO} (h:H p=none):Same H (upd H p o):=λb u e=>by rw [upd_ne (ne_of_none e h)];exact e
def rLen (K:Frag):List V->Hp->VK->Prop:=λxs H Q=> ∃p ys,xs= [.ref p]/\(SqL K H p ys\/SqT K H p ys)/\Q (.int ys.length) H
def rMin:List V->Hp->VK->Prop:=λxs H Q=> ∃i j,xs= [.int i,.int j]/\Q (.int (if j<i then j else i)) H
def rMax:List V->Hp->VK->Prop:=λxs H Q=> ∃i j,xs= [.int i,.int j]/\Q (.int (if j>i then j else i)) H
def rListOf (K:Frag):List V->Hp->VK->Prop:=λxs H Q=> ∃p ys,xs= [.ref p]/\(SqL K H p ys\/SqT K H p ys)/\ ∀l,H l=none->Q (.ref l) (upd H l (.lst ys))
def rIntOf:List V->Hp->VK->Prop:=λxs H Q=>(∃i,xs= [.int i]/\Q (.int i) H)\/ ∃k,xs= [.bl k]/\Q (.int (if k then 1 else 0)) H
section
variable {X:Cx}
theorem cb_len:CallR X (.builtin "len") (rLen X.K):=call_len_seq
theorem cb_min (hc:X.calm=true):CallR X (.builtin "min") rMin:=call_min2 hc
theorem cb_max (hc:X.calm=true):CallR X (.builtin "max") rMax:=call_max2 hc
theorem cb_list:CallR X (.type "list") (rListOf X.K):=call_list_of
theorem cb_int:CallR X (.type "int") rIntOf:=call_int1
end
section
variable {K:Frag} {H:Hp} {i:Int}
theorem r_tyL {p:Addr} {xs:List V} {q:Prop} (h:SqL K H p xs) (k:q):tyV K "list" (.ref p) H/\q:=⟨.inl ⟨rfl,xs,h⟩,k⟩
end
theorem cb_lenK {X:Cx} (K:Frag) (h:X.K=K):CallR X (.builtin "len") (rLen K):=h ▸ cb_len
section
variable {X:Cx}
def rNeL (K:Frag):R2:=λx y H Q=> ∃a b xs ys,x= .ref a/\y= .ref b/\SqL K H a xs/\SqL K H b ys/\
 ((xs.length≠ys.length/\Q (.bl true) H)\/(xs.length=ys.length/\ ∃e:Nat->Bool,(∀j x y,xs[j]? =some x->ys[j]? =some y->EqW x y (e j))/\Q (.bl (!(List.range xs.length).all e)) H))
theorem op_neL (hu:X.A.units<cLine):OpR X (compareOp .NotEq) (rNeL X.K):=by
 intro pins s σ H x y v u Q I rx ry h
 obtain ⟨a,b,xs,ys,rfl,rfl,ha,hb,h⟩:=h
 cases rx
 cases ry
 obtain ⟨its,r1,p1,_⟩:=I.list ha
 obtain ⟨its2,r2,p2,_⟩:=I.list hb
 have l1:=r1.length
 have l2:=r2.length
 rcases h with ⟨hn,q⟩|⟨he,e,hq,q⟩
 ·refine SeqAt.RcNeAt.lists_lengths p1.isList p2.isList ?_ hu X.prog X.w X.xe _ ⟨.bl true,H,I,rfl,q⟩
  simp only [List.size_toArray,bne_iff_ne,ne_eq]
  omega
 ·refine SeqAt.RcNeAt.lists (e:=e) p1.isList p2.isList (by simp only [List.size_toArray];omega) hu (λj h1 h2=> ?_) X.prog X.w X.xe _ ?_
  ·simp only [List.size_toArray] at h1 h2
   have e1:xs[j]? =some xs[j]:=List.getElem?_eq_getElem (by omega)
   have e2:ys[j]? =some ys[j]:=List.getElem?_eq_getElem (by omega)
   obtain ⟨v1,g1,rv1⟩:=r1.get e1
   obtain ⟨v2,g2,rv2⟩:=r2.get e2
   have z1:its.toArray[j]=v1:=by
    have:its[j]? =some its[j]:=List.getElem?_eq_getElem h1
    rw [this] at g1
    simpa using Option.some.inj g1
   have z2:its2.toArray[j]=v2:=by
    have:its2[j]? =some its2[j]:=List.getElem?_eq_getElem h2
    rw [this] at g2
    simpa using Option.some.inj g2
   rw [z1,z2]
   exact (hq j _ _ e1 e2).at rv1 rv2
  ·have z:its.toArray.size=xs.length:=by simp only [List.size_toArray];omega
   rw [z]
   exact ⟨.bl _,H,I,rfl,q⟩
end
section
variable {X:Cx}
theorem pg_tupK {es:List Expr} {k:Nat} {t:TGs} {n:Nat} {pos:Pos} (K:Frag) (hK:X.K=K) (hc:X.calm=true) (h:PGs X es t)
  (hn:(assignEach es X.env).length=n:=by rfl) (hst:(assignEach es X.env).findIdx? (·.1)=none:=by rfl):PG X (.Tuple es k pos) (gTup K n t):=hK ▸ pg_tup hc h hn hst
def rIxQ (K:Frag):R2:=λx y H Q=> ∃p xs i v,x= .ref p/\y= .int i/\(SqL K H p xs\/SqT K H p xs)/\atI xs i=some v/\Q v H
theorem ix_seqK (K:Frag) (h:X.K=K):IxR X (rIxQ K):=by
 subst h
 intro va sl pins s σ H x y v u Q I rx ry hh hz
 obtain ⟨p,xs,i,z,e1,e2,hs,he,q⟩:=hh
 rcases hs with hs|hs
 ·exact ix_list va sl pins s σ H x y v u Q I rx ry ⟨p,xs,i,z,e1,e2,hs,he,q⟩ hz
 ·exact ix_tup va sl pins s σ H x y v u Q I rx ry ⟨p,xs,i,z,e1,e2,hs,he,q⟩ hz
end
def CX1 (P:Program) (w:World):CXT:=λouter H s E e s'=>
 ∃(a C t:Addr) (H':Hp) (B:Heap),e= .ref a/\s'.os=s.os/\AllBare s'.gens/\Un (frs outer) [] H H' s.heap s'.heap/\HOk P w H' B/\
  (∀b o,s.heap.get? b=some o->b∉frs outer->(∃o',B.get? b=some o')/\(H b=none->B.get? b=some o))/\
  Heap.FlyingW B outer a (.ref C) (.ref t) s'.heap/\E (.ref C) (some t) H'
theorem un_fly {fs:List Addr} {H H':Hp} {h h' B:Heap} (kB: ∀b o,h.get? b=some o->b∉fs->(∃o',B.get? b=some o')/\(H b=none->B.get? b=some o)) (st:B.StaysIn h')
  (fr: ∀b o,h.get? b=some o->b∈fs-> ∃sl,h'.get? b=some {o with slots:=sl}) (free: ∀b o,h.get? b=some o->H b=none->H' b=none)
  (tups: ∀b xs,H b=some (.tup xs)->H' b=some (.tup xs)) (frzs: ∀b o u,H b=some (.frz o u)->H' b=some (.frz o u)) (tbls: ∀b ps,H b=some (.tbl ps)-> ∃more,H' b=some (.tbl (ps++more))):
  Un fs [] H H' h h' where
 keep:=λb o e n hb _=>st b o ((kB b o e hb).2 n)
 slot:=λb o e n hb _=>fr b o e hb
 free:=λb o e n _=>free b o e n
 there:=λb o e _=>by
  by_cases hb:b∈fs
  ·obtain ⟨sl,q⟩:=fr b o e hb;exact ⟨_,q⟩
  ·obtain ⟨o',q⟩:=(kB b o e hb).1;exact ⟨o',st _ _ q⟩
 tups:=tups
 frzs:=frzs
 tbls:=tbls
theorem HOk.none_of {P:Program} {w:World} {H:Hp} {h:Heap} {a:Addr} (x:HOk P w H h) (e:h.get? a=none):H a=none:=by
 cases q:H a with
 |none=>rfl
 |some u=>
  have:=x a u q
  exfalso
  cases u with
  |lst xs=>obtain ⟨_,_,_,_,e'⟩:=this;rw [e] at e';cases e'
  |tup xs=>obtain ⟨_,_,_,_,e',_⟩:=this;rw [e] at e';cases e'
  |dK kvs=>obtain ⟨_,_,_,_,o,_,_,e',_⟩:=this;rw [e] at e';cases e'
  |dT kvs=>obtain ⟨_,_,_,_,o,_,_,e',_⟩:=this;rw [e] at e';cases e'
  |set S n=>obtain ⟨o,_,_,_,e',_⟩:=this;rw [e] at e';cases e'
  |ins C dx fs=>obtain ⟨_,_,_,e',_⟩:=this;rw [e] at e';cases e'
  |own y=>obtain ⟨_,e'⟩:=this;rw [e] at e';cases e'
  |xd fs=>obtain ⟨_,⟨_,_,_,e',_⟩,_⟩:=this;rw [e] at e';cases e'
  |rng lo hi=>obtain ⟨_,_,_,e'⟩:=this;rw [e] at e';cases e'
  |frz ob u=>obtain ⟨e',_⟩:=this;rw [e] at e';cases e'
  |tbl ps=>have e':h.get? a=some _:=this;rw [e] at e';cases e'
  |met f y=>have e':h.get? a=some _:=this;rw [e] at e';cases e'
  |ext φ=>obtain ⟨_,⟨_,e'⟩,_⟩:=this;rw [e] at e';cases e'
theorem HOk.hide {P:Program} {w:World} {H:Hp} {h:Heap} {l:List Addr} (x:HOk P w H h) (n: ∀b∈l,H b=none):HOk P w H (PySem.W.hideAll h l):=λa o e=>
 (x a o e).stay (λb u hb q=>PySem.W.hideAll_get l q λz=>by
  rcases hb with rfl|hb
  ·rw [n _ z] at e;cases e
  ·rw [n _ z] at hb;cases hb) (λ_ q=>q) λ_ _ q=>q
theorem HOk.laidN {P:Program} {w:World} {H:Hp} {h h':Heap} {a:Addr} {o:HO} (x:HOk P w H h) (k: ∀b u,h.get? b=some u->h'.get? b=some u) (hn:H a=none) (new:ObjOk P w (upd H a o) h' a o):HOk P w (upd H a o) h':=λb u e=>by
 by_cases hb:b=a
 ·subst hb;rw [upd_same] at e;cases e;exact new
 ·rw [upd_ne hb] at e
  exact (x b u e).stay (λc v _ q=>k c v q) (λc q=>by rw [upd_ne (ne_of_none q hn)];exact q) λc xs q=>by rw [upd_ne (ne_of_none q hn)];exact q
section
variable {P:Program} {w:World} {K:Frag} {mg:Str->Option Value} {base:Heap} {N:List Str} {qual:Str} {scope:Scope} {f:Addr} {cd:Value} {A:Around} {outer:List Env} {s₀:Shared} {H₀:Hp} {E:XK}
theorem mem_frs {env:Env} {l:List Env} {b:Addr} (hb:b∈frs (env::l)):env.frame=some b\/b∈frs l:=by
 unfold frs at hb ⊢
 rw [List.filterMap_cons] at hb
 cases q:env.frame with
 |none=>rw [q] at hb;exact .inr hb
 |some c=>
  rw [q] at hb
  rcases List.mem_cons.mp hb with e|hb
  ·exact .inl (by rw [e])
  ·exact .inr hb
theorem passX:Passes (CX1 P w) (cxOf (CX1 P w) P w K mg base N qual scope f cd A outer s₀ H₀ E) E:=by
 intro pins σ H s e s' I ⟨a,C,t,H',B,he,os,bare,un,hok,kB,fl,hE⟩
 subst he
 show wpAny _ _ (leaving _ (.ref a)) _ _ s'
 refine wpAny_leaves_onW (base:=B) I.ok.frames rfl fl λh' fl' up=> ?_
 have st:=I.stack
 have fr: ∀b o,s.heap.get? b=some o->b∈frs (cxOf (CX1 P w) P w K mg base N qual scope f cd A outer s₀ H₀ E).stack-> ∃sl,h'.get? b=some {o with slots:=sl}:=λb o ho hb=>by
  obtain ⟨_,o',ho',hd⟩:=st.mem hb
  rw [ho] at ho';cases ho'
  obtain ⟨sl,q⟩:=un.slot b o ho (I.stkFree b hb) hb (by simp)
  obtain ⟨sl',q'⟩:=up b _ q hd
  exact ⟨sl',q'⟩
 have u2:Un (frs (cxOf (CX1 P w) P w K mg base N qual scope f cd A outer s₀ H₀ E).stack) [] H H' s.heap h':=
  un_fly kB fl'.1 fr (λb o e n=>un.free b o e n (by simp)) un.tups un.frzs un.tbls
 have J:=I.call' (s':= {s' with heap:=h'}) (ch:= []) os u2 (hok.kept fl'.1) bare (λ_ z=>nomatch z)
 refine ⟨a,C,t,H',B,rfl,J.os,J.bare,J.base,hok,λb o e hb=> ?_,fl',hE⟩
 obtain ⟨o',e1⟩:=I.base.there b o e (by show b∉ [];simp)
 have nb:b∉frs (cxOf (CX1 P w) P w K mg base N qual scope f cd A outer s₀ H₀ E).stack:=λz=>by
  rcases mem_frs z with q|q
  ·have q:s₀.heap.objs.size=b:=Option.some.inj q
   exact absurd (Heap.lt_size e) (by rw [q];exact Nat.lt_irrefl _)
  ·exact hb q
 refine ⟨(kB b o' e1 nb).1,λn=> ?_⟩
 exact (kB b o (I.base.keep b o e n hb (by show b∉ [];simp)) nb).2 (I.base.free b o e n (by show b∉ [];simp))
def Raises (X:Cx) (E:XK):Prop:= ∀(pins:List (Addr×Obj)) (σ:St) (H:Hp) (s:Shared) (h':Heap) (e C:Addr) (us:List Value) (vs:List V),Inv X pins σ H s->Heap.MadeExcOf s.heap h' e (.ref C) us->Vals vs us->vs.length<=sizeLine->
 (∀t,H t=none->E (.ref C) (some t) (upd H t (.tup vs)))->X.xe (.ref e) {s with heap:=h'}
theorem raiseX:Raises (cxOf (CX1 P w) P w K mg base N qual scope f cd A outer s₀ H₀ E) E:=by
 intro pins σ H s h' e C us vs I hx rv hz hE
 show wpAny _ _ (leaving _ (.ref e)) _ _ _
 obtain ⟨t,he,htn,ht⟩:=hx.there
 have tn:H t=none:=I.hok.none_of htn
 have en:H e=none:=I.hok.none_of hx.new
 have st:=I.stack
 have st':h'.FunFrames base (cxOf (CX1 P w) P w K mg base N qual scope f cd A outer s₀ H₀ E).stack:=st.of_keeps λb o hb _=>⟨o,hx.keeps b o hb,rfl⟩
 have stF: ∀b∈frs (cxOf (CX1 P w) P w K mg base N qual scope f cd A outer s₀ H₀ E).stack,H b=none:=I.stkFree
 have tnf:t∉frs (cxOf (CX1 P w) P w K mg base N qual scope f cd A outer s₀ H₀ E).stack:=λz=>by
  obtain ⟨_,o,ho,_⟩:=st.mem z
  rw [htn] at ho;cases ho
 have tne:t≠e:=λz=>by
  subst z
  rw [he] at ht
  injection ht with ht
  have:=congrArg Obj.data ht
  cases this
 refine wpAny_leaving_firstW (base:=PySem.W.hideAll h' (e::frs (cxOf (CX1 P w) P w K mg base N qual scope f cd A outer s₀ H₀ E).stack)) (a0:= .ref t) (L:=s₀.heap.objs.size) I.ok.frames
  (PySem.W.funFrames_hide st' λenv henv b hb=>List.mem_cons_of_mem _ (List.mem_filterMap.mpr ⟨env,henv,hb⟩)) rfl he (λb o q=>PySem.W.of_hideAll _ q) (PySem.W.hideAll_none _ List.mem_cons_self) rfl rfl rfl λh'' hL=> ?_
 obtain ⟨k1,k2,k3,k4⟩:=hL
 have hok':HOk P w (upd H t (.tup vs)) h':=I.hok.laidN hx.keeps tn ⟨hz,us,rv,⟨_,ht,rfl,_,rfl⟩⟩
 have hokB:HOk P w (upd H t (.tup vs)) (PySem.W.hideAll h' (e::frs (cxOf (CX1 P w) P w K mg base N qual scope f cd A outer s₀ H₀ E).stack)):=hok'.hide λb hb=>by
  rcases List.mem_cons.mp hb with rfl|hb
  ·rw [upd_ne (Ne.symm tne)];exact en
  ·rw [upd_ne (show b≠t from λz=>tnf (z ▸ hb))];exact stF b hb
 have kB: ∀b o,s.heap.get? b=some o->b∉frs (cxOf (CX1 P w) P w K mg base N qual scope f cd A outer s₀ H₀ E).stack->
   (∃o',(PySem.W.hideAll h' (e::frs (cxOf (CX1 P w) P w K mg base N qual scope f cd A outer s₀ H₀ E).stack)).get? b=some o')/\(H b=none->(PySem.W.hideAll h' (e::frs (cxOf (CX1 P w) P w K mg base N qual scope f cd A outer s₀ H₀ E).stack)).get? b=some o):=λb o ho hb=>by
  have q:=PySem.W.hideAll_get (e::frs (cxOf (CX1 P w) P w K mg base N qual scope f cd A outer s₀ H₀ E).stack) (hx.keeps b o ho) λz=>by
   rcases List.mem_cons.mp z with rfl|z
   ·rw [hx.new] at ho;cases ho
   ·exact hb z
  exact ⟨⟨o,q⟩,λ_=>q⟩
 have fr: ∀b o,s.heap.get? b=some o->b∈frs (cxOf (CX1 P w) P w K mg base N qual scope f cd A outer s₀ H₀ E).stack-> ∃sl,h''.get? b=some {o with slots:=sl}:=λb o ho hb=>by
  obtain ⟨_,o',ho',hd⟩:=st.mem hb
  rw [ho] at ho';cases ho'
  exact k4 b o (hx.keeps b o ho) hd
 have ne: ∀ {b o},H b=some o->b≠t:=λ{b o} q z=>by rw [z,tn] at q;cases q
 have u2:Un (frs (cxOf (CX1 P w) P w K mg base N qual scope f cd A outer s₀ H₀ E).stack) [] H (upd H t (.tup vs)) s.heap h'':=
  un_fly kB k1 fr (λb o ho n=>by rw [upd_ne λz=>by rw [z,htn] at ho;cases ho];exact n) (λb xs q=>by rw [upd_ne (ne q)];exact q) (λb o u q=>by rw [upd_ne (ne q)];exact q)
   (λb ps q=>⟨#[],by rw [upd_ne (ne q),q];simp⟩)
 have J:=I.call' (s':= {s with heap:=h''}) (ch:= []) rfl u2 (hokB.kept k1) I.bare (λ_ z=>nomatch z)
 obtain ⟨_,_,k2'⟩:=k2
 refine ⟨e,C,t,_,_,rfl,J.os,J.bare,J.base,hokB,λb o hb nb=> ?_,⟨k1,PySem.W.hideAll_none _ List.mem_cons_self,k2',k3⟩,hE t tn⟩
 obtain ⟨o',e1⟩:=I.base.there b o hb (by show b∉ [];simp)
 have nb':b∉frs (cxOf (CX1 P w) P w K mg base N qual scope f cd A outer s₀ H₀ E).stack:=λz=>by
  rcases mem_frs z with q|q
  ·have q:s₀.heap.objs.size=b:=Option.some.inj q
   exact absurd (Heap.lt_size hb) (by rw [q];exact Nat.lt_irrefl _)
  ·exact nb q
 refine ⟨(kB b o' e1 nb').1,λn=> ?_⟩
 exact (kB b o (I.base.keep b o hb n nb (by show b∉ [];simp)) nb').2 (I.base.free b o hb n (by show b∉ [];simp))
end
abbrev bmV:List Value:= [.type "ValueError",.type "Exception",.type "BaseException",.type "object"]
abbrev ExcCls (K:Frag) (C:Addr):Prop:=PySem.W.excIn K C bmV "ValueError.__new__" =true
theorem exc_of {K:Frag} {h:Heap} {C:Addr} {bmB:List Value} {newId:String} (X:K.In h) (z:PySem.W.excIn K C bmB newId=true):
  ∃nm qn N bs bm hd sn sub ab col dd k0 k1 k2 k3 k5 mN,h.get? C=some (excClassObj nm qn C N bs bm hd sn sub ab col dd k0 k1 k2 k3 k5 newId)/\h.Ns N mN/\mN "__init__" =none/\OwnTail h bmB bm:=by
 unfold PySem.W.excIn at z
 cases e:K.lookup C with
 |none=>rw [e] at z;cases z
 |some o=>
  rw [e] at z
  obtain ⟨oc,od,data,sl⟩:=o
  split at z
  next dd cd sl' heq=>
   injection heq with heq
   cases heq
   split at z
   next C' bm a0 a1 a2 a3 n a5 hm hs=>
    rw [Bool.and_eq_true,Bool.and_eq_true,Bool.and_eq_true,Bool.and_eq_true,Bool.and_eq_true] at z
    obtain ⟨⟨⟨⟨⟨z1,z2⟩,z3⟩,z4⟩,z5⟩,z6⟩:=z
    obtain rfl:=beq_iff_eq.mp z1
    obtain rfl:=beq_iff_eq.mp z2
    have z6:=beq_iff_eq.mp z6
    cases cd with
    |mk nm bs mro ns qn hd sn sub ab col del=>
     have hm':mro=_:=hm
     subst hm'
     cases del with
     |true=>cases z3
     |false=>
      cases sl with
      |mk l=>
       have hs':l=_:=hs
       subst hs'
       exact ⟨nm,qn,ns,bs,bm,hd,sn,sub,ab,col,od,a0,a1,a2,a3,a5,_,X _ _ e,.of_isNs (PySem.W.isNs_of_in X z5),PySem.W.nsMap_none_of_in X z5 z6,PySem.W.tail_of_in X z4⟩
   next=>cases z
  next=>cases z
def tRaise (C:Addr) (E:XK) (t:TA):TS:=λ_ σ H=>t σ H λvs H1=>vs.length<=sizeLine/\ ∀p,H1 p=none->E (.ref C) (some p) (upd H1 p (.tup vs))
theorem ps_raise {X:Cx} {E:XK} {C:Addr} {x:Str} {np cpos pos:Pos} {e:Expr} {es:List Expr} {t:TA} (hR:Raises X E) (hh:X.A.handled=none) (hg:Gl X x) (hm:X.mg x=some (.ref C)) (q:ExcCls X.K C) (ha:PA X (e::es) t)
  (hd:(x==("__debug__" :Str))=false:=by decide) (he:starEach (e::es) X.env=(false,eval e X.env)::starEach es X.env:=by rfl) (hpl:(backTo cpos (starEach es X.env)).any (·.1)=false:=by rfl):
  PS X (.Raise (some (.Call (.Name x np) (e::es) [] cpos)) none pos) (tRaise C E t):=by
 intro pins s σ H D I h
 obtain ⟨nm,qn,Nn,bs,bm,hd',sn,sub,ab,col,dd,k0,k1,k2,k3,k5,mN,hC,hN,hni,T⟩:=exc_of I.mod.kin q
 refine wpAny_Raise_call_subT (C:=C) (nm:=nm) (q:=qn) (N:=Nn) (bs:=bs) (bm:=bm) (hdct:=hd') (sn:=sn) (sub:=sub) (ab:=ab) (col:=col) (dd:=dd) (k0:=k0) (k1:=k1) (k2:=k2) (k3:=k3) (k5:=k5)
  F.excBase_ValueError (mN:=mN) (T.hasType F.excBase_ValueError.hasBase) hh ?_ hni (ld_glob I hg hm ⟨rfl,?_⟩ hd)
 ·rw [he];show (false||(backTo cpos (starEach es X.env)).any (·.1))=false;rw [hpl];rfl
 ·have h2:=ha cpos pins s σ H _ I h
  rw [he] at h2 ⊢
  refine Calls.evalArgs_plain (wpAny_mono h2 (λus s₂ hh2=> ?_) λ_ _ y=>y)
  obtain ⟨vs,H1,I1,rv,hz,hE⟩:=hh2
  exact ⟨rfl,by rw [<-rv.length];exact hz,I1.bk _ _ hC,hN.keeps I1.bk,T.keeps I1.bk,λh' e hx=>hR pins σ H1 s₂ h' e C us vs I1 hx rv hz hE⟩
structure FunD (K:Frag) (x qual:Str) (st:Stmt) (f:Addr) (fd:FuncData) (dV:Value):Prop where
 ex: ∃(oc:Value) (od:Option Addr) (kV doc pm:Value) (an:Option Addr) (cdv ct:Value) (osl:Array (Option Value)),
  fd=PySem.W.fnOf x qual (defArgs st) (defBody st) (defScope st) dV kV doc pm an cdv ct/\K.lookup f=some ⟨oc,od,.func fd,osl⟩/\PySem.W.codeIn K cdv qual=true
theorem Fun.d {K:Frag} {x qual:Str} {st:Stmt} {f:Addr} {fd:FuncData} (F:Fun K x qual st f fd):FunD K x qual st f fd .none:=⟨F.ex⟩
section
variable {P:Program} {w:World} {K:Frag} {mg:Str->Option Value} {base:Heap}
theorem FunD.okX {x qual:Str} {st:Stmt} {f:Addr} {fd:FuncData} {dV:Value} {N ps:List Str} {k:Nat} {sp:Sp} (F:FunD K x qual st f fd dV) (S:FnScope N ps (defScope st)) (len: ∀vs H Q E,sp vs H Q E->vs.length=ps.length)
  (hbody: ∀(cdv:Value) (A:Around) (outer:List Env) (s:Shared) (H:Hp) (vs:List V) (Q:VK) (E:XK),Room k (A.deeper (envOfC qual (defScope st) s.heap.objs.size f cdv))->sp vs H Q E->
   ∃t,PSs (cxOf (CX1 P w) P w K mg base N qual (defScope st) f cdv A outer s H E) (defBody st) t/\t {nx:=λ_ H'=>Q .non H',rt:=Q} (start N vs) H):FnOk P w K mg base (CX1 P w) (k+1) f fd ps sp:=by
 obtain ⟨oc,od,kV,doc,pm,an,cdv,ct,osl,rfl,lk,hcd⟩:=F.ex
 exact fn_of lk hcd S len λA outer s H vs Q E hr hsp=>hbody cdv A outer s H vs Q E hr hsp
theorem FunD.ok {x qual:Str} {st:Stmt} {f:Addr} {fd:FuncData} {dV:Value} {N ps:List Str} {k:Nat} {sp:Sp} (F:FunD K x qual st f fd dV) (S:FnScope N ps (defScope st)) (len: ∀vs H Q E,sp vs H Q E->vs.length=ps.length)
  (hbody: ∀(cdv:Value) (A:Around) (outer:List Env) (s:Shared) (H:Hp) (vs:List V) (Q:VK) (E:XK),Room k (A.deeper (envOfC qual (defScope st) s.heap.objs.size f cdv))->sp vs H Q E->
   ∃t,PSs (cxOf CX0 P w K mg base N qual (defScope st) f cdv A outer s H E).nox (defBody st) t/\t {nx:=λ_ H'=>Q .non H',rt:=Q} (start N vs) H):FnOk P w K mg base CX0 (k+1) f fd ps sp:=by
 obtain ⟨oc,od,kV,doc,pm,an,cdv,ct,osl,rfl,lk,hcd⟩:=F.ex
 refine fn_of lk hcd S len λA outer s H vs Q E hr hsp=> ?_
 obtain ⟨t,h,q⟩:=hbody cdv A outer s H vs Q E hr hsp
 exact ⟨t,h.nox,q⟩
structure FnX (P:Program) (w:World) (K:Frag) (mg:Str->Option Value) (base:Heap) (x:Str) (k:Nat) (ps:List Str) (sp:Sp):Prop where
 ex: ∃f fd,FnOk P w K mg base (CX1 P w) k f fd ps sp/\mg x=some (.ref f)/\PySem.W.keepIn K (.ref f)=true/\Binds K fd ps []
structure MtF (P:Program) (w:World) (K:Frag) (mg:Str->Option Value) (base:Heap) (CX:CXT) (C:Addr) (m:Str) (k:Nat) (ps:List Str) (dvs:List V) (sp:Sp):Prop where
 ex: ∃f fd ds,FnOk P w K mg base CX k f fd ps sp/\Meth K C m f/\Binds K fd ps ds/\Vals dvs ds
structure MkF (P:Program) (w:World) (K:Frag) (mg:Str->Option Value) (base:Heap) (C:Addr) (k:Nat) (ps:List Str) (dvs:List V) (sp:Sp):Prop where
 ex: ∃f fd ds,FnOk P w K mg base CX0 k f fd ps sp/\Mk K C f/\Binds K fd ps ds/\Vals dvs ds
end
section
variable {X:Cx} {k:Nat} {ps:List Str} {sp:Sp} {x m:Str} {C:Addr} {p pos apos:Pos} {e o:Expr} {es:List Expr} {ta:TE} {t:TA} {E:XK} {CX:CXT} {dvs:List V}
theorem pe_fnX {j:Nat} (F:FnX X.prog X.w X.K X.mg X.base x k ps sp) (hr:Room j X.A) (hj:k<=j) (hp:Passes (CX1 X.prog X.w) X E) (hg:Gl X x) (ha:PA X (e::es) t) (hdb:(x==("__debug__" :Str))=false:=by decide)
  (he:starEach (e::es) X.env=(false,eval e X.env)::starEach es X.env:=by rfl) (hpl:(backTo pos (starEach es X.env)).any (·.1)=false:=by rfl):
  PE X (.Call (.Name x p) (e::es) [] pos) (tCall sp [] E t):=by
 obtain ⟨f,fd,G,hm,hk,hb⟩:=F.ex
 exact pe_call G (hr.mono hj) hg hm hk hb .nil hp ha hdb he hpl
theorem pe_mk {j:Nat} (F:MkF X.prog X.w X.K X.mg X.base C k ps dvs sp) (hr:Room j X.A) (hj:k+1<=j) (hg:Gl X x) (hm:X.mg x=some (.ref C)) (ha:PA X (e::es) t) (hdb:(x==("__debug__" :Str))=false:=by decide)
  (he:starEach (e::es) X.env=(false,eval e X.env)::starEach es X.env:=by rfl) (hpl:(backTo pos (starEach es X.env)).any (·.1)=false:=by rfl):PE X (.Call (.Name x p) (e::es) [] pos) (tMake C sp dvs E0 t):=by
 obtain ⟨f,fd,ds,G,M,hb,hd⟩:=F.ex
 exact pe_make M G (hr.mono hj) hg hm hb hd pass0 ha hdb he hpl
theorem pe_mt {pl:Sem Bool} {j:Nat} (F:MtF X.prog X.w X.K X.mg X.base CX C m k ps dvs sp) (c:Cls X.K C) (hr:Room j X.A) (hj:k<=j) (hp:Passes CX X E) (he:PE X o ta) (ha:PA X (e::es) t)
  (hst:starEach (e::es) X.env=(false,eval e X.env)::starEach es X.env:=by rfl) (hpl:(backTo pos (starEach es X.env)).any (·.1)=false:=by rfl)
  (ht:eval (.Call (.Attribute o m apos) (e::es) [] pos) X.env=(do
   let ov <-eval o X.env
   standAt apos.atName
   let (f,first) <-holding [ov] (getMethod ov m pl)
   callWith pos f first (backTo pos (starEach (e::es) X.env)) (backToKw pos (keywordEach [] X.env))):=by rfl):
  PE X (.Call (.Attribute o m apos) (e::es) [] pos) (tMeth C m sp dvs E ta t):=by
 obtain ⟨f,fd,ds,G,hm,hb,hd⟩:=F.ex
 exact pe_meth he c hm G (hr.mono hj) hb hd hp ha hst hpl ht
theorem pe_mt0 {pl:Sem Bool} {j:Nat} (F:MtF X.prog X.w X.K X.mg X.base CX C m k ps dvs sp) (c:Cls X.K C) (hr:Room j X.A) (hj:k<=j) (hp:Passes CX X E) (he:PE X o ta)
  (ht:eval (.Call (.Attribute o m apos) [] [] pos) X.env=(do
   let ov <-eval o X.env
   standAt apos.atName
   let (f,first) <-holding [ov] (getMethod ov m pl)
   callWith pos f first (backTo pos (starEach [] X.env)) (backToKw pos (keywordEach [] X.env))):=by rfl):
  PE X (.Call (.Attribute o m apos) [] [] pos) (tMeth C m sp dvs E ta tNil):=by
 obtain ⟨f,fd,ds,G,hm,hb,hd⟩:=F.ex
 exact pe_meth0 he c hm G (hr.mono hj) hb hd hp ht
end
abbrev t3 (a b c:Value):Obj:= {cls:= .type "tuple",data:= .seq #[a,b,c]}
structure Ap3 (z TI TO i1 i2 i3 l1 l2 l3:Addr):Prop where
 nd: [z,TI,TO,i1,i2,i3].Nodup
 n1:l1∉ [z,TO,i1,i2,i3]
 n2:l2∉ [z,TO,i1,i2,i3]
 n3:l3∉ [z,TO,i1,i2,i3]
structure Z3 (h:Heap) (z TI TO i1 i2 i3 l1 l2 l3:Addr) (f0:Value) (k:Nat):Prop where
 hz:IsZip h z TI TO f0
 hTI:h.get? TI=some (t3 (.ref i1) (.ref i2) (.ref i3))
 hTO: ∃a b c,h.get? TO=some (t3 a b c)
 it1:h.IsListIter i1 l1 k
 it2:h.IsListIter i2 l2 k
 it3:h.IsListIter i3 l3 k
structure L3 (h:Heap) (l1 l2 l3:Addr) (xs ys zs:Array Value):Prop where
 p1:h.IsList l1 xs
 p2:h.IsList l2 ys
 p3:h.IsList l3 zs
theorem L3.mono {h h':Heap} {l1 l2 l3:Addr} {xs ys zs:Array Value} (L:L3 h l1 l2 l3 xs ys zs) (k: ∀c o,c=l1\/c=l2\/c=l3->h.get? c=some o->h'.get? c=some o):L3 h' l1 l2 l3 xs ys zs:=
 ⟨L.p1.at λo e=>k l1 o (.inl rfl) e,L.p2.at λo e=>k l2 o (.inr (.inl rfl)) e,L.p3.at λo e=>k l3 o (.inr (.inr rfl)) e⟩
theorem upd3 {prog:Program} {w:World} {A:Around} {E:Value->Shared->Prop} {s:Shared} {T:Addr} {a b c x:Value} {k:Nat} {Q:Unit->Shared->Prop} (hT:s.heap.get? T=some (t3 a b c))
  (h: ∀h',h'.get? T=some {cls:= .type "tuple",data:= .seq ((#[a,b,c]:Array Value).setIfInBounds k x)}->Heap.SameBut T s.heap h'->Q () {s with heap:=h'}):wpAny (model prog w) A (updateSeq T (·.setIfInBounds k x)) Q E s:=by
 refine wpAny_updateSeq hT rfl ?_
 refine h _ ?_ (Heap.SameBut.update ..)
 rw [Heap.get?_update_self _ hT rfl]
 simp [Obj.mapSeq]
section
variable {prog:Program} {w:World} {A:Around} {E:Value->Shared->Prop} {s:Shared} {z TI TO i1 i2 i3 l1 l2 l3:Addr} {k:Nat} {xs ys zs:Array Value}
theorem zip3_item {x y u:Value} {Q:Value->Shared->Prop} (D:Ap3 z TI TO i1 i2 i3 l1 l2 l3) (S:Z3 s.heap z TI TO i1 i2 i3 l1 l2 l3 .none k) (L:L3 s.heap l1 l2 l3 xs ys zs)
  (hx:xs[k]? =some x) (hy:ys[k]? =some y) (hu:zs[k]? =some u)
  (hQ: ∀h',Z3 h' z TI TO i1 i2 i3 l1 l2 l3 (rawInt s.heap.objs.size) (k+1)->h'.get? s.heap.objs.size=some (t3 x y u)->(∀c o,c∉ [z,TO,i1,i2,i3]->s.heap.get? c=some o->h'.get? c=some o)->
   Q (.ref s.heap.objs.size) {s with heap:=h'}):
  wpAny (model prog w) A (Builtin.«zip.__next__» ⟨[.ref z],[]⟩) (λfin s'=> ∃v,fin= .done (.ret v)/\Q v s') E s:=by
 obtain ⟨nd,n1,n2,n3⟩:=D
 simp only [List.nodup_cons,List.mem_cons,List.not_mem_nil,or_false,not_or] at nd n1 n2 n3
 obtain ⟨⟨zI,zO,z1,z2,z3⟩,⟨IO,I1,I2,I3⟩,⟨O1,O2,O3⟩,⟨i12,i13⟩,i23,_⟩:=nd
 obtain ⟨hz,hTI,⟨a,b,c,hTO⟩,it1,it2,it3⟩:=S
 show wpAny _ _ (field (.ref z) 2>>=_) _ _ _
 refine wpAny_bind (wpAny_field hz rfl (x:= .bool false) rfl ?_)
 show wpAny _ _ (field (.ref z) 3>>=_) _ _ _
 refine wpAny_bind (wpAny_field hz rfl (x:= .ref TI) rfl ?_)
 refine wpAny_bind (wpAny_seqItems hTI rfl ?_)
 show wpAny _ _ (Builtin.SmallTypes.ownedTupleIsFree (.ref z)>>=_) _ _ _
 refine wpAny_bind ?_
 unfold Builtin.SmallTypes.ownedTupleIsFree
 refine wpAny_bind (wpAny_field hz rfl (x:= .none) rfl (wpAny_pure ?_))
 simp only [if_true]
 refine wpAny_bind (wpAny_rule ?_)
 refine wpAny_bind (wpAny_field hz rfl (x:= .ref TO) rfl ?_)
 refine wpAny_bind (wpAny_setField_rec hz (by simp) λg1 gz gs1=> ?_)
 have gz:IsZip g1 z TI TO .ellipsis:=gz
 refine wpAny_bind ?_
 simp only [List.zipIdx_cons,List.zipIdx_nil,List.forIn_cons,List.forIn_nil]
 refine wpAny_bind (wpAny_bind (wpAny_onRaise ?_))
 show wpAny _ _ (Builtin.SmallTypes.nextOf (.ref i1)>>=_) _ _ _
 refine wpAny_bind (wpAny_nextOf_list_item (it1.extBut gs1.extBut (Ne.symm z1)) (L.p1.extBut gs1.extBut n1.1) hx λg2 j1 gs2=>wpAny_pure ?_)
 have O2':g2.get? TO=some (t3 a b c):=gs2.extBut _ _ O1 (gs1.extBut _ _ (Ne.symm zO) hTO)
 refine wpAny_bind (wpAny_seqItems O2' rfl ?_)
 refine wpAny_bind (upd3 O2' λg3 hO3 gs3=> ?_)
 have O3':g3.get? TO=some (t3 x b c):=hO3
 refine wpAny_bind (wpAny_letGo (wpAny_pure ?_))
 have e13: ∀c o,c≠z->c≠TO->c≠i1->s.heap.get? c=some o->g3.get? c=some o:=λc o c1 c2 c3 e=>gs3.extBut _ _ c2 (gs2.extBut _ _ c3 (gs1.extBut _ _ c1 e))
 refine wpAny_bind (wpAny_bind (wpAny_onRaise ?_))
 show wpAny _ _ (Builtin.SmallTypes.nextOf (.ref i2)>>=_) _ _ _
 refine wpAny_bind (wpAny_nextOf_list_item (it2.at λo e=>e13 _ o (Ne.symm z2) (Ne.symm O2) (Ne.symm i12) e) (L.p2.at λo e=>e13 _ o n2.1 n2.2.1 n2.2.2.1 e) hy λg4 j2 gs4=>wpAny_pure ?_)
 have O4':g4.get? TO=some (t3 x b c):=gs4.extBut _ _ O2 O3'
 refine wpAny_bind (wpAny_seqItems O4' rfl ?_)
 refine wpAny_bind (upd3 O4' λg5 hO5 gs5=> ?_)
 have O5':g5.get? TO=some (t3 x y c):=hO5
 refine wpAny_bind (wpAny_letGo (wpAny_pure ?_))
 have e35: ∀c o,c≠TO->c≠i2->g3.get? c=some o->g5.get? c=some o:=λc o c2 c4 e=>gs5.extBut _ _ c2 (gs4.extBut _ _ c4 e)
 refine wpAny_bind (wpAny_bind (wpAny_onRaise ?_))
 show wpAny _ _ (Builtin.SmallTypes.nextOf (.ref i3)>>=_) _ _ _
 refine wpAny_bind (wpAny_nextOf_list_item (it3.at λo e=>e35 _ o (Ne.symm O3) (Ne.symm i23) (e13 _ o (Ne.symm z3) (Ne.symm O3) (Ne.symm i13) e))
  (L.p3.at λo e=>e35 _ o n3.2.1 n3.2.2.2.1 (e13 _ o n3.1 n3.2.1 n3.2.2.1 e)) hu λg6 j3 gs6=>wpAny_pure ?_)
 have O6':g6.get? TO=some (t3 x y c):=gs6.extBut _ _ O3 O5'
 refine wpAny_bind (wpAny_seqItems O6' rfl ?_)
 refine wpAny_bind (upd3 O6' λg7 hO7 gs7=> ?_)
 have O7':g7.get? TO=some (t3 x y u):=hO7
 refine wpAny_bind (wpAny_letGo (wpAny_pure (wpAny_pure ?_)))
 have e57: ∀c o,c≠TO->c≠i3->g5.get? c=some o->g7.get? c=some o:=λc o c2 c5 e=>gs7.extBut _ _ c2 (gs6.extBut _ _ c5 e)
 refine wpAny_bind (wpAny_seqItems O7' rfl ?_)
 refine wpAny_bind (wpAny_newTuple ?_)
 have sz:g7.objs.size=s.heap.objs.size:=by rw [gs7.1,gs6.1,gs5.1,gs4.1,gs3.1,gs2.1,gs1.1]
 have all: ∀c o,c∉ [z,TO,i1,i2,i3]->s.heap.get? c=some o->g7.get? c=some o:=λc o nc e=>by
  simp only [List.mem_cons,List.not_mem_nil,or_false,not_or] at nc
  obtain ⟨c1,c2,c3,c4,c5⟩:=nc
  exact e57 c o c2 c5 (e35 c o c2 c4 (e13 c o c1 c2 c3 e))
 have gz7:IsZip g7 z TI TO .ellipsis:=e57 _ _ zO z3 (e35 _ _ zO z2 (gs3.extBut _ _ zO (gs2.extBut _ _ z1 gz)))
 have k1:g7.IsListIter i1 l1 (k+1):=j1.at λo e=>e57 _ o (Ne.symm O1) i13 (e35 _ o (Ne.symm O1) i12 (gs3.extBut _ _ (Ne.symm O1) e))
 have k2:g7.IsListIter i2 l2 (k+1):=j2.at λo e=>e57 _ o (Ne.symm O2) i23 (gs5.extBut _ _ (Ne.symm O2) e)
 have k3:g7.IsListIter i3 l3 (k+1):=j3.at λo e=>gs7.extBut _ _ (Ne.symm O3) e
 have kT:g7.get? TI=some (t3 (.ref i1) (.ref i2) (.ref i3)):=all TI _ (by simp only [List.mem_cons,List.not_mem_nil,or_false,not_or];exact ⟨Ne.symm zI,IO,I1,I2,I3⟩) hTI
 show wpAny _ _ (Builtin.SmallTypes.ownedTupleHandOut (.ref z) (.ref g7.objs.size)>>=_) _ _ _
 refine wpAny_bind ?_
 unfold Builtin.SmallTypes.ownedTupleHandOut
 have gz8:IsZip (g7.push (t3 x y u)) z TI TO .ellipsis:=Heap.get?_push_of_some _ gz7
 refine wpAny_bind (wpAny_setField_rec gz8 (by simp) λg9 hz9 gs9=> ?_)
 have gz9:IsZip g9 z TI TO (rawInt g7.objs.size):=hz9
 refine wpAny_setField_rec gz9 (by simp) λg10 hz10 gs10=> ?_
 have gz10:IsZip g10 z TI TO (rawInt g7.objs.size):=hz10
 have up: ∀c o,c≠z->g7.get? c=some o->g10.get? c=some o:=λc o c1 e=>gs10.extBut _ _ c1 (gs9.extBut _ _ c1 (Heap.get?_push_of_some _ e))
 have zlt:g7.objs.size≠z:=Nat.ne_of_gt (Heap.lt_size gz7)
 have hT10:g10.get? g7.objs.size=some (t3 x y u):=gs10.extBut _ _ zlt (gs9.extBut _ _ zlt (Heap.get?_push_size _ rfl))
 rw [sz] at gz10 hT10
 refine wpAny_pure ⟨_,rfl,?_⟩
 show Q (.ref g7.objs.size) _
 rw [sz]
 refine hQ g10 ⟨gz10,up _ _ (Ne.symm zI) kT,⟨_,_,_,up _ _ (Ne.symm zO) O7'⟩,k1.at λo e=>up _ o (Ne.symm z1) e,k2.at λo e=>up _ o (Ne.symm z2) e,k3.at λo e=>up _ o (Ne.symm z3) e⟩ hT10 λc o nc e=> ?_
 refine up c o (λq=> ?_) (all c o nc e)
 simp only [List.mem_cons,List.not_mem_nil,or_false,not_or] at nc
 exact nc.1 q
theorem zip3_end {Q:Fin->Shared->Prop} (hh:A.handled=none) (D:Ap3 z TI TO i1 i2 i3 l1 l2 l3) (S:Z3 s.heap z TI TO i1 i2 i3 l1 l2 l3 .none k) (L:L3 s.heap l1 l2 l3 xs ys zs) (hx:xs[k]? =none)
  (hE: ∀h' e,(∀c o,c∉ [z,TO,i1,i2,i3]->s.heap.get? c=some o->h'.get? c=some o)->(∃o,h'.get? e=some o/\o.cls= .type "StopIteration")->E (.ref e) {s with heap:=h'}):
  wpAny (model prog w) A (Builtin.«zip.__next__» ⟨[.ref z],[]⟩) Q E s:=by
 obtain ⟨nd,n1,n2,n3⟩:=D
 simp only [List.nodup_cons,List.mem_cons,List.not_mem_nil,or_false,not_or] at nd n1 n2 n3
 obtain ⟨⟨zI,zO,z1,z2,z3⟩,_⟩:=nd
 obtain ⟨hz,hTI,⟨a,b,c,hTO⟩,it1,it2,it3⟩:=S
 show wpAny _ _ (field (.ref z) 2>>=_) _ _ _
 refine wpAny_bind (wpAny_field hz rfl (x:= .bool false) rfl ?_)
 show wpAny _ _ (field (.ref z) 3>>=_) _ _ _
 refine wpAny_bind (wpAny_field hz rfl (x:= .ref TI) rfl ?_)
 refine wpAny_bind (wpAny_seqItems hTI rfl ?_)
 show wpAny _ _ (Builtin.SmallTypes.ownedTupleIsFree (.ref z)>>=_) _ _ _
 refine wpAny_bind ?_
 unfold Builtin.SmallTypes.ownedTupleIsFree
 refine wpAny_bind (wpAny_field hz rfl (x:= .none) rfl (wpAny_pure ?_))
 simp only [if_true]
 refine wpAny_bind (wpAny_rule ?_)
 refine wpAny_bind (wpAny_field hz rfl (x:= .ref TO) rfl ?_)
 refine wpAny_bind (wpAny_setField_rec hz (by simp) λg1 gz gs1=> ?_)
 have gz:IsZip g1 z TI TO .ellipsis:=gz
 refine wpAny_bind ?_
 simp only [List.zipIdx_cons,List.zipIdx_nil,List.forIn_cons,List.forIn_nil]
 refine wpAny_bind (wpAny_bind (wpAny_onRaise ?_))
 show wpAny _ _ (Builtin.SmallTypes.nextOf (.ref i1)>>=_) _ _ _
 refine wpAny_bind (wpAny_nextOf_list_end hh (it1.extBut gs1.extBut (Ne.symm z1)) (L.p1.extBut gs1.extBut n1.1) hx λg2 e gs2 he=> ?_)
 obtain ⟨oe,hoe,hce⟩:=he
 have gz2:IsZip g2 z TI TO .ellipsis:=gs2 _ _ z1 gz
 have hez:e≠z:=λq=>by
  subst q
  rw [gz2] at hoe
  cases hoe
  simp at hce
 refine wpAny_setField_rec gz2 (by simp) λg3 _ gs3=> ?_
 refine hE g3 e (λc o nc e'=> ?_) ⟨oe,gs3.extBut _ _ hez hoe,hce⟩
 simp only [List.mem_cons,List.not_mem_nil,or_false,not_or] at nc
 exact gs3.extBut _ _ nc.1 (gs2 _ _ nc.2.2.1 (gs1.extBut _ _ nc.1 e'))
theorem args_init4 (a b c d:Value):argsOk "object.__init__" ⟨[a,b,c,d],[]⟩:=by
 unfold argsOk
 rw [signature?_of (id:= "object.__init__") (n:= ['_','_','t','i','n','i','_','_']) (o:= ['t','c','e','j','b','o']) (by kernel_rfl) F.owner_object]
 kernel_rfl
abbrev zg1 (h:Heap) (l1:Addr):Heap:=h.push {cls:= .type "list_iterator",data:= .fields #[.ref l1,.int 0 0]}
abbrev zg2 (h:Heap) (l1 l2:Addr):Heap:=(zg1 h l1).push {cls:= .type "list_iterator",data:= .fields #[.ref l2,.int 0 0]}
abbrev zg3 (h:Heap) (l1 l2 l3:Addr):Heap:=(zg2 h l1 l2).push {cls:= .type "list_iterator",data:= .fields #[.ref l3,.int 0 0]}
abbrev zg4 (h:Heap) (l1 l2 l3:Addr):Heap:=(zg3 h l1 l2 l3).push (t3 (.ref h.objs.size) (.ref (zg1 h l1).objs.size) (.ref (zg2 h l1 l2).objs.size))
abbrev zg5 (h:Heap) (l1 l2 l3:Addr):Heap:=(zg4 h l1 l2 l3).push (t3 .none .none .none)
abbrev zg6 (h:Heap) (l1 l2 l3:Addr):Heap:=(zg5 h l1 l2 l3).push {cls:= .type "zip",data:= .fields #[.none,.bool false,.bool false,.ref (zg3 h l1 l2 l3).objs.size,.ref (zg4 h l1 l2 l3).objs.size]}
set_option maxHeartbeats 4000000 in
theorem zip3_new (l1 l2 l3:Addr) (xs ys zs:Array Value):Meets (Builtin.«zip.__new__» ⟨[.type "zip",.ref l1,.ref l2,.ref l3],[]⟩) (λ_ R s=>L3 s.heap l1 l2 l3 xs ys zs/\
   R (.ok (.ret (.ref (zg5 s.heap l1 l2 l3).objs.size))) {s with heap:=zg6 s.heap l1 l2 l3}):=
 .of_wp λprog w A R s h=>by
  obtain ⟨hp,g,d,tk,os⟩:=s
  obtain ⟨⟨q1,q2,q3⟩,h⟩:=h
  have hsub:=sub_zip
  have a1:Heap.IsList (Shared.heap ⟨hp,g,d,tk,os⟩) l1 xs:=q1
  have a2:Heap.IsList (Shared.heap ⟨hp.push {cls:= .type "list_iterator",data:= .fields #[.ref l1,.int 0 0]},g,d,tk,os⟩) l2 ys:=Heap.IsList.push q2 _
  have a3:Heap.IsList (Shared.heap ⟨(hp.push {cls:= .type "list_iterator",data:= .fields #[.ref l1,.int 0 0]}).push {cls:= .type "list_iterator",data:= .fields #[.ref l2,.int 0 0]},g,d,tk,os⟩) l3 zs:=Heap.IsList.push (Heap.IsList.push q3 _) _
  wp_walk using wpAny_pyIter_list a1,wpAny_pyIter_list a2,wpAny_pyIter_list a3
  exact ⟨_,rfl,h⟩
theorem call_zip3 {Q:Value->Shared->Prop} (L:L3 s.heap l1 l2 l3 xs ys zs)
  (h: ∀h',Z3 h' (s.heap.objs.size+5) (s.heap.objs.size+3) (s.heap.objs.size+4) s.heap.objs.size (s.heap.objs.size+1) (s.heap.objs.size+2) l1 l2 l3 .none 0->(∀c o,s.heap.get? c=some o->h'.get? c=some o)->
   Q (.ref (s.heap.objs.size+5)) {s with heap:=h'}):wpAny (model prog w) A (call (.type "zip") [.ref l1,.ref l2,.ref l3]) Q E s:=by
 have tc:checkTypeCall "zip" ⟨[.ref l1,.ref l2,.ref l3],[]⟩=pure ():=by kernel_rfl
 have nc:checkBuiltinCall "zip.__new__" ⟨[.type "zip",.ref l1,.ref l2,.ref l3],[]⟩=pure ():=by kernel_rfl
 refine callType_new F.called_zip (by decide) tc nc (λobj=>args_init4 obj _ _ _) F.entry_zip_new (zip3_new l1 l2 l3 xs ys zs) ⟨L,?_⟩
 have z1:(zg1 s.heap l1).objs.size=s.heap.objs.size+1:=Heap.size_push ..
 have z2:(zg2 s.heap l1 l2).objs.size=s.heap.objs.size+2:=by rw [Heap.size_push,z1]
 have z3:(zg3 s.heap l1 l2 l3).objs.size=s.heap.objs.size+3:=by rw [Heap.size_push,z2]
 have z4:(zg4 s.heap l1 l2 l3).objs.size=s.heap.objs.size+4:=by rw [Heap.size_push,z3]
 have z5:(zg5 s.heap l1 l2 l3).objs.size=s.heap.objs.size+5:=by rw [Heap.size_push,z4]
 have up: ∀ {c o},(zg3 s.heap l1 l2 l3).get? c=some o->(zg6 s.heap l1 l2 l3).get? c=some o:=λe=>Heap.get?_push_of_some _ (Heap.get?_push_of_some _ (Heap.get?_push_of_some _ e))
 have g6:(zg6 s.heap l1 l2 l3).get? (zg5 s.heap l1 l2 l3).objs.size=some _:=Heap.get?_push_size _ rfl
 have g5:(zg6 s.heap l1 l2 l3).get? (zg4 s.heap l1 l2 l3).objs.size=some _:=Heap.get?_push_of_some _ (Heap.get?_push_size _ rfl)
 have g4:(zg6 s.heap l1 l2 l3).get? (zg3 s.heap l1 l2 l3).objs.size=some _:=Heap.get?_push_of_some _ (Heap.get?_push_of_some _ (Heap.get?_push_size _ rfl))
 have g3:(zg6 s.heap l1 l2 l3).get? (zg2 s.heap l1 l2).objs.size=some _:=up (Heap.get?_push_size _ rfl)
 have g2:(zg6 s.heap l1 l2 l3).get? (zg1 s.heap l1).objs.size=some _:=up (Heap.get?_push_of_some _ (Heap.get?_push_size _ rfl))
 have g1:(zg6 s.heap l1 l2 l3).get? s.heap.objs.size=some _:=up (Heap.get?_push_of_some _ (Heap.get?_push_of_some _ (Heap.get?_push_size _ rfl)))
 show _/\_
 rw [z5,z3,z4] at g6
 rw [z4] at g5
 rw [z3,z1,z2] at g4
 rw [z2] at g3
 rw [z1] at g2
 rw [z5]
 exact ⟨⟨_,g6,rfl⟩,h _ ⟨g6,g4,⟨_,_,_,g5⟩,⟨_,g1,rfl,rfl⟩,⟨_,g2,rfl,rfl⟩,⟨_,g3,rfl,rfl⟩⟩ λc o e=>up (Heap.get?_push_of_some _ (Heap.get?_push_of_some _ (Heap.get?_push_of_some _ e)))⟩
end
end L2
set_option maxHeartbeats 1000000
namespace L2
open PySem PySem.Spec PyProof.Rows
section
variable {prog:Program} {w:World} {A:Around}
theorem nin5 {z TI TO i1 i2 i3 l1 l2 l3:Addr} (D:Ap3 z TI TO i1 i2 i3 l1 l2 l3):TI∉ [z,TO,i1,i2,i3]:=by
 have nd:=D.nd
 simp only [List.nodup_cons,List.mem_cons,List.not_mem_nil,or_false,not_or] at nd ⊢
 obtain ⟨⟨zI,_⟩,⟨IO,I1,I2,I3⟩,_⟩:=nd
 exact ⟨Ne.symm zI,IO,I1,I2,I3⟩
theorem walk_zip3 (hh:A.handled=none) (z TI TO i1 i2 i3 l1 l2 l3:Addr) (D:Ap3 z TI TO i1 i2 i3 l1 l2 l3) (xs ys zs:Array Value) (e1:ys.size=xs.size) (e2:zs.size=xs.size):
  WalksT prog w A z [z,TI,TO,i1,i2,i3,l1,l2,l3] [z,TO,i1,i2,i3] xs.size
   (λi vals=> ∃x y u,xs[i]? =some x/\ys[i]? =some y/\zs[i]? =some u/\vals= #[x,y,u])
   (λi h=>Z3 h z TI TO i1 i2 i3 l1 l2 l3 .none i/\L3 h l1 l2 l3 xs ys zs)
   (λi T h=>Z3 h z TI TO i1 i2 i3 l1 l2 l3 (rawInt T) (i+1)/\L3 h l1 l2 l3 xs ys zs/\T∉ [z,TO,i1,i2,i3]) where
 sub:=λc hc=>by
  simp only [List.mem_cons,List.not_mem_nil,or_false] at hc ⊢
  rcases hc with rfl|rfl|rfl|rfl|rfl<;>simp
 frame:=λi h h' st hk=>by
  obtain ⟨⟨hz,hTI,⟨a,b,c,hTO⟩,t1,t2,t3⟩,L⟩:=st
  exact ⟨⟨hk z (by simp) _ hz,hk TI (by simp) _ hTI,⟨a,b,c,hk TO (by simp) _ hTO⟩,t1.at λo e=>hk i1 (by simp) o e,t2.at λo e=>hk i2 (by simp) o e,t3.at λo e=>hk i3 (by simp) o e⟩,
   L.mono λc o hc e=>hk c (by rcases hc with rfl|rfl|rfl<;>simp) o e⟩
 item:=λi s Q E hi st hQ=>by
  obtain ⟨S,L⟩:=st
  have hT:s.TypeIs (.ref z) "zip" :=⟨_,S.hz,rfl⟩
  unfold pyNext
  refine wpAny_bind (wpAny_attempt (wpAny_callSpecial?_slot (name:=Str.ofString "__next__") hT F.slot_zip_next ?_))
  refine wpAny_call_entry F.slot_zip_next hT F.entry_zip_next ?_ (F.args_zip_next_1 _)
  refine zip3_item D S L (Array.getElem?_eq_getElem hi) (Array.getElem?_eq_getElem (by omega:i<ys.size)) (Array.getElem?_eq_getElem (by omega:i<zs.size)) λh' S' hTup hk=>wpAny_pure ?_
  refine hQ s.heap.objs.size #[xs[i],ys[i],zs[i]] h' s.toks ⟨_,_,_,Array.getElem?_eq_getElem hi,Array.getElem?_eq_getElem _,Array.getElem?_eq_getElem _,rfl⟩ (Nat.le_refl _) ⟨_,hTup,rfl,_,rfl⟩
   ⟨S',L.mono λc o hc e=>hk c o (by rcases hc with rfl|rfl|rfl;exact D.n1;exact D.n2;exact D.n3) e,λhm=> ?_⟩ λc o hc e=>hk c o hc e
  have lt: ∀ {c o},s.heap.get? c=some o->s.heap.objs.size≠c:=λe=>Nat.ne_of_gt (Heap.lt_size e)
  obtain ⟨hz,hTI,⟨a,b,c,hTO⟩,⟨_,q1,_⟩,⟨_,q2,_⟩,⟨_,q3,_⟩⟩:=S
  simp only [List.mem_cons,List.not_mem_nil,or_false] at hm
  rcases hm with q|q|q|q|q
  ·exact lt hz q
  ·exact lt hTO q
  ·exact lt q1 q
  ·exact lt q2 q
  ·exact lt q3 q
 go:=λelts k pos i T s Q E hm hQ=>by
  obtain ⟨⟨hz,hTI,⟨a,b,c,hTO⟩,t1,t2,t3⟩,L,_⟩:=hm
  have nd:=D.nd
  have n1:=D.n1
  have n2:=D.n2
  have n3:=D.n3
  simp only [List.nodup_cons,List.mem_cons,List.not_mem_nil,or_false,not_or] at nd n1 n2 n3
  obtain ⟨⟨zI,zO,z1,z2,z3⟩,_⟩:=nd
  refine wpAny_letOwnedTupleGo_zip hz λh' hz' hs'=>hQ h' ⟨⟨hz',hs'.extBut _ _ (Ne.symm zI) hTI,⟨a,b,c,hs'.extBut _ _ (Ne.symm zO) hTO⟩,t1.extBut hs'.extBut (Ne.symm z1),t2.extBut hs'.extBut (Ne.symm z2),t3.extBut hs'.extBut (Ne.symm z3)⟩,
   L.mono λc o hc e=>hs'.extBut _ _ (by rcases hc with rfl|rfl|rfl;exact n1.1;exact n2.1;exact n3.1) e⟩ λc o hc e=>hs'.extBut _ _ (λq=>hc (by simp [q])) e
 apart:=λi T h hm=>hm.2.2
 done:=λs Q E st hQ=>by
  obtain ⟨S,L⟩:=st
  have hT:s.TypeIs (.ref z) "zip" :=⟨_,S.hz,rfl⟩
  unfold pyNext
  refine wpAny_bind (wpAny_attempt (wpAny_callSpecial?_slot (name:=Str.ofString "__next__") hT F.slot_zip_next ?_))
  refine wpAny_call_entry F.slot_zip_next hT F.entry_zip_next ?_ (F.args_zip_next_1 _)
  refine zip3_end hh D S L (Array.getElem?_eq_none (Nat.le_refl _)) λh' e hk he=> ?_
  obtain ⟨o,ho,hc⟩:=he
  refine wpAny_bind (wpAny_isInstance (T:= "StopIteration") (b:=true) ⟨o,ho,hc⟩ isSubtype_stop ?_)
  exact wpAny_pure (hQ h' s.toks hk)
 self:=λi s Q E st hQ=>wpAny_pyIter_zip st.1.hz hQ
end
def Itz3 (K:Frag) (l1 l2 l3:Addr):It:=
 ⟨λi H=> ∃xs ys zs,SqL K H l1 xs/\SqL K H l2 ys/\SqL K H l3 zs/\ys.length=xs.length/\zs.length=xs.length/\i<xs.length,
  λi H v H'=> ∃T x y u,v= .ref T/\H T=none/\H'=upd H T (.tup [x,y,u])/\ ∀xs ys zs,SqL K H l1 xs->SqL K H l2 ys->SqL K H l3 zs->xs[i]? =some x/\ys[i]? =some y/\zs[i]? =some u,
  λi H=> ∃xs ys zs,SqL K H l1 xs/\SqL K H l2 ys/\SqL K H l3 zs/\ys.length=xs.length/\zs.length=xs.length/\xs.length=i⟩
theorem turn_zip3 {P:Program} {w:World} {K:Frag} {es:List Expr} {kt:Nat} {pt:Pos} (z TI TO i1 i2 i3 l1 l2 l3:Addr) (D:Ap3 z TI TO i1 i2 i3 l1 l2 l3):
  Turn P w K (.Tuple es kt pt) (Itz3 K l1 l2 l3) [z,TI,TO,i1,i2,i3] z (λi h=>Z3 h z TI TO i1 i2 i3 l1 l2 l3 .none i) where
 mem:=by simp
 obj:=λi h st b hb=>by
  obtain ⟨hz,hTI,⟨a,b',c',hTO⟩,⟨o1,e1,c1,d1⟩,⟨o2,e2,c2,d2⟩,⟨o3,e3,c3,d3⟩⟩:=st
  have hb':b=z\/b=TI\/b=TO\/b=i1\/b=i2\/b=i3:=by simpa using hb
  rcases hb' with rfl|rfl|rfl|rfl|rfl|rfl
  ·exact ⟨_,hz,λv q=>by cases (show Data.fields _=Data.cell v from q)⟩
  ·exact ⟨_,hTI,λv q=>by cases (show Data.seq _ _=Data.cell v from q)⟩
  ·exact ⟨_,hTO,λv q=>by cases (show Data.seq _ _=Data.cell v from q)⟩
  ·exact ⟨o1,e1,λv q=>by rw [d1] at q;cases q⟩
  ·exact ⟨o2,e2,λv q=>by rw [d2] at q;cases q⟩
  ·exact ⟨o3,e3,λv q=>by rw [d3] at q;cases q⟩
 keep:=λi h h' st k=>by
  obtain ⟨hz,hTI,⟨a,b,c,hTO⟩,h1,h2,h3⟩:=st
  exact ⟨k z (by simp) _ hz,k TI (by simp) _ hTI,⟨a,b,c,k TO (by simp) _ hTO⟩,h1.at λo e=>k i1 (by simp) o e,h2.at λo e=>k i2 (by simp) o e,h3.at λo e=>k i3 (by simp) o e⟩
 item:=by
  intro X hP hw hK hc i pins s σ H E I hf st hg
  subst hP hw hK
  obtain ⟨xs,ys,zs,q1,q2,q3,len2,len3,hx⟩:=hg
  obtain ⟨its1,r1,p1,z1⟩:=I.list q1
  obtain ⟨its2,r2,p2,z2⟩:=I.list q2
  obtain ⟨its3,r3,p3,z3⟩:=I.list q3
  have L1:=r1.length
  have L2:=r2.length
  have L3':=r3.length
  have W:=walk_zip3 (prog:=X.prog) (w:=X.w) (I.ok.hd hc) z TI TO i1 i2 i3 l1 l2 l3 D its1.toArray its2.toArray its3.toArray (by simp only [List.size_toArray];omega) (by simp only [List.size_toArray];omega)
  refine W.item i s _ _ (by simp only [List.size_toArray];omega) ⟨st,⟨p1.isList,p2.isList,p3.isList⟩⟩ λT vals h' tk hv hT hTup mid kk=> ?_
  refine ⟨.ref T,rfl,W.go es kt pt i T _ _ _ mid λh'' st' kk'=> ?_⟩
  obtain ⟨u1,u2,u3,g1,g2,g3,rfl⟩:=hv
  have ex:xs[i]? =some xs[i]:=by simp [hx]
  have hy:i<ys.length:=by omega
  have hu:i<zs.length:=by omega
  have ey:ys[i]? =some ys[i]:=by simp [hy]
  have eu:zs[i]? =some zs[i]:=by simp [hu]
  obtain ⟨w1,e1,rx⟩:=r1.get ex
  obtain ⟨w2,e2,ry⟩:=r2.get ey
  obtain ⟨w3,e3,ru⟩:=r3.get eu
  have ew1:u1=w1:=by
   have:its1[i]? =some u1:=by simpa using g1
   rw [this] at e1;exact Option.some.inj e1
  have ew2:u2=w2:=by
   have:its2[i]? =some u2:=by simpa using g2
   rw [this] at e2;exact Option.some.inj e2
  have ew3:u3=w3:=by
   have:its3[i]? =some u3:=by simpa using g3
   rw [this] at e3;exact Option.some.inj e3
  subst ew1 ew2 ew3
  have nT:H T=none:=I.hok.fresh hT
  have tw:T∉ [z,TO,i1,i2,i3]:=W.apart i T _ mid
  have keep: ∀b o,b∉ [z,TI,TO,i1,i2,i3]->s.heap.get? b=some o->h''.get? b=some o:=λb o hb e=>by
   have hb':b∉ [z,TO,i1,i2,i3]:=λhm=>hb (by
    have:b=z\/b=TO\/b=i1\/b=i2\/b=i3:=by simpa using hm
    rcases this with rfl|rfl|rfl|rfl|rfl<;>simp)
   exact kk' b o hb' (kk b o hb' e)
  have neT: ∀b o,s.heap.get? b=some o->b≠T:=λb o e=>Nat.ne_of_lt (Nat.lt_of_lt_of_le (Heap.lt_size e) hT)
  have nin: ∀b u,H b=some u->b∉ [z,TI,TO,i1,i2,i3]:=λb u e hm=>by
   rw [(hf b hm).1] at e;cases e
  have tupT:IsTup h'' T #[u1,u2,u3]:=by
   obtain ⟨o,e,c,n,d⟩:=hTup
   exact ⟨o,kk' T o tw e,c,n,d⟩
  have hok:HOk X.prog X.w (upd H T (.tup [xs[i],ys[i],zs[i]])) h'':=λb u e=>by
   by_cases hb:b=T
   ·subst hb
    rw [upd_same] at e
    cases e
    exact ⟨by show 3<=sizeLine;decide,[u1,u2,u3],.cons rx (.cons ry (.cons ru .nil)),tupT⟩
   ·rw [upd_ne hb] at e
    refine (I.hok b u e).stay (λc v hcc q=>keep c v ?_ q) (λc q=>by rw [upd_ne (ne_of_none q nT)];exact q) λc ws q=>by rw [upd_ne (ne_of_none q nT)];exact q
    rcases hcc with rfl|hcc
    ·exact nin _ _ e
    ·exact nin _ _ hcc
  have I2:Inv X pins σ (upd H T (.tup [xs[i],ys[i],zs[i]])) {s with heap:=h'',toks:=tk}:=by
   refine I.step (g':=s.gens) (d':=s.drawn) (ch:= [z,TI,TO,i1,i2,i3]) (λb hb=> ?_) (λb o _ _ hb e _=>keep b o hb e) (λb o _ _ hb e _=>⟨o.slots,keep b o hb e⟩) (λb o _ e n=>by rw [upd_ne (neT b o e)];exact n)
    (λb o hb e=>⟨o,keep b o hb e⟩) (λb ws e=>by rw [upd_ne (ne_of_none e nT)];exact e) (λb o u e=>by rw [upd_ne (ne_of_none e nT)];exact e) (λb ps e=>⟨#[],by rw [upd_ne (ne_of_none e nT),e];simp⟩) (λm hm=> ?_) hok I.bare
   ·obtain ⟨f0,f1,f2,f3,f4,f5⟩:=hf b hb
    exact ⟨f3,f1,f4,f5⟩
   ·obtain ⟨o,es',ep,ho,r⟩:=hm
    exact ⟨o,es',ep,keep _ o (λhm=>(hf _ hm).2.1 rfl) ho,r⟩
  refine ⟨.ref T,_,I2,rfl,⟨T,xs[i],ys[i],zs[i],rfl,nT,rfl,λxs' ys' zs' q1' q2' q3'=>⟨by rw [I.list_inj q1' q1];exact ex,by rw [I.list_inj q2' q2];exact ey,by rw [I.list_inj q3' q3];exact eu⟩⟩,st'.1,λb hb=> ?_⟩
  obtain ⟨o,e⟩: ∃o,s.heap.get? b=some o:=by
   obtain ⟨hz,hTI,⟨a,b',c',hTO⟩,⟨_,q1,_⟩,⟨_,q2,_⟩,⟨_,q3,_⟩⟩:=st
   have hb':b=z\/b=TI\/b=TO\/b=i1\/b=i2\/b=i3:=by simpa using hb
   rcases hb' with rfl|rfl|rfl|rfl|rfl|rfl
   ·exact ⟨_,hz⟩
   ·exact ⟨_,hTI⟩
   ·exact ⟨_,hTO⟩
   ·exact ⟨_,q1⟩
   ·exact ⟨_,q2⟩
   ·exact ⟨_,q3⟩
  rw [upd_ne (neT b o e)]
  exact (hf b hb).1
 done:=by
  intro X hP hw hK hc i pins s σ H E I hf st hg
  subst hP hw hK
  obtain ⟨xs,ys,zs,q1,q2,q3,len2,len3,en⟩:=hg
  obtain ⟨its1,r1,p1,z1⟩:=I.list q1
  obtain ⟨its2,r2,p2,z2⟩:=I.list q2
  obtain ⟨its3,r3,p3,z3⟩:=I.list q3
  have L1:=r1.length
  have L2:=r2.length
  have L3':=r3.length
  have W:=walk_zip3 (prog:=X.prog) (w:=X.w) (I.ok.hd hc) z TI TO i1 i2 i3 l1 l2 l3 D its1.toArray its2.toArray its3.toArray (by simp only [List.size_toArray];omega) (by simp only [List.size_toArray];omega)
  have en':its1.toArray.size=i:=by simp only [List.size_toArray];omega
  refine W.done s _ _ (by rw [en'];exact ⟨st,⟨p1.isList,p2.isList,p3.isList⟩⟩) λh' tk kk=>⟨rfl,?_⟩
  have keep: ∀b o,b∉ [z,TI,TO,i1,i2,i3]->s.heap.get? b=some o->h'.get? b=some o:=λb o hb e=>by
   refine kk b o (λhm=>hb ?_) e
   have:b=z\/b=TO\/b=i1\/b=i2\/b=i3:=by simpa using hm
   rcases this with rfl|rfl|rfl|rfl|rfl<;>simp
  have nin: ∀b u,H b=some u->b∉ [z,TI,TO,i1,i2,i3]:=λb u e hm=>by
   rw [(hf b hm).1] at e;cases e
  refine I.step (g':=s.gens) (d':=s.drawn) (ch:= [z,TI,TO,i1,i2,i3]) (λb hb=> ?_) (λb o _ _ hb e _=>keep b o hb e) (λb o _ _ hb e _=>⟨o.slots,keep b o hb e⟩) (λb o _ e n=>n)
   (λb o hb e=>⟨o,keep b o hb e⟩) (λb ws e=>e) (λb o u e=>e) (λb ps e=>⟨#[],by rw [e];simp⟩) (λm hm=> ?_) (λb u e=> ?_) I.bare
  ·obtain ⟨f0,f1,f2,f3,f4,f5⟩:=hf b hb
   exact ⟨f3,f1,f4,f5⟩
  ·obtain ⟨o,es',ep,ho,r⟩:=hm
   exact ⟨o,es',ep,keep _ o (λhm=>(hf _ hm).2.1 rfl) ho,r⟩
  ·refine (I.hok b u e).stay (λc v hcc q=>keep c v ?_ q) (λ_ q=>q) λ_ _ q=>q
   rcases hcc with rfl|hcc
   ·exact nin _ _ e
   ·exact nin _ _ hcc
 self:=λ_ _ _ _ _ st h=>wpAny_pyIter_zip st.hz h
theorem vals3: ∀ {x y z:V} {us:List Value},Vals [x,y,z] us-> ∃u v w,us= [u,v,w]/\RelV x u/\RelV y v/\RelV z w
 |_,_,_,_,.cons a (.cons b (.cons c .nil))=>⟨_,_,_,rfl,a,b,c⟩
theorem ap3_out (n l:Nat) (h:l<n):(l:Addr)∉([n+5,n+4,n,n+1,n+2]:List Addr):=λhm=>by
 simp only [List.mem_cons,List.not_mem_nil,or_false] at hm
 have hm: @Eq Nat l (n+5)\/ @Eq Nat l (n+4)\/ @Eq Nat l n\/ @Eq Nat l (n+1)\/ @Eq Nat l (n+2):=hm
 omega
theorem ap3_new (n l1 l2 l3:Nat) (h1:l1<n) (h2:l2<n) (h3:l3<n):Ap3 (n+5) (n+3) (n+4) n (n+1) (n+2) l1 l2 l3:=
 ⟨(show List.Nodup ([n+5,n+3,n+4,n,n+1,n+2]:List Nat) by simp),ap3_out n l1 h1,ap3_out n l2 h2,ap3_out n l3 h3⟩
section
variable {X:Cx}
def iZip3 (K:Frag) (ta:TA):TI:=λσ H R=>ta σ H λvs H1=> ∃l1 l2 l3,vs= [.ref l1,.ref l2,.ref l3]/\(∃xs,SqL K H1 l1 xs)/\(∃ys,SqL K H1 l2 ys)/\(∃zs,SqL K H1 l3 zs)/\R (Itz3 K l1 l2 l3) H1
theorem pi_zip3 {a b c:Expr} {ta:TA} {p pos:Pos} {es:List Expr} {kt:Nat} {pt:Pos} (hg:Gl X "zip") (hm:X.mg "zip" =none) (ha:PA X [a,b,c] ta) (hs:starEach [a,b,c] X.env= [(false,eval a X.env),(false,eval b X.env),(false,eval c X.env)]:=by rfl)
  (hs2:starEach [b,c] X.env= [(false,eval b X.env),(false,eval c X.env)]:=by rfl):PI X (.Tuple es kt pt) (.Call (.Name "zip" p) [a,b,c] [] pos) (iZip3 X.K ta):=by
 intro pins s σ H R I h
 refine Call_ (ld_blt I hg hm boot_zip (PyProof.Rows.callWith_type1 (thn (ha pos pins s σ H _ I h) λus s1 ⟨vs,H1,I1,r1,q1⟩=> ?_) (by rw [hs,hs2]) (by rw [hs2];rfl)))
 obtain ⟨l1,l2,l3,e,⟨xs,q1⟩,⟨ys,q2⟩,⟨zs,q3⟩,q⟩:=q1
 subst e
 obtain ⟨u1,u2,u3,rfl,e1,e2,e3⟩:=vals3 r1
 cases e1
 cases e2
 cases e3
 obtain ⟨its1,r1,p1,z1⟩:=I1.list q1
 obtain ⟨its2,r2,p2,z2⟩:=I1.list q2
 obtain ⟨its3,r3,p3,z3⟩:=I1.list q3
 have lt1:l1<s1.heap.objs.size:=by obtain ⟨o,n,e,_⟩:=p1;exact Heap.lt_size e
 have lt2:l2<s1.heap.objs.size:=by obtain ⟨o,n,e,_⟩:=p2;exact Heap.lt_size e
 have lt3:l3<s1.heap.objs.size:=by obtain ⟨o,n,e,_⟩:=p3;exact Heap.lt_size e
 have ap:Ap3 (s1.heap.objs.size+5) (s1.heap.objs.size+3) (s1.heap.objs.size+4) s1.heap.objs.size (s1.heap.objs.size+1) (s1.heap.objs.size+2) l1 l2 l3:=by
  exact ap3_new _ _ _ _ lt1 lt2 lt3
 refine call_zip3 ⟨p1.isList,p2.isList,p3.isList⟩ λh' S hk=> ?_
 refine wpAny_pyIter_zip S.hz ?_
 refine ⟨s1.heap.objs.size+5,[s1.heap.objs.size+5,s1.heap.objs.size+3,s1.heap.objs.size+4,s1.heap.objs.size,s1.heap.objs.size+1,s1.heap.objs.size+2],_,_,H1,rfl,I1.kept (t':=s1.toks) hk,turn_zip3 _ _ _ _ _ _ _ _ _ ap,S,λb hb=> ?_,q⟩
 have hge:s1.heap.objs.size<=b:=by
  simp only [List.mem_cons,List.not_mem_nil,or_false] at hb
  rcases hb with rfl|rfl|rfl|rfl|rfl|rfl
  ·exact Nat.le_add_right _ _
  ·exact Nat.le_add_right _ _
  ·exact Nat.le_add_right _ _
  ·exact Nat.le_refl _
  ·exact Nat.le_add_right _ _
  ·exact Nat.le_add_right _ _
 exact I1.fpOk hge (I1.hok.fresh hge)
end
theorem strs_of: ∀ {ts:List Str} {its:List Value},Vals (ts.map V.str) its-> ∃l:List (Str×Tok),its=strValues l/\l.map (·.1)=ts
 | [],_,.nil=>⟨[],rfl,rfl⟩
 |t::ts,_,.cons ⟨k,e⟩ r=>by
  obtain ⟨l,e1,e2⟩:=strs_of (ts:=ts) r
  exact ⟨(t,k)::l,by rw [e,e1];rfl,by rw [List.map_cons,e2]⟩
section
variable {X:Cx}
def rJoin (K:Frag):V->List V->Hp->VK->Prop:=λx xs H Q=> ∃sep p ts,x= .str sep/\xs= [.ref p]/\SqL K H p (ts.map V.str)/\JoinOk sep ts=true/\Q (.str (Txt.join sep ts)) H
theorem mt_join:MtR X "str.join" (rJoin X.K):=by
 intro pins s σ H x xs v us Q I rx r h
 obtain ⟨sep,p,ts,rfl,rfl,hq,ok,q⟩:=h
 obtain ⟨t,rfl⟩:=rx
 obtain ⟨u,rfl,e⟩:=Vals.one r
 cases e
 obtain ⟨its,r1,p1,z1⟩:=I.list hq
 obtain ⟨l,rfl,e2⟩:=strs_of r1
 exact SC.join p1.isList e2 ok λt' k=>⟨.str _,H,I.tok k,⟨_,rfl⟩,q⟩
def rStr (K:Frag):List V->Hp->VK->Prop:=λxs H Q=>(∃i:Int,xs= [.int i]/\i.natAbs.log2<1920/\Q (.str (toString i)) H)\/(∃z,xs= [.str z]/\Q (.str z) H)\/(∃b:Bool,xs= [.bl b]/\Q (.str (if b then "True" else "False")) H)\/
 (∃a,xs= [.ref a]/\SqT K H a []/\ ∀z:Str,z.length<=8->Q (.str z) H)
end
section
variable {prog:Program} {w:World} {A:Around} {E:Value->Shared->Prop} {s:Shared} {a:Addr}
theorem tup0_repr {Q:Value->Shared->Prop} (ht:IsTup s.heap a #[]) (hQ: ∀(z:Str) u tk,z.length<=8->Q (.str z u) {s with toks:=tk}):wpAny (model prog w) A (call (.builtin "tuple.__repr__") [.ref a]) Q E s:=by
 obtain ⟨o,ho,hc,n,hd⟩:=ht
 refine wpAny_call (codeAny_call_builtin_own (Code.quiet_builtin _ (by decide+kernel)) F.entry_tuple_repr ?_)
 refine F.slot_tuple_repr.check _ _ _ _ _ _ _ _ ⟨o,ho,hc⟩ (F.args_tuple_repr_1 _) (wpOwn_of_wpAny ?_)
 show wpAny _ _ (Builtin.tupleReprAt 0 ⟨[.ref a],[]⟩) _ _ _
 rw [tuple_repr_tree,tupleReprUnderWay_eq]
 refine wpAny_bind (wpAny_bind (wpAny_stack λst _ _ _=>wpAny_pure ?_))
 split
 ·refine wpAny_bind (wpAny_rule ?_)
  unfold retStr
  refine wpAny_bind (wpAny_mkText (wpAny_pure ?_))
  exact hQ _ _ _ (by decide)
 ·refine wpAny_tupleReprRest (ts:= []) ho hd .nil (λu tk=> ?_) (by decide)
  exact hQ _ _ _ (by decide)
theorem str_tup0 {Q:Value->Shared->Prop} (ht:IsTup s.heap a #[]) (hu:A.units+4<cLine) (hQ: ∀(z:Str) u tk,z.length<=8->Q (.str z u) {s with toks:=tk}):wpAny (model prog w) A (call (.type "str") [.ref a]) Q E s:=
 callType_new F.called_str (by decide) (F.typeCall_str_1 _) (F.newCall_str_1 _) (λobj=>F.args_object_init_2 obj _) F.entry_str_new
  (meets_str_new (S:=λA' R s'=>A'.units+2<cLine/\IsTup s'.heap a #[]/\ ∀(z:Str) u tk,z.length<=8->R (.ok (.ret (.str z u))) {s' with toks:=tk})
   λprog' w' A' R s' h=>by
    obtain ⟨h1,h2,h3⟩:=h
    have hT:s'.TypeIs (.ref a) "tuple" :=by obtain ⟨o,ho,hc,_⟩:=h2;exact ⟨o,ho,hc⟩
    exact wpAny_strOf_slot (A:=A'.in1) rfl (by show A'.units+1+1<cLine;omega) hT F.slot_tuple_str F.slot_tuple_repr (tup0_repr h2 λz u tk hz=>⟨_,_,rfl,h3 z u tk hz⟩))
  ⟨by show A.units+1+2<cLine;omega,ht,λz u tk hz=>⟨typeIs_str _ _ _,hQ z u tk hz⟩⟩
end
section
variable {X:Cx}
theorem call_strV (hu:X.A.units+4<cLine):CallR X (.type "str") (rStr X.K):=by
 intro pins s σ H xs us Q I r h
 rcases h with ⟨i,rfl,hz,q⟩|⟨z,rfl,q⟩|⟨b,rfl,q⟩|⟨a,rfl,hT,q⟩
 ·obtain ⟨u,rfl,t,rfl⟩:=Vals.one r
  exact PySem.P.str_of_int hz ⟨.str _,H,I.tok _,⟨_,rfl⟩,q⟩
 ·obtain ⟨u,rfl,t,rfl⟩:=Vals.one r
  exact PySem.P.str_of_str ⟨.str _,H,I,⟨_,rfl⟩,q⟩
 ·obtain ⟨u,rfl,e⟩:=Vals.one r
  cases e
  exact PySem.P.str_of_bool ⟨.str _,H,I.tok _,⟨_,rfl⟩,q⟩
 ·obtain ⟨u,rfl,e⟩:=Vals.one r
  cases e
  obtain ⟨its,r1,p1,_⟩:=I.tuple hT
  have e:its= []:=by
   have:=r1.length
   cases its with
   |nil=>rfl
   |cons _ _=>simp at this
  subst e
  exact str_tup0 p1 hu λz u tk hz=>⟨.str z,H,I.tok _,⟨_,rfl⟩,q z hz⟩
end
section
variable {X:Cx}
def rAny (K:Frag):List V->Hp->VK->Prop:=λxs H Q=> ∃(p:Addr) (bs:List Bool),xs= [.ref p]/\SqL K H p (bs.map V.bl)/\Q (.bl (bs.any id)) H
theorem bools_at: ∀ {bs:List Bool} {its:List Value},Vals (bs.map V.bl) its->its=bs.map Value.bool
 | [],_,.nil=>rfl
 |b::bs,_,.cons e r=>by
  have e:_=Value.bool b:=e
  rw [e,bools_at (bs:=bs) r]
  rfl
theorem any_range (bs:List Bool):(List.range bs.length).any (λi=>bs.getD i false)=bs.any id:=by
 induction bs with
 |nil=>rfl
 |cons b bs ih=>
  rw [List.length_cons,List.range_succ_eq_map,List.any_cons,List.any_cons,List.any_map]
  simp only [List.getD_cons_zero,id]
  congr 1
theorem call_any (hc:X.calm=true):CallR X (.builtin "any") (rAny X.K):=by
 intro pins s σ H xs us Q I r h
 obtain ⟨p,bs,rfl,hq,q⟩:=h
 obtain ⟨u,rfl,rx⟩:=Vals.one r
 cases rx
 obtain ⟨its,r',pl,hz⟩:=I.list hq
 have e:=bools_at r'
 subst e
 have ne:p≠s.heap.objs.size:=by
  obtain ⟨o,n,e,_⟩:=pl
  exact Nat.ne_of_lt (Heap.lt_size e)
 refine call_any_walk (wpAny_pyIter_list pl.isList ?_)
 refine ⟨s.heap.objs.size,_,_,_,_,_,λi=>bs.getD i false,rfl,Walks.list (prog:=X.prog) (w:=X.w) (A:=X.A.in1) (show X.A.in1.handled=none from I.ok.hd hc) s.heap.objs.size p ne (bs.map Value.bool).toArray,⟨⟨_,Heap.get?_push_size _ rfl,rfl,rfl⟩,pl.isList.push _⟩,?_,λh' tk hk=> ?_⟩
 ·intro i v s' Q' E' hP hQ
  have hP:(bs.map Value.bool)[i]? =some v:=by simpa using hP
  rw [List.getElem?_map] at hP
  cases e:bs[i]? with
  |none=>rw [e] at hP;cases hP
  |some b=>
   rw [e] at hP
   cases hP
   have eb:bs.getD i false=b:=by simp [List.getD,e]
   have hQ:Q' (bs.getD i false) s':=hQ
   rw [eb] at hQ
   exact wpAny_pure hQ
 ·have ea:(List.range (bs.map Value.bool).toArray.size).any (λi=>bs.getD i false)=bs.any id:=by
   rw [List.size_toArray,List.length_map]
   exact any_range bs
  rw [ea]
  refine ⟨.bl (bs.any id),H,I.kept (λb o e=>hk b o ?_ (Heap.get?_push_of_some _ e)),rfl,q⟩
  intro hm
  have:b=s.heap.objs.size:=by simpa using hm
  exact absurd (Heap.lt_size e) (by rw [this];exact Nat.lt_irrefl _)
end
theorem list1 {us:List Value} (h:us.length=1): ∃a,us= [a]:=match us,h with| [a],_=>⟨a,rfl⟩
theorem list2 {us:List Value} (h:us.length=2): ∃a b,us= [a,b]:=match us,h with| [a,b],_=>⟨a,b,rfl⟩
theorem list4 {us:List Value} (h:us.length=4): ∃a b c d,us= [a,b,c,d]:=match us,h with| [a,b,c,d],_=>⟨a,b,c,d,rfl⟩
theorem list5 {us:List Value} (h:us.length=5): ∃a b c d e,us= [a,b,c,d,e]:=match us,h with| [a,b,c,d,e],_=>⟨a,b,c,d,e,rfl⟩
theorem list6 {us:List Value} (h:us.length=6): ∃a b c d e f,us= [a,b,c,d,e,f]:=match us,h with| [a,b,c,d,e,f],_=>⟨a,b,c,d,e,f,rfl⟩
theorem list7 {us:List Value} (h:us.length=7): ∃a b c d e f g,us= [a,b,c,d,e,f,g]:=match us,h with| [a,b,c,d,e,f,g],_=>⟨a,b,c,d,e,f,g,rfl⟩
noncomputable def setN (ns:List Int):Nat:=(PyProof.Rows.firstMet (λi=>ns.getD i 0) ns.length).length
theorem ints_of: ∀ {ns:List Int} {its:List Value},Vals (ns.map V.int) its->PyProof.Rows.IntsAre its ns
 | [],its,r=>by cases r;exact .nil
 |k::ks,its,r=>by
  cases r with
  |cons h hr=>
   obtain ⟨t,rfl⟩:=h
   exact .cons _ _ (ints_of hr)
section
variable {X:Cx}
def tLenSetI (K:Frag) (ta:TA):TE:=λσ H Q=>ta σ H λvs H1=> ∃(l:Addr) (ns:List Int),vs= [.ref l]/\SqL K H1 l (ns.map V.int)/\ns.length<=1000/\Q (.int (setN ns)) H1
theorem pe_lensetI {a:Expr} {ta:TA} {p p2 pos pos2:Pos} {k:Nat} (hr:Room k X.A) (hc:X.calm=true) (hg:Gl X "len") (hm:X.mg "len" =none) (hg2:Gl X "set") (hm2:X.mg "set" =none) (ha:PA X [a] ta)
  (he1:starEach [Expr.Call (.Name "set" p2) [a] [] pos2] X.env=(false,eval (Expr.Call (.Name "set" p2) [a] [] pos2) X.env)::starEach [] X.env:=by rfl)
  (hp1:(backTo pos (starEach [] X.env)).any (·.1)=false:=by rfl)
  (he2:starEach [a] X.env=(false,eval a X.env)::starEach [] X.env:=by rfl) (hp2:(backTo pos2 (starEach [] X.env)).any (·.1)=false:=by rfl):
  PE X (.Call (.Name "len" p) [.Call (.Name "set" p2) [a] [] pos2] [] pos) (tLenSetI X.K ta):=by
 intro pins s σ H Q I h
 refine wpAny_Call_Name_kw (ld_blt I hg hm PySem.boot_len ?_)
 refine PyProof.Rows.callWith_builtin1 ?_ he1 hp1
 rw [he1]
 show wpAny _ _ (spliced ((false,eval (Expr.Call (.Name "set" p2) [a] [] pos2) X.env)::backTo pos (starEach [] X.env))) _ _ s
 refine Calls.spliced_cons ?_
 refine wpAny_Call_Name_kw (ld_blt I hg2 hm2 PyProof.Rows.boot_set ?_)
 refine PyProof.Rows.callWith_type1 (thn (ha pos2 pins s σ H _ I h) λus s1 ⟨vs,H1,I1,r1,q1⟩=> ?_) he2 hp2
 obtain ⟨l,ns,rfl,hl,hn,q⟩:=q1
 obtain ⟨u,rfl,ru⟩:=vals1 r1
 cases ru
 obtain ⟨its,ri,pl,_⟩:=I1.list hl
 have hlr:its.length=ns.length:=by rw [<-ri.length,List.length_map]
 refine PySem.call_set_list (I1.ok.hd hc) pl.isList (ints_of (by simpa using ri)) (by simp only [List.size_toArray,hlr];exact Nat.lt_of_le_of_lt (Nat.succ_le_succ hn) (by decide)) λh' tk hS hk=> ?_
 have I2:Inv X pins σ H1 {s1 with heap:=h',toks:=tk}:=I1.kept λb o e=>hk b o (Heap.lt_size e) e
 refine Calls.spliced_nil ?_
 obtain ⟨o,es,ep,t,ho,hex,hd,_,_,_,hf,hz⟩:=hS
 have hz2:es.size=setN ns:=by rw [hz,List.size_toArray,hlr];rfl
 have hle:setN ns<=1000:=Nat.le_trans (PyProof.Rows.firstMet_length_le _ _) hn
 refine call_len_set ho hex hd hf (by omega) ⟨.int (setN ns),H1,I2.tok _,⟨_,by rw [hz2]⟩,q⟩
end
abbrev Rds:=List (List (List Int))
theorem passN {P:Program} {w:World} {X:Cx}:Passes (CX1 P w) X E0:=λ_ _ _ _ _ _ _ h=>by
 obtain h:=h
 unfold CX1 at h
 simp [E0] at h
def flds (pe co sp ro ca we:Addr) (n:Int):List (Str×V):= [("people",.ref pe),("court",.ref co),("speakers",.ref sp),("rows",.ref ro),("came",.ref ca),("went",.ref we),("done",.int n)]
theorem fl_done {pe co sp ro ca we:Addr} {n:Int}:(flds pe co sp ro ca we n).lookup ("done" :Str)=some (.int n):=by rfl
theorem fl_put {pe co sp ro ca we:Addr} {n m:Int}:putF "done" (.int m) (flds pe co sp ro ca we n)=flds pe co sp ro ca we m:=by rfl
theorem fl_new {pe co sp ro ca we:Addr}:putF "done" (.int 0) (putF "went" (.ref we) (putF "came" (.ref ca) (putF "rows" (.ref ro) (putF "speakers" (.ref sp) (putF "court" (.ref co) (putF "people" (.ref pe) []))))))=flds pe co sp ro ca we 0:=by rfl
theorem fl_no {pe co sp ro ca we:Addr} {n:Int} {m:Str} (h:m∉(["people","court","speakers","rows","came","went","done"]:List Str)):(flds pe co sp ro ca we n).lookup m=none:=by
 simp only [List.mem_cons,List.not_mem_nil,or_false,not_or] at h
 obtain ⟨h1,h2,h3,h4,h5,h6,h7⟩:=h
 unfold flds
 simp only [List.lookup_cons]
 rw [beq_eq_false_iff_ne.mpr h1,beq_eq_false_iff_ne.mpr h2,beq_eq_false_iff_ne.mpr h3,beq_eq_false_iff_ne.mpr h4,beq_eq_false_iff_ne.mpr h5,beq_eq_false_iff_ne.mpr h6,beq_eq_false_iff_ne.mpr h7]
 rfl
theorem pl {f:Str} {v:V} {fs:List (Str×V)} {k:Nat} (h:fs.length<=k):(putF f v fs).length<=k+1:=by
 induction fs generalizing k with
 |nil=>simp [putF]
 |cons x xs ih=>
  obtain ⟨g,u⟩:=x
  unfold putF
  split
  ·simpa using Nat.le_succ_of_le h
  ·have h':xs.length<=k - 1:=by simp only [List.length_cons] at h;omega
   have:=ih h'
   simp only [List.length_cons] at h ⊢
   omega
def ts (i:Int):Str:=toString i
theorem cb_strK {X:Cx} (K:Frag) (h:X.K=K) (hu:X.A.units+4<cLine):CallR X (.type "str") (rStr K):=by
 subst h
 exact call_strV hu
inductive Dd where
 |claim (c a b w:Int)
 |rule (t:Int) (bk:Bool) (ws:List (List Int))
 |carry (c:Int)
 |step (t s:Int) (k:Str) (m:Int) (l:Str)
 |offer (t c a:Int)
structure BkA where
 (b ro ca we pe co sp:Addr)
 deriving DecidableEq
def TupF (H:Hp) (q:Addr) (xs:List V):Prop:= ∃o:Obj,o.dict=none/\H q=some (.frz o (.tup xs))
theorem TupF.sq {K:Frag} {H:Hp} {q:Addr} {xs:List V} (h:TupF H q xs):SqT K H q xs:=let ⟨o,_,e⟩:=h; .inl (.inr ⟨o,e⟩)
theorem cb_tupleF {X:Cx}:CallR X (.type "tuple") (λxs H Q=> ∃p ys,xs= [.ref p]/\SqL X.K H p ys/\ ∀l o,o.dict=none->H l=none->Q (.ref l) (upd H l (.frz o (.tup ys)))):=by
 intro pins s σ H xs us Q I r h
 obtain ⟨p,ys,rfl,hq,q⟩:=h
 obtain ⟨u,rfl,rx⟩:=vals1 r
 cases rx
 obtain ⟨its,r',pl,hz⟩:=I.list hq
 have hlen:=r'.length
 refine call_tuple_list pl.isList (λh' kp=> ?_) (by simp only [List.size_toArray]<;>omega)
 have I1:Inv X pins σ H {s with heap:=h'}:=I.kept (t':=s.toks) kp
 have I2:Inv X pins σ (upd H h'.objs.size (.frz {cls:= .type "tuple",data:= .seq its.toArray} (.tup ys))) {s with heap:=h'.push {cls:= .type "tuple",data:= .seq its.toArray}}:=
  I1.laid (t':=s.toks) (λb o e=>Heap.get?_push_of_some _ e) (Nat.le_refl _) (show ObjOk X.prog X.w _ _ _ (.frz _ (.tup ys)) from ⟨Heap.get?_push_size _ rfl,hz,its,r',IsTup.new _ _⟩)
 exact ⟨.ref h'.objs.size,_,I2,rfl,q _ _ rfl (I1.hok.fresh (Nat.le_refl _))⟩
inductive PV where
 |non|bl (b:Bool)|int (i:Int)|str (x:Str)
 |tup (xs:List PV)|tpf (xs:List PV)|lst (xs:List PV)|dk (kvs:List (Key×PV))|dt (kvs:List (List Key×PV))|sc (xs:List PV)|ob (a:Addr)
def fx:HO->Bool
 | .tup _=>true
 | .frz _ _=>true
 |_=>false
def nm:HO->Bool
 | .lst _=>false
 | .dK _=>false
 | .dT _=>false
 | .set _ _=>false
 | .ins _ _ _=>false
 |_=>true
def Fz (H H':Hp):Prop:= ∀a o,H a=some o->fx o=true->H' a=some o
def notTbl:HO->Bool
 | .tbl _=>false
 |_=>true
structure Ex (tb:Hp->Prop) (H H':Hp):Prop where
 keep: ∀a o,H a=some o->notTbl o=true->H' a=some o
 tb:tb H->tb H'
 dom: ∀a,H a≠none->H' a≠none
def TbS (tb:Hp->Prop):Prop:= ∀H H',(∀a o,H a=some o->nm o=true->H' a=some o)->tb H->tb H'
section
variable {tb:Hp->Prop} {H H' H1 H2:Hp} {a:Addr} {o:HO}
theorem fx_nt (h:fx o=true):notTbl o=true:=by cases o<;>first|rfl|cases h
theorem Fz.refl:Fz H H:=λ_ _ h _=>h
theorem Fz.trans (h:Fz H H1) (g:Fz H1 H2):Fz H H2:=λa o e f=>g a o (h a o e f) f
theorem Ex.fz (e:Ex tb H H'):Fz H H':=λa o h f=>e.keep a o h (fx_nt f)
theorem Ex.refl:Ex tb H H:=⟨λ_ _ h _=>h,λh=>h,λ_ h=>h⟩
theorem Ex.trans (h:Ex tb H H1) (g:Ex tb H1 H2):Ex tb H H2:=⟨λa o e f=>g.keep a o (h.keep a o e f) f,λz=>g.tb (h.tb z),λa z=>g.dom a (h.dom a z)⟩
theorem Ex.same (hb:TbS tb) (s:Same H H'):Ex tb H H':=⟨λa o e _=>s a o e,λz=>hb H H' (λa o e _=>s a o e) z,λa z=>by
 cases e:H a with
 |none=>exact absurd e z
 |some o=>rw [s a o e];simp⟩
theorem Ex.new (hb:TbS tb) (h:H a=none):Ex tb H (upd H a o):=Ex.same hb (Same.new h)
theorem Ex.nil (e:Ex tb H H') (h:H' a=none):H a=none:=by
 cases q:H a with
 |none=>rfl
 |some o=>exact absurd h (e.dom a (by rw [q];simp))
theorem Fz.upd (h: ∀u,H a=some u->fx u=false):Fz H (upd H a o):=λb u e f=>by
 by_cases hb:b=a
 ·subst hb;rw [h u e] at f;cases f
 ·rw [upd_ne hb];exact e
end
def FzL (H:Hp) (a:Addr) (xs:List V):Prop:= ∃o,H a=some (.frz o (.lst xs))
def KL (K:Frag) (a:Addr) (xs:List V):Prop:=
 ∃(o:Obj) (its:Array Value) (n:Nat),K.lookup a=some o/\o.cls= .type "list" /\o.dict=none/\o.data= .seq its n/\its.size<=sizeLine/\Vals xs its.toList
theorem FzL.sq {K:Frag} {H:Hp} {a:Addr} {xs:List V} (h:FzL H a xs):SqL K H a xs:=let ⟨o,h⟩:=h; .inl (.inr ⟨o,h⟩)
theorem FzL.fz {H H':Hp} {a:Addr} {xs:List V} (f:Fz H H') (h:FzL H a xs):FzL H' a xs:=let ⟨o,h⟩:=h;⟨o,f _ _ h rfl⟩
theorem TupF.fz {H H':Hp} {a:Addr} {xs:List V} (f:Fz H H') (h:TupF H a xs):TupF H' a xs:=let ⟨o,n,e⟩:=h;⟨o,n,f _ _ e rfl⟩
mutual
inductive Rep (K:Frag) (H:Hp):V->PV->Prop
 |non:Rep K H .non .non
 |bl (b:Bool):Rep K H (.bl b) (.bl b)
 |int (i:Int):Rep K H (.int i) (.int i)
 |str (x:Str):Rep K H (.str x) (.str x)
 |ob (a:Addr):Rep K H (.ref a) (.ob a)
 |tup {a:Addr} {vs:List V} {ps:List PV}:H a=some (.tup vs)->Reps K H vs ps->Rep K H (.ref a) (.tup ps)
 |tpf {a:Addr} {vs:List V} {ps:List PV}:TupF H a vs->Reps K H vs ps->Rep K H (.ref a) (.tpf ps)
 |lst {a:Addr} {vs:List V} {ps:List PV}:FzL H a vs->Reps K H vs ps->Rep K H (.ref a) (.lst ps)
 |sc {a:Addr} {vs:List V} {ps:List PV}:KL K a vs->Reps K H vs ps->Rep K H (.ref a) (.sc ps)
 |dk {a:Addr} {o:Obj} {ks:List Key} {vs:List V} {ps:List PV}:H a=some (.frz o (.dK (ks.zip vs)))->ks.length=vs.length->Reps K H vs ps->Rep K H (.ref a) (.dk (ks.zip ps))
 |dt {a:Addr} {o:Obj} {ks:List (List Key)} {vs:List V} {ps:List PV}:H a=some (.frz o (.dT (ks.zip vs)))->ks.length=vs.length->Reps K H vs ps->Rep K H (.ref a) (.dt (ks.zip ps))
inductive Reps (K:Frag) (H:Hp):List V->List PV->Prop
 |nil:Reps K H [] []
 |cons {v:V} {p:PV} {vs:List V} {ps:List PV}:Rep K H v p->Reps K H vs ps->Reps K H (v::vs) (p::ps)
end
section
variable {K:Frag} {tb:Hp->Prop} {H H' H0 H1:Hp} {v:V} {p:PV} {vs:List V} {ps:List PV}
mutual
theorem Rep.fz (f:Fz H H'): ∀ {v:V} {p:PV},Rep K H v p->Rep K H' v p
 |_,_,.non=> .non
 |_,_,.bl b=> .bl b
 |_,_,.int i=> .int i
 |_,_,.str x=> .str x
 |_,_,.ob x=> .ob x
 |_,_,.tup h r=> .tup (f _ _ h rfl) (Reps.fz f r)
 |_,_,.tpf h r=> .tpf (h.fz f) (Reps.fz f r)
 |_,_,.sc h r=> .sc h (Reps.fz f r)
 |_,_,.lst h r=> .lst (h.fz f) (Reps.fz f r)
 |_,_,.dk h l r=> .dk (f _ _ h rfl) l (Reps.fz f r)
 |_,_,.dt h l r=> .dt (f _ _ h rfl) l (Reps.fz f r)
theorem Reps.fz (f:Fz H H'): ∀ {vs:List V} {ps:List PV},Reps K H vs ps->Reps K H' vs ps
 |_,_,.nil=> .nil
 |_,_,.cons h r=> .cons (Rep.fz f h) (Reps.fz f r)
end
theorem Reps.length (r:Reps K H vs ps):vs.length=ps.length:=by
 induction ps generalizing vs with
 |nil=>cases r;rfl
 |cons p ps ih=>cases r with|cons h r=>simp [ih r]
theorem Reps.get {i:Nat} {p:PV} (r:Reps K H vs ps) (e:ps[i]? =some p): ∃v,vs[i]? =some v/\Rep K H v p:=by
 induction ps generalizing vs i with
 |nil=>simp at e
 |cons q ps ih=>cases r with
  |cons h r=>cases i with
   |zero=>simp at e;subst e;exact ⟨_,rfl,h⟩
   |succ i=>simpa using ih r (by simpa using e)
theorem Reps.getV {i:Nat} {v:V} (r:Reps K H vs ps) (e:vs[i]? =some v): ∃p,ps[i]? =some p/\Rep K H v p:=by
 have hl:=r.length
 have hi:i<vs.length:=(List.getElem?_eq_some_iff.mp e).1
 obtain ⟨v',e1,h⟩:=r.get (i:=i) (p:=ps[i]'(by omega)) (by simp)
 rw [e] at e1
 cases e1
 exact ⟨_,by simp,h⟩
theorem Reps.app {ws:List V} {qs:List PV} (r:Reps K H vs ps) (s:Reps K H ws qs):Reps K H (vs++ws) (ps++qs):=by
 induction ps generalizing vs with
 |nil=>cases r;exact s
 |cons p ps ih=>cases r with|cons h r=>exact .cons h (ih r)
theorem Reps.snoc (r:Reps K H vs ps) (h:Rep K H v p):Reps K H (vs++ [v]) (ps++ [p]):=r.app (.cons h .nil)
theorem Reps.set {i:Nat} (r:Reps K H vs ps) (h:Rep K H v p):Reps K H (vs.set i v) (ps.set i p):=by
 induction ps generalizing vs i with
 |nil=>cases r;exact .nil
 |cons q ps ih=>cases r with
  |cons h' r=>cases i with
   |zero=>exact .cons h r
   |succ i=>exact .cons h' (ih r)
theorem Reps.take {n:Nat} (r:Reps K H vs ps):Reps K H (vs.take n) (ps.take n):=by
 induction ps generalizing vs n with
 |nil=>cases r;rw [List.take_nil,List.take_nil];exact .nil
 |cons q ps ih=>cases r with
  |cons h r=>cases n with
   |zero=>exact .nil
   |succ n=>exact .cons h (ih r)
theorem Reps.drop {n:Nat} (r:Reps K H vs ps):Reps K H (vs.drop n) (ps.drop n):=by
 induction ps generalizing vs n with
 |nil=>cases r;rw [List.drop_nil,List.drop_nil];exact .nil
 |cons q ps ih=>cases r with
  |cons h r=>cases n with
   |zero=>exact .cons h r
   |succ n=>exact ih r
theorem Reps.ints {ns:List Int}:Reps K H (ns.map V.int) (ns.map PV.int):=by
 induction ns with
 |nil=>exact .nil
 |cons n ns ih=>exact .cons (.int n) ih
inductive RepU (K:Frag) (H:Hp) (a:Addr):PV->Prop
 |lst {vs:List V} {ps:List PV}:H a=some (.lst vs)->Reps K H vs ps->RepU K H a (.lst ps)
 |dk {ks:List Key} {vs:List V} {ps:List PV}:H a=some (.dK (ks.zip vs))->ks.length=vs.length->Reps K H vs ps->RepU K H a (.dk (ks.zip ps))
 |dt {ks:List (List Key)} {vs:List V} {ps:List PV}:H a=some (.dT (ks.zip vs))->ks.length=vs.length->Reps K H vs ps->RepU K H a (.dt (ks.zip ps))
inductive RepT (K:Frag) (H:Hp) (v:V) (p:PV):Prop
 |im:Rep K H v p->RepT K H v p
 |un {a:Addr}:v= .ref a->RepU K H a p->RepT K H v p
inductive RepN (K:Frag) (H H':Hp) (v:V) (p:PV):Prop
 |im:Rep K H' v p->RepN K H H' v p
 |un {a:Addr}:v= .ref a->H a=none->RepU K H' a p->RepN K H H' v p
theorem RepN.t (r:RepN K H H' v p):RepT K H' v p:=by
 cases r with
 |im r=>exact .im r
 |un e _ r=>exact .un e r
theorem RepN.back (e:Ex tb H0 H) (r:RepN K H H' v p):RepN K H0 H' v p:=by
 cases r with
 |im r=>exact .im r
 |un q n r=>exact .un q (e.nil n) r
theorem RepU.ex {a:Addr} (e:Ex tb H H') (r:RepU K H a p):RepU K H' a p:=by
 cases r with
 |lst h r=>exact .lst (e.keep _ _ h rfl) (r.fz e.fz)
 |dk h l r=>exact .dk (e.keep _ _ h rfl) l (r.fz e.fz)
 |dt h l r=>exact .dt (e.keep _ _ h rfl) l (r.fz e.fz)
theorem RepU.mut {a:Addr} (r:RepU K H a p): ∃u,H a=some u/\fx u=false/\nm u=false/\notTbl u=true:=by
 cases r with
 |lst h r=>exact ⟨_,h,rfl,rfl,rfl⟩
 |dk h l r=>exact ⟨_,h,rfl,rfl,rfl⟩
 |dt h l r=>exact ⟨_,h,rfl,rfl,rfl⟩
theorem RepU.ne {a b:Addr} {o:HO} (r:RepU K H a p) (f:Fz H (upd H b o)) (h:a≠b):RepU K (upd H b o) a p:=by
 cases r with
 |lst h' r=>exact .lst (by rw [upd_ne h];exact h') (r.fz f)
 |dk h' l r=>exact .dk (by rw [upd_ne h];exact h') l (r.fz f)
 |dt h' l r=>exact .dt (by rw [upd_ne h];exact h') l (r.fz f)
theorem Rep.ex (e:Ex tb H H') (r:Rep K H v p):Rep K H' v p:=r.fz e.fz
theorem Reps.ex (e:Ex tb H H') (r:Reps K H vs ps):Reps K H' vs ps:=r.fz e.fz
theorem RepT.ex (e:Ex tb H H') (r:RepT K H v p):RepT K H' v p:=by
 cases r with
 |im r=>exact .im (r.ex e)
 |un q r=>exact .un q (r.ex e)
theorem RepT.int {i:Int} (r:RepT K H v (.int i)):v= .int i:=by
 cases r with
 |im r=>cases r;rfl
 |un _ r=>cases r
theorem RepT.bl {b:Bool} (r:RepT K H v (.bl b)):v= .bl b:=by
 cases r with
 |im r=>cases r;rfl
 |un _ r=>cases r
theorem RepT.str {x:Str} (r:RepT K H v (.str x)):v= .str x:=by
 cases r with
 |im r=>cases r;rfl
 |un _ r=>cases r
theorem RepT.non (r:RepT K H v .non):v= .non:=by
 cases r with
 |im r=>cases r;rfl
 |un _ r=>cases r
theorem RepT.tup (r:RepT K H v (.tup ps)): ∃a vs,v= .ref a/\SqT K H a vs/\Reps K H vs ps:=by
 cases r with
 |im r=>cases r with|tup h r=>exact ⟨_,_,rfl,.of h,r⟩
 |un _ r=>cases r
theorem RepT.tpf (r:RepT K H v (.tpf ps)): ∃a vs,v= .ref a/\SqT K H a vs/\Reps K H vs ps:=by
 cases r with
 |im r=>cases r with|tpf h r=>exact ⟨_,_,rfl,h.sq,r⟩
 |un _ r=>cases r
theorem RepT.lst (r:RepT K H v (.lst ps)): ∃a vs,v= .ref a/\SqL K H a vs/\Reps K H vs ps:=by
 cases r with
 |im r=>cases r with|lst h r=>exact ⟨_,_,rfl,h.sq,r⟩
 |un e r=>cases r with|lst h r=>exact ⟨_,_,e,.of h,r⟩
theorem RepT.sc (r:RepT K H v (.sc ps)): ∃a vs,v= .ref a/\SqL K H a vs/\Reps K H vs ps:=by
 cases r with
 |im r=>cases r with|sc h r=>exact ⟨_,_,rfl,.inr h,r⟩
 |un e r=>cases r
theorem RepT.rd (r:RepT K H v (.lst ps)): ∃a vs,v= .ref a/\Rd H a (.lst vs)/\Reps K H vs ps:=by
 cases r with
 |im r=>cases r with|lst h r=>obtain ⟨o,h⟩:=h;exact ⟨_,_,rfl,.inr ⟨o,h⟩,r⟩
 |un e r=>cases r with|lst h r=>exact ⟨_,_,e,.inl h,r⟩
theorem Rep.lst' (r:Rep K H v (.lst ps)): ∃a vs,v= .ref a/\FzL H a vs/\Reps K H vs ps:=by
 cases r with|lst h r=>exact ⟨_,_,rfl,h,r⟩
end
inductive SV where
 |f (p:PV)|m (p:PV)
def SV.val:SV->PV
 | .f p=>p
 | .m p=>p
abbrev Rho:=List (Option SV)
structure ER (K:Frag) (tb:Hp->Prop) (H0 H:Hp) (σ:St) (ρ:Rho):Prop where
 im: ∀(i:Nat) (p:PV),ρ[i]? =some (some (SV.f p))-> ∃v,σ[i]? =some (some v)/\Rep K H v p
 mu: ∀(i:Nat) (p:PV),ρ[i]? =some (some (SV.m p))-> ∃a,σ[i]? =some (some (V.ref a))/\H0 a=none/\RepU K H a p
 dj: ∀(i j:Nat) (a:Addr) (p q:PV),i≠j->ρ[i]? =some (some (SV.m p))->ρ[j]? =some (some (SV.m q))->σ[i]? =some (some (V.ref a))->σ[j]? ≠some (some (V.ref a))
 ex:Ex tb H0 H
 tb:tb H
 len:σ.length=ρ.length
section
variable {K:Frag} {tb:Hp->Prop} {H H' H0 H1:Hp} {σ:St} {ρ:Rho} {v:V} {p:PV} {vs:List V} {ps:List PV}
theorem ER.go (R:ER K tb H0 H σ ρ) (e:Ex tb H H'):ER K tb H0 H' σ ρ where
 im:=λi p q=>let ⟨v,h,r⟩:=R.im i p q;⟨v,h,r.ex e⟩
 mu:=λi p q=>let ⟨a,h,n,r⟩:=R.mu i p q;⟨a,h,n,r.ex e⟩
 dj:=R.dj
 ex:=R.ex.trans e
 tb:=e.tb R.tb
 len:=R.len
theorem ER.any (R:ER K tb H0 H σ ρ) {i:Nat} {s:SV} (e:ρ[i]? =some (some s)): ∃v,σ[i]? =some (some v)/\RepT K H v s.val:=by
 cases s with
 |f p=>let ⟨v,h,r⟩:=R.im i p e;exact ⟨v,h,.im r⟩
 |m p=>let ⟨a,h,_,r⟩:=R.mu i p e;exact ⟨_,h,.un rfl r⟩
theorem gset_some {α:Type} {xs:List α} {i j:Nat} {x y:α} (h:(xs.set i x)[j]? =some y):(i=j/\y=x)\/(i≠j/\xs[j]? =some y):=by
 rw [List.getElem?_set] at h
 split at h
 ·split at h
  ·exact .inl ⟨by assumption,(Option.some.inj h).symm⟩
  ·cases h
 ·exact .inr ⟨by assumption,h⟩
theorem gset_at {α:Type} {xs:List α} {i:Nat} {x:α} {n:Nat} (h:i<xs.length):(xs.set i x)[i]? =some x:=by
 rw [List.getElem?_set];simp [h]
theorem gset_ne {α:Type} {xs:List α} {i j:Nat} {x:α} (h:i≠j):(xs.set i x)[j]? =xs[j]? :=by
 rw [List.getElem?_set];simp [h]
theorem ER.setF (R:ER K tb H0 H σ ρ) {i:Nat} (r:Rep K H v p):ER K tb H0 H (σ.set i (some v)) (ρ.set i (some (SV.f p))):=by
 refine ⟨λj q e=> ?_,λj q e=> ?_,λj k a q q' n e1 e2 e3 e4=> ?_,R.ex,R.tb,by rw [List.length_set,List.length_set];exact R.len⟩
 ·have hj:j<(ρ.set i (some (SV.f p))).length:=(List.getElem?_eq_some_iff.mp e).1
  rw [List.length_set] at hj
  rcases gset_some e with ⟨rfl,q2⟩|⟨n,q2⟩
  ·cases q2
   exact ⟨v,gset_at (n:=0) (by rw [R.len];exact hj),r⟩
  ·rw [gset_ne n];exact R.im j q q2
 ·rcases gset_some e with ⟨rfl,q2⟩|⟨n,q2⟩
  ·cases q2
  ·rw [gset_ne n];exact R.mu j q q2
 ·rcases gset_some e1 with ⟨rfl,q2⟩|⟨n1,q2⟩
  ·cases q2
  rcases gset_some e2 with ⟨rfl,q3⟩|⟨n2,q3⟩
  ·cases q3
  rw [gset_ne n1] at e3
  rw [gset_ne n2] at e4
  exact R.dj j k a q q' n q2 q3 e3 e4
theorem ER.setM (R:ER K tb H0 H σ ρ) (e:Ex tb H H') {i:Nat} {a:Addr} (hn:H a=none) (r:RepU K H' a p):ER K tb H0 H' (σ.set i (some (V.ref a))) (ρ.set i (some (SV.m p))):=by
 have R':=R.go e
 refine ⟨λj q e=> ?_,λj q e=> ?_,λj k b q q' n e1 e2 e3 e4=> ?_,R'.ex,R'.tb,by rw [List.length_set,List.length_set];exact R.len⟩
 ·rcases gset_some e with ⟨rfl,q2⟩|⟨n,q2⟩
  ·cases q2
  ·rw [gset_ne n];exact R'.im j q q2
 ·have hj:j<(ρ.set i (some (SV.m p))).length:=(List.getElem?_eq_some_iff.mp e).1
  rw [List.length_set] at hj
  rcases gset_some e with ⟨rfl,q2⟩|⟨n,q2⟩
  ·cases q2
   exact ⟨a,gset_at (n:=0) (by rw [R.len];exact hj),R.ex.nil hn,r⟩
  ·rw [gset_ne n];exact R'.mu j q q2
 ·have old: ∀ {j:Nat} {q:PV},ρ[j]? =some (some (SV.m q))->σ[j]? ≠some (some (V.ref a)):=λ{j q} e1 z=>by
   obtain ⟨b,h,_,r⟩:=R.mu j q e1
   obtain ⟨u,hu,_⟩:=r.mut
   rw [z] at h
   cases h
   rw [hn] at hu
   cases hu
  rcases gset_some e1 with ⟨rfl,q2⟩|⟨n1,q2⟩
  ·rcases gset_some e2 with ⟨rfl,q3⟩|⟨n2,q3⟩
   ·exact n rfl
   ·rw [gset_ne n2] at e4
    rw [List.getElem?_set] at e3
    split at e3
    ·split at e3
     ·cases e3;exact old q3 e4
     ·cases e3
    ·exact absurd rfl (by assumption)
  ·rcases gset_some e2 with ⟨rfl,q3⟩|⟨n2,q3⟩
   ·rw [gset_ne n1] at e3
    rw [List.getElem?_set] at e4
    split at e4
    ·split at e4
     ·cases e4;exact old q2 e3
     ·cases e4
    ·exact absurd rfl (by assumption)
   ·rw [gset_ne n1] at e3
    rw [gset_ne n2] at e4
    exact R'.dj j k b q q' n q2 q3 e3 e4
theorem ER.put (R:ER K tb H0 H σ ρ) (hb:TbS tb) {i:Nat} {a:Addr} {q:PV} {o:HO} (hi:ρ[i]? =some (some (SV.m q))) (hs:σ[i]? =some (some (V.ref a))) (r:RepU K (upd H a o) a p):
  ER K tb H0 (upd H a o) σ (ρ.set i (some (SV.m p))):=by
 obtain ⟨b,h1,h2,h3⟩:=R.mu i q hi
 rw [hs] at h1
 cases h1
 obtain ⟨u,hu,f1,f2,f3⟩:=h3.mut
 have fz:Fz H (upd H a o):=Fz.upd λw e=>by rw [hu] at e;cases e;exact f1
 refine ⟨λj q' e=> ?_,λj q' e=> ?_,λj k c q1 q2 n e1 e2 e3 e4=> ?_,⟨λc u e nt=> ?_,λz=> ?_,λc e=> ?_⟩,?_,by rw [List.length_set];exact R.len⟩
 ·rcases gset_some e with ⟨rfl,z⟩|⟨n,z⟩
  ·cases z
  ·obtain ⟨v,h,r⟩:=R.im j q' z
   exact ⟨v,h,r.fz fz⟩
 ·rcases gset_some e with ⟨rfl,z⟩|⟨n,z⟩
  ·cases z;exact ⟨a,hs,h2,r⟩
  ·obtain ⟨b,h,m,r'⟩:=R.mu j q' z
   refine ⟨b,h,m,r'.ne fz λw=> ?_⟩
   subst w
   exact R.dj i j b q q' n hi z hs h
 ·have g: ∀ {j:Nat} {q1:PV},(ρ.set i (some (SV.m p)))[j]? =some (some (SV.m q1))-> ∃q2,ρ[j]? =some (some (SV.m q2)):=λ{j q1} e=>by
   rcases gset_some e with ⟨rfl,z⟩|⟨n,z⟩
   ·exact ⟨q,hi⟩
   ·exact ⟨_,z⟩
  obtain ⟨q3,g1⟩:=g e1
  obtain ⟨q4,g2⟩:=g e2
  exact R.dj j k c q3 q4 n g1 g2 e3 e4
 ·rw [upd_ne (λz=>by subst z;rw [h2] at e;cases e)]
  exact R.ex.keep c u e nt
 ·exact hb H (upd H a o) (λc u e n=>by rw [upd_ne (λz=>by subst z;rw [hu] at e;cases e;rw [f2] at n;cases n)];exact e) (R.ex.tb z)
 ·rw [upd_ne (λz=>by subst z;exact e h2)]
  exact R.ex.dom c e
 ·exact hb H (upd H a o) (λc u e n=>by rw [upd_ne (λz=>by subst z;rw [hu] at e;cases e;rw [f2] at n;cases n)];exact e) R.tb
theorem ER.frz (R:ER K tb H0 H σ ρ) (hb:TbS tb) {i:Nat} {a:Addr} {q:PV} {o:HO} (hi:ρ[i]? =some (some (SV.m q))) (hs:σ[i]? =some (some (V.ref a))) (r:Rep K (upd H a o) (.ref a) p):
  ER K tb H0 (upd H a o) σ (ρ.set i (some (SV.f p))):=by
 obtain ⟨b,h1,h2,h3⟩:=R.mu i q hi
 rw [hs] at h1
 cases h1
 obtain ⟨u,hu,f1,f2,f3⟩:=h3.mut
 have fz:Fz H (upd H a o):=Fz.upd λw e=>by rw [hu] at e;cases e;exact f1
 refine ⟨λj q' e=> ?_,λj q' e=> ?_,λj k c q1 q2 n e1 e2 e3 e4=> ?_,⟨λc u e nt=> ?_,λz=> ?_,λc e=> ?_⟩,?_,by rw [List.length_set];exact R.len⟩
 ·rcases gset_some e with ⟨rfl,z⟩|⟨n,z⟩
  ·cases z;exact ⟨_,hs,r⟩
  ·obtain ⟨v,h,r⟩:=R.im j q' z
   exact ⟨v,h,r.fz fz⟩
 ·rcases gset_some e with ⟨rfl,z⟩|⟨n,z⟩
  ·cases z
  ·obtain ⟨b,h,m,r'⟩:=R.mu j q' z
   refine ⟨b,h,m,r'.ne fz λw=> ?_⟩
   subst w
   exact R.dj i j b q q' n hi z hs h
 ·rcases gset_some e1 with ⟨rfl,z⟩|⟨n1,z1⟩
  ·cases z
  rcases gset_some e2 with ⟨rfl,z⟩|⟨n2,z2⟩
  ·cases z
  exact R.dj j k c q1 q2 n z1 z2 e3 e4
 ·rw [upd_ne (λz=>by subst z;rw [h2] at e;cases e)]
  exact R.ex.keep c u e nt
 ·exact hb H (upd H a o) (λc u e n=>by rw [upd_ne (λz=>by subst z;rw [hu] at e;cases e;rw [f2] at n;cases n)];exact e) (R.ex.tb z)
 ·rw [upd_ne (λz=>by subst z;exact e h2)]
  exact R.ex.dom c e
 ·exact hb H (upd H a o) (λc u e n=>by rw [upd_ne (λz=>by subst z;rw [hu] at e;cases e;rw [f2] at n;cases n)];exact e) R.tb
end
def frzAt (H:Hp) (a:Addr) (H2:Hp):Prop:=match H a with
 |some (.lst xs)=> ∃o,H2=upd H a (.frz o (.lst xs))
 |some (.dK kvs)=> ∃o,H2=upd H a (.frz o (.dK kvs))
 |some (.dT kvs)=> ∃o,H2=upd H a (.frz o (.dT kvs))
 |_=>H2=H
section
variable {X:Cx} {pins:List (Addr×Obj)} {σ:List (Option V)} {H:Hp} {s:Shared}
theorem Inv.frozen {a:Addr} {u:HO} {o:Obj} (I:Inv X pins σ H s) (hu:H a=some u) (hm:fx u=false) (hno: ∀y,u≠ .own y) (hnt: ∀y,u≠ .tbl y) (e:s.heap.get? a=some o):Inv X pins σ (upd H a (.frz o u)) s:=by
 have ne: ∀ {b:Addr},H b=none->b≠a:=λ{b} n z=>by subst z;rw [hu] at n;cases n
 refine ⟨I.ok,I.os,I.bare,⟨I.base.keep,I.base.slot,λb ob q n hx=> ?_,I.base.there,λb xs q=> ?_,λb ob u' q=> ?_,λb ps q=> ?_⟩,I.loc,I.cell,?_,λx c h=> ?_,λp hp=> ?_,λb w q=> ?_,I.len⟩
 ·have:=I.base.free b ob q n hx
  rw [upd_ne (ne this)];exact this
 ·have:=I.base.tups b xs q
  rw [upd_ne (λz=>by subst z;rw [hu] at this;cases this;cases hm)];exact this
 ·have:=I.base.frzs b ob u' q
  rw [upd_ne (λz=>by subst z;rw [hu] at this;cases this;cases hm)];exact this
 ·obtain ⟨more,this⟩:=I.base.tbls b ps q
  exact ⟨more,by rw [upd_ne (λz=>by subst z;rw [hu] at this;cases this;exact hnt _ rfl)];exact this⟩
 ·rw [upd_ne (ne I.free)];exact I.free
 ·rw [upd_ne (ne (I.freeC x c h))];exact I.freeC x c h
 ·obtain ⟨h1,h2,h3⟩:=I.pin p hp
  exact ⟨h1,by rw [upd_ne (ne h2)];exact h2,h3⟩
 ·have st: ∀ {c:Addr} {o':HO},ObjOk X.prog X.w H s.heap c o'->ObjOk X.prog X.w (upd H a (.frz o u)) s.heap c o':=λ{c o'} x=>
   x.stay (λ_ _ _ z=>z) (λd z=>by rw [upd_ne (λy=>by subst y;rw [hu] at z;cases z;exact hno _ rfl)];exact z) λd xs z=>by rw [upd_ne (λy=>by subst y;rw [hu] at z;cases z;cases hm)];exact z
  by_cases hb:b=a
  ·subst hb
   rw [upd_same] at q
   cases q
   exact ⟨e,st (I.hok b u hu)⟩
  ·rw [upd_ne hb] at q
   exact st (I.hok b w q)
theorem Inv.frzAt (I:Inv X pins σ H s) (a:Addr): ∃H2,frzAt H a H2/\Inv X pins σ H2 s:=by
 cases e:H a with
 |none=>exact ⟨H,by unfold L2.frzAt;rw [e],I⟩
 |some u=>
  have ok:=I.hok a u e
  cases u with
  |lst xs=>
   obtain ⟨_,its,n,_,g⟩:=ok
   exact ⟨_,by unfold L2.frzAt;rw [e];exact ⟨_,rfl⟩,I.frozen e rfl (λy z=>by cases z) (λy z=>by cases z) g⟩
  |dK kvs=>
   obtain ⟨_,_,vs,_,o,es,ep,g,_⟩:=ok
   exact ⟨_,by unfold L2.frzAt;rw [e];exact ⟨_,rfl⟩,I.frozen e rfl (λy z=>by cases z) (λy z=>by cases z) g⟩
  |dT kvs=>
   obtain ⟨_,_,xs,_,o,es,ep,g,_⟩:=ok
   exact ⟨_,by unfold L2.frzAt;rw [e];exact ⟨_,rfl⟩,I.frozen e rfl (λy z=>by cases z) (λy z=>by cases z) g⟩
  |_=>exact ⟨H,by unfold L2.frzAt;rw [e],I⟩
def tFz (t:TE):TE:=λσ H Q=>t σ H λv H1=>match v with
 | .ref a=> ∀H2,frzAt H1 a H2->Q v H2
 |_=>Q v H1
theorem PE.fz {e:Expr} {t:TE} (h:PE X e t):PE X e (tFz t):=by
 intro pins s σ H Q I q
 refine thn (h pins s σ H _ I q) λu s1 ⟨v,H1,I1,r,q1⟩=> ?_
 cases v with
 |ref a=>
  obtain ⟨H2,f,I2⟩:=I1.frzAt a
  exact ⟨.ref a,H2,I2,r,q1 H2 f⟩
 |_=>exact ⟨_,H1,I1,r,q1⟩
def frzSl (i:Nat) (σ:St) (H H2:Hp):Prop:=match σ[i]? with
 |some (some (.ref a))=>frzAt H a H2
 |_=>H2=H
def tSz (i:Nat) (t:TS):TS:=λD σ H=>t {D with nx:=λσ' H'=> ∀H2,frzSl i σ' H' H2->D.nx σ' H2} σ H
def tPz (i:Nat) (t:TS):TS:=λD σ H=> ∀H2,frzSl i σ H H2->t D σ H2
theorem Inv.frzSl (I:Inv X pins σ H s) (i:Nat): ∃H2,frzSl i σ H H2/\Inv X pins σ H2 s:=by
 unfold L2.frzSl
 split
 ·exact I.frzAt _
 ·exact ⟨H,rfl,I⟩
theorem PS.sz {st:Stmt} {t:TS} (i:Nat) (h:PS X st t):PS X st (tSz i t):=by
 intro pins s σ H D I q
 refine thn (h pins s σ H _ I q) λf s1 q1=> ?_
 cases f with
 |next=>
  obtain ⟨σ',H',I1,q1⟩:=q1
  obtain ⟨H2,f,I2⟩:=I1.frzSl i
  exact ⟨σ',H2,I2,q1 H2 f⟩
 |brk=>exact q1
 |cont=>exact q1
 |ret u=>exact q1
theorem PS.pz {st:Stmt} {t:TS} (i:Nat) (h:PS X st t):PS X st (tPz i t):=by
 intro pins s σ H D I q
 obtain ⟨H2,f,I2⟩:=I.frzSl i
 exact h pins s σ H2 D I2 (q H2 f)
end
section
variable {K:Frag} {tb:Hp->Prop} {H H' H0 H1 H2:Hp} {v:V} {p:PV} {vs:List V} {ps:List PV} {a:Addr} {σ:St} {ρ:Rho}
theorem RepU.frz (r:RepU K H a p) (f:frzAt H a H2): ∃o,H2=upd H a o/\Rep K H2 (.ref a) p:=by
 obtain ⟨u,hu,f1,f2,f3⟩:=r.mut
 unfold frzAt at f
 cases r with
 |lst h r=>
  rw [h] at f
  obtain ⟨o,rfl⟩:=f
  exact ⟨_,rfl,.lst ⟨o,upd_same⟩ (r.fz (Fz.upd λw e=>by rw [h] at e;cases e;rfl))⟩
 |dk h l r=>
  rw [h] at f
  obtain ⟨o,rfl⟩:=f
  exact ⟨_,rfl,.dk (o:=o) upd_same l (r.fz (Fz.upd λw e=>by rw [h] at e;cases e;rfl))⟩
 |dt h l r=>
  rw [h] at f
  obtain ⟨o,rfl⟩:=f
  exact ⟨_,rfl,.dt (o:=o) upd_same l (r.fz (Fz.upd λw e=>by rw [h] at e;cases e;rfl))⟩
noncomputable def noSc:PV->Bool
 | .sc _=>false
 | .ob _=>false
 |_=>true
theorem Rep.noFrz (r:Rep K H (.ref a) p) (n:noSc p=true) (f:frzAt H a H2):H2=H:=by
 have g: ∀ {u:HO},H a=some u->fx u=true->H2=H:=λ{u} h z=>by
  unfold frzAt at f
  rw [h] at f
  cases u<;>first|exact f|cases z
 cases r with
 |tup h _=>exact g h rfl
 |tpf h _=>obtain ⟨o,_,h⟩:=h;exact g h rfl
 |lst h _=>obtain ⟨o,h⟩:=h;exact g h rfl
 |sc _ _=>cases n
 |ob _=>cases n
 |dk h _ _=>exact g h rfl
 |dt h _ _=>exact g h rfl
end
abbrev EF:=Rho->Option PV
abbrev EA:=Rho->Option (List PV)
abbrev ET:=Rho->Option Bool
section
variable (K:Frag) (tb:Hp->Prop)
def KB (t:TE) (f:EF):Prop:= ∀H0 H σ ρ r Q,TbS tb->ER K tb H0 H σ ρ->f ρ=some r->(∀v H',Ex tb H H'->RepT K H' v r->Q v H')->t σ H Q
def KF (t:TE) (f:EF):Prop:= ∀H0 H σ ρ r Q,TbS tb->ER K tb H0 H σ ρ->f ρ=some r->(∀v H',Ex tb H H'->Rep K H' v r->Q v H')->t σ H Q
def KO (t:TE) (f:EF):Prop:= ∀H0 H σ ρ r Q,TbS tb->ER K tb H0 H σ ρ->f ρ=some r->(∀v H',Ex tb H H'->RepN K H H' v r->noSc r=true->Q v H')->t σ H Q
def KA (t:TA) (f:EA):Prop:= ∀H0 H σ ρ r Q,TbS tb->ER K tb H0 H σ ρ->f ρ=some r->(∀vs H',Ex tb H H'->Reps K H' vs r->Q vs H')->t σ H Q
def KBs (t:TA) (f:EA):Prop:= ∀H0 H σ ρ r Q,TbS tb->ER K tb H0 H σ ρ->f ρ=some r->(∀vs H',Ex tb H H'->Paired (RepT K H') vs r->Q vs H')->t σ H Q
def KTT (t:TT) (f:ET):Prop:= ∀H0 H σ ρ r Q,TbS tb->ER K tb H0 H σ ρ->f ρ=some r->(∀H',Ex tb H H'->Q r H')->t σ H Q
structure JB (X:Cx) (e:Expr) (t:TE) (f:EF):Prop where
 pe:PE X e t
 k:KB K tb t f
structure JF (X:Cx) (e:Expr) (t:TE) (f:EF):Prop where
 pe:PE X e t
 k:KF K tb t f
structure JO (X:Cx) (e:Expr) (t:TE) (f:EF):Prop where
 pe:PE X e t
 k:KO K tb t f
structure JA (X:Cx) (es:List Expr) (t:TA) (f:EA):Prop where
 pe:PA X es t
 k:KA K tb t f
structure JBs (X:Cx) (es:List Expr) (t:TA) (f:EA):Prop where
 pe:PA X es t
 k:KBs K tb t f
structure JT (X:Cx) (e:Expr) (t:TT) (f:ET):Prop where
 pe:PT X e t
 k:KTT K tb t f
end
section
variable {X:Cx} {K:Frag} {tb:Hp->Prop} {e a b c:Expr} {es:List Expr} {t ta tb' tc:TE} {f g h:EF} {pos p:Pos}
theorem JO.toB (j:JO K tb X e t f):JB K tb X e t f:=⟨j.pe,λH0 H σ ρ r Q hb R h q=>j.k H0 H σ ρ r Q hb R h λv H' x r _=>q v H' x r.t⟩
theorem Ex.frzN {H H' H2:Hp} {a:Addr} {p:PV} (hb:TbS tb) (x:Ex tb H H') (hn:H a=none) (r:RepU K H' a p) (f:frzAt H' a H2):Ex tb H H2:=by
 obtain ⟨u,hu,f1,f2,f3⟩:=r.mut
 obtain ⟨o,rfl,_⟩:=r.frz f
 refine ⟨λb w e nt=> ?_,λz=> ?_,λb z=> ?_⟩
 ·rw [upd_ne (λz=>by subst z;rw [hn] at e;cases e)];exact x.keep b w e nt
 ·exact hb H' _ (λc u' e n=>by rw [upd_ne (λz=>by subst z;rw [hu] at e;cases e;rw [f2] at n;cases n)];exact e) (x.tb z)
 ·rw [upd_ne (λy=>by subst y;exact z hn)];exact x.dom b z
theorem JO.z (j:JO K tb X e t f):JF K tb X e (tFz t) f:=⟨j.pe.fz,λH0 H σ ρ r Q hb R h q=>j.k H0 H σ ρ r _ hb R h λv H' x n ns=>by
 cases n with
 |im n=>
  cases v with
  |ref a=>
   intro H2 z
   rw [n.noFrz ns z]
   exact q _ H' x n
  |_=>exact q _ H' x n
 |un e hn n=>
  subst e
  intro H2 z
  have x2:=x.frzN hb hn n z
  obtain ⟨o,rfl,n2⟩:=n.frz z
  exact q _ _ x2 n2⟩
noncomputable def eV (i:Nat):EF:=λρ=>match ρ[i]? with
 |some (some s)=>some s.val
 |_=>none
noncomputable def eW (i:Nat):EF:=λρ=>match ρ[i]? with
 |some (some (.f p))=>some p
 |_=>none
theorem jb_v {i:Nat} (hp:PE X e (tVar i)):JB K tb X e (tVar i) (eV i):=⟨hp,λH0 H σ ρ r Q hb R h q=>by
 unfold eV at h
 split at h
 next s hs=>
  cases h
  obtain ⟨v,h1,h2⟩:=R.any hs
  exact ⟨v,h1,q v H Ex.refl h2⟩
 next=>cases h⟩
theorem jf_v {i:Nat} (hp:PE X e (tVar i)):JF K tb X e (tVar i) (eW i):=⟨hp,λH0 H σ ρ r Q hb R h q=>by
 unfold eW at h
 split at h
 next s hs=>
  cases h
  obtain ⟨v,h1,h2⟩:=R.im i _ hs
  exact ⟨v,h1,q v H Ex.refl h2⟩
 next=>cases h⟩
noncomputable def eC (p:PV):EF:=λ_=>some p
theorem jf_i {i:Int} (hp:PE X e (tC (.int i))):JF K tb X e (tC (.int i)) (eC (.int i)):=⟨hp,λH0 H σ ρ r Q hb R h q=>by cases h;exact q _ H Ex.refl (.int i)⟩
theorem jf_b {i:Bool} (hp:PE X e (tC (.bl i))):JF K tb X e (tC (.bl i)) (eC (.bl i)):=⟨hp,λH0 H σ ρ r Q hb R h q=>by cases h;exact q _ H Ex.refl (.bl i)⟩
theorem jf_s {i:Str} (hp:PE X e (tC (.str i))):JF K tb X e (tC (.str i)) (eC (.str i)):=⟨hp,λH0 H σ ρ r Q hb R h q=>by cases h;exact q _ H Ex.refl (.str i)⟩
theorem jf_n (hp:PE X e (tC .non)):JF K tb X e (tC .non) (eC .non):=⟨hp,λH0 H σ ρ r Q hb R h q=>by cases h;exact q _ H Ex.refl .non⟩
noncomputable def aN:EA:=λ_=>some []
noncomputable def aC (f:EF) (g:EA):EA:=λρ=>(f ρ).bind λp=>(g ρ).bind λps=>some (p::ps)
theorem ja_n:JA K tb X [] tNil aN:=⟨pa_nil,λH0 H σ ρ r Q hb R h q=>by cases h;exact q _ H Ex.refl .nil⟩
theorem ja_c {tr:TA} {g:EA} (ha:JF K tb X e t f) (hr:JA K tb X es tr g) (hs:starEach (e::es) X.env=(false,eval e X.env)::starEach es X.env:=by rfl):JA K tb X (e::es) (tCons t tr) (aC f g):=
 ⟨pa_cons ha.pe hr.pe hs,λH0 H σ ρ r Q hb R h q=>by
  unfold aC at h
  obtain ⟨p,h1,h⟩:=obs h
  obtain ⟨ps,h2,h⟩:=obs h
  cases h
  refine ha.k H0 H σ ρ p _ hb R h1 λv H1 x1 r1=> ?_
  exact hr.k H0 H1 σ ρ ps _ hb (R.go x1) h2 λvs H2 x2 r2=>q _ H2 (x1.trans x2) (.cons (r1.ex x2) r2)⟩
theorem jbs_n:JBs K tb X [] tNil aN:=⟨pa_nil,λH0 H σ ρ r Q hb R h q=>by cases h;exact q _ H Ex.refl .nil⟩
theorem jbs_c {tr:TA} {g:EA} (ha:JB K tb X e t f) (hr:JBs K tb X es tr g) (hs:starEach (e::es) X.env=(false,eval e X.env)::starEach es X.env:=by rfl):JBs K tb X (e::es) (tCons t tr) (aC f g):=
 ⟨pa_cons ha.pe hr.pe hs,λH0 H σ ρ r Q hb R h q=>by
  unfold aC at h
  obtain ⟨p,h1,h⟩:=obs h
  obtain ⟨ps,h2,h⟩:=obs h
  cases h
  refine ha.k H0 H σ ρ p _ hb R h1 λv H1 x1 r1=> ?_
  exact hr.k H0 H1 σ ρ ps _ hb (R.go x1) h2 λvs H2 x2 r2=>q _ H2 (x1.trans x2) (.cons (r1.ex x2) r2)⟩
def eTup (f:EA):EF:=λρ=>(f ρ).bind λps=>if ps.length<=sizeLine then some (.tup ps) else none
def eLst (f:EA):EF:=λρ=>(f ρ).bind λps=>if ps.length<=sizeLine then some (.lst ps) else none
theorem jo_tup {tr:TA} {g:EA} {x1:Nat} {q1:Pos} (hr:JA K tb X es tr g):JO K tb X (.Tuple es x1 q1) (tTup tr) (eTup g):=⟨pe_tup hr.pe,λH0 H σ ρ r Q hb R h q=>by
 unfold eTup at h
 obtain ⟨ps,h1,h⟩:=obs h
 split at h
 next hz=>
  cases h
  refine hr.k H0 H σ ρ ps _ hb R h1 λvs H1 x1 r1=>⟨by rw [r1.length];exact hz,λp hp=> ?_⟩
  have xn:Ex tb H1 (upd H1 p (.tup vs)):=Ex.new hb hp
  exact q _ _ (x1.trans xn) (.im (.tup upd_same (r1.ex xn))) rfl
 next=>cases h⟩
structure OpJ (X:Cx) (K:Frag) (tb:Hp->Prop) (f:Value->Value->Sem Value) (r:R2) (o:PV->PV->Option PV):Prop where
 pe:OpR X f r
 k: ∀(H:Hp) (x y:V) (p q res:PV) (Q:VK),TbS tb->RepT K H x p->RepT K H y q->o p q=some res->(∀v H',Ex tb H H'->RepN K H H' v res->noSc res=true->Q v H')->r x y H Q
noncomputable def eOp (o:PV->PV->Option PV) (f g:EF):EF:=λρ=>(f ρ).bind λp=>(g ρ).bind λq=>o p q
theorem ko_op {r:R2} {o:PV->PV->Option PV} {F:Value->Value->Sem Value} (O:OpJ X K tb F r o) (ha:KB K tb ta f) (hb':KB K tb tb' g):KO K tb (tOp r ta tb') (eOp o f g):=λH0 H σ ρ res Q hb R h k=>by
 unfold eOp at h
 obtain ⟨p,h1,h⟩:=obs h
 obtain ⟨q,h2,h⟩:=obs h
 refine ha H0 H σ ρ p _ hb R h1 λx H1 x1 r1=>hb' H0 H1 σ ρ q _ hb (R.go x1) h2 λy H2 x2 r2=> ?_
 exact O.k H2 x y p q res Q hb (r1.ex x2) r2 h λv H3 x3 n ns=>k v H3 ((x1.trans x2).trans x3) (n.back (x1.trans x2)) ns
theorem jo_op {r:R2} {o:PV->PV->Option PV} {op:Operator} (O:OpJ X K tb (binaryOp op) r o) (ha:JB K tb X a ta f) (hb:JB K tb X b tb' g):JO K tb X (.BinOp a op b pos) (tOp r ta tb') (eOp o f g):=⟨pe_op O.pe ha.pe hb.pe,ko_op O ha.k hb.k⟩
theorem jo_cmp {r:R2} {o:PV->PV->Option PV} {op:CmpOp} (O:OpJ X K tb (compareOp op) r o) (ha:JB K tb X a ta f) (hb:JB K tb X b tb' g) (hm:behindInMarks op b=false):JO K tb X (.Compare a [op] [b] pos) (tOp r ta tb') (eOp o f g):=⟨pe_cmpR O.pe ha.pe hb.pe hm,ko_op O ha.k hb.k⟩
def asB (f:EF):ET:=λρ=>(f ρ).bind λp=>match p with
 | .bl k=>some k
 |_=>none
theorem kt_b (hk:KB K tb t f):KTT K tb (tTest t) (asB f):=λH0 H σ ρ r Q hb R h q=>by
 unfold asB at h
 obtain ⟨p,h1,h⟩:=obs h
 split at h
 next k=>
  cases h
  exact hk H0 H σ ρ _ _ hb R h1 λv H1 x1 r1=>⟨_,r1.bl,q H1 x1⟩
 next=>cases h
theorem jt_cmp {r:R2} {o:PV->PV->Option PV} {op:CmpOp} (O:OpJ X K tb (compareOp op) r o) (ha:JB K tb X a ta f) (hb:JB K tb X b tb' g) (hm:behindInMarks op b=false):JT K tb X (.Compare a [op] [b] pos) (tTest (tOp r ta tb')) (asB (eOp o f g)):=
 ⟨pt_cmpR O.pe ha.pe hb.pe hm,kt_b λH0 H σ ρ r Q hb' R h q=>ko_op O ha.k hb.k H0 H σ ρ r Q hb' R h λv H' x n _=>q v H' x n.t⟩
theorem jt_v (ha:JB K tb X e t f) (he: ∀whole,isTrue e X.env whole=(do let v <-whole;standAt e.pos;holding [v] (truthy v)):=by intro _;rfl):JT K tb X e (tB t) (asB f):=⟨pt_val ha.pe he,kt_b ha.k⟩
def tyNot (f:ET):ET:=λρ=>(f ρ).map (!·)
theorem jt_not {tT:TT} {f:ET} (ha:JT K tb X a tT f):JT K tb X (.UnaryOp .Not a pos) (tNot tT) (tyNot f):=⟨pt_not ha.pe,λH0 H σ ρ r Q hb R h q=>by
 unfold tyNot at h
 obtain ⟨k,h1,rfl⟩:=oms h
 exact ha.k H0 H σ ρ k _ hb R h1 λH1 x1=>q H1 x1⟩
def tyAnd (f g:ET):ET:=λρ=>(f ρ).bind λk=>if k=true then g ρ else some false
def tyOr (f g:ET):ET:=λρ=>(f ρ).bind λk=>if k=true then some true else g ρ
structure JW (K:Frag) (tb:Hp->Prop) (X:Cx) (e:Expr) (t:TT) (f:ET):Prop where
 pe:PW X e t
 k:KTT K tb t f
theorem JW.toT {tT:TT} {f:ET} (j:JW K tb X e tT f):JT K tb X e tT f:=⟨j.pe.pt,j.k⟩
theorem jw_and1 {tT:TT} {f:ET} (ha:JT K tb X a tT f):JW K tb X (.BoolOp .And [a] pos) tT f:=⟨pw_and1 ha.pe,ha.k⟩
theorem jw_or1 {tT:TT} {f:ET} (ha:JT K tb X a tT f):JW K tb X (.BoolOp .Or [a] pos) tT f:=⟨pw_or1 ha.pe,ha.k⟩
theorem jw_and {tA tB':TT} {f g:ET} {rest:List Expr} (ha:JT K tb X a tA f) (hb:JW K tb X (.BoolOp .And (b::rest) pos) tB' g):JW K tb X (.BoolOp .And (a::b::rest) pos) (tAnd tA tB') (tyAnd f g):=⟨pw_and ha.pe hb.pe,λH0 H σ ρ r Q hb' R h q=>by
 unfold tyAnd at h
 obtain ⟨k,h1,h⟩:=obs h
 refine ha.k H0 H σ ρ k _ hb' R h1 λH1 x1=> ?_
 cases k with
 |true=>exact iteT (hb.k H0 H1 σ ρ r _ hb' (R.go x1) h λH2 x2=>q H2 (x1.trans x2))
 |false=>cases h;exact iteF (q H1 x1)⟩
theorem jw_or {tA tB':TT} {f g:ET} {rest:List Expr} (ha:JT K tb X a tA f) (hb:JW K tb X (.BoolOp .Or (b::rest) pos) tB' g):JW K tb X (.BoolOp .Or (a::b::rest) pos) (tOr tA tB') (tyOr f g):=⟨pw_or ha.pe hb.pe,λH0 H σ ρ r Q hb' R h q=>by
 unfold tyOr at h
 obtain ⟨k,h1,h⟩:=obs h
 refine ha.k H0 H σ ρ k _ hb' R h1 λH1 x1=> ?_
 cases k with
 |false=>exact iteF (hb.k H0 H1 σ ρ r _ hb' (R.go x1) h λH2 x2=>q H2 (x1.trans x2))
 |true=>cases h;exact iteT (q H1 x1)⟩
def eT (f:ET):EF:=λρ=>(f ρ).map .bl
def eAnd (f g:EF):EF:=λρ=>(asB f ρ).bind λk=>if k=true then g ρ else some (.bl false)
def eOr (f g:EF):EF:=λρ=>(asB f ρ).bind λk=>if k=true then some (.bl true) else g ρ
theorem jo_and {ta tb':TE} {f g:EF} {rest:List Expr} (ha:JB K tb X a ta f) (hb:JO K tb X (.BoolOp .And (b::rest) pos) tb' g):JO K tb X (.BoolOp .And (a::b::rest) pos) (tAndV ta tb') (eAnd f g):=⟨pe_and ha.pe hb.pe,λH0 H σ ρ r Q hb' R h q=>by
 unfold eAnd at h
 obtain ⟨k,h1,h⟩:=obs h
 refine kt_b ha.k H0 H σ ρ k _ hb' R h1 λH1 x1=> ?_
 cases k with
 |true=>exact iteT (hb.k H0 H1 σ ρ r _ hb' (R.go x1) h λv H2 x2 n ns=>q v H2 (x1.trans x2) (n.back x1) ns)
 |false=>cases h;exact iteF (q _ H1 x1 (.im (.bl false)) rfl)⟩
theorem jo_or {ta tb':TE} {f g:EF} {rest:List Expr} (ha:JB K tb X a ta f) (hb:JO K tb X (.BoolOp .Or (b::rest) pos) tb' g):JO K tb X (.BoolOp .Or (a::b::rest) pos) (tOrV ta tb') (eOr f g):=⟨pe_or ha.pe hb.pe,λH0 H σ ρ r Q hb' R h q=>by
 unfold eOr at h
 obtain ⟨k,h1,h⟩:=obs h
 refine kt_b ha.k H0 H σ ρ k _ hb' R h1 λH1 x1=> ?_
 cases k with
 |false=>exact iteF (hb.k H0 H1 σ ρ r _ hb' (R.go x1) h λv H2 x2 n ns=>q v H2 (x1.trans x2) (n.back x1) ns)
 |true=>cases h;exact iteT (q _ H1 x1 (.im (.bl true)) rfl)⟩
theorem jo_one {op:BoolOp} (j:JO K tb X a ta f):JO K tb X (.BoolOp op [a] pos) ta f:=⟨pe_one j.pe,j.k⟩
theorem jo_not (ha:JB K tb X a ta f):JO K tb X (.UnaryOp .Not a pos) (tNotV ta) (eT (tyNot (asB f))):=⟨pe_not ha.pe,λH0 H σ ρ r Q hb R h q=>by
 unfold eT tyNot at h
 obtain ⟨k,h1,rfl⟩:=oms h
 obtain ⟨k',h2,rfl⟩:=oms h1
 exact kt_b ha.k H0 H σ ρ k' _ hb R h2 λH1 x1=>q _ H1 x1 (.im (.bl _)) rfl⟩
def eIf (c:ET) (f g:EF):EF:=λρ=>(c ρ).bind λk=>if k=true then f ρ else g ρ
theorem jo_if {tC:TT} {c':ET} (hc:JT K tb X c tC c') (ha:JO K tb X a ta f) (hb:JO K tb X b tb' g):JO K tb X (.IfExp c a b pos) (tIf tC ta tb') (eIf c' f g):=⟨pe_ifExp hc.pe ha.pe hb.pe,λH0 H σ ρ r Q hb' R h q=>by
 unfold eIf at h
 obtain ⟨k,h1,h⟩:=obs h
 refine hc.k H0 H σ ρ k _ hb' R h1 λH1 x1=> ?_
 cases k with
 |true=>exact iteT (ha.k H0 H1 σ ρ r _ hb' (R.go x1) h λv H2 x2 n ns=>q v H2 (x1.trans x2) (n.back x1) ns)
 |false=>exact iteF (hb.k H0 H1 σ ρ r _ hb' (R.go x1) h λv H2 x2 n ns=>q v H2 (x1.trans x2) (n.back x1) ns)⟩
def eS (f:EF):EF:=λρ=>(f ρ).bind λp=>if noSc p=true then some p else none
theorem JF.o (j:JF K tb X e t f):JO K tb X e t (eS f):=⟨j.pe,λH0 H σ ρ r Q hb R h q=>by
 unfold eS at h
 obtain ⟨p,h1,h⟩:=obs h
 split at h
 next n=>cases h;exact j.k H0 H σ ρ _ _ hb R h1 λv H1 x1 r1=>q v H1 x1 (.im r1) n
 next=>cases h⟩
end
end L2
namespace HT
open PySem PySem.Spec PyProof.Rows
open PySem.SeqAt
open PySem.AutoSeq1 (wpAny_loadPart')
open PySem.MeetsSeq PySem.MeetsSeq2 PySem.MeetsSeq3
theorem rcGt_int (A:Around) (s:Shared) (a:Int) (t:Tok) (c:Int) (u:Tok) (prog:Program) (w:World) (E:Value->Shared->Prop) (Q:Value->Shared->Prop) (h:Q (.bool (decide (c<a))) s):
  wpAny (model prog w) A (richCompare .Gt (.int a t) (.int c u)) Q E s:=
 (PyProof.Rows.gt_int h:wpAny (model prog w) A (compareOp .Gt (.int a t) (.int c u)) Q E s)
theorem tuple_gt_ints (l b:Addr) (items items2:Array Value) (n n2:Nat) (dd dd2:Option Addr) (sl sl2:Array (Option Value)) (ns ms:List Int) (hi:IntsAre items.toList ns) (hj:IntsAre items2.toList ms):
  Meets (Builtin.«tuple.__gt__» ⟨[.ref l,.ref b],[]⟩)
   (λ_ R s=>s.heap.get? l=some {cls:= .type "tuple",dict:=dd,data:= .seq items n,slots:=sl}/\s.heap.get? b=some {cls:= .type "tuple",dict:=dd2,data:= .seq items2 n2,slots:=sl2}/\
    R (.ok (.ret (.bool (lexLt ms ns)))) s):=
 .of_wp λprog w A R s h=>by
  obtain ⟨hp,g,d,tk,os⟩:=s;obtain ⟨hl,hb,h⟩:=h
  have f2:=AutoSeq1.sub_tuple_tuple
  have z1:items.size=ns.length:=by rw [<-hi.length];simp
  have z2:items2.size=ms.length:=by rw [<-hj.length];simp
  wp_walk using wpAny_loadPart' hl,wpAny_loadPart' hb,wpAny_forIn_list _ (λrest b s'=>b.1=none/\s'=⟨hp,g,d,tk,os⟩/\ ∃(vs ws:List Value) (ns' ms':List Int),rest=vs.zip ws/\
   IntsAre vs ns'/\IntsAre ws ms'/\ns'.length+items2.size=ms'.length+items.size/\R (.ok (.ret (.bool (lexLt ms' ns')))) ⟨hp,g,d,tk,os⟩) _
  case turn=>
   rintro ⟨y,x⟩ rest b s' ⟨hb',rfl,vs,ws,ns',ms',hz,hvi,hwi,hlen,hR⟩
   cases hvi with
   |nil=>rw [List.zip_nil_left] at hz;cases hz
   |cons a t hvi'=>
    cases hwi with
    |nil=>rw [List.zip_nil_right] at hz;cases hz
    |cons c u hwi'=>
     rw [List.zip_cons_cons] at hz
     injection hz with hyx hrest
     injection hyx with hy hx
     subst hy hx
     rw [lexLt_cons] at hR
     simp only [List.length_cons] at hlen
     obtain ⟨e,he,hiff⟩:=eqAt_int A.in1 ⟨hp,g,d,tk,os⟩ a t c u
     refine wpAny_bind (he prog w _ _ ?_)
     cases e with
     |true=>
      rw [if_pos (hiff.mp rfl).symm] at hR
      wp_walk
      exact ⟨rfl,rfl,_,_,_,_,hrest,hvi',hwi',by omega,hR⟩
     |false=>
      rw [if_neg (λq=>absurd (hiff.mpr q.symm) Bool.false_ne_true)] at hR
      have hri:=rcGt_int A.in1 ⟨hp,g,d,tk,os⟩ a t c u prog w
      wp_walk using hri
      exact ⟨_,rfl,by simpa using hR⟩
  case fin=>
   rintro ⟨b1,b2⟩ s' ⟨hb',rfl,vs,ws,ns',ms',hz,hvi,hwi,hlen,hR⟩
   simp only at hb'
   subst hb'
   have hv:lexLt ms' ns'=decide (items.size>items2.size):=by
    cases hvi with
    |nil=>
     cases hwi with
     |nil=>
      simp only [List.length_nil] at hlen
      rw [lexLt_nil_nil]
      exact (decide_eq_false (by omega)).symm
     |cons c u hw=>
      simp only [List.length_nil,List.length_cons] at hlen
      rw [lexLt_cons_nil]
      exact (decide_eq_false (by omega)).symm
    |cons a t hv=>
     cases hwi with
     |nil=>
      simp only [List.length_nil,List.length_cons] at hlen
      rw [lexLt_nil_cons]
      exact (decide_eq_true (by omega)).symm
     |cons c u hw=>
      rw [List.zip_cons_cons] at hz
      cases hz
   rw [hv] at hR
   wp_walk
   exact ⟨_,rfl,by simpa [Builtin.Tuple.tupleCompareSizes] using hR⟩
  case h=>
   exact ⟨rfl,rfl,items.toList,items2.toList,ns,ms,rfl,hi,hj,by omega,h⟩
section
variable {prog:Program} {w:World} {A:Around} {E:Value->Shared->Prop} {s:Shared}
theorem gt_tupInts {l b:Addr} {items items2:Array Value} {ns ms:List Int} {Q:Value->Shared->Prop} (hl:IsTup s.heap l items) (hb:IsTup s.heap b items2) (hi:IntsAre items.toList ns) (hj:IntsAre items2.toList ms)
  (hu:A.units<cLine) (h:Q (.bool (lexLt ms ns)) s):wpAny (model prog w) A (compareOp .Gt (.ref l) (.ref b)) Q E s:=by
 obtain ⟨⟨cls,dd,data,sl⟩,ho,hc,n,hd⟩:=id hl
 obtain ⟨⟨cls2,dd2,data2,sl2⟩,ho2,hc2,n2,hd2⟩:=id hb
 simp only at hc hd hc2 hd2
 subst hc hd hc2 hd2
 exact richCompare_meets_room (op:= .Gt) ⟨_,ho,rfl⟩ ⟨_,ho2,rfl⟩ PySem.F.slot_tuple_gt PySem.F.entry_tuple_gt (PySem.F.args_tuple_gt_2 _ _) (tuple_gt_ints l b items items2 n n2 dd dd2 sl sl2 ns ms hi hj)
  ⟨ho,ho2,show Value.bool (lexLt ms ns)≠Value.notImplemented/\Q (.bool (lexLt ms ns)) s from ⟨(λx=>nomatch x),h⟩⟩ hu
end
end HT
namespace L2
open PySem PySem.Spec PyProof.Rows
section
variable {X:Cx}
def rGtT (K:Frag):R2:=λx y H Q=> ∃a b ns ms,x= .ref a/\y= .ref b/\SqT K H a (ns.map V.int)/\SqT K H b (ms.map V.int)/\Q (.bl (HT.lexLt ms ns)) H
theorem op_gtT (hu:X.A.units<cLine):OpR X (compareOp .Gt) (rGtT X.K):=by
 intro pins s σ H x y v u Q I rx ry h
 obtain ⟨a,b,ns,ms,rfl,rfl,ha,hb,q⟩:=h
 cases rx
 cases ry
 obtain ⟨its,r1,p1,_⟩:=I.tuple ha
 obtain ⟨its2,r2,p2,_⟩:=I.tuple hb
 have i1:IntsAre its.toArray.toList ns:=intsAre_of r1
 have i2:IntsAre its2.toArray.toList ms:=intsAre_of r2
 exact HT.gt_tupInts p1 p2 i1 i2 hu ⟨.bl (HT.lexLt ms ns),H,I,rfl,q⟩
end
theorem OpR.or2 {X:Cx} {f:Value->Value->Sem Value} {r r':R2} (h:OpR X f r) (h':OpR X f r'):OpR X f (λx y H Q=>r x y H Q\/r' x y H Q):=by
 intro pins s σ H x y v u Q I rx ry q
 rcases q with q|q
 ·exact h pins s σ H x y v u Q I rx ry q
 ·exact h' pins s σ H x y v u Q I rx ry q
def rCatR:R2:=λx y H Q=> ∃l b xs zs,x= .ref l/\y= .ref b/\Rd H l (.lst xs)/\Rd H b (.lst zs)/\xs.length+zs.length<=sizeLine/\ ∀p,H p=none->Q (.ref p) (upd H p (.lst (xs++zs)))
section
variable {X:Cx} {K:Frag} {tb:Hp->Prop}
theorem Inv.lstR {pins:List (Addr×Obj)} {σ:List (Option V)} {H:Hp} {s:Shared} {l:Addr} {xs:List V} (I:Inv X pins σ H s) (hH:Rd H l (.lst xs)):xs.length<=sizeLine/\ ∃(its:List Value) (n:Nat),Vals xs its/\xs.length=its.length/\s.heap.get? l=some {cls:= .type "list",data:= .seq its.toArray n}:=by
 obtain ⟨z,its,n,r,e⟩:=hH.ok I.hok
 exact ⟨z,its,n,r,r.length,e⟩
theorem op_catR:OpR X (binaryOp .Add) rCatR:=by
 intro pins s σ H x y v u Q I rx ry h
 obtain ⟨l,b,xs,zs,rfl,rfl,hH,hB,hz,q⟩:=h
 cases rx
 cases ry
 obtain ⟨z,its,n,r,hl,e⟩:=I.lstR hH
 obtain ⟨z2,its2,n2,r2,hl2,e2⟩:=I.lstR hB
 refine PySem.P.add_list e e2 ?_ (by rw [List.size_toArray,List.size_toArray];omega)
 have ea:its.toArray++its2.toArray=(its++its2).toArray:=by simp
 rw [ea]
 exact ⟨.ref _,_,I.lnew (t':=s.toks) (r.append r2) (by rw [List.length_append];omega),rfl,q _ I.fresh⟩
def pAdd:PV->PV->Option PV
 | .int a,.int b=>some (.int (a+b))
 | .str a,.str b=>if a.length+b.length<=sizeLine then some (.str (a++b)) else none
 | .lst a,.lst b=>if a.length+b.length<=sizeLine then some (.lst (a++b)) else none
 | .tup a,.tup b=>if a≠ []/\a.length+b.length<=sizeLine then some (.tup (a++b)) else none
 |_,_=>none
def pSub:PV->PV->Option PV
 | .int a,.int b=>some (.int (a - b))
 |_,_=>none
instance {i j:Int}:Decidable (CMul i j):=by unfold CMul;infer_instance
instance {i j:Int}:Decidable (CDivB i j):=by unfold CDivB;infer_instance
instance {i j:Int}:Decidable (CPow i j):=by unfold CPow;infer_instance
def pDiv:PV->PV->Option PV
 | .int a,.int b=>if CDivB a b then some (.int (a/b)) else none
 |_,_=>none
def pMod:PV->PV->Option PV
 | .int a,.int b=>if 0<b then some (.int (a % b)) else none
 |_,_=>none
def pLt:PV->PV->Option PV
 | .int a,.int b=>some (.bl (decide (a<b)))
 |_,_=>none
def pLe:PV->PV->Option PV
 | .int a,.int b=>some (.bl (decide (a<=b)))
 |_,_=>none
def pintsO:List PV->Option (List Int)
 | []=>some []
 | .int i::ps=>(pintsO ps).map (i:: ·)
 |_::_=>none
def pGt:PV->PV->Option PV
 | .int a,.int b=>some (.bl (decide (b<a)))
 | .tup a,.tup b=>match pintsO a,pintsO b with
  |some x,some y=>some (.bl (HT.lexLt y x))
  |_,_=>none
 |_,_=>none
def pGe:PV->PV->Option PV
 | .int a,.int b=>some (.bl (decide (b<=a)))
 |_,_=>none
noncomputable def toV:PV->Option V
 | .non=>some .non
 | .bl b=>some (.bl b)
 | .int i=>some (.int i)
 | .str x=>some (.str x)
 |_=>none
noncomputable def allV:List PV->Option (List V)
 | []=>some []
 |p::ps=>(toV p).bind λv=>(allV ps).bind λvs=>some (v::vs)
theorem toV_rep {H:Hp} {x y:V} {p:PV} (r:RepT K H x p) (h:toV p=some y):x=y/\flatV x=true:=by
 cases p with
 |non=>cases h;exact ⟨r.non,by rw [r.non];rfl⟩
 |bl b=>cases h;exact ⟨r.bl,by rw [r.bl];rfl⟩
 |int i=>cases h;exact ⟨r.int,by rw [r.int];rfl⟩
 |str s=>cases h;exact ⟨r.str,by rw [r.str];rfl⟩
 |_=>cases h
theorem allV_rep {H:Hp}: ∀ {xs ys:List V} {ps:List PV},Reps K H xs ps->allV ps=some ys->xs=ys/\xs.all flatV=true
 |_,_,_,.nil,h=>by cases h;exact ⟨rfl,rfl⟩
 |_,_,_,.cons r rs,h=>by
  unfold allV at h
  obtain ⟨v,h1,h⟩:=obs h
  obtain ⟨vs,h2,h⟩:=obs h
  cases h
  obtain ⟨rfl,f1⟩:=toV_rep (.im r) h1
  obtain ⟨rfl,f2⟩:=allV_rep rs h2
  exact ⟨rfl,by rw [List.all_cons,f1,f2];rfl⟩
def eqVs:List V->List V->Bool
 | [],[]=>true
 |x::xs,y::ys=>eqV x y && eqVs xs ys
 |_,_=>false
noncomputable def pEqB:PV->PV->Option Bool
 | .lst a,.lst b=>if a.length≠b.length then some false else (allV a).bind λx=>(allV b).bind λy=>some (eqVs x y)
 | .sc a,.lst b=>if a.length≠b.length then some false else (allV a).bind λx=>(allV b).bind λy=>some (eqVs x y)
 |p,q=>(toV p).bind λx=>(toV q).bind λy=>if scal x y=true then some (decide (x=y)) else none
def pEq (p q:PV):Option PV:=(pEqB p q).map .bl
def pNe (p q:PV):Option PV:=(pEqB p q).map λb=> .bl (!b)
def isN:PV->Bool
 | .non=>true
 |_=>false
def pIs (p:PV):PV->Option PV
 | .non=>some (.bl (isN p))
 |_=>none
def pNis (p:PV):PV->Option PV
 | .non=>some (.bl (!isN p))
 |_=>none
noncomputable def seqOf:PV->Option (List PV)
 | .lst xs=>some xs
 | .tup xs=>some xs
 | .tpf xs=>some xs
 | .sc xs=>some xs
 |_=>none
theorem seq_rep {H:Hp} {x:V} {p:PV} {ps:List PV} (r:RepT K H x p) (h:seqOf p=some ps): ∃a vs,x= .ref a/\(SqL K H a vs\/SqT K H a vs)/\Reps K H vs ps:=by
 cases p with
 |lst xs=>cases h;obtain ⟨a,vs,e,h1,h2⟩:=r.lst;exact ⟨a,vs,e,.inl h1,h2⟩
 |sc xs=>cases h;obtain ⟨a,vs,e,h1,h2⟩:=r.sc;exact ⟨a,vs,e,.inl h1,h2⟩
 |tup xs=>cases h;obtain ⟨a,vs,e,h1,h2⟩:=r.tup;exact ⟨a,vs,e,.inr h1,h2⟩
 |tpf xs=>cases h;obtain ⟨a,vs,e,h1,h2⟩:=r.tpf;exact ⟨a,vs,e,.inr h1,h2⟩
 |_=>cases h
def pInB (p q:PV):Option Bool:=(seqOf q).bind λps=>(toV p).bind λx=>(allV ps).bind λvs=>some (inV x vs)
def pIn (p q:PV):Option PV:=(pInB p q).map .bl
def pIx (p q:PV):Option PV:=match q with
 | .int i=>(seqOf p).bind λps=>(atI ps i).bind λr=>if noSc r=true then some r else none
 |_=>none
theorem op_anyAdd:OpR X (binaryOp .Add) (λx y H Q=>rI0 (λi j=> .int (i+j)) x y H Q\/(∃i j,x= .str i/\y= .str j/\i.length+j.length<=sizeLine/\Q (.str (i++j)) H)\/rCatR x y H Q\/rCatT X.K x y H Q):=
 op_add.or2 (op_add_str.or2 (op_catR.or2 op_catT))
theorem oj_add (hK:X.K=K:=by rfl):OpJ X K tb (binaryOp .Add) (λx y H Q=>rI0 (λi j=> .int (i+j)) x y H Q\/(∃i j,x= .str i/\y= .str j/\i.length+j.length<=sizeLine/\Q (.str (i++j)) H)\/rCatR x y H Q\/rCatT K x y H Q) pAdd:=⟨hK ▸ op_anyAdd,λH x y p q res Q hb rx ry h k=>by
 unfold pAdd at h
 split at h
 ·cases h
  rw [rx.int,ry.int]
  exact .inl ⟨_,_,rfl,rfl,k _ H Ex.refl (.im (.int _)) rfl⟩
 ·split at h
  next hz=>
   cases h
   rw [rx.str,ry.str]
   exact .inr (.inl ⟨_,_,rfl,rfl,hz,k _ H Ex.refl (.im (.str _)) rfl⟩)
  next=>cases h
 ·split at h
  next hz=>
   cases h
   obtain ⟨a,vs,rfl,h1,r1⟩:=rx.rd
   obtain ⟨b,ws,rfl,h2,r2⟩:=ry.rd
   refine .inr (.inr (.inl ⟨a,b,vs,ws,rfl,rfl,h1,h2,by rw [r1.length,r2.length];exact hz,λl hl=> ?_⟩))
   have xn:Ex tb H (upd H l (.lst (vs++ws))):=Ex.new hb hl
   exact k _ _ xn (.un rfl hl (.lst upd_same ((r1.app r2).ex xn))) rfl
  next=>cases h
 ·split at h
  next hz=>
   cases h
   obtain ⟨a,vs,rfl,h1,r1⟩:=rx.tup
   obtain ⟨b,ws,rfl,h2,r2⟩:=ry.tup
   have l1:=r1.length
   have l2:=r2.length
   have ne:vs≠ []:=λz=>hz.1 (List.length_eq_zero_iff.mp (by rw [<-l1,z];rfl))
   refine .inr (.inr (.inr ⟨a,b,vs,ws,rfl,rfl,h1,h2,ne,by omega,λz=> ?_,λz l hl=> ?_⟩))
   ·subst z
    cases r2
    have hR:RepT K H (.ref a) (.tup _):=rx
    cases rx with
    |im rx=>rw [List.append_nil] at k;exact k _ H Ex.refl (.im rx) rfl
    |un e rx=>cases rx
   ·have xn:Ex tb H (upd H l (.tup (vs++ws))):=Ex.new hb hl
    exact k _ _ xn (.im (.tup upd_same ((r1.app r2).ex xn))) rfl
  next=>cases h
 ·cases h⟩
theorem oj_I0 {F:Value->Value->Sem Value} {g:Int->Int->V} {o:PV->PV->Option PV} {G:Int->Int->PV} (hp:OpR X F (rI0 g)) (ho: ∀p q r,o p q=some r-> ∃i j,p= .int i/\q= .int j/\r=G i j)
  (hg: ∀H i j,Rep K H (g i j) (G i j)) (hn: ∀i j,noSc (G i j)=true):OpJ X K tb F (rI0 g) o:=⟨hp,λH x y p q res Q hb rx ry h k=>by
 obtain ⟨i,j,rfl,rfl,rfl⟩:=ho _ _ _ h
 rw [rx.int,ry.int]
 exact ⟨i,j,rfl,rfl,k _ H Ex.refl (.im (hg H i j)) (hn i j)⟩⟩
theorem oj_I {F:Value->Value->Sem Value} {C:Int->Int->Prop} {g:Int->Int->V} {o:PV->PV->Option PV} {G:Int->Int->PV} (hp:OpR X F (rI C g)) (ho: ∀p q r,o p q=some r-> ∃i j,p= .int i/\q= .int j/\C i j/\r=G i j)
  (hg: ∀H i j,Rep K H (g i j) (G i j)) (hn: ∀i j,noSc (G i j)=true):OpJ X K tb F (rI C g) o:=⟨hp,λH x y p q res Q hb rx ry h k=>by
 obtain ⟨i,j,rfl,rfl,c,rfl⟩:=ho _ _ _ h
 rw [rx.int,ry.int]
 exact ⟨i,j,rfl,rfl,c,k _ H Ex.refl (.im (hg H i j)) (hn i j)⟩⟩
theorem oj_sub:OpJ X K tb (binaryOp .Sub) (rI0 λi j=> .int (i - j)) pSub:=oj_I0 op_sub (G:=λi j=> .int (i - j)) (λp q r h=>by
 cases p<;>cases q<;>first|(cases h;exact ⟨_,_,rfl,rfl,rfl⟩)|cases h) (λH i j=> .int _) λ_ _=>rfl
theorem oj_div:OpJ X K tb (binaryOp .FloorDiv) (rI CDivB λi j=> .int (i/j)) pDiv:=oj_I op_fdivB (G:=λi j=> .int (i/j)) (λp q r h=>by
 unfold pDiv at h
 split at h
 ·split at h
  next c=>cases h;exact ⟨_,_,rfl,rfl,c,rfl⟩
  next=>cases h
 ·cases h) (λH i j=> .int _) λ_ _=>rfl
theorem oj_mod:OpJ X K tb (binaryOp .Mod) (rI (λ_ j=>0<j) λi j=> .int (i % j)) pMod:=oj_I op_mod (G:=λi j=> .int (i % j)) (λp q r h=>by
 unfold pMod at h
 split at h
 ·split at h
  next c=>cases h;exact ⟨_,_,rfl,rfl,c,rfl⟩
  next=>cases h
 ·cases h) (λH i j=> .int _) λ_ _=>rfl
theorem oj_lt:OpJ X K tb (compareOp .Lt) (rI0 λi j=> .bl (decide (i<j))) pLt:=oj_I0 op_lt (G:=λi j=> .bl (decide (i<j))) (λp q r h=>by
 cases p<;>cases q<;>first|(cases h;exact ⟨_,_,rfl,rfl,rfl⟩)|cases h) (λH i j=> .bl _) λ_ _=>rfl
theorem oj_le:OpJ X K tb (compareOp .LtE) (rI0 λi j=> .bl (decide (i<=j))) pLe:=oj_I0 op_le (G:=λi j=> .bl (decide (i<=j))) (λp q r h=>by
 cases p<;>cases q<;>first|(cases h;exact ⟨_,_,rfl,rfl,rfl⟩)|cases h) (λH i j=> .bl _) λ_ _=>rfl
theorem oj_ge:OpJ X K tb (compareOp .GtE) (rI0 λi j=> .bl (decide (j<=i))) pGe:=oj_I0 op_ge (G:=λi j=> .bl (decide (j<=i))) (λp q r h=>by
 cases p<;>cases q<;>first|(cases h;exact ⟨_,_,rfl,rfl,rfl⟩)|cases h) (λH i j=> .bl _) λ_ _=>rfl
theorem ints_rep {H:Hp}: ∀ {vs:List V} {ps:List PV} {ns:List Int},Reps K H vs ps->pintsO ps=some ns->vs=ns.map V.int
 |_,_,_,.nil,h=>by cases h;rfl
 |_,_,_,.cons (p:=p) r rs,h=>by
  cases p with
  |int i=>
   unfold pintsO at h
   obtain ⟨ns,h1,rfl⟩:=oms h
   rw [(RepT.im r).int,ints_rep rs h1]
   rfl
  |_=>cases h
theorem oj_gt (hu:X.A.units<cLine) (hK:X.K=K:=by rfl):OpJ X K tb (compareOp .Gt) (λx y H Q=>rI0 (λi j=> .bl (decide (j<i))) x y H Q\/rGtT K x y H Q) pGt:=⟨hK ▸ op_gt.or2 (op_gtT hu),λH x y p q res Q hb rx ry h k=>by
 unfold pGt at h
 split at h
 ·cases h
  rw [rx.int,ry.int]
  exact .inl ⟨_,_,rfl,rfl,k _ H Ex.refl (.im (.bl _)) rfl⟩
 ·split at h
  next e1 e2=>
   cases h
   obtain ⟨a,vs,rfl,h1,r1⟩:=rx.tup
   obtain ⟨b,ws,rfl,h2,r2⟩:=ry.tup
   rw [ints_rep r1 e1] at h1
   rw [ints_rep r2 e2] at h2
   exact .inr ⟨a,b,_,_,rfl,rfl,h1,h2,k _ H Ex.refl (.im (.bl _)) rfl⟩
  next=>cases h
 ·cases h⟩
theorem eqVs_all: ∀ {xs ys:List V},xs.length=ys.length->eqVs xs ys=(List.range xs.length).all λj=>eqV (xs.getD j .non) (ys.getD j .non)
 | [],[],_=>rfl
 |x::xs,y::ys,h=>by
  have h:xs.length=ys.length:=by simpa using h
  show (eqV x y && eqVs xs ys)=_
  rw [eqVs_all h,List.length_cons,List.range_succ_eq_map,List.all_cons,List.all_map]
  rfl
theorem eqL_rep {H:Hp} {vs ws:List V} {a b:List PV} {r:Bool} (r1:Reps K H vs a) (r2:Reps K H ws b) (h:(if a.length≠b.length then some false else (allV a).bind λx=>(allV b).bind λy=>some (eqVs x y))=some r):
  (vs.length≠ws.length/\r=false)\/(vs.length=ws.length/\ ∃e:Nat->Bool,(∀j x y,vs[j]? =some x->ws[j]? =some y->EqW x y (e j))/\r=(List.range vs.length).all e):=by
 have l1:=r1.length
 have l2:=r2.length
 split at h
 next n=>cases h;exact .inl ⟨by omega,rfl⟩
 next n=>
  have n:a.length=b.length:=Decidable.not_not.mp n
  obtain ⟨x,h1,h⟩:=obs h
  obtain ⟨y,h2,h⟩:=obs h
  cases h
  obtain ⟨rfl,f1⟩:=allV_rep r1 h1
  obtain ⟨rfl,f2⟩:=allV_rep r2 h2
  refine .inr ⟨by omega,λj=>eqV (vs.getD j .non) (ws.getD j .non),λj x y e1 e2=> .inl ⟨List.all_eq_true.mp f1 x (List.mem_of_getElem? e1),List.all_eq_true.mp f2 y (List.mem_of_getElem? e2),?_⟩,eqVs_all (by omega)⟩
  simp [List.getD,e1,e2]
theorem eq_rep {H:Hp} {x y:V} {p q:PV} {r:Bool} (rx:RepT K H x p) (ry:RepT K H y q) (h:pEqB p q=some r):
  (∃a b xs ys,x= .ref a/\y= .ref b/\SqL K H a xs/\SqL K H b ys/\((xs.length≠ys.length/\r=false)\/(xs.length=ys.length/\ ∃e:Nat->Bool,(∀j x y,xs[j]? =some x->ys[j]? =some y->EqW x y (e j))/\r=(List.range xs.length).all e)))\/
  (scal x y=true/\r=decide (x=y)):=by
 unfold pEqB at h
 split at h
 ·obtain ⟨a,vs,rfl,h1,r1⟩:=rx.lst
  obtain ⟨b,ws,rfl,h2,r2⟩:=ry.lst
  exact .inl ⟨a,b,vs,ws,rfl,rfl,h1,h2,eqL_rep r1 r2 h⟩
 ·obtain ⟨a,vs,rfl,h1,r1⟩:=rx.sc
  obtain ⟨b,ws,rfl,h2,r2⟩:=ry.lst
  exact .inl ⟨a,b,vs,ws,rfl,rfl,h1,h2,eqL_rep r1 r2 h⟩
 ·obtain ⟨x',h1,h⟩:=obs h
  obtain ⟨y',h2,h⟩:=obs h
  obtain ⟨rfl,_⟩:=toV_rep rx h1
  obtain ⟨rfl,_⟩:=toV_rep ry h2
  split at h
  next c=>cases h;exact .inr ⟨c,rfl⟩
  next=>cases h
theorem oj_eq (hu:X.A.units<cLine) (hK:X.K=K:=by rfl):OpJ X K tb (compareOp .Eq) (λx y H Q=>rEqL K x y H Q\/rEq x y H Q) pEq:=⟨hK ▸ (op_eqL hu).or2 op_eq,λH x y p q res Q hb rx ry h k=>by
 unfold pEq at h
 obtain ⟨r,h',rfl⟩:=oms h
 have fin:=k _ H Ex.refl (.im (.bl r)) rfl
 rcases eq_rep rx ry h' with ⟨a,b,xs,ys,rfl,rfl,h1,h2,⟨n,rfl⟩|⟨n,e,he,rfl⟩⟩|⟨c,rfl⟩
 ·exact .inl ⟨a,b,xs,ys,rfl,rfl,h1,h2,.inl ⟨n,fin⟩⟩
 ·exact .inl ⟨a,b,xs,ys,rfl,rfl,h1,h2,.inr ⟨n,e,he,fin⟩⟩
 ·exact .inr ⟨c,fin⟩⟩
theorem oj_ne (hu:X.A.units<cLine) (hK:X.K=K:=by rfl):OpJ X K tb (compareOp .NotEq) (λx y H Q=>rNeL K x y H Q\/rNe x y H Q) pNe:=⟨hK ▸ (op_neL hu).or2 op_ne,λH x y p q res Q hb rx ry h k=>by
 unfold pNe at h
 obtain ⟨r,h',rfl⟩:=oms h
 have fin:=k _ H Ex.refl (.im (.bl (!r))) rfl
 rcases eq_rep rx ry h' with ⟨a,b,xs,ys,rfl,rfl,h1,h2,⟨n,rfl⟩|⟨n,e,he,rfl⟩⟩|⟨c,rfl⟩
 ·exact .inl ⟨a,b,xs,ys,rfl,rfl,h1,h2,.inl ⟨n,fin⟩⟩
 ·exact .inl ⟨a,b,xs,ys,rfl,rfl,h1,h2,.inr ⟨n,e,he,fin⟩⟩
 ·exact .inr ⟨c,fin⟩⟩
theorem is_rep {H:Hp} {x:V} {p:PV} (r:RepT K H x p):decide (x= .non)=isN p:=by
 cases r with
 |im r=>cases r<;>first|rfl|simp
 |un e r=>subst e;cases r<;>simp [isN]
theorem oj_is:OpJ X K tb (compareOp .Is) (λx y H Q=>y= .non/\Q (.bl (decide (x= .non))) H) pIs:=⟨op_isN,λH x y p q res Q hb rx ry h k=>by
 unfold pIs at h
 split at h
 ·cases h
  exact ⟨ry.non,by rw [is_rep rx];exact k _ H Ex.refl (.im (.bl _)) rfl⟩
 ·cases h⟩
theorem oj_nis:OpJ X K tb (compareOp .IsNot) (λx y H Q=>y= .non/\Q (.bl (!decide (x= .non))) H) pNis:=⟨op_notN,λH x y p q res Q hb rx ry h k=>by
 unfold pNis at h
 split at h
 ·cases h
  exact ⟨ry.non,by rw [is_rep rx];exact k _ H Ex.refl (.im (.bl _)) rfl⟩
 ·cases h⟩
theorem in_rep {H:Hp} {x y:V} {p q:PV} {r:Bool} (rx:RepT K H x p) (ry:RepT K H y q) (h:pInB p q=some r): ∃a xs,y= .ref a/\(SqL K H a xs\/SqT K H a xs)/\flatV x=true/\xs.all flatV=true/\r=inV x xs:=by
 unfold pInB at h
 obtain ⟨ps,h1,h⟩:=obs h
 obtain ⟨x',h2,h⟩:=obs h
 obtain ⟨vs,h3,h⟩:=obs h
 cases h
 obtain ⟨a,ws,rfl,hs,rs⟩:=seq_rep ry h1
 obtain ⟨rfl,f1⟩:=toV_rep rx h2
 obtain ⟨rfl,f2⟩:=allV_rep rs h3
 exact ⟨a,ws,rfl,hs,f1,f2,rfl⟩
theorem oj_in (hK:X.K=K:=by rfl):OpJ X K tb (compareOp .In) (rIn K false) pIn:=⟨hK ▸ op_in_seq,λH x y p q res Q hb rx ry h k=>by
 unfold pIn at h
 obtain ⟨r,h',rfl⟩:=oms h
 obtain ⟨a,xs,rfl,hs,f1,f2,rfl⟩:=in_rep rx ry h'
 exact ⟨a,xs,rfl,hs,f1,f2,k _ H Ex.refl (.im (.bl _)) rfl⟩⟩
end
section
variable {X:Cx} {K:Frag} {tb:Hp->Prop} {e a b c:Expr} {es:List Expr} {t ta tb' tc:TE} {f g h:EF} {pos p p2:Pos}
theorem Reps.atI {H:Hp} {vs:List V} {ps:List PV} {i:Int} {q:PV} (r:Reps K H vs ps) (h:atI ps i=some q): ∃v,L2.atI vs i=some v/\Rep K H v q:=by
 unfold L2.atI at h ⊢
 rw [r.length]
 obtain ⟨j,h1,h2⟩:=obs h
 obtain ⟨v,e,rv⟩:=r.get h2
 exact ⟨v,by rw [h1];exact e,rv⟩
theorem ko_ix (ha:KB K tb ta f) (hb':KB K tb tb' g):KO K tb (tOp (rIxQ K) ta tb') (eOp pIx f g):=λH0 H σ ρ res Q hb R h k=>by
 unfold eOp at h
 obtain ⟨p,h1,h⟩:=obs h
 obtain ⟨q,h2,h⟩:=obs h
 refine ha H0 H σ ρ p _ hb R h1 λx H1 x1 r1=>hb' H0 H1 σ ρ q _ hb (R.go x1) h2 λy H2 x2 r2=> ?_
 unfold pIx at h
 split at h
 next i=>
  obtain ⟨ps,h3,h⟩:=obs h
  obtain ⟨r,h4,h⟩:=obs h
  split at h
  next ns=>
   cases h
   obtain ⟨a,vs,rfl,hs,rs⟩:=seq_rep (r1.ex x2) h3
   obtain ⟨v,ev,rv⟩:=rs.atI h4
   exact ⟨a,vs,i,v,rfl,r2.int,hs,ev,k v H2 (x1.trans x2) (.im rv) ns⟩
  next=>cases h
 next=>cases h
theorem jo_ix (ha:JB K tb X a ta f) (hb:JB K tb X b tb' g) (hs:PlainIx b:=by intro _ _;rfl) (hK:X.K=K:=by rfl):JO K tb X (.Subscript a b pos) (tOp (rIxQ K) ta tb') (eOp pIx f g):=⟨pe_ix (ix_seqK K hK) ha.pe hb.pe hs,ko_ix ha.k hb.k⟩
def pNeg:PV->Option PV
 | .int i=>some (.int (-i))
 |_=>none
def eNeg (f:EF):EF:=λρ=>(f ρ).bind pNeg
theorem jo_neg (ha:JB K tb X a ta f):JO K tb X (.UnaryOp .USub a pos) (tUn (rU λi=> .int (-i)) ta) (eNeg f):=⟨pe_un un_neg ha.pe,λH0 H σ ρ r Q hb R h q=>by
 unfold eNeg at h
 obtain ⟨p,h1,h⟩:=obs h
 unfold pNeg at h
 split at h
 next i=>
  cases h
  exact ha.k H0 H σ ρ _ _ hb R h1 λv H1 x1 r1=>⟨i,r1.int,q _ H1 x1 (.im (.int _)) rfl⟩
 next=>cases h⟩
def ePart (f:EF):Rho->Option (Option Int):=λρ=>(f ρ).bind λp=>match p with| .int i=>some (some i)|_=>none
def eNoPart:Rho->Option (Option Int):=λ_=>some none
structure JP (K:Frag) (tb:Hp->Prop) (X:Cx) (e:Option Expr) (t:TO) (f:Rho->Option (Option Int)):Prop where
 pe:PO X e t
 k: ∀H0 H σ ρ r Q,TbS tb->ER K tb H0 H σ ρ->f ρ=some r->(∀H',Ex tb H H'->Q r H')->t σ H Q
theorem jp_n:JP K tb X none tNoPart eNoPart:=⟨po_none,λH0 H σ ρ r Q hb R h q=>by cases h;exact q H Ex.refl⟩
theorem jp_s (j:JB K tb X e t f):JP K tb X (some e) (tPart t) (ePart f):=⟨po_some j.pe,λH0 H σ ρ r Q hb R h q=>by
 unfold ePart at h
 obtain ⟨p,h1,h⟩:=obs h
 split at h
 next i=>cases h;exact j.k H0 H σ ρ _ _ hb R h1 λv H1 x1 r1=>⟨i,r1.int,q H1 x1⟩
 next=>cases h⟩
def cutP (xs:List PV) (lo hi:Option Int):List PV:=(xs.drop (HT.sIx xs.length 0 lo)).take (HT.sIx xs.length xs.length hi - HT.sIx xs.length 0 lo)
theorem Reps.cut {H:Hp} {vs:List V} {ps:List PV} (r:Reps K H vs ps) (lo hi:Option Int):Reps K H (cutV vs lo hi) (cutP ps lo hi):=by
 unfold cutV cutP
 rw [r.length]
 exact (r.drop).take
def pSl (p:PV) (lo hi:Option Int):Option PV:=match p with
 | .lst xs=>some (.lst (cutP xs lo hi))
 | .sc xs=>some (.lst (cutP xs lo hi))
 |_=>none
def eSl (o:PV->Option Int->Option Int->Option PV) (f:EF) (l u:Rho->Option (Option Int)):EF:=λρ=>(f ρ).bind λp=>(l ρ).bind λx=>(u ρ).bind λy=>o p x y
theorem jo_sl {lo hi:Option Expr} {tl th:TO} {fl fh:Rho->Option (Option Int)} (ha:JB K tb X a ta f) (hl:JP K tb X lo tl fl) (hh:JP K tb X hi th fh) (hK:X.K=K:=by rfl):JO K tb X (.Subscript a (.Slice lo hi none p2) pos) (tSl (rSlL K) ta tl th) (eSl pSl f fl fh):=
 ⟨pe_slice (hK ▸ sl_list) ha.pe hl.pe hh.pe,λH0 H σ ρ r Q hb R h k=>by
  unfold eSl at h
  obtain ⟨p,h1,h⟩:=obs h
  obtain ⟨x,h2,h⟩:=obs h
  obtain ⟨y,h3,h⟩:=obs h
  refine ha.k H0 H σ ρ _ _ hb R h1 λv H1 x1 r1=>hl.k H0 H1 σ ρ _ _ hb (R.go x1) h2 λH2 x2=>hh.k H0 H2 σ ρ _ _ hb ((R.go x1).go x2) h3 λH3 x3=> ?_
  have x123:=(x1.trans x2).trans x3
  have fin: ∀ {a:Addr} {vs:List V} {ps:List PV},SqL K H3 a vs->Reps K H3 vs ps->r= .lst (cutP ps x y)->v= .ref a->rSlL K v x y H3 Q:=λ{a vs ps} hs rs e ev=>by
   subst e ev
   refine ⟨a,vs,rfl,hs,λl hl=> ?_⟩
   have xn:Ex tb H3 (upd H3 l (.lst (cutV vs x y))):=Ex.new hb hl
   exact k _ _ (x123.trans xn) (.un rfl (x123.nil hl) (.lst upd_same ((rs.cut x y).ex xn))) rfl
  have r3:=(r1.ex x2).ex x3
  unfold pSl at h
  split at h
  ·cases h
   obtain ⟨a,vs,e,hs,rs⟩:=r3.lst
   exact fin hs rs rfl e
  ·cases h
   obtain ⟨a,vs,e,hs,rs⟩:=r3.sc
   exact fin hs rs rfl e
  ·cases h⟩
structure BJ (X:Cx) (K:Frag) (tb:Hp->Prop) (f:Value) (r:List V->Hp->VK->Prop) (o:List PV->Option PV):Prop where
 pe:CallR X f r
 k: ∀(H:Hp) (vs:List V) (ps:List PV) (res:PV) (Q:VK),TbS tb->Paired (RepT K H) vs ps->o ps=some res->(∀v H',Ex tb H H'->RepN K H H' v res->noSc res=true->Q v H')->r vs H Q
noncomputable def eCl (o:List PV->Option PV) (g:EA):EF:=λρ=>(g ρ).bind o
theorem jo_callB {r:List V->Hp->VK->Prop} {o:List PV->Option PV} {id:String} {x:Str} {tr:TA} {g:EA} (B:BJ X K tb (.builtin id) r o) (hg:Gl X x) (hm:X.mg x=none) (hv:bootBuiltins x=some (.builtin id)) (ha:JBs K tb X (e::es) tr g) (hn:x≠ "__name__" :=by decide) (hdb:(x==("__debug__" :Str))=false:=by decide)
  (he:starEach (e::es) X.env=(false,eval e X.env)::starEach es X.env:=by rfl) (hpl:(backTo pos (starEach es X.env)).any (·.1)=false:=by rfl):JO K tb X (.Call (.Name x p) (e::es) [] pos) (tCB r tr) (eCl o g):=
 ⟨pe_callB B.pe hg hm hv ha.pe hn hdb he hpl,λH0 H σ ρ res Q hb R h k=>by
  unfold eCl at h
  obtain ⟨ps,h1,h⟩:=obs h
  exact ha.k H0 H σ ρ ps _ hb R h1 λvs H1 x1 r1=>B.k H1 vs ps res Q hb r1 h λv H2 x2 n ns=>k v H2 (x1.trans x2) (n.back x1) ns⟩
theorem jo_callT {r:List V->Hp->VK->Prop} {o:List PV->Option PV} {T:String} {x:Str} {tr:TA} {g:EA} (B:BJ X K tb (.type T) r o) (hg:Gl X x) (hm:X.mg x=none) (hv:bootBuiltins x=some (.type T)) (ha:JBs K tb X (e::es) tr g) (hn:x≠ "__name__" :=by decide) (hdb:(x==("__debug__" :Str))=false:=by decide)
  (he:starEach (e::es) X.env=(false,eval e X.env)::starEach es X.env:=by rfl) (hpl:(backTo pos (starEach es X.env)).any (·.1)=false:=by rfl):JO K tb X (.Call (.Name x p) (e::es) [] pos) (tCB r tr) (eCl o g):=
 ⟨pe_callTy B.pe hg hm hv ha.pe hn hdb he hpl,λH0 H σ ρ res Q hb R h k=>by
  unfold eCl at h
  obtain ⟨ps,h1,h⟩:=obs h
  exact ha.k H0 H σ ρ ps _ hb R h1 λvs H1 x1 r1=>B.k H1 vs ps res Q hb r1 h λv H2 x2 n ns=>k v H2 (x1.trans x2) (n.back x1) ns⟩
theorem pd1 {H:Hp} {vs:List V} {p:PV} (r:Paired (RepT K H) vs [p]): ∃v,vs= [v]/\RepT K H v p:=by
 cases r with
 |cons h r=>cases r;exact ⟨_,rfl,h⟩
theorem pd2 {H:Hp} {vs:List V} {p q:PV} (r:Paired (RepT K H) vs [p,q]): ∃v w,vs= [v,w]/\RepT K H v p/\RepT K H w q:=by
 cases r with
 |cons h r=>cases r with|cons h' r=>cases r;exact ⟨_,_,rfl,h,h'⟩
def pLen:List PV->Option PV
 | [p]=>(seqOf p).map λxs=> .int xs.length
 |_=>none
theorem bj_len (hK:X.K=K:=by rfl):BJ X K tb (.builtin "len") (rLen K) pLen:=⟨cb_lenK K hK,λH vs ps res Q hb r h k=>by
 unfold pLen at h
 split at h
 ·obtain ⟨xs,h1,rfl⟩:=oms h
  obtain ⟨v,rfl,rv⟩:=pd1 r
  obtain ⟨a,ws,rfl,hs,rs⟩:=seq_rep rv h1
  have:=k (.int ws.length) H Ex.refl (.im (by rw [rs.length];exact .int _)) rfl
  exact ⟨a,ws,rfl,hs,this⟩
 ·cases h⟩
def pSum:List PV->Option PV
 | [.lst xs]=>(pintsO xs).map λns=> .int ns.sum
 |_=>none
def pMin:List PV->Option PV
 | [.int i,.int j]=>some (.int (if j<i then j else i))
 |_=>none
def pMax:List PV->Option PV
 | [.int i,.int j]=>some (.int (if j>i then j else i))
 |_=>none
theorem bj_min (hc:X.calm=true):BJ X K tb (.builtin "min") rMin pMin:=⟨cb_min hc,λH vs ps res Q hb r h k=>by
 unfold pMin at h
 split at h
 ·cases h
  obtain ⟨v,w,rfl,r1,r2⟩:=pd2 r
  rw [r1.int,r2.int]
  exact ⟨_,_,rfl,k _ H Ex.refl (.im (.int _)) rfl⟩
 ·cases h⟩
theorem bj_max (hc:X.calm=true):BJ X K tb (.builtin "max") rMax pMax:=⟨cb_max hc,λH vs ps res Q hb r h k=>by
 unfold pMax at h
 split at h
 ·cases h
  obtain ⟨v,w,rfl,r1,r2⟩:=pd2 r
  rw [r1.int,r2.int]
  exact ⟨_,_,rfl,k _ H Ex.refl (.im (.int _)) rfl⟩
 ·cases h⟩
def pList:List PV->Option PV
 | [p]=>(seqOf p).map .lst
 |_=>none
def pTuple:List PV->Option PV
 | [.lst xs]=>some (.tpf xs)
 |_=>none
theorem bj_tuple (hK:X.K=K:=by rfl):BJ X K tb (.type "tuple") (λxs H Q=> ∃p ys,xs= [.ref p]/\SqL X.K H p ys/\ ∀l o,o.dict=none->H l=none->Q (.ref l) (upd H l (.frz o (.tup ys)))) pTuple:=⟨cb_tupleF,λH vs ps res Q hb r h k=>by
 unfold pTuple at h
 split at h
 ·cases h
  obtain ⟨v,rfl,rv⟩:=pd1 r
  obtain ⟨a,ws,rfl,hs,rs⟩:=rv.lst
  refine ⟨a,ws,rfl,hK ▸ hs,λl o ho hl=> ?_⟩
  have xn:Ex tb H (upd H l (.frz o (.tup ws))):=Ex.new hb hl
  exact k _ _ xn (.im (.tpf ⟨o,ho,upd_same⟩ (rs.ex xn))) rfl
 ·cases h⟩
def pInt:List PV->Option PV
 | [.int i]=>some (.int i)
 | [.bl k]=>some (.int (if k then 1 else 0))
 |_=>none
theorem bj_int:BJ X K tb (.type "int") rIntOf pInt:=⟨cb_int,λH vs ps res Q hb r h k=>by
 unfold pInt at h
 split at h
 ·cases h
  obtain ⟨v,rfl,rv⟩:=pd1 r
  rw [rv.int]
  exact .inl ⟨_,rfl,k _ H Ex.refl (.im (.int _)) rfl⟩
 ·cases h
  obtain ⟨v,rfl,rv⟩:=pd1 r
  rw [rv.bl]
  exact .inr ⟨_,rfl,k _ H Ex.refl (.im (.int _)) rfl⟩
 ·cases h⟩
def pboolsO:List PV->Option (List Bool)
 | []=>some []
 | .bl i::ps=>(pboolsO ps).map (i:: ·)
 |_::_=>none
theorem bools_rep {H:Hp}: ∀ {vs:List V} {ps:List PV} {ns:List Bool},Reps K H vs ps->pboolsO ps=some ns->vs=ns.map V.bl
 |_,_,_,.nil,h=>by cases h;rfl
 |_,_,_,.cons (p:=p) r rs,h=>by
  cases p with
  |bl i=>
   unfold pboolsO at h
   obtain ⟨ns,h1,rfl⟩:=oms h
   rw [(RepT.im r).bl,bools_rep rs h1]
   rfl
  |_=>cases h
def pAny:List PV->Option PV
 | [.lst xs]=>(pboolsO xs).map λbs=> .bl (bs.any id)
 |_=>none
theorem bj_any (hc:X.calm=true) (hK:X.K=K:=by rfl):BJ X K tb (.builtin "any") (rAny K) pAny:=⟨hK ▸ call_any hc,λH vs ps res Q hb r h k=>by
 unfold pAny at h
 split at h
 ·obtain ⟨ns,h1,rfl⟩:=oms h
  obtain ⟨v,rfl,rv⟩:=pd1 r
  obtain ⟨a,ws,rfl,hs,rs⟩:=rv.lst
  rw [bools_rep rs h1] at hs
  exact ⟨a,ns,rfl,hs,k _ H Ex.refl (.im (.bl _)) rfl⟩
 ·cases h⟩
def pStr:List PV->Option PV
 | [.int i]=>if i.natAbs.log2<1920 then some (.str (toString i)) else none
 | [.str z]=>some (.str z)
 | [.bl b]=>some (.str (if b then "True" else "False"))
 |_=>none
theorem bj_str (hu:X.A.units+4<cLine) (hK:X.K=K:=by rfl):BJ X K tb (.type "str") (rStr K) pStr:=⟨cb_strK K hK hu,λH vs ps res Q hb r h k=>by
 unfold pStr at h
 split at h
 ·split at h
  next n=>
   cases h
   obtain ⟨v,rfl,rv⟩:=pd1 r
   rw [rv.int]
   exact .inl ⟨_,rfl,n,k _ H Ex.refl (.im (.str _)) rfl⟩
  next=>cases h
 ·cases h
  obtain ⟨v,rfl,rv⟩:=pd1 r
  rw [rv.str]
  exact .inr (.inl ⟨_,rfl,k _ H Ex.refl (.im (.str _)) rfl⟩)
 ·cases h
  obtain ⟨v,rfl,rv⟩:=pd1 r
  rw [rv.bl]
  exact .inr (.inr (.inl ⟨_,rfl,k _ H Ex.refl (.im (.str _)) rfl⟩))
 ·cases h⟩
end
section
variable {X:Cx} {K:Frag} {tb:Hp->Prop} {e a b c:Expr} {es:List Expr} {t ta tb' tc:TE} {f g h:EF} {pos p p2:Pos}
abbrev FG:=PV->Rho->Option Rho
abbrev FGs:=List PV->Rho->Option Rho
structure JG (K:Frag) (tb:Hp->Prop) (k:Nat) (X:Cx) (e:Expr) (g:TG) (f:FG):Prop where
 pe:PG X e g
 k: ∀H0 H σ ρ ρ' v p (Q:St->Hp->Prop),ER K tb H0 H σ ρ->Rep K H v p->f p ρ=some ρ'->(∀σ',ER K tb H0 H σ' ρ'->σ'.length=σ.length->(∀j,k<=j->σ'[j]? =σ[j]?)->Q σ' H)->g v σ H Q
structure JGs (K:Frag) (tb:Hp->Prop) (k:Nat) (X:Cx) (es:List Expr) (g:TGs) (f:FGs):Prop where
 pe:PGs X es g
 k: ∀H0 H σ ρ ρ' vs ps (Q:St->Hp->Prop),ER K tb H0 H σ ρ->Reps K H vs ps->f ps ρ=some ρ'->(∀σ',ER K tb H0 H σ' ρ'->σ'.length=σ.length->(∀j,k<=j->σ'[j]? =σ[j]?)->Q σ' H)->g vs σ H Q
def tgN (i:Nat):FG:=λp ρ=>some (ρ.set i (some (.f p)))
def tgNil:FGs:=λps ρ=>match ps with
 | []=>some ρ
 |_=>none
def tgCons (f:FG) (g:FGs):FGs:=λps ρ=>match ps with
 |p::ps=>(f p ρ).bind (g ps)
 |_=>none
def tgT (n:Nat) (g:FGs):FG:=λp ρ=>match p with
 | .tup ps=>if ps.length=n then g ps ρ else none
 |_=>none
theorem jg_n {i k:Nat} (hp:PG X e (gName i)) (hi:i<k:=by decide):JG K tb k X e (gName i) (tgN i):=⟨hp,λH0 H σ ρ ρ' v p Q R r h q=>by
 cases h
 exact q _ (R.setF r) (List.length_set ..) λj hj=>gset_ne (by omega)⟩
theorem jgs_nil {k:Nat}:JGs K tb k X [] gNil tgNil:=⟨pgs_nil,λH0 H σ ρ ρ' vs ps Q R r h q=>by
 cases r with
 |nil=>cases h;exact ⟨rfl,q σ R rfl λ_ _=>rfl⟩
 |cons=>cases h⟩
theorem jgs_cons {k:Nat} {g:TG} {gs:TGs} {f:FG} {fs:FGs} (h1:JG K tb k X e g f) (h2:JGs K tb k X es gs fs) (hs:(assignEach (e::es) X.env).map (·.2)=assign e X.env::(assignEach es X.env).map (·.2):=by rfl):JGs K tb k X (e::es) (gCons g gs) (tgCons f fs):=⟨pgs_cons h1.pe h2.pe hs,λH0 H σ ρ ρ' vs ps Q R r h q=>by
 cases r with
 |nil=>cases h
 |cons r rs=>
  unfold tgCons at h
  obtain ⟨ρ1,e1,e2⟩:=obs h
  exact ⟨_,_,rfl,h1.k H0 H σ ρ ρ1 _ _ _ R r e1 λσ' R1 l d=>h2.k H0 H σ' ρ1 ρ' _ _ _ R1 rs e2 λσ2 R2 l2 d2=>q σ2 R2 (l2.trans l) λj hj=>(d2 j hj).trans (d j hj)⟩⟩
theorem jg_t {k n:Nat} {gs:TGs} {fs:FGs} {x1:Nat} (hc:X.calm=true) (h:JGs K tb k X es gs fs) (hK:X.K=K:=by rfl)
  (hn:(assignEach es X.env).length=n:=by rfl) (hst:(assignEach es X.env).findIdx? (·.1)=none:=by rfl):JG K tb k X (.Tuple es x1 pos) (gTup K n gs) (tgT n fs):=⟨pg_tupK K hK hc h.pe hn hst,λH0 H σ ρ ρ' v p Q R r hh q=>by
 unfold tgT at hh
 split at hh
 ·split at hh
  next hl=>
   obtain ⟨a,vs,rfl,hs,rs⟩:=(RepT.im r).tup
   exact ⟨a,vs,rfl,hs,by rw [rs.length];exact hl,h.k H0 H σ ρ ρ' vs _ Q R rs hh q⟩
  next=>cases hh
 ·cases hh⟩
def ItOk (K:Frag) (J:It) (H1:Hp) (ps:List PV):Prop:= ∀H,Fz H1 H->(∀i,i<ps.length->J.go i H/\ ∀x H',J.yld i H x H'->Same H H'/\ ∃p,ps[i]? =some p/\Rep K H' x p)/\J.stop ps.length H
structure JI (K:Frag) (tb:Hp->Prop) (X:Cx) (tg iter:Expr) (ti:TI) (f:EA):Prop where
 pe:PI X tg iter ti
 k: ∀H0 H σ ρ ps (Q:It->Hp->Prop),TbS tb->ER K tb H0 H σ ρ->f ρ=some ps->(∀J H',Ex tb H H'->ItOk K J H' ps->Q J H')->ti σ H Q
theorem itl_ok {H:Hp} {a:Addr} {vs:List V} {ps:List PV} (hs: ∀H',Fz H H'->SqL K H' a vs) (rs:Reps K H vs ps) (hsi: ∀H' xs,Fz H H'->SqL K H' a xs->xs=vs):ItOk K (Itl K a) H ps:=λH' fz=>by
 have h:=hs H' fz
 have r:=rs.fz fz
 have l:=r.length
 refine ⟨λi hi=>⟨⟨vs,vs[i]'(by omega),h,by simp⟩,λx H2 y=> ?_⟩,⟨vs,h,by omega⟩⟩
 obtain ⟨rfl,y⟩:=y
 obtain ⟨p,e,rp⟩:=r.getV (y vs h)
 exact ⟨Same.refl _,p,e,rp⟩
theorem itl_ok' {H:Hp} {a:Addr} {vs:List V} {ps:List PV} (hs: ∀H',Fz H H'->SqL K H' a vs) (rs:Reps K H vs ps):ItOk K (Itl K a) H ps:=λH' fz=>by
 have h:=hs H' fz
 have r:=rs.fz fz
 have l:=r.length
 refine ⟨λi hi=>⟨⟨vs,vs[i]'(by omega),h,by simp⟩,λx H2 y=> ?_⟩,⟨vs,h,by omega⟩⟩
 obtain ⟨rfl,y⟩:=y
 obtain ⟨p,e,rp⟩:=r.getV (y vs h)
 exact ⟨Same.refl _,p,e,rp⟩
theorem itt_ok {H:Hp} {a:Addr} {vs:List V} {ps:List PV} (hs: ∀H',Fz H H'->SqT K H' a vs) (rs:Reps K H vs ps):ItOk K (Itt K a) H ps:=λH' fz=>by
 have h:SqT K H' a vs:=hs H' fz
 have r:=rs.fz fz
 have l:=r.length
 refine ⟨λi hi=>⟨⟨vs,vs[i]'(by omega),h,by simp⟩,λx H2 y=> ?_⟩,⟨vs,h,by omega⟩⟩
 obtain ⟨rfl,y⟩:=y
 obtain ⟨p,e,rp⟩:=r.getV (y vs h)
 exact ⟨Same.refl _,p,e,rp⟩
def iaList (f:EF):EA:=λρ=>(f ρ).bind λp=>match p with| .lst xs=>some xs| .sc xs=>some xs|_=>none
def iaTup (f:EF):EA:=λρ=>(f ρ).bind λp=>match p with| .tup xs=>some xs| .tpf xs=>some xs|_=>none
theorem ji_list {tg:Expr} (j:JF K tb X e t f) (hK:X.K=K:=by rfl):JI K tb X tg e (iList K t) (iaList f):=⟨hK ▸ pi_list j.pe,λH0 H σ ρ ps Q hb R h q=>by
 unfold iaList at h
 obtain ⟨p,h1,h⟩:=obs h
 refine j.k H0 H σ ρ p _ hb R h1 λv H1 x1 r1=> ?_
 split at h
 ·cases h
  obtain ⟨a,vs,rfl,hs,rs⟩:=r1.lst'
  exact ⟨a,rfl,⟨vs,hs.sq⟩,q _ H1 x1 (itl_ok' (λH' fz=>(hs.fz fz).sq) rs)⟩
 ·cases h
  obtain ⟨a,vs,rfl,hs,rs⟩: ∃a vs,v= .ref a/\KL K a vs/\Reps K H1 vs ps:=by
   cases r1 with|sc h r=>exact ⟨_,_,rfl,h,r⟩
  exact ⟨a,rfl,⟨vs,.inr hs⟩,q _ H1 x1 (itl_ok' (λH' fz=> .inr hs) rs)⟩
 ·cases h⟩
theorem ji_tup {tg:Expr} (j:JF K tb X e t f) (hK:X.K=K:=by rfl):JI K tb X tg e (iTup K t) (iaTup f):=⟨hK ▸ pi_tup j.pe,λH0 H σ ρ ps Q hb R h q=>by
 unfold iaTup at h
 obtain ⟨p,h1,h⟩:=obs h
 refine j.k H0 H σ ρ p _ hb R h1 λv H1 x1 r1=> ?_
 split at h
 ·cases h
  obtain ⟨a,vs,rfl,hs,rs⟩: ∃a vs,v= .ref a/\H1 a=some (.tup vs)/\Reps K H1 vs ps:=by
   cases r1 with|tup h r=>exact ⟨_,_,rfl,h,r⟩
  exact ⟨a,rfl,⟨vs,.of hs⟩,q _ H1 x1 (itt_ok (λH' fz=> .of (fz _ _ hs rfl)) rs)⟩
 ·cases h
  obtain ⟨a,vs,rfl,hs,rs⟩: ∃a vs,v= .ref a/\TupF H1 a vs/\Reps K H1 vs ps:=by
   cases r1 with|tpf h r=>exact ⟨_,_,rfl,h,r⟩
  exact ⟨a,rfl,⟨vs,hs.sq⟩,q _ H1 x1 (itt_ok (λH' fz=>(hs.fz fz).sq) rs)⟩
 ·cases h⟩
def rngP (lo:Int) (n:Nat):List PV:=(List.range n).map λ(i:Nat)=>PV.int (lo+(i:Int))
theorem itr_ok {H:Hp} {lo:Int} {n:Nat}:ItOk K (Itr lo n) H (rngP lo n):=λH' fz=>by
 have l:(rngP lo n).length=n:=by unfold rngP;rw [List.length_map,List.length_range]
 refine ⟨λi hi=>⟨by rw [l] at hi;exact hi,λx H2 y=> ?_⟩,by rw [l];exact Nat.le_refl _⟩
 obtain ⟨rfl,rfl⟩:=y
 refine ⟨Same.refl _,.int (lo+(i:Int)),?_,.int _⟩
 unfold rngP
 rw [List.getElem?_map,List.getElem?_range (by rw [l] at hi;exact hi)]
 rfl
def iaRng1 (f:EA):EA:=λρ=>(f ρ).bind λps=>match ps with
 | [.int j]=>if -(2^62)<=j/\j<2^62 then some (rngP 0 j.toNat) else none
 |_=>none
theorem ji_rng1 {tg:Expr} {tA:TA} {fA:EA} (hg:Gl X "range") (hm:X.mg "range" =none) (ha:JBs K tb X [a] tA fA) (hs:starEach [a] X.env= [(false,eval a X.env)]:=by rfl):JI K tb X tg (.Call (.Name "range" p) [a] [] pos) (iRng1 tA) (iaRng1 fA):=⟨pi_range1 hg hm ha.pe hs,λH0 H σ ρ ps Q hb R h q=>by
 unfold iaRng1 at h
 obtain ⟨qs,h1,h⟩:=obs h
 refine ha.k H0 H σ ρ qs _ hb R h1 λvs H1 x1 r1=> ?_
 split at h
 ·split at h
  next hz=>
   cases h
   obtain ⟨v,rfl,rv⟩:=pd1 r1
   rw [rv.int]
   exact ⟨_,rfl,hz.1,hz.2,q _ H1 x1 itr_ok⟩
  next=>cases h
 ·cases h⟩
def iaZip (f:EA):EA:=λρ=>(f ρ).bind λps=>match ps with
 | [.lst xs,.lst ys]=>some (List.zipWith (λa b=>PV.tup [a,b]) xs ys)
 |_=>none
def iaEnum (f:EA):EA:=λρ=>(f ρ).bind λps=>match ps with
 | [.lst xs]=>some (xs.mapIdx λi a=>PV.tup [.int (i:Nat),a])
 |_=>none
def mapF (F:PV->Option (Option PV)):List PV->Option (List PV)
 | []=>some []
 |x::xs=>(F x).bind λo=>(mapF F xs).bind λys=>some (match o with|some y=>y::ys|none=>ys)
def cstR (ρ:Rho) (k:Nat) (js:List Nat):Rho:=List.replicate k none++js.map λj=>(ρ[j]?).join
def cTurn (ρ0:Rho) (tg:FG) (cond:ET) (elt:EF) (x:PV):Option (Option PV):=(tg x ρ0).bind λρ1=>(cond ρ1).bind λb=>if b=true then (elt ρ1).map some else some none
def eComp (k:Nat) (js:List Nat) (it:EA) (tg:FG) (cond:ET) (elt:EF):EF:=λρ=>(it ρ).bind λxs=>(mapF (cTurn (cstR ρ k js) tg cond elt) xs).bind λys=>if ys.length<=sizeLine then some (.lst ys) else none
theorem cstR_at {ρ:Rho} {k i:Nat} {js:List Nat} {s:SV} (h:(cstR ρ k js)[i]? =some (some s)): ∃d j,i=k+d/\js[d]? =some j/\ρ[j]? =some (some s):=by
 unfold cstR at h
 by_cases hi:i<k
 ·rw [List.getElem?_append_left (by simpa using hi),List.getElem?_replicate,if_pos hi] at h
  cases h
 ·rw [List.getElem?_append_right (by simp;omega),List.length_replicate,List.getElem?_map] at h
  cases q:js[i - k]? with
  |none=>rw [q] at h;cases h
  |some j=>
   rw [q] at h
   have h:(ρ[j]?).join=some s:=Option.some.inj h
   refine ⟨i - k,j,by omega,q,?_⟩
   cases z:ρ[j]? with
   |none=>rw [z] at h;cases h
   |some o=>rw [z] at h;exact congrArg some h
theorem cst_at {σ:St} {k d j:Nat} {js:List Nat} {v:V} (h:js[d]? =some j) (hv:σ[j]? =some (some v)):(cst σ k js)[k+d]? =some (some v):=by
 unfold cst
 rw [List.getElem?_append_right (by simp),List.length_replicate,Nat.add_sub_cancel_left,List.getElem?_map,h]
 show some (σ[j]?).join=_
 rw [hv];rfl
theorem ER.comp {H0 H:Hp} {σ:St} {ρ:Rho} (R:ER K tb H0 H σ ρ) (k:Nat) {js:List Nat} (hj:js.Nodup):ER K tb H0 H (cst σ k js) (cstR ρ k js):=by
 refine ⟨λi p e=> ?_,λi p e=> ?_,λi i' a p q n e1 e2 e3 e4=> ?_,R.ex,R.tb,?_⟩
 ·obtain ⟨d,j,rfl,h1,h2⟩:=cstR_at e
  obtain ⟨v,g1,g2⟩:=R.im j p h2
  exact ⟨v,cst_at h1 g1,g2⟩
 ·obtain ⟨d,j,rfl,h1,h2⟩:=cstR_at e
  obtain ⟨v,g1,g2⟩:=R.mu j p h2
  exact ⟨v,cst_at h1 g1,g2⟩
 ·obtain ⟨d,j,rfl,h1,h2⟩:=cstR_at e1
  obtain ⟨d',j',rfl,h1',h2'⟩:=cstR_at e2
  obtain ⟨v,g1,g2⟩:=R.mu j p h2
  obtain ⟨v',g1',g2'⟩:=R.mu j' q h2'
  rw [cst_at h1 g1] at e3
  rw [cst_at h1' g1'] at e4
  cases e3
  cases e4
  refine R.dj j j' _ p q (λz=> ?_) h2 h2' g1 g1'
  subst z
  have hd:d<js.length:=(List.getElem?_eq_some_iff.mp h1).1
  have:=(List.getElem?_inj hd hj).mp (h1.trans h1'.symm)
  exact n (by rw [this])
 ·unfold cst cstR
  simp
theorem Ex.updN {H H':Hp} {D:Addr} {xs ys:List V} (hb:TbS tb) (x:Ex tb H H') (hD:H D=none) (h:H' D=some (.lst xs)):Ex tb H (upd H' D (.lst ys)):=by
 refine ⟨λb w e nt=> ?_,λz=> ?_,λb z=> ?_⟩
 ·rw [upd_ne (λz=>by subst z;rw [hD] at e;cases e)];exact x.keep b w e nt
 ·exact hb H' _ (λc u' e n=>by rw [upd_ne (λz=>by subst z;rw [h] at e;cases e;cases n)];exact e) (x.tb z)
 ·rw [upd_ne (λy=>by subst y;exact z hD)];exact x.dom b z
structure JTs (K:Frag) (tb:Hp->Prop) (X:Cx) (ifs:List Expr) (t:TT) (f:ET):Prop where
 pe:PTs X ifs t
 k:KTT K tb t f
theorem jts_nil:JTs K tb X [] tTT (λ_=>some true):=⟨pts_nil,λH0 H σ ρ r Q hb R h q=>by cases h;exact q H Ex.refl⟩
theorem jts_one {t:TT} {f:ET} (h:JT K tb X c t f):JTs K tb X [c] t f:=⟨pts_one h.pe,h.k⟩
theorem ko_comp {k:Nat} {js:List Nat} {wi:TI} {g:TG} {tt:TT} {te:TE} {it:EA} {tg:FG} {cond:ET} {elt:EF} (hj:js.Nodup)
  (hi: ∀H0 H σ ρ ps (Q:It->Hp->Prop),TbS tb->ER K tb H0 H σ ρ->it ρ=some ps->(∀J H',Ex tb H H'->ItOk K J H' ps->Q J H')->wi σ H Q)
  (hg: ∀H0 H σ ρ ρ' v p (Q:St->Hp->Prop),ER K tb H0 H σ ρ->Rep K H v p->tg p ρ=some ρ'->(∀σ',ER K tb H0 H σ' ρ'->σ'.length=σ.length->(∀j,k<=j->σ'[j]? =σ[j]?)->Q σ' H)->g v σ H Q)
  (ht:KTT K tb tt cond) (he:KF K tb te elt):KO K tb (tComp wi g tt te k js) (eComp k js it tg cond elt):=λH0 H σ ρ r Q hb R h q=>by
 unfold eComp at h
 obtain ⟨xs,h1,h⟩:=obs h
 obtain ⟨ys,h2,h⟩:=obs h
 split at h
 next hz=>
  cases h
  refine hi H0 H σ ρ xs _ hb R h1 λJ H1 x1 ok D hD=> ?_
  have R1:=(R.go x1).comp k hj
  refine ⟨λi m vs H2=>m=xs.length - i/\i<=xs.length/\Ex tb H1 H2/\H2 D=some (.lst vs)/\ ∃qs rest,Reps K H2 vs qs/\mapF (cTurn (cstR ρ k js) tg cond elt) (xs.drop i)=some rest/\qs++rest=ys,
   ⟨xs.length,by simp,Nat.zero_le _,Ex.new hb hD,upd_same,[],ys,.nil,h2,rfl⟩,?_⟩
  rintro i m vs H2 ⟨rfl,hi,x2,hd,qs,rest,rq,hm,hys⟩
  obtain ⟨go,stop⟩:=ok H2 x2.fz
  by_cases hlt:i<xs.length
  ·obtain ⟨g1,g2⟩:=go i hlt
   refine .inr ⟨g1,λvs' H'=>i+1<=xs.length/\Ex tb H1 H'/\H' D=some (.lst vs')/\ ∃qs rest,Reps K H' vs' qs/\mapF (cTurn (cstR ρ k js) tg cond elt) (xs.drop (i+1))=some rest/\qs++rest=ys,λvs' H' z=>⟨xs.length - (i+1),by omega,rfl,z⟩,λx H3 y=> ?_⟩
   obtain ⟨sm,p,ep,rp⟩:=g2 x H3 y
   have x3:=Ex.same (tb:=tb) hb sm
   have x13:=x2.trans x3
   have hd3:=sm _ _ hd
   rw [List.getElem?_eq_getElem hlt] at ep
   cases ep
   rw [List.drop_eq_getElem_cons hlt] at hm
   unfold mapF at hm
   obtain ⟨o,t1,hm⟩:=obs hm
   obtain ⟨zs,t2,hm⟩:=obs hm
   unfold cTurn at t1
   obtain ⟨ρ1,t3,t1⟩:=obs t1
   obtain ⟨bb,t4,t1⟩:=obs t1
   refine hg H0 H3 _ _ ρ1 x _ _ (R1.go x13) rp t3 λσ3 R3 l3 d3=>⟨⟨l3,d3⟩,ht H0 H3 σ3 ρ1 bb _ hb R3 t4 λH4 x4=> ?_⟩
   have hd4:=x4.keep _ _ hd3 rfl
   cases bb with
   |false=>
    rw [if_neg Bool.false_ne_true] at t1
    cases t1
    cases hm
    exact iteF ⟨hlt,x13.trans x4,hd4,qs,zs,((rq.ex x3).ex x4),t2,hys⟩
   |true=>
    rw [if_pos rfl] at t1
    obtain ⟨w,t5,rfl⟩:=oms t1
    cases hm
    refine iteT (he H0 H4 σ3 ρ1 w _ hb (R3.go x4) t5 λy H5 x5 r5=> ?_)
    have hd5:=x5.keep _ _ hd4 rfl
    have x15:=(x13.trans x4).trans x5
    have r15:=((rq.ex x3).ex x4).ex x5
    have lq:=r15.length
    have hzs:vs.length<sizeLine:=by
     have:=congrArg List.length hys
     rw [List.length_append,List.length_cons] at this
     omega
    have fz:Fz H5 (upd H5 D (.lst (vs++ [y]))):=Fz.upd λu e=>by rw [hd5] at e;cases e;rfl
    exact ⟨hd5,hzs,hlt,x15.updN hb hD hd5,upd_same,qs++ [w],zs,(r15.snoc r5).fz fz,t2,by rw [List.append_assoc];exact hys⟩
  ·have e:i=xs.length:=by omega
   subst e
   rw [List.drop_length] at hm
   cases hm
   rw [List.append_nil] at hys
   subst hys
   exact .inl ⟨stop,q _ H2 (x1.trans x2) (.un rfl (x1.nil hD) (.lst hd rq)) rfl⟩
 next=>cases h
theorem jo_comp {elt iter tg:Expr} {ifs:List Expr} {sc:Scope} {wi:TI} {g:TG} {tt:TT} {te:TE} {fi:EA} {ft:FG} {fc:ET} {fe:EF} (NX:List Str) (sx:Scope) (k:Nat) (js:List Nat) (N:List Str) (hj:js.Nodup) (hc:X.calm=true) (hfr:frOk NX N sx sc k js=true) (hi:JI K tb X tg iter wi fi)
  (hg: ∀cl s H ex,JG K tb k (cxComp X N sc cl s H ex) tg g ft) (ht: ∀cl s H ex,JTs K tb (cxComp X N sc cl s H ex) ifs tt fc) (he: ∀cl s H ex,JF K tb (cxComp X N sc cl s H ex) elt te fe)
  (hfree: ∀y∈sc.names,y.2= .free->sx.names.lookup y.1=some .cell) (hnames: ∀y∈sc.names,y.2= .local->sc.names.lookup y.1=some .local) (hcell: ∀y∈sc.names,y.2≠ .cell)
  (hNX:X.N=NX:=by rfl) (hsx:X.env.scope=sx:=by rfl) (hk:sc.kind= .function:=by rfl) (hs: ∀x,foldedSetIterable iter X.env x=pure x:=by intro _;rfl):
  JO K tb X (.ListComp elt [⟨tg,iter,ifs,0⟩] sc pos) (tComp wi g tt te k js) (eComp k js fi ft fc fe):=
 ⟨pe_comp NX sx k js N hc hfr hi.pe (λcl s H ex=>(hg cl s H ex).pe) (λcl s H ex=>(ht cl s H ex).pe) (λcl s H ex=>(he cl s H ex).pe) hfree hnames hcell hNX hsx hk hs,
  ko_comp hj hi.k (hg [] X.s₀ X.H₀ []).k (ht [] X.s₀ X.H₀ []).k (he [] X.s₀ X.H₀ []).k⟩
end
inductive Fl where
 |nx (ρ:Rho)|rt (p:PV)|bk (ρ:Rho)|ct (ρ:Rho)
def Fin (K:Frag) (tb:Hp->Prop) (H0 H:Hp) (D:Ends):Fl->Prop
 | .nx ρ=> ∀σ' H',Fz H H'->ER K tb H0 H' σ' ρ->D.nx σ' H'
 | .rt p=> ∀v H',Ex tb H0 H'->tb H'->RepN K H0 H' v p->noSc p=true->D.rt v H'
 | .bk ρ=> ∀σ' H',Fz H H'->ER K tb H0 H' σ' ρ->D.bk σ' H'
 | .ct ρ=> ∀σ' H',Fz H H'->ER K tb H0 H' σ' ρ->D.ct σ' H'
theorem Fin.fz {K:Frag} {tb:Hp->Prop} {H0 H H':Hp} {D:Ends} {fl:Fl} (f:Fz H H') (x:Fin K tb H0 H D fl):Fin K tb H0 H' D fl:=by
 cases fl with
 |nx ρ=>exact λσ H2 g r=>x σ H2 (f.trans g) r
 |rt p=>exact x
 |bk ρ=>exact λσ H2 g r=>x σ H2 (f.trans g) r
 |ct ρ=>exact λσ H2 g r=>x σ H2 (f.trans g) r
abbrev SF:=Rho->Option Fl
def KS (K:Frag) (tb:Hp->Prop) (t:TS) (f:SF):Prop:= ∀H0 H σ ρ fl D,TbS tb->ER K tb H0 H σ ρ->f ρ=some fl->Fin K tb H0 H D fl->t D σ H
structure JS (K:Frag) (tb:Hp->Prop) (X:Cx) (st:Stmt) (t:TS) (f:SF):Prop where
 pe:PS X st t
 k:KS K tb t f
structure JSs (K:Frag) (tb:Hp->Prop) (X:Cx) (st:List Stmt) (t:TS) (f:SF):Prop where
 pe:PSs X st t
 k:KS K tb t f
def sNil:SF:=λρ=>some (.nx ρ)
noncomputable def sSeq (f g:SF):SF:=λρ=>(f ρ).bind λfl=>match fl with
 | .nx ρ'=>g ρ'
 |o=>some o
section
variable {X:Cx} {K:Frag} {tb:Hp->Prop} {e a b c:Expr} {es:List Expr} {t ta tb' tc:TE} {f g h:EF} {pos p p2:Pos} {st:Stmt} {sts rest:List Stmt} {ts us:TS} {fs gs:SF}
theorem jss_nil:JSs K tb X [] tNext sNil:=⟨pss_nil,λH0 H σ ρ fl D hb R h q=>by cases h;exact q σ H Fz.refl R⟩
theorem jss_one (j:JS K tb X st ts fs):JSs K tb X [st] ts fs:=⟨pss_one j.pe,j.k⟩
theorem jss_cons (j:JS K tb X st ts fs) (k:JSs K tb X rest us gs):JSs K tb X (st::rest) (tSeq ts us) (sSeq fs gs):=⟨pss_cons j.pe k.pe,λH0 H σ ρ fl D hb R h q=>by
 unfold sSeq at h
 obtain ⟨fl1,h1,h⟩:=obs h
 refine j.k H0 H σ ρ fl1 {D with nx:=us D} hb R h1 ?_
 cases fl1 with
 |nx ρ'=>exact λσ' H' f R'=>k.k H0 H' σ' ρ' fl D hb R' h (q.fz f)
 |rt p=>cases h;exact q
 |bk ρ'=>cases h;exact q
 |ct ρ'=>cases h;exact q⟩
noncomputable def sIf (c:ET) (f g:SF):SF:=λρ=>(c ρ).bind λk=>if k=true then f ρ else g ρ
theorem js_if {c:Expr} {as bs:List Stmt} {tc:TT} {fc:ET} (hc:JT K tb X c tc fc) (ha:JSs K tb X as ts fs) (hb:JSs K tb X bs us gs):JS K tb X (.If c as bs pos) (tIfS tc ts us) (sIf fc fs gs):=⟨ps_if hc.pe ha.pe hb.pe,λH0 H σ ρ fl D hb' R h q=>by
 unfold sIf at h
 obtain ⟨k,h1,h⟩:=obs h
 refine hc.k H0 H σ ρ k _ hb' R h1 λH1 x1=> ?_
 cases k with
 |true=>exact iteT (ha.k H0 H1 σ ρ fl D hb' (R.go x1) h (q.fz x1.fz))
 |false=>exact iteF (hb.k H0 H1 σ ρ fl D hb' (R.go x1) h (q.fz x1.fz))⟩
def sRet (f:EF):SF:=λρ=>(f ρ).map .rt
theorem js_ret (j:JO K tb X e t f):JS K tb X (.Return (some e) pos) (tRet t) (sRet f):=⟨ps_ret j.pe,λH0 H σ ρ fl D hb R h q=>by
 unfold sRet at h
 obtain ⟨p,h1,rfl⟩:=oms h
 exact j.k H0 H σ ρ p _ hb R h1 λv H1 x1 n ns=>q v H1 (R.ex.trans x1) (x1.tb R.tb) (n.back R.ex) ns⟩
def sRetV (i:Nat):SF:=λρ=>match ρ[i]? with
 |some (some s)=>if noSc s.val=true then some (.rt s.val) else none
 |_=>none
theorem js_retV {i:Nat} (hp:PE X e (tVar i)):JS K tb X (.Return (some e) pos) (tRet (tVar i)) (sRetV i):=⟨ps_ret hp,λH0 H σ ρ fl D hb R h q=>by
 unfold sRetV at h
 split at h
 next s hs=>
  split at h
  next ns=>
   cases h
   cases s with
   |f p=>obtain ⟨v,h1,r⟩:=R.im i p hs;exact ⟨v,h1,q v H R.ex R.tb (.im r) ns⟩
   |m p=>obtain ⟨a,h1,n,r⟩:=R.mu i p hs;exact ⟨_,h1,q _ H R.ex R.tb (.un rfl n r) ns⟩
  next=>cases h
 next=>cases h⟩
noncomputable def sAsg (i:Nat) (f:EF):SF:=λρ=>(f ρ).map λp=> .nx (ρ.set i (some (.f p)))
theorem frzN {H0 H H' H2:Hp} {σ:St} {ρ:Rho} {v:V} {p:PV} {i:Nat} (hb:TbS tb) (R:ER K tb H0 H σ ρ) (x:Ex tb H H') (n:RepN K H H' v p) (ns:noSc p=true)
  (fr:frzSl i (σ.set i (some v)) H' H2):Fz H H2/\ER K tb H0 H2 (σ.set i (some v)) (ρ.set i (some (.f p))):=by
 by_cases hi:i<ρ.length
 ·have hs:(σ.set i (some v))[i]? =some (some v):=gset_at (n:=0) (by rw [R.len];exact hi)
  unfold frzSl at fr
  rw [hs] at fr
  cases n with
  |im r=>
   cases v with
   |ref a=>
    have:=r.noFrz ns fr
    subst this
    exact ⟨x.fz,(R.go x).setF r⟩
   |_=>cases fr;exact ⟨x.fz,(R.go x).setF r⟩
  |un e hn r=>
   subst e
   have x2:=x.frzN hb hn r fr
   obtain ⟨o,rfl,r2⟩:=r.frz fr
   exact ⟨x2.fz,(R.go x2).setF r2⟩
 ·have e1:σ.set i (some v)=σ:=List.set_eq_of_length_le (by rw [R.len];omega)
  have e2:ρ.set i (some (.f p))=ρ:=List.set_eq_of_length_le (by omega)
  rw [e1] at fr ⊢
  rw [e2]
  unfold frzSl at fr
  rw [List.getElem?_eq_none (by rw [R.len];omega)] at fr
  subst fr
  exact ⟨x.fz,R.go x⟩
theorem js_asg {i:Nat} (hp:PS X st (tAsg t (gName i))) (j:KO K tb t f):JS K tb X st (tSz i (tAsg t (gName i))) (sAsg i f):=⟨hp.sz i,λH0 H σ ρ fl D hb R h q=>by
 unfold sAsg at h
 obtain ⟨p,h1,rfl⟩:=oms h
 refine j H0 H σ ρ p _ hb R h1 λv H1 x1 n ns=> ?_
 show∀H2,_->_
 intro H2 fr
 obtain ⟨f1,R2⟩:=frzN hb R x1 n ns fr
 exact q _ H2 f1 R2⟩
def KN (K:Frag) (tb:Hp->Prop) (t:TE) (f:EF):Prop:= ∀H0 H σ ρ r Q,TbS tb->ER K tb H0 H σ ρ->f ρ=some r->(∀a H',Ex tb H H'->H a=none->RepU K H' a r->Q (.ref a) H')->t σ H Q
def sAsgM (i:Nat) (f:EF):SF:=λρ=>(f ρ).map λp=> .nx (ρ.set i (some (.m p)))
theorem js_asgM {i:Nat} (hp:PS X st (tAsg t (gName i))) (j:KN K tb t f):JS K tb X st (tAsg t (gName i)) (sAsgM i f):=⟨hp,λH0 H σ ρ fl D hb R h q=>by
 unfold sAsgM at h
 obtain ⟨p,h1,rfl⟩:=oms h
 exact j H0 H σ ρ p _ hb R h1 λa H1 x1 hn r1=>q _ H1 x1.fz (R.setM x1 hn r1)⟩
theorem RepU.noSc {H:Hp} {a:Addr} {p:PV} (r:RepU K H a p):noSc p=true:=by cases r<;>rfl
theorem KN.o (k:KN K tb t f):KO K tb t f:=λH0 H σ ρ r Q hb R h q=>k H0 H σ ρ r Q hb R h λa H' x n u=>q _ H' x (.un rfl n u) u.noSc
theorem kn_lst {tr:TA} {g:EA} (hr:KA K tb tr g):KN K tb (tLst tr) (eLst g):=λH0 H σ ρ r Q hb R h q=>by
 unfold eLst at h
 obtain ⟨ps,h1,h⟩:=obs h
 split at h
 next hz=>
  cases h
  refine hr H0 H σ ρ ps _ hb R h1 λvs H1 x1 r1=>⟨by rw [r1.length];exact hz,λp hp=> ?_⟩
  have xn:Ex tb H1 (upd H1 p (.lst vs)):=Ex.new hb hp
  exact q _ _ (x1.trans xn) (x1.nil hp) (.lst upd_same (r1.ex xn))
 next=>cases h
def pRep:PV->PV->Option PV
 | .lst a,.int k=>if -(2^63)<=k/\k<2^63/\a.length*k.toNat<=sizeLine then some (.lst (List.replicate k.toNat a).flatten) else none
 |_,_=>none
theorem kn_list {tr:TA} {g:EA} (hK:X.K=K) (ha:KBs K tb tr g):KN K tb (tCB (rListOf K) tr) (eCl pList g):=λH0 H σ ρ r Q hb R h q=>by
 unfold eCl at h
 obtain ⟨ps,h1,h⟩:=obs h
 refine ha H0 H σ ρ ps _ hb R h1 λvs H1 x1 r1=> ?_
 unfold pList at h
 split at h
 ·obtain ⟨xs,h2,rfl⟩:=oms h
  obtain ⟨v,rfl,rv⟩:=pd1 r1
  obtain ⟨a,ws,rfl,hs,rs⟩:=seq_rep rv h2
  refine ⟨a,ws,rfl,hs,λl hl=> ?_⟩
  have xn:Ex tb H1 (upd H1 l (.lst ws)):=Ex.new hb hl
  exact q l _ (x1.trans xn) (x1.nil hl) (.lst upd_same (rs.ex xn))
 ·cases h
def sAsgG (f:EF) (g:FG):SF:=λρ=>(f ρ).bind λp=>(g p ρ).map .nx
theorem js_asgG {k:Nat} {g:TG} {fg:FG} {tg:Expr} (j:JF K tb X e t f) (hg:JG K tb k X tg g fg) (hs:swapsWithSole [tg] e pos.line X.env=pure false:=by rfl) (hw:swappedStores [tg] e X.env=pure none:=by rfl)
  (h1:(assignEach [tg] X.env).map (·.2)= [assign tg X.env]:=by rfl):JS K tb X (.Assign [tg] e pos) (tAsg t g) (sAsgG f fg):=⟨ps_asg j.pe hg.pe hs hw h1,λH0 H σ ρ fl D hb R h q=>by
 unfold sAsgG at h
 obtain ⟨p,h1,h⟩:=obs h
 obtain ⟨ρ',h2,rfl⟩:=oms h
 exact j.k H0 H σ ρ p _ hb R h1 λv H1 x1 r1=>hg.k H0 H1 σ ρ ρ' v p _ (R.go x1) r1 h2 λσ' R' _ _=>q σ' H1 x1.fz R'⟩
def loopM (g:FG) (body:SF):List PV->Rho->Option Fl
 | [],ρ=>some (.nx ρ)
 |x::xs,ρ=>(g x ρ).bind λρ1=>(body ρ1).bind λfl=>match fl with
  | .nx ρ2=>loopM g body xs ρ2
  | .ct ρ2=>loopM g body xs ρ2
  | .bk ρ2=>some (.nx ρ2)
  | .rt p=>some (.rt p)
def sFor (it:EA) (g:FG) (body:SF):SF:=λρ=>(it ρ).bind λxs=>loopM g body xs ρ
theorem js_for {k:Nat} {iter tg:Expr} {body:List Stmt} {wi:TI} {g:TG} {tbd:TS} {fi:EA} {fg:FG} {fb:SF} (hp:PassesOwn (model X.prog X.w) X.A X.env X.xe) (hc:X.calm=true) (hi:JI K tb X tg iter wi fi) (hg:JG K tb k X tg g fg) (hbd:JSs K tb X body tbd fb)
  (hs: ∀x,foldedSetIterable iter X.env x=pure x:=by intro _;rfl):JS K tb X (.For tg iter body [] pos) (tFor wi g tbd) (sFor fi fg fb):=⟨ps_for hp hc hi.pe hg.pe hbd.pe hs,λH0 H σ ρ fl D hb R h q=>by
 unfold sFor at h
 obtain ⟨xs,h1,h⟩:=obs h
 refine hi.k H0 H σ ρ xs _ hb R h1 λJ H1 x1 ok=> ?_
 refine ⟨λi m σ' H'=>m=xs.length - i/\i<=xs.length/\Fz H1 H'/\ ∃ρ',ER K tb H0 H' σ' ρ'/\loopM fg fb (xs.drop i) ρ'=some fl,⟨xs.length,by simp,Nat.zero_le _,Fz.refl,ρ,R.go x1,h⟩,?_⟩
 rintro i m σ' H' ⟨rfl,hi,fz,ρ',R',hl⟩
 obtain ⟨go,stop⟩:=ok H' fz
 by_cases hlt:i<xs.length
 ·obtain ⟨g1,g2⟩:=go i hlt
  refine .inr ⟨g1,λσ2 H2=>i+1<=xs.length/\Fz H1 H2/\ ∃ρ',ER K tb H0 H2 σ2 ρ'/\loopM fg fb (xs.drop (i+1)) ρ'=some fl,λσ2 H2 z=>⟨xs.length - (i+1),by omega,rfl,z⟩,λx H2 y=> ?_⟩
  obtain ⟨sm,p,ep,rp⟩:=g2 x H2 y
  have x2:=Ex.same (tb:=tb) hb sm
  rw [List.getElem?_eq_getElem hlt] at ep
  cases ep
  rw [List.drop_eq_getElem_cons hlt] at hl
  unfold loopM at hl
  obtain ⟨ρ1,t1,hl⟩:=obs hl
  obtain ⟨fl1,t2,hl⟩:=obs hl
  refine hg.k H0 H2 σ' ρ' ρ1 x _ _ (R'.go x2) rp t1 λσ3 R3 _ _=>hbd.k H0 H2 σ3 ρ1 fl1 _ hb R3 t2 ?_
  have fz2:=fz.trans x2.fz
  cases fl1 with
  |nx ρ2=>exact λσ4 H4 f4 R4=>⟨hlt,fz2.trans f4,ρ2,R4,hl⟩
  |ct ρ2=>exact λσ4 H4 f4 R4=>⟨hlt,fz2.trans f4,ρ2,R4,hl⟩
  |bk ρ2=>cases hl;exact λσ4 H4 f4 R4=>q σ4 H4 (x1.fz.trans (fz2.trans f4)) R4
  |rt p=>cases hl;exact q
 ·have e:i=xs.length:=by omega
  subst e
  rw [List.drop_length] at hl
  cases hl
  exact .inl ⟨stop,q σ' H' (x1.fz.trans fz) R'⟩⟩
def sApp (i:Nat) (f:EF):SF:=λρ=>match ρ[i]? with
 |some (some (.m (.lst xs)))=>(f ρ).bind λp=>if xs.length<sizeLine then some (.nx (ρ.set i (some (.m (.lst (xs++ [p])))))) else none
 |_=>none
theorem js_app {i:Nat} (hp:PS X st (tDrop (tBM K "list" rAppend (tVar i) (tCons t tNil)))) (j:KF K tb t f):JS K tb X st (tDrop (tBM K "list" rAppend (tVar i) (tCons t tNil))) (sApp i f):=⟨hp,λH0 H σ ρ fl D hb R h q=>by
 unfold sApp at h
 split at h
 next xs hs=>
  obtain ⟨p,h1,h⟩:=obs h
  split at h
  next hz=>
   cases h
   obtain ⟨a,e1,n,u⟩:=R.mu i _ hs
   cases u with| @lst vs0 _ hl rl=>
   refine ⟨_,e1,r_tyL (.of hl) ?_⟩
   refine j H0 H σ ρ p _ hb R h1 λv H1 x1 r1=> ?_
   have hl1:=x1.keep _ _ hl rfl
   refine ⟨a,_,v,rfl,rfl,hl1,by rw [rl.length];exact hz,?_⟩
   have fz:Fz H1 (upd H1 a (.lst (vs0++ [v]))):=Fz.upd λu e=>by rw [hl1] at e;cases e;rfl
   exact q σ _ (x1.fz.trans fz) ((R.go x1).put hb hs e1 (.lst upd_same (((rl.ex x1).snoc r1).fz fz)))
  next=>cases h
 next=>cases h⟩
def sPut (i:Nat) (g f:EF):SF:=λρ=>match ρ[i]? with
 |some (some (.m (.lst xs)))=>(f ρ).bind λp=>(g ρ).bind λq=>match q with
  | .int k=>(ixN xs.length k).map λj=> .nx (ρ.set i (some (.m (.lst (xs.set j p)))))
  |_=>none
 |_=>none
theorem js_put {i:Nat} {ti:TE} (hp:PS X st (tAsg t (gSub (tVar i) ti rSetL))) (j:KF K tb t f) (jg:KB K tb ti g):JS K tb X st (tAsg t (gSub (tVar i) ti rSetL)) (sPut i g f):=⟨hp,λH0 H σ ρ fl D hb R h q=>by
 unfold sPut at h
 split at h
 next xs hs=>
  obtain ⟨p,h1,h⟩:=obs h
  obtain ⟨y,h2,h⟩:=obs h
  split at h
  next k=>
   obtain ⟨jj,h3,rfl⟩:=oms h
   obtain ⟨a,e1,n,u⟩:=R.mu i _ hs
   cases u with| @lst vs0 _ hl rl=>
   refine j H0 H σ ρ p _ hb R h1 λv H1 x1 r1=>⟨_,e1,?_⟩
   refine jg H0 H1 σ ρ _ _ hb (R.go x1) h2 λw H2 x2 r2=> ?_
   have hl2:=x2.keep _ _ (x1.keep _ _ hl rfl) rfl
   refine ⟨a,_,k,jj,rfl,r2.int,hl2,by rw [rl.length];exact h3,?_⟩
   have fz:Fz H2 (upd H2 a (.lst (List.set vs0 jj v))):=Fz.upd λu e=>by rw [hl2] at e;cases e;rfl
   exact q σ _ ((x1.trans x2).fz.trans fz) ((R.go (x1.trans x2)).put hb hs e1 (.lst upd_same (((rl.ex (x1.trans x2)).set (r1.ex x2)).fz fz)))
  next=>cases h
 next=>cases h⟩
def sPz (i:Nat) (g:SF):SF:=λρ=>match ρ[i]? with
 |some (some (.m p))=>g (ρ.set i (some (.f p)))
 |some (some (.f p))=>if noSc p=true then g ρ else none
 |_=>none
end
section
variable {X:Cx} {K:Frag} {tb:Hp->Prop} {e a b c:Expr} {es:List Expr} {t ta tb' tc:TE} {f g h:EF} {pos p p2:Pos}
theorem jo_i {i:Int} (hp:PE X e (tC (.int i))):JO K tb X e (tC (.int i)) (eC (.int i)):=⟨hp,λH0 H σ ρ r Q hb R h q=>by cases h;exact q _ H Ex.refl (.im (.int i)) rfl⟩
theorem jo_b {i:Bool} (hp:PE X e (tC (.bl i))):JO K tb X e (tC (.bl i)) (eC (.bl i)):=⟨hp,λH0 H σ ρ r Q hb R h q=>by cases h;exact q _ H Ex.refl (.im (.bl i)) rfl⟩
theorem jo_s {i:Str} (hp:PE X e (tC (.str i))):JO K tb X e (tC (.str i)) (eC (.str i)):=⟨hp,λH0 H σ ρ r Q hb R h q=>by cases h;exact q _ H Ex.refl (.im (.str i)) rfl⟩
theorem jo_n (hp:PE X e (tC .non)):JO K tb X e (tC .non) (eC .non):=⟨hp,λH0 H σ ρ r Q hb R h q=>by cases h;exact q _ H Ex.refl (.im .non) rfl⟩
def spP (K:Frag) (tb:Hp->Prop) (m:List PV->Option PV):Sp:=λvs H Q _=> ∃ps r,Reps K H vs ps/\tb H/\m ps=some r/\ ∀v H',Ex tb H H'->RepN K H H' v r->noSc r=true->Q v H'
theorem jo_call {m:List PV->Option PV} {tA:TA} {fA:EA} (hp:PA X es tA->PE X e (tCall (spP K tb m) [] E0 tA)) (ha:JA K tb X es tA fA):JO K tb X e (tCall (spP K tb m) [] E0 tA) (eCl m fA):=⟨hp ha.pe,λH0 H σ ρ r Q hb R h q=>by
 unfold eCl at h
 obtain ⟨ps,h1,h⟩:=obs h
 refine ha.k H0 H σ ρ ps _ hb R h1 λvs H1 x1 r1=> ?_
 show spP K tb m (vs++ []) H1 Q E0
 rw [List.append_nil]
 exact ⟨ps,r,r1,x1.tb R.tb,h,λv H2 x2 n ns=>q v H2 (x1.trans x2) (n.back x1) ns⟩⟩
def rho0 (N:Nat) (ps:List PV):Rho:=ps.map (λp=>some (SV.f p))++List.replicate (N - ps.length) none
noncomputable def mkM (N n:Nat) (g:SF):List PV->Option PV:=λps=>if ps.length=n then match g (rho0 N ps) with
 |some (.rt p)=>some p
 |some (.nx _)=>some .non
 |_=>none
 else none
theorem er_start {H:Hp} {N:List Str} {vs:List V} {ps:List PV} (r:Reps K H vs ps) (ht:tb H):ER K tb H H (start N vs) (rho0 N.length ps):=by
 have l:=r.length
 have none_m: ∀ {i:Nat} {p:PV},(rho0 N.length ps)[i]? ≠some (some (.m p)):=λ{i p} h=>by
  unfold rho0 at h
  by_cases hi:i<ps.length
  ·rw [List.getElem?_append_left (by simpa using hi),List.getElem?_map] at h
   cases e:ps[i]? <;>rw [e] at h<;>cases h
  ·rw [List.getElem?_append_right (by simp;omega),List.getElem?_replicate] at h
   split at h<;>cases h
 refine ⟨λi p h=> ?_,λi p h=>absurd h none_m,λi j a p q _ h _ _=>absurd h none_m,Ex.refl,ht,?_⟩
 ·unfold rho0 at h
  by_cases hi:i<ps.length
  ·rw [List.getElem?_append_left (by simpa using hi),List.getElem?_map] at h
   cases e:ps[i]? with
   |none=>rw [e] at h;cases h
   |some q=>
    rw [e] at h
    cases h
    obtain ⟨v,ev,rv⟩:=r.get e
    refine ⟨v,?_,rv⟩
    unfold start
    rw [List.getElem?_append_left (by rw [List.length_map];omega),List.getElem?_map,ev]
    rfl
  ·rw [List.getElem?_append_right (by simp;omega),List.getElem?_replicate] at h
   split at h<;>cases h
 ·unfold start rho0
  rw [List.length_append,List.length_append,List.length_map,List.length_map,List.length_replicate,List.length_replicate,l]
theorem kfn {P:Program} {w:World} {mg:Str->Option Value} {base:Heap} {x qual:Str} {st:Stmt} {f:Addr} {fd:FuncData} {dV:Value} {N ps:List Str} {k:Nat} (F:FunD K x qual st f fd dV) (S:FnScope N ps (defScope st)) (hb:TbS tb) (g:SF)
  (j: ∀(cdv:Value) (A:Around) (outer:List Env) (s:Shared) (H:Hp) (E:XK),Room k (A.deeper (envOfC qual (defScope st) s.heap.objs.size f cdv))->
   ∃t,JSs K tb (cxOf CX0 P w K mg base N qual (defScope st) f cdv A outer s H E).nox (defBody st) t g):FnOk P w K mg base CX0 (k+1) f fd ps (spP K tb (mkM N.length ps.length g)):=by
 refine F.ok S (λvs H Q E h=> ?_) (λcdv A outer s H vs Q E hr h=> ?_)
 ·obtain ⟨qs,r,h1,_,h2,_⟩:=h
  unfold mkM at h2
  split at h2
  next e=>rw [h1.length];exact e
  next=>cases h2
 ·obtain ⟨qs,r,h1,ht,h2,q⟩:=h
  obtain ⟨t,hj⟩:=j cdv A outer s H E hr
  refine ⟨t,hj.pe,?_⟩
  unfold mkM at h2
  split at h2
  ·split at h2
   next p e=>cases h2;exact hj.k H H _ _ _ _ hb (er_start h1 ht) e λv H' x _ n ns=>q v H' x n ns
   next ρ e=>cases h2;exact hj.k H H _ _ _ _ hb (er_start h1 ht) e λσ' H' _ R=>q _ H' R.ex (.im .non) rfl
   next=>cases h2
  ·cases h2
def pIsi (T:String) (p:PV):Option PV:=match p with
 | .int _=>if T= "int" then some (.bl true) else if T= "bool" then some (.bl false) else if T= "str" then some (.bl false) else none
 | .bl _=>if T= "int" then some (.bl true) else if T= "bool" then some (.bl true) else none
 | .str _=>if T= "int" then some (.bl false) else if T= "str" then some (.bl true) else none
 | .non=>if T= "int" then some (.bl false) else none
 | .lst _=>if T= "list" then some (.bl true) else none
 |_=>none
theorem isi_rep {H:Hp} {T:String} {x:V} {p q:PV} {Q:VK} (r:RepT K H x p) (h:pIsi T p=some q) (k: ∀b,q= .bl b->Q (.bl b) H):rIsi K [x,.ty T] H Q:=by
 unfold pIsi at h
 split at h
 ·rw [r.int]
  split at h
  next e=>subst e;cases h;exact r_isi (.int _) rfl (k _ rfl)
  split at h
  next e=>subst e;cases h;exact r_isi (.int _) rfl (k _ rfl)
  split at h
  next e=>subst e;cases h;exact r_isi (.int _) rfl (k _ rfl)
  cases h
 ·rw [r.bl]
  split at h
  next e=>subst e;cases h;exact r_isi (.bl _) rfl (k _ rfl)
  split at h
  next e=>subst e;cases h;exact r_isi (.bl _) rfl (k _ rfl)
  cases h
 ·rw [r.str]
  split at h
  next e=>subst e;cases h;exact r_isi (.str _) rfl (k _ rfl)
  split at h
  next e=>subst e;cases h;exact r_isi (.str _) rfl (k _ rfl)
  cases h
 ·rw [r.non]
  split at h
  next e=>subst e;cases h;exact r_isi .non rfl (k _ rfl)
  cases h
 ·split at h
  next e=>
   subst e;cases h
   obtain ⟨a,vs,rfl,hs,_⟩:=r.rd
   rcases hs with hs|⟨o,hs⟩
   ·exact r_isi (.lst hs) rfl (k _ rfl)
   ·exact r_isi (.frz hs) rfl (k _ rfl)
  cases h
 ·cases h
def eIsi (T:String) (f:EF):EF:=λρ=>(f ρ).bind (pIsi T)
def eIsiT (f:EF):EF:=λρ=>(f ρ).bind λp=>match p with| .tup _=>some (.bl true)| .tpf _=>some (.bl true)|_=>none
theorem jo_isi {T:String} {p3:Pos} {x:Expr} (hg:Gl X "isinstance") (hm:X.mg "isinstance" =none) (ha:JB K tb X a t f) (hx:PE X x (tC (.ty T))) (hK:X.K=K:=by rfl) (hs1:starEach [a,x] X.env=(false,eval a X.env)::starEach [x] X.env:=by rfl) (hs2:starEach [x] X.env=(false,eval x X.env)::starEach [] X.env:=by rfl) (hpl:(backTo pos (starEach [x] X.env)).any (·.1)=false:=by rfl):
  JO K tb X (.Call (.Name "isinstance" p3) [a,x] [] pos) (tCB (rIsi K) (tCons t (tCons (tC (.ty T)) tNil))) (eIsi T f):=⟨pe_callB (hK ▸ call_isi) hg hm PyProof.Rows.boot_isinstance (pa_cons ha.pe (pa_cons hx pa_nil hs2) hs1) (by decide) (by decide) hs1 hpl,λH0 H σ ρ r Q hb R h q=>by
 unfold eIsi at h
 obtain ⟨p,h1,h⟩:=obs h
 refine ha.k H0 H σ ρ p _ hb R h1 λv H1 x1 r1=> ?_
 exact isi_rep r1 h λb e=>by subst e;exact q _ H1 x1 (.im (.bl b)) rfl⟩
end
section
variable {X:Cx} {K:Frag} {tb:Hp->Prop} {e a b c:Expr} {es:List Expr} {t ta tb' tc:TE} {f g h:EF} {pos p p2:Pos}
def pMulI:PV->PV->Option PV
 | .int a,.int b=>if CMul a b then some (.int (a*b)) else none
 |_,_=>none
theorem oj_mul:OpJ X K tb (binaryOp .Mult) (rI CMul λi j=> .int (i*j)) pMulI:=oj_I op_mul (G:=λi j=> .int (i*j)) (λp q r h=>by
 unfold pMulI at h
 split at h
 ·split at h
  next c=>cases h;exact ⟨_,_,rfl,rfl,c,rfl⟩
  next=>cases h
 ·cases h) (λH i j=> .int _) λ_ _=>rfl
def pSlT (p:PV) (x y:Option Int):Option PV:=match p with
 | .tup xs=>if¬(HT.sIx xs.length 0 x=0/\HT.sIx xs.length xs.length y=xs.length) then some (.tup (cutP xs x y)) else none
 |_=>none
theorem jo_slT {lo hi:Option Expr} {tl th:TO} {fl fh:Rho->Option (Option Int)} (ha:JB K tb X a ta f) (hl:JP K tb X lo tl fl) (hh:JP K tb X hi th fh) (hK:X.K=K:=by rfl):JO K tb X (.Subscript a (.Slice lo hi none p2) pos) (tSl (rSlT K) ta tl th) (eSl pSlT f fl fh):=
 ⟨pe_slice (hK ▸ sl_tup) ha.pe hl.pe hh.pe,λH0 H σ ρ r Q hb R h k=>by
  unfold eSl at h
  obtain ⟨p,h1,h⟩:=obs h
  obtain ⟨x,h2,h⟩:=obs h
  obtain ⟨y,h3,h⟩:=obs h
  refine ha.k H0 H σ ρ _ _ hb R h1 λv H1 x1 r1=>hl.k H0 H1 σ ρ _ _ hb (R.go x1) h2 λH2 x2=>hh.k H0 H2 σ ρ _ _ hb ((R.go x1).go x2) h3 λH3 x3=> ?_
  have x123:=(x1.trans x2).trans x3
  have r3:=(r1.ex x2).ex x3
  unfold pSlT at h
  split at h
  ·split at h
   next c=>
    cases h
    obtain ⟨a,vs,rfl,hs,rs⟩:=r3.tup
    refine ⟨a,vs,rfl,hs,by rw [rs.length];exact c,λl hl=> ?_⟩
    have xn:Ex tb H3 (upd H3 l (.tup (cutV vs x y))):=Ex.new hb hl
    exact k _ _ (x123.trans xn) (.im (.tup upd_same ((rs.cut x y).ex xn))) rfl
   next=>cases h
  ·cases h⟩
variable {κ:Type} [DecidableEq κ]
def pstrsO:List PV->Option (List Str)
 | []=>some []
 | .str i::ps=>(pstrsO ps).map (i:: ·)
 |_::_=>none
theorem strs_rep {H:Hp}: ∀ {vs:List V} {ps:List PV} {ns:List Str},Reps K H vs ps->pstrsO ps=some ns->vs=ns.map V.str
 |_,_,_,.nil,h=>by cases h;rfl
 |_,_,_,.cons (p:=p) r rs,h=>by
  cases p with
  |str i=>
   unfold pstrsO at h
   obtain ⟨ns,h1,rfl⟩:=oms h
   rw [(RepT.im r).str,strs_rep rs h1]
   rfl
  |_=>cases h
def eJoin (f g:EF):EF:=λρ=>(f ρ).bind λs=>(g ρ).bind λq=>match s,q with
 | .str sep,.lst ps=>(pstrsO ps).bind λts=>if JoinOk sep ts=true then some (.str (Txt.join sep ts)) else none
 |_,_=>none
theorem ko_join (ha:KB K tb ta f) (hb:KB K tb tb' g):KO K tb (tBM K "str" (rJoin K) ta (tCons tb' tNil)) (eJoin f g):=λH0 H σ ρ r Q hb' R h k=>by
 unfold eJoin at h
 obtain ⟨s,h1,h⟩:=obs h
 obtain ⟨q,h2,h⟩:=obs h
 split at h
 ·obtain ⟨ts,h3,h⟩:=obs h
  split at h
  next ok=>
   cases h
   refine ha H0 H σ ρ _ _ hb' R h1 λx H1 x1 r1=> ?_
   rw [r1.str]
   refine ⟨by first|exact rfl|simp [tyV],hb H0 H1 σ ρ _ _ hb' (R.go x1) h2 λy H2 x2 r2=> ?_⟩
   obtain ⟨a,vs,rfl,hs,rs⟩:=r2.lst
   rw [strs_rep rs h3] at hs
   exact ⟨_,a,ts,rfl,rfl,hs,ok,k _ H2 (x1.trans x2) (.im (.str _)) rfl⟩
  next=>cases h
 ·cases h
theorem js_comp {elt iter tg:Expr} {ifs:List Expr} {sc:Scope} {wi:TI} {g:TG} {tt:TT} {te:TE} {fi:EA} {ft:FG} {fc:ET} {fe:EF} (NX:List Str) (sx:Scope) (k:Nat) (js:List Nat) (N:List Str) {i:Nat} {y:Str} {py spos:Pos} (hN:X.N.Nodup) (hyi:X.N[i]? =some y) (hj:js.Nodup) (hc:X.calm=true) (hfr:frOk NX N sx sc k js=true) (hi:JI K tb X tg iter wi fi)
  (hg: ∀cl s H ex,JG K tb k (cxComp X N sc cl s H ex) tg g ft) (ht: ∀cl s H ex,JTs K tb (cxComp X N sc cl s H ex) ifs tt fc) (he: ∀cl s H ex,JF K tb (cxComp X N sc cl s H ex) elt te fe)
  (hfree: ∀y∈sc.names,y.2= .free->sx.names.lookup y.1=some .cell) (hnames: ∀y∈sc.names,y.2= .local->sc.names.lookup y.1=some .local) (hcell: ∀y∈sc.names,y.2≠ .cell)
  (hy:X.env.scope.names.lookup y=some .local:=by rfl)
  (hsw:swapsWith (.ListComp elt [⟨tg,iter,ifs,0⟩] sc pos) (some (.Name y py)) spos.line X.env=pure true:=by rfl)
  (hNX:X.N=NX:=by rfl) (hsx:X.env.scope=sx:=by rfl) (hk:sc.kind= .function:=by rfl) (hs: ∀x,foldedSetIterable iter X.env x=pure x:=by intro _;rfl):
  JS K tb X (.Assign [.Name y py] (.ListComp elt [⟨tg,iter,ifs,0⟩] sc pos) spos) (tSz i (tAsg (tComp wi g tt te k js) (gName i))) (sAsg i (eComp k js fi ft fc fe)):=
 js_asg (ps_comp NX sx k js N hN hyi hc hfr hi.pe (λcl s H ex=>(hg cl s H ex).pe) (λcl s H ex=>(ht cl s H ex).pe) (λcl s H ex=>(he cl s H ex).pe) hfree hnames hcell hy hsw hNX hsx hk hs)
  (ko_comp hj hi.k (hg [] X.s₀ X.H₀ []).k (ht [] X.s₀ X.H₀ []).k (he [] X.s₀ X.H₀ []).k)
theorem js_set {i:Nat} {st:Stmt} (hp:PE X e t->PS X st (tAsg t (gName i))) (j:JO K tb X e t f):JS K tb X st (tSz i (tAsg t (gName i))) (sAsg i f):=js_asg (hp j.pe) j.k
structure JN (K:Frag) (tb:Hp->Prop) (X:Cx) (e:Expr) (t:TE) (f:EF):Prop where
 pe:PE X e t
 k:KN K tb t f
theorem JN.o (j:JN K tb X e t f):JO K tb X e t f:=⟨j.pe,j.k.o⟩
theorem js_setM {i:Nat} {st:Stmt} (hp:PE X e t->PS X st (tAsg t (gName i))) (j:JN K tb X e t f):JS K tb X st (tAsg t (gName i)) (sAsgM i f):=js_asgM (hp j.pe) j.k
theorem jn_lst {tr:TA} {g:EA} {q1:Pos} (hr:JA K tb X es tr g):JN K tb X (.List es q1) (tLst tr) (eLst g):=⟨pe_lst hr.pe,kn_lst hr.k⟩
theorem jn_list {tr:TA} {g:EA} {p3:Pos} (hg:Gl X "list") (hm:X.mg "list" =none) (ha:JBs K tb X (e::es) tr g) (hK:X.K=K:=by rfl)
  (he:starEach (e::es) X.env=(false,eval e X.env)::starEach es X.env:=by rfl) (hpl:(backTo pos (starEach es X.env)).any (·.1)=false:=by rfl):JN K tb X (.Call (.Name "list" p3) (e::es) [] pos) (tCB (rListOf K) tr) (eCl pList g):=⟨pe_callTy (hK ▸ cb_list) hg hm PyProof.Rows.boot_list ha.pe (by decide) (by decide) he hpl,kn_list hK ha.k⟩
theorem js_app' {i:Nat} {st:Stmt} (hp:PA X [e] (tCons t tNil)->PS X st (tDrop (tBM K "list" rAppend (tVar i) (tCons t tNil)))) (j:JF K tb X e t f) (hs:starEach [e] X.env=(false,eval e X.env)::starEach [] X.env:=by rfl):JS K tb X st (tDrop (tBM K "list" rAppend (tVar i) (tCons t tNil))) (sApp i f):=js_app (hp (pa_cons j.pe pa_nil hs)) j.k
theorem js_put' {i:Nat} {st:Stmt} {ti:TE} (hp:PE X e t->PE X a ti->PS X st (tAsg t (gSub (tVar i) ti rSetL))) (j:JF K tb X e t f) (jg:JB K tb X a ti g):JS K tb X st (tAsg t (gSub (tVar i) ti rSetL)) (sPut i g f):=js_put (hp j.pe jg.pe) j.k jg.k
theorem jo_join {apos:Pos} (hp:PE X a ta->PA X [b] (tCons tb' tNil)->PE X e (tBM K "str" (rJoin K) ta (tCons tb' tNil))) (ha:JB K tb X a ta f) (hb:JB K tb X b tb' g) (hs:starEach [b] X.env=(false,eval b X.env)::starEach [] X.env:=by rfl):JO K tb X e (tBM K "str" (rJoin K) ta (tCons tb' tNil)) (eJoin f g):=⟨hp ha.pe (pa_cons hb.pe pa_nil hs),ko_join ha.k hb.k⟩
end
def msgP (k:Nat):Str:=(["full","no such claim","round over","too late","twice","too much","no such row","needed"]:List Str).getD k ""
def BkA.mu (A:BkA):List Addr:= [A.b,A.ro,A.ca,A.we]
structure Bst where
 A:BkA
 (pl co sp rows came went:List PV)
 dn:Int
abbrev Wd:=List Bst
abbrev EX:=Except Nat PV
def inW (W:Wd) (a:Addr):Prop:= ∃b∈W,a∈b.A.mu
def FldAt (K:Frag) (H:Hp) (a:Addr) (ps:List PV):Prop:= ∃vs,H a=some (.lst vs)/\Reps K H vs ps
def FzF (K:Frag) (H:Hp) (a:Addr) (ps:List PV):Prop:= ∃vs,FzL H a vs/\Reps K H vs ps
theorem FzF.fz {K:Frag} {H H':Hp} {a:Addr} {ps:List PV} (f:Fz H H') (h:FzF K H a ps):FzF K H' a ps:=let ⟨vs,e,r⟩:=h;⟨vs,e.fz f,r.fz f⟩
structure BkP (K:Frag) (cB:Addr) (H:Hp) (b:Bst):Prop where
 ob: ∃dx,H b.A.b=some (.ins cB dx (flds b.A.pe b.A.co b.A.sp b.A.ro b.A.ca b.A.we b.dn))
 ro:FldAt K H b.A.ro b.rows
 ca:FldAt K H b.A.ca b.came
 we:FldAt K H b.A.we b.went
 pe:FzF K H b.A.pe b.pl
 co:FzF K H b.A.co b.co
 sp:FzF K H b.A.sp b.sp
 nd: [b.A.ro,b.A.ca,b.A.we].Nodup
structure WRep (K:Frag) (cB:Addr) (H:Hp) (W:Wd):Prop where
 at_: ∀b∈W,BkP K cB H b
 dj:W.Pairwise λb c=> ∀a∈b.A.mu,a∉c.A.mu
theorem BkP.kp {K:Frag} {cB:Addr} {H H':Hp} {b:Bst} (s: ∀a o,H a=some o->notTbl o=true->(a∈b.A.mu\/fx o=true)->H' a=some o) (h:BkP K cB H b):BkP K cB H' b:=by
 have f:Fz H H':=λa o e z=>s a o e (fx_nt z) (.inr z)
 have g: ∀ {a ps},a∈b.A.mu->FldAt K H a ps->FldAt K H' a ps:=λ{a ps} m ⟨vs,e,r⟩=>⟨vs,s a _ e rfl (.inl m),r.fz f⟩
 obtain ⟨⟨dx,h1⟩,h2,h3,h4,h5,h6,h7,n⟩:=h
 exact ⟨⟨dx,s _ _ h1 rfl (.inl (by simp [BkA.mu]))⟩,g (by simp [BkA.mu]) h2,g (by simp [BkA.mu]) h3,g (by simp [BkA.mu]) h4,h5.fz f,h6.fz f,h7.fz f,n⟩
theorem BkP.cell {K:Frag} {cB a:Addr} {H:Hp} {b:Bst} (B:BkP K cB H b) (h:a∈b.A.mu): ∃o,H a=some o/\fx o=false/\notTbl o=true/\nm o=false:=by
 obtain ⟨⟨dx,h1⟩,⟨_,h2,_⟩,⟨_,h3,_⟩,⟨_,h4,_⟩,_,_,_,n⟩:=B
 simp only [BkA.mu,List.mem_cons,List.not_mem_nil,or_false] at h
 rcases h with rfl|rfl|rfl|rfl
 ·exact ⟨_,h1,rfl,rfl,rfl⟩
 ·exact ⟨_,h2,rfl,rfl,rfl⟩
 ·exact ⟨_,h3,rfl,rfl,rfl⟩
 ·exact ⟨_,h4,rfl,rfl,rfl⟩
theorem WRep.cell {K:Frag} {cB a:Addr} {H:Hp} {W:Wd} (R:WRep K cB H W) (h:inW W a): ∃o,H a=some o/\fx o=false/\notTbl o=true/\nm o=false:=let ⟨b,hb,ha⟩:=h;(R.at_ b hb).cell ha
theorem WRep.kp {K:Frag} {cB:Addr} {H H':Hp} {W:Wd} (s: ∀a o,H a=some o->notTbl o=true->(inW W a\/fx o=true)->H' a=some o) (R:WRep K cB H W):WRep K cB H' W:=
 ⟨λb hb=>(R.at_ b hb).kp λa o e n h=>s a o e n (h.imp (λz=>⟨b,hb,z⟩) id),R.dj⟩
structure Pst (K:Frag) (tb:Hp->Prop) (cB:Addr) (W W':Wd) (H H':Hp):Prop where
 keep: ∀a o,H a=some o->notTbl o=true-> ¬inW W a->H' a=some o
 dom: ∀a,H a≠none->H' a≠none
 new: ∀a,inW W' a->inW W a
 wr:WRep K cB H' W'
 tb:tb H'
theorem Pst.fz {K:Frag} {tb:Hp->Prop} {cB:Addr} {W W':Wd} {H H':Hp} (R:WRep K cB H W) (p:Pst K tb cB W W' H H'):Fz H H':=λa o e f=>p.keep a o e (fx_nt f) λz=>by
 obtain ⟨u,hu,fu,_⟩:=R.cell z
 rw [e] at hu;cases hu;rw [f] at fu;cases fu
structure EW (K:Frag) (tb:Hp->Prop) (cB:Addr) (H0:Hp) (W0:Wd) (W:Wd) (H:Hp) (σ:St) (ρ:Rho):Prop where
 im: ∀(i:Nat) (p:PV),ρ[i]? =some (some (SV.f p))-> ∃v,σ[i]? =some (some v)/\Rep K H v p
 mu: ∀(i:Nat) (p:PV),ρ[i]? =some (some (SV.m p))-> ∃a,σ[i]? =some (some (V.ref a))/\H0 a=none/\ ¬inW W a/\RepU K H a p
 dj: ∀(i j:Nat) (a:Addr) (p q:PV),i≠j->ρ[i]? =some (some (SV.m p))->ρ[j]? =some (some (SV.m q))->σ[i]? =some (some (V.ref a))->σ[j]? ≠some (some (V.ref a))
 len:σ.length=ρ.length
 ps:Pst K tb cB W0 W H0 H
 w0:WRep K cB H0 W0
section
variable {K:Frag} {tb:Hp->Prop} {cB:Addr} {H0 H H' H1 H2:Hp} {W0 W W' W1:Wd} {σ σ':St} {ρ ρ':Rho} {v:V} {p:PV}
theorem EW.er (R:EW K tb cB H0 W0 W H σ ρ): ∃G:Hp,(∀a,G a=none->H a=none\/(H0 a=none/\ ¬inW W a/\ ∀o,H a=some o->fx o=false))/\(∀a o,G a=some o->H a=some o)/\ER K tb G H σ ρ:=by
 classical
 let own:Addr->Prop:=λa=> ∃(i:Nat) (p:PV),ρ[i]? =some (some (SV.m p))/\σ[i]? =some (some (V.ref a))
 refine ⟨λa=>if own a then none else H a,λa h=> ?_,λa o h=> ?_,?_⟩
 ·by_cases z:own a
  ·obtain ⟨i,p,h1,h2⟩:=z
   obtain ⟨b,g1,g2,g3,g4⟩:=R.mu i p h1
   rw [h2] at g1;cases g1
   obtain ⟨u,hu,fu,_⟩:= ‹RepU K H a p›.mut
   exact .inr ⟨g2,g3,λo e=>by rw [hu] at e;cases e;exact fu⟩
  ·exact .inl (by have h:(if own a then none else H a)=none:=h;rwa [if_neg z] at h)
 ·have h:(if own a then none else H a)=some o:=h
  split at h
  ·cases h
  ·exact h
 ·refine ⟨R.im,λi p h=> ?_,R.dj,⟨λa o h _=> ?_,λ_=>R.ps.tb,λa h z=> ?_⟩,R.ps.tb,R.len⟩
  ·obtain ⟨a,g1,g2,g3,g4⟩:=R.mu i p h
   exact ⟨a,g1,if_pos ⟨i,p,h,g1⟩,g4⟩
  ·have h:(if own a then none else H a)=some o:=h
   split at h
   ·cases h
   ·exact h
  ·exact h (by show (if own a then none else H a)=none;split;rfl;exact z)
theorem EW.post (R:EW K tb cB H0 W0 W H σ ρ) (q:Pst K tb cB W W' H H'):EW K tb cB H0 W0 W' H' σ ρ:=by
 have fz:=q.fz R.ps.wr
 refine ⟨λi p h=> ?_,λi p h=> ?_,R.dj,R.len,⟨λa o e n z=> ?_,λa h=>q.dom a (R.ps.dom a h),λa h=> ?_,q.wr,q.tb⟩,R.w0⟩
 ·obtain ⟨v,g1,g2⟩:=R.im i p h;exact ⟨v,g1,g2.fz fz⟩
 ·obtain ⟨a,g1,g2,g3,g4⟩:=R.mu i p h
  obtain ⟨u,hu,_,_,nt⟩:=g4.mut
  refine ⟨a,g1,g2,λz=>g3 (q.new a z),?_⟩
  ·have hk: ∀o,H a=some o->notTbl o=true->H' a=some o:=λo e n=>q.keep a o e n g3
   cases g4 with
   |lst h' r=>exact .lst (hk _ h' rfl) (r.fz fz)
   |dk h' l r=>exact .dk (hk _ h' rfl) l (r.fz fz)
   |dt h' l r=>exact .dt (hk _ h' rfl) l (r.fz fz)
 ·exact q.keep a o (R.ps.keep a o e n z) n λw=>z (R.ps.new a w)
 ·exact R.ps.new a (q.new a h)
theorem EW.go (R:EW K tb cB H0 W0 W H σ ρ) (x:Ex tb H H'):EW K tb cB H0 W0 W H' σ ρ:=
 R.post ⟨λa o e n _=>x.keep a o e n,x.dom,λa h=>h,R.ps.wr.kp λa o e n _=>x.keep a o e n,x.tb R.ps.tb⟩
theorem EW.back (R:EW K tb cB H0 W0 W H σ ρ) {G:Hp} (g1: ∀a,G a=none->H a=none\/(H0 a=none/\ ¬inW W a/\ ∀o,H a=some o->fx o=false)) (g2: ∀a o,G a=some o->H a=some o) (S:ER K tb G H' σ' ρ'):EW K tb cB H0 W0 W H' σ' ρ':=by
 have nw: ∀ {a},G a=none-> ¬inW W a:=λ{a} h z=>by
  rcases g1 a h with h|h
  ·obtain ⟨o,e,_⟩:=R.ps.wr.cell z;rw [h] at e;cases e
  ·exact h.2.1 z
 have n0: ∀ {a},G a=none->H0 a=none:=λ{a} h=>by
  rcases g1 a h with h|h
  ·cases e:H0 a with
   |none=>rfl
   |some o=>exact absurd h (R.ps.dom a (by rw [e];simp))
  ·exact h.1
 have kp: ∀a o,H a=some o->notTbl o=true->G a≠none->H' a=some o:=λa o e n h=>by
  cases z:G a with
  |none=>exact absurd z h
  |some u=>have:=g2 a u z;rw [e] at this;cases this;exact S.ex.keep a o z n
 refine ⟨S.im,λi p h=> ?_,S.dj,S.len,⟨λa o e n z=> ?_,λa h=> ?_,R.ps.new,?_,S.tb⟩,R.w0⟩
 ·obtain ⟨a,e1,e2,e3⟩:=S.mu i p h
  exact ⟨a,e1,n0 e2,nw e2,e3⟩
 ·exact kp a o (R.ps.keep a o e n z) n λw=>by have:=n0 w;rw [e] at this;cases this
 ·refine S.ex.dom a λw=>h (n0 w)
 ·refine ⟨λb hb=> ?_,R.ps.wr.dj⟩
  have:=R.ps.wr
  refine ((this.at_ b hb).kp λa o e n h=> ?_)
  rcases h with h|h
  ·exact kp a o e n λw=>nw w ⟨b,hb,h⟩
  ·cases z:G a with
   |some u=>have:=g2 a u z;rw [e] at this;cases this;exact S.ex.keep a o z n
   |none=>
    rcases g1 a z with z|z
    ·rw [e] at z;cases z
    ·exact absurd (z.2.2 o e) (by rw [h];simp)
end
abbrev XF:=Wd->Rho->Option (EX×Wd)
abbrev XA:=Wd->Rho->Option (Except Nat (List PV)×Wd)
section
variable (K:Frag) (tb:Hp->Prop) (cB:Addr) (cs:List Addr) (E:XK)
def XErr (W W':Wd) (H:Hp) (k:Nat):Prop:= ∀t H',Pst K tb cB W W' H H'->H' t=some (.tup [.str (msgP k)])->E (.ref (cs.getD k 0)) (some t) H'
def KX (t:TE) (f:XF):Prop:= ∀H0 W0 W H σ ρ r W' Q,TbS tb->EW K tb cB H0 W0 W H σ ρ->f W ρ=some (r,W')->
 (∀p,r= .ok p-> ∀v H',Pst K tb cB W W' H H'->RepN K H H' v p->noSc p=true->Q v H')->(∀k,r= .error k->XErr K tb cB cs E W W' H k)->t σ H Q
def KXF (t:TE) (f:XF):Prop:= ∀H0 W0 W H σ ρ r W' Q,TbS tb->EW K tb cB H0 W0 W H σ ρ->f W ρ=some (r,W')->
 (∀p,r= .ok p-> ∀v H',Pst K tb cB W W' H H'->Rep K H' v p->Q v H')->(∀k,r= .error k->XErr K tb cB cs E W W' H k)->t σ H Q
def KXA (t:TA) (f:XA):Prop:= ∀H0 W0 W H σ ρ r W' Q,TbS tb->EW K tb cB H0 W0 W H σ ρ->f W ρ=some (r,W')->
 (∀ps,r= .ok ps-> ∀vs H',Pst K tb cB W W' H H'->Reps K H' vs ps->Q vs H')->(∀k,r= .error k->XErr K tb cB cs E W W' H k)->t σ H Q
structure JX (X:Cx) (e:Expr) (t:TE) (f:XF):Prop where
 pe:PE X e t
 k:KX K tb cB cs E t f
structure JXF (X:Cx) (e:Expr) (t:TE) (f:XF):Prop where
 pe:PE X e t
 k:KXF K tb cB cs E t f
structure JXA (X:Cx) (es:List Expr) (t:TA) (f:XA):Prop where
 pe:PA X es t
 k:KXA K tb cB cs E t f
end
def xL (f:EF):XF:=λW ρ=>(f ρ).map λp=>(.ok p,W)
def xaN:XA:=λW _=>some (.ok [],W)
def xaC (f:XF) (g:XA):XA:=λW ρ=>(f W ρ).bind λr=>match r.1 with
 | .error k=>some (.error k,r.2)
 | .ok p=>(g r.2 ρ).map λs=>match s.1 with
  | .error k=>(.error k,s.2)
  | .ok ps=>(.ok (p::ps),s.2)
section
variable {X:Cx} {K:Frag} {tb:Hp->Prop} {cB:Addr} {cs:List Addr} {E:XK} {e a b c:Expr} {es:List Expr} {t ta tb' tc:TE} {f g h:EF} {pos p p2:Pos} {st:Stmt} {sts rest:List Stmt} {ts us:TS}
variable {H0 H H' H1 H2:Hp} {W0 W W' W1 W2:Wd} {σ σ':St} {ρ ρ':Rho}
theorem Pst.rfl' (R:EW K tb cB H0 W0 W H σ ρ) (x:Ex tb H H'):Pst K tb cB W W H H':=⟨λa o e n _=>x.keep a o e n,x.dom,λa h=>h,R.ps.wr.kp λa o e n _=>x.keep a o e n,x.tb R.ps.tb⟩
theorem Pst.trans (p:Pst K tb cB W W1 H H1) (q:Pst K tb cB W1 W2 H1 H2):Pst K tb cB W W2 H H2:=by
 exact ⟨λa o e n z=>q.keep a o (p.keep a o e n z) n λw=>z (p.new a w),λa h=>q.dom a (p.dom a h),λa h=>p.new a (q.new a h),q.wr,q.tb⟩
theorem Pst.nil (p:Pst K tb cB W W1 H H1) {a:Addr} (h:H1 a=none):H a=none:=by
 cases e:H a with
 |none=>rfl
 |some o=>exact absurd h (p.dom a (by rw [e];simp))
theorem XErr.tr {k:Nat} (p:Pst K tb cB W W1 H H1) (x:XErr K tb cB cs E W W2 H k):XErr K tb cB cs E W1 W2 H1 k:=λt H' q m=>x t H' (p.trans q) m
theorem jx_l (j:JO K tb X e t f):JX K tb cB cs E X e t (xL f):=⟨j.pe,λH0 W0 W H σ ρ r W' Q hb R h q _=>by
 unfold xL at h
 obtain ⟨p,h1,h2⟩:=oms h
 cases h2
 obtain ⟨G,_,g2,S⟩:=R.er
 exact j.k G H σ ρ p _ hb S h1 λv H' x n ns=>q p rfl v H' (.rfl' R x) n ns⟩
theorem jxf_l (j:JF K tb X e t f):JXF K tb cB cs E X e t (xL f):=⟨j.pe,λH0 W0 W H σ ρ r W' Q hb R h q _=>by
 unfold xL at h
 obtain ⟨p,h1,h2⟩:=oms h
 cases h2
 obtain ⟨G,_,g2,S⟩:=R.er
 exact j.k G H σ ρ p _ hb S h1 λv H' x n=>q p rfl v H' (.rfl' R x) n⟩
theorem Pst.frzN {a:Addr} {p:PV} (hb:TbS tb) (x:Pst K tb cB W W' H H') (hn:H a=none) (hw: ¬inW W' a) (r:RepU K H' a p) (f:frzAt H' a H2):Pst K tb cB W W' H H2:=by
 obtain ⟨u,hu,f1,f2,f3⟩:=r.mut
 obtain ⟨o,rfl,_⟩:=r.frz f
 have kp: ∀b w,H' b=some w->b≠a->(upd H' a o) b=some w:=λb w e n=>by rw [upd_ne n];exact e
 refine ⟨λb w e nt z=>kp b w (x.keep b w e nt z) (λz=>by subst z;rw [hn] at e;cases e),λb z=> ?_,x.new,?_,?_⟩
 ·rw [upd_ne (λy=>by subst y;exact z hn)];exact x.dom b z
 ·exact x.wr.kp λb w e n h=>kp b w e λz=>by
   subst z
   rcases h with h|h
   ·exact hw h
   ·rw [hu] at e;cases e;rw [f1] at h;cases h
 ·exact hb H' _ (λc u' e n=>kp c u' e λz=>by subst z;rw [hu] at e;cases e;rw [f2] at n;cases n) x.tb
theorem Pst.nw (R:EW K tb cB H0 W0 W H σ ρ) (x:Pst K tb cB W W' H H') {a:Addr} (hn:H a=none): ¬inW W' a:=λw=>by
 obtain ⟨o,ho,_⟩:=R.ps.wr.cell (x.new a w)
 rw [hn] at ho;cases ho
theorem JX.z {f:XF} (j:JX K tb cB cs E X e t f):JXF K tb cB cs E X e (tFz t) f:=⟨j.pe.fz,λH0 W0 W H σ ρ r W' Q hb R h q qe=>by
 refine j.k H0 W0 W H σ ρ r W' _ hb R h (λp er v H' x n ns=> ?_) qe
 cases n with
 |im n=>
  cases v with
  |ref a=>
   intro H2 z
   rw [n.noFrz ns z]
   exact q p er _ H' x n
  |_=>exact q p er _ H' x n
 |un e hn n=>
  subst e
  intro H2 z
  have x2:=x.frzN hb hn (x.nw R hn) n z
  obtain ⟨o,rfl,n2⟩:=n.frz z
  exact q p er _ _ x2 n2⟩
theorem jxa_n:JXA K tb cB cs E X [] tNil xaN:=⟨pa_nil,λH0 W0 W H σ ρ r W' Q hb R h q _=>by
 cases h
 exact q [] rfl [] H (.rfl' R Ex.refl) .nil⟩
theorem jxa_c {tr:TA} {f:XF} {g:XA} (ha:JXF K tb cB cs E X e t f) (hr:JXA K tb cB cs E X es tr g) (hs:starEach (e::es) X.env=(false,eval e X.env)::starEach es X.env:=by rfl):JXA K tb cB cs E X (e::es) (tCons t tr) (xaC f g):=⟨pa_cons ha.pe hr.pe hs,λH0 W0 W H σ ρ r W' Q hb R h q qe=>by
 unfold xaC at h
 obtain ⟨⟨r1,W1⟩,h1,h⟩:=obs h
 dsimp only at h
 cases r1 with
 |error k=>
  cases h
  refine ha.k H0 W0 W H σ ρ _ _ _ hb R h1 (λp e=>by cases e) λk' e=> ?_
  cases e
  exact qe k rfl
 |ok p=>
  obtain ⟨⟨s1,W2⟩,h2,h3⟩:=oms h
  refine ha.k H0 W0 W H σ ρ _ _ _ hb R h1 (λp' e v H1 x1 r1=> ?_) λk' e=>by cases e
  cases e
  have R1:=R.post x1
  refine hr.k H0 W0 W1 H1 σ ρ s1 W2 _ hb R1 h2 (λps e vs H2 x2 r2=> ?_) λk e=> ?_
  ·subst e
   cases h3
   exact q _ rfl _ H2 (x1.trans x2) (.cons (r1.fz (x2.fz R1.ps.wr)) r2)
  ·subst e
   cases h3
   exact (qe k rfl).tr x1⟩
noncomputable def xaL (g:EA):XA:=λW ρ=>(g ρ).map λps=>(.ok ps,W)
theorem jxa_l {tr:TA} {g:EA} (j:JA K tb X es tr g):JXA K tb cB cs E X es tr (xaL g):=⟨j.pe,λH0 W0 W H σ ρ r W' Q hb R h q _=>by
 unfold xaL at h
 obtain ⟨ps,h1,h2⟩:=oms h
 cases h2
 obtain ⟨G,_,g2,S⟩:=R.er
 exact j.k G H σ ρ ps _ hb S h1 λvs H' x n=>q ps rfl vs H' (.rfl' R x) n⟩
def xMap (o:List PV->Option PV) (f:XA):XF:=λW ρ=>(f W ρ).bind λr=>match r.1 with
 | .error k=>some (.error k,r.2)
 | .ok ps=>(o ps).map λp=>(.ok p,r.2)
theorem Pst.ex {H2:Hp} (x:Pst K tb cB W W' H H') (y:Ex tb H' H2):Pst K tb cB W W' H H2:=⟨λa o e n z=>y.keep a o (x.keep a o e n z) n,λa h=>y.dom a (x.dom a h),x.new,x.wr.kp λa o e n _=>y.keep a o e n,y.tb x.tb⟩
theorem jx_callP {m:List PV->Option PV} {tA:TA} {fA:XA} (hp:PA X es tA->PE X e (tCall (spP K tb m) [] E0 tA)) (ha:JXA K tb cB cs E X es tA fA):JX K tb cB cs E X e (tCall (spP K tb m) [] E0 tA) (xMap m fA):=⟨hp ha.pe,λH0 W0 W H σ ρ r W' Q hb R h q qe=>by
 unfold xMap at h
 obtain ⟨⟨r1,W1⟩,h1,h⟩:=obs h
 dsimp only at h
 cases r1 with
 |error k=>cases h;exact ha.k H0 W0 W H σ ρ _ _ _ hb R h1 (λp e=>by cases e) λk' e=>by cases e;exact qe k rfl
 |ok ps=>
  obtain ⟨p,h2,h3⟩:=oms h
  cases h3
  refine ha.k H0 W0 W H σ ρ _ _ _ hb R h1 (λps' e vs H1 x1 r1=> ?_) λk' e=>by cases e
  cases e
  show spP K tb m (vs++ []) H1 _ E0
  rw [List.append_nil]
  exact ⟨ps,p,r1,x1.tb,h2,λv H2 x2 n ns=>q _ rfl v H2 (x1.ex x2) (by
   cases n with
   |im n=>exact .im n
   |un e hn n=>exact .un e (x1.nil hn) n) ns⟩⟩
def spX (K:Frag) (tb:Hp->Prop) (cB:Addr) (cs:List Addr) (m:Wd->List PV->Option (EX×Wd)):Sp:=λvs H Q E=> ∃W ps r W',WRep K cB H W/\Reps K H vs ps/\tb H/\m W ps=some (r,W')/\
 (∀p,r= .ok p-> ∀v H',Pst K tb cB W W' H H'->RepN K H H' v p->noSc p=true->Q v H')/\(∀k,r= .error k->XErr K tb cB cs E W W' H k)
def xCl (m:Wd->List PV->Option (EX×Wd)) (f:XA):XF:=λW ρ=>(f W ρ).bind λr=>match r.1 with
 | .error k=>some (.error k,r.2)
 | .ok ps=>m r.2 ps
theorem RepN.pst {v:V} {p:PV} (x:Pst K tb cB W W' H H1) (n:RepN K H1 H2 v p):RepN K H H2 v p:=by
 cases n with
 |im n=>exact .im n
 |un e hn n=>exact .un e (x.nil hn) n
theorem kx_call {m:Wd->List PV->Option (EX×Wd)} {tA:TA} {fA:XA} (ha:KXA K tb cB cs E tA fA):KX K tb cB cs E (tCall (spX K tb cB cs m) [] E tA) (xCl m fA):=λH0 W0 W H σ ρ r W' Q hb R h q qe=>by
 unfold xCl at h
 obtain ⟨⟨r1,W1⟩,h1,h⟩:=obs h
 dsimp only at h
 cases r1 with
 |error k=>cases h;exact ha H0 W0 W H σ ρ _ _ _ hb R h1 (λp e=>by cases e) λk' e=>by cases e;exact qe k rfl
 |ok ps=>
  refine ha H0 W0 W H σ ρ _ _ _ hb R h1 (λps' e vs H1 x1 r1=> ?_) λk' e=>by cases e
  cases e
  show spX K tb cB cs m (vs++ []) H1 Q E
  rw [List.append_nil]
  exact ⟨W1,ps,r,W',x1.wr,r1,x1.tb,h,λp e v H2 x2 n ns=>q p e v H2 (x1.trans x2) (n.pst x1) ns,λk e=>(qe k e).tr x1⟩
theorem jx_call {m:Wd->List PV->Option (EX×Wd)} {tA:TA} {fA:XA} (hp:PA X es tA->PE X e (tCall (spX K tb cB cs m) [] E tA)) (ha:JXA K tb cB cs E X es tA fA):JX K tb cB cs E X e (tCall (spX K tb cB cs m) [] E tA) (xCl m fA):=⟨hp ha.pe,kx_call ha.k⟩
noncomputable def xMt (m:Wd->List PV->Option (EX×Wd)) (dps:List PV) (o:EF) (f:XA):XF:=λW ρ=>(o ρ).bind λb=>match b with
 | .ob a=>if W.any (λs=>s.A.b==a)=true then (f W ρ).bind λr=>match r.1 with
  | .error k=>some (.error k,r.2)
  | .ok ps=>m r.2 (.ob a::(ps++dps))
  else none
 |_=>none
theorem jx_meth {m:Wd->List PV->Option (EX×Wd)} {dvs:List V} {dps:List PV} {nm:Str} {tA:TA} {fA:XA} {to:TE} {fo:EF} {o:Expr} (hp:PE X o to->PA X es tA->PE X e (tMeth cB nm (spX K tb cB cs m) dvs E to tA)) (ho:JF K tb X o to fo) (ha:JXA K tb cB cs E X es tA fA)
  (hd: ∀H,Reps K H dvs dps) (hn:nm∉(["people","court","speakers","rows","came","went","done"]:List Str)):JX K tb cB cs E X e (tMeth cB nm (spX K tb cB cs m) dvs E to tA) (xMt m dps fo fA):=⟨hp ho.pe ha.pe,λH0 W0 W H σ ρ r W' Q hb R h q qe=>by
 unfold xMt at h
 obtain ⟨b,h0,h⟩:=obs h
 split at h
 next a=>
  split at h
  next hw=>
   obtain ⟨G,_,g2,S⟩:=R.er
   refine ho.k G H σ ρ _ _ hb S h0 λx H1 x1 rx=> ?_
   have p1:Pst K tb cB W W H H1:= .rfl' R x1
   have R1:=R.post p1
   obtain ⟨s,hs,es'⟩:=List.any_eq_true.mp hw
   have es':s.A.b=a:=by simpa using es'
   cases rx
   obtain ⟨⟨dx,hob⟩,_⟩:=R1.ps.wr.at_ s hs
   rw [es'] at hob
   obtain ⟨⟨r1,W1⟩,h1,h⟩:=obs h
   dsimp only at h
   refine ⟨a,dx,_,rfl,hob,fl_no hn,?_⟩
   cases r1 with
   |error k=>cases h;exact ha.k H0 W0 W H1 σ ρ _ _ _ hb R1 h1 (λp e=>by cases e) λk' e=>by cases e;exact (qe k rfl).tr p1
   |ok ps=>
    refine ha.k H0 W0 W H1 σ ρ _ _ _ hb R1 h1 (λps' e vs H2 x2 r2=> ?_) λk' e=>by cases e
    cases e
    have p2:=p1.trans x2
    exact ⟨W1,_,r,W',x2.wr,.cons (.ob a) (r2.app (hd H2)),x2.tb,h,λp e v H3 x3 n ns=>q p e v H3 (p2.trans x3) (n.pst p2) ns,λk e=>(qe k e).tr p2⟩
  next=>cases h
 next=>cases h⟩
inductive FlX where
 |nx (ρ:Rho) (W:Wd)|rt (p:PV) (W:Wd)|bk (ρ:Rho) (W:Wd)|ct (ρ:Rho) (W:Wd)|ex (k:Nat) (W:Wd)
abbrev SX:=Wd->Rho->Option FlX
def FinX (K:Frag) (tb:Hp->Prop) (cB:Addr) (cs:List Addr) (E:XK) (H0:Hp) (W0:Wd) (H:Hp) (D:Ends):FlX->Prop
 | .nx ρ W=> ∀σ' H',Fz H H'->EW K tb cB H0 W0 W H' σ' ρ->D.nx σ' H'
 | .rt p W=> ∀v H',Pst K tb cB W0 W H0 H'->RepN K H0 H' v p->noSc p=true->D.rt v H'
 | .bk ρ W=> ∀σ' H',Fz H H'->EW K tb cB H0 W0 W H' σ' ρ->D.bk σ' H'
 | .ct ρ W=> ∀σ' H',Fz H H'->EW K tb cB H0 W0 W H' σ' ρ->D.ct σ' H'
 | .ex k W=>XErr K tb cB cs E W0 W H0 k
theorem FinX.fz {D:Ends} {fl:FlX} (f:Fz H H') (x:FinX K tb cB cs E H0 W0 H D fl):FinX K tb cB cs E H0 W0 H' D fl:=by
 cases fl with
 |nx ρ W=>exact λσ H2 g r=>x σ H2 (f.trans g) r
 |rt p W=>exact x
 |bk ρ W=>exact λσ H2 g r=>x σ H2 (f.trans g) r
 |ct ρ W=>exact λσ H2 g r=>x σ H2 (f.trans g) r
 |ex k W=>exact x
def KSX (K:Frag) (tb:Hp->Prop) (cB:Addr) (cs:List Addr) (E:XK) (t:TS) (f:SX):Prop:= ∀H0 W0 W H σ ρ fl D,TbS tb->EW K tb cB H0 W0 W H σ ρ->f W ρ=some fl->FinX K tb cB cs E H0 W0 H D fl->t D σ H
structure JSX (K:Frag) (tb:Hp->Prop) (cB:Addr) (cs:List Addr) (E:XK) (X:Cx) (st:Stmt) (t:TS) (f:SX):Prop where
 pe:PS X st t
 k:KSX K tb cB cs E t f
structure JSXs (K:Frag) (tb:Hp->Prop) (cB:Addr) (cs:List Addr) (E:XK) (X:Cx) (st:List Stmt) (t:TS) (f:SX):Prop where
 pe:PSs X st t
 k:KSX K tb cB cs E t f
def flX (W:Wd):Fl->FlX
 | .nx ρ=> .nx ρ W
 | .rt p=> .rt p W
 | .bk ρ=> .bk ρ W
 | .ct ρ=> .ct ρ W
noncomputable def sxL (f:SF):SX:=λW ρ=>(f ρ).map (flX W)
theorem EW.pst (R:EW K tb cB H0 W0 W H σ ρ) {H2:Hp} (q:Pst K tb cB W W' H H2):Pst K tb cB W0 W' H0 H2:=(R.post q).ps
theorem jsx_l {f:SF} (j:JS K tb X st ts f):JSX K tb cB cs E X st ts (sxL f):=⟨j.pe,λH0 W0 W H σ ρ fl D hb R h q=>by
 unfold sxL at h
 obtain ⟨fl1,h1,rfl⟩:=oms h
 obtain ⟨G,g1,g2,S⟩:=R.er
 refine j.k G H σ ρ fl1 D hb S h1 ?_
 cases fl1 with
 |nx ρ'=>exact λσ' H' f S'=>q σ' H' f (R.back g1 g2 S')
 |bk ρ'=>exact λσ' H' f S'=>q σ' H' f (R.back g1 g2 S')
 |ct ρ'=>exact λσ' H' f S'=>q σ' H' f (R.back g1 g2 S')
 |rt p=>
   intro v H' x ht n ns
   have S':ER K tb G H' [] []:=⟨λi p e=>by simp at e,λi p e=>by simp at e,λi j a p q n e=>by simp at e,x,ht,rfl⟩
   have R':=R.back g1 g2 S'
   refine q v H' R'.ps (by
    cases n with
    |im n=>exact .im n
    |un e hn n=>
     refine .un e ?_ n
     rcases g1 _ hn with z|z
     ·cases e0:H0 _ with
      |none=>rfl
      |some o=>exact absurd z (R.ps.dom _ (by rw [e0];simp))
     ·exact z.1) ns⟩
noncomputable def sxSeq (f g:SX):SX:=λW ρ=>(f W ρ).bind λfl=>match fl with
 | .nx ρ' W'=>g W' ρ'
 |o=>some o
def sxNil:SX:=λW ρ=>some (.nx ρ W)
theorem jsxs_nil:JSXs K tb cB cs E X [] tNext sxNil:=⟨pss_nil,λH0 W0 W H σ ρ fl D hb R h q=>by cases h;exact q σ H Fz.refl R⟩
theorem jsxs_one {f:SX} (j:JSX K tb cB cs E X st ts f):JSXs K tb cB cs E X [st] ts f:=⟨pss_one j.pe,j.k⟩
theorem jsxs_cons {f g:SX} (j:JSX K tb cB cs E X st ts f) (k:JSXs K tb cB cs E X rest us g):JSXs K tb cB cs E X (st::rest) (tSeq ts us) (sxSeq f g):=⟨pss_cons j.pe k.pe,λH0 W0 W H σ ρ fl D hb R h q=>by
 unfold sxSeq at h
 obtain ⟨fl1,h1,h⟩:=obs h
 refine j.k H0 W0 W H σ ρ fl1 {D with nx:=us D} hb R h1 ?_
 cases fl1 with
 |nx ρ' W'=>exact λσ' H' f R'=>k.k H0 W0 W' H' σ' ρ' fl D hb R' h (q.fz f)
 |rt p W'=>cases h;exact q
 |bk ρ' W'=>cases h;exact q
 |ct ρ' W'=>cases h;exact q
 |ex k W'=>cases h;exact q⟩
def sxIf (c:ET) (f g:SX):SX:=λW ρ=>(c ρ).bind λk=>if k=true then f W ρ else g W ρ
theorem jsx_if {c:Expr} {as bs:List Stmt} {tc:TT} {fc:ET} {f g:SX} (hc:JT K tb X c tc fc) (ha:JSXs K tb cB cs E X as ts f) (hb:JSXs K tb cB cs E X bs us g):JSX K tb cB cs E X (.If c as bs pos) (tIfS tc ts us) (sxIf fc f g):=⟨ps_if hc.pe ha.pe hb.pe,λH0 W0 W H σ ρ fl D hb' R h q=>by
 unfold sxIf at h
 obtain ⟨k,h1,h⟩:=obs h
 obtain ⟨G,g1,g2,S⟩:=R.er
 refine hc.k G H σ ρ k _ hb' S h1 λH1 x1=> ?_
 cases k with
 |true=>exact iteT (ha.k H0 W0 W H1 σ ρ fl D hb' (R.go x1) h (q.fz x1.fz))
 |false=>exact iteF (hb.k H0 W0 W H1 σ ρ fl D hb' (R.go x1) h (q.fz x1.fz))⟩
def sxRet (f:XF):SX:=λW ρ=>(f W ρ).map λr=>match r.1 with
 | .error k=> .ex k r.2
 | .ok p=> .rt p r.2
theorem jsx_ret {f:XF} (j:JX K tb cB cs E X e t f):JSX K tb cB cs E X (.Return (some e) pos) (tRet t) (sxRet f):=⟨ps_ret j.pe,λH0 W0 W H σ ρ fl D hb R h q=>by
 unfold sxRet at h
 obtain ⟨⟨r,W1⟩,h1,rfl⟩:=oms h
 refine j.k H0 W0 W H σ ρ r W1 _ hb R h1 (λp e v H1 x1 n ns=> ?_) λk e=> ?_
 ·subst e
  exact q v H1 (R.pst x1) (n.pst R.ps) ns
 ·subst e
  exact λt H' x m=>q t H' (R.pst x) m⟩
def sxAsg (i:Nat) (f:XF):SX:=λW ρ=>(f W ρ).map λr=>match r.1 with
 | .error k=> .ex k r.2
 | .ok p=> .nx (ρ.set i (some (.f p))) r.2
theorem EW.setF {v:V} {p:PV} (R:EW K tb cB H0 W0 W H σ ρ) {i:Nat} (r:Rep K H v p):EW K tb cB H0 W0 W H (σ.set i (some v)) (ρ.set i (some (.f p))):=by
 obtain ⟨G,g1,g2,S⟩:=R.er
 exact R.back g1 g2 (S.setF r)
theorem jsx_asg {i:Nat} {f:XF} (hp:PE X e (tFz t)->PS X st (tAsg (tFz t) (gName i))) (j:JX K tb cB cs E X e t f):JSX K tb cB cs E X st (tAsg (tFz t) (gName i)) (sxAsg i f):=⟨hp j.pe.fz,λH0 W0 W H σ ρ fl D hb R h q=>by
 unfold sxAsg at h
 obtain ⟨⟨r,W1⟩,h1,rfl⟩:=oms h
 refine j.z.k H0 W0 W H σ ρ r W1 _ hb R h1 (λp e v H1 x1 n=> ?_) λk e=> ?_
 ·subst e
  exact q _ H1 (x1.fz R.ps.wr) ((R.post x1).setF n)
 ·subst e
  exact λt H' x m=>q t H' (R.pst x) m⟩
def sxDo (f:XF):SX:=λW ρ=>(f W ρ).map λr=>match r.1 with
 | .error k=> .ex k r.2
 | .ok _=> .nx ρ r.2
theorem jsx_do {f:XF} (j:JX K tb cB cs E X e t f) (hs:swapsWith e none pos.line X.env=pure false:=by rfl):JSX K tb cB cs E X (.Expr e pos) (tDrop t) (sxDo f):=⟨ps_expr j.pe hs,λH0 W0 W H σ ρ fl D hb R h q=>by
 unfold sxDo at h
 obtain ⟨⟨r,W1⟩,h1,rfl⟩:=oms h
 refine j.k H0 W0 W H σ ρ r W1 _ hb R h1 (λp e v H1 x1 n _=> ?_) λk e=> ?_
 ·subst e
  exact q σ H1 (x1.fz R.ps.wr) (R.post x1)
 ·subst e
  exact λt H' x m=>q t H' (R.pst x) m⟩
def loopX (g:FG) (body:SX):List PV->Wd->Rho->Option FlX
 | [],W,ρ=>some (.nx ρ W)
 |x::xs,W,ρ=>(g x ρ).bind λρ1=>(body W ρ1).bind λfl=>match fl with
  | .nx ρ2 W2=>loopX g body xs W2 ρ2
  | .ct ρ2 W2=>loopX g body xs W2 ρ2
  | .bk ρ2 W2=>some (.nx ρ2 W2)
  | .rt p W2=>some (.rt p W2)
  | .ex k W2=>some (.ex k W2)
def sxFor (it:EA) (g:FG) (body:SX):SX:=λW ρ=>(it ρ).bind λxs=>loopX g body xs W ρ
theorem jsx_for {k:Nat} {iter tg:Expr} {body:List Stmt} {wi:TI} {g:TG} {tbd:TS} {fi:EA} {fg:FG} {fb:SX} (hp:PassesOwn (model X.prog X.w) X.A X.env X.xe) (hc:X.calm=true) (hi:JI K tb X tg iter wi fi) (hg:JG K tb k X tg g fg) (hbd:JSXs K tb cB cs E X body tbd fb)
  (hs: ∀x,foldedSetIterable iter X.env x=pure x:=by intro _;rfl):JSX K tb cB cs E X (.For tg iter body [] pos) (tFor wi g tbd) (sxFor fi fg fb):=⟨ps_for hp hc hi.pe hg.pe hbd.pe hs,λH0 W0 W H σ ρ fl D hb R h q=>by
 unfold sxFor at h
 obtain ⟨xs,h1,h⟩:=obs h
 obtain ⟨G,g1,g2,S⟩:=R.er
 refine hi.k G H σ ρ xs _ hb S h1 λJ H1 x1 ok=> ?_
 refine ⟨λi m σ' H'=>m=xs.length - i/\i<=xs.length/\Fz H1 H'/\ ∃W' ρ',EW K tb cB H0 W0 W' H' σ' ρ'/\loopX fg fb (xs.drop i) W' ρ'=some fl,⟨xs.length,by simp,Nat.zero_le _,Fz.refl,W,ρ,R.go x1,h⟩,?_⟩
 rintro i m σ' H' ⟨rfl,hi,fz,W',ρ',R',hl⟩
 obtain ⟨go,stop⟩:=ok H' fz
 by_cases hlt:i<xs.length
 ·obtain ⟨g1',g2'⟩:=go i hlt
  refine .inr ⟨g1',λσ2 H2=>i+1<=xs.length/\Fz H1 H2/\ ∃W' ρ',EW K tb cB H0 W0 W' H2 σ2 ρ'/\loopX fg fb (xs.drop (i+1)) W' ρ'=some fl,λσ2 H2 z=>⟨xs.length - (i+1),by omega,rfl,z⟩,λx H2 y=> ?_⟩
  obtain ⟨sm,p,ep,rp⟩:=g2' x H2 y
  have x2:=Ex.same (tb:=tb) hb sm
  rw [List.getElem?_eq_getElem hlt] at ep
  cases ep
  rw [List.drop_eq_getElem_cons hlt] at hl
  unfold loopX at hl
  obtain ⟨ρ1,t1,hl⟩:=obs hl
  obtain ⟨fl1,t2,hl⟩:=obs hl
  have R2:=R'.go x2
  obtain ⟨G2,u1,u2,S2⟩:=R2.er
  refine hg.k G2 H2 σ' ρ' ρ1 x _ _ S2 rp t1 λσ3 S3 _ _=>hbd.k H0 W0 W' H2 σ3 ρ1 fl1 _ hb (R2.back u1 u2 S3) t2 ?_
  have fz2:=fz.trans x2.fz
  cases fl1 with
  |nx ρ2 W2=>exact λσ4 H4 f4 R4=>⟨hlt,fz2.trans f4,W2,ρ2,R4,hl⟩
  |ct ρ2 W2=>exact λσ4 H4 f4 R4=>⟨hlt,fz2.trans f4,W2,ρ2,R4,hl⟩
  |bk ρ2 W2=>cases hl;exact λσ4 H4 f4 R4=>q σ4 H4 (x1.fz.trans (fz2.trans f4)) R4
  |rt p W2=>cases hl;exact q
  |ex k W2=>cases hl;exact q
 ·have e:i=xs.length:=by omega
  subst e
  rw [List.drop_length] at hl
  cases hl
  exact .inl ⟨stop,q σ' H' (x1.fz.trans fz) R'⟩⟩
end
section
variable {K:Frag} {tb:Hp->Prop} {cB:Addr} {cs:List Addr}
def tPz0 (a:Addr) (t:TS):TS:=λD σ H=> ∀H2,frzAt H a H2->t D σ H2
theorem PSs.pz0 {X:Cx} {sts:List Stmt} {t:TS} (a:Addr) (h:PSs X sts t):PSs X sts (tPz0 a t):=by
 intro pins s σ H D I q
 obtain ⟨H2,f,I2⟩:=I.frzAt a
 exact h pins s σ H2 D I2 (q H2 f)
theorem ew_start {H:Hp} {W:Wd} {N:List Str} {vs:List V} {ps:List PV} (w:WRep K cB H W) (r:Reps K H vs ps) (ht:tb H):EW K tb cB H W W H (start N vs) (rho0 N.length ps):=by
 have S:=er_start (N:=N) r ht
 have nm: ∀ {i:Nat} {p:PV},(rho0 N.length ps)[i]? ≠some (some (.m p)):=λ{i p} h=>by
  obtain ⟨a,_,n,u⟩:=S.mu i p h
  obtain ⟨o,e,_⟩:=u.mut
  rw [n] at e;cases e
 exact ⟨S.im,λi p h=>absurd h nm,λi j a p q _ h _ _=>absurd h nm,S.len,⟨λ_ _ e _ _=>e,λ_ h=>h,λ_ h=>h,w,ht⟩,w⟩
noncomputable def mkMX (N n:Nat) (g:SX):Wd->List PV->Option (EX×Wd):=λW ps=>if ps.length=n then match g W (rho0 N ps) with
 |some (.rt p W')=>some (.ok p,W')
 |some (.nx _ W')=>some (.ok .non,W')
 |some (.ex k W')=>some (.error k,W')
 |_=>none
 else none
noncomputable def mkMN (N n:Nat) (g:SX):Wd->List PV->Option (EX×Wd):=λW ps=>if ps.length=n then match g W (rho0 N ps) with
 |some (.rt p W')=>some (.ok p,W')
 |some (.nx _ W')=>some (.ok .non,W')
 |_=>none
 else none
variable {P:Program} {w:World} {mg:Str->Option Value} {base:Heap} {x qual:Str} {st:Stmt} {f:Addr} {fd:FuncData} {dV:Value} {N ps:List Str} {k:Nat}
theorem kfnX (F:FunD K x qual st f fd dV) (S:FnScope N ps (defScope st)) (hb:TbS tb) (g:SX)
  (j: ∀(cdv:Value) (A:Around) (outer:List Env) (s:Shared) (H:Hp) (E:XK),Room k (A.deeper (envOfC qual (defScope st) s.heap.objs.size f cdv))->
   ∃t,JSXs K tb cB cs E (cxOf (CX1 P w) P w K mg base N qual (defScope st) f cdv A outer s H E) (defBody st) t g):FnOk P w K mg base (CX1 P w) (k+1) f fd ps (spX K tb cB cs (mkMX N.length ps.length g)):=by
 refine F.okX S (λvs H Q E h=> ?_) (λcdv A outer s H vs Q E hr h=> ?_)
 ·obtain ⟨W,qs,r,W',_,h1,_,h2,_⟩:=h
  unfold mkMX at h2
  split at h2
  next e=>rw [h1.length];exact e
  next=>cases h2
 ·obtain ⟨W,qs,r,W',wr,h1,ht,h2,q,qe⟩:=h
  obtain ⟨t,hj⟩:=j cdv A outer s H E hr
  refine ⟨t,hj.pe,?_⟩
  unfold mkMX at h2
  split at h2
  ·split at h2
   next p W' e=>cases h2;exact hj.k H W W H _ _ _ _ hb (ew_start wr h1 ht) e λv H' x n ns=>q p rfl v H' x n ns
   next ρ W' e=>cases h2;exact hj.k H W W H _ _ _ _ hb (ew_start wr h1 ht) e λσ' H' _ R=>q _ rfl _ H' R.ps (.im .non) rfl
   next k W' e=>cases h2;exact hj.k H W W H _ _ _ _ hb (ew_start wr h1 ht) e (qe k rfl)
   next=>cases h2
  ·cases h2
theorem kfnN (F:FunD K x qual st f fd dV) (S:FnScope N ps (defScope st)) (hb:TbS tb) (g:SX)
  (j: ∀(cdv:Value) (A:Around) (outer:List Env) (s:Shared) (H:Hp) (E:XK),Room k (A.deeper (envOfC qual (defScope st) s.heap.objs.size f cdv))->
   ∃t,JSXs K tb cB cs E0 (cxOf CX0 P w K mg base N qual (defScope st) f cdv A outer s H E).nox (defBody st) t g):FnOk P w K mg base CX0 (k+1) f fd ps (spX K tb cB cs (mkMN N.length ps.length g)):=by
 refine F.ok S (λvs H Q E h=> ?_) (λcdv A outer s H vs Q E hr h=> ?_)
 ·obtain ⟨W,qs,r,W',_,h1,_,h2,_⟩:=h
  unfold mkMN at h2
  split at h2
  next e=>rw [h1.length];exact e
  next=>cases h2
 ·obtain ⟨W,qs,r,W',wr,h1,ht,h2,q,qe⟩:=h
  obtain ⟨t,hj⟩:=j cdv A outer s H E hr
  refine ⟨t,hj.pe,?_⟩
  unfold mkMN at h2
  split at h2
  ·split at h2
   next p W' e=>cases h2;exact hj.k H W W H _ _ _ _ hb (ew_start wr h1 ht) e λv H' x n ns=>q p rfl v H' x n ns
   next ρ W' e=>cases h2;exact hj.k H W W H _ _ _ _ hb (ew_start wr h1 ht) e λσ' H' _ R=>q _ rfl _ H' R.ps (.im .non) rfl
   next=>cases h2
  ·cases h2
def KSL (K:Frag) (tb:Hp->Prop) (cB:Addr) (t:TS) (g:BkA->SX):Prop:= ∀H0 H σ ρ D,TbS tb->EW K tb cB H0 [] [] H σ ρ->(∀A,∃W',g A [] ρ=some (.rt (.bl true) W'))->(∀H',D.rt (.bl true) H')->t D σ H
theorem no_book {W:Wd} (h: ∀a,inW W a->inW [] a):W= []:=by
 cases W with
 |nil=>rfl
 |cons b W=>
  obtain ⟨c,hc,_⟩:=h b.A.b ⟨b,List.mem_cons_self,by simp [BkA.mu]⟩
  cases hc
def lSeq (f:SX) (g:BkA->SX):BkA->SX:=λA=>sxSeq f (g A)
theorem ksl_seq {t u:TS} {f:SX} {g:BkA->SX} (h:KSX K tb cB cs E0 t f) (k:KSL K tb cB u g):KSL K tb cB (tSeq t u) (lSeq f g):=λH0 H σ ρ D hb R hg q=>by
 obtain ⟨W',e⟩:=hg ⟨0,0,0,0,0,0,0⟩
 have e:sxSeq f (g _) [] ρ=_:=e
 unfold sxSeq at e
 obtain ⟨fl,h1,h2⟩:=obs e
 refine h H0 [] [] H σ ρ fl {D with nx:=u D} hb R h1 ?_
 cases fl with
 |nx ρ1 W1=>
  intro σ' H' _ R'
  have w1:=no_book R'.ps.new
  subst w1
  refine k H0 H' σ' ρ1 D hb R' (λA=> ?_) q
  obtain ⟨W2,e2⟩:=hg A
  have e2:sxSeq f (g A) [] ρ=_:=e2
  unfold sxSeq at e2
  rw [h1] at e2
  exact ⟨W2,e2⟩
 |rt p W1=>cases h2;exact λv H' _ n _=>by rw [n.t.bl];exact q H'
 |bk ρ1 W1=>cases h2
 |ct ρ1 W1=>cases h2
 |ex k W1=>cases h2
def spMk (K:Frag) (cB:Addr):Sp:=λvs H Q _=> ∃b dx as ps a c s,vs= .ref b::as/\ps= [.lst a,.lst c,.lst s]/\H b=some (.ins cB dx [])/\Reps K H as ps/\
 ∀(A:BkA) H',A.b=b->BkP K cB H' ⟨A,a,c,s,[],[],[],0⟩->(∀x∈A.mu,x≠b->H x=none)->(∀x o,H x=some o->x≠b->H' x=some o)->Q .non H'
def mkB (A:BkA):List PV->Option Bst
 | [.lst a,.lst c,.lst s]=>some ⟨A,a,c,s,[],[],[],0⟩
 |_=>none
def sMk (i:Nat) (f:EA) (g:SX):BkA->SX:=λA _ ρ=>(f ρ).bind λps=>(mkB A ps).bind λb=>g [b] (ρ.set i (some (.f (.ob A.b))))
theorem ksl_make {i:Nat} {tA:TA} {fA:EA} {us:TS} {g:SX} (ha:KA K tb tA fA) (k:KSX K tb cB cs E0 us g):KSL K tb cB (tSeq (tAsg (tMake cB (spMk K cB) [] E0 tA) (gName i)) us) (sMk i fA g):=λH0 H σ ρ D hb R hg q=>by
 have gA: ∀A,∃ps b W',fA ρ=some ps/\mkB A ps=some b/\g [b] (ρ.set i (some (.f (.ob A.b))))=some (.rt (.bl true) W'):=λA=>by
  obtain ⟨W',e⟩:=hg A
  unfold sMk at e
  obtain ⟨ps,h1,e⟩:=obs e
  obtain ⟨b,h2,e⟩:=obs e
  exact ⟨ps,b,W',h1,h2,e⟩
 obtain ⟨ps,b0,_,h1,h2,_⟩:=gA ⟨0,0,0,0,0,0,0⟩
 obtain ⟨G,g1,g2,S⟩:=R.er
 refine ha G H σ ρ ps _ hb S h1 λvs H1 x1 r1=> ?_
 intro x dx hx hdx hne
 unfold mkB at h2
 split at h2
 next a c s=>
  have up: ∀ {y:Addr} {o:HO},H1 y=some o->upd (upd H1 dx (.own x)) x (.ins cB dx []) y=some o:=λ{y o} e=>by
   rw [upd_ne (ne_of_none e hx),upd_ne (ne_of_none e hdx)];exact e
  have fzU:Fz H1 (upd (upd H1 dx (.own x)) x (.ins cB dx [])):=λy o e _=>up e
  show spMk K cB (.ref x::(vs++ [])) _ _ _
  rw [List.append_nil]
  refine ⟨x,dx,vs,_,a,c,s,rfl,rfl,upd_same,r1.fz fzU,λA H' eA B nw kp=>⟨rfl,?_⟩⟩
  obtain ⟨ps',b',W2,j1,j2,j3⟩:=gA A
  rw [h1] at j1
  cases j1
  cases j2
  have old: ∀ {y:Addr} {o:HO},H1 y=some o->H' y=some o:=λ{y o} e=>kp y o (up e) (ne_of_none e hx)
  have fz':Fz H1 H':=λy o e _=>old e
  have outA: ∀ {y:Addr} {o:HO},H1 y=some o->y∉A.mu:=λ{y o} e z=>by
   by_cases w:y=A.b
   ·rw [w,eA,hx] at e;cases e
   ·have:=nw y z (by rw [<-eA];exact w)
    rw [up e] at this;cases this
  have R1:=R.go x1
  classical
  let own:Addr->Prop:=λa=> ∃(i:Nat) (p:PV),ρ[i]? =some (some (SV.m p))/\σ[i]? =some (some (V.ref a))
  have RN:EW K tb cB (λa=>if own a then none else H' a) [⟨A,a,c,s,[],[],[],0⟩] [⟨A,a,c,s,[],[],[],0⟩] H' σ ρ:=by
   have inA: ∀ {y},inW [(⟨A,a,c,s,[],[],[],0⟩:Bst)] y->y∈A.mu:=λ{y} ⟨b,hb,hy⟩=>by
    rcases List.mem_singleton.mp hb with rfl
    exact hy
   have wr:WRep K cB H' [⟨A,a,c,s,[],[],[],0⟩]:=⟨λb hb=>by rcases List.mem_singleton.mp hb with rfl;exact B,List.pairwise_singleton ..⟩
   have ownB: ∀ {y},own y->y∉A.mu:=λ{y} ⟨i,p,h1,h2⟩=>by
    obtain ⟨a,q1,_,_,q4⟩:=R1.mu i p h1
    rw [h2] at q1;cases q1
    obtain ⟨u,hu,_⟩:=q4.mut
    exact outA hu
   refine ⟨λi p h=> ?_,λi p h=> ?_,R1.dj,R1.len,⟨λa o e n z=> ?_,λa h z=> ?_,λ_ h=>h,wr,?_⟩,⟨λb hb=> ?_,List.pairwise_singleton ..⟩⟩
   ·obtain ⟨v,q1,q2⟩:=R1.im i p h;exact ⟨v,q1,q2.fz fz'⟩
   ·obtain ⟨a,q1,q2,q3,q4⟩:=R1.mu i p h
    obtain ⟨u,hu,_⟩:=q4.mut
    refine ⟨a,q1,if_pos ⟨i,p,h,q1⟩,λz=>outA hu (inA z),?_⟩
    cases q4 with
    |lst h' r=>exact .lst (old h') (r.fz fz')
    |dk h' l r=>exact .dk (old h') l (r.fz fz')
    |dt h' l r=>exact .dt (old h') l (r.fz fz')
   ·have e:(if own a then none else H' a)=some o:=e
    split at e
    ·cases e
    ·exact e
   ·exact h (by show (if own a then none else H' a)=none;split;rfl;exact z)
   ·exact hb H1 H' (λy o e _=>old e) R1.ps.tb
   ·rcases List.mem_singleton.mp hb with rfl
    refine B.kp λa' o e n h=> ?_
    show (if own a' then none else H' a')=some o
    rw [if_neg (λz=> ?_)]
    ·exact e
    ·rcases h with h|h
     ·exact ownB z h
     ·obtain ⟨i,p,q1,q2⟩:=z
      obtain ⟨a',w1,_,_,w4⟩:=R1.mu i p q1
      rw [q2] at w1;cases w1
      obtain ⟨u,hu,fu,_⟩:=w4.mut
      have:=old hu
      rw [e] at this;cases this
      rw [fu] at h;cases h
  have RN2:=RN.setF (i:=i) (v:= .ref x) (p:= .ob A.b) (by rw [eA];exact .ob x)
  exact k _ _ _ H' _ _ _ D hb RN2 j3 λv H2 _ n _=>by rw [n.t.bl];exact q H2
 next=>cases h2
theorem fn_law {P:Program} {w:World} {mg:Str->Option Value} {base:Heap} {x qual:Str} {st:Stmt} {f:Addr} {fd:FuncData} {dV:Value} {N:List Str} {k:Nat} {s0:Str} {sp:Sp} (F:FunD K x qual st f fd dV) (S:FnScope N [s0] (defScope st)) (hb:TbS tb) (g:BkA->SX)
  (hsp: ∀vs H Q E,sp vs H Q E-> ∃a ns,vs= [.ref a]/\SqL K H a (List.map V.int ns)/\ns.length<=63/\tb H/\ ∀H',Q (.bl true) H')
  (hg: ∀(A:BkA) (scr:PV) (ns:List Int),ns.length<=63->(scr= .lst (ns.map PV.int)\/scr= .sc (ns.map PV.int))-> ∃W',g A [] (rho0 N.length [scr])=some (.rt (.bl true) W'))
  (j: ∀(cdv:Value) (A:Around) (outer:List Env) (s:Shared) (H:Hp) (E:XK),Room k (A.deeper (envOfC qual (defScope st) s.heap.objs.size f cdv))->
   ∃t,PSs (cxOf CX0 P w K mg base N qual (defScope st) f cdv A outer s H E).nox (defBody st) t/\KSL K tb cB t g):FnOk P w K mg base CX0 (k+1) f fd [s0] sp:=by
 refine F.ok S (λvs H Q E h=> ?_) (λcdv A outer s H vs Q E hr h=> ?_)
 ·obtain ⟨a,ns,rfl,_⟩:=hsp _ _ _ _ h;rfl
 ·obtain ⟨a,ns,rfl,hS,hl,ht,q⟩:=hsp _ _ _ _ h
  obtain ⟨t,hp,hk⟩:=j cdv A outer s H E hr
  have wr: ∀ {G:Hp},WRep K cB G []:=⟨(λb hb=>by cases hb),List.Pairwise.nil⟩
  have main: ∀ {H1:Hp} {scr:PV},Rep K H1 (.ref a) scr->tb H1->(scr= .lst (ns.map PV.int)\/scr= .sc (ns.map PV.int))->t {nx:=λ_ H'=>Q .non H',rt:=Q} (start N [.ref a]) H1:=λ{H1 scr} r ht hs=>
   hk H1 H1 _ _ _ hb (ew_start wr (.cons r .nil) ht) (λA=>hg A scr ns hl hs) q
  rcases hS with (hS|⟨o,hS⟩)|hS
  ·refine ⟨tPz0 a t,hp.pz0 a,λH2 fr=> ?_⟩
   have u:RepU K H a (.lst (ns.map PV.int)):= .lst hS Reps.ints
   obtain ⟨o,rfl,r⟩:=u.frz fr
   exact main r (hb H _ (λc u' e n=>by rw [upd_ne (λz=>by subst z;rw [hS] at e;cases e;cases n)];exact e) ht) (.inl rfl)
  ·exact ⟨t,hp,main (.lst ⟨o,hS⟩ Reps.ints) ht (.inl rfl)⟩
  ·exact ⟨t,hp,main (.sc hS Reps.ints) ht (.inr rfl)⟩
end
section
variable {X:Cx} {K:Frag} {tb:Hp->Prop} {cB:Addr} {cs:List Addr} {E:XK} {e a b c:Expr} {es:List Expr} {t ta tb' tc:TE} {f g h:EF} {pos p p2:Pos} {st:Stmt} {sts rest:List Stmt} {ts us:TS}
variable {H0 H H' H1 H2:Hp} {W0 W W' W1 W2:Wd} {σ σ':St} {ρ ρ':Rho}
theorem mkMN_ne {N n:Nat} {g:SX}: ∀W ps k W',mkMN N n g W ps≠some (.error k,W'):=λW ps k W' h=>by
 unfold mkMN at h
 split at h
 ·split at h<;>cases h
 ·cases h
structure JSL (K:Frag) (tb:Hp->Prop) (cB:Addr) (X:Cx) (sts:List Stmt) (t:TS) (g:BkA->SX):Prop where
 pe:PSs X sts t
 k:KSL K tb cB t g
theorem jsl_cons {f:SX} {g:BkA->SX} (j:JSX K tb cB cs E0 X st ts f) (k:JSL K tb cB X rest us g):JSL K tb cB X (st::rest) (tSeq ts us) (lSeq f g):=⟨pss_cons j.pe k.pe,ksl_seq j.k k.k⟩
theorem jsl_make {i:Nat} {tA:TA} {fA:EA} {g:SX} (hp:PA X es tA->PS X st (tAsg (tMake cB (spMk K cB) [] E0 tA) (gName i))) (ha:JA K tb X es tA fA) (k:JSXs K tb cB cs E0 X rest us g):JSL K tb cB X (st::rest) (tSeq (tAsg (tMake cB (spMk K cB) [] E0 tA) (gName i)) us) (sMk i fA g):=⟨pss_cons (hp ha.pe) k.pe,ksl_make ha.k k.k⟩
end
section
variable {X:Cx} {K:Frag} {tb:Hp->Prop} {cB:Addr} {cs:List Addr} {E:XK} {e a b c:Expr} {es:List Expr} {t ta tb' tc:TE} {f g h:EF} {pos p p2:Pos} {st:Stmt} {sts rest:List Stmt} {ts us:TS}
variable {H0 H H' H1 H2:Hp} {W0 W W' W1 W2:Wd} {σ σ':St} {ρ ρ':Rho}
def sxRaise (k:Nat):SX:=λW _=>some (.ex k W)
theorem jsx_raise {k:Nat} (hp:PS X st (tRaise (cs.getD k 0) E (tCons (tC (.str (msgP k))) tNil))):JSX K tb cB cs E X st (tRaise (cs.getD k 0) E (tCons (tC (.str (msgP k))) tNil)) (sxRaise k):=⟨hp,λH0 W0 W H σ ρ fl D hb R h q=>by
 cases h
 refine ⟨by show 1<=sizeLine;decide,λp hp=> ?_⟩
 have xn:Ex tb H (upd H p (.tup [.str (msgP k)])):=Ex.new hb hp
 exact q p _ (R.go xn).ps upd_same⟩
def KXB (K:Frag) (tb:Hp->Prop) (cB:Addr) (t:TE) (f:Wd->Rho->Option PV):Prop:= ∀H0 W0 W H σ ρ r Q,TbS tb->EW K tb cB H0 W0 W H σ ρ->f W ρ=some r->(∀v H',Ex tb H H'->RepT K H' v r->Q v H')->t σ H Q
structure JXB (K:Frag) (tb:Hp->Prop) (cB:Addr) (X:Cx) (e:Expr) (t:TE) (f:Wd->Rho->Option PV):Prop where
 pe:PE X e t
 k:KXB K tb cB t f
def bkOf (W:Wd) (p:PV):Option Bst:=match p with
 | .ob a=>W.find? λb=>b.A.b==a
 |_=>none
theorem bk_of {p:PV} {b:Bst} (h:bkOf W p=some b):p= .ob b.A.b/\b∈W:=by
 unfold bkOf at h
 split at h
 ·have h1:=List.find?_some h
  have h2:=List.mem_of_find?_eq_some h
  have h1:=beq_iff_eq.mp h1
  subst h1
  exact ⟨rfl,h2⟩
 ·cases h
def xFld (sel:Bst->PV) (i:Nat):Wd->Rho->Option PV:=λW ρ=>(eW i ρ).bind λp=>(bkOf W p).map sel
theorem kxb_fld {i:Nat} {nm:Str} {sel:Bst->PV} (cl:Cls K cB) (na:NoAttr K cB nm) (hs: ∀H b,BkP K cB H b-> ∃v,(flds b.A.pe b.A.co b.A.sp b.A.ro b.A.ca b.A.we b.dn).lookup nm=some v/\RepT K H v (sel b)):KXB K tb cB (tFld K (tVar i) nm) (xFld sel i):=λH0 W0 W H σ ρ r Q hb R h q=>by
 unfold xFld eW at h
 obtain ⟨p,h1,h⟩:=obs h
 obtain ⟨b,h2,rfl⟩:=oms h
 split at h1
 next p' hi=>
  cases h1
  obtain ⟨rfl,hm⟩:=bk_of h2
  obtain ⟨v,e1,rv⟩:=R.im i _ hi
  cases rv
  have B:=R.ps.wr.at_ b hm
  obtain ⟨dx,hob⟩:=B.ob
  obtain ⟨w,e2,rw'⟩:=hs H b B
  exact ⟨_,e1,b.A.b,cB,dx,_,w,rfl,hob,cl,na,e2,q w H Ex.refl rw'⟩
 next=>cases h1
theorem fld_t {H:Hp} {a:Addr} {ps:List PV} (h:FldAt K H a ps):RepT K H (.ref a) (.lst ps):=let ⟨vs,e,r⟩:=h; .un rfl (.lst e r)
theorem jxb_rows {i:Nat} (hp:PE X e (tFld K (tVar i) "rows")) (cl:Cls K cB) (na:NoAttr K cB "rows"):JXB K tb cB X e (tFld K (tVar i) "rows") (xFld (λb=> .lst b.rows) i):=⟨hp,kxb_fld cl na λH b B=>⟨_,rfl,fld_t B.ro⟩⟩
theorem jxb_done {i:Nat} (hp:PE X e (tFld K (tVar i) "done")) (cl:Cls K cB) (na:NoAttr K cB "done"):JXB K tb cB X e (tFld K (tVar i) "done") (xFld (λb=> .int b.dn) i):=⟨hp,kxb_fld cl na λH b B=>⟨_,rfl,.im (.int _)⟩⟩
def xOf (f:Wd->Rho->Option PV):XF:=λW ρ=>(f W ρ).map λp=>(.ok p,W)
def xLen (f:Wd->Rho->Option PV):XF:=xOf λW ρ=>(f W ρ).bind λp=>pLen [p]
theorem jx_len {p3:Pos} {f:Wd->Rho->Option PV} (hg:Gl X "len") (hm:X.mg "len" =none) (ha:JXB K tb cB X a t f) (hK:X.K=K:=by rfl) (he:starEach [a] X.env=(false,eval a X.env)::starEach [] X.env:=by rfl) (hpl:(backTo pos (starEach [] X.env)).any (·.1)=false:=by rfl):
  JX K tb cB cs E X (.Call (.Name "len" p3) [a] [] pos) (tCB (rLen K) (tCons t tNil)) (xLen f):=⟨pe_callB (cb_lenK K hK) hg hm PySem.boot_len (pa_cons ha.pe pa_nil he) (by decide) (by decide) he hpl,λH0 W0 W H σ ρ r W' Q hb R h q _=>by
 unfold xLen xOf at h
 obtain ⟨n,h0,h2⟩:=oms h
 cases h2
 obtain ⟨p,h1,h2⟩:=obs h0
 unfold pLen at h2
 obtain ⟨xs,h3,rfl⟩:=oms h2
 refine ha.k H0 W0 W H σ ρ p _ hb R h1 λv H1 x1 r1=> ?_
 obtain ⟨a,ws,rfl,hs,rs⟩:=seq_rep r1 h3
 have:=q _ rfl (.int ws.length) H1 (.rfl' R x1) (.im (by rw [rs.length];exact .int _)) rfl
 exact ⟨a,ws,rfl,hs,this⟩⟩
theorem jx_done {i:Nat} (hp:PE X e (tFld K (tVar i) "done")) (cl:Cls K cB) (na:NoAttr K cB "done"):JX K tb cB cs E X e (tFld K (tVar i) "done") (xOf (xFld (λb=> .int b.dn) i)):=⟨hp,λH0 W0 W H σ ρ r W' Q hb R h q _=>by
 unfold xOf at h
 obtain ⟨n,h1,h2⟩:=oms h
 cases h2
 have j:=(jxb_done (tb:=tb) hp cl na).k
 have hn: ∃m,n= .int m:=by
  unfold xFld at h1
  obtain ⟨p,_,h1⟩:=obs h1
  obtain ⟨b,_,rfl⟩:=oms h1
  exact ⟨_,rfl⟩
 obtain ⟨m,rfl⟩:=hn
 exact j H0 W0 W H σ ρ _ _ hb R h1 λv H1 x1 r1=>q _ rfl v H1 (.rfl' R x1) (by rw [r1.int];exact .im (.int _)) rfl⟩
def setB (W:Wd) (a:Addr) (f:Bst->Bst):Wd:=W.map λb=>if b.A.b=a then f b else b
theorem setB_in {a y:Addr} {f:Bst->Bst} (hf: ∀b,(f b).A=b.A):inW (setB W a f) y↔inW W y:=by
 unfold inW setB
 constructor
 ·rintro ⟨b,hb,hy⟩
  obtain ⟨c,hc,rfl⟩:=List.mem_map.mp hb
  refine ⟨c,hc,?_⟩
  split at hy
  ·rwa [hf] at hy
  ·exact hy
 ·rintro ⟨b,hb,hy⟩
  refine ⟨_,List.mem_map.mpr ⟨b,hb,rfl⟩,?_⟩
  split
  ·rw [hf];exact hy
  ·exact hy
theorem all_b {A:BkA}:A.b∈A.mu:=by simp [BkA.mu]
theorem Pst.cell {b:Bst} {o:HO} {x:Addr} {f:Bst->Bst} (hb:TbS tb) (R:EW K tb cB H0 W0 W H σ ρ) (hm:b∈W) (hx:x∈b.A.mu) (hf: ∀b,(f b).A=b.A) (hB:BkP K cB (upd H x o) (f b)):Pst K tb cB W (setB W b.A.b f) H (upd H x o):=by
 obtain ⟨u,hu,f1,f3,f2⟩:=R.ps.wr.cell ⟨b,hm,hx⟩
 have fz:Fz H (upd H x o):=Fz.upd λw e=>by rw [hu] at e;cases e;exact f1
 have sep: ∀c∈W,c.A.b≠b.A.b-> ∀y∈c.A.mu,y≠x:=λc hc ne y hy z=>by
  subst z
  have pw:=R.ps.wr.dj
  obtain ⟨i,hi,rfl⟩:=List.mem_iff_getElem.mp hc
  obtain ⟨j,hj,rfl⟩:=List.mem_iff_getElem.mp hm
  rcases Nat.lt_trichotomy i j with l|l|l
  ·exact List.pairwise_iff_getElem.mp pw i j hi hj l _ hy hx
  ·subst l;exact ne rfl
  ·exact List.pairwise_iff_getElem.mp pw j i hj hi l _ hx hy
 have one: ∀c∈W,c.A.b=b.A.b->c=b:=λc hc e=>by
  have pw:=R.ps.wr.dj
  obtain ⟨i,hi,rfl⟩:=List.mem_iff_getElem.mp hc
  obtain ⟨j,hj,rfl⟩:=List.mem_iff_getElem.mp hm
  rcases Nat.lt_trichotomy i j with l|l|l
  ·exact absurd (e ▸ all_b:W[j].A.b∈W[i].A.mu) λz=>List.pairwise_iff_getElem.mp pw i j hi hj l _ z all_b
  ·subst l;rfl
  ·exact absurd (e ▸ all_b:W[j].A.b∈W[i].A.mu) λz=>List.pairwise_iff_getElem.mp pw j i hj hi l _ all_b z
 refine ⟨λy w e n z=> ?_,λy h=> ?_,λy h=>(setB_in hf).mp h,⟨λc hc=> ?_,?_⟩,?_⟩
 ·rw [upd_ne (λw'=>z (by rw [w'];exact ⟨b,hm,hx⟩))];exact e
 ·by_cases z:y=x
  ·rw [z,upd_same];simp
  ·rw [upd_ne z];exact h
 ·obtain ⟨d,hd,rfl⟩:=List.mem_map.mp hc
  by_cases z:d.A.b=b.A.b
  ·rw [if_pos z]
   rw [one d hd z]
   exact hB
  ·rw [if_neg z]
   exact (R.ps.wr.at_ d hd).kp λy w e n h=>by
    rw [upd_ne]
    ·exact e
    ·rcases h with h|h
     ·exact sep d hd z y h
     ·rintro rfl;rw [hu] at e;cases e;rw [f1] at h;cases h
 ·unfold setB
  rw [List.pairwise_map]
  refine R.ps.wr.dj.imp λ{c d} h y hy=> ?_
  have e1:(if c.A.b=b.A.b then f c else c).A=c.A:=by split<;>simp [hf]
  have e2:(if d.A.b=b.A.b then f d else d).A=d.A:=by split<;>simp [hf]
  rw [e1] at hy
  rw [e2]
  exact h y hy
 ·exact hb H _ (λc u' e n=>by rw [upd_ne (λz=>by subst z;rw [hu] at e;cases e;rw [f2] at n;cases n)];exact e) R.ps.tb
end
section
variable {X:Cx} {K:Frag} {tb:Hp->Prop} {cB:Addr} {cs:List Addr} {E:XK} {e a b c:Expr} {es:List Expr} {t ta tb' tc:TE} {f g h:EF} {pos p p2:Pos} {st:Stmt} {sts rest:List Stmt} {ts us:TS}
variable {H0 H H' H1 H2:Hp} {W0 W W' W1 W2:Wd} {σ σ':St} {ρ ρ':Rho}
structure Lf where
 nm:Str
 cell:BkA->Addr
 get:Bst->List PV
 put:Bst->List PV->Bst
structure LfOk (K:Frag) (cB:Addr) (L:Lf):Prop where
 na:NoAttr K cB L.nm
 look: ∀(A:BkA) n,(flds A.pe A.co A.sp A.ro A.ca A.we n).lookup L.nm=some (.ref (L.cell A))
 mem: ∀A:BkA,L.cell A∈A.mu
 at_: ∀H b,BkP K cB H b->FldAt K H (L.cell b.A) (L.get b)
 hA: ∀b x,(L.put b x).A=b.A
 up: ∀H b vs ps,BkP K cB H b->Fz H (upd H (L.cell b.A) (.lst vs))->Reps K (upd H (L.cell b.A) (.lst vs)) vs ps->BkP K cB (upd H (L.cell b.A) (.lst vs)) (L.put b ps)
theorem FldAt.ne {y x:Addr} {ps:List PV} {o:HO} (fz:Fz H (upd H x o)) (n:y≠x) (h:FldAt K H y ps):FldAt K (upd H x o) y ps:=let ⟨vs,e,r⟩:=h;⟨vs,by rw [upd_ne n];exact e,r.fz fz⟩
def lfRows:Lf:=⟨"rows",λA=>A.ro,λb=>b.rows,λb x=> {b with rows:=x}⟩
def lfCame:Lf:=⟨"came",λA=>A.ca,λb=>b.came,λb x=> {b with came:=x}⟩
def lfWent:Lf:=⟨"went",λA=>A.we,λb=>b.went,λb x=> {b with went:=x}⟩
theorem bk_ne {b:Bst} {x:Addr} (B:BkP K cB H b) {vs:List V} (h:H x=some (.lst vs)):b.A.b≠x:=by
 obtain ⟨dx,e⟩:=B.ob
 rintro rfl
 rw [e] at h;cases h
theorem lf_rows (na:NoAttr K cB "rows"):LfOk K cB lfRows:=⟨na,λA n=>rfl,λA=>by simp [lfRows,BkA.mu],λH b B=>B.ro,λb x=>rfl,λH b vs ps B fz r=>by
 obtain ⟨us,hc,_⟩:=B.ro
 have nb:=bk_ne B hc
 obtain ⟨⟨dx,h1⟩,h2,h3,h4,h5,h6,h7,n⟩:=B
 have n':=n
 simp only [List.nodup_cons,List.mem_cons,List.not_mem_nil,or_false,not_or] at n
 obtain ⟨⟨a1,a2⟩,b2,_⟩:=n
 exact ⟨⟨dx,by show upd H b.A.ro (.lst vs) b.A.b=_;rw [upd_ne nb];exact h1⟩,⟨vs,upd_same,r⟩,h3.ne fz (Ne.symm a1),h4.ne fz (Ne.symm a2),h5.fz fz,h6.fz fz,h7.fz fz,n'⟩⟩
theorem lf_came (na:NoAttr K cB "came"):LfOk K cB lfCame:=⟨na,λA n=>rfl,λA=>by simp [lfCame,BkA.mu],λH b B=>B.ca,λb x=>rfl,λH b vs ps B fz r=>by
 obtain ⟨us,hc,_⟩:=B.ca
 have nb:=bk_ne B hc
 obtain ⟨⟨dx,h1⟩,h2,h3,h4,h5,h6,h7,n⟩:=B
 have n':=n
 simp only [List.nodup_cons,List.mem_cons,List.not_mem_nil,or_false,not_or] at n
 obtain ⟨⟨a1,a2⟩,b2,_⟩:=n
 exact ⟨⟨dx,by show upd H b.A.ca (.lst vs) b.A.b=_;rw [upd_ne nb];exact h1⟩,h2.ne fz a1,⟨vs,upd_same,r⟩,h4.ne fz (Ne.symm b2),h5.fz fz,h6.fz fz,h7.fz fz,n'⟩⟩
theorem lf_went (na:NoAttr K cB "went"):LfOk K cB lfWent:=⟨na,λA n=>rfl,λA=>by simp [lfWent,BkA.mu],λH b B=>B.we,λb x=>rfl,λH b vs ps B fz r=>by
 obtain ⟨us,hc,_⟩:=B.we
 have nb:=bk_ne B hc
 obtain ⟨⟨dx,h1⟩,h2,h3,h4,h5,h6,h7,n⟩:=B
 have n':=n
 simp only [List.nodup_cons,List.mem_cons,List.not_mem_nil,or_false,not_or] at n
 obtain ⟨⟨a1,a2⟩,b2,_⟩:=n
 exact ⟨⟨dx,by show upd H b.A.we (.lst vs) b.A.b=_;rw [upd_ne nb];exact h1⟩,h2.ne fz a2,h3.ne fz b2,⟨vs,upd_same,r⟩,h5.fz fz,h6.fz fz,h7.fz fz,n'⟩⟩
def sxAppF (L:Lf) (i:Nat) (f:XF):SX:=λW ρ=>(eW i ρ).bind λq=>(bkOf W q).bind λb0=>(f W ρ).bind λr=>match r.1 with
 | .error k=>some (.ex k r.2)
 | .ok p=>(bkOf r.2 q).bind λb=>if (L.get b).length<sizeLine/\b0.A=b.A then some (.nx ρ (setB r.2 b.A.b λb=>L.put b (L.get b++ [p]))) else none
theorem jsx_appF {L:Lf} {i:Nat} {f:XF} (ok:LfOk K cB L) (cl:Cls K cB) (hp:PA X [e] (tCons t tNil)->PS X st (tDrop (tBM K "list" rAppend (tFld K (tVar i) L.nm) (tCons t tNil)))) (j:JXF K tb cB cs E X e t f) (hs:starEach [e] X.env=(false,eval e X.env)::starEach [] X.env:=by rfl):
  JSX K tb cB cs E X st (tDrop (tBM K "list" rAppend (tFld K (tVar i) L.nm) (tCons t tNil))) (sxAppF L i f):=⟨hp (pa_cons j.pe pa_nil hs),λH0 W0 W H σ ρ fl D hb R h q=>by
 unfold sxAppF eW at h
 obtain ⟨q0,h0,h⟩:=obs h
 obtain ⟨b0,hb0,h⟩:=obs h
 obtain ⟨⟨r,W1⟩,h1,h⟩:=obs h
 dsimp only at h
 split at h0
 next p' hi=>
  cases h0
  obtain ⟨rfl,hm0⟩:=bk_of hb0
  obtain ⟨v,e1,rv⟩:=R.im i _ hi
  cases rv
  have B0:=R.ps.wr.at_ b0 hm0
  obtain ⟨dx,hob⟩:=B0.ob
  obtain ⟨us,hc0,_⟩:=ok.at_ H b0 B0
  refine ⟨_,e1,b0.A.b,cB,dx,_,_,rfl,hob,cl,ok.na,ok.look _ _,r_tyL (.of hc0) ?_⟩
  cases r with
  |error k=>cases h;exact j.k H0 W0 W H σ ρ _ _ _ hb R h1 (λp e=>by cases e) λk' e=>by cases e;exact λt H' x m=>q t H' (R.pst x) m
  |ok p=>
   dsimp only at h
   obtain ⟨b,hb1,h⟩:=obs h
   split at h
   next hz=>
    cases h
    refine j.k H0 W0 W H σ ρ _ _ _ hb R h1 (λp' e v H1 x1 r1=> ?_) λk' e=>by cases e
    cases e
    have R1:=R.post x1
    obtain ⟨eb,hm⟩:=bk_of hb1
    have B:=R1.ps.wr.at_ b hm
    obtain ⟨vs,hc,rs⟩:=ok.at_ H1 b B
    have fz:Fz H1 (upd H1 (L.cell b.A) (.lst (vs++ [v]))):=Fz.upd λu e=>by rw [hc] at e;cases e;rfl
    have ec:L.cell b0.A=L.cell b.A:=by rw [hz.2]
    refine ⟨L.cell b0.A,vs,v,rfl,rfl,by rw [ec];exact hc,by rw [rs.length];exact hz.1,?_⟩
    rw [ec]
    have up:=ok.up H1 b (vs++ [v]) (L.get b++ [p]) B fz ((rs.snoc r1).fz fz)
    have ps:=Pst.cell (f:=λb=>L.put b (L.get b++ [p])) hb R1 hm (ok.mem b.A) (λb=>ok.hA b _) up
    exact q σ _ ((x1.fz R.ps.wr).trans fz) (R1.post ps)
   next=>cases h
 next=>cases h0⟩
def sxDone (i:Nat) (n:Int):SX:=λW ρ=>(eW i ρ).bind λq=>(bkOf W q).map λb=> .nx ρ (setB W b.A.b λb=> {b with dn:=b.dn+n})
theorem jsx_done {i:Nat} {n:Int} (na:NoAttr K cB "done") (cl:Cls K cB) (hp:PS X st (sFldAug K (tVar i) (tC (.int n)) rAdd "done")):JSX K tb cB cs E X st (sFldAug K (tVar i) (tC (.int n)) rAdd "done") (sxDone i n):=⟨hp,λH0 W0 W H σ ρ fl D hb R h q=>by
 unfold sxDone eW at h
 obtain ⟨q0,h0,h⟩:=obs h
 obtain ⟨b,hb0,rfl⟩:=oms h
 split at h0
 next p' hi=>
  cases h0
  obtain ⟨rfl,hm⟩:=bk_of hb0
  obtain ⟨v,e1,rv⟩:=R.im i _ hi
  cases rv
  have B:=R.ps.wr.at_ b hm
  obtain ⟨dx,hob⟩:=B.ob
  refine ⟨_,e1,b.A.b,cB,dx,_,_,rfl,hob,cl,na,fl_done,⟨_,_,rfl,rfl,dx,_,hob,by show 7<1000;decide,?_⟩⟩
  rw [fl_put]
  have fz:Fz H (upd H b.A.b (.ins cB dx (flds b.A.pe b.A.co b.A.sp b.A.ro b.A.ca b.A.we (b.dn+n)))):=Fz.upd λu e=>by rw [hob] at e;cases e;rfl
  have up:BkP K cB (upd H b.A.b (.ins cB dx (flds b.A.pe b.A.co b.A.sp b.A.ro b.A.ca b.A.we (b.dn+n)))) {b with dn:=b.dn+n}:=by
   have ne: ∀ {y ps},FldAt K H y ps->y≠b.A.b:=λ{y ps} ⟨vs,e,_⟩ z=>by rw [z,hob] at e;cases e
   obtain ⟨_,h2,h3,h4,h5,h6,h7,n⟩:=B
   exact ⟨⟨dx,upd_same⟩,h2.ne fz (ne h2),h3.ne fz (ne h3),h4.ne fz (ne h4),h5.fz fz,h6.fz fz,h7.fz fz,n⟩
  exact q σ _ fz (R.post (Pst.cell (f:=λb=> {b with dn:=b.dn+n}) hb R hm all_b (λ_=>rfl) up))
 next=>cases h0⟩
end
section
variable {X:Cx} {K:Frag} {tb:Hp->Prop} {cB:Addr} {cs:List Addr} {E:XK} {e a b c:Expr} {es:List Expr} {t ta tb' tc:TE} {f g h:EF} {pos p p2:Pos} {st:Stmt} {sts rest:List Stmt} {ts us:TS}
variable {H0 H H' H1 H2:Hp} {W0 W W' W1 W2:Wd} {σ σ':St} {ρ ρ':Rho}
def tFmt (t:TE):TE:=λσ H Q=>t σ H λv H1=>(∃i:Int,v= .int i/\i.natAbs.log2<1920/\Q (.str (toString i)) H1)\/(∃x:Str,v= .str x/\x.length<=sizeLine/\Q (.str x) H1)
theorem pe_fmt (ha:PE X a t):PE X (.FormattedValue a (-1) none pos) (tFmt t):=by
 intro pins s σ H Q I h
 refine wpAny_FormattedValue_plain (thn (ha pins s σ H _ I h) λv s1 ⟨x,H1,I1,r,q⟩=> ?_)
 rcases q with ⟨i,rfl,hi,q⟩|⟨y,rfl,hy,q⟩
 ·obtain ⟨t,rfl⟩:=r
  exact wpAny_formatField_int hi ⟨.str (toString i),H1,I1.tok _,⟨_,rfl⟩,q⟩
 ·obtain ⟨t,rfl⟩:=r
  exact wpAny_formatField_str ⟨.str y,H1,I1,⟨_,rfl⟩,q⟩ ⟨.str y,H1,I1.tok _,⟨_,rfl⟩,q⟩ hy
def pFmt:PV->Option PV
 | .int i=>if i.natAbs.log2<1920 then some (.str (toString i)) else none
 | .str x=>if x.length<=sizeLine then some (.str x) else none
 |_=>none
def eFmt (f:EF):EF:=λρ=>(f ρ).bind pFmt
theorem jo_fmt (ha:JB K tb X a t f):JO K tb X (.FormattedValue a (-1) none pos) (tFmt t) (eFmt f):=⟨pe_fmt ha.pe,λH0 H σ ρ r Q hb R h q=>by
 unfold eFmt at h
 obtain ⟨p,h1,h⟩:=obs h
 refine ha.k H0 H σ ρ p _ hb R h1 λv H1 x1 r1=> ?_
 unfold pFmt at h
 split at h
 ·split at h
  next hz=>cases h;exact .inl ⟨_,r1.int,hz,q _ H1 x1 (.im (.str _)) rfl⟩
  next=>cases h
 ·split at h
  next hz=>cases h;exact .inr ⟨_,r1.str,hz,q _ H1 x1 (.im (.str _)) rfl⟩
  next=>cases h
 ·cases h⟩
def tJs:List TE->Str->TE
 | [],acc=>λσ H Q=>acc.length<=sizeLine/\Q (.str acc) H
 |t::ts,acc=>λσ H Q=>t σ H λv H1=> ∃y:Str,v= .str y/\(acc++y).length<=sizeLine/\tJs ts (acc++y) σ H1 Q
inductive PEs (X:Cx):List Expr->List TE->Prop
 |nil:PEs X [] []
 |cons {e:Expr} {es:List Expr} {t:TE} {ts:List TE}:PE X e t->PEs X es ts->PEs X (e::es) (t::ts)
theorem joins_ok {pins:List (Addr×Obj)} {Q:VK} {σ:St} {es:List Expr} {ts:List TE} (P:PEs X es ts): ∀(acc:Str) (s:Shared) (H:Hp),Inv X pins σ H s->tJs ts acc σ H Q->
  Joins (model X.prog X.w) X.A X.xe (es.map λe=>eval e X.env) acc (λout s₁=>out.length<=sizeLine/\EP X pins σ Q (.str out s₁.toks) {s₁ with toks:=s₁.toks+1}) s:=by
 induction P with
 |nil=>exact λacc s H I h=>⟨h.1,.str acc,H,I.tok _,⟨_,rfl⟩,h.2⟩
 |cons hp _ ih=>
  intro acc s H I h
  refine thn (hp pins s σ H _ I h) λv s1 ⟨x,H1,I1,r,y,e,hz,q⟩=> ?_
  subst e
  obtain ⟨t,rfl⟩:=r
  exact ⟨y,t,rfl,hz,ih _ s1 H1 I1 q⟩
theorem pe_js {v1 v2:Expr} {rs:List Expr} {ts:List TE} (P:PEs X (v1::v2::rs) ts) (he:evalEach (v1::v2::rs) X.env=(v1::v2::rs).map λe=>eval e X.env:=by rfl):PE X (.JoinedStr (v1::v2::rs) pos) (tJs ts Str.empty):=by
 intro pins s σ H Q I h
 refine wpAny_JoinedStr ?_
 rw [he]
 exact joins_ok P _ s H I h
structure JJs (K:Frag) (tb:Hp->Prop) (X:Cx) (es:List Expr) (ts:List TE) (f:EA):Prop where
 pe:PEs X es ts
 k: ∀H0 H σ ρ rs (acc out:Str) Q,TbS tb->ER K tb H0 H σ ρ->f ρ=some rs->(rs.foldl (λ(o:Option Str) p=>o.bind λx=>match p with|PV.str y=>if (x++y).length<=sizeLine then some (x++y) else none|_=>none) (some acc))=some out->acc.length<=sizeLine->(∀H',Ex tb H H'->Q (.str out) H')->tJs ts acc σ H Q
theorem fold_none {rs:List PV}:rs.foldl (λ(o:Option Str) p=>o.bind λx=>match p with|PV.str y=>if (x++y).length<=sizeLine then some (x++y) else none|_=>none) none=none:=by
 induction rs with
 |nil=>rfl
 |cons p ps ih=>exact ih
theorem jjs_n:JJs K tb X [] [] aN:=⟨.nil,λH0 H σ ρ rs acc out Q hb R h e l q=>by cases h;cases e;exact ⟨l,q H Ex.refl⟩⟩
theorem jjs_c {ts:List TE} {g:EA} (ha:JO K tb X e t f) (hr:JJs K tb X es ts g):JJs K tb X (e::es) (t::ts) (aC f g):=⟨.cons ha.pe hr.pe,λH0 H σ ρ rs acc out Q hb R h e l q=>by
 unfold aC at h
 obtain ⟨p,h1,h⟩:=obs h
 obtain ⟨ps,h2,h⟩:=obs h
 cases h
 refine ha.k H0 H σ ρ p _ hb R h1 λv H1 x1 n _=> ?_
 rw [List.foldl_cons] at e
 cases p with
 |str y=>
  simp only [Option.bind_some] at e
  split at e
  next hz=>exact ⟨y,n.t.str,hz,hr.k H0 H1 σ ρ ps _ out _ hb (R.go x1) h2 e hz λH2 x2=>q H2 (x1.trans x2)⟩
  next=>rw [fold_none] at e;cases e
 |_=>simp only [Option.bind_some] at e;rw [fold_none] at e;cases e⟩
def pJs (rs:List PV):Option PV:=(rs.foldl (λ(o:Option Str) p=>o.bind λx=>match p with|PV.str y=>if (x++y).length<=sizeLine then some (x++y) else none|_=>none) (some Str.empty)).map PV.str
def eJs (f:EA):EF:=λρ=>(f ρ).bind pJs
theorem jo_js {v1 v2:Expr} {rs:List Expr} {ts:List TE} {f:EA} (P:JJs K tb X (v1::v2::rs) ts f) (he:evalEach (v1::v2::rs) X.env=(v1::v2::rs).map λe=>eval e X.env:=by rfl):JO K tb X (.JoinedStr (v1::v2::rs) pos) (tJs ts Str.empty) (eJs f):=⟨pe_js P.pe he,λH0 H σ ρ r Q hb R h q=>by
 unfold eJs pJs at h
 obtain ⟨ps,h1,h⟩:=obs h
 obtain ⟨out,h2,rfl⟩:=oms h
 exact P.k H0 H σ ρ ps _ out _ hb R h1 h2 (by decide) λH' x=>q _ H' x (.im (.str _)) rfl⟩
end
section
variable {X:Cx} {K:Frag} {tb:Hp->Prop} {cB:Addr} {cs:List Addr} {E:XK} {e a b c:Expr} {es:List Expr} {t ta tb' tc:TE} {f g h:EF} {pos p p2:Pos} {st:Stmt} {sts rest:List Stmt} {ts us:TS}
variable {H0 H H' H1 H2:Hp} {W0 W W' W1 W2:Wd} {σ σ':St} {ρ ρ':Rho}
def tyChain (o o':PV->PV->Option PV) (f g h:EF):ET:=λρ=>(f ρ).bind λp=>(g ρ).bind λq=>(o p q).bind λz=>match z with
 | .bl k=>if k=true then (h ρ).bind λw=>(o' q w).bind λy=>match y with
  | .bl m=>some m
  |_=>none
  else some false
 |_=>none
theorem jt_chain {op op':CmpOp} {r r':R2} {o o':PV->PV->Option PV} (O:OpJ X K tb (compareOp op) r o) (O':OpJ X K tb (compareOp op') r' o') (ha:JB K tb X a ta f) (hb:JB K tb X b tb' g) (hc:JB K tb X c tc h)
  (hm:lastMarks [op,op'] [b,c]=false:=by with_unfolding_all rfl):JT K tb X (.Compare a [op,op'] [b,c] pos) (tTest (tChain r r' ta tb' tc)) (tyChain o o' f g h):=⟨pt_chain O.pe O'.pe ha.pe hb.pe hc.pe hm,λH0 H σ ρ res Q hb' R hh q=>by
 unfold tyChain at hh
 obtain ⟨p1,h1,hh⟩:=obs hh
 obtain ⟨p2,h2,hh⟩:=obs hh
 obtain ⟨z,h3,hh⟩:=obs hh
 refine ha.k H0 H σ ρ p1 _ hb' R h1 λx H1 x1 r1=>hb.k H0 H1 σ ρ p2 _ hb' (R.go x1) h2 λy H2 x2 r2=> ?_
 refine O.k H2 x y p1 p2 z _ hb' (r1.ex x2) r2 h3 λv H3 x3 n3 ns3=> ?_
 split at hh
 next k=>
  refine ⟨k,n3.t.bl,?_⟩
  cases k with
  |false=>rw [if_neg Bool.false_ne_true] at hh;cases hh;exact iteF ⟨false,rfl,q _ ((x1.trans x2).trans x3)⟩
  |true=>
   rw [if_pos rfl] at hh
   obtain ⟨w,h4,hh⟩:=obs hh
   obtain ⟨u,h5,hh⟩:=obs hh
   have x13:=(x1.trans x2).trans x3
   refine iteT (hc.k H0 H3 σ ρ w _ hb' (R.go x13) h4 λy' H4 x4 r4=> ?_)
   refine O'.k H4 y y' p2 w u _ hb' ((r2.ex x3).ex x4) r4 h5 λv' H5 x5 n5 ns5=> ?_
   split at hh
   next m=>cases hh;exact ⟨_,n5.t.bl,q _ ((x13.trans x4).trans x5)⟩
   next=>cases hh
 next=>cases hh⟩
def pLenSet (ps:List PV):Option PV:=match ps with
 | [.lst xs]=>(pintsO xs).bind λns=>if ns.length<=1000 then some (.int (setN ns)) else none
 |_=>none
theorem jo_lenset {p3 p4 pos2:Pos} {k:Nat} {tA:TA} {fA:EA} (hr:Room k X.A) (hc:X.calm=true) (hg:Gl X "len") (hm:X.mg "len" =none) (hg2:Gl X "set") (hm2:X.mg "set" =none) (ha:JA K tb X [a] tA fA) (hK:X.K=K:=by rfl)
  (he1:starEach [Expr.Call (.Name "set" p4) [a] [] pos2] X.env=(false,eval (Expr.Call (.Name "set" p4) [a] [] pos2) X.env)::starEach [] X.env:=by rfl)
  (hp1:(backTo pos (starEach [] X.env)).any (·.1)=false:=by rfl)
  (he2:starEach [a] X.env=(false,eval a X.env)::starEach [] X.env:=by rfl) (hp2:(backTo pos2 (starEach [] X.env)).any (·.1)=false:=by rfl):
  JO K tb X (.Call (.Name "len" p3) [.Call (.Name "set" p4) [a] [] pos2] [] pos) (tLenSetI K tA) (eCl pLenSet fA):=⟨hK ▸ pe_lensetI hr hc hg hm hg2 hm2 ha.pe he1 hp1 he2 hp2,λH0 H σ ρ r Q hb R h q=>by
 unfold eCl at h
 obtain ⟨ps,h1,h⟩:=obs h
 unfold pLenSet at h
 split at h
 next xs=>
  obtain ⟨ns,h2,h⟩:=obs h
  split at h
  next hz=>
   cases h
   refine ha.k H0 H σ ρ _ _ hb R h1 λvs H1 x1 r1=> ?_
   cases r1 with|cons ra r1=>
   cases r1
   obtain ⟨l,us,rfl,hs,rs⟩:=ra.lst'
   rw [ints_rep rs h2] at hs
   exact ⟨l,ns,rfl,hs.sq,hz,q _ H1 x1 (.im (.int _)) rfl⟩
  next=>cases h
 next=>cases h⟩
theorem jx_methN {m:Wd->List PV->Option (EX×Wd)} {dvs:List V} {dps:List PV} {nm:Str} {tA:TA} {fA:XA} {to:TE} {fo:EF} {o:Expr} (hm: ∀W ps k W',m W ps≠some (.error k,W')) (hp:PE X o to->PA X es tA->PE X e (tMeth cB nm (spX K tb cB cs m) dvs E0 to tA)) (ho:JF K tb X o to fo) (ha:JXA K tb cB cs E X es tA fA)
  (hd: ∀H,Reps K H dvs dps) (hn:nm∉(["people","court","speakers","rows","came","went","done"]:List Str)):JX K tb cB cs E X e (tMeth cB nm (spX K tb cB cs m) dvs E0 to tA) (xMt m dps fo fA):=⟨hp ho.pe ha.pe,λH0 W0 W H σ ρ r W' Q hb R h q qe=>by
 unfold xMt at h
 obtain ⟨b,h0,h⟩:=obs h
 split at h
 next a=>
  split at h
  next hw=>
   obtain ⟨G,_,g2,S⟩:=R.er
   refine ho.k G H σ ρ _ _ hb S h0 λx H1 x1 rx=> ?_
   have p1:Pst K tb cB W W H H1:= .rfl' R x1
   have R1:=R.post p1
   obtain ⟨s,hs,es'⟩:=List.any_eq_true.mp hw
   have es':s.A.b=a:=by simpa using es'
   cases rx
   obtain ⟨⟨dx,hob⟩,_⟩:=R1.ps.wr.at_ s hs
   rw [es'] at hob
   obtain ⟨⟨r1,W1⟩,h1,h⟩:=obs h
   dsimp only at h
   refine ⟨a,dx,_,rfl,hob,fl_no hn,?_⟩
   cases r1 with
   |error k=>cases h;exact ha.k H0 W0 W H1 σ ρ _ _ _ hb R1 h1 (λp e=>by cases e) λk' e=>by cases e;exact (qe k rfl).tr p1
   |ok ps=>
    refine ha.k H0 W0 W H1 σ ρ _ _ _ hb R1 h1 (λps' e vs H2 x2 r2=> ?_) λk' e=>by cases e
    cases e
    have p2:=p1.trans x2
    exact ⟨W1,_,r,W',x2.wr,.cons (.ob a) (r2.app (hd H2)),x2.tb,h,λp e v H3 x3 n ns=>q p e v H3 (p2.trans x3) (n.pst p2) ns,λk e=>by subst e;exact absurd h (hm _ _ _ _)⟩
  next=>cases h
 next=>cases h⟩
def ItE (K:Frag) (tb:Hp->Prop) (J:It) (H1:Hp) (ps:List PV):Prop:= ∀H,Ex tb H1 H->(∀i,i<ps.length->J.go i H/\ ∀x H',J.yld i H x H'->Same H H'/\ ∃p,ps[i]? =some p/\Rep K H' x p)/\J.stop ps.length H
theorem ItOk.toE {J:It} {ps:List PV} (o:ItOk K J H ps):ItE K tb J H ps:=λH' x=>o H' x.fz
abbrev XI:=Wd->Rho->Option (Except Nat (List PV)×Wd)
def KXI (K:Frag) (tb:Hp->Prop) (cB:Addr) (cs:List Addr) (E:XK) (ti:TI) (f:XI):Prop:= ∀H0 W0 W H σ ρ r W' Q,TbS tb->EW K tb cB H0 W0 W H σ ρ->f W ρ=some (r,W')->
 (∀ps,r= .ok ps-> ∀J H',Pst K tb cB W W' H H'->ItE K tb J H' ps->Q J H')->(∀k,r= .error k->XErr K tb cB cs E W W' H k)->ti σ H Q
structure JXI (K:Frag) (tb:Hp->Prop) (cB:Addr) (cs:List Addr) (E:XK) (X:Cx) (tg iter:Expr) (ti:TI) (f:XI):Prop where
 pe:PI X tg iter ti
 k:KXI K tb cB cs E ti f
def xiList (f:XF):XI:=λW ρ=>(f W ρ).bind λr=>match r.1 with
 | .error k=>some (.error k,r.2)
 | .ok (.lst xs)=>some (.ok xs,r.2)
 | .ok _=>none
theorem jxi_list {tg:Expr} {f:XF} (j:JXF K tb cB cs E X e t f) (hK:X.K=K:=by rfl):JXI K tb cB cs E X tg e (iList K t) (xiList f):=⟨hK ▸ pi_list j.pe,λH0 W0 W H σ ρ r W' Q hb R h q qe=>by
 unfold xiList at h
 obtain ⟨⟨r1,W1⟩,h1,h⟩:=obs h
 dsimp only at h
 split at h
 next k=>cases h;exact j.k H0 W0 W H σ ρ _ _ _ hb R h1 (λp e=>by cases e) λk' e=>by cases e;exact qe k rfl
 next xs=>
  cases h
  refine j.k H0 W0 W H σ ρ _ _ _ hb R h1 (λp e v H1 x1 r1=> ?_) λk' e=>by cases e
  cases e
  obtain ⟨a,vs,rfl,hs,rs⟩:=r1.lst'
  exact ⟨a,rfl,⟨vs,hs.sq⟩,q _ rfl _ H1 x1 (itl_ok' (λH' fz=>(hs.fz fz).sq) rs).toE⟩
 next=>cases h⟩
def xiZip3 (f1 f2 f3:Wd->Rho->Option PV):XI:=λW ρ=>(f1 W ρ).bind λp=>(f2 W ρ).bind λq=>(f3 W ρ).bind λr=>match p,q,r with
 | .lst xs,.lst ys,.lst zs=>if ys.length=xs.length/\zs.length=xs.length then some (.ok ((List.range xs.length).map λi=>PV.tup [xs.getD i .non,ys.getD i .non,zs.getD i .non]),W) else none
 |_,_,_=>none
theorem RepT.rdE {v:V} {ps:List PV} (r:RepT K H v (.lst ps)): ∃a vs o,v= .ref a/\H a=some o/\notTbl o=true/\(o= .lst vs\/ ∃u,o= .frz u (.lst vs))/\Reps K H vs ps:=by
 obtain ⟨a,vs,rfl,h,rs⟩:=r.rd
 rcases h with h|⟨u,h⟩
 ·exact ⟨a,vs,_,rfl,h,rfl,.inl rfl,rs⟩
 ·exact ⟨a,vs,_,rfl,h,rfl,.inr ⟨u,rfl⟩,rs⟩
theorem jxi_zip3 {f1 f2 f3:Wd->Rho->Option PV} {t1 t2 t3:TE} {kt:Nat} {pt:Pos} (hg:Gl X "zip") (hm:X.mg "zip" =none) (ha:JXB K tb cB X a t1 f1) (hb2:JXB K tb cB X b t2 f2) (hc:JXB K tb cB X c t3 f3) (hK:X.K=K:=by rfl) (hs:starEach [a,b,c] X.env= [(false,eval a X.env),(false,eval b X.env),(false,eval c X.env)]:=by rfl)
  (hs2:starEach [b,c] X.env= [(false,eval b X.env),(false,eval c X.env)]:=by rfl) (hs3:starEach [c] X.env= [(false,eval c X.env)]:=by rfl):
  JXI K tb cB cs E X (.Tuple es kt pt) (.Call (.Name "zip" p) [a,b,c] [] pos) (iZip3 K (tCons t1 (tCons t2 (tCons t3 tNil)))) (xiZip3 f1 f2 f3):=⟨hK ▸ pi_zip3 hg hm (pa_cons ha.pe (pa_cons hb2.pe (pa_cons hc.pe pa_nil hs3) (hs2.trans (by rw [hs3]))) (hs.trans (by rw [hs2]))) hs hs2,λH0 W0 W H σ ρ r W' Q hb R h q _=>by
 unfold xiZip3 at h
 obtain ⟨p1,h1,h'⟩:=obs h
 clear h
 obtain ⟨p2,h2,h⟩:=obs h'
 clear h'
 obtain ⟨p3,h3,h'⟩:=obs h
 clear h
 split at h'
 next xs ys zs=>
  split at h'
  next hz=>
   cases h'
   refine ha.k H0 W0 W H σ ρ _ _ hb R h1 λv1 H1 x1 r1=> ?_
   refine hb2.k H0 W0 W H1 σ ρ _ _ hb (R.go x1) h2 λv2 H2 x2 r2=> ?_
   refine hc.k H0 W0 W H2 σ ρ _ _ hb (R.go (x1.trans x2)) h3 λv3 H3 x3 r3=> ?_
   have r2:=r2.ex x3
   have r1:=(r1.ex x2).ex x3
   obtain ⟨l1,us,o1,rfl,e1,n1,d1,u1⟩:=r1.rdE
   obtain ⟨l2,ws,o2,rfl,e2,n2,d2,u2⟩:=r2.rdE
   obtain ⟨l3,ks,o3,rfl,e3,n3,d3,u3⟩:=r3.rdE
   have sq: ∀ {H':Hp} {l:Addr} {o:HO} {vs:List V},H' l=some o->(o= .lst vs\/ ∃u,o= .frz u (.lst vs))->SqL K H' l vs:=λ{H' l o vs} e d=>by
    rcases d with rfl|⟨u,rfl⟩
    ·exact .inl (.inl e)
    ·exact .inl (.inr ⟨u,e⟩)
   refine ⟨l1,l2,l3,rfl,⟨us,sq e1 d1⟩,⟨ws,sq e2 d2⟩,⟨ks,sq e3 d3⟩,q _ rfl _ H3 (.rfl' R ((x1.trans x2).trans x3)) λH' x=> ?_⟩
   have a1:SqL K H' l1 us:=sq (x.keep _ _ e1 n1) d1
   have a2:SqL K H' l2 ws:=sq (x.keep _ _ e2 n2) d2
   have a3:SqL K H' l3 ks:=sq (x.keep _ _ e3 n3) d3
   have b1:=u1.ex x
   have b2:=u2.ex x
   have b3:=u3.ex x
   have m1:=b1.length
   have m2:=b2.length
   have m3:=b3.length
   have m4:((List.range xs.length).map λi=>PV.tup [xs.getD i .non,ys.getD i .non,zs.getD i .non]).length=xs.length:=by rw [List.length_map,List.length_range]
   refine ⟨λi hi=>⟨⟨us,ws,ks,a1,a2,a3,by omega,by omega,by omega⟩,λy H2 z=> ?_⟩,⟨us,ws,ks,a1,a2,a3,by omega,by omega,by omega⟩⟩
   obtain ⟨T,y1,y2,y3,rfl,hT,rfl,z⟩:=z
   obtain ⟨g1,g2,g3⟩:=z us ws ks a1 a2 a3
   obtain ⟨q1,c1,w1⟩:=b1.getV g1
   obtain ⟨q2,c2,w2⟩:=b2.getV g2
   obtain ⟨q3,c3,w3⟩:=b3.getV g3
   have sn:=Same.new (o:= .tup [y1,y2,y3]) hT
   have fn:Fz H' (upd H' T (.tup [y1,y2,y3])):=λc o e _=>sn c o e
   refine ⟨sn,.tup [q1,q2,q3],?_,.tup upd_same (.cons (w1.fz fn) (.cons (w2.fz fn) (.cons (w3.fz fn) .nil)))⟩
   rw [m4] at hi
   rw [List.getElem?_map,List.getElem?_range hi]
   simp only [Option.map_some,List.getD_eq_getElem?_getD,c1,c2,c3,Option.getD_some]
  next=>cases h'
 next=>cases h'⟩
theorem comp_run {k:Nat} {js:List Nat} {g:TG} {tt:TT} {te:TE} {tg:FG} {cond:ET} {elt:EF} {J:It} {D:Addr} {xs ys:List PV} {QQ:Hp->Prop} (hb:TbS tb) (R:ER K tb H0 H1 σ ρ) (hj:js.Nodup) (hD:H1 D=none) (ok:ItE K tb J H1 xs)
  (hg: ∀H0 H σ ρ ρ' v p (Q:St->Hp->Prop),ER K tb H0 H σ ρ->Rep K H v p->tg p ρ=some ρ'->(∀σ',ER K tb H0 H σ' ρ'->σ'.length=σ.length->(∀j,k<=j->σ'[j]? =σ[j]?)->Q σ' H)->g v σ H Q)
  (ht:KTT K tb tt cond) (he:KF K tb te elt) (h2:mapF (cTurn (cstR ρ k js) tg cond elt) xs=some ys) (hz:ys.length<=sizeLine) (q: ∀H2,Ex tb H1 H2->RepU K H2 D (.lst ys)->QQ H2):CompBody J g tt te k (cst σ k js) D H1 QQ:=by
 have R1:=R.comp k hj
 refine ⟨λi m vs H2=>m=xs.length - i/\i<=xs.length/\Ex tb H1 H2/\H2 D=some (.lst vs)/\ ∃qs rest,Reps K H2 vs qs/\mapF (cTurn (cstR ρ k js) tg cond elt) (xs.drop i)=some rest/\qs++rest=ys,
  ⟨xs.length,by simp,Nat.zero_le _,Ex.new hb hD,upd_same,[],ys,.nil,h2,rfl⟩,?_⟩
 rintro i m vs H2 ⟨rfl,hi,x2,hd,qs,rest,rq,hm,hys⟩
 obtain ⟨go,stop⟩:=ok H2 x2
 by_cases hlt:i<xs.length
 ·obtain ⟨g1,g2⟩:=go i hlt
  refine .inr ⟨g1,λvs' H'=>i+1<=xs.length/\Ex tb H1 H'/\H' D=some (.lst vs')/\ ∃qs rest,Reps K H' vs' qs/\mapF (cTurn (cstR ρ k js) tg cond elt) (xs.drop (i+1))=some rest/\qs++rest=ys,λvs' H' z=>⟨xs.length - (i+1),by omega,rfl,z⟩,λx H3 y=> ?_⟩
  obtain ⟨sm,p,ep,rp⟩:=g2 x H3 y
  have x3:=Ex.same (tb:=tb) hb sm
  have x13:=x2.trans x3
  have hd3:=sm _ _ hd
  rw [List.getElem?_eq_getElem hlt] at ep
  cases ep
  rw [List.drop_eq_getElem_cons hlt] at hm
  unfold mapF at hm
  obtain ⟨o,t1,hm⟩:=obs hm
  obtain ⟨zs,t2,hm⟩:=obs hm
  unfold cTurn at t1
  obtain ⟨ρ1,t3,t1⟩:=obs t1
  obtain ⟨bb,t4,t1⟩:=obs t1
  refine hg H0 H3 _ _ ρ1 x _ _ (R1.go x13) rp t3 λσ3 R3 l3 d3=>⟨⟨l3,d3⟩,ht H0 H3 σ3 ρ1 bb _ hb R3 t4 λH4 x4=> ?_⟩
  have hd4:=x4.keep _ _ hd3 rfl
  cases bb with
  |false=>
   rw [if_neg Bool.false_ne_true] at t1
   cases t1
   cases hm
   exact iteF ⟨hlt,x13.trans x4,hd4,qs,zs,((rq.ex x3).ex x4),t2,hys⟩
  |true=>
   rw [if_pos rfl] at t1
   obtain ⟨w,t5,rfl⟩:=oms t1
   cases hm
   refine iteT (he H0 H4 σ3 ρ1 w _ hb (R3.go x4) t5 λy H5 x5 r5=> ?_)
   have hd5:=x5.keep _ _ hd4 rfl
   have x15:=(x13.trans x4).trans x5
   have r15:=((rq.ex x3).ex x4).ex x5
   have lq:=r15.length
   have hzs:vs.length<sizeLine:=by
    have:=congrArg List.length hys
    rw [List.length_append,List.length_cons] at this
    omega
   have fz:Fz H5 (upd H5 D (.lst (vs++ [y]))):=Fz.upd λu e=>by rw [hd5] at e;cases e;rfl
   exact ⟨hd5,hzs,hlt,x15.updN hb hD hd5,upd_same,qs++ [w],zs,(r15.snoc r5).fz fz,t2,by rw [List.append_assoc];exact hys⟩
 ·have e:i=xs.length:=by omega
  subst e
  rw [List.drop_length] at hm
  cases hm
  rw [List.append_nil] at hys
  subst hys
  exact .inl ⟨stop,q H2 x2 (.lst hd rq)⟩
def xComp (k:Nat) (js:List Nat) (it:XI) (tg:FG) (cond:ET) (elt:EF):XF:=λW ρ=>(it W ρ).bind λr=>match r.1 with
 | .error k=>some (.error k,r.2)
 | .ok xs=>(mapF (cTurn (cstR ρ k js) tg cond elt) xs).bind λys=>if ys.length<=sizeLine then some (.ok (.lst ys),r.2) else none
theorem jx_comp {elt iter tg:Expr} {ifs:List Expr} {sc:Scope} {wi:TI} {g:TG} {tt:TT} {te:TE} {fi:XI} {ft:FG} {fc:ET} {fe:EF} (NX:List Str) (sx:Scope) (k:Nat) (js:List Nat) (N:List Str) (hj:js.Nodup) (hc:X.calm=true) (hfr:frOk NX N sx sc k js=true) (hi:JXI K tb cB cs E X tg iter wi fi)
  (hg: ∀cl s H ex,JG K tb k (cxComp X N sc cl s H ex) tg g ft) (ht: ∀cl s H ex,JTs K tb (cxComp X N sc cl s H ex) ifs tt fc) (he: ∀cl s H ex,JF K tb (cxComp X N sc cl s H ex) elt te fe)
  (hfree: ∀y∈sc.names,y.2= .free->sx.names.lookup y.1=some .cell) (hnames: ∀y∈sc.names,y.2= .local->sc.names.lookup y.1=some .local) (hcell: ∀y∈sc.names,y.2≠ .cell)
  (hNX:X.N=NX:=by rfl) (hsx:X.env.scope=sx:=by rfl) (hk:sc.kind= .function:=by rfl) (hs: ∀x,foldedSetIterable iter X.env x=pure x:=by intro _;rfl):
  JX K tb cB cs E X (.ListComp elt [⟨tg,iter,ifs,0⟩] sc pos) (tComp wi g tt te k js) (xComp k js fi ft fc fe):=
 ⟨pe_comp NX sx k js N hc hfr hi.pe (λcl s H ex=>(hg cl s H ex).pe) (λcl s H ex=>(ht cl s H ex).pe) (λcl s H ex=>(he cl s H ex).pe) hfree hnames hcell hNX hsx hk hs,
  λH0 W0 W H σ ρ r W' Q hb R h q qe=>by
   unfold xComp at h
   obtain ⟨⟨r1,W1⟩,h1,h⟩:=obs h
   dsimp only at h
   cases r1 with
   |error k'=>cases h;exact hi.k H0 W0 W H σ ρ _ _ _ hb R h1 (λp e=>by cases e) λk' e=>by cases e;exact qe _ rfl
   |ok xs=>
    obtain ⟨ys,h2,h⟩:=obs h
    split at h
    next hz=>
     cases h
     refine hi.k H0 W0 W H σ ρ _ _ _ hb R h1 (λps e J H1 x1 ok D hD=> ?_) λk' e=>by cases e
     cases e
     have R1:=R.post x1
     obtain ⟨G,_,_,S⟩:=R1.er
     exact comp_run hb S hj hD ok (hg [] X.s₀ X.H₀ []).k (ht [] X.s₀ X.H₀ []).k (he [] X.s₀ X.H₀ []).k h2 hz λH2 x2 u=>q _ rfl _ H2 (x1.ex x2) (.un rfl (x1.nil hD) u) rfl
    next=>cases h⟩
end
section
variable {X:Cx} {pins:List (Addr×Obj)} {σ:List (Option V)} {H:Hp} {s:Shared}
theorem Inv.thaw {a:Addr} {o:Obj} {xs:List V} (I:Inv X pins σ H s) (hu:H a=some (.frz o (.lst xs))) (nb: ∀o u,X.H₀ a≠some (.frz o u)):Inv X pins σ (upd H a (.lst xs)) s:=by
 have ne: ∀ {b:Addr},H b=none->b≠a:=λ{b} n z=>by subst z;rw [hu] at n;cases n
 refine ⟨I.ok,I.os,I.bare,⟨I.base.keep,I.base.slot,λb ob q n hx=> ?_,I.base.there,λb xs q=> ?_,λb ob u' q=> ?_,λb ps q=> ?_⟩,I.loc,I.cell,?_,λx c h=> ?_,λp hp=> ?_,λb w q=> ?_,I.len⟩
 ·have:=I.base.free b ob q n hx
  rw [upd_ne (ne this)];exact this
 ·have:=I.base.tups b xs q
  rw [upd_ne (λz=>by subst z;rw [hu] at this;cases this)];exact this
 ·have:=I.base.frzs b ob u' q
  rw [upd_ne (λz=>by subst z;exact nb _ _ q)];exact this
 ·obtain ⟨more,this⟩:=I.base.tbls b ps q
  exact ⟨more,by rw [upd_ne (λz=>by subst z;rw [hu] at this;cases this)];exact this⟩
 ·rw [upd_ne (ne I.free)];exact I.free
 ·rw [upd_ne (ne (I.freeC x c h))];exact I.freeC x c h
 ·obtain ⟨h1,h2,h3⟩:=I.pin p hp
  exact ⟨h1,by rw [upd_ne (ne h2)];exact h2,h3⟩
 ·have st: ∀ {c:Addr} {o':HO},ObjOk X.prog X.w H s.heap c o'->ObjOk X.prog X.w (upd H a (.lst xs)) s.heap c o':=λ{c o'} x=>
   x.stay (λ_ _ _ z=>z) (λd z=>by rw [upd_ne (λy=>by subst y;rw [hu] at z;cases z)];exact z) λd xs z=>by rw [upd_ne (λy=>by subst y;rw [hu] at z;cases z)];exact z
  by_cases hb:b=a
  ·subst hb
   rw [upd_same] at q
   cases q
   exact st (I.hok b _ hu).2
  ·rw [upd_ne hb] at q
   exact st (I.hok b w q)
abbrev Lent:=List (Addr×List V)
def thawL (H:Hp):Lent->Hp
 | []=>H
 |p::L=>upd (thawL H L) p.1 (.lst p.2)
structure FrzL (H:Hp) (L:Lent) (Hb:Hp):Prop where
 out: ∀a,a∉L.map Prod.fst->Hb a=H a
 at_: ∀p∈L,FzL Hb p.1 p.2
theorem thawL_ne {a:Addr}: ∀ {L:Lent},a∉L.map Prod.fst->thawL H L a=H a
 | [],_=>rfl
 |p::L,h=>by
  have h1:a≠p.1:=λz=>h (by rw [z];simp)
  show upd (thawL H L) p.1 (.lst p.2) a=_
  rw [upd_ne h1]
  exact thawL_ne λz=>h (by rw [List.map_cons];exact List.mem_cons_of_mem _ z)
theorem thawL_at: ∀ {L:Lent},(L.map Prod.fst).Nodup-> ∀p∈L,thawL H L p.1=some (.lst p.2)
 |q::L,n,p,h=>by
  rw [List.map_cons,List.nodup_cons] at n
  show upd (thawL H L) q.1 (.lst q.2) p.1=_
  rcases List.mem_cons.mp h with rfl|h
  ·exact upd_same
  ·rw [upd_ne (λz=>n.1 (by rw [<-z];exact List.mem_map_of_mem h))]
   exact thawL_at n.2 p h
theorem Inv.frozenL: ∀ {L:Lent} {H:Hp},Inv X pins σ H s->(L.map Prod.fst).Nodup->(∀p∈L,H p.1=some (.lst p.2))-> ∃Hb,FrzL H L Hb/\Inv X pins σ Hb s
 | [],H,I,_,_=>⟨H,⟨λ_ _=>rfl,λp hp=>by cases hp⟩,I⟩
 |p::L,H,I,n,h=>by
  rw [List.map_cons,List.nodup_cons] at n
  have hp:=h p List.mem_cons_self
  obtain ⟨_,its,k,_,g⟩:=I.hok p.1 _ hp
  have I2:=I.frozen hp rfl (λy z=>by cases z) (λy z=>by cases z) g
  obtain ⟨Hb,fz,I3⟩:=Inv.frozenL (L:=L) I2 n.2 λq hq=>by
   rw [upd_ne (λz=>n.1 (by rw [<-z];exact List.mem_map_of_mem hq))]
   exact h q (List.mem_cons_of_mem _ hq)
  refine ⟨Hb,⟨λa ha=> ?_,λq hq=> ?_⟩,I3⟩
  ·rw [List.map_cons,List.mem_cons,not_or] at ha
   rw [fz.out a ha.2,upd_ne ha.1]
  ·rcases List.mem_cons.mp hq with rfl|hq
   ·exact ⟨_,by rw [fz.out _ n.1];exact upd_same⟩
   ·exact fz.at_ q hq
theorem Inv.thawL: ∀ {L:Lent} {H:Hp},Inv X pins σ H s->(L.map Prod.fst).Nodup->(∀p∈L,FzL H p.1 p.2)->(∀p∈L,∀o u,X.H₀ p.1≠some (.frz o u))->Inv X pins σ (L2.thawL H L) s
 | [],H,I,_,_,_=>I
 |p::L,H,I,n,h,nb=>by
  rw [List.map_cons,List.nodup_cons] at n
  obtain ⟨o,ho⟩:=h p List.mem_cons_self
  exact (Inv.thawL (L:=L) I n.2 (λq hq=>h q (List.mem_cons_of_mem _ hq)) λq hq=>nb q (List.mem_cons_of_mem _ hq)).thaw (by rw [thawL_ne n.1];exact ho) (nb p List.mem_cons_self)
def tBor (t:TE):TE:=λσ H Q=> ∃L:Lent,(L.map Prod.fst).Nodup/\(∀p∈L,H p.1=some (.lst p.2))/\ ∀Hb,FrzL H L Hb->t σ Hb λv H1=>(∀p∈L,FzL H1 p.1 p.2)/\Q v (thawL H1 L)
theorem PE.bor {e:Expr} {t:TE} (h:PE X e t):PE X e (tBor t):=by
 intro pins s σ H Q I ⟨L,n,hL,q⟩
 obtain ⟨Hb,fz,I2⟩:=I.frozenL n hL
 have nb: ∀p∈L,∀o u,X.H₀ p.1≠some (.frz o u):=λp hp o u z=>by
  have:=I.base.frzs _ _ _ z
  rw [hL p hp] at this;cases this
 refine thn (h pins s σ Hb _ I2 (q Hb fz)) λv s1 ⟨x,H1,I1,r,f,q1⟩=> ?_
 exact ⟨x,thawL H1 L,I1.thawL n f nb,r,q1⟩
def tFrzs (t:TS):TS:=λD σ H=> ∃L:Lent,(L.map Prod.fst).Nodup/\(∀p∈L,H p.1=some (.lst p.2))/\ ∀Hb,FrzL H L Hb->t D σ Hb
theorem PS.frzs {st:Stmt} {t:TS} (h:PS X st t):PS X st (tFrzs t):=by
 intro pins s σ H D I ⟨L,n,hL,q⟩
 obtain ⟨Hb,fz,I2⟩:=I.frozenL n hL
 exact h pins s σ Hb D I2 (q Hb fz)
end
mutual
def noL:PV->Bool
 | .tup xs=>noLs xs
 | .tpf xs=>noLs xs
 | .sc xs=>noLs xs
 | .lst _=>false
 | .dk _=>false
 | .dt _=>false
 |_=>true
def noLs:List PV->Bool
 | []=>true
 |p::ps=>noL p && noLs ps
end
def tupO:HO->Bool
 | .tup _=>true
 | .frz _ (.tup _)=>true
 |_=>false
section
variable {K:Frag} {tb:Hp->Prop} {H H' H1 H2 Hb:Hp} {v:V} {p:PV} {vs:List V} {ps:List PV} {L:Lent}
mutual
theorem Rep.tups (k: ∀a o,H a=some o->tupO o=true->H' a=some o): ∀ {v:V} {p:PV},Rep K H v p->noL p=true->Rep K H' v p
 |_,_,.non,_=> .non
 |_,_,.bl b,_=> .bl b
 |_,_,.int i,_=> .int i
 |_,_,.str x,_=> .str x
 |_,_,.ob x,_=> .ob x
 |_,_,.tup h r,n=> .tup (k _ _ h rfl) (Reps.tups k r (by simpa [noL] using n))
 |_,_,.tpf h r,n=>by
  obtain ⟨o,d,e⟩:=h
  exact .tpf ⟨o,d,k _ _ e rfl⟩ (Reps.tups k r (by simpa [noL] using n))
 |_,_,.sc h r,n=> .sc h (Reps.tups k r (by simpa [noL] using n))
 |_,_,.lst h r,n=>by cases n
 |_,_,.dk h l r,n=>by cases n
 |_,_,.dt h l r,n=>by cases n
theorem Reps.tups (k: ∀a o,H a=some o->tupO o=true->H' a=some o): ∀ {vs:List V} {ps:List PV},Reps K H vs ps->noLs ps=true->Reps K H' vs ps
 |_,_,.nil,_=> .nil
 |_,_,.cons h r,n=>by
  simp only [noLs,Bool.and_eq_true] at n
  exact .cons (Rep.tups k h n.1) (Reps.tups k r n.2)
end
theorem FrzL.tup (f:FrzL H L Hb) (hL: ∀p∈L,H p.1=some (.lst p.2)): ∀a o,H a=some o->fx o=true->Hb a=some o:=λa o e t=>by
 rw [f.out a λz=> ?_]
 ·exact e
 ·obtain ⟨p,hp,rfl⟩:=List.mem_map.mp z
  rw [hL p hp] at e;cases e;cases t
theorem FrzL.fz (f:FrzL H L Hb) (hL: ∀p∈L,H p.1=some (.lst p.2)):Fz H Hb:=f.tup hL
theorem Rep.thawn (r:Rep K H1 v p) (n:noL p=true) (hL: ∀q∈L,FzL H1 q.1 q.2):Rep K (thawL H1 L) v p:=r.tups (λa o e t=>by
 rw [thawL_ne λz=> ?_]
 ·exact e
 ·obtain ⟨q,hq,rfl⟩:=List.mem_map.mp z
  obtain ⟨u,e'⟩:=hL q hq
  rw [e] at e';cases e';cases t) n
def TbT (tb:Hp->Prop):Prop:= ∀H L,(∀p∈L,FzL H p.1 p.2)->tb H->tb (thawL H L)
theorem Ex.thawn (hb:TbS tb) (ht:TbT tb) (f:FrzL H L Hb) (nd:(L.map Prod.fst).Nodup) (hL: ∀p∈L,H p.1=some (.lst p.2)) (x:Ex tb Hb H1) (h1: ∀p∈L,FzL H1 p.1 p.2):Ex tb H (thawL H1 L):=by
 have inL: ∀a,a∈L.map Prod.fst\/a∉L.map Prod.fst:=λa=>Classical.em _
 have tbb:tb H->tb Hb:=λt=>hb H Hb (λa o e n=>by
  rcases inL a with z|z
  ·obtain ⟨p,hp,rfl⟩:=List.mem_map.mp z
   rw [hL p hp] at e;cases e;cases n
  ·rw [f.out a z];exact e) t
 refine ⟨λa o e n=> ?_,λt=> ?_,λa z=> ?_⟩
 ·rcases inL a with z|z
  ·obtain ⟨p,hp,rfl⟩:=List.mem_map.mp z
   rw [thawL_at nd p hp, <-hL p hp];exact e
  ·rw [thawL_ne z]
   exact x.keep a o (by rw [f.out a z];exact e) n
 ·exact ht H1 L h1 (x.tb (tbb t))
 ·rcases inL a with y|y
  ·obtain ⟨p,hp,rfl⟩:=List.mem_map.mp y
   rw [thawL_at nd p hp];simp
  ·rw [thawL_ne y]
   exact x.dom a (by rw [f.out a y];exact z)
end
structure NL (K:Frag) (H:Hp) (r:Addr) (as:List Addr) (pss:List (List PV)):Prop where
 top:H r=some (.lst (as.map V.ref))
 nd:(r::as).Nodup
 len:as.length=pss.length
 at_: ∀(j:Nat) (a:Addr) (ps:List PV),as[j]? =some a->pss[j]? =some ps->FldAt K H a ps
structure NLs (K:Frag) (tb:Hp->Prop) (H H':Hp) (r:Addr) (as as':List Addr) (pss':List (List PV)):Prop where
 nl:NL K H' r as' pss'
 keep: ∀a o,H a=some o->notTbl o=true->a≠r->a∉as->H' a=some o
 dom: ∀a,H a≠none->H' a≠none
 tb:tb H'
 new: ∀a∈as',a∈as\/H a=none
abbrev NF:=List (List PV)->Rho->Option (List (List PV))
section
variable {X:Cx} {K:Frag} {tb:Hp->Prop} {e a b c:Expr} {es:List Expr} {t ta tb' tc te ti:TE} {f g h:EF} {pos p p2:Pos} {st:Stmt} {sts rest:List Stmt} {ts us:TS} {i:Nat}
variable {H0 H H' H1 H2:Hp} {σ σ':St} {ρ ρ':Rho} {r:Addr} {as as':List Addr} {pss pss':List (List PV)}
theorem NL.ex (x:Ex tb H H') (n:NL K H r as pss):NL K H' r as pss:=⟨x.keep _ _ n.top rfl,n.nd,n.len,λj a ps e1 e2=>let ⟨vs,e,rs⟩:=n.at_ j a ps e1 e2;⟨vs,x.keep _ _ e rfl,rs.ex x⟩⟩
theorem NL.get {j:Nat} {ps:List PV} (n:NL K H r as pss) (e:pss[j]? =some ps): ∃a,as[j]? =some a/\FldAt K H a ps:=by
 have hj:j<pss.length:=(List.getElem?_eq_some_iff.mp e).1
 have hj':j<as.length:=by rw [n.len];exact hj
 exact ⟨as[j],List.getElem?_eq_getElem hj',n.at_ j _ ps (List.getElem?_eq_getElem hj') e⟩
theorem NL.lt {j:Nat} {a:Addr} (n:NL K H r as pss) (e:as[j]? =some a): ∃ps,pss[j]? =some ps/\FldAt K H a ps:=by
 have hj:j<as.length:=(List.getElem?_eq_some_iff.mp e).1
 have hj':j<pss.length:=by rw [<-n.len];exact hj
 exact ⟨pss[j],List.getElem?_eq_getElem hj',n.at_ j a _ e (List.getElem?_eq_getElem hj')⟩
theorem NLs.of_ex (x:Ex tb H H') (ht:tb H) (n:NL K H r as pss):NLs K tb H H' r as as pss:=⟨n.ex x,λa o e nt _ _=>x.keep a o e nt,x.dom,x.tb ht,λa h=> .inl h⟩
theorem NLs.ahead (x:Ex tb H H1) (s:NLs K tb H1 H2 r as as' pss'):NLs K tb H H2 r as as' pss':=⟨s.nl,λa o e nt h1 h2=>s.keep a o (x.keep a o e nt) nt h1 h2,λa z=>s.dom a (x.dom a z),s.tb,λa z=>(s.new a z).imp id x.nil⟩
def KNe (K:Frag) (tb:Hp->Prop) (i:Nat) (t:TS) (f:NF):Prop:= ∀H σ ρ pss pss' r as D,TbS tb->TbT tb->ER K tb H H σ ρ->σ[i]? =some (some (.ref r))->NL K H r as pss->f pss ρ=some pss'->(∀H' as',NLs K tb H H' r as as' pss'->D.nx σ H')->t D σ H
structure JNe (K:Frag) (tb:Hp->Prop) (i:Nat) (X:Cx) (st:Stmt) (t:TS) (f:NF):Prop where
 pe:PS X st t
 k:KNe K tb i t f
structure JNes (K:Frag) (tb:Hp->Prop) (i:Nat) (X:Cx) (st:List Stmt) (t:TS) (f:NF):Prop where
 pe:PSs X st t
 k:KNe K tb i t f
def nNil:NF:=λpss _=>some pss
theorem ER.re (R:ER K tb H H σ ρ) (x:Ex tb H H1):ER K tb H1 H1 σ ρ:=by
 have R1:=R.go x
 refine ⟨R1.im,λi p h=> ?_,R1.dj,Ex.refl,R1.tb,R1.len⟩
 obtain ⟨a,_,n,u⟩:=R.mu i p h
 obtain ⟨o,e,_⟩:=u.mut
 rw [n] at e;cases e
theorem jne_nil:JNes K tb i X [] (λD σ H=>D.nx σ H) nNil:=⟨pss_nil,λH σ ρ pss pss' r as D hb ht R hi n h q=>by cases h;exact q H as (.of_ex Ex.refl R.tb n)⟩
theorem jne_one {f:NF} (j:JNe K tb i X st ts f):JNes K tb i X [st] ts f:=⟨pss_one j.pe,j.k⟩
def nIf (c:ET) (f g:NF):NF:=λpss ρ=>(c ρ).bind λb=>if b=true then f pss ρ else g pss ρ
theorem jne_if {c0:Expr} {xs ys:List Stmt} {tt:TT} {fc:ET} {f g:NF} (hc:JT K tb X c0 tt fc) (ha:JNes K tb i X xs ts f) (hb:JNes K tb i X ys us g):JNe K tb i X (.If c0 xs ys pos) (tIfS tt ts us) (nIf fc f g):=⟨ps_if hc.pe ha.pe hb.pe,λH σ ρ pss pss' r as D hb' ht R hi n h q=>by
 unfold nIf at h
 obtain ⟨b,h1,h⟩:=obs h
 refine hc.k H H σ ρ b _ hb' R h1 λH1 x1=> ?_
 cases b with
 |true=>exact iteT (ha.k H1 σ ρ pss pss' r as D hb' ht (R.re x1) hi (n.ex x1) h λH' as' s=>q H' as' (s.ahead x1))
 |false=>exact iteF (hb.k H1 σ ρ pss pss' r as D hb' ht (R.re x1) hi (n.ex x1) h λH' as' s=>q H' as' (s.ahead x1))⟩
theorem atI_map {α β:Type} {f:α->β} {xs:List α} {j:Int}:atI (xs.map f) j=(atI xs j).map f:=by
 unfold atI
 rw [List.length_map]
 cases ixN xs.length j with
 |none=>rfl
 |some k=>simp [List.getElem?_map]
theorem k_item {j:Int} {k:Nat} {ps:List PV} {Q:VK} (hb:TbS tb) (R:ER K tb H H σ ρ) (hi:σ[i]? =some (some (.ref r))) (n:NL K H r as pss) (jt:JB K tb X a ti g) (h1:g ρ=some (.int j)) (h2:ixN pss.length j=some k) (h3:pss[k]? =some ps)
  (q: ∀H1 x,Ex tb H H1->as[k]? =some x->FldAt K H1 x ps->Q (.ref x) H1):tOp (rIxQ K) (tVar i) ti σ H Q:=by
 refine ⟨.ref r,hi,jt.k H H σ ρ _ _ hb R h1 λw H1 x1 r1=> ?_⟩
 have n1:=n.ex x1
 obtain ⟨x,e1,e2⟩:=n1.get h3
 refine ⟨r,as.map V.ref,j,.ref x,rfl,r1.int,.inl (.of n1.top),?_,q H1 x x1 e1 e2⟩
 rw [atI_map]
 unfold atI
 rw [n.len,h2,Option.bind_some,e1]
 rfl
theorem set_nl {k:Nat} {x:Addr} {ps:List PV} {vs:List V} {v:V} {q:PV} (hb:TbS tb) (ht:tb H) (n:NL K H r as pss) (e:as[k]? =some x) (e2:pss[k]? =some ps) (ex:H x=some (.lst vs)) (rs:Reps K H vs ps) (rv:Rep K H v q):
  NLs K tb H (upd H x (.lst (vs++ [v]))) r as as (pss.set k (ps++ [q])):=by
 have fz:Fz H (upd H x (.lst (vs++ [v]))):=Fz.upd λu e=>by rw [ex] at e;cases e;rfl
 have nd:=n.nd
 rw [List.nodup_cons] at nd
 have hx:x∈as:=List.mem_of_getElem? e
 have hr:r≠x:=λz=>nd.1 (z ▸ hx)
 have hk:k<as.length:=(List.getElem?_eq_some_iff.mp e).1
 have hk2:k<pss.length:=by rw [<-n.len];exact hk
 refine ⟨⟨by rw [upd_ne hr];exact n.top,n.nd,by rw [List.length_set];exact n.len,λj a qs e3 e4=> ?_⟩,λa o e3 _ _ h2=>by rw [upd_ne (λz=>by subst z;exact h2 hx)];exact e3,λa z=> ?_,?_,λa z=> .inl z⟩
 ·by_cases hj:j=k
  ·subst hj
   rw [e] at e3;cases e3
   rw [List.getElem?_set_self hk2] at e4
   cases e4
   exact ⟨_,upd_same,(rs.snoc rv).fz fz⟩
  ·rw [List.getElem?_set_ne (Ne.symm hj)] at e4
   have ne:a≠x:=λz=>by
    subst z
    exact hj ((List.getElem?_inj (List.getElem?_eq_some_iff.mp e3).1 nd.2).mp (e3.trans e.symm))
   obtain ⟨ws,h1,h2⟩:=n.at_ j a qs e3 e4
   exact ⟨ws,by rw [upd_ne ne];exact h1,h2.fz fz⟩
 ·by_cases y:a=x
  ·rw [y,upd_same];simp
  ·rw [upd_ne y];exact z
 ·exact hb H _ (λc u' e3 n=>by rw [upd_ne (λz=>by subst z;rw [ex] at e3;cases e3;cases n)];exact e3) ht
abbrev NV:=List (List PV)->Rho->Option PV
def KVn (K:Frag) (tb:Hp->Prop) (i:Nat) (t:TE) (f:NV):Prop:= ∀H σ ρ pss r as p Q,TbS tb->TbT tb->ER K tb H H σ ρ->σ[i]? =some (some (.ref r))->NL K H r as pss->f pss ρ=some p->(∀v H',Ex tb H H'->Rep K H' v p->Q v H')->t σ H Q
structure JVn (K:Frag) (tb:Hp->Prop) (i:Nat) (X:Cx) (e:Expr) (t:TE) (f:NV):Prop where
 pe:PE X e t
 k:KVn K tb i t f
def nvF (f:EF):NV:=λ_ ρ=>f ρ
theorem jv_f (j:JF K tb X e t f):JVn K tb i X e t (nvF f):=⟨j.pe,λH σ ρ pss r as p Q hb ht R hi n h q=>j.k H H σ ρ p _ hb R h q⟩
def nvCall (m:List PV->Option PV) (g f:EF):NV:=λpss ρ=>(g ρ).bind λy=>match y with
 | .int j=>(ixN pss.length j).bind λk=>(pss[k]?).bind λps=>(f ρ).bind λq=>(m [.lst ps,q]).bind λz=>if noL z=true then some z else none
 |_=>none
theorem jv_call {m:List PV->Option PV} (hp:PE X a ti->PE X b te->PE X e (tCall (spP K tb m) [] E0 (tCons (tOp (rIxQ K) (tVar i) ti) (tCons te tNil)))) (jg:JB K tb X a ti g) (jf:JF K tb X b te f):JVn K tb i X e (tBor (tCall (spP K tb m) [] E0 (tCons (tOp (rIxQ K) (tVar i) ti) (tCons te tNil)))) (nvCall m g f):=⟨(hp jg.pe jf.pe).bor,λH σ ρ pss r as p Q hb ht R hi n h q=>by
 unfold nvCall at h
 obtain ⟨y,h1,h⟩:=obs h
 split at h
 next j=>
  obtain ⟨k,h2,h⟩:=obs h
  obtain ⟨ps,h3,h⟩:=obs h
  obtain ⟨w,h4,h⟩:=obs h
  obtain ⟨z,h5,h⟩:=obs h
  split at h
  next hz=>
   cases h
   obtain ⟨x,e1,vs,hx,rs⟩:=n.get h3
   have nd:=n.nd
   rw [List.nodup_cons] at nd
   have hL: ∀p∈([(x,vs)]:Lent),H p.1=some (.lst p.2):=λp hp=>by rw [List.mem_singleton.mp hp];exact hx
   refine ⟨[(x,vs)],by simp,hL,λHb fb=> ?_⟩
   have fz:=fb.fz hL
   have fx0:FzL Hb x vs:=fb.at_ (x,vs) (by simp)
   have hr:r≠x:=λz=>nd.1 (z ▸ List.mem_of_getElem? e1)
   have topb:Hb r=some (.lst (as.map V.ref)):=by rw [fb.out r (by simpa using hr)];exact n.top
   have tbb:tb Hb:=hb H Hb (λa o e nn=>by
    rw [fb.out a (λz=>by
     have:a=x:=by simpa using z
     subst this;rw [hx] at e;cases e;cases nn)]
    exact e) R.tb
   have Rb:ER K tb Hb Hb σ ρ:=by
    refine ⟨λi p h=> ?_,λi p h=> ?_,R.dj,Ex.refl,tbb,R.len⟩
    ·obtain ⟨v,a1,a2⟩:=R.im i p h;exact ⟨v,a1,a2.fz fz⟩
    ·obtain ⟨a,_,n,u⟩:=R.mu i p h
     obtain ⟨o,e,_⟩:=u.mut
     rw [n] at e;cases e
   refine ⟨.ref r,hi,jg.k Hb Hb σ ρ _ _ hb Rb h1 λwj H1 x1 r1=> ?_⟩
   refine ⟨r,as.map V.ref,j,.ref x,rfl,r1.int,.inl (.of (x1.keep _ _ topb rfl)),?_,?_⟩
   ·rw [atI_map];unfold atI;rw [n.len,h2,Option.bind_some,e1];rfl
   refine jf.k Hb H1 σ ρ w _ hb (Rb.go x1) h4 λu H2 x2 r2=> ?_
   have x12:=x1.trans x2
   show spP K tb m ([V.ref x,u]++ []) H2 _ E0
   rw [List.append_nil]
   refine ⟨[.lst ps,w],_,.cons (.lst (fx0.fz x12.fz) (rs.fz (λa o e f=>x12.fz a o (fz a o e f) f))) (.cons r2 .nil),x12.tb tbb,h5,λv H3 x3 nn ns=> ?_⟩
   have x13:=x12.trans x3
   have f3: ∀q∈([(x,vs)]:Lent),FzL H3 q.1 q.2:=λq hq=>by rw [List.mem_singleton.mp hq];exact fx0.fz x13.fz
   refine ⟨f3,q v _ (Ex.thawn hb ht fb (by simp) hL x13 f3) ?_⟩
   cases nn with
   |im nn=>exact nn.thawn hz f3
   |un e hn u=>cases u<;>cases hz
  next=>cases h
 next=>cases h⟩
def nApp (g:EF) (f:NV):NF:=λpss ρ=>(g ρ).bind λy=>match y with
 | .int j=>(ixN pss.length j).bind λk=>(pss[k]?).bind λps=>(f pss ρ).bind λq=>if ps.length<sizeLine then some (pss.set k (ps++ [q])) else none
 |_=>none
theorem jne_app {f:NV} (hp:PE X a ti->PA X [e] (tCons te tNil)->PS X st (tDrop (tBM K "list" rAppend (tOp (rIxQ K) (tVar i) ti) (tCons te tNil)))) (jg:JB K tb X a ti g) (jv:JVn K tb i X e te f) (hs:starEach [e] X.env=(false,eval e X.env)::starEach [] X.env:=by rfl):
  JNe K tb i X st (tDrop (tBM K "list" rAppend (tOp (rIxQ K) (tVar i) ti) (tCons te tNil))) (nApp g f):=⟨hp jg.pe (pa_cons jv.pe pa_nil hs),λH σ ρ pss pss' r as D hb ht R hi n h q=>by
 unfold nApp at h
 obtain ⟨y,h1,h⟩:=obs h
 split at h
 next j=>
  obtain ⟨k,h2,h⟩:=obs h
  obtain ⟨ps,h3,h⟩:=obs h
  obtain ⟨w,h4,h⟩:=obs h
  split at h
  next hz=>
   cases h
   refine k_item hb R hi n jg h1 h2 h3 λH1 x x1 e1 ⟨vs,hx,rs⟩=>r_tyL (.of hx) ?_
   refine jv.k H1 σ ρ pss r as w _ hb ht (R.re x1) hi (n.ex x1) h4 λv H2 x2 r2=> ?_
   have hx2:=x2.keep _ _ hx rfl
   have rs2:=rs.ex x2
   have x12:=x1.trans x2
   exact ⟨x,vs,v,rfl,rfl,hx2,by rw [rs.length];exact hz,q _ as ((set_nl hb (x12.tb R.tb) (n.ex x12) e1 h3 hx2 rs2 r2).ahead x12)⟩
  next=>cases h
 next=>cases h⟩
def nNew:NF:=λpss _=>if pss.length<sizeLine then some (pss++ [[]]) else none
theorem jne_new (hp:PA X [e] (tCons (tLst tNil) tNil)->PS X st (tDrop (tBM K "list" rAppend (tVar i) (tCons (tLst tNil) tNil)))) (he:PE X e (tLst tNil)) (hs:starEach [e] X.env=(false,eval e X.env)::starEach [] X.env:=by rfl):JNe K tb i X st (tDrop (tBM K "list" rAppend (tVar i) (tCons (tLst tNil) tNil))) nNew:=⟨hp (pa_cons he pa_nil hs),λH σ ρ pss pss' r as D hb ht R hi n h q=>by
 unfold nNew at h
 split at h
 next hz=>
  cases h
  refine ⟨.ref r,hi,r_tyL (.of n.top) ⟨Nat.zero_le _,λx hx=> ?_⟩⟩
  have hr:r≠x:=λz=>by rw [<-z,n.top] at hx;cases hx
  have xn:Ex tb H (upd H x (.lst [])):=Ex.new hb hx
  have n1:=n.ex xn
  refine ⟨r,as.map V.ref,.ref x,rfl,rfl,n1.top,by rw [List.length_map,n.len];exact hz,?_⟩
  have nd:=n.nd
  rw [List.nodup_cons] at nd
  have hxa:x∉as:=λz=>by
   obtain ⟨j,hj,e⟩:=List.mem_iff_getElem.mp z
   obtain ⟨ps,_,vs,h1,_⟩:=n.lt (j:=j) (a:=x) (by rw [List.getElem?_eq_getElem hj,e])
   rw [hx] at h1;cases h1
  have fz:Fz (upd H x (.lst [])) (upd (upd H x (.lst [])) r (.lst (as.map V.ref++ [.ref x]))):=Fz.upd λu e=>by rw [n1.top] at e;cases e;rfl
  refine q _ (as++ [x]) ⟨⟨by rw [upd_same,List.map_append];rfl,?_,by simp [n.len],λj a ps e1 e2=> ?_⟩,λa o e nt h1 h2=> ?_,λa z=> ?_,?_,λa z=> ?_⟩
  ·rw [List.nodup_cons]
   refine ⟨λz=> ?_,List.nodup_append.mpr ⟨nd.2,by simp,λa ha b hb z=>hxa (by rw [<-List.mem_singleton.mp hb, <-z];exact ha)⟩⟩
   rcases List.mem_append.mp z with z|z
   ·exact nd.1 z
   ·exact hr (List.mem_singleton.mp z)
  ·have ar: ∀ {a:Addr},a∈as++ [x]->a≠r:=λ{a} z y=>by
    subst y
    rcases List.mem_append.mp z with z|z
    ·exact nd.1 z
    ·exact hr (List.mem_singleton.mp z)
   have ha:a≠r:=ar (List.mem_of_getElem? e1)
   by_cases hj:j<as.length
   ·rw [List.getElem?_append_left hj] at e1
    rw [List.getElem?_append_left (by rw [<-n.len];exact hj)] at e2
    obtain ⟨vs,h1,h2⟩:=n1.at_ j a ps e1 e2
    exact ⟨vs,by rw [upd_ne ha];exact h1,h2.fz fz⟩
   ·have hjl:j<(as++ [x]).length:=(List.getElem?_eq_some_iff.mp e1).1
    have hjj:j=as.length:=by rw [List.length_append,List.length_singleton] at hjl;omega
    subst hjj
    rw [List.getElem?_append_right (Nat.le_refl _),Nat.sub_self] at e1
    rw [n.len,List.getElem?_append_right (Nat.le_refl _),Nat.sub_self] at e2
    cases e1
    cases e2
    exact ⟨[],by rw [upd_ne ha];exact upd_same,.nil⟩
  ·rw [upd_ne h1];exact xn.keep a o e nt
  ·by_cases y:a=r
   ·rw [y,upd_same];simp
   ·rw [upd_ne y];exact xn.dom a z
  ·exact hb _ _ (λc u' e nn=>by rw [upd_ne (λz=>by subst z;rw [n1.top] at e;cases e;cases nn)];exact e) (xn.tb R.tb)
  ·rcases List.mem_append.mp z with z|z
   ·exact .inl z
   ·exact .inr (by rw [List.mem_singleton.mp z];exact hx)
 next=>cases h⟩
def spPut (K:Frag) (tb:Hp->Prop) (m:List (List PV)->PV->Option (List (List PV))):Sp:=λvs H Q _=> ∃r as pss vrow row pss',vs= [.ref r,vrow]/\NL K H r as pss/\Rep K H vrow row/\tb H/\m pss row=some pss'/\ ∀H' as',NLs K tb H H' r as as' pss'->Q .non H'
def mkPut (f:NF):List (List PV)->PV->Option (List (List PV)):=λpss row=>f pss [none,some (.f row)]
theorem kfnPut {P:Program} {w:World} {mg:Str->Option Value} {base:Heap} {x qual:Str} {st:Stmt} {f:Addr} {fd:FuncData} {dV:Value} {n1 n2:Str} {k:Nat} (F:FunD K x qual st f fd dV) (S:FnScope [n1,n2] [n1,n2] (defScope st)) (hb:TbS tb) (ht:TbT tb) (g:NF)
  (j: ∀(cdv:Value) (A:Around) (outer:List Env) (s:Shared) (H:Hp) (E:XK),Room k (A.deeper (envOfC qual (defScope st) s.heap.objs.size f cdv))->
   ∃t,JNes K tb 0 (cxOf CX0 P w K mg base [n1,n2] qual (defScope st) f cdv A outer s H E).nox (defBody st) t g):FnOk P w K mg base CX0 (k+1) f fd [n1,n2] (spPut K tb (mkPut g)):=by
 refine F.ok S (λvs H Q E h=> ?_) (λcdv A outer s H vs Q E hr h=> ?_)
 ·obtain ⟨r,as,pss,vrow,row,pss',rfl,_⟩:=h;rfl
 ·obtain ⟨r,as,pss,vrow,row,pss',rfl,n,rr,tb0,h2,q⟩:=h
  obtain ⟨t,hj⟩:=j cdv A outer s H E hr
  refine ⟨t,hj.pe,?_⟩
  have R:ER K tb H H (start [n1,n2] [.ref r,vrow]) [none,some (.f row)]:=by
   refine ⟨λi p h=> ?_,λi p h=> ?_,λi j a p q _ h _ _=> ?_,Ex.refl,tb0,rfl⟩
   ·match i,h with
    |1,h=>cases h;exact ⟨vrow,rfl,rr⟩
   ·match i,h with
    |1,h=>cases h
   ·match i,h with
    |1,h=>cases h
  exact hj.k H _ _ pss pss' r as _ hb ht R rfl n h2 λH' as' s=>q H' as' s
end
section
variable {K:Frag} {tb:Hp->Prop} {H H' H1 H2 Hb:Hp} {σ σ':St} {r:Addr} {as as':List Addr} {pss pss':List (List PV)}
def putAll (m:List (List PV)->PV->Option (List (List PV))):List (List PV)->List PV->Option (List (List PV))
 |pss,[]=>some pss
 |pss,row::rows=>(m pss row).bind λqss=>putAll m qss rows
def roundsP (pss:List (List PV)):PV:= .lst (pss.map PV.lst)
def roundsM (m:List (List PV)->PV->Option (List (List PV))):List PV->Option PV:=λps=>match ps with
 | [.lst rows]=>(putAll m [[]] rows).map roundsP
 |_=>none
def valsOf (H:Hp) (a:Addr):List V:=match H a with
 |some (.lst vs)=>vs
 |_=> []
def lentN (H:Hp) (r:Addr) (as:List Addr):Lent:=(r,as.map V.ref)::as.map λa=>(a,valsOf H a)
theorem lentN_fst:(lentN H r as).map Prod.fst=r::as:=by
 show r::(as.map λa=>(a,valsOf H a)).map Prod.fst=_
 rw [List.map_map]
 congr 1
 exact List.map_id' as
theorem NL.lst (n:NL K H r as pss): ∀p∈lentN H r as,H p.1=some (.lst p.2):=λp hp=>by
 rcases List.mem_cons.mp hp with rfl|hp
 ·exact n.top
 ·obtain ⟨a,ha,rfl⟩:=List.mem_map.mp hp
  obtain ⟨j,hj,e⟩:=List.mem_iff_getElem.mp ha
  obtain ⟨ps,_,vs,h1,_⟩:=n.lt (j:=j) (a:=a) (by rw [List.getElem?_eq_getElem hj,e])
  show H a=some (.lst (valsOf H a))
  unfold valsOf
  rw [h1]
theorem reps_idx: ∀ {as:List Addr} {pss:List (List PV)},as.length=pss.length->(∀(j:Nat) (a:Addr) (ps:List PV),as[j]? =some a->pss[j]? =some ps->Rep K H (.ref a) (.lst ps))->Reps K H (as.map V.ref) (pss.map PV.lst)
 | [],[],_,_=> .nil
 |a::as,ps::pss,l,h=> .cons (h 0 a ps rfl rfl) (reps_idx (by simpa using l) λj b qs e1 e2=>h (j+1) b qs (by simpa using e1) (by simpa using e2))
theorem NL.frz (n:NL K H r as pss) (f:FrzL H (lentN H r as) Hb):Rep K Hb (.ref r) (roundsP pss):=by
 have fz:=f.fz n.lst
 refine .lst (f.at_ (r,as.map V.ref) List.mem_cons_self) (reps_idx n.len λj a ps e1 e2=> ?_)
 obtain ⟨vs,h1,h2⟩:=n.at_ j a ps e1 e2
 have:=f.at_ (a,valsOf H a) (List.mem_cons_of_mem _ (List.mem_map.mpr ⟨a,List.mem_of_getElem? e1,rfl⟩))
 have e:valsOf H a=vs:=by unfold valsOf;rw [h1]
 rw [e] at this
 exact .lst this (h2.fz fz)
theorem Ex.frzL {H0:Hp} {L:Lent} (hb:TbS tb) (x:Ex tb H0 H) (f:FrzL H L Hb) (hL: ∀p∈L,H p.1=some (.lst p.2)) (nw: ∀a∈L.map Prod.fst,H0 a=none):Ex tb H0 Hb:=by
 refine ⟨λa o e n=> ?_,λt=> ?_,λa z=> ?_⟩
 ·rw [f.out a λy=>by rw [nw a y] at e;cases e]
  exact x.keep a o e n
 ·exact hb H Hb (λa o e n=>by
   rw [f.out a λy=> ?_]
   ·exact e
   ·obtain ⟨p,hp,rfl⟩:=List.mem_map.mp y
    rw [hL p hp] at e;cases e;cases n) (x.tb t)
 ·rw [f.out a λy=>z (nw a y)]
  exact x.dom a z
theorem NLs.ex {H0:Hp} (s:NLs K tb H H' r as as' pss') (x:Ex tb H0 H) (nw: ∀a∈r::as,H0 a=none):Ex tb H0 H'/\ ∀a∈r::as',H0 a=none:=by
 refine ⟨⟨λa o e n=>s.keep a o (x.keep a o e n) n (λz=> ?_) (λz=> ?_),λ_=>s.tb,λa z=>s.dom a (x.dom a z)⟩,λa z=> ?_⟩
 ·subst z;rw [nw _ List.mem_cons_self] at e;cases e
 ·rw [nw a (List.mem_cons_of_mem _ z)] at e;cases e
 ·rcases List.mem_cons.mp z with rfl|z
  ·exact nw _ List.mem_cons_self
  ·rcases s.new a z with z|z
   ·exact nw a (List.mem_cons_of_mem _ z)
   ·exact x.nil z
theorem nl_start {i:Nat} {D:Ends} (hb:TbS tb) (q: ∀r x H2,Ex tb H H2->NL K H2 r [x] [[]]->(∀a∈ [r,x],H a=none)->D.nx (σ.set i (some (.ref r))) H2):tAsg (tLst (tCons (tLst tNil) tNil)) (gName i) D σ H:=by
 refine ⟨Nat.zero_le _,λx hx=>⟨by show 1<=sizeLine;decide,λr hr=> ?_⟩⟩
 have ne:x≠r:=λz=>by subst z;rw [upd_same] at hr;cases hr
 have hr0:H r=none:=by rwa [upd_ne (Ne.symm ne)] at hr
 have x1:Ex tb H (upd H x (.lst [])):=Ex.new hb hx
 have x2:Ex tb (upd H x (.lst [])) (upd (upd H x (.lst [])) r (.lst [.ref x])):=Ex.new hb hr
 refine q r x _ (x1.trans x2) ⟨upd_same,by simp [Ne.symm ne],rfl,λj a ps e1 e2=> ?_⟩ λa z=> ?_
 ·match j,e1,e2 with
  |0,e1,e2=>
   cases e1
   cases e2
   exact ⟨[],by rw [upd_ne ne];exact upd_same,.nil⟩
 ·rcases List.mem_cons.mp z with rfl|z
  ·exact hr0
  ·rw [List.mem_singleton.mp z];exact hx
abbrev roundsT (K:Frag) (tb:Hp->Prop) (m:List (List PV)->PV->Option (List (List PV))):TS:=
 tSeq (tAsg (tLst (tCons (tLst tNil) tNil)) (gName 1)) (tSeq (tFor (iList K (tVar 0)) (gName 2) (tDrop (tCall (spPut K tb m) [] E0 (tCons (tVar 1) (tCons (tVar 2) tNil))))) (tFrzs (tRet (tVar 1))))
theorem kfnRounds {P:Program} {w:World} {mg:Str->Option Value} {base:Heap} {x qual:Str} {st:Stmt} {f:Addr} {fd:FuncData} {dV:Value} {n0 n1 n2:Str} {k:Nat} (F:FunD K x qual st f fd dV) (S:FnScope [n0,n1,n2] [n0] (defScope st)) (hb:TbS tb) (m:List (List PV)->PV->Option (List (List PV)))
  (j: ∀(cdv:Value) (A:Around) (outer:List Env) (s:Shared) (H:Hp) (E:XK),Room k (A.deeper (envOfC qual (defScope st) s.heap.objs.size f cdv))->
   PSs (cxOf CX0 P w K mg base [n0,n1,n2] qual (defScope st) f cdv A outer s H E).nox (defBody st) (roundsT K tb m)):FnOk P w K mg base CX0 (k+1) f fd [n0] (spP K tb (roundsM m)):=by
 have len1: ∀ {vs:List V} {qs:List PV} {z:PV} {H:Hp},Reps K H vs qs->roundsM m qs=some z-> ∃v rows pss,vs= [v]/\qs= [.lst rows]/\Rep K H v (.lst rows)/\putAll m [[]] rows=some pss/\z=roundsP pss:=λ{vs qs z H} h1 h2=>by
  unfold roundsM at h2
  split at h2
  next rows=>
   obtain ⟨pss,h3,rfl⟩:=oms h2
   cases h1 with|cons ra h1=>cases h1;exact ⟨_,rows,pss,rfl,rfl,ra,h3,rfl⟩
  next=>cases h2
 refine F.ok S (λvs H Q E h=> ?_) (λcdv A outer s H vs Q E hr h=> ?_)
 ·obtain ⟨qs,z,h1,_,h2,_⟩:=h
  obtain ⟨v,rows,pss,rfl,_⟩:=len1 h1 h2
  rfl
 ·obtain ⟨qs,z,h1,ht,h2,q⟩:=h
  obtain ⟨v,rows,fin,rfl,rfl,ra,h3,rfl⟩:=len1 h1 h2
  obtain ⟨a,us,rfl,hs,rs⟩:=ra.lst'
  refine ⟨_,j cdv A outer s H E hr,nl_start (K:=K) hb λr x H1 x1 n1 nw1=> ?_⟩
  have hs1:=hs.fz x1.fz
  refine ⟨.ref a,rfl,a,rfl,⟨us,hs1.sq⟩,?_⟩
  refine ⟨λi k σ' H'=>k=rows.length - i/\i<=rows.length/\σ'.length=3/\σ'[1]? =some (some (.ref r))/\Ex tb H H'/\ ∃as pss,NL K H' r as pss/\(∀b∈r::as,H b=none)/\putAll m pss (rows.drop i)=some fin,
   ⟨rows.length,by simp,Nat.zero_le _,rfl,rfl,x1,[x],[[]],n1,nw1,h3⟩,?_⟩
  rintro i k σ' H' ⟨rfl,hi,hl,hr1,x2,as,pss,n2,nw,hp⟩
  have hs2:=hs.fz x2.fz
  have rs2:=rs.fz x2.fz
  have ln:=rs2.length
  by_cases hlt:i<rows.length
  ·refine .inr ⟨⟨us,us[i]'(by omega),hs2.sq,by simp⟩,λσ2 H2=>i+1<=rows.length/\σ2.length=3/\σ2[1]? =some (some (.ref r))/\Ex tb H H2/\ ∃as pss,NL K H2 r as pss/\(∀b∈r::as,H b=none)/\putAll m pss (rows.drop (i+1))=some fin,λσ2 H2 z=>⟨rows.length - (i+1),by omega,rfl,z⟩,λy H2 yl=> ?_⟩
   obtain ⟨rfl,yl⟩:=yl
   obtain ⟨p,ep,rp⟩:=rs2.getV (yl us hs2.sq)
   rw [List.getElem?_eq_getElem hlt] at ep
   cases ep
   rw [List.drop_eq_getElem_cons hlt] at hp
   unfold putAll at hp
   obtain ⟨qss,e1,hp⟩:=obs hp
   have g1:(σ'.set 2 (some y))[1]? =some (some (.ref r)):=by rw [List.getElem?_set_ne (by decide)];exact hr1
   have g2:(σ'.set 2 (some y))[2]? =some (some y):=by rw [List.getElem?_set_self (by omega)]
   refine ⟨.ref r,g1,y,g2,?_⟩
   refine ⟨r,as,pss,y,rows[i],qss,rfl,n2,rp,x2.tb ht,e1,λH3 as' s3=> ?_⟩
   obtain ⟨x3,nw3⟩:=s3.ex x2 nw
   exact ⟨hlt,by rw [List.length_set];exact hl,g1,x3,as',qss,s3.nl,nw3,hp⟩
  ·have e:i=rows.length:=by omega
   subst e
   rw [List.drop_length] at hp
   cases hp
   refine .inl ⟨⟨us,hs2.sq,by omega⟩,lentN H' r as,by rw [lentN_fst];exact n2.nd,n2.lst,λHb fb=>⟨.ref r,hr1,?_⟩⟩
   exact q _ Hb (x2.frzL hb fb n2.lst (by rw [lentN_fst];exact nw)) (.im (n2.frz fb)) rfl
end
section
variable {X:Cx} {K:Frag} {tb:Hp->Prop} {cB:Addr} {cs:List Addr} {E:XK} {e a b c:Expr} {es:List Expr} {t ta tb' tc:TE} {f g h:EF} {pos p p2:Pos} {st:Stmt} {sts rest:List Stmt} {ts us:TS}
variable {H0 H H' H1 H2:Hp} {W0 W W' W1 W2:Wd} {σ σ':St} {ρ ρ':Rho}
def spE (K:Frag) (tb:Hp->Prop) (cs:List Addr) (m:List PV->Option EX):Sp:=λvs H Q E=> ∃ps r,Reps K H vs ps/\tb H/\m ps=some r/\
 (∀p,r= .ok p-> ∀v H',Ex tb H H'->RepN K H H' v p->noSc p=true->Q v H')/\(∀k,r= .error k-> ∀t H',Ex tb H H'->H' t=some (.tup [.str (msgP k)])->E (.ref (cs.getD k 0)) (some t) H')
noncomputable def mkME (N n:Nat) (g:SX):List PV->Option EX:=λps=>if ps.length=n then match g [] (rho0 N ps) with
 |some (.rt p _)=>some (.ok p)
 |some (.nx _ _)=>some (.ok .non)
 |some (.ex k _)=>some (.error k)
 |_=>none
 else none
theorem Pst.ex0 (x:Pst K tb cB [] W' H H'):Ex tb H H':=⟨λa o e n=>x.keep a o e n (λh=>by obtain ⟨b,hb,_⟩:=h;cases hb),λ_=>x.tb,x.dom⟩
theorem kfnE {P:Program} {w:World} {mg:Str->Option Value} {base:Heap} {x qual:Str} {st:Stmt} {f:Addr} {fd:FuncData} {dV:Value} {N ps:List Str} {k:Nat} (cB:Addr) (F:FunD K x qual st f fd dV) (S:FnScope N ps (defScope st)) (hb:TbS tb) (g:SX)
  (j: ∀(cdv:Value) (A:Around) (outer:List Env) (s:Shared) (H:Hp) (E:XK),Room k (A.deeper (envOfC qual (defScope st) s.heap.objs.size f cdv))->
   ∃t,JSXs K tb cB cs E (cxOf (CX1 P w) P w K mg base N qual (defScope st) f cdv A outer s H E) (defBody st) t g):FnOk P w K mg base (CX1 P w) (k+1) f fd ps (spE K tb cs (mkME N.length ps.length g)):=by
 refine F.okX S (λvs H Q E h=> ?_) (λcdv A outer s H vs Q E hr h=> ?_)
 ·obtain ⟨qs,r,h1,_,h2,_⟩:=h
  unfold mkME at h2
  split at h2
  next e=>rw [h1.length];exact e
  next=>cases h2
 ·obtain ⟨qs,r,h1,ht,h2,q,qe⟩:=h
  obtain ⟨t,hj⟩:=j cdv A outer s H E hr
  refine ⟨t,hj.pe,?_⟩
  have wr:WRep K cB H []:=⟨(λb hb=>by cases hb),List.Pairwise.nil⟩
  unfold mkME at h2
  split at h2
  ·split at h2
   next p W' e=>cases h2;exact hj.k H [] [] H _ _ _ _ hb (ew_start wr h1 ht) e λv H' x n ns=>q p rfl v H' x.ex0 n ns
   next ρ W' e=>cases h2;exact hj.k H [] [] H _ _ _ _ hb (ew_start wr h1 ht) e λσ' H' _ R=>q _ rfl _ H' R.ps.ex0 (.im .non) rfl
   next k W' e=>cases h2;exact hj.k H [] [] H _ _ _ _ hb (ew_start wr h1 ht) e λt H' x m=>qe k rfl t H' x.ex0 m
   next=>cases h2
  ·cases h2
def xClE (m:List PV->Option EX) (f:XA):XF:=λW ρ=>(f W ρ).bind λr=>match r.1 with
 | .error k=>some (.error k,r.2)
 | .ok ps=>(m ps).map λz=>(z,r.2)
theorem jx_callE {m:List PV->Option EX} {tA:TA} {fA:XA} (hp:PA X es tA->PE X e (tCall (spE K tb cs m) [] E tA)) (ha:JXA K tb cB cs E X es tA fA):JX K tb cB cs E X e (tCall (spE K tb cs m) [] E tA) (xClE m fA):=⟨hp ha.pe,λH0 W0 W H σ ρ r W' Q hb R h q qe=>by
 unfold xClE at h
 obtain ⟨⟨r1,W1⟩,h1,h⟩:=obs h
 dsimp only at h
 cases r1 with
 |error k=>cases h;exact ha.k H0 W0 W H σ ρ _ _ _ hb R h1 (λp e=>by cases e) λk' e=>by cases e;exact qe k rfl
 |ok ps=>
  obtain ⟨z,h2,h3⟩:=oms h
  cases h3
  refine ha.k H0 W0 W H σ ρ _ _ _ hb R h1 (λps' e vs H1 x1 r1=> ?_) λk' e=>by cases e
  cases e
  show spE K tb cs m (vs++ []) H1 Q E
  rw [List.append_nil]
  refine ⟨ps,_,r1,x1.tb,h2,λp e v H2 x2 n ns=>q p e v H2 (x1.ex x2) ?_ ns,λk e t H2 x2 mm=>qe k e t H2 (x1.ex x2) mm⟩
  cases n with
  |im n=>exact .im n
  |un e hn n=>exact .un e (x1.nil hn) n⟩
end
section
variable {X:Cx} {K:Frag} {tb:Hp->Prop} {cB:Addr} {cs:List Addr} {E:XK} {e a b c:Expr} {es:List Expr} {t ta tb' tc:TE} {f g h:EF} {pos p p2:Pos} {st:Stmt} {sts rest:List Stmt} {ts us:TS}
variable {H0 H H' H1 H2:Hp} {W0 W W' W1 W2:Wd} {σ σ':St} {ρ ρ':Rho}
theorem jxb_came {i:Nat} (hp:PE X e (tFld K (tVar i) "came")) (cl:Cls K cB) (na:NoAttr K cB "came"):JXB K tb cB X e (tFld K (tVar i) "came") (xFld (λb=> .lst b.came) i):=⟨hp,kxb_fld cl na λH b B=>⟨_,rfl,fld_t B.ca⟩⟩
theorem jxb_went {i:Nat} (hp:PE X e (tFld K (tVar i) "went")) (cl:Cls K cB) (na:NoAttr K cB "went"):JXB K tb cB X e (tFld K (tVar i) "went") (xFld (λb=> .lst b.went) i):=⟨hp,kxb_fld cl na λH b B=>⟨_,rfl,fld_t B.we⟩⟩
def xIf (c:ET) (f g:XF):XF:=λW ρ=>(c ρ).bind λk=>if k=true then f W ρ else g W ρ
theorem jx_if {tt:TT} {fc:ET} {f g:XF} {c0:Expr} (hc:JT K tb X c0 tt fc) (ha:JX K tb cB cs E X a ta f) (hb:JX K tb cB cs E X b tb' g):JX K tb cB cs E X (.IfExp c0 a b pos) (tIf tt ta tb') (xIf fc f g):=⟨pe_ifExp hc.pe ha.pe hb.pe,λH0 W0 W H σ ρ r W' Q hb' R h q qe=>by
 unfold xIf at h
 obtain ⟨k,h1,h⟩:=obs h
 obtain ⟨G,_,_,S⟩:=R.er
 refine hc.k G H σ ρ k _ hb' S h1 λH1 x1=> ?_
 have p1:Pst K tb cB W W H H1:= .rfl' R x1
 have nk: ∀ {v:V} {H2:Hp} {p:PV},RepN K H1 H2 v p->RepN K H H2 v p:=λn=>n.pst p1
 cases k with
 |true=>exact iteT (ha.k H0 W0 W H1 σ ρ r W' _ hb' (R.post p1) h (λp e v H2 x2 n ns=>q p e v H2 (p1.trans x2) (nk n) ns) λk e=>(qe k e).tr p1)
 |false=>exact iteF (hb.k H0 W0 W H1 σ ρ r W' _ hb' (R.post p1) h (λp e v H2 x2 n ns=>q p e v H2 (p1.trans x2) (nk n) ns) λk e=>(qe k e).tr p1)⟩
structure InS (K:Frag) (cB:Addr) (H0 H:Hp) (b dx:Addr) (fs:List (Str×V)) (cells:List (Addr×List PV)):Prop where
 ob:H b=some (.ins cB dx fs)
 ob0: ∃o,H0 b=some o
 keep: ∀x o,H0 x=some o->x≠b->H x=some o
 cell: ∀q∈cells,FldAt K H q.1 q.2/\H0 q.1=none
 nd:(cells.map Prod.fst).Nodup
theorem InS.step {b dx p:Addr} {fs fs':List (Str×V)} {cells:List (Addr×List PV)} {vs:List V} {ps:List PV} (S:InS K cB H0 H b dx fs cells) (hp:H p=none) (r:Reps K H vs ps):InS K cB H0 (upd (upd H p (.lst vs)) b (.ins cB dx fs')) b dx fs' (cells++ [(p,ps)]):=by
 have pb:p≠b:=λz=>by subst z;rw [S.ob] at hp;cases hp
 have fz:Fz H (upd (upd H p (.lst vs)) b (.ins cB dx fs')):=λa o e f=>by
  rw [upd_ne (λz=>by subst z;rw [S.ob] at e;cases e;cases f),upd_ne (λz=>by subst z;rw [hp] at e;cases e)];exact e
 have h0:H0 p=none:=by
  cases e:H0 p with
  |none=>rfl
  |some o=>rw [S.keep p o e pb] at hp;cases hp
 have cb: ∀q∈cells,q.1≠b:=λq hq z=>by
  obtain ⟨o,e⟩:=S.ob0
  rw [<-z,(S.cell q hq).2] at e;cases e
 refine ⟨upd_same,S.ob0,λx o e n=> ?_,λq hq=> ?_,?_⟩
 ·have:=S.keep x o e n
  rw [upd_ne n,upd_ne (λz=>by subst z;rw [hp] at this;cases this)];exact this
 ·rcases List.mem_append.mp hq with hq|hq
  ·obtain ⟨⟨ws,h1,h2⟩,h3⟩:=S.cell q hq
   exact ⟨⟨ws,by rw [upd_ne (cb q hq),upd_ne (λz=>by rw [z,hp] at h1;cases h1)];exact h1,h2.fz fz⟩,h3⟩
  ·rw [List.mem_singleton.mp hq]
   exact ⟨⟨vs,by rw [upd_ne pb];exact upd_same,r.fz fz⟩,h0⟩
 ·rw [List.map_append,List.nodup_append]
  refine ⟨S.nd,by simp,λa ha c hc z=> ?_⟩
  obtain ⟨q,hq,rfl⟩:=List.mem_map.mp ha
  have hc:c=p:=by simpa using hc
  obtain ⟨⟨ws,h1,_⟩,_⟩:=S.cell q hq
  rw [z,hc,hp] at h1;cases h1
abbrev initT (K:Frag):TS:=
 tSeq (sFld K (tVar 0) (tCB (rListOf K) (tCons (tVar 1) tNil)) "people") (tSeq (sFld K (tVar 0) (tCB (rListOf K) (tCons (tVar 2) tNil)) "court") (tSeq (sFld K (tVar 0) (tCB (rListOf K) (tCons (tVar 3) tNil)) "speakers")
  (tSeq (sFld K (tVar 0) (tLst tNil) "rows") (tSeq (sFld K (tVar 0) (tLst tNil) "came") (tSeq (sFld K (tVar 0) (tLst tNil) "went") (tFrzs (sFld K (tVar 0) (tC (.int 0)) "done")))))))
theorem k_fldL {b dx:Addr} {fs:List (Str×V)} {cells:List (Addr×List PV)} {i:Nat} {a:Addr} {nm:Str} {ps:List PV} {D:Ends} (cl:Cls K cB) (na:NoAttr K cB nm) (S:InS K cB H0 H b dx fs cells) (hl:fs.length<1000) (h0:σ[0]? =some (some (.ref b))) (hi:σ[i]? =some (some (.ref a))) (r:Rep K H (.ref a) (.lst ps))
  (q: ∀p H2,Fz H H2->InS K cB H0 H2 b dx (putF nm (.ref p) fs) (cells++ [(p,ps)])->D.nx σ H2):sFld K (tVar 0) (tCB (rListOf K) (tCons (tVar i) tNil)) nm D σ H:=by
 obtain ⟨a',vs,e,hs,rs⟩:=r.lst'
 cases e
 refine ⟨.ref a,hi,a,vs,rfl,.inl hs.sq,λp hp=>⟨.ref b,h0,b,cB,dx,fs,rfl,?_,cl,na,hl,?_⟩⟩
 ·rw [upd_ne (λz=>by subst z;rw [S.ob] at hp;cases hp)];exact S.ob
 ·refine q p _ (λa o e f=> ?_) (S.step hp rs)
  rw [upd_ne (λz=>by subst z;rw [S.ob] at e;cases e;cases f),upd_ne (λz=>by subst z;rw [hp] at e;cases e)];exact e
theorem k_fldN {b dx:Addr} {fs:List (Str×V)} {cells:List (Addr×List PV)} {nm:Str} {D:Ends} (cl:Cls K cB) (na:NoAttr K cB nm) (S:InS K cB H0 H b dx fs cells) (hl:fs.length<1000) (h0:σ[0]? =some (some (.ref b)))
  (q: ∀p H2,Fz H H2->InS K cB H0 H2 b dx (putF nm (.ref p) fs) (cells++ [(p,[])])->D.nx σ H2):sFld K (tVar 0) (tLst tNil) nm D σ H:=by
 refine ⟨Nat.zero_le _,λp hp=>⟨.ref b,h0,b,cB,dx,fs,rfl,?_,cl,na,hl,?_⟩⟩
 ·rw [upd_ne (λz=>by subst z;rw [S.ob] at hp;cases hp)];exact S.ob
 ·refine q p _ (λa o e f=> ?_) (S.step hp .nil)
  rw [upd_ne (λz=>by subst z;rw [S.ob] at e;cases e;cases f),upd_ne (λz=>by subst z;rw [hp] at e;cases e)];exact e
structure NoAttrs (K:Frag) (cB:Addr):Prop where
 pe:NoAttr K cB "people"
 co:NoAttr K cB "court"
 sp:NoAttr K cB "speakers"
 ro:NoAttr K cB "rows"
 ca:NoAttr K cB "came"
 we:NoAttr K cB "went"
 dn:NoAttr K cB "done"
theorem kfnInit {P:Program} {w:World} {mg:Str->Option Value} {base:Heap} {x qual:Str} {st:Stmt} {f:Addr} {fd:FuncData} {dV:Value} {n0 n1 n2 n3:Str} {k:Nat} (F:FunD K x qual st f fd dV) (S:FnScope [n0,n1,n2,n3] [n0,n1,n2,n3] (defScope st)) (cl:Cls K cB) (na:NoAttrs K cB)
  (j: ∀(cdv:Value) (A:Around) (outer:List Env) (s:Shared) (H:Hp) (E:XK),Room k (A.deeper (envOfC qual (defScope st) s.heap.objs.size f cdv))->
   PSs (cxOf CX0 P w K mg base [n0,n1,n2,n3] qual (defScope st) f cdv A outer s H E).nox (defBody st) (initT K)):FnOk P w K mg base CX0 (k+1) f fd [n0,n1,n2,n3] (spMk K cB):=by
 refine F.ok S (λvs H Q E h=> ?_) (λcdv A outer s H vs Q E hr h=> ?_)
 ·obtain ⟨b,dx,as,ps,a,c,s,rfl,rfl,_,rs,_⟩:=h
  show as.length+1=_
  rw [rs.length];rfl
 ·obtain ⟨b,dx,as,ps,pa,pc,ps',rfl,rfl,hb,rs,q⟩:=h
  cases rs with|cons r1 rs=>
  cases rs with|cons r2 rs=>
  cases rs with|cons r3 rs=>
  cases rs
  obtain ⟨a1,u1,rfl,_,_⟩:=r1.lst'
  obtain ⟨a2,u2,rfl,_,_⟩:=r2.lst'
  obtain ⟨a3,u3,rfl,_,_⟩:=r3.lst'
  refine ⟨_,j cdv A outer s H E hr,?_⟩
  have l0:([]:List (Str×V)).length<=0:=Nat.le_refl _
  have S0:InS K cB H H b dx [] []:=⟨hb,⟨_,hb⟩,λ_ _ e _=>e,λq hq=>(by cases hq),List.nodup_nil⟩
  refine k_fldL (i:=1) cl na.pe S0 (by decide) rfl rfl r1 λc1 H1 f1 S1=> ?_
  refine k_fldL (i:=2) cl na.co S1 (Nat.lt_of_le_of_lt (pl l0) (by decide)) rfl rfl (r2.fz f1) λc2 H2 f2 S2=> ?_
  refine k_fldL (i:=3) cl na.sp S2 (Nat.lt_of_le_of_lt (pl (pl l0)) (by decide)) rfl rfl ((r3.fz f1).fz f2) λc3 H3 f3 S3=> ?_
  refine k_fldN cl na.ro S3 (Nat.lt_of_le_of_lt (pl (pl (pl l0))) (by decide)) rfl λc4 H4 f4 S4=> ?_
  refine k_fldN cl na.ca S4 (Nat.lt_of_le_of_lt (pl (pl (pl (pl l0)))) (by decide)) rfl λc5 H5 f5 S5=> ?_
  refine k_fldN cl na.we S5 (Nat.lt_of_le_of_lt (pl (pl (pl (pl (pl l0))))) (by decide)) rfl λc6 H6 f6 S6=> ?_
  have nd:=S6.nd
  simp only [List.nil_append,List.cons_append,List.map_cons,List.map_nil,List.nodup_cons,List.mem_cons,List.not_mem_nil,or_false,not_or,List.nodup_nil,and_true,not_false_eq_true] at nd
  obtain ⟨⟨a12,a13,a14,a15,a16⟩,⟨b23,b24,b25,b26⟩,⟨d34,d35,d36⟩,⟨e45,e46⟩,f56⟩:=nd
  obtain ⟨⟨w1,g1,q1⟩,z1⟩:=S6.cell (c1,pa) (by simp)
  obtain ⟨⟨w2,g2,q2⟩,z2⟩:=S6.cell (c2,pc) (by simp)
  obtain ⟨⟨w3,g3,q3⟩,z3⟩:=S6.cell (c3,ps') (by simp)
  obtain ⟨⟨w4,g4,q4⟩,z4⟩:=S6.cell (c4,[]) (by simp)
  obtain ⟨⟨w5,g5,q5⟩,z5⟩:=S6.cell (c5,[]) (by simp)
  obtain ⟨⟨w6,g6,q6⟩,z6⟩:=S6.cell (c6,[]) (by simp)
  have hL: ∀p∈ [(c1,w1),(c2,w2),(c3,w3)],H6 p.1=some (.lst p.2):=λp hp=>by
   simp only [List.mem_cons,List.not_mem_nil,or_false] at hp
   rcases hp with rfl|rfl|rfl
   ·exact g1
   ·exact g2
   ·exact g3
  refine ⟨[(c1,w1),(c2,w2),(c3,w3)],?_,hL,λHb fr=> ?_⟩
  ·simp only [List.map_cons,List.map_nil,List.nodup_cons,List.mem_cons,List.not_mem_nil,or_false,not_or,List.nodup_nil,and_true,not_false_eq_true]
   exact ⟨⟨a12,a13⟩,b23⟩
  have fzb:=fr.fz hL
  have out: ∀y,y≠c1->y≠c2->y≠c3->Hb y=H6 y:=λy n1 n2 n3=>fr.out y (by simp [n1,n2,n3])
  have bc: ∀c,H c=none->b≠c:=λc z w=>by rw [<-w,hb] at z;cases z
  have hob:Hb b=some (.ins cB dx _):=(out b (bc c1 z1) (bc c2 z2) (bc c3 z3)).trans S6.ob
  refine ⟨.ref b,rfl,b,cB,dx,_,rfl,hob,cl,na.dn,(Nat.lt_of_le_of_lt (pl (pl (pl (pl (pl (pl l0)))))) (by decide)),?_⟩
  rw [fl_new]
  have fzu:Fz Hb (upd Hb b (.ins cB dx (flds c1 c2 c3 c4 c5 c6 0))):=Fz.upd λu e=>by rw [hob] at e;cases e;rfl
  have fz6:Fz H6 (upd Hb b (.ins cB dx (flds c1 c2 c3 c4 c5 c6 0))):=fzb.trans fzu
  have ff: ∀ {c:Addr} {w:List V} {p:List PV},FzL Hb c w->Reps K H6 w p->FzF K (upd Hb b (.ins cB dx (flds c1 c2 c3 c4 c5 c6 0))) c p:=λf r=>⟨_,f.fz fzu,r.fz fz6⟩
  have fc: ∀ {c:Addr} {w:List V} {p:List PV},c≠c1->c≠c2->c≠c3->H c=none->H6 c=some (.lst w)->Reps K H6 w p->FldAt K (upd Hb b (.ins cB dx (flds c1 c2 c3 c4 c5 c6 0))) c p:=λ{c w p} n1 n2 n3 z g r=>⟨w,by rw [upd_ne (Ne.symm (bc c z)),out c n1 n2 n3];exact g,r.fz fz6⟩
  refine q ⟨b,c4,c5,c6,c1,c2,c3⟩ _ rfl ⟨⟨dx,upd_same⟩,fc (Ne.symm a14) (Ne.symm b24) (Ne.symm d34) z4 g4 q4,fc (Ne.symm a15) (Ne.symm b25) (Ne.symm d35) z5 g5 q5,fc (Ne.symm a16) (Ne.symm b26) (Ne.symm d36) z6 g6 q6,
   ff (fr.at_ (c1,w1) (by simp)) q1,ff (fr.at_ (c2,w2) (by simp)) q2,ff (fr.at_ (c3,w3) (by simp)) q3,?_⟩ (λx hx xb=> ?_) λx o e ne=> ?_
  ·simp only [List.nodup_cons,List.mem_cons,List.not_mem_nil,or_false,not_or,List.nodup_nil,and_true,not_false_eq_true]
   exact ⟨⟨e45,e46⟩,f56⟩
  ·simp only [BkA.mu,List.mem_cons,List.not_mem_nil,or_false] at hx
   rcases hx with h|h|h|h
   ·exact absurd h xb
   ·rw [h];exact z4
   ·rw [h];exact z5
   ·rw [h];exact z6
  ·rw [upd_ne ne,out x (λz=>by rw [z,z1] at e;cases e) (λz=>by rw [z,z2] at e;cases e) (λz=>by rw [z,z3] at e;cases e)]
   exact S6.keep x o e ne
end
section
variable {X:Cx} {K:Frag} {tb:Hp->Prop} {cB:Addr} {cs:List Addr} {E:XK} {e a b c:Expr} {es:List Expr} {t ta tb' tc:TE} {f g h:EF} {pos p p2:Pos} {st:Stmt} {sts rest:List Stmt} {ts us:TS}
variable {H0 H H' H1 H2:Hp} {W0 W W' W1 W2:Wd} {σ σ':St} {ρ ρ':Rho}
def noM (ρ:Rho):Bool:=ρ.all λs=>match s with
 |some (.m _)=>false
 |_=>true
def sxPz (i:Nat) (g:SX):SX:=λW ρ=>match ρ[i]? with
 |some (some (.m p))=>g W (ρ.set i (some (.f p)))
 |some (some (.f p))=>if noSc p=true then g W ρ else none
 |_=>none
theorem jsx_pz {i:Nat} {fs:SX} (j:JSX K tb cB cs E X st ts fs):JSX K tb cB cs E X st (tPz i ts) (sxPz i fs):=⟨j.pe.pz i,λH0 W0 W H σ ρ fl D hb R h q=>by
 intro H2 fr
 unfold sxPz at h
 split at h
 next p hs=>
  obtain ⟨G,g1,g2,S⟩:=R.er
  obtain ⟨a,e1,n,u⟩:=S.mu i _ hs
  unfold frzSl at fr
  rw [e1] at fr
  obtain ⟨w,hw,f1,_,_⟩:=u.mut
  obtain ⟨o,rfl,r2⟩:=u.frz fr
  have fz:Fz H (upd H a o):=Fz.upd λu e=>by rw [hw] at e;cases e;exact f1
  exact j.k H0 W0 W _ σ _ fl D hb (R.back g1 g2 (S.frz hb hs e1 r2)) h (q.fz fz)
 next p hs=>
  split at h
  next ns=>
   obtain ⟨v,e1,r⟩:=R.im i _ hs
   unfold frzSl at fr
   rw [e1] at fr
   have e:H2=H:=by
    cases v with
    |ref a=>exact r.noFrz ns fr
    |_=>exact fr
   subst e
   exact j.k H0 W0 W _ σ _ fl D hb R h q
  next=>cases h
 next=>cases h⟩
theorem JSL.ex {t':TS} {sts:List Stmt} {g:BkA->SX} (j:JSL K tb cB X sts t' g): ∃t,PSs X sts t/\KSL K tb cB t g:=⟨_,j.pe,j.k⟩
def spLawP (K:Frag) (tb:Hp->Prop):Sp:=λvs H Q _=> ∃a ns,vs= [.ref a]/\SqL K H a (List.map V.int ns)/\ns.length<=63/\tb H/\ ∀H',Q (.bl true) H'
def LawOk (N:Nat) (g:BkA->SX):Prop:= ∀(A:BkA) (scr:PV) (ns:List Int),ns.length<=63->(scr= .lst (ns.map PV.int)\/scr= .sc (ns.map PV.int))-> ∃W',g A [] (rho0 N [scr])=some (.rt (.bl true) W')
end
section
variable {X:Cx} {K:Frag} {tb:Hp->Prop} {e a b c:Expr} {es:List Expr} {t ta tb' tc:TE} {f g h:EF} {pos p p2:Pos}
theorem kn_comp {k:Nat} {js:List Nat} {wi:TI} {g:TG} {tt:TT} {te:TE} {it:EA} {tg:FG} {cond:ET} {elt:EF} (hj:js.Nodup)
  (hi: ∀H0 H σ ρ ps (Q:It->Hp->Prop),TbS tb->ER K tb H0 H σ ρ->it ρ=some ps->(∀J H',Ex tb H H'->ItOk K J H' ps->Q J H')->wi σ H Q)
  (hg: ∀H0 H σ ρ ρ' v p (Q:St->Hp->Prop),ER K tb H0 H σ ρ->Rep K H v p->tg p ρ=some ρ'->(∀σ',ER K tb H0 H σ' ρ'->σ'.length=σ.length->(∀j,k<=j->σ'[j]? =σ[j]?)->Q σ' H)->g v σ H Q)
  (ht:KTT K tb tt cond) (he:KF K tb te elt):KN K tb (tComp wi g tt te k js) (eComp k js it tg cond elt):=λH0 H σ ρ r Q hb R h q=>by
 unfold eComp at h
 obtain ⟨xs,h1,h⟩:=obs h
 obtain ⟨ys,h2,h⟩:=obs h
 split at h
 next hz=>
  cases h
  refine hi H0 H σ ρ xs _ hb R h1 λJ H1 x1 ok D hD=> ?_
  exact comp_run hb (R.go x1) hj hD ok.toE hg ht he h2 hz λH2 x2 u=>q D H2 (x1.trans x2) (x1.nil hD) u
 next=>cases h
theorem jn_comp {elt iter tg:Expr} {ifs:List Expr} {sc:Scope} {wi:TI} {g:TG} {tt:TT} {te:TE} {fi:EA} {ft:FG} {fc:ET} {fe:EF} (NX:List Str) (sx:Scope) (k:Nat) (js:List Nat) (N:List Str) (hj:js.Nodup) (hc:X.calm=true) (hfr:frOk NX N sx sc k js=true) (hi:JI K tb X tg iter wi fi)
  (hg: ∀cl s H ex,JG K tb k (cxComp X N sc cl s H ex) tg g ft) (ht: ∀cl s H ex,JTs K tb (cxComp X N sc cl s H ex) ifs tt fc) (he: ∀cl s H ex,JF K tb (cxComp X N sc cl s H ex) elt te fe)
  (hfree: ∀y∈sc.names,y.2= .free->sx.names.lookup y.1=some .cell) (hnames: ∀y∈sc.names,y.2= .local->sc.names.lookup y.1=some .local) (hcell: ∀y∈sc.names,y.2≠ .cell)
  (hNX:X.N=NX:=by rfl) (hsx:X.env.scope=sx:=by rfl) (hk:sc.kind= .function:=by rfl) (hs: ∀x,foldedSetIterable iter X.env x=pure x:=by intro _;rfl):
  JN K tb X (.ListComp elt [⟨tg,iter,ifs,0⟩] sc pos) (tComp wi g tt te k js) (eComp k js fi ft fc fe):=
 ⟨pe_comp NX sx k js N hc hfr hi.pe (λcl s H ex=>(hg cl s H ex).pe) (λcl s H ex=>(ht cl s H ex).pe) (λcl s H ex=>(he cl s H ex).pe) hfree hnames hcell hNX hsx hk hs,
  kn_comp hj hi.k (hg [] X.s₀ X.H₀ []).k (ht [] X.s₀ X.H₀ []).k (he [] X.s₀ X.H₀ []).k⟩
def pAddL:PV->PV->Option PV
 | .lst a,.lst b=>if a.length+b.length<=sizeLine then some (.lst (a++b)) else none
 |_,_=>none
theorem jn_add (ha:JB K tb X a ta f) (hb:JB K tb X b tb' g):JN K tb X (.BinOp a .Add b pos) (tOp rCatR ta tb') (eOp pAddL f g):=⟨pe_op op_catR ha.pe hb.pe,λH0 H σ ρ r Q hb' R h q=>by
 unfold eOp at h
 obtain ⟨x,h1,h⟩:=obs h
 obtain ⟨y,h2,h⟩:=obs h
 refine ha.k H0 H σ ρ x _ hb' R h1 λv H1 x1 r1=>hb.k H0 H1 σ ρ y _ hb' (R.go x1) h2 λw H2 x2 r2=> ?_
 unfold pAddL at h
 split at h
 ·split at h
  next hz=>
   cases h
   obtain ⟨l1,us,rfl,s1,u1⟩:=(r1.ex x2).rd
   obtain ⟨l2,ws,rfl,s2,u2⟩:=r2.rd
   refine ⟨l1,l2,us,ws,rfl,rfl,s1,s2,by rw [u1.length,u2.length];exact hz,λp hp=> ?_⟩
   have xn:Ex tb H2 (upd H2 p (.lst (us++ws))):=Ex.new hb' hp
   exact q p _ ((x1.trans x2).trans xn) (x1.nil (x2.nil hp)) (.lst upd_same ((u1.ex xn).app (u2.ex xn)))
  next=>cases h
 ·cases h⟩
end
mutual
inductive ShV (K:Frag) (H:Hp):V->PyData->Prop
 |non:ShV K H .non .none
 |bl (b:Bool):ShV K H (.bl b) (.bool b)
 |int (i:Int):ShV K H (.int i) (.int i)
 |str (x:Str):ShV K H (.str x) (.str x)
 |tup {a:Addr} {vs:List V} {ds:List PyData}:SqT K H a vs->ShVs K H vs ds->ShV K H (.ref a) (.tuple ds)
inductive ShVs (K:Frag) (H:Hp):List V->List PyData->Prop
 |nil:ShVs K H [] []
 |cons {v:V} {d:PyData} {vs:List V} {ds:List PyData}:ShV K H v d->ShVs K H vs ds->ShVs K H (v::vs) (d::ds)
end
mutual
def shP:PV->Option PyData
 | .non=>some .none
 | .bl b=>some (.bool b)
 | .int i=>some (.int i)
 | .str x=>some (.str x)
 | .tup xs=>(shPs xs).map .tuple
 | .tpf xs=>(shPs xs).map .tuple
 |_=>none
def shPs:List PV->Option (List PyData)
 | []=>some []
 |p::ps=>(shP p).bind λd=>(shPs ps).map (d:: ·)
end
section
variable {X:Cx} {K:Frag} {tb:Hp->Prop} {H:Hp} {pins:List (Addr×Obj)} {σ:St} {s:Shared}
mutual
theorem ShV.reads (I:Inv X pins σ H s): ∀ {v:V} {d:PyData} {u:Value},ShV X.K H v d->RelV v u->Reads s.heap u d []
 |_,_,_,.non,r=>by cases r;exact .none
 |_,_,_,.bl b,r=>by cases r;exact .bool b
 |_,_,_,.int i,r=>by obtain ⟨t,rfl⟩:=r;exact .int i t
 |_,_,_,.str x,r=>by obtain ⟨t,rfl⟩:=r;exact .str x t
 |_,_,_,.tup hs ds,r=>by
  cases r
  obtain ⟨its,rs,⟨o,e,c,n,hd⟩,_⟩:=I.tuple hs
  exact .tuple e c hd (by simpa using ShVs.reads I ds rs)
theorem ShVs.reads (I:Inv X pins σ H s): ∀ {vs:List V} {ds:List PyData} {us:List Value},ShVs X.K H vs ds->Vals vs us->ReadsAll s.heap us ds []
 |_,_,_,.nil,r=>by cases r;exact .nil
 |_,_,_,.cons h hs,r=>by
  cases r with
  |cons r rs=>exact ReadsAll.cons (as:= []) (bs:= []) (ShV.reads I h r) (ShVs.reads I hs rs)
end
mutual
theorem Rep.sh: ∀ {v:V} {p:PV} {d:PyData},Rep K H v p->shP p=some d->ShV K H v d
 |_,_,_,.non,h=>by cases h;exact .non
 |_,_,_,.bl b,h=>by cases h;exact .bl b
 |_,_,_,.int i,h=>by cases h;exact .int i
 |_,_,_,.str x,h=>by cases h;exact .str x
 |_,_,_,.tup e r,h=>by
  unfold shP at h
  obtain ⟨ds,h1,rfl⟩:=oms h
  exact .tup (.of e) (Reps.sh r h1)
 |_,_,_,.tpf e r,h=>by
  unfold shP at h
  obtain ⟨ds,h1,rfl⟩:=oms h
  obtain ⟨o,d,e⟩:=e
  exact .tup (.inl (.inr ⟨o,e⟩)) (Reps.sh r h1)
 |_,_,_,.ob a,h=>by cases h
 |_,_,_,.sc _ _,h=>by cases h
 |_,_,_,.lst _ _,h=>by cases h
 |_,_,_,.dk _ _ _,h=>by cases h
 |_,_,_,.dt _ _ _,h=>by cases h
theorem Reps.sh: ∀ {vs:List V} {ps:List PV} {ds:List PyData},Reps K H vs ps->shPs ps=some ds->ShVs K H vs ds
 |_,_,_,.nil,h=>by cases h;exact .nil
 |_,_,_,.cons r rs,h=>by
  unfold shPs at h
  obtain ⟨d,h1,h⟩:=obs h
  obtain ⟨ds,h2,rfl⟩:=oms h
  exact .cons (Rep.sh r h1) (Reps.sh rs h2)
end
def rStrTup (K:Frag):List V->Hp->VK->Prop:=λxs H Q=> ∃a d,xs= [.ref a]/\ShV K H (.ref a) d/\d.showable=true/\d.hasDict=false/\d.depth<=100/\d.shown.length<=sizeLine/\Q (.str d.shown) H
theorem call_strTup (hg:X.A.guards=some []) (hu:X.A.units+150<cLine):CallR X (.type "str") (rStrTup X.K):=by
 intro pins s σ H xs us Q I r h
 obtain ⟨a,d,rfl,hs,h1,h2,h3,h4,q⟩:=h
 obtain ⟨u,rfl,e⟩:=Vals.one r
 cases e
 exact str_of_reads (hs.reads I rfl) h1 (λz=>by rw [h2] at z;cases z) hg (by omega) (λ_ _ e=>e) (λh' u tk hk=>⟨.str d.shown,H,I.kept (t':=tk) hk,⟨_,rfl⟩,q⟩) h4
def pStrT (ps:List PV):Option PV:=match ps with
 | [p]=>match p with
  | .tup _| .tpf _=>(shP p).bind λd=>if d.showable=true/\d.hasDict=false/\d.depth<=100/\d.shown.length<=sizeLine then some (.str d.shown) else none
  |_=>pStr [p]
 |_=>none
theorem bj_strT (hg:X.A.guards=some []) (hu:X.A.units+150<cLine) (hK:X.K=K:=by rfl):BJ X K tb (.type "str") (λxs H Q=>rStr K xs H Q\/rStrTup K xs H Q) pStrT:=⟨(cb_strK K hK (by omega)).or (hK ▸ call_strTup hg hu),λH vs ps res Q hb r h k=>by
 unfold pStrT at h
 split at h
 next p=>
  split at h
  next xs=>
   obtain ⟨v,rfl,rv⟩:=pd1 r
   obtain ⟨d,h1,h⟩:=obs h
   split at h
   next hz=>
    cases h
    cases rv with
    |im rv=>
     have sh:=rv.sh h1
     cases rv
     exact .inr ⟨_,d,rfl,sh,hz.1,hz.2.1,hz.2.2.1,hz.2.2.2,k _ H Ex.refl (.im (.str _)) rfl⟩
    |un e u=>cases u
   next=>cases h
  next xs=>
   obtain ⟨v,rfl,rv⟩:=pd1 r
   obtain ⟨d,h1,h⟩:=obs h
   split at h
   next hz=>
    cases h
    cases rv with
    |im rv=>
     have sh:=rv.sh h1
     cases rv
     exact .inr ⟨_,d,rfl,sh,hz.1,hz.2.1,hz.2.2.1,hz.2.2.2,k _ H Ex.refl (.im (.str _)) rfl⟩
    |un e u=>cases u
   next=>cases h
  next=>exact .inl ((bj_str (tb:=tb) (by omega) hK).k H vs [p] res Q hb r h k)
 next=>cases h⟩
theorem hu150 {k:Nat} {A:Around} (hr:Room k A):A.units+150<cLine:=by have:=hr.un;omega
end
end L2
namespace L2
open PySem PySem.W PyProof.Rows
structure Ins (cost:Int) (lost asked:List Int):Prop where
 c0:0<=cost
 l0: ∀i,0<=lost.getD i 0
 t0:0<lost.sum
 al:asked.length=lost.length
 n2:2<=lost.length
 n8:lost.length<=8
end L2
namespace L2
open PySem PySem.Spec PyProof.Rows
section
variable {X:Cx} {K:Frag} {tb:Hp->Prop} {es:List Expr} {pos:Pos}
def tgL (n:Nat) (g:FGs):FG:=λp ρ=>match p with
 | .lst ps=>if ps.length=n then g ps ρ else none
 |_=>none
end
section
variable {X:Cx} {K:Frag} {tb:Hp->Prop} {e a b c:Expr} {es:List Expr} {t ta tb' tc:TE} {f g h:EF} {pos p p2:Pos} {st:Stmt} {sts rest:List Stmt} {ts us:TS}
def KSN (K:Frag) (tb:Hp->Prop) (t:TS) (g:EF):Prop:= ∀H0 H σ ρ r D,TbS tb->ER K tb H0 H σ ρ->g ρ=some r->(∀a H',Ex tb H0 H'->H0 a=none->RepU K H' a r->D.rt (.ref a) H')->t D σ H
structure JSN (K:Frag) (tb:Hp->Prop) (X:Cx) (sts:List Stmt) (t:TS) (g:EF):Prop where
 pe:PSs X sts t
 k:KSN K tb t g
theorem jsn_ret (j:JN K tb X e t f):JSN K tb X [.Return (some e) pos] (tRet t) f:=⟨pss_one (ps_ret j.pe),λH0 H σ ρ r D hb R h q=>j.k H0 H σ ρ r _ hb R h λa H' x n u=>q a H' (R.ex.trans x) (R.ex.nil n) u⟩
def eOwn (i:Nat):EF:=λρ=>match ρ[i]? with
 |some (some (.m p))=>some p
 |_=>none
def nSeq (f:SF) (g:EF):EF:=λρ=>(f ρ).bind λfl=>match fl with
 | .nx ρ'=>g ρ'
 |_=>none
theorem jsn_cons {fs:SF} (j:JS K tb X st ts fs) (k:JSN K tb X rest us g):JSN K tb X (st::rest) (tSeq ts us) (nSeq fs g):=⟨pss_cons j.pe k.pe,λH0 H σ ρ r D hb R h q=>by
 unfold nSeq at h
 obtain ⟨fl,h1,h⟩:=obs h
 split at h
 next ρ'=>exact j.k H0 H σ ρ _ _ hb R h1 λσ' H' _ R'=>k.k H0 H' σ' ρ' r D hb R' h q
 next=>cases h⟩
def spPN (K:Frag) (tb:Hp->Prop) (m:List PV->Option PV):Sp:=λvs H Q _=> ∃ps r,Reps K H vs ps/\tb H/\m ps=some r/\ ∀a H',Ex tb H H'->H a=none->RepU K H' a r->Q (.ref a) H'
def mkMP (N n:Nat) (g:EF):List PV->Option PV:=λps=>if ps.length=n then g (rho0 N ps) else none
theorem kfnPN {P:Program} {w:World} {mg:Str->Option Value} {base:Heap} {x qual:Str} {st:Stmt} {f:Addr} {fd:FuncData} {dV:Value} {N ps:List Str} {k:Nat} (F:FunD K x qual st f fd dV) (S:FnScope N ps (defScope st)) (hb:TbS tb) (g:EF)
  (j: ∀(cdv:Value) (A:Around) (outer:List Env) (s:Shared) (H:Hp) (E:XK),Room k (A.deeper (envOfC qual (defScope st) s.heap.objs.size f cdv))->
   ∃t,JSN K tb (cxOf CX0 P w K mg base N qual (defScope st) f cdv A outer s H E).nox (defBody st) t g):FnOk P w K mg base CX0 (k+1) f fd ps (spPN K tb (mkMP N.length ps.length g)):=by
 refine F.ok S (λvs H Q E h=> ?_) (λcdv A outer s H vs Q E hr h=> ?_)
 ·obtain ⟨qs,r,h1,_,h2,_⟩:=h
  unfold mkMP at h2
  split at h2
  next e=>rw [h1.length];exact e
  next=>cases h2
 ·obtain ⟨qs,r,h1,ht,h2,q⟩:=h
  obtain ⟨t,hj⟩:=j cdv A outer s H E hr
  refine ⟨t,hj.pe,?_⟩
  unfold mkMP at h2
  split at h2
  ·exact hj.k H H _ _ r _ hb (er_start h1 ht) h2 λa H' x n u=>q a H' x n u
  ·cases h2
theorem jn_call {m:List PV->Option PV} {tA:TA} {fA:EA} (hp:PA X es tA->PE X e (tCall (spPN K tb m) [] E0 tA)) (ha:JA K tb X es tA fA):JN K tb X e (tCall (spPN K tb m) [] E0 tA) (eCl m fA):=⟨hp ha.pe,λH0 H σ ρ r Q hb R h q=>by
 unfold eCl at h
 obtain ⟨ps,h1,h⟩:=obs h
 refine ha.k H0 H σ ρ ps _ hb R h1 λvs H1 x1 r1=> ?_
 show spPN K tb m (vs++ []) H1 Q E0
 rw [List.append_nil]
 exact ⟨ps,r,r1,x1.tb R.tb,h,λa H2 x2 n u=>q a H2 (x1.trans x2) (x1.nil n) u⟩⟩
end
def bkN (b:Bst):Bool:=noLs b.pl && noLs b.co && noLs b.sp && noLs b.rows && noLs b.came && noLs b.went
def sameA (W:Wd) (b:Bst):Bool:=W.any λc=>c.A.pe==b.A.pe && c.A.co==b.A.co && c.A.sp==b.A.sp
def xBor (i:Nat) (f:XF):XF:=λW ρ=>match ρ[i]? with
 |some (some (.m (.lst ps)))=>(f W (ρ.set i (some (.f (.lst ps))))).bind λr=>match r.1 with
  | .ok p=>if (noL p && r.2.all λb=>bkN b && sameA W b)=true then some (.ok p,r.2) else none
  | .error _=>none
 |_=>none
section
variable {X:Cx} {K:Frag} {tb:Hp->Prop} {cB:Addr} {cs:List Addr} {E:XK} {e:Expr} {t:TE}
variable {H0 H H' H1 Hb:Hp} {W0 W W':Wd} {σ:St} {ρ:Rho} {a:Addr} {vs:List V} {ps:List PV}
theorem FzF.thawn {L:Lent} {b:Addr} {qs:List PV} (h:FzF K H1 b qs) (n:noLs qs=true) (hL: ∀q∈L,FzL H1 q.1 q.2) (hb:b∉L.map Prod.fst):FzF K (thawL H1 L) b qs:=by
 obtain ⟨us,⟨o,h1⟩,r⟩:=h
 refine ⟨us,⟨o,by rw [thawL_ne hb];exact h1⟩,r.tups (λa o e t=> ?_) n⟩
 rw [thawL_ne λz=> ?_]
 ·exact e
 ·obtain ⟨q,hq,rfl⟩:=List.mem_map.mp z
  obtain ⟨u,e'⟩:=hL q hq
  rw [e] at e';cases e';cases t
theorem FldAt.thawn {L:Lent} {b:Addr} {qs:List PV} (h:FldAt K H1 b qs) (n:noLs qs=true) (hL: ∀q∈L,FzL H1 q.1 q.2) (hb:b∉L.map Prod.fst):FldAt K (thawL H1 L) b qs:=by
 obtain ⟨us,h1,r⟩:=h
 refine ⟨us,by rw [thawL_ne hb];exact h1,r.tups (λa o e t=> ?_) n⟩
 rw [thawL_ne λz=> ?_]
 ·exact e
 ·obtain ⟨q,hq,rfl⟩:=List.mem_map.mp z
  obtain ⟨u,e'⟩:=hL q hq
  rw [e] at e';cases e';cases t
theorem jx_bor (i:Nat) {f:XF} (j:JX K tb cB cs E X e t f) (ht:TbT tb):JX K tb cB cs E X e (tBor t) (xBor i f):=⟨j.pe.bor,λH0 W0 W H σ ρ r W' Q hb R h q qe=>by
 unfold xBor at h
 split at h
 next ps hs=>
  obtain ⟨⟨r1,W1⟩,h1,h⟩:=obs h
  dsimp only at h
  cases r1 with
  |error k=>cases h
  |ok p=>
   by_cases hc:(noL p && W1.all λb=>bkN b && sameA W b)=true
   ·dsimp only at h
    rw [if_pos hc] at h
    cases h
    rw [Bool.and_eq_true,List.all_eq_true] at hc
    obtain ⟨np,nb⟩:=hc
    obtain ⟨G,g1,g2,S⟩:=R.er
    obtain ⟨a,e1,n0,nw,u⟩:=R.mu i _ hs
    obtain ⟨vs,ha,rv⟩: ∃vs,H a=some (.lst vs)/\Reps K H vs ps:=by cases u with|lst h r=>exact ⟨_,h,r⟩
    have hL: ∀q∈ [(a,vs)],H q.1=some (.lst q.2):=λq hq=>by cases List.mem_singleton.mp hq;exact ha
    refine ⟨[(a,vs)],by simp,hL,λHb fz=> ?_⟩
    obtain ⟨o,hob⟩:=fz.at_ (a,vs) (by simp)
    have hne: ∀b,b≠a->Hb b=H b:=λb n=>fz.out b (by simpa using n)
    have eb:Hb=upd H a (.frz o (.lst vs)):=by
     funext b
     by_cases z:b=a
     ·subst z;rw [upd_same];exact hob
     ·rw [upd_ne z];exact hne b z
    have ff:Fz H Hb:=fz.fz hL
    have Rb:EW K tb cB H0 W0 W Hb σ (ρ.set i (some (.f (.lst ps)))):=by
     have r2:Rep K (upd H a (.frz o (.lst vs))) (.ref a) (.lst ps):= .lst ⟨o,upd_same⟩ (rv.fz (by rw [<-eb];exact ff))
     rw [eb]
     exact R.back g1 g2 (S.frz hb hs e1 r2)
    refine j.k H0 W0 W Hb σ _ (.ok p) _ _ hb Rb h1 (λp' ep v H1 x n ns=> ?_) λk ek=>by cases ek
    cases ep
    have fb1:Fz Hb H1:=x.fz Rb.ps.wr
    have h1a:H1 a=some (.frz o (.lst vs)):=fb1 _ _ hob rfl
    have at1: ∀q∈ [(a,vs)],FzL H1 q.1 q.2:=λq hq=>by cases List.mem_singleton.mp hq;exact ⟨o,h1a⟩
    have out: ∀ {b:Addr},b≠a->b∉ [(a,vs)].map Prod.fst:=λ{b} z=>by simpa using z
    refine ⟨at1,q p rfl v _ ⟨λb w e nt z=> ?_,λb z=> ?_,x.new,⟨λb hb1=> ?_,x.wr.dj⟩,ht H1 _ at1 x.tb⟩ ?_ ns⟩
    ·by_cases y:b=a
     ·subst y
      rw [ha] at e;cases e
      exact upd_same
     ·rw [thawL_ne (out y)]
      exact x.keep b w (by rw [hne b y];exact e) nt z
    ·by_cases y:b=a
     ·subst y
      show upd _ _ _ _≠none
      rw [upd_same];simp
     ·rw [thawL_ne (out y)]
      exact x.dom b (by rw [hne b y];exact z)
    ·obtain ⟨⟨dx,b1⟩,b2,b3,b4,b5,b6,b7,nd⟩:=x.wr.at_ b hb1
     have hn:=nb b hb1
     unfold bkN at hn
     simp only [Bool.and_eq_true] at hn
     obtain ⟨⟨⟨⟨⟨⟨n1,n2⟩,n3⟩,n4⟩,n5⟩,n6⟩,sm⟩:=hn
     unfold sameA at sm
     obtain ⟨c,hc,sc⟩:=List.any_eq_true.mp sm
     simp only [Bool.and_eq_true,beq_iff_eq] at sc
     obtain ⟨⟨s1,s2⟩,s3⟩:=sc
     have C:=R.ps.wr.at_ c hc
     have fzn: ∀ {b:Addr} {qs:List PV},FzF K H b qs->b≠a:=λ{b qs} z y=>by
      obtain ⟨us,⟨o,h1⟩,_⟩:=z
      rw [y,ha] at h1;cases h1
     have fln: ∀ {b:Addr} {qs:List PV},FldAt K H1 b qs->b≠a:=λ{b qs} z y=>by
      obtain ⟨us,h1,_⟩:=z
      rw [y,h1a] at h1;cases h1
     exact ⟨⟨dx,by rw [thawL_ne (out λy=>by rw [y,h1a] at b1;cases b1)];exact b1⟩,b2.thawn n4 at1 (out (fln b2)),b3.thawn n5 at1 (out (fln b3)),b4.thawn n6 at1 (out (fln b4)),b5.thawn n1 at1 (out (s1 ▸ fzn C.pe)),b6.thawn n2 at1 (out (s2 ▸ fzn C.co)),b7.thawn n3 at1 (out (s3 ▸ fzn C.sp)),nd⟩
    ·cases n with
     |im n=>exact .im (n.thawn np at1)
     |un e hn n=>cases n<;>cases np
   ·dsimp only at h
    rw [if_neg hc] at h
    cases h
 next=>cases h⟩
end
theorem Room.units1 {k:Nat} {A:Around} (r:Room k A):A.in1.units<cLine:=by have:=r.un;show A.units+1<_;omega
def tupsL:List PV->Option (List (List V))
 | []=>some []
 | .tup xs::ps=>(allV xs).bind λv=>(tupsL ps).map (v:: ·)
 |_::_=>none
def tupsO:PV->Option (List (List V))
 | .tup ps=>tupsL ps
 | .tpf ps=>tupsL ps
 |_=>none
def eqT (a b:List (List V)):Bool:=(List.range (min a.length b.length)).all (λj=>(List.range (min (a.getD j []).length (b.getD j []).length)).all (λi=>eqV ((a.getD j []).getD i .non) ((b.getD j []).getD i .non)) && (a.getD j []).length==(b.getD j []).length) && a.length==b.length
def pNeT (p q:PV):Option PV:=(tupsO p).bind λa=>(tupsO q).map λb=> .bl (!eqT a b)
section
variable {X:Cx} {K:Frag} {tb:Hp->Prop} {pins:List (Addr×Obj)} {σ:List (Option V)} {H:Hp} {s:Shared} {x y:V} {p q:PV}
def TupsAt (K:Frag) (H:Hp) (x:V) (a:List (List V)):Prop:= ∃c xs,x= .ref c/\SqT K H c xs/\xs.length=a.length/\ ∀j,j<a.length-> ∃d,xs[j]? =some (.ref d)/\SqT K H d (a.getD j [])/\(a.getD j []).all flatV=true
theorem tupsL_rep: ∀ {xs:List V} {ps:List PV} {a:List (List V)},Reps K H xs ps->tupsL ps=some a->xs.length=a.length/\ ∀j,j<a.length-> ∃d,xs[j]? =some (.ref d)/\SqT K H d (a.getD j [])/\(a.getD j []).all flatV=true
 |_,_,_,.nil,h=>by cases h;exact ⟨rfl,λj h=>absurd h (Nat.not_lt_zero _)⟩
 |_,_,_,.cons (p:=p) r rs,h=>by
  cases p with
  |tup us=>
   obtain ⟨v,h1,h⟩:=obs h
   obtain ⟨a,h2,h⟩:=oms h
   cases h
   obtain ⟨d,vs,rfl,hd,rv⟩:=(RepT.im r).tup
   obtain ⟨rfl,fl⟩:=allV_rep rv h1
   obtain ⟨l,g⟩:=tupsL_rep rs h2
   refine ⟨by rw [List.length_cons,List.length_cons,l],λj hj=> ?_⟩
   cases j with
   |zero=>exact ⟨d,rfl,hd,fl⟩
   |succ j=>
    obtain ⟨d,e,h1,h2⟩:=g j (by simpa using hj)
    exact ⟨d,by simpa using e,by simpa using h1,by simpa using h2⟩
  |_=>cases h
theorem tups_rep {a:List (List V)} (r:RepT K H x p) (h:tupsO p=some a):TupsAt K H x a:=by
 cases p with
 |tup ps=>
  obtain ⟨c,xs,rfl,hc,rs⟩:=r.tup
  obtain ⟨l,g⟩:=tupsL_rep rs h
  exact ⟨c,xs,rfl,hc,l,g⟩
 |tpf ps=>
  obtain ⟨c,xs,rfl,hc,rs⟩:=r.tpf
  obtain ⟨l,g⟩:=tupsL_rep rs h
  exact ⟨c,xs,rfl,hc,l,g⟩
 |_=>cases h
theorem eqV_refl {v:V} (h:flatV v=true):eqV v v=true:=by
 cases v<;>first|rfl|(simp [eqV];done)|cases h|(simp [flatV] at h)
theorem eqAt_tup {A:Around} {c d:Addr} {us ws:List V} (I:Inv X pins σ H s) (hu:A.units<cLine) (hc:SqT X.K H c us) (hd:SqT X.K H d ws) (fu:us.all flatV=true) (fw:ws.all flatV=true):
  SeqAt.EqAt A s (.ref c) (.ref d) ((List.range (min us.length ws.length)).all (λi=>eqV (us.getD i .non) (ws.getD i .non)) && us.length==ws.length):=by
 by_cases e:c=d
 ·subst e
  have:=I.tuple_inj hc hd
  subst this
  have:((List.range (min us.length us.length)).all (λi=>eqV (us.getD i .non) (us.getD i .non)) && us.length==us.length)=true:=by
   rw [Bool.and_eq_true,List.all_eq_true]
   refine ⟨λi hi=>eqV_refl ?_,by simp⟩
   have hi:=List.mem_range.mp hi
   have hl:i<us.length:=by omega
   rw [List.getD_eq_getElem?_getD,List.getElem?_eq_getElem hl]
   exact List.all_eq_true.mp fu _ (List.getElem_mem hl)
  rw [this]
  exact SeqAt.EqAt.same _
 ·obtain ⟨its,r1,p1,_⟩:=I.tuple hc
  obtain ⟨its2,r2,p2,_⟩:=I.tuple hd
  have l1:=r1.length
  have l2:=r2.length
  have h:=SeqAt.RcAt.tuples (A:=A) (s:=s) (e:=λi=>eqV (us.getD i .non) (ws.getD i .non)) p1 p2 hu (λj h1 h2=>by
   simp only [List.size_toArray] at h1 h2
   have e1:us[j]? =some us[j]:=List.getElem?_eq_getElem (by omega)
   have e2:ws[j]? =some ws[j]:=List.getElem?_eq_getElem (by omega)
   obtain ⟨v1,g1,rv1⟩:=r1.get e1
   obtain ⟨v2,g2,rv2⟩:=r2.get e2
   have z1:its.toArray[j]=v1:=by
    have:its[j]? =some its[j]:=List.getElem?_eq_getElem h1
    rw [this] at g1
    simpa using Option.some.inj g1
   have z2:its2.toArray[j]=v2:=by
    have:its2[j]? =some its2[j]:=List.getElem?_eq_getElem h2
    rw [this] at g2
    simpa using Option.some.inj g2
   rw [z1,z2,List.getD_eq_getElem?_getD,List.getD_eq_getElem?_getD,e1,e2]
   exact eqAt_V rv1 rv2 (List.all_eq_true.mp fu _ (List.getElem_mem _)) (List.all_eq_true.mp fw _ (List.getElem_mem _)))
  simp only [List.size_toArray] at h
  rw [<-l1, <-l2] at h
  exact SeqAt.EqAt.of_refs e h
def rNeT (K:Frag):R2:=λx y H Q=> ∃a b,TupsAt K H x a/\TupsAt K H y b/\Q (.bl (!eqT a b)) H
theorem op_neT (hu:X.A.units<cLine) (hu1:X.A.in1.units<cLine):OpR X (compareOp .NotEq) (rNeT X.K):=by
 intro pins s σ H x y v u Q I rx ry h
 obtain ⟨a,b,⟨c,xs,rfl,hc,la,ga⟩,⟨d,ys,rfl,hd,lb,gb⟩,q⟩:=h
 cases rx
 cases ry
 obtain ⟨its,r1,p1,_⟩:=I.tuple hc
 obtain ⟨its2,r2,p2,_⟩:=I.tuple hd
 have l1:=r1.length
 have l2:=r2.length
 have h:=SeqAt.RcNeAt.tuples (A:=X.A) (s:=s) (e:=λj=>(List.range (min (a.getD j []).length (b.getD j []).length)).all (λi=>eqV ((a.getD j []).getD i .non) ((b.getD j []).getD i .non)) && (a.getD j []).length==(b.getD j []).length) p1 p2 hu (λj h1 h2=>by
  simp only [List.size_toArray] at h1 h2
  obtain ⟨c',e1,hc',fc⟩:=ga j (by omega)
  obtain ⟨d',e2,hd',fd⟩:=gb j (by omega)
  obtain ⟨v1,g1,rv1⟩:=r1.get e1
  obtain ⟨v2,g2,rv2⟩:=r2.get e2
  have z1:its.toArray[j]=v1:=by
   have:its[j]? =some its[j]:=List.getElem?_eq_getElem h1
   rw [this] at g1
   simpa using Option.some.inj g1
  have z2:its2.toArray[j]=v2:=by
   have:its2[j]? =some its2[j]:=List.getElem?_eq_getElem h2
   rw [this] at g2
   simpa using Option.some.inj g2
  rw [z1,z2]
  cases rv1
  cases rv2
  exact eqAt_tup I hu1 hc' hd' fc fd)
 simp only [List.size_toArray] at h
 rw [<-l1, <-l2,la,lb] at h
 exact h X.prog X.w X.xe _ ⟨.bl _,H,I,rfl,q⟩
theorem oj_neT (hu:X.A.units<cLine) (hu1:X.A.in1.units<cLine) (hK:X.K=K:=by rfl):OpJ X K tb (compareOp .NotEq) (rNeT K) pNeT:=⟨hK ▸ op_neT hu hu1,λH x y p q res Q hb rx ry h k=>by
 unfold pNeT at h
 obtain ⟨a,h1,h⟩:=obs h
 obtain ⟨b,h2,h⟩:=oms h
 cases h
 exact ⟨a,b,tups_rep rx h1,tups_rep ry h2,k _ H Ex.refl (.im (.bl _)) rfl⟩⟩
end
end L2
namespace My
open PySem L2
def g_ClaimRow:SF:=(sRet (eTup (aC (eW 0) (aC (eC (.str "claim")) (aC (eW 1) (aC (eW 2) (aC (eW 3) (aC (eW 4) (aC (eW 5) aN)))))))))
def m_ClaimRow:List PV->Option PV:=mkM 6 6 g_ClaimRow
def g_CarryRow:SF:=(sRet (eTup (aC (eW 0) (aC (eC (.str "carry")) (aC (eW 1) (aC (eW 2) aN))))))
def m_CarryRow:List PV->Option PV:=mkM 3 3 g_CarryRow
def g_StepRow:SF:=(sRet (eTup (aC (eW 0) (aC (eC (.str "step")) (aC (eW 1) (aC (eW 2) (aC (eW 3) (aC (eW 4) (aC (eW 5) (aC (eW 6) aN))))))))))
def m_StepRow:List PV->Option PV:=mkM 7 7 g_StepRow
def g_OfferRow:SF:=(sRet (eTup (aC (eW 0) (aC (eC (.str "offer")) (aC (eW 1) (aC (eW 2) (aC (eW 3) (aC (eW 4) aN))))))))
def m_OfferRow:List PV->Option PV:=mkM 5 5 g_OfferRow
def g_RuleRow:SF:=(sRet (eTup (aC (eW 0) (aC (eC (.str "rule")) (aC (eW 1) (aC (eW 2) (aC (eW 4) (aC (eCl pTuple (aC (eV 3) aN)) aN))))))))
def m_RuleRow:List PV->Option PV:=mkM 5 5 g_RuleRow
def g_PayRow:SF:=(sRet (eTup (aC (eW 0) (aC (eC (.str "pay")) (aC (eW 1) (aC (eW 2) (aC (eW 3) (aC (eW 4) aN))))))))
def m_PayRow:List PV->Option PV:=mkM 5 5 g_PayRow
def g_DunRow:SF:=(sRet (eTup (aC (eW 0) (aC (eC (.str "dun")) (aC (eW 1) (aC (eW 2) aN))))))
def m_DunRow:List PV->Option PV:=mkM 3 3 g_DunRow
def g_RuleText:SF:=(sSeq (sAsgM 1 (eLst (aC (eC (.str "rule")) (aC (eCl pStrT (aC (eOp pIx (eV 0) (eC (.int (2)))) aN)) (aC (eCl pStrT (aC (eOp pIx (eV 0) (eC (.int (3)))) aN)) (aC (eIf (asB (eOp pIx (eV 0) (eC (.int (4))))) (eC (.str "back")) (eC (.str "own"))) aN))))))
  (sSeq (sFor (iaTup (eOp pIx (eV 0) (eC (.int (5))))) (tgT 2 (tgCons (tgN 2) (tgCons (tgN 3) tgNil))) (sApp 1 (eJs (aC (eFmt (eV 2)) (aC (eC (.str "=")) (aC (eFmt (eV 3)) aN))))))
  (sRet (eJoin (eC (.str " ")) (eV 1)))))
def m_RuleText:List PV->Option PV:=mkM 4 1 g_RuleText
def g_RowText:SF:=(sSeq (sIf (asB (eOp pEq (eOp pIx (eV 0) (eC (.int (1)))) (eC (.str "rule")))) (sRet (eCl m_RuleText (aC (eW 0) aN))) sNil)
  (sRet (eJoin (eC (.str " ")) (eComp 1 [] (iaTup (eSl pSlT (eV 0) (ePart (eC (.int (1)))) eNoPart)) (tgN 0) (λ_=>some true) (eCl pStrT (aC (eV 0) aN))))))
def m_RowText:List PV->Option PV:=mkM 1 1 g_RowText
def g_FindClaim:SF:=(sSeq (sFor (iaList (eW 0)) (tgN 2) (sIf (asB (eOp pEq (eOp pIx (eV 2) (eC (.int 0))) (eV 1))) (sRetV 2) sNil))
  (sRet (eC .non)))
def m_FindClaim:List PV->Option PV:=mkM 3 2 g_FindClaim
def g_PutRow:NF:=(nIf (asB (eOp pEq (eOp pIx (eV 1) (eC (.int (1)))) (eC (.str "claim")))) (nApp (eC (.int 0)) (nvF (eSl pSlT (eV 1) (ePart (eC (.int (3)))) eNoPart))) (nIf (asB (eOp pEq (eOp pIx (eV 1) (eC (.int (1)))) (eC (.str "carry")))) (nApp (eNeg (eC (.int 1))) (nvCall m_FindClaim (eNeg (eC (.int 2))) (eOp pIx (eV 1) (eC (.int (3)))))) (nIf (asB (eOp pEq (eOp pIx (eV 1) (eC (.int (1)))) (eC (.str "rule")))) nNew nNil)))
def m_PutRow:List (List PV)->PV->Option (List (List PV)):=mkPut g_PutRow
def m_RoundsOf:List PV->Option PV:=roundsM m_PutRow
def g_OverOf:SF:=(sRet (eOp pSub (eCl pLen (aC (eV 0) aN)) (eC (.int 1))))
def m_OverOf:List PV->Option PV:=mkM 1 1 g_OverOf
def g_ClaimsOf:SF:=(sSeq (sIf (tyChain pLe pLt (eC (.int 0)) (eV 1) (eCl pLen (aC (eV 0) aN))) (sRet (eCl pList (aC (eOp pIx (eV 0) (eV 1)) aN))) sNil)
  (sRet (eLst aN)))
def m_ClaimsOf:List PV->Option PV:=mkM 2 2 g_ClaimsOf
def g_ComesTwice:SF:=(sSeq (sIf (asB (eOp pEq (eOp pIx (eV 1) (eC (.int (1)))) (eC (.str "claim")))) (sRet (eOp pNis (eCl m_FindClaim (aC (eOp pIx (eV 0) (eC (.int 0))) (aC (eOp pIx (eV 1) (eC (.int (3)))) aN))) (eC .non))) sNil)
  (sSeq (sIf (asB (eOp pEq (eOp pIx (eV 1) (eC (.int (1)))) (eC (.str "carry")))) (sRet (eOp pNis (eCl m_FindClaim (aC (eOp pIx (eV 0) (eNeg (eC (.int 1)))) (aC (eOp pIx (eV 1) (eC (.int (3)))) aN))) (eC .non))) sNil)
  (sSeq (sIf (asB (eOp pEq (eOp pIx (eV 1) (eC (.int (1)))) (eC (.str "rule")))) (sSeq (sAsg 2 (eComp 2 [] (iaTup (eOp pIx (eV 1) (eC (.int (5))))) (tgT 2 (tgCons (tgN 0) (tgCons (tgN 1) tgNil))) (λ_=>some true) (eW 0)))
  (sRet (eOp pLt (eCl pLenSet (aC (eW 2) aN)) (eCl pLen (aC (eV 2) aN))))) sNil)
  (sRet (eC (.bl false))))))
def m_ComesTwice:List PV->Option PV:=mkM 3 2 g_ComesTwice
def g_LacksClaim:SF:=(sSeq (sIf (asB (eOp pEq (eOp pIx (eV 1) (eC (.int (1)))) (eC (.str "carry")))) (sRet (eOp pIs (eCl m_FindClaim (aC (eCl m_ClaimsOf (aC (eW 0) (aC (eOp pSub (eCl m_OverOf (aC (eW 0) aN)) (eC (.int 1))) aN))) (aC (eOp pIx (eV 1) (eC (.int (3)))) aN))) (eC .non))) sNil)
  (sSeq (sIf (asB (eOp pEq (eOp pIx (eV 1) (eC (.int (1)))) (eC (.str "step")))) (sRet (eOp pEq (eCl m_ClaimsOf (aC (eW 0) (aC (eOp pIx (eV 1) (eC (.int (3)))) aN))) (eLst aN))) sNil)
  (sSeq (sIf (asB (eOp pEq (eOp pIx (eV 1) (eC (.int (1)))) (eC (.str "offer")))) (sRet (eOp pIs (eCl m_FindClaim (aC (eCl m_ClaimsOf (aC (eW 0) (aC (eOp pIx (eV 1) (eC (.int (3)))) aN))) (aC (eOp pIx (eV 1) (eC (.int (4)))) aN))) (eC .non))) sNil)
  (sSeq (sIf (asB (eOp pEq (eOp pIx (eV 1) (eC (.int (1)))) (eC (.str "rule")))) (sSeq (sAsg 2 (eCl m_ClaimsOf (aC (eW 0) (aC (eOp pIx (eV 1) (eC (.int (3)))) aN))))
  (sRet (eOr (eOp pEq (eV 2) (eLst aN)) (eCl pAny (aC (eComp 2 [2] (iaTup (eOp pIx (eV 1) (eC (.int (5))))) (tgT 2 (tgCons (tgN 0) (tgCons (tgN 1) tgNil))) (λ_=>some true) (eOp pIs (eCl m_FindClaim (aC (eW 2) (aC (eW 0) aN))) (eC .non))) aN))))) sNil)
  (sRet (eC (.bl false)))))))
def m_LacksClaim:List PV->Option PV:=mkM 3 2 g_LacksClaim
def g_MeetsOver:SF:=(sSeq (sIf (asB (eOp pEq (eOp pIx (eV 1) (eC (.int (1)))) (eC (.str "claim")))) (sRet (eOp pGt (eCl m_OverOf (aC (eW 0) aN)) (eC (.int 0)))) sNil)
  (sSeq (sIf (asB (eOp pEq (eOp pIx (eV 1) (eC (.int (1)))) (eC (.str "carry")))) (sRet (eOp pEq (eCl m_OverOf (aC (eW 0) aN)) (eC (.int (3))))) sNil)
  (sSeq (sIf (asB (eOp pIn (eOp pIx (eV 1) (eC (.int (1)))) (eTup (aC (eC (.str "step")) (aC (eC (.str "offer")) (aC (eC (.str "rule")) aN)))))) (sRet (eOp pLt (eOp pIx (eV 1) (eC (.int (3)))) (eCl m_OverOf (aC (eW 0) aN)))) sNil)
  (sRet (eC (.bl false))))))
def m_MeetsOver:List PV->Option PV:=mkM 2 2 g_MeetsOver
def g_WorthIn:SF:=(sRet (eOp pIx (eCl m_FindClaim (aC (eCl m_ClaimsOf (aC (eW 0) (aC (eOp pIx (eV 1) (eC (.int (3)))) aN))) (aC (eW 2) aN))) (eC (.int (3)))))
def m_WorthIn:List PV->Option PV:=mkM 3 3 g_WorthIn
def g_NamesTooMuch:SF:=(sSeq (sIf (asB (eOp pEq (eOp pIx (eV 1) (eC (.int (1)))) (eC (.str "offer")))) (sRet (eOp pGt (eOp pIx (eV 1) (eC (.int (5)))) (eCl m_WorthIn (aC (eW 0) (aC (eW 1) (aC (eOp pIx (eV 1) (eC (.int (4)))) aN)))))) sNil)
  (sSeq (sIf (asB (eOp pEq (eOp pIx (eV 1) (eC (.int (1)))) (eC (.str "rule")))) (sRet (eCl pAny (aC (eComp 2 [0,1] (iaTup (eOp pIx (eV 1) (eC (.int (5))))) (tgT 2 (tgCons (tgN 0) (tgCons (tgN 1) tgNil))) (λ_=>some true) (eOp pGt (eV 1) (eCl m_WorthIn (aC (eW 2) (aC (eW 3) (aC (eW 0) aN)))))) aN))) sNil)
  (sRet (eC (.bl false)))))
def m_NamesTooMuch:List PV->Option PV:=mkM 2 2 g_NamesTooMuch
def g_CheckNext:SX:=(sxSeq (sxIf (asB (eOp pGe (eV 2) (eC (.int (300))))) (sxRaise 0) sxNil)
  (sxSeq (sxIf (asB (eCl m_LacksClaim (aC (eW 0) (aC (eW 3) aN)))) (sxRaise 1) sxNil)
  (sxSeq (sxIf (asB (eCl m_MeetsOver (aC (eW 0) (aC (eW 3) aN)))) (sxRaise 2) sxNil)
  (sxSeq (sxIf (tyAnd (asB (eOp pNis (eV 1) (eC .non))) (asB (eOp pLt (eOp pIx (eV 3) (eC (.int (2)))) (eOp pIx (eV 1) (eC (.int (2))))))) (sxRaise 3) sxNil)
  (sxSeq (sxIf (asB (eCl m_ComesTwice (aC (eW 0) (aC (eW 3) aN)))) (sxRaise 4) sxNil)
  (sxIf (asB (eCl m_NamesTooMuch (aC (eW 0) (aC (eW 3) aN)))) (sxRaise 5) sxNil))))))
def m_CheckNext:List PV->Option EX:=mkME 4 4 g_CheckNext
def g_CheckRow:SX:=(sxDo (xClE m_CheckNext (xaL (aC (eCl m_RoundsOf (aC (eW 0) aN)) (aC (eIf (asB (eOp pNe (eV 0) (eLst aN))) (eOp pIx (eV 0) (eNeg (eC (.int 1)))) (eC .non)) (aC (eW 1) (aC (eW 2) aN)))))))
def m_CheckRow:List PV->Option EX:=mkME 3 3 g_CheckRow
def g_BookRowsKept:SX:=(sxSeq (sxAsg 2 (xIf (asB (eOp pIs (eV 1) (eC .non))) (xOf (xFld (λb=> .int b.dn) 0)) (xL (eS (eW 1)))))
  (sxRet (xComp 3 [2] (xiZip3 (xFld (λb=> .lst b.rows) 0) (xFld (λb=> .lst b.came) 0) (xFld (λb=> .lst b.went) 0)) (tgT 3 (tgCons (tgN 0) (tgCons (tgN 1) (tgCons (tgN 2) tgNil)))) (tyAnd (asB (eOp pLe (eV 1) (eV 3))) (tyOr (asB (eOp pIs (eV 2) (eC .non))) (asB (eOp pLt (eV 3) (eV 2))))) (eW 0))))
def m_BookRowsKept:Wd->List PV->Option (EX×Wd):=mkMN 3 2 g_BookRowsKept
def g_BookWrite:SX:=(sxSeq (sxDo (xClE m_CheckRow (xaC (xMt m_BookRowsKept [.non] (eW 0) xaN) (xaC (xLen (xFld (λb=> .lst b.rows) 0)) (xaC (xL (eW 1)) xaN)))))
  (sxSeq (sxDone 0 1)
  (sxSeq (sxAppF lfRows 0 (xL (eW 1)))
  (sxSeq (sxAppF lfCame 0 (xOf (xFld (λb=> .int b.dn) 0)))
  (sxSeq (sxAppF lfWent 0 (xL (eC .non)))
  (sxL (sRet (eOp pIx (eV 1) (eC (.int (0)))))))))))
def m_BookWrite:Wd->List PV->Option (EX×Wd):=mkMX 2 2 g_BookWrite
def g_BookCarry:SX:=(sxRet (xMt m_BookWrite [] (eW 0) (xaC (xMap m_CarryRow (xaC (xLen (xFld (λb=> .lst b.rows) 0)) (xaC (xL (eW 1)) (xaC (xL (eW 2)) xaN)))) xaN)))
def m_BookCarry:Wd->List PV->Option (EX×Wd):=mkMX 3 3 g_BookCarry
def g_BookClaim:SX:=(sxRet (xMt m_BookWrite [] (eW 0) (xaC (xMap m_ClaimRow (xaC (xLen (xFld (λb=> .lst b.rows) 0)) (xaC (xL (eW 1)) (xaC (xL (eW 2)) (xaC (xL (eW 3)) (xaC (xL (eW 4)) (xaC (xL (eW 5)) xaN))))))) xaN)))
def m_BookClaim:Wd->List PV->Option (EX×Wd):=mkMX 6 6 g_BookClaim
def g_BookDun:SX:=(sxRet (xMt m_BookWrite [] (eW 0) (xaC (xMap m_DunRow (xaC (xLen (xFld (λb=> .lst b.rows) 0)) (xaC (xL (eW 1)) (xaC (xL (eW 2)) xaN)))) xaN)))
def m_BookDun:Wd->List PV->Option (EX×Wd):=mkMX 3 3 g_BookDun
def g_BookOffer:SX:=(sxRet (xMt m_BookWrite [] (eW 0) (xaC (xMap m_OfferRow (xaC (xLen (xFld (λb=> .lst b.rows) 0)) (xaC (xL (eW 1)) (xaC (xL (eW 2)) (xaC (xL (eW 3)) (xaC (xL (eW 4)) xaN)))))) xaN)))
def m_BookOffer:Wd->List PV->Option (EX×Wd):=mkMX 5 5 g_BookOffer
def g_BookPay:SX:=(sxRet (xMt m_BookWrite [] (eW 0) (xaC (xMap m_PayRow (xaC (xLen (xFld (λb=> .lst b.rows) 0)) (xaC (xL (eW 1)) (xaC (xL (eW 2)) (xaC (xL (eW 3)) (xaC (xL (eW 4)) xaN)))))) xaN)))
def m_BookPay:Wd->List PV->Option (EX×Wd):=mkMX 5 5 g_BookPay
def g_BookRule:SX:=(sxRet (xMt m_BookWrite [] (eW 0) (xaC (xMap m_RuleRow (xaC (xLen (xFld (λb=> .lst b.rows) 0)) (xaC (xL (eW 1)) (xaC (xL (eW 2)) (xaC (xL (eW 3)) (xaC (xL (eW 4)) xaN)))))) xaN)))
def m_BookRule:Wd->List PV->Option (EX×Wd):=mkMX 5 5 g_BookRule
def g_BookStep:SX:=(sxRet (xMt m_BookWrite [] (eW 0) (xaC (xMap m_StepRow (xaC (xLen (xFld (λb=> .lst b.rows) 0)) (xaC (xL (eW 1)) (xaC (xL (eW 2)) (xaC (xL (eW 3)) (xaC (xL (eW 4)) (xaC (xL (eW 5)) (xaC (xL (eW 6)) xaN)))))))) xaN)))
def m_BookStep:Wd->List PV->Option (EX×Wd):=mkMX 7 7 g_BookStep
def g_LAt:SF:=(sSeq (sIf (asB (eOp pEq (eV 0) (eLst aN))) (sRet (eC (.int 0))) sNil)
  (sRet (eOp pAdd (eOp pIx (eV 0) (eOp pMod (eV 1) (eCl pLen (aC (eV 0) aN)))) (eOp pMulI (eC (.int 31)) (eOp pDiv (eV 1) (eCl pLen (aC (eV 0) aN)))))))
def m_LAt:List PV->Option PV:=mkM 2 2 g_LAt
def g_LInt:SF:=(sRet (eAnd (eIsi "int" (eV 0)) (eT (tyNot (asB (eIsi "bool" (eV 0)))))))
def m_LInt:List PV->Option PV:=mkM 1 1 g_LInt
def g_LTexts:SF:=(sSeq (sIf (tyOr (tyNot (asB (eIsi "list" (eV 0)))) (asB (eOp pNe (eCl pLen (aC (eV 0) aN)) (eCl pLen (aC (eV 1) aN))))) (sRet (eC (.bl false))) sNil)
  (sSeq (sFor (iaRng1 (aC (eCl pLen (aC (eV 1) aN)) aN)) (tgN 2) (sIf (tyOr (tyNot (asB (eIsi "str" (eOp pIx (eV 0) (eV 2))))) (asB (eOp pNe (eOp pIx (eV 0) (eV 2)) (eOp pIx (eV 1) (eV 2))))) (sRet (eC (.bl false))) sNil))
  (sRet (eC (.bl true)))))
def m_LTexts:List PV->Option PV:=mkM 3 2 g_LTexts
def g_BookKept:SX:=(sxRet (xComp 1 [] (xiList (xMt m_BookRowsKept [] (eW 0) (xaL (aC (eW 1) aN)))) (tgN 0) (λ_=>some true) (eCl m_RowText (aC (eW 0) aN))))
def m_BookKept:Wd->List PV->Option (EX×Wd):=mkMN 2 2 g_BookKept
def g_LWorth:SF:=(sRet (eOp pIx (eLst (aC (eOp pAdd (eC (.int 1)) (eOp pMod (eOp pDiv (eV 0) (eC (.int 4))) (eC (.int 9)))) (aC (eOp pAdd (eC (.int 1)) (eOp pMod (eOp pDiv (eV 0) (eC (.int 4))) (eC (.int 1000)))) (aC (eOp pAdd (eC (.int 1)) (eOp pMod (eOp pDiv (eV 0) (eC (.int 4))) (eC (.int 9999999998)))) (aC (eC (.int 9999999998)) aN))))) (eOp pMod (eV 0) (eC (.int 4)))))
def m_LWorth:List PV->Option PV:=mkM 1 1 g_LWorth
def g_LCoins:SF:=(sRet (eOp pIx (eLst (aC (eOp pMod (eOp pDiv (eV 0) (eC (.int 4))) (eC (.int 9))) (aC (eOp pMod (eOp pDiv (eV 0) (eC (.int 4))) (eC (.int 1000))) (aC (eOp pMod (eOp pDiv (eV 0) (eC (.int 4))) (eC (.int 9999999999))) (aC (eC (.int 9999999999)) aN))))) (eOp pMod (eV 0) (eC (.int 4)))))
def m_LCoins:List PV->Option PV:=mkM 1 1 g_LCoins
def g_LSides:SF:=(sSeq (sAsgM 2 (eLst aN))
  (sSeq (sFor (iaRng1 (aC (eOp pAdd (eC (.int 2)) (eOp pMod (eV 0) (eC (.int 7)))) aN)) (tgN 3) (sSeq (sApp 2 (eOp pAdd (eC (.int 1)) (eOp pMod (eV 1) (eC (.int 6)))))
  (sAsg 1 (eOp pDiv (eV 1) (eC (.int 6))))))
  (sRetV 2)))
def m_LSides:List PV->Option PV:=mkM 4 2 g_LSides
def g_LWins:SF:=(sSeq (sAsgM 2 (eLst aN))
  (sSeq (sFor (iaRng1 (aC (eCl pLen (aC (eV 1) aN)) aN)) (tgN 3) (sSeq (sAsg 4 (eOp pMod (eOp pAdd (eV 0) (eOp pMulI (eC (.int 3)) (eV 3))) (eC (.int 8))))
  (sSeq (sIf (asB (eOp pLt (eV 4) (eC (.int 6)))) (sApp 2 (eTup (aC (eOp pIx (eOp pIx (eV 1) (eV 3)) (eC (.int 0))) (aC (eOp pSub (eOp pDiv (eOp pMulI (eOp pIx (eOp pIx (eV 1) (eV 3)) (eC (.int 3))) (eCl pMin (aC (eC (.int 4)) (aC (eV 4) aN)))) (eC (.int 4))) (eCl pInt (aC (eOp pEq (eV 4) (eC (.int 5))) aN))) aN)))) sNil)
  (sAsg 0 (eOp pDiv (eV 0) (eC (.int 8)))))))
  (sRetV 2)))
def m_LWins:List PV->Option PV:=mkM 5 2 g_LWins
def g_LStep:SF:=(sSeq (sAsg 4 (eOp pIx (eLst (aC (eC (.str "filing")) (aC (eC (.str "hearing")) (aC (eC (.str "plea")) (aC (eC (.str "speech")) (aC (eC (.str "witness")) (aC (eC (.str "paper")) aN))))))) (eOp pMod (eOp pDiv (eV 0) (eC (.int 8))) (eC (.int 6)))))
  (sSeq (sAsg 5 (eOp pIx (eLst (aC (eC (.str "none")) (aC (eC (.str "none")) (aC (eC (.str "none")) (aC (eC (.str "late")) (aC (eC (.str "much")) aN)))))) (eOp pMod (eV 1) (eC (.int 5)))))
  (sSeq (sAsg 6 (eOp pIx (eLst (aC (eC (.int 1)) (aC (eC (.int 1)) (aC (eOp pMod (eOp pDiv (eV 1) (eC (.int 5))) (eC (.int 100))) (aC (eC (.int 3)) aN))))) (eOp pMod (eOp pDiv (eV 0) (eC (.int 48))) (eC (.int 4)))))
  (sSeq (sIf (asB (eOp pEq (eV 4) (eC (.str "witness")))) (sAsg 6 (eCl m_LCoins (aC (eOp pDiv (eV 1) (eC (.int 5))) aN))) sNil)
  (sSeq (sIf (asB (eOp pEq (eV 4) (eC (.str "paper")))) (sAsg 6 (eOp pIx (eLst (aC (eC (.int 49)) (aC (eC (.int 50)) (aC (eC (.int 51)) (aC (eOp pMod (eOp pDiv (eV 1) (eC (.int 5))) (eC (.int 10000000))) aN))))) (eOp pMod (eOp pDiv (eV 0) (eC (.int 48))) (eC (.int 4))))) sNil)
  (sRet (eTup (aC (eC (.str "step")) (aC (eTup (aC (eW 2) (aC (eOp pMod (eV 0) (eCl pLen (aC (eV 3) aN))) (aC (eW 4) (aC (eW 6) (aC (eW 5) aN)))))) aN)))))))))
def m_LStep:List PV->Option PV:=mkM 7 4 g_LStep
def g_LClaim:SF:=(sSeq (sAsg 3 (eOp pMod (eOp pDiv (eV 0) (eC (.int 20))) (eV 2)))
  (sSeq (sAsg 4 (eOp pMod (eOp pAdd (eOp pAdd (eV 3) (eC (.int 1))) (eOp pMod (eOp pDiv (eV 0) (eC (.int 160))) (eOp pSub (eV 2) (eC (.int 1))))) (eV 2)))
  (sRet (eTup (aC (eC (.str "claim")) (aC (eTup (aC (eOp pMod (eV 0) (eOp pIx (eLst (aC (eC (.int 20)) (aC (eC (.int 4)) (aC (eC (.int 4)) aN)))) (eOp pMod (eV 1) (eC (.int 3))))) (aC (eW 3) (aC (eW 4) (aC (eCl m_LWorth (aC (eOp pDiv (eV 1) (eC (.int 3))) aN)) aN))))) aN))))))
def m_LClaim:List PV->Option PV:=mkM 5 3 g_LClaim
def g_LText_2:SF:=(sSeq (sAsg 3 (eOp pAdd (eLst (aC (eW 0) (aC (eCl pStrT (aC (eV 1) aN)) aN))) (eComp 1 [] (iaTup (eW 2)) (tgN 0) (λ_=>some true) (eCl pStrT (aC (eV 0) aN)))))
  (sSeq (sIf (asB (eOp pEq (eV 0) (eC (.str "rule")))) (sSeq (sAsg 3 (eOp pAdd (eSl pSl (eV 3) eNoPart (ePart (eC (.int 3)))) (eLst (aC (eOp pIx (eLst (aC (eC (.str "own")) (aC (eC (.str "back")) aN))) (eCl pInt (aC (eOp pIx (eV 2) (eC (.int 2))) aN))) aN))))
  (sAsg 3 (eOp pAdd (eV 3) (eComp 1 [] (iaTup (eOp pIx (eV 2) (eC (.int 1)))) (tgN 0) (λ_=>some true) (eOp pAdd (eOp pAdd (eCl pStrT (aC (eOp pIx (eV 0) (eC (.int 0))) aN)) (eC (.str "="))) (eCl pStrT (aC (eOp pIx (eV 0) (eC (.int 1))) aN))))))) sNil)
  (sRet (eJoin (eC (.str " ")) (eV 3)))))
def m_LText_2:List PV->Option PV:=mkM 4 3 g_LText_2
def g_LKept_2:SF:=(sRet (eComp 1 [] (iaList (eW 0)) (tgN 0) (λ_=>some true) (eCl m_LText_2 (aC (eOp pIx (eV 0) (eC (.int 1))) (aC (eOp pIx (eV 0) (eC (.int 2))) (aC (eOp pIx (eV 0) (eC (.int 3))) aN))))))
def m_LKept_2:List PV->Option PV:=mkM 1 1 g_LKept_2
def g_LQuarrelDeed:SF:=(sSeq (sIf (asB (eOp pLt (eOp pMod (eV 0) (eC (.int 4))) (eC (.int 3)))) (sRet (eCl m_LStep (aC (eOp pDiv (eV 0) (eC (.int 4))) (aC (eW 1) (aC (eW 2) (aC (eW 3) aN)))))) sNil)
  (sSeq (sAsg 5 (eOp pIx (eV 4) (eOp pMod (eOp pDiv (eV 0) (eC (.int 4))) (eCl pLen (aC (eV 4) aN)))))
  (sSeq (sAsg 6 (eOp pIx (eLst (aC (eOp pDiv (eOp pMulI (eOp pIx (eV 5) (eC (.int 3))) (eOp pMod (eV 1) (eC (.int 5)))) (eC (.int 4))) (aC (eCl pMax (aC (eC (.int 0)) (aC (eOp pSub (eOp pDiv (eOp pIx (eV 5) (eC (.int 3))) (eC (.int 2))) (eC (.int 1))) aN))) (aC (eOp pAdd (eOp pDiv (eOp pIx (eV 5) (eC (.int 3))) (eC (.int 2))) (eC (.int 1))) aN)))) (eOp pMod (eOp pDiv (eV 1) (eC (.int 5))) (eC (.int 3)))))
  (sRet (eTup (aC (eC (.str "offer")) (aC (eTup (aC (eW 2) (aC (eOp pIx (eV 5) (eC (.int 0))) (aC (eCl pMin (aC (eOp pIx (eV 5) (eC (.int 3))) (aC (eV 6) aN))) aN)))) aN)))))))
def m_LQuarrelDeed:List PV->Option PV:=mkM 7 5 g_LQuarrelDeed
def g_LQuarrelClaims:SF:=(sSeq (sAsgM 2 (eLst aN))
  (sSeq (sAsg 3 (eCl m_LAt (aC (eW 0) (aC (eC (.int 2)) aN))))
  (sSeq (sFor (iaRng1 (aC (eOp pIx (eLst (aC (eOp pAdd (eC (.int 1)) (eOp pMod (eV 3) (eC (.int 4)))) (aC (eC (.int 20)) aN))) (eCl pInt (aC (eOp pEq (eOp pMod (eOp pDiv (eV 3) (eC (.int 4))) (eC (.int 9))) (eC (.int 8))) aN))) aN)) (tgN 4) (sSeq (sAsg 5 (eOp pAdd (eCl m_LAt (aC (eW 0) (aC (eOp pAdd (eC (.int 3)) (eOp pMod (eV 4) (eC (.int 4)))) aN))) (eOp pMulI (eOp pDiv (eV 4) (eC (.int 4))) (eC (.int 77)))))
  (sSeq (sAsgG (eCl m_LClaim (aC (eW 5) (aC (eOp pDiv (eV 5) (eC (.int 7))) (aC (eW 1) aN)))) (tgT 2 (tgCons (tgN 6) (tgCons (tgN 7) tgNil))))
  (sApp 2 (eOp pAdd (eTup (aC (eOp pMod (eOp pAdd (eOp pDiv (eV 3) (eC (.int 36))) (eOp pMulI (eC (.int 3)) (eV 4))) (eC (.int 20))) aN)) (eSl pSlT (eV 7) (ePart (eC (.int 1))) eNoPart))))))
  (sRetV 2))))
def m_LQuarrelClaims:List PV->Option PV:=mkM 8 2 g_LQuarrelClaims
def g_LQuarrel:EF:=(nSeq (sAsg 4 (eCl m_LQuarrelClaims (aC (eW 0) (aC (eCl pLen (aC (eV 1) aN)) aN))))
  (nSeq (sAsgM 5 (eComp 1 [] (iaList (eW 4)) (tgN 0) (λ_=>some true) (eTup (aC (eC (.str "claim")) (aC (eC (.int 0)) (aC (eW 0) aN))))))
  (nSeq (sAsg 6 (eC (.int 0)))
  (nSeq (sFor (iaRng1 (aC (eOp pAdd (eV 2) (eCl pInt (aC (eV 3) aN))) aN)) (tgN 7) (sSeq (sAsg 8 (eCl m_LAt (aC (eW 0) (aC (eOp pAdd (eC (.int 7)) (eOp pMulI (eC (.int 9)) (eV 7))) aN))))
  (sSeq (sIf (asB (eOp pGt (eV 7) (eC (.int 0)))) (sSeq (sAsg 4 (eComp 1 [4,8] (iaRng1 (aC (eCl pLen (aC (eV 4) aN)) aN)) (tgN 0) (tyOr (asB (eOp pEq (eV 0) (eC (.int 0)))) (asB (eOp pGt (eOp pMod (eOp pDiv (eV 2) (eC (.int 3))) (eOp pAdd (eV 0) (eC (.int 3)))) (eC (.int 0))))) (eOp pIx (eV 1) (eV 0))))
  (sAsgM 5 (eOp pAddL (eV 5) (eComp 1 [6] (iaList (eW 4)) (tgN 0) (λ_=>some true) (eTup (aC (eC (.str "carry")) (aC (eW 1) (aC (eTup (aC (eOp pIx (eV 0) (eC (.int 0))) aN)) aN)))))))) sNil)
  (sSeq (sFor (iaRng1 (aC (eC (.int 5)) aN)) (tgN 9) (sSeq (sAsg 10 (eCl m_LAt (aC (eW 0) (aC (eOp pAdd (eOp pAdd (eC (.int 8)) (eOp pMulI (eC (.int 9)) (eV 7))) (eV 9)) aN))))
  (sSeq (sAsg 6 (eOp pAdd (eV 6) (eOp pIx (eLst (aC (eC (.int 0)) (aC (eC (.int 1)) (aC (eC (.int 5)) (aC (eC (.int 40)) (aC (eC (.int 300)) aN)))))) (eOp pMod (eV 10) (eC (.int 5))))))
  (sSeq (sAsgG (eCl m_LQuarrelDeed (aC (eOp pDiv (eV 10) (eC (.int 5))) (aC (eOp pDiv (eV 10) (eC (.int 60))) (aC (eW 7) (aC (eW 1) (aC (eW 4) aN)))))) (tgT 2 (tgCons (tgN 11) (tgCons (tgN 12) tgNil))))
  (sApp 5 (eTup (aC (eW 11) (aC (eW 6) (aC (eW 12) aN)))))))))
  (sIf (asB (eOp pLt (eV 7) (eV 2))) (sSeq (sAsg 6 (eOp pAdd (eV 6) (eOp pMod (eCl m_LAt (aC (eW 0) (aC (eOp pAdd (eC (.int 13)) (eOp pMulI (eC (.int 9)) (eV 7))) aN))) (eC (.int 50)))))
  (sSeq (sAsg 13 (eCl m_LWins (aC (eCl m_LAt (aC (eW 0) (aC (eOp pAdd (eC (.int 14)) (eOp pMulI (eC (.int 9)) (eV 7))) aN))) (aC (eW 4) aN))))
  (sApp 5 (eTup (aC (eC (.str "rule")) (aC (eW 6) (aC (eTup (aC (eW 7) (aC (eCl pTuple (aC (eV 13) aN)) (aC (eOp pGt (eOp pMod (eV 8) (eC (.int 3))) (eC (.int 0))) aN)))) aN))))))) sNil)))))
  (eComp 1 [5] (iaRng1 (aC (eCl pLen (aC (eV 5) aN)) aN)) (tgN 0) (λ_=>some true) (eOp pAdd (eTup (aC (eW 0) aN)) (eOp pIx (eV 1) (eV 0))))))))
def m_LQuarrel:List PV->Option PV:=mkMP 14 4 g_LQuarrel
def g_LCall:SX:=(sxSeq (sxIf (asB (eOp pEq (eV 1) (eC (.str "claim")))) (sxRet (xMt m_BookClaim [] (eW 0) (xaL (aC (eW 2) (aC (eOp pIx (eV 3) (eC (.int 0))) (aC (eOp pIx (eV 3) (eC (.int 1))) (aC (eOp pIx (eV 3) (eC (.int 2))) (aC (eOp pIx (eV 3) (eC (.int 3))) aN)))))))) sxNil)
  (sxSeq (sxIf (asB (eOp pEq (eV 1) (eC (.str "carry")))) (sxRet (xMt m_BookCarry [] (eW 0) (xaL (aC (eW 2) (aC (eOp pIx (eV 3) (eC (.int 0))) aN))))) sxNil)
  (sxSeq (sxIf (asB (eOp pEq (eV 1) (eC (.str "step")))) (sxRet (xMt m_BookStep [] (eW 0) (xaL (aC (eW 2) (aC (eOp pIx (eV 3) (eC (.int 0))) (aC (eOp pIx (eV 3) (eC (.int 1))) (aC (eOp pIx (eV 3) (eC (.int 2))) (aC (eOp pIx (eV 3) (eC (.int 3))) (aC (eOp pIx (eV 3) (eC (.int 4))) aN))))))))) sxNil)
  (sxSeq (sxIf (asB (eOp pEq (eV 1) (eC (.str "offer")))) (sxRet (xMt m_BookOffer [] (eW 0) (xaL (aC (eW 2) (aC (eOp pIx (eV 3) (eC (.int 0))) (aC (eOp pIx (eV 3) (eC (.int 1))) (aC (eOp pIx (eV 3) (eC (.int 2))) aN))))))) sxNil)
  (sxSeq (sxIf (asB (eOp pEq (eV 1) (eC (.str "pay")))) (sxRet (xMt m_BookPay [] (eW 0) (xaL (aC (eW 2) (aC (eOp pIx (eV 3) (eC (.int 0))) (aC (eOp pIx (eV 3) (eC (.int 1))) (aC (eOp pIx (eV 3) (eC (.int 2))) aN))))))) sxNil)
  (sxRet (xMt m_BookDun [] (eW 0) (xaL (aC (eW 2) (aC (eOp pIx (eV 3) (eC (.int 0))) aN))))))))))
def m_LCall:Wd->List PV->Option (EX×Wd):=mkMX 4 4 g_LCall
def g_LShort:SX:=(sxSeq (sxL (sAsgG (eSl pSlT (eV 1) (ePart (eC (.int 1))) eNoPart) (tgT 3 (tgCons (tgN 3) (tgCons (tgN 4) (tgCons (tgN 5) tgNil))))))
  (sxSeq (sxIf (tyAnd (asB (eV 2)) (tyAnd (asB (eOp pEq (eV 3) (eC (.str "step")))) (asB (eOp pEq (eOp pIx (eV 5) (eC (.int 4))) (eC (.str "none")))))) (sxRet (xMt m_BookStep [.str "none"] (eW 0) (xaL (aC (eW 4) (aC (eOp pIx (eV 5) (eC (.int 0))) (aC (eOp pIx (eV 5) (eC (.int 1))) (aC (eOp pIx (eV 5) (eC (.int 2))) (aC (eOp pIx (eV 5) (eC (.int 3))) aN)))))))) sxNil)
  (sxSeq (sxIf (asB (eOp pEq (eV 3) (eC (.str "rule")))) (sxSeq (sxL (sAsgM 6 (eCl pList (aC (eOp pIx (eV 5) (eC (.int 1))) aN))))
  (sxSeq (sxIf (tyAnd (asB (eV 2)) (tyNot (asB (eOp pIx (eV 5) (eC (.int 2)))))) (sxAsg 7 (xBor 6 (xMt m_BookRule [.bl false] (eW 0) (xaL (aC (eW 4) (aC (eOp pIx (eV 5) (eC (.int 0))) (aC (eW 6) aN))))))) (sxAsg 7 (xBor 6 (xMt m_BookRule [] (eW 0) (xaL (aC (eW 4) (aC (eOp pIx (eV 5) (eC (.int 0))) (aC (eW 6) (aC (eOp pIx (eV 5) (eC (.int 2))) aN)))))))))
  (sxSeq (sxL (sIf (asB (eOp pNeT (eCl pTuple (aC (eV 6) aN)) (eOp pIx (eV 5) (eC (.int 1))))) (sRet (eC .non)) sNil))
  (sxSeq (sxL (sApp 6 (eTup (aC (eC (.int 0)) (aC (eC (.int 1)) aN)))))
  (sxSeq (sxL (sPut 6 (eC (.int 0)) (eTup (aC (eC (.int 1)) (aC (eC (.int 2)) aN)))))
  (sxL (sRetV 7))))))) sxNil)
  (sxRet (xCl m_LCall (xaL (aC (eW 0) (aC (eW 3) (aC (eW 4) (aC (eW 5) aN))))))))))
def m_LShort:Wd->List PV->Option (EX×Wd):=mkMX 8 3 g_LShort
end My
namespace My
open PySem L2
theorem bind_ite {α β:Type} {c:Prop} [Decidable c] {a b:Option α} {f:α->Option β}:(if c then a else b).bind f=if c then a.bind f else b.bind f:=by split<;>rfl
theorem map_ite {α β:Type} {c:Prop} [Decidable c] {a b:Option α} {f:α->β}:(if c then a else b).map f=if c then a.map f else b.map f:=by split<;>rfl
theorem mapF_all {α:Type} {F:PV->Option (Option PV)} {enc f:α->PV}: ∀ {xs:List α},(∀x∈xs,F (enc x)=some (some (f x)))->mapF F (xs.map enc)=some (xs.map f)
 | [],_=>rfl
 |x::xs,h=>by
  rw [List.map_cons,mapF,h x List.mem_cons_self,mapF_all λy hy=>h y (List.mem_cons_of_mem _ hy)]
  rfl
theorem mapF_filt {α:Type} {F:PV->Option (Option PV)} {enc f:α->PV} {p:α->Bool}: ∀ {xs:List α},(∀x∈xs,F (enc x)=some (if p x=true then some (f x) else none))->mapF F (xs.map enc)=some ((xs.filter p).map f)
 | [],_=>rfl
 |x::xs,h=>by
  rw [List.map_cons,mapF,h x List.mem_cons_self,mapF_filt λy hy=>h y (List.mem_cons_of_mem _ hy)]
  cases e:p x with
  |true=>simp [e]
  |false=>simp [e]
theorem loopM_find {α:Type} {g:FG} {body:SF} {enc:α->PV} (p:α->Option PV) (I:Rho->Prop): ∀ {xs:List α} {ρ:Rho},I ρ->(∀x∈xs,∀ρ,I ρ-> ∃ρ1,g (enc x) ρ=some ρ1/\((∃q,p x=some q/\body ρ1=some (.rt q))\/(p x=none/\ ∃ρ2,body ρ1=some (.nx ρ2)/\I ρ2)))->
  (∃q,xs.findSome? p=some q/\loopM g body (xs.map enc) ρ=some (.rt q))\/(xs.findSome? p=none/\ ∃ρ',loopM g body (xs.map enc) ρ=some (.nx ρ')/\I ρ')
 | [],ρ,h,_=> .inr ⟨rfl,ρ,rfl,h⟩
 |x::xs,ρ,h,k=>by
  obtain ⟨ρ1,e1,h1⟩:=k x List.mem_cons_self ρ h
  rw [List.map_cons,loopM,e1]
  show (∃q,_/\(body ρ1).bind _=_)\/(_/\ ∃ρ',(body ρ1).bind _=_/\_)
  rcases h1 with ⟨q,e2,e3⟩|⟨e2,ρ2,e3,h2⟩
  ·exact .inl ⟨q,by rw [List.findSome?_cons,e2],by rw [e3];rfl⟩
  ·rw [e3,List.findSome?_cons,e2]
   exact loopM_find p I h2 λy hy=>k y (List.mem_cons_of_mem _ hy)
theorem isN_n:isN .non=true:=rfl
theorem isN_i {i:Int}:isN (.int i)=false:=rfl
theorem szN0:(0<=sizeLine)=True:=eq_true (by decide)
theorem szN1:(1<=sizeLine)=True:=eq_true (by decide)
theorem szN2:(2<=sizeLine)=True:=eq_true (by decide)
theorem szN3:(3<=sizeLine)=True:=eq_true (by decide)
theorem szN4:(4<=sizeLine)=True:=eq_true (by decide)
theorem szN5:(5<=sizeLine)=True:=eq_true (by decide)
theorem szN6:(6<=sizeLine)=True:=eq_true (by decide)
theorem szN7:(7<=sizeLine)=True:=eq_true (by decide)
theorem szN8:(8<=sizeLine)=True:=eq_true (by decide)
theorem ob_some {α β:Type} {a:α} {f:α->Option β}:(some a).bind f=f a:=by simp
theorem om_some {α β:Type} {a:α} {f:α->β}:(some a).map f=some (f a):=by simp
theorem eCl_ev {o:List PV->Option PV} {g:EA} {ρ:Rho}:eCl o g ρ=(g ρ).bind o:=by rw [eCl]
theorem eOp_ev {o:PV->PV->Option PV} {f g:EF} {ρ:Rho}:eOp o f g ρ=(f ρ).bind λp=>(g ρ).bind λq=>o p q:=by rw [eOp]
def pIsT:PV->Option PV
 | .tup _=>some (.bl true)
 | .tpf _=>some (.bl true)
 |_=>none
theorem eIsiT_ev {f:EF} {ρ:Rho}:eIsiT f ρ=(f ρ).bind pIsT:=by rw [eIsiT];rfl
theorem isT_t {xs:List PV}:pIsT (.tup xs)=some (.bl true):=rfl
theorem isT_f {xs:List PV}:pIsT (.tpf xs)=some (.bl true):=rfl
theorem isi_int {i:Int}:pIsi "int" (.int i)=some (.bl true):=rfl
theorem isi_bool {i:Int}:pIsi "bool" (.int i)=some (.bl false):=rfl
theorem isi_str {x:Str}:pIsi "str" (.str x)=some (.bl true):=rfl
theorem isi_list {xs:List PV}:pIsi "list" (.lst xs)=some (.bl true):=rfl
theorem zero_ev:((0:Nat):Int)=0:=rfl
theorem szL {n:Nat} (h:n<=100000):n<=sizeLine:=Nat.le_trans h (by decide)
theorem szL' {n:Nat} (h:n<=100000):n<sizeLine:=Nat.lt_of_le_of_lt h (by decide)
section
variable {a b i j:Int} {x y:Str} {p q r:PV} {xs ys:List PV} {k l:Bool}
theorem pEq_ii:pEq (.int a) (.int b)=some (.bl (decide (a=b))):=by simp [pEq,pEqB,toV,scal]
theorem pEq_ss:pEq (.str x) (.str y)=some (.bl (decide (x=y))):=by simp [pEq,pEqB,toV,scal]
theorem pEq_bb:pEq (.bl k) (.bl l)=some (.bl (decide (k=l))):=by simp [pEq,pEqB,toV,scal]
theorem pNe_ii:pNe (.int a) (.int b)=some (.bl (!decide (a=b))):=by simp [pNe,pEqB,toV,scal]
theorem pNe_ss:pNe (.str x) (.str y)=some (.bl (!decide (x=y))):=by simp [pNe,pEqB,toV,scal]
theorem pEq_nil:pEq (.lst xs) (.lst [])=some (.bl (decide (xs= []))):=by
 cases xs with
 |nil=>rfl
 |cons=>simp [pEq,pEqB]
theorem pNe_nil:pNe (.lst xs) (.lst [])=some (.bl (!decide (xs= []))):=by
 cases xs with
 |nil=>rfl
 |cons=>simp [pNe,pEqB]
theorem pLt_ii:pLt (.int a) (.int b)=some (.bl (decide (a<b))):=rfl
theorem pLe_ii:pLe (.int a) (.int b)=some (.bl (decide (a<=b))):=rfl
theorem pGt_ii:pGt (.int a) (.int b)=some (.bl (decide (b<a))):=rfl
theorem pGe_ii:pGe (.int a) (.int b)=some (.bl (decide (b<=a))):=rfl
theorem pAdd_ii:pAdd (.int a) (.int b)=some (.int (a+b)):=rfl
theorem pSub_ii:pSub (.int a) (.int b)=some (.int (a - b)):=rfl
theorem pMul_ii:pMulI (.int a) (.int b)=if CMul a b then some (.int (a*b)) else none:=rfl
theorem pDiv_ii:pDiv (.int a) (.int b)=if 0<b/\b<18446744073709551616 then some (.int (a/b)) else none:=rfl
theorem pMod_ii:pMod (.int a) (.int b)=if 0<b then some (.int (a % b)) else none:=rfl
theorem pNeg_i:pNeg (.int a)=some (.int (-a)):=rfl
theorem pMin_ii:pMin [.int a,.int b]=some (.int (if b<a then b else a)):=rfl
theorem pMax_ii:pMax [.int a,.int b]=some (.int (if b>a then b else a)):=rfl
theorem pLen_l:pLen [.lst xs]=some (.int xs.length):=rfl
theorem pLen_s:pLen [.sc xs]=some (.int xs.length):=rfl
theorem pLen_t:pLen [.tup xs]=some (.int xs.length):=rfl
theorem pLen_f:pLen [.tpf xs]=some (.int xs.length):=rfl
theorem pInt_i:pInt [.int a]=some (.int a):=rfl
theorem pInt_b:pInt [.bl k]=some (.int (if k then 1 else 0)):=rfl
theorem pList_l:pList [.lst xs]=some (.lst xs):=rfl
theorem pList_t:pList [.tup xs]=some (.lst xs):=rfl
theorem pList_f:pList [.tpf xs]=some (.lst xs):=rfl
theorem pTuple_l:pTuple [.lst xs]=some (.tpf xs):=rfl
def gd (p:PV):Option PV:=if noSc p=true then some p else none
theorem gd_i:gd (.int a)=some (.int a):=rfl
theorem gd_s:gd (.str x)=some (.str x):=rfl
theorem gd_b:gd (.bl k)=some (.bl k):=rfl
theorem gd_n:gd .non=some .non:=rfl
theorem gd_t:gd (.tup xs)=some (.tup xs):=rfl
theorem gd_f:gd (.tpf xs)=some (.tpf xs):=rfl
theorem gd_l:gd (.lst xs)=some (.lst xs):=rfl
theorem pIx_q {ps:List PV} {n:Nat} (h:seqOf p=some ps) (e:ps[n]? =some q):pIx p (.int n)=gd q:=by
 have hn:n<ps.length:=(List.getElem?_eq_some_iff.mp e).1
 unfold pIx gd
 rw [h]
 show (atI ps n).bind _=_
 have:atI ps n=some q:=by
  unfold atI ixN
  rw [if_pos (by omega),if_pos (by omega)]
  simpa using e
 rw [this];rfl
theorem pIx_t0:pIx (.tup (p::xs)) (.int 0)=gd p:=pIx_q (n:=0) rfl rfl
theorem pIx_t1 {p0:PV}:pIx (.tup (p0::p::xs)) (.int 1)=gd p:=pIx_q (n:=1) rfl rfl
theorem pIx_t2 {p0 p1:PV}:pIx (.tup (p0::p1::p::xs)) (.int 2)=gd p:=pIx_q (n:=2) rfl rfl
theorem pIx_t3 {p0 p1 p2:PV}:pIx (.tup (p0::p1::p2::p::xs)) (.int 3)=gd p:=pIx_q (n:=3) rfl rfl
theorem pIx_t4 {p0 p1 p2 p3:PV}:pIx (.tup (p0::p1::p2::p3::p::xs)) (.int 4)=gd p:=pIx_q (n:=4) rfl rfl
theorem pIx_t5 {p0 p1 p2 p3 p4:PV}:pIx (.tup (p0::p1::p2::p3::p4::p::xs)) (.int 5)=gd p:=pIx_q (n:=5) rfl rfl
theorem pIx_t6 {p0 p1 p2 p3 p4 p5:PV}:pIx (.tup (p0::p1::p2::p3::p4::p5::p::xs)) (.int 6)=gd p:=pIx_q (n:=6) rfl rfl
theorem pIx_t7 {p0 p1 p2 p3 p4 p5 p6:PV}:pIx (.tup (p0::p1::p2::p3::p4::p5::p6::p::xs)) (.int 7)=gd p:=pIx_q (n:=7) rfl rfl
theorem pIx_l0:pIx (.lst (p::xs)) (.int 0)=gd p:=pIx_q (n:=0) rfl rfl
theorem pIx_l1 {p0:PV}:pIx (.lst (p0::p::xs)) (.int 1)=gd p:=pIx_q (n:=1) rfl rfl
theorem pIx_l2 {p0 p1:PV}:pIx (.lst (p0::p1::p::xs)) (.int 2)=gd p:=pIx_q (n:=2) rfl rfl
theorem pIx_l3 {p0 p1 p2:PV}:pIx (.lst (p0::p1::p2::p::xs)) (.int 3)=gd p:=pIx_q (n:=3) rfl rfl
end
structure Cl where
 (n a b w:Int)
deriving DecidableEq,Inhabited
def Cl.pv (c:Cl):PV:= .tup [.int c.n,.int c.a,.int c.b,.int c.w]
inductive De where
 |claim (c:Cl)|carry (c:Int)|step (t s:Int) (k:Str) (m:Int) (l:Str)|offer (t c a:Int)|rule (t:Int) (ws:List (Int×Int)) (bk:Bool)|pay (s p c:Int)|dun (s:Int)
structure Ro where
 (n d:Int)
 x:De
def winP (w:Int×Int):PV:= .tup [.int w.1,.int w.2]
def Ro.pv (r:Ro):PV:=match r.x with
 | .claim c=> .tup [.int r.n,.str "claim",.int r.d,.int c.n,.int c.a,.int c.b,.int c.w]
 | .carry c=> .tup [.int r.n,.str "carry",.int r.d,.int c]
 | .step t s k m l=> .tup [.int r.n,.str "step",.int r.d,.int t,.int s,.str k,.int m,.str l]
 | .offer t c a=> .tup [.int r.n,.str "offer",.int r.d,.int t,.int c,.int a]
 | .rule t ws bk=> .tup [.int r.n,.str "rule",.int r.d,.int t,.bl bk,.tpf (ws.map winP)]
 | .pay s p c=> .tup [.int r.n,.str "pay",.int r.d,.int s,.int p,.int c]
 | .dun s=> .tup [.int r.n,.str "dun",.int r.d,.int s]
def wordOf:De->Str
 | .claim _=> "claim" | .carry _=> "carry" | .step .. => "step" | .offer .. => "offer" | .rule .. => "rule" | .pay .. => "pay" | .dun _=> "dun"
def Fin0:Fl->Option PV
 | .rt p=>some p
 | .nx _=>some .non
 |_=>none
end My
namespace My
open PySem L2
def Fin1:Fl->Option PV
 | .rt p=>some p
 | .nx _=>some .non
 |_=>none
theorem mkM_ev {N n:Nat} {g:SF} {ps:List PV}:mkM N n g ps=if ps.length=n then (g (rho0 N ps)).bind Fin1 else none:=by
 unfold mkM
 split
 ·cases h:g (rho0 N ps) with
  |none=>rfl
  |some fl=>cases fl<;>rfl
 ·rfl
def FinE:FlX->Option EX
 | .rt p _=>some (.ok p)
 | .nx _ _=>some (.ok .non)
 | .ex k _=>some (.error k)
 |_=>none
theorem mkME_ev {N n:Nat} {g:SX} {ps:List PV}:mkME N n g ps=if ps.length=n then (g [] (rho0 N ps)).bind FinE else none:=by
 unfold mkME
 split
 ·cases h:g [] (rho0 N ps) with
  |none=>rfl
  |some fl=>cases fl<;>rfl
 ·rfl
def FinX1:FlX->Option (EX×Wd)
 | .rt p W=>some (.ok p,W)
 | .nx _ W=>some (.ok .non,W)
 | .ex k W=>some (.error k,W)
 |_=>none
theorem mkMX_ev {N n:Nat} {g:SX} {W:Wd} {ps:List PV}:mkMX N n g W ps=if ps.length=n then (g W (rho0 N ps)).bind FinX1 else none:=by
 unfold mkMX
 split
 ·cases h:g W (rho0 N ps) with
  |none=>rfl
  |some fl=>cases fl<;>rfl
 ·rfl
def FinN1:FlX->Option (EX×Wd)
 | .rt p W=>some (.ok p,W)
 | .nx _ W=>some (.ok .non,W)
 |_=>none
theorem mkMN_ev {N n:Nat} {g:SX} {W:Wd} {ps:List PV}:mkMN N n g W ps=if ps.length=n then (g W (rho0 N ps)).bind FinN1 else none:=by
 unfold mkMN
 split
 ·cases h:g W (rho0 N ps) with
  |none=>rfl
  |some fl=>cases fl<;>rfl
 ·rfl
section
variable {α β:Type} {g:FG} {body:SF} {enc:α->PV} {xs:List α} {ρ:Rho} {K:Fl->Option β} {r:Option β}
theorem loop_pre' (st:List α->Rho->Prop): ∀(rest done:List α) (ρ:Rho),xs=done++rest->st done ρ->(∀done x rest ρ,xs=done++x::rest->st done ρ-> ∃ρ1 ρ2,g (enc x) ρ=some ρ1/\body ρ1=some (.nx ρ2)/\st (done++ [x]) ρ2)-> ∃ρ',loopM g body (rest.map enc) ρ=some (.nx ρ')/\st xs ρ'
 | [],done,ρ,e,h,_=>⟨ρ,rfl,by rw [e,List.append_nil];exact h⟩
 |x::rest,done,ρ,e,h,k=>by
  obtain ⟨ρ1,ρ2,e1,e2,h2⟩:=k done x rest ρ e h
  obtain ⟨ρ',e3,h3⟩:=loop_pre' st rest (done++ [x]) ρ2 (by rw [e,List.append_assoc];rfl) h2 k
  refine ⟨ρ',?_,h3⟩
  rw [List.map_cons,loopM,e1]
  show (body ρ1).bind _=_
  rw [e2]
  exact e3
theorem loop_find (p:α->Option PV) (I:Rho->Prop) (h0:I ρ) (step: ∀x∈xs,∀ρ,I ρ-> ∃ρ1,g (enc x) ρ=some ρ1/\((∃q,p x=some q/\body ρ1=some (.rt q))\/(p x=none/\ ∃ρ2,body ρ1=some (.nx ρ2)/\I ρ2)))
  (f1: ∀q,xs.findSome? p=some q->K (.rt q)=r) (f2:xs.findSome? p=none-> ∀ρ',I ρ'->K (.nx ρ')=r):(loopM g body (xs.map enc) ρ).bind K=r:=by
 rcases loopM_find p I h0 step with ⟨q,e1,e2⟩|⟨e1,ρ',e2,h⟩
 ·rw [e2];exact f1 q e1
 ·rw [e2];exact f2 e1 ρ' h
end
theorem comp_e {α:Type} {F:PV->Option (Option PV)} {enc f:α->PV} {p:α->Bool} {xs:List α} (hz:xs.length<=100000) (h: ∀x∈xs,F (enc x)=some (if p x=true then some (f x) else none)):
  ((mapF F (xs.map enc)).bind λys=>if ys.length<=sizeLine then some (PV.lst ys) else none)=some (.lst ((xs.filter p).map f)):=by
 rw [mapF_filt h,Option.bind_some,if_pos (szL (Nat.le_trans (by rw [List.length_map];exact List.length_filter_le ..) hz))]
theorem comp_a {α:Type} {F:PV->Option (Option PV)} {enc f:α->PV} {xs:List α} (hz:xs.length<=100000) (h: ∀x∈xs,F (enc x)=some (some (f x))):
  ((mapF F (xs.map enc)).bind λys=>if ys.length<=sizeLine then some (PV.lst ys) else none)=some (.lst (xs.map f)):=by
 rw [mapF_all h,Option.bind_some,if_pos (szL (by rw [List.length_map];exact hz))]
end My
namespace My
open PySem L2
theorem w_claim_carry:(("claim" :Str)= "carry")=False:=eq_false (by decide)
theorem w_claim_rule:(("claim" :Str)= "rule")=False:=eq_false (by decide)
theorem w_carry_claim:(("carry" :Str)= "claim")=False:=eq_false (by decide)
theorem w_carry_rule:(("carry" :Str)= "rule")=False:=eq_false (by decide)
theorem w_step_claim:(("step" :Str)= "claim")=False:=eq_false (by decide)
theorem w_step_carry:(("step" :Str)= "carry")=False:=eq_false (by decide)
theorem w_step_offer:(("step" :Str)= "offer")=False:=eq_false (by decide)
theorem w_step_rule:(("step" :Str)= "rule")=False:=eq_false (by decide)
theorem w_offer_claim:(("offer" :Str)= "claim")=False:=eq_false (by decide)
theorem w_offer_carry:(("offer" :Str)= "carry")=False:=eq_false (by decide)
theorem w_offer_step:(("offer" :Str)= "step")=False:=eq_false (by decide)
theorem w_offer_rule:(("offer" :Str)= "rule")=False:=eq_false (by decide)
theorem w_rule_claim:(("rule" :Str)= "claim")=False:=eq_false (by decide)
theorem w_rule_carry:(("rule" :Str)= "carry")=False:=eq_false (by decide)
theorem w_rule_step:(("rule" :Str)= "step")=False:=eq_false (by decide)
theorem w_rule_offer:(("rule" :Str)= "offer")=False:=eq_false (by decide)
theorem w_pay_claim:(("pay" :Str)= "claim")=False:=eq_false (by decide)
theorem w_pay_carry:(("pay" :Str)= "carry")=False:=eq_false (by decide)
theorem w_dun_claim:(("dun" :Str)= "claim")=False:=eq_false (by decide)
theorem w_dun_carry:(("dun" :Str)= "carry")=False:=eq_false (by decide)
theorem w_witness_paper:(("witness" :Str)= "paper")=False:=eq_false (by decide)
theorem w_paper_witness:(("paper" :Str)= "witness")=False:=eq_false (by decide)
end My
namespace My
open PySem L2
section
variable {α:Type} {k:Nat} {js:List Nat} {it:EA} {tg:FG} {cond:ET} {elt:EF} {ρ:Rho} {enc f:α->PV} {p:α->Bool} {xs:List α}
theorem eComp_a (hi:it ρ=some (xs.map enc)) (hz:xs.length<=100000) (h: ∀x∈xs,cTurn (cstR ρ k js) tg cond elt (enc x)=some (some (f x))):eComp k js it tg cond elt ρ=some (.lst (xs.map f)):=by
 unfold eComp
 rw [hi,Option.bind_some]
 exact comp_a hz h
theorem eComp_p (hi:it ρ=some (xs.map enc)) (hz:xs.length<=100000) (h: ∀x∈xs,cTurn (cstR ρ k js) tg cond elt (enc x)=some (if p x=true then some (f x) else none)):eComp k js it tg cond elt ρ=some (.lst ((xs.filter p).map f)):=by
 unfold eComp
 rw [hi,Option.bind_some]
 exact comp_e hz h
end
end My
namespace My
open PySem L2
theorem ix_claim0 {n d:Int} {c:Cl}:pIx (Ro.pv ⟨n,d,.claim c⟩) (.int 0)=some (.int n):=rfl
theorem ix_claim1 {n d:Int} {c:Cl}:pIx (Ro.pv ⟨n,d,.claim c⟩) (.int 1)=some (.str "claim"):=rfl
theorem ix_claim2 {n d:Int} {c:Cl}:pIx (Ro.pv ⟨n,d,.claim c⟩) (.int 2)=some (.int d):=rfl
theorem ix_claim3 {n d:Int} {c:Cl}:pIx (Ro.pv ⟨n,d,.claim c⟩) (.int 3)=some (.int c.n):=rfl
theorem ix_claim4 {n d:Int} {c:Cl}:pIx (Ro.pv ⟨n,d,.claim c⟩) (.int 4)=some (.int c.a):=rfl
theorem ix_claim5 {n d:Int} {c:Cl}:pIx (Ro.pv ⟨n,d,.claim c⟩) (.int 5)=some (.int c.b):=rfl
theorem ix_claim6 {n d:Int} {c:Cl}:pIx (Ro.pv ⟨n,d,.claim c⟩) (.int 6)=some (.int c.w):=rfl
theorem ix_carry0 {n d:Int} {c:Int}:pIx (Ro.pv ⟨n,d,.carry c⟩) (.int 0)=some (.int n):=rfl
theorem ix_carry1 {n d:Int} {c:Int}:pIx (Ro.pv ⟨n,d,.carry c⟩) (.int 1)=some (.str "carry"):=rfl
theorem ix_carry2 {n d:Int} {c:Int}:pIx (Ro.pv ⟨n,d,.carry c⟩) (.int 2)=some (.int d):=rfl
theorem ix_carry3 {n d:Int} {c:Int}:pIx (Ro.pv ⟨n,d,.carry c⟩) (.int 3)=some (.int c):=rfl
theorem ix_step0 {n d:Int} {t s m:Int} {k l:Str}:pIx (Ro.pv ⟨n,d,.step t s k m l⟩) (.int 0)=some (.int n):=rfl
theorem ix_step1 {n d:Int} {t s m:Int} {k l:Str}:pIx (Ro.pv ⟨n,d,.step t s k m l⟩) (.int 1)=some (.str "step"):=rfl
theorem ix_step2 {n d:Int} {t s m:Int} {k l:Str}:pIx (Ro.pv ⟨n,d,.step t s k m l⟩) (.int 2)=some (.int d):=rfl
theorem ix_step3 {n d:Int} {t s m:Int} {k l:Str}:pIx (Ro.pv ⟨n,d,.step t s k m l⟩) (.int 3)=some (.int t):=rfl
theorem ix_step4 {n d:Int} {t s m:Int} {k l:Str}:pIx (Ro.pv ⟨n,d,.step t s k m l⟩) (.int 4)=some (.int s):=rfl
theorem ix_step5 {n d:Int} {t s m:Int} {k l:Str}:pIx (Ro.pv ⟨n,d,.step t s k m l⟩) (.int 5)=some (.str k):=rfl
theorem ix_step6 {n d:Int} {t s m:Int} {k l:Str}:pIx (Ro.pv ⟨n,d,.step t s k m l⟩) (.int 6)=some (.int m):=rfl
theorem ix_step7 {n d:Int} {t s m:Int} {k l:Str}:pIx (Ro.pv ⟨n,d,.step t s k m l⟩) (.int 7)=some (.str l):=rfl
theorem ix_offer0 {n d:Int} {t c a:Int}:pIx (Ro.pv ⟨n,d,.offer t c a⟩) (.int 0)=some (.int n):=rfl
theorem ix_offer1 {n d:Int} {t c a:Int}:pIx (Ro.pv ⟨n,d,.offer t c a⟩) (.int 1)=some (.str "offer"):=rfl
theorem ix_offer2 {n d:Int} {t c a:Int}:pIx (Ro.pv ⟨n,d,.offer t c a⟩) (.int 2)=some (.int d):=rfl
theorem ix_offer3 {n d:Int} {t c a:Int}:pIx (Ro.pv ⟨n,d,.offer t c a⟩) (.int 3)=some (.int t):=rfl
theorem ix_offer4 {n d:Int} {t c a:Int}:pIx (Ro.pv ⟨n,d,.offer t c a⟩) (.int 4)=some (.int c):=rfl
theorem ix_offer5 {n d:Int} {t c a:Int}:pIx (Ro.pv ⟨n,d,.offer t c a⟩) (.int 5)=some (.int a):=rfl
theorem ix_rule0 {n d:Int} {t:Int} {ws:List (Int×Int)} {bk:Bool}:pIx (Ro.pv ⟨n,d,.rule t ws bk⟩) (.int 0)=some (.int n):=rfl
theorem ix_rule1 {n d:Int} {t:Int} {ws:List (Int×Int)} {bk:Bool}:pIx (Ro.pv ⟨n,d,.rule t ws bk⟩) (.int 1)=some (.str "rule"):=rfl
theorem ix_rule2 {n d:Int} {t:Int} {ws:List (Int×Int)} {bk:Bool}:pIx (Ro.pv ⟨n,d,.rule t ws bk⟩) (.int 2)=some (.int d):=rfl
theorem ix_rule3 {n d:Int} {t:Int} {ws:List (Int×Int)} {bk:Bool}:pIx (Ro.pv ⟨n,d,.rule t ws bk⟩) (.int 3)=some (.int t):=rfl
theorem ix_rule4 {n d:Int} {t:Int} {ws:List (Int×Int)} {bk:Bool}:pIx (Ro.pv ⟨n,d,.rule t ws bk⟩) (.int 4)=some (.bl bk):=rfl
theorem ix_rule5 {n d:Int} {t:Int} {ws:List (Int×Int)} {bk:Bool}:pIx (Ro.pv ⟨n,d,.rule t ws bk⟩) (.int 5)=some (.tpf (ws.map winP)):=rfl
theorem ix_pay0 {n d:Int} {s p c:Int}:pIx (Ro.pv ⟨n,d,.pay s p c⟩) (.int 0)=some (.int n):=rfl
theorem ix_pay1 {n d:Int} {s p c:Int}:pIx (Ro.pv ⟨n,d,.pay s p c⟩) (.int 1)=some (.str "pay"):=rfl
theorem ix_pay2 {n d:Int} {s p c:Int}:pIx (Ro.pv ⟨n,d,.pay s p c⟩) (.int 2)=some (.int d):=rfl
theorem ix_pay3 {n d:Int} {s p c:Int}:pIx (Ro.pv ⟨n,d,.pay s p c⟩) (.int 3)=some (.int s):=rfl
theorem ix_pay4 {n d:Int} {s p c:Int}:pIx (Ro.pv ⟨n,d,.pay s p c⟩) (.int 4)=some (.int p):=rfl
theorem ix_pay5 {n d:Int} {s p c:Int}:pIx (Ro.pv ⟨n,d,.pay s p c⟩) (.int 5)=some (.int c):=rfl
theorem ix_dun0 {n d:Int} {s:Int}:pIx (Ro.pv ⟨n,d,.dun s⟩) (.int 0)=some (.int n):=rfl
theorem ix_dun1 {n d:Int} {s:Int}:pIx (Ro.pv ⟨n,d,.dun s⟩) (.int 1)=some (.str "dun"):=rfl
theorem ix_dun2 {n d:Int} {s:Int}:pIx (Ro.pv ⟨n,d,.dun s⟩) (.int 2)=some (.int d):=rfl
theorem ix_dun3 {n d:Int} {s:Int}:pIx (Ro.pv ⟨n,d,.dun s⟩) (.int 3)=some (.int s):=rfl
theorem ix_cl0 {c:Cl}:pIx c.pv (.int 0)=some (.int c.n):=rfl
theorem ix_cl1 {c:Cl}:pIx c.pv (.int 1)=some (.int c.a):=rfl
theorem ix_cl2 {c:Cl}:pIx c.pv (.int 2)=some (.int c.b):=rfl
theorem ix_cl3 {c:Cl}:pIx c.pv (.int 3)=some (.int c.w):=rfl
end My
namespace My
open PySem L2
local macro_rules | `(tactic| walk_at "ev") => `(tactic| simp only [List.map_cons, List.map_nil, List.cons_append, List.nil_append, List.append_nil, List.replicate_succ, List.replicate_zero, List.length_cons, List.length_nil, List.length_map, List.length_append, Nat.reduceAdd, Nat.reduceSub, Nat.reduceLeDiff, Nat.reduceLT, Int.reduceNeg, Int.reduceLT, Int.reduceLE, Int.reducePow, Int.reduceMul, Int.reduceAdd, Int.reduceSub, Int.toNat_natCast, zero_ev, List.getElem?_cons_zero, List.getElem?_cons_succ, List.getElem?_nil, List.set_cons_zero, List.set_cons_succ, List.set_nil, ob_some, Option.bind_none, om_some, Option.map_none, Option.join_some, Option.join_none, bind_ite, map_ite, if_true, if_false, ite_true, ite_false, reduceIte, decide_eq_true_eq, decide_true, decide_false, Bool.not_true, Bool.not_false, Bool.not_eq_true', Bool.true_eq_false, Bool.false_eq_true, Bool.not_not, decide_eq_false_iff_not, and_true, true_and, and_self, mkM_ev, mkME_ev, mkMX_ev, mkMN_ev, Fin1, FinE, FinX1, FinN1, Option.bind_assoc, mkMP, mkPut, rho0, sSeq, sIf, sRet, sRetV, sAsg, sAsgM, sAsgG, sNil, sFor, sPz, eOp_ev, eV, eW, eS, eC, eCl_ev, aC, aN, eTup, eLst, eIf, eAnd, eOr, eT, eNeg, eOwn, nSeq, tyNot, tyAnd, tyOr, tyChain, asB, tgN, tgT, tgL, tgCons, tgNil, iaList, iaTup, iaZip, iaEnum, ePart, eNoPart, eSl, eIsi, eIsiT_ev, isT_t, isT_f, isi_int, isi_bool, isi_str, isi_list, SV.val, noSc, szN0, szN1, szN2, szN3, szN4, szN5, szN6, szN7, szN8, cstR, cTurn,
  pEq_ii, pEq_ss, pEq_bb, pNe_ii, pNe_ss, pEq_nil, pNe_nil, pLt_ii, pLe_ii, pGt_ii, pGe_ii, pAdd_ii, pSub_ii, pMul_ii, pDiv_ii, pMod_ii, pNeg_i, pMin_ii, pMax_ii, pLen_l, pLen_s, pLen_t, pLen_f, pInt_i, pInt_b, pList_l, pList_t, pList_f, pTuple_l, gd_i, gd_s, gd_b, gd_n, gd_t, gd_f, gd_l, pIx_t0, pIx_t1, pIx_t2, pIx_t3, pIx_t4, pIx_t5, pIx_t6, pIx_t7, pIx_l0, pIx_l1, pIx_l2, pIx_l3, pIs, pNis, isN_n, isN_i, ix_claim0, ix_claim1, ix_claim2, ix_claim3, ix_claim4, ix_claim5, ix_claim6, ix_carry0, ix_carry1, ix_carry2, ix_carry3, ix_step0, ix_step1, ix_step2, ix_step3, ix_step4, ix_step5, ix_step6, ix_step7, ix_offer0, ix_offer1, ix_offer2, ix_offer3, ix_offer4, ix_offer5, ix_rule0, ix_rule1, ix_rule2, ix_rule3, ix_rule4, ix_rule5, ix_pay0, ix_pay1, ix_pay2, ix_pay3, ix_pay4, ix_pay5, ix_dun0, ix_dun1, ix_dun2, ix_dun3, ix_cl0, ix_cl1, ix_cl2, ix_cl3, sxSeq, sxIf, sxRaise, sxNil, sxDo, sxRet, sxL, flX, xL, xaL, xaN, xaC, xCl, xClE, xMap, xOf, List.map_eq_nil_iff, eq_self, w_claim_carry, w_claim_rule, w_carry_claim, w_carry_rule, w_step_claim, w_step_carry, w_step_offer, w_step_rule, w_offer_claim, w_offer_carry, w_offer_step, w_offer_rule, w_rule_claim, w_rule_carry, w_rule_step, w_rule_offer, w_pay_claim, w_pay_carry, w_dun_claim, w_dun_carry, w_witness_paper, w_paper_witness])
abbrev Rds:=List (List Cl)
def encN (pss:Rds):List (List PV):=pss.map λcs=>cs.map Cl.pv
def fnd (cs:List Cl) (n:Int):Option Cl:=cs.find? λc=>decide (c.n=n)
def fndP (cs:List Cl) (n:Int):PV:=((fnd cs n).map Cl.pv).getD .non
theorem fndP_some {cs:List Cl} {n:Int} {c:Cl} (h:fnd cs n=some c):fndP cs n=c.pv:=by unfold fndP;rw [h];rfl
theorem fndP_none {cs:List Cl} {n:Int} (h:fnd cs n=none):fndP cs n= .non:=by unfold fndP;rw [h];rfl
theorem e_FindClaim {cs:List Cl} {n:Int}:m_FindClaim [.lst (cs.map Cl.pv),.int n]=some (fndP cs n):=by
 unfold m_FindClaim g_FindClaim
 walk_at "ev"
 refine loop_find (enc:=Cl.pv) (λc:Cl=>if c.n=n then some c.pv else none) (λρ=> ∃z,ρ= [some (.f (.lst (cs.map Cl.pv))),some (.f (.int n)),z]) ⟨_,rfl⟩ ?_ ?_ ?_
 ·rintro c _ ρ ⟨z,rfl⟩
  refine ⟨_,rfl,?_⟩
  by_cases e:c.n=n
  ·exact .inl ⟨c.pv,if_pos e,by unfold Cl.pv;walk_at "ev";rw [if_pos e]⟩
  ·exact .inr ⟨if_neg e,_,by unfold Cl.pv;walk_at "ev";rw [if_neg e],⟨_,rfl⟩⟩
 ·intro q hq
  walk_at "ev"
  unfold fndP fnd
  obtain ⟨l1,c,l2,e1,e2,e3⟩:=List.findSome?_eq_some_iff.mp hq
  subst e1
  rw [List.find?_append,List.find?_eq_none.mpr (λx hx=>by have:=e3 x hx;simpa using this)]
  split at e2
  next h=>cases e2;simp [h]
  next=>cases e2
 ·rintro hq ρ' ⟨z,rfl⟩
  walk_at "ev"
  unfold fndP fnd
  rw [List.find?_eq_none.mpr (λx hx=>by have:=List.findSome?_eq_none_iff.mp hq x hx;simpa using this)]
  rfl
def over (pss:Rds):Int:=(pss.length:Int) - 1
def at_ (pss:Rds) (t:Int):List Cl:=if 0<=t/\t<pss.length then pss.getD t.toNat [] else []
theorem encN_len {pss:Rds}:(encN pss).length=pss.length:=by unfold encN;rw [List.length_map]
theorem e_OverOf {pss:Rds}:m_OverOf [roundsP (encN pss)]=some (.int (over pss)):=by
 unfold m_OverOf g_OverOf roundsP over
 walk_at "ev"
 rw [encN_len]
theorem encN_get {pss:Rds} {i:Nat} (h:i<pss.length):((encN pss).map PV.lst)[i]? =some (.lst ((pss.getD i []).map Cl.pv)):=by
 unfold encN
 simp [h,List.getD]
theorem pIx_enc {pss:Rds} {t:Int} (h:0<=t/\t<pss.length):pIx (.lst ((encN pss).map PV.lst)) (.int t)=some (.lst ((at_ pss t).map Cl.pv)):=by
 have e:((t.toNat:Nat):Int)=t:=by omega
 have hl:t.toNat<pss.length:=by omega
 have:=pIx_q (p:= .lst ((encN pss).map PV.lst)) (n:=t.toNat) rfl (encN_get hl)
 rw [e] at this
 rw [this]
 unfold at_
 rw [if_pos h]
 rfl
theorem e_ClaimsOf {pss:Rds} {t:Int}:m_ClaimsOf [roundsP (encN pss),.int t]=some (.lst ((at_ pss t).map Cl.pv)):=by
 unfold m_ClaimsOf g_ClaimsOf roundsP
 walk_at "ev"
 rw [encN_len]
 by_cases h0:0<=t
 ·by_cases h1:t<pss.length
  ·rw [if_pos h0,if_pos h1,pIx_enc ⟨h0,h1⟩]
   rfl
  ·rw [if_pos h0,if_neg h1]
   unfold at_
   rw [if_neg (by omega)]
   rfl
 ·rw [if_neg h0]
  unfold at_
  rw [if_neg (by omega)]
  rfl
theorem isN_fndP {cs:List Cl} {n:Int}:isN (fndP cs n)=(fnd cs n).isNone:=by
 cases h:fnd cs n with
 |none=>rw [fndP_none h];rfl
 |some c=>rw [fndP_some h];rfl
def lacks (pss:Rds):De->Bool
 | .carry n=>(fnd (at_ pss (over pss - 1)) n).isNone
 | .step t _ _ _ _=>decide (at_ pss t= [])
 | .offer t c _=>(fnd (at_ pss t) c).isNone
 | .rule t ws _=>decide (at_ pss t= [])||ws.any λw=>(fnd (at_ pss t) w.1).isNone
 |_=>false
def meets (pss:Rds):De->Bool
 | .claim _=>decide (0<over pss)
 | .carry _=>decide (over pss=3)
 | .step t _ _ _ _=>decide (t<over pss)
 | .offer t _ _=>decide (t<over pss)
 | .rule t _ _=>decide (t<over pss)
 |_=>false
def lastR (pss:Rds):List Cl:=pss.getD (pss.length - 1) []
def twice (pss:Rds):De->Bool
 | .claim c=>(fnd (pss.getD 0 []) c.n).isSome
 | .carry n=>(fnd (lastR pss) n).isSome
 | .rule _ ws _=>decide (setN (ws.map Prod.fst)<ws.length)
 |_=>false
def wIn (pss:Rds) (t c:Int):Int:=((fnd (at_ pss t) c).map Cl.w).getD 0
def much (pss:Rds):De->Bool
 | .offer t c a=>decide (wIn pss t c<a)
 | .rule t ws _=>ws.any λw=>decide (wIn pss t w.1<w.2)
 |_=>false
theorem bools_of {α:Type} {f:α->Bool}: ∀ {xs:List α},pboolsO (xs.map λx=>PV.bl (f x))=some (xs.map f)
 | []=>rfl
 |x::xs=>by rw [List.map_cons,pboolsO,bools_of];rfl
theorem pAny_of {α:Type} {f:α->Bool} {xs:List α}:pAny [.lst (xs.map λx=>PV.bl (f x))]=some (.bl (xs.any f)):=by
 show (pboolsO _).map _=_
 rw [bools_of]
 simp
theorem ints_of {α:Type} {f:α->Int}: ∀ {xs:List α},pintsO (xs.map λx=>PV.int (f x))=some (xs.map f)
 | []=>rfl
 |x::xs=>by rw [List.map_cons,pintsO,ints_of];rfl
def DeOk:De->Prop
 | .rule _ ws _=>ws.length<=1000
 |_=>True
theorem lacks_rule {pss:Rds} {t:Int} {ws:List (Int×Int)} {bk:Bool}:lacks pss (.rule t ws bk)=(decide (at_ pss t= [])||ws.any λw=>(fnd (at_ pss t) w.1).isNone):=rfl
theorem e_Lacks {pss:Rds} {r:Ro} (h:DeOk r.x):m_LacksClaim [roundsP (encN pss),r.pv]=some (.bl (lacks pss r.x)):=by
 obtain ⟨n,d,x⟩:=r
 unfold m_LacksClaim g_LacksClaim
 cases x with
 |claim c=>rfl
 |carry c=>walk_at "ev";rw [e_OverOf];walk_at "ev";rw [e_ClaimsOf];walk_at "ev";rw [e_FindClaim];walk_at "ev";rw [isN_fndP];rfl
 |step t s k m l=>walk_at "ev";rw [e_ClaimsOf];walk_at "ev";rfl
 |offer t c a=>walk_at "ev";rw [e_ClaimsOf];walk_at "ev";rw [e_FindClaim];walk_at "ev";rw [isN_fndP];rfl
 |rule t ws bk=>
  walk_at "ev";rw [e_ClaimsOf];walk_at "ev"
  rw [lacks_rule]
  by_cases e:at_ pss t= []
  ·rw [if_pos e,decide_eq_true e,Bool.true_or]
  ·rw [if_neg e,decide_eq_false e,Bool.false_or]
   rw [eComp_a (enc:=winP) (xs:=ws) (f:=λw=>PV.bl (fnd (at_ pss t) w.1).isNone) ?h1 (Nat.le_trans h (by decide)) ?h2]
   case h1=>rfl
   case h2=>
    intro w _
    unfold winP
    walk_at "ev"
    rw [e_FindClaim];walk_at "ev";rw [isN_fndP]
   walk_at "ev"
   rw [pAny_of]
   rfl
 |pay s p c=>rfl
 |dun s=>rfl
theorem e_Meets {pss:Rds} {r:Ro}:m_MeetsOver [roundsP (encN pss),r.pv]=some (.bl (meets pss r.x)):=by
 obtain ⟨n,d,x⟩:=r
 unfold m_MeetsOver g_MeetsOver
 have pin: ∀z:Str,pIn (.str z) (.tup [.str "step",.str "offer",.str "rule"])=some (.bl (decide (z= "step")||(decide (z= "offer")||(decide (z= "rule")||false)))):=λz=>by
  have sw: ∀a b:Str,(a==b)=decide (b=a):=λa b=>by
   by_cases e:a=b
   ·subst e;simp
   ·simp [e,Ne.symm e]
  simp [pIn,pInB,seqOf,toV,allV,inV,eqV,sw]
 cases x with
 |claim c=>walk_at "ev";rw [e_OverOf];rfl
 |carry c=>walk_at "ev";rw [e_OverOf];walk_at "ev";rfl
 |step t s k m l=>walk_at "ev";rw [pin];walk_at "ev";simp only [Bool.true_or,if_true];rw [e_OverOf];rfl
 |offer t c a=>walk_at "ev";rw [pin];walk_at "ev";simp only [Bool.true_or,Bool.or_true,if_true];rw [e_OverOf];rfl
 |rule t ws bk=>walk_at "ev";rw [pin];walk_at "ev";simp only [Bool.true_or,Bool.or_true,if_true];rw [e_OverOf];rfl
 |pay s p c=>walk_at "ev";rw [pin];rfl
 |dun s=>walk_at "ev";rw [pin];rfl
theorem e_WorthIn {pss:Rds} {r:Ro} {t c:Int} (ht:pIx r.pv (.int 3)=some (.int t)) (h:(fnd (at_ pss t) c).isSome):m_WorthIn [roundsP (encN pss),r.pv,.int c]=some (.int (wIn pss t c)):=by
 unfold m_WorthIn g_WorthIn wIn
 walk_at "ev"
 rw [ht]
 walk_at "ev"
 rw [e_ClaimsOf]
 walk_at "ev"
 rw [e_FindClaim]
 walk_at "ev"
 cases e:fnd (at_ pss t) c with
 |none=>rw [e] at h;cases h
 |some c=>
  rw [fndP_some e]
  unfold Cl.pv
  rfl
theorem e_Much {pss:Rds} {r:Ro} (h:DeOk r.x) (hl:lacks pss r.x=false):m_NamesTooMuch [roundsP (encN pss),r.pv]=some (.bl (much pss r.x)):=by
 obtain ⟨n,d,x⟩:=r
 unfold m_NamesTooMuch g_NamesTooMuch
 cases x with
 |claim c=>rfl
 |carry c=>rfl
 |step t s k m l=>rfl
 |offer t c a=>
  have hs:(fnd (at_ pss t) c).isSome:=by
   have:(fnd (at_ pss t) c).isNone=false:=hl
   cases e:fnd (at_ pss t) c with
   |none=>rw [e] at this;cases this
   |some _=>rfl
  have e:=e_WorthIn (r:=⟨n,d,.offer t c a⟩) rfl hs
  walk_at "ev"
  rw [e]
  rfl
 |rule t ws bk=>
  rw [lacks_rule,Bool.or_eq_false_iff] at hl
  have e: ∀w∈ws,m_WorthIn [roundsP (encN pss),Ro.pv ⟨n,d,.rule t ws bk⟩,.int w.1]=some (.int (wIn pss t w.1)):=λw hw=>e_WorthIn rfl (by
   have:=List.any_eq_false.mp hl.2 w hw
   cases e:fnd (at_ pss t) w.1 with
   |none=>rw [e] at this;exact absurd rfl this
   |some _=>rfl)
  walk_at "ev"
  rw [eComp_a (enc:=winP) (xs:=ws) (f:=λw=>PV.bl (decide (wIn pss t w.1<w.2))) ?h1 (Nat.le_trans h (by decide)) ?h2]
  case h1=>rfl
  case h2=>
   intro w hw
   unfold winP
   walk_at "ev"
   rw [e w hw]
   walk_at "ev"
  walk_at "ev"
  rw [pAny_of]
  rfl
 |pay s p c=>rfl
 |dun s=>rfl
theorem ix_r0 {pss:Rds} (h:pss≠ []):pIx (roundsP (encN pss)) (.int 0)=some (.lst ((pss.getD 0 []).map Cl.pv)):=by
 have hl:0<pss.length:=List.length_pos_iff.mpr h
 exact pIx_q (p:=roundsP (encN pss)) (n:=0) rfl (encN_get hl)
theorem pIx_neg {p q:PV} {ps:List PV} {n:Nat} (h:seqOf p=some ps) (hn:0<n) (hl:n<=ps.length) (e:ps[ps.length - n]? =some q):pIx p (.int (-(n:Int)))=gd q:=by
 unfold pIx gd
 rw [h]
 show (atI ps _).bind _=_
 have:atI ps (-(n:Int))=some q:=by
  unfold atI ixN
  rw [if_neg (by omega),if_pos (by omega)]
  show ps[(-(n:Int)+ps.length).toNat]? =_
  rw [show (-(n:Int)+ps.length).toNat=ps.length - n by omega]
  exact e
 rw [this];rfl
theorem ix_rL {pss:Rds} (h:pss≠ []):pIx (roundsP (encN pss)) (.int (-1))=some (.lst ((lastR pss).map Cl.pv)):=by
 have hl:0<pss.length:=List.length_pos_iff.mpr h
 exact pIx_neg (p:=roundsP (encN pss)) (n:=1) rfl (by decide) (by rw [List.length_map,encN_len];omega) (by rw [List.length_map,encN_len];exact encN_get (by omega))
theorem ix_d {r:Ro}:pIx r.pv (.int 2)=some (.int r.d):=by obtain ⟨n,d,x⟩:=r;cases x<;>rfl
theorem ix_n {r:Ro}:pIx r.pv (.int 0)=some (.int r.n):=by obtain ⟨n,d,x⟩:=r;cases x<;>rfl
theorem ix_w {r:Ro}:pIx r.pv (.int 1)=some (.str (wordOf r.x)):=by obtain ⟨n,d,x⟩:=r;cases x<;>rfl
theorem isN_ro {r:Ro}:isN r.pv=false:=by obtain ⟨n,d,x⟩:=r;cases x<;>rfl
theorem pLenSet_of {α:Type} {f:α->Int} {ws:List α} (h:ws.length<=1000):pLenSet [.lst (ws.map λw=>PV.int (f w))]=some (.int (setN (ws.map f))):=by
 show (pintsO _).bind _=_
 rw [ints_of,Option.bind_some,List.length_map,if_pos h]
theorem e_Twice {pss:Rds} {r:Ro} (h:DeOk r.x) (hp:pss≠ []):m_ComesTwice [roundsP (encN pss),r.pv]=some (.bl (twice pss r.x)):=by
 obtain ⟨n,d,x⟩:=r
 unfold m_ComesTwice g_ComesTwice
 cases x with
 |claim c=>walk_at "ev";rw [ix_r0 hp];walk_at "ev";rw [e_FindClaim];walk_at "ev";rw [isN_fndP];simp [twice]
 |carry c=>walk_at "ev";rw [ix_rL hp];walk_at "ev";rw [e_FindClaim];walk_at "ev";rw [isN_fndP];simp [twice]
 |step t s k m l=>rfl
 |offer t c a=>rfl
 |rule t ws bk=>
  walk_at "ev"
  rw [eComp_a (enc:=winP) (xs:=ws) (f:=λw=>PV.int w.1) ?h1 (Nat.le_trans h (by decide)) ?h2]
  case h1=>rfl
  case h2=>intro w hw;unfold winP;walk_at "ev"
  walk_at "ev"
  rw [pLenSet_of h]
  walk_at "ev"
  show some (PV.bl (decide (((setN (ws.map Prod.fst):Nat):Int)<((ws.length:Nat):Int))))=some (PV.bl (decide (setN (ws.map Prod.fst)<ws.length)))
  simp only [Int.ofNat_lt]
 |pay s p c=>rfl
 |dun s=>rfl
def lastP:Option Ro->PV
 |none=> .non
 |some r=>r.pv
def late (last:Option Ro) (r:Ro):Bool:=match last with
 |none=>false
 |some l=>decide (r.d<l.d)
def refuse (pss:Rds) (last:Option Ro) (written:Int) (r:Ro):Option Nat:=
 if 300<=written then some 0 else if lacks pss r.x=true then some 1 else if meets pss r.x=true then some 2 else if late last r=true then some 3
 else if twice pss r.x=true then some 4 else if much pss r.x=true then some 5 else none
def refE:Option Nat->EX
 |some k=> .error k
 |none=> .ok .non
theorem e_Late {last:Option Ro} {r:Ro} {a b:Option SV}:(tyAnd (asB (eOp pNis (eV 1) (eC .non))) (asB (eOp pLt (eOp pIx (eV 3) (eC (.int (2)))) (eOp pIx (eV 1) (eC (.int (2))))))) [a,some (.f (lastP last)),b,some (.f r.pv)]=some (late last r):=by
 cases last with
 |none=>rfl
 |some l=>
  unfold lastP
  walk_at "ev"
  rw [isN_ro]
  walk_at "ev"
  rw [ix_d,ix_d]
  rfl
theorem e_CheckNext {pss:Rds} {last:Option Ro} {n:Int} {r:Ro} (h:DeOk r.x) (hp:pss≠ []):m_CheckNext [roundsP (encN pss),lastP last,.int n,r.pv]=some (refE (refuse pss last n r)):=by
 have cons: ∀(c:ET) (f g:SX) (b:Bool) (W:Wd) (ρ:Rho),c ρ=some b->sxIf c f g W ρ=if b=true then f W ρ else g W ρ:=λc f g b W ρ e=>by unfold sxIf;rw [e];rfl
 have seq: ∀(f g:SX) (W:Wd) (ρ:Rho),f W ρ=some (.nx ρ W)->sxSeq f g W ρ=g W ρ:=λf g W ρ e=>by unfold sxSeq;rw [e];rfl
 have sex: ∀(f g:SX) (W:Wd) (ρ:Rho) (k:Nat),f W ρ=some (.ex k W)->sxSeq f g W ρ=some (.ex k W):=λf g W ρ k e=>by unfold sxSeq;rw [e];rfl
 unfold m_CheckNext g_CheckNext
 rw [mkME_ev,if_pos (by rfl)]
 show (sxSeq _ _ [] [some (.f (roundsP (encN pss))),some (.f (lastP last)),some (.f (.int n)),some (.f r.pv)]).bind FinE=_
 have e1:(asB (eOp pGe (eV 2) (eC (.int (300))))) [some (.f (roundsP (encN pss))),some (.f (lastP last)),some (.f (.int n)),some (.f r.pv)]=some (decide (300<=n)):=by rfl
 have e2:(asB (eCl m_LacksClaim (aC (eW 0) (aC (eW 3) aN)))) [some (.f (roundsP (encN pss))),some (.f (lastP last)),some (.f (.int n)),some (.f r.pv)]=some (lacks pss r.x):=by walk_at "ev";rw [e_Lacks h];rfl
 have e3:(asB (eCl m_MeetsOver (aC (eW 0) (aC (eW 3) aN)))) [some (.f (roundsP (encN pss))),some (.f (lastP last)),some (.f (.int n)),some (.f r.pv)]=some (meets pss r.x):=by walk_at "ev";rw [e_Meets];rfl
 have e5:(asB (eCl m_ComesTwice (aC (eW 0) (aC (eW 3) aN)))) [some (.f (roundsP (encN pss))),some (.f (lastP last)),some (.f (.int n)),some (.f r.pv)]=some (twice pss r.x):=by walk_at "ev";rw [e_Twice h hp];rfl
 unfold refuse
 by_cases h1:300<=n
 ·rw [if_pos h1,sex _ _ _ _ 0 (by rw [cons _ _ _ _ _ _ e1,if_pos (decide_eq_true h1)];rfl)];rfl
 rw [if_neg h1,seq _ _ _ _ (by rw [cons _ _ _ _ _ _ e1,if_neg (by simpa using h1)];rfl)]
 cases h2:lacks pss r.x with
 |true=>rw [if_pos rfl,sex _ _ _ _ 1 (by rw [cons _ _ _ _ _ _ e2,if_pos h2];rfl)];rfl
 |false=>
 rw [if_neg Bool.false_ne_true,seq _ _ _ _ (by rw [cons _ _ _ _ _ _ e2,if_neg (by rw [h2];exact Bool.false_ne_true)];rfl)]
 cases h3:meets pss r.x with
 |true=>rw [if_pos rfl,sex _ _ _ _ 2 (by rw [cons _ _ _ _ _ _ e3,if_pos h3];rfl)];rfl
 |false=>
 rw [if_neg Bool.false_ne_true,seq _ _ _ _ (by rw [cons _ _ _ _ _ _ e3,if_neg (by rw [h3];exact Bool.false_ne_true)];rfl)]
 cases h4:late last r with
 |true=>rw [if_pos rfl,sex _ _ _ _ 3 (by rw [cons _ _ _ _ _ _ e_Late,if_pos h4];rfl)];rfl
 |false=>
 rw [if_neg Bool.false_ne_true,seq _ _ _ _ (by rw [cons _ _ _ _ _ _ e_Late,if_neg (by rw [h4];exact Bool.false_ne_true)];rfl)]
 cases h5:twice pss r.x with
 |true=>rw [if_pos rfl,sex _ _ _ _ 4 (by rw [cons _ _ _ _ _ _ e5,if_pos h5];rfl)];rfl
 |false=>
 rw [if_neg Bool.false_ne_true,seq _ _ _ _ (by rw [cons _ _ _ _ _ _ e5,if_neg (by rw [h5];exact Bool.false_ne_true)];rfl)]
 have e6:(asB (eCl m_NamesTooMuch (aC (eW 0) (aC (eW 3) aN)))) [some (.f (roundsP (encN pss))),some (.f (lastP last)),some (.f (.int n)),some (.f r.pv)]=some (much pss r.x):=by walk_at "ev";rw [e_Much h h2];rfl
 cases h6:much pss r.x with
 |true=>rw [if_pos rfl,cons _ _ _ _ _ _ e6,if_pos h6];rfl
 |false=>rw [if_neg Bool.false_ne_true,cons _ _ _ _ _ _ e6,if_neg (by rw [h6];exact Bool.false_ne_true)];rfl
def last2 (pss:Rds):List Cl:=pss.getD (pss.length - 2) []
def put (pss:Rds):De->Rds
 | .claim c=>pss.set 0 (pss.getD 0 []++ [c])
 | .carry n=>pss.set (pss.length - 1) (lastR pss++(fnd (last2 pss) n).toList)
 | .rule _ _ _=>pss++ [[]]
 |_=>pss
structure PutOk (pss:Rds) (x:De):Prop where
 ne:pss≠ []
 sz:pss.length<=1000
 sz2: ∀cs∈pss,cs.length<=1000
 ca: ∀n,x= .carry n->2<=pss.length/\(fnd (last2 pss) n).isSome
theorem encN_g {pss:Rds} {i:Nat} (h:i<pss.length):(encN pss)[i]? =some ((pss.getD i []).map Cl.pv):=by
 unfold encN
 simp [h,List.getD]
theorem encN_set {pss:Rds} {i:Nat} {cs:List Cl}:(encN pss).set i (cs.map Cl.pv)=encN (pss.set i cs):=by
 unfold encN
 rw [List.map_set]
theorem getD_mem {pss:Rds} {i:Nat} (h:i<pss.length):pss.getD i []∈pss:=by
 rw [List.getD_eq_getElem?_getD,List.getElem?_eq_getElem h];exact List.getElem_mem h
theorem ixN_nat0 {n i:Nat} (h:i<n):ixN n (i:Int)=some i:=by
 unfold ixN
 rw [if_pos (by omega),if_pos (by omega)]
 rfl
theorem ixN_m1 {n:Nat} (h:0<n):ixN n (-1)=some (n - 1):=by
 unfold ixN
 rw [if_neg (by omega),if_pos (by omega)]
 congr 1
 omega
theorem ixN_m2 {n:Nat} (h:1<n):ixN n (-2)=some (n - 2):=by
 unfold ixN
 rw [if_neg (by omega),if_pos (by omega)]
 congr 1
 omega
theorem sl_claim {n d:Int} {c:Cl}:pSlT (Ro.pv ⟨n,d,.claim c⟩) (some 3) none=some c.pv:=by rfl
theorem e_PutRow {pss:Rds} {r:Ro} (h:PutOk pss r.x):m_PutRow (encN pss) r.pv=some (encN (put pss r.x)):=by
 have hl:0<pss.length:=List.length_pos_iff.mpr h.ne
 obtain ⟨n,d,x⟩:=r
 unfold m_PutRow g_PutRow
 have tst: ∀(w:Str),(asB (eOp pEq (eOp pIx (eV 1) (eC (.int (1)))) (eC (.str w)))) [none,some (.f (Ro.pv ⟨n,d,x⟩))]=some (decide (wordOf x=w)):=λw=>by
  walk_at "ev";rw [ix_w];walk_at "ev"
 unfold mkPut nIf
 rw [tst,tst,tst]
 cases x with
 |claim c=>
  simp only [wordOf]
  walk_at "ev"
  unfold nApp
  show (Option.bind (some (PV.int 0)) _)=_
  rw [Option.bind_some]
  show ((ixN (encN pss).length ((0:Nat):Int)).bind _)=_
  rw [encN_len,ixN_nat0 hl,Option.bind_some,encN_g hl,Option.bind_some]
  show ((nvF _ _ _).bind _)=_
  have e:nvF (eSl pSlT (eV 1) (ePart (eC (.int (3)))) eNoPart) (encN pss) [none,some (.f (Ro.pv ⟨n,d,.claim c⟩))]=some c.pv:=sl_claim (n:=n) (d:=d)
  rw [e,Option.bind_some,List.length_map,if_pos (szL' (Nat.le_trans (h.sz2 _ (getD_mem hl)) (by decide)))]
  show some ((encN pss).set 0 ((pss.getD 0 []).map Cl.pv++ [c].map Cl.pv))=_
  rw [<-List.map_append,encN_set]
  rfl
 |carry c=>
  obtain ⟨h2,h3⟩:=h.ca c rfl
  simp only [wordOf]
  walk_at "ev"
  unfold nApp
  show (Option.bind (some (PV.int (-1))) _)=_
  rw [Option.bind_some]
  show ((ixN (encN pss).length (-1)).bind _)=_
  rw [encN_len,ixN_m1 hl,Option.bind_some,encN_g (by omega),Option.bind_some]
  have e:nvCall m_FindClaim (eNeg (eC (.int 2))) (eOp pIx (eV 1) (eC (.int (3)))) (encN pss) [none,some (.f (Ro.pv ⟨n,d,.carry c⟩))]=some (fndP (last2 pss) c):=by
   unfold nvCall
   show (Option.bind (some (PV.int (-2))) _)=_
   rw [Option.bind_some]
   show ((ixN (encN pss).length (-2)).bind _)=_
   rw [encN_len,ixN_m2 (by omega),Option.bind_some,encN_g (by omega),Option.bind_some]
   walk_at "ev"
   rw [show pss.getD (pss.length - 2) []=last2 pss from rfl,e_FindClaim,Option.bind_some]
   rw [if_pos]
   cases e:fnd (last2 pss) c with
   |none=>rw [fndP_none e];rfl
   |some c=>rw [fndP_some e];rfl
  rw [e,Option.bind_some,List.length_map,if_pos (szL' (Nat.le_trans (h.sz2 _ (getD_mem (by omega))) (by decide)))]
  cases e:fnd (last2 pss) c with
  |none=>rw [e] at h3;cases h3
  |some cl=>
   rw [fndP_some e]
   show some ((encN pss).set (pss.length - 1) ((pss.getD (pss.length - 1) []).map Cl.pv++ [cl].map Cl.pv))=_
   rw [<-List.map_append,encN_set]
   show _=some (encN (pss.set (pss.length - 1) (lastR pss++(fnd (last2 pss) c).toList)))
   rw [e]
   rfl
 |rule t ws bk=>
  simp only [wordOf]
  walk_at "ev"
  unfold nNew
  rw [encN_len,if_pos (szL' (Nat.le_trans h.sz (by decide)))]
  show _=some (encN (pss++ [[]]))
  unfold encN
  rw [List.map_append]
  rfl
 |step t s k m l=>simp only [wordOf];rfl
 |offer t c a=>simp only [wordOf];rfl
 |pay s p c=>simp only [wordOf];rfl
 |dun s=>simp only [wordOf];rfl
def PutsOk:Rds->List Ro->Prop
 |_,[]=>True
 |pss,r::rs=>PutOk pss r.x/\PutsOk (put pss r.x) rs
def putsT (pss:Rds) (rows:List Ro):Rds:=rows.foldl (λp r=>put p r.x) pss
def roundsT (rows:List Ro):Rds:=putsT [[]] rows
theorem roundsT_snoc {rows:List Ro} {r:Ro}:roundsT (rows++ [r])=put (roundsT rows) r.x:=by unfold roundsT putsT;rw [List.foldl_append];rfl
theorem putAll_ok: ∀ {rows:List Ro} {pss:Rds},PutsOk pss rows->putAll m_PutRow (encN pss) (rows.map Ro.pv)=some (encN (putsT pss rows))
 | [],_,_=>rfl
 |r::rs,pss,h=>by
  rw [List.map_cons,putAll,e_PutRow h.1,Option.bind_some]
  exact putAll_ok h.2
theorem putsOk_append: ∀ {rs qs:List Ro} {pss:Rds},PutsOk pss (rs++qs)↔PutsOk pss rs/\PutsOk (putsT pss rs) qs
 | [],_,_=>by simp [PutsOk,putsT]
 |r::rs,qs,pss=>by
  show PutOk pss r.x/\PutsOk (put pss r.x) (rs++qs)↔(PutOk pss r.x/\PutsOk (put pss r.x) rs)/\PutsOk (putsT (put pss r.x) rs) qs
  rw [putsOk_append,and_assoc]
theorem e_RoundsOf {rows:List Ro} (h:PutsOk [[]] rows):m_RoundsOf [.lst (rows.map Ro.pv)]=some (roundsP (encN (roundsT rows))):=by
 show (putAll m_PutRow (encN [[]]) (rows.map Ro.pv)).map roundsP=_
 rw [putAll_ok h]
 rfl
inductive Acc:List Ro->Prop
 |nil:Acc []
 |snoc {rows:List Ro} {r:Ro} {n:Int}:Acc rows->DeOk r.x->refuse (roundsT rows) rows.getLast? n r=none->(rows.length:Int)<=n->Acc (rows++ [r])
structure RInv (rows:List Ro):Prop where
 ne:roundsT rows≠ []
 sz:(roundsT rows).length<=rows.length+1
 sz2: ∀cs∈roundsT rows,cs.length<=rows.length
theorem refuse_none {pss:Rds} {l:Option Ro} {n:Int} {r:Ro} (h:refuse pss l n r=none):n<300/\lacks pss r.x=false/\meets pss r.x=false/\late l r=false/\twice pss r.x=false/\much pss r.x=false:=by
 unfold refuse at h
 split at h;cases h
 split at h;cases h
 split at h;cases h
 split at h;cases h
 split at h;cases h
 split at h;cases h
 refine ⟨by omega,?_,?_,?_,?_,?_⟩<;>simp_all
theorem lacks_carry {pss:Rds} {n:Int} (h:lacks pss (.carry n)=false):2<=pss.length/\(fnd (last2 pss) n).isSome:=by
 have h:(fnd (at_ pss (over pss - 1)) n).isNone=false:=h
 have hl:2<=pss.length:=by
  apply Decidable.byContradiction
  intro c
  unfold at_ over at h
  rw [if_neg (by omega)] at h
  cases h
 refine ⟨hl,?_⟩
 have e:at_ pss (over pss - 1)=last2 pss:=by
  unfold at_ over last2
  rw [if_pos (by omega)]
  congr 1
  omega
 rw [e] at h
 cases hf:fnd (last2 pss) n with
 |none=>rw [hf] at h;cases h
 |some _=>rfl
theorem put_len {pss:Rds} {x:De}:(put pss x).length<=pss.length+1:=by
 cases x<;>simp [put]
theorem mem_set' {α:Type} {l:List α} {i:Nat} {a x:α} (h:x∈l.set i a):x∈l\/x=a:=by
 rcases List.mem_or_eq_of_mem_set h with h|h
 ·exact .inl h
 ·exact .inr h
theorem getD_le {pss:Rds} {i n:Nat} (h: ∀cs∈pss,cs.length<=n):(pss.getD i []).length<=n:=by
 by_cases hi:i<pss.length
 ·exact h _ (getD_mem hi)
 ·rw [List.getD_eq_getElem?_getD,List.getElem?_eq_none (by omega)];exact Nat.zero_le _
theorem put_sz {pss:Rds} {x:De} {n:Nat} (h: ∀cs∈pss,cs.length<=n): ∀cs∈put pss x,cs.length<=n+1:=by
 intro cs hc
 cases x with
 |claim c=>
  rcases mem_set' hc with hc|rfl
  ·exact Nat.le_succ_of_le (h _ hc)
  ·rw [List.length_append];exact Nat.succ_le_succ (getD_le h)
 |carry c=>
  rcases mem_set' hc with hc|rfl
  ·exact Nat.le_succ_of_le (h _ hc)
  ·rw [List.length_append]
   have h1:(lastR pss).length<=n:=getD_le h
   have h2:(fnd (last2 pss) c).toList.length<=1:=by cases fnd (last2 pss) c<;>simp
   omega
 |rule t ws bk=>
  rcases List.mem_append.mp hc with hc|hc
  ·exact Nat.le_succ_of_le (h _ hc)
  ·rw [List.mem_singleton.mp hc];exact Nat.zero_le _
 |_=>exact Nat.le_succ_of_le (h _ hc)
theorem put_ne {pss:Rds} {x:De} (h:pss≠ []):put pss x≠ []:=by
 have hl:0<pss.length:=List.length_pos_iff.mpr h
 apply List.ne_nil_of_length_pos
 cases x<;>simp [put]<;>omega
theorem rinv {rows:List Ro}:RInv rows:=by
 have: ∀n,∀rows:List Ro,rows.length=n->RInv rows:=by
  intro n
  induction n with
  |zero=>intro rows h;rw [List.length_eq_zero_iff.mp h];exact ⟨by decide,by decide,λcs hc=>by rw [List.mem_singleton.mp hc];exact Nat.le_refl _⟩
  |succ n ih=>
   intro rows h
   obtain ⟨rs,r,rfl⟩: ∃rs r,rows=rs++ [r]:=⟨rows.dropLast,rows.getLast (λz=>by rw [z] at h;cases h),(List.dropLast_concat_getLast _).symm⟩
   have hl:rs.length=n:=by simpa using h
   obtain ⟨h1,h2,h3⟩:=ih rs hl
   refine ⟨by rw [roundsT_snoc];exact put_ne h1,?_,?_⟩
   ·rw [roundsT_snoc,List.length_append]
    have:=put_len (pss:=roundsT rs) (x:=r.x)
    simp only [List.length_singleton]
    omega
   ·rw [roundsT_snoc,List.length_append]
    exact put_sz h3
 exact this _ rows rfl
theorem Acc.puts {rows:List Ro} (h:Acc rows):PutsOk [[]] rows/\rows.length<=300:=by
 induction h with
 |nil=>exact ⟨trivial,Nat.zero_le _⟩
 | @snoc rows r n h1 h2 h3 h4 ih=>
  obtain ⟨f1,f2,f3,f4,f5,f6⟩:=refuse_none h3
  obtain ⟨i1,i2,i3⟩:=rinv (rows:=rows)
  have i2':(putsT [[]] rows).length<=rows.length+1:=i2
  refine ⟨putsOk_append.mpr ⟨ih.1,⟨i1,by omega,λcs hc=>by have:=i3 cs hc;omega,λk hk=> ?_⟩,trivial⟩,by rw [List.length_append];simp only [List.length_singleton];omega⟩
  show 2<=(roundsT rows).length/\(fnd (last2 (roundsT rows)) k).isSome
  rw [hk] at f2
  exact lacks_carry f2
theorem e_CheckRow {rows:List Ro} {n:Int} {r:Ro} (hp:PutsOk [[]] rows) (hl:rows.length<=1000) (h:DeOk r.x):m_CheckRow [.lst (rows.map Ro.pv),.int n,r.pv]=some (refE (refuse (roundsT rows) rows.getLast? n r)):=by
 unfold m_CheckRow g_CheckRow
 have e3:eIf (asB (eOp pNe (eV 0) (eLst aN))) (eOp pIx (eV 0) (eNeg (eC (.int 1)))) (eC .non) [some (.f (.lst (rows.map Ro.pv))),some (.f (.int n)),some (.f r.pv)]=some (lastP rows.getLast?):=by
  walk_at "ev"
  cases hg:rows.getLast? with
  |none=>rw [List.getLast?_eq_none_iff.mp hg];simp [lastP]
  |some l=>
   have ne:rows≠ []:=λz=>by rw [z] at hg;cases hg
   have hl0:0<rows.length:=List.length_pos_iff.mpr ne
   rw [if_pos (by simp [ne])]
   rw [show (-1:Int)= -((1:Nat):Int) from rfl,pIx_neg (ps:=rows.map Ro.pv) (n:=1) (q:=l.pv) rfl (by decide) (by rw [List.length_map];omega) ?_]
   ·obtain ⟨a,b,x⟩:=l;cases x<;>rfl
   ·rw [List.length_map,List.getElem?_map, <-List.getLast?_eq_getElem?,hg];rfl
 have e1:eCl m_RoundsOf (aC (eW 0) aN) [some (.f (.lst (rows.map Ro.pv))),some (.f (.int n)),some (.f r.pv)]=some (roundsP (encN (roundsT rows))):=by
  walk_at "ev";rw [e_RoundsOf hp]
 rw [mkME_ev,if_pos (by rfl)]
 show (Option.bind (sxDo _ [] [some (.f (.lst (rows.map Ro.pv))),some (.f (.int n)),some (.f r.pv)]) FinE)=_
 simp only [sxDo,xClE,xaL,aC,e1,e3,Option.map_some,Option.bind_some]
 simp only [eW,aN,List.getElem?_cons_zero,List.getElem?_cons_succ,Option.bind_some,Option.map_some]
 rw [e_CheckNext h rinv.ne]
 cases refuse (roundsT rows) rows.getLast? n r<;>rfl
structure En where
 r:Ro
 ca:Int
 we:Option Int
def weP:Option Int->PV
 |none=> .non
 |some w=> .int w
def En.at (m:Int) (e:En):Bool:=decide (e.ca<=m) && (match e.we with|none=>true|some w=>decide (m<w))
def bkB (A:BkA) (pl co sp:List PV) (es:List En) (dn:Int):Bst:=⟨A,pl,co,sp,es.map (·.r.pv),es.map (λe=> .int e.ca),es.map (λe=>weP e.we),dn⟩
def keptE (es:List En) (m:Int):List Ro:=(es.filter (En.at m)).map (·.r)
section
variable {A:BkA} {pl co sp:List PV} {es:List En} {dn:Int}
theorem find_b:bkOf [bkB A pl co sp es dn] (.ob A.b)=some (bkB A pl co sp es dn):=by
 unfold bkOf
 simp [bkB]
theorem any_b:([bkB A pl co sp es dn].any λs=>s.A.b==A.b)=true:=by simp [bkB]
theorem zip3_map {es:List En}:((List.range (es.map (·.r.pv)).length).map λi=>PV.tup [(es.map (·.r.pv)).getD i .non,(es.map (λe=>PV.int e.ca)).getD i .non,(es.map (λe=>weP e.we)).getD i .non])=es.map λe=>PV.tup [e.r.pv,.int e.ca,weP e.we]:=by
 apply List.ext_getElem?
 intro k
 by_cases hk:k<es.length
 ·simp [hk,List.getD]
 ·simp [hk]
theorem e_kept_comp {ρ:Rho} {m:Int} (h0:ρ[0]? =some (some (.f (.ob A.b)))) (h2:ρ[2]? =some (some (.f (.int m)))) (hz:es.length<=1000):
  xComp 3 [2] (xiZip3 (xFld (λb=> .lst b.rows) 0) (xFld (λb=> .lst b.came) 0) (xFld (λb=> .lst b.went) 0)) (tgT 3 (tgCons (tgN 0) (tgCons (tgN 1) (tgCons (tgN 2) tgNil)))) (tyAnd (asB (eOp pLe (eV 1) (eV 3))) (tyOr (asB (eOp pIs (eV 2) (eC .non))) (asB (eOp pLt (eV 3) (eV 2))))) (eW 0) [bkB A pl co sp es dn] ρ=some (.ok (.lst ((keptE es m).map Ro.pv)),[bkB A pl co sp es dn]):=by
 have f: ∀sel:Bst->PV,xFld sel 0 [bkB A pl co sp es dn] ρ=some (sel (bkB A pl co sp es dn)):=λsel=>by
  unfold xFld eW
  rw [h0]
  show ((some (PV.ob A.b)).bind _)=_
  rw [Option.bind_some,find_b]
  rfl
 unfold xComp xiZip3
 rw [f,f,f,Option.bind_some,Option.bind_some,Option.bind_some]
 show (Option.bind (if (es.map (λe=>PV.int e.ca)).length=(es.map (·.r.pv)).length/\(es.map (λe=>weP e.we)).length=(es.map (·.r.pv)).length then some (Except.ok ((List.range (es.map (·.r.pv)).length).map λi=>PV.tup [(es.map (·.r.pv)).getD i .non,(es.map (λe=>PV.int e.ca)).getD i .non,(es.map (λe=>weP e.we)).getD i .non]),_) else none) _)=_
 rw [if_pos (by simp),Option.bind_some,zip3_map]
 show ((mapF _ _).bind _)=_
 rw [mapF_filt (p:=En.at m) (f:=λe=>e.r.pv)]
 ·rw [Option.bind_some,if_pos (szL (Nat.le_trans (by rw [List.length_map];exact List.length_filter_le ..) (Nat.le_trans hz (by decide))))]
  unfold keptE
  rw [List.map_map]
  rfl
 ·intro e _
  have hc:cstR ρ 3 [2]= [none,none,none,some (.f (.int m))]:=by unfold cstR;simp [h2]
  rw [hc]
  unfold En.at
  cases hw:e.we with
  |none=>
   unfold weP
   walk_at "ev"
   by_cases c:e.ca<=m
   ·simp [c]
   ·simp [c]
  |some w=>
   unfold weP
   walk_at "ev"
   by_cases c:e.ca<=m
   ·by_cases c2:m<w
    ·simp [c,c2]
    ·simp [c,c2]
   ·simp [c]
theorem e_RowsKept (hz:es.length<=1000):m_BookRowsKept [bkB A pl co sp es dn] [.ob A.b,.non]=some (.ok (.lst ((keptE es dn).map Ro.pv)),[bkB A pl co sp es dn]):=by
 unfold m_BookRowsKept g_BookRowsKept
 rw [mkMN_ev,if_pos (by rfl)]
 have e1:sxAsg 2 (xIf (asB (eOp pIs (eV 1) (eC .non))) (xOf (xFld (λb=> .int b.dn) 0)) (xL (eS (eW 1)))) [bkB A pl co sp es dn] (rho0 3 [.ob A.b,.non])=some (.nx [some (.f (.ob A.b)),some (.f .non),some (.f (.int dn))] [bkB A pl co sp es dn]):=by
  unfold sxAsg xIf
  walk_at "ev"
  unfold xFld
  walk_at "ev"
  rw [find_b]
  rfl
 unfold sxSeq
 rw [e1,Option.bind_some]
 show ((sxRet _ _ _).bind _)=_
 unfold sxRet
 rw [e_kept_comp (m:=dn) rfl rfl hz]
 rfl
end
section
variable {A:BkA} {pl co sp:List PV} {es:List En} {dn:Int}
theorem setB_1 {b:Bst} {f:Bst->Bst}:setB [b] b.A.b f= [f b]:=by simp [setB]
theorem find_1 {b:Bst}:bkOf [b] (.ob b.A.b)=some b:=by unfold bkOf;simp
theorem any_1 {b:Bst}:([b].any λs=>s.A.b==b.A.b)=true:=by simp
def wrote (es:List En) (dn:Int) (r:Ro):List En:=es++ [⟨r,dn+1,none⟩]
theorem e_Write {r:Ro} (hz:es.length<=500) (hp:PutsOk [[]] (keptE es dn)) (h:DeOk r.x):
  m_BookWrite [bkB A pl co sp es dn] [.ob A.b,r.pv]=some (match refuse (roundsT (keptE es dn)) (keptE es dn).getLast? es.length r with
   |some k=>(.error k,[bkB A pl co sp es dn])
   |none=>(.ok (.int r.n),[bkB A pl co sp (wrote es dn r) (dn+1)])):=by
 have hk:(keptE es dn).length<=1000:=by
  unfold keptE
  rw [List.length_map]
  exact Nat.le_trans (List.length_filter_le ..) (by omega)
 unfold m_BookWrite g_BookWrite
 rw [mkMX_ev,if_pos (by rfl)]
 show ((sxSeq _ _ [bkB A pl co sp es dn] [some (.f (.ob A.b)),some (.f r.pv)]).bind FinX1)=_
 have e1:xClE m_CheckRow (xaC (xMt m_BookRowsKept [.non] (eW 0) xaN) (xaC (xLen (xFld (λb=> .lst b.rows) 0)) (xaC (xL (eW 1)) xaN))) [bkB A pl co sp es dn] [some (.f (.ob A.b)),some (.f r.pv)]=some (refE (refuse (roundsT (keptE es dn)) (keptE es dn).getLast? es.length r),[bkB A pl co sp es dn]):=by
  unfold xClE
  have ea:xaC (xMt m_BookRowsKept [.non] (eW 0) xaN) (xaC (xLen (xFld (λb=> .lst b.rows) 0)) (xaC (xL (eW 1)) xaN)) [bkB A pl co sp es dn] [some (.f (.ob A.b)),some (.f r.pv)]=some (.ok [.lst ((keptE es dn).map Ro.pv),.int es.length,r.pv],[bkB A pl co sp es dn]):=by
   have em:xMt m_BookRowsKept [.non] (eW 0) xaN [bkB A pl co sp es dn] [some (.f (.ob A.b)),some (.f r.pv)]=some (.ok (.lst ((keptE es dn).map Ro.pv)),[bkB A pl co sp es dn]):=by
    unfold xMt
    show (if ([bkB A pl co sp es dn].any λs=>s.A.b==A.b)=true then _ else _)=_
    rw [if_pos any_b]
    exact e_RowsKept (Nat.le_trans hz (by decide))
   have el:xLen (xFld (λb=> .lst b.rows) 0) [bkB A pl co sp es dn] [some (.f (.ob A.b)),some (.f r.pv)]=some (.ok (.int es.length),[bkB A pl co sp es dn]):=by
    unfold xLen xOf xFld
    walk_at "ev"
    rw [find_b]
    show some (_,_)=_
    simp [bkB]
   unfold xaC
   rw [em]
   show (Option.map _ (Option.bind (xLen _ _ _) _))=_
   rw [el]
   rfl
  rw [ea]
  show (Option.map _ (m_CheckRow _))=_
  rw [e_CheckRow hp hk h]
  rfl
 cases hr:refuse (roundsT (keptE es dn)) (keptE es dn).getLast? es.length r with
 |some k=>
  rw [hr] at e1
  unfold sxSeq sxDo
  rw [e1]
  rfl
 |none=>
  rw [hr] at e1
  have s1: ∀(f g:SX) (W W':Wd) (ρ ρ':Rho),f W ρ=some (.nx ρ' W')->sxSeq f g W ρ=g W' ρ':=λf g W W' ρ ρ' e=>by unfold sxSeq;rw [e];rfl
  rw [s1 _ _ _ [bkB A pl co sp es dn] _ [some (.f (.ob A.b)),some (.f r.pv)] (by unfold sxDo;rw [e1];rfl)]
  have hA:(bkB A pl co sp es dn).A.b=A.b:=rfl
  rw [s1 _ _ _ [{bkB A pl co sp es dn with dn:=dn+1}] _ [some (.f (.ob A.b)),some (.f r.pv)] (by
   unfold sxDone
   walk_at "ev"
   rw [find_b]
   show some (FlX.nx _ (setB [bkB A pl co sp es dn] (bkB A pl co sp es dn).A.b _))=_
   rw [setB_1]
   rfl)]
  have ap: ∀(L:Lf) (f:XF) (b:Bst) (p:PV),b.A=A->(∀b x,(L.put b x).A=b.A)->(L.get b).length<=100000->f [b] [some (.f (.ob A.b)),some (.f r.pv)]=some (.ok p,[b])->
    sxAppF L 0 f [b] [some (.f (.ob A.b)),some (.f r.pv)]=some (.nx [some (.f (.ob A.b)),some (.f r.pv)] [L.put b (L.get b++ [p])]):=λL f b p hA hL hz e=>by
   have fb:bkOf [b] (.ob A.b)=some b:=by rw [<-hA];exact find_1
   unfold sxAppF
   show (Option.bind (some (PV.ob A.b)) _)=_
   rw [Option.bind_some,fb,Option.bind_some,e,Option.bind_some]
   show (Option.bind (bkOf [b] (.ob A.b)) _)=_
   rw [fb,Option.bind_some,if_pos ⟨szL' hz,rfl⟩,setB_1]
  rw [s1 _ _ _ _ _ _ (ap lfRows _ _ r.pv rfl (λ_ _=>rfl) (by show (es.map (·.r.pv)).length<=_;rw [List.length_map];omega) (by rfl))]
  rw [s1 _ _ _ _ _ _ (ap lfCame _ _ (.int (dn+1)) rfl (λ_ _=>rfl) (by show (es.map (λe=>PV.int e.ca)).length<=_;rw [List.length_map];omega) (by
   unfold xOf xFld
   show (Option.map _ (Option.bind (some (PV.ob A.b)) _))=_
   rw [Option.bind_some,show∀b:Bst,b.A=A->bkOf [b] (.ob A.b)=some b from λb h=>by rw [<-h];exact find_1]
   ·rfl
   ·rfl))]
  rw [s1 _ _ _ _ _ _ (ap lfWent _ _ .non rfl (λ_ _=>rfl) (by show (es.map (λe=>weP e.we)).length<=_;rw [List.length_map];omega) rfl)]
  have e6: ∀W,sxL (sRet (eOp pIx (eV 1) (eC (.int 0)))) W [some (.f (.ob A.b)),some (.f r.pv)]=some (.rt (.int r.n) W):=λW=>by
   walk_at "ev"
   rw [ix_n]
   rfl
  rw [e6]
  show some (Except.ok _,_)=_
  unfold wrote bkB lfRows lfCame lfWent
  simp [weP]
end
section
variable {A:BkA} {pl co sp:List PV} {es:List En} {dn:Int}
def deed (A:BkA) (pl co sp:List PV) (es:List En) (dn d:Int) (x:De):EX×Wd:=match refuse (roundsT (keptE es dn)) (keptE es dn).getLast? es.length ⟨es.length,d,x⟩ with
 |some k=>(.error k,[bkB A pl co sp es dn])
 |none=>(.ok (.int es.length),[bkB A pl co sp (wrote es dn ⟨es.length,d,x⟩) (dn+1)])
theorem e_deed {d:Int} {x:De} {ρ:Rho} {f:XF} (h0:eW 0 ρ=some (.ob A.b)) (hf:f [bkB A pl co sp es dn] ρ=some (.ok (Ro.pv ⟨es.length,d,x⟩),[bkB A pl co sp es dn])) (hz:es.length<=500) (hp:PutsOk [[]] (keptE es dn)) (h:DeOk x):
  (sxRet (xMt m_BookWrite [] (eW 0) (xaC f xaN)) [bkB A pl co sp es dn] ρ).bind FinX1=some (deed A pl co sp es dn d x):=by
 have e:xMt m_BookWrite [] (eW 0) (xaC f xaN) [bkB A pl co sp es dn] ρ=some (deed A pl co sp es dn d x):=by
  unfold xMt
  rw [h0,Option.bind_some]
  show (if ([bkB A pl co sp es dn].any λs=>s.A.b==A.b)=true then _ else _)=_
  rw [if_pos any_b]
  unfold xaC
  rw [hf]
  show m_BookWrite [bkB A pl co sp es dn] [.ob A.b,Ro.pv ⟨es.length,d,x⟩]=_
  rw [e_Write hz hp h]
  rfl
 unfold sxRet
 rw [e]
 unfold deed
 cases refuse (roundsT (keptE es dn)) (keptE es dn).getLast? es.length ⟨es.length,d,x⟩<;>rfl
theorem e_len {ρ:Rho} (h0:eW 0 ρ=some (.ob A.b)):xLen (xFld (λb=> .lst b.rows) 0) [bkB A pl co sp es dn] ρ=some (.ok (.int es.length),[bkB A pl co sp es dn]):=by
 have f:xFld (λb=>PV.lst b.rows) 0 [bkB A pl co sp es dn] ρ=some (.lst (es.map (·.r.pv))):=by
  unfold xFld
  rw [h0,Option.bind_some,find_b]
  rfl
 unfold xLen xOf
 show Option.map _ (Option.bind (xFld (λb=>PV.lst b.rows) 0 [bkB A pl co sp es dn] ρ) _)=_
 rw [f,Option.bind_some,pLen_l]
 simp
theorem e_arg {ρ:Rho} {mr:List PV->Option PV} {ps:List PV} {q:PV} {fa:XA} (h0:eW 0 ρ=some (.ob A.b)) (ha:fa [bkB A pl co sp es dn] ρ=some (.ok ps,[bkB A pl co sp es dn])) (hm:mr (.int es.length::ps)=some q):
  xMap mr (xaC (xLen (xFld (λb=> .lst b.rows) 0)) fa) [bkB A pl co sp es dn] ρ=some (.ok q,[bkB A pl co sp es dn]):=by
 unfold xMap xaC
 rw [e_len h0]
 show (Option.bind (Option.map _ (fa _ _)) _)=_
 rw [ha]
 show Option.map _ (mr (.int es.length::ps))=_
 rw [hm]
 rfl
variable (hz:es.length<=500) (hp:PutsOk [[]] (keptE es dn))
include hz hp
theorem e_Claim {d c a b w:Int}:m_BookClaim [bkB A pl co sp es dn] [.ob A.b,.int d,.int c,.int a,.int b,.int w]=some (deed A pl co sp es dn d (.claim ⟨c,a,b,w⟩)):=by
 unfold m_BookClaim g_BookClaim
 rw [mkMX_ev,if_pos (by rfl)]
 exact e_deed rfl (e_arg rfl rfl rfl) hz hp trivial
theorem e_Carry {d c:Int}:m_BookCarry [bkB A pl co sp es dn] [.ob A.b,.int d,.int c]=some (deed A pl co sp es dn d (.carry c)):=by
 unfold m_BookCarry g_BookCarry
 rw [mkMX_ev,if_pos (by rfl)]
 exact e_deed rfl (e_arg rfl rfl rfl) hz hp trivial
theorem e_Step {d t s m:Int} {k l:Str}:m_BookStep [bkB A pl co sp es dn] [.ob A.b,.int d,.int t,.int s,.str k,.int m,.str l]=some (deed A pl co sp es dn d (.step t s k m l)):=by
 unfold m_BookStep g_BookStep
 rw [mkMX_ev,if_pos (by rfl)]
 exact e_deed rfl (e_arg rfl rfl rfl) hz hp trivial
theorem e_Offer {d t c a:Int}:m_BookOffer [bkB A pl co sp es dn] [.ob A.b,.int d,.int t,.int c,.int a]=some (deed A pl co sp es dn d (.offer t c a)):=by
 unfold m_BookOffer g_BookOffer
 rw [mkMX_ev,if_pos (by rfl)]
 exact e_deed rfl (e_arg rfl rfl rfl) hz hp trivial
theorem e_Rule {d t:Int} {ws:List (Int×Int)} {bk:Bool} (hw:ws.length<=1000):m_BookRule [bkB A pl co sp es dn] [.ob A.b,.int d,.int t,.lst (ws.map winP),.bl bk]=some (deed A pl co sp es dn d (.rule t ws bk)):=by
 unfold m_BookRule g_BookRule
 rw [mkMX_ev,if_pos (by rfl)]
 exact e_deed rfl (e_arg rfl rfl rfl) hz hp hw
theorem e_Pay {d s p c:Int}:m_BookPay [bkB A pl co sp es dn] [.ob A.b,.int d,.int s,.int p,.int c]=some (deed A pl co sp es dn d (.pay s p c)):=by
 unfold m_BookPay g_BookPay
 rw [mkMX_ev,if_pos (by rfl)]
 exact e_deed rfl (e_arg rfl rfl rfl) hz hp trivial
theorem e_Dun {d s:Int}:m_BookDun [bkB A pl co sp es dn] [.ob A.b,.int d,.int s]=some (deed A pl co sp es dn d (.dun s)):=by
 unfold m_BookDun g_BookDun
 rw [mkMX_ev,if_pos (by rfl)]
 exact e_deed rfl (e_arg rfl rfl rfl) hz hp trivial
end
def iP (xs:List Int):List PV:=xs.map PV.int
theorem iaRng1_ev {f:EA} {ρ:Rho} {n:Nat} (h:f ρ=some [.int n]) (hn:n<=100000):iaRng1 f ρ=some ((List.range n).map λi=>PV.int (i:Nat)):=by
 have e: ∀j:Int,iaRng1 f ρ=(f ρ).bind λps=>match ps with
  | [.int j]=>if -(2^62)<=j/\j<2^62 then some (rngP 0 j.toNat) else none
  |_=>none:=λ_=>rfl
 rw [e 0,h,Option.bind_some]
 show (if -(2^62)<=(n:Int)/\(n:Int)<2^62 then some (rngP 0 (n:Int).toNat) else none)=_
 rw [if_pos ⟨by omega,by omega⟩,Int.toNat_natCast]
 unfold rngP
 simp
theorem iP_len {xs:List Int}:(iP xs).length=xs.length:=by unfold iP;rw [List.length_map]
def ScrP (p:PV) (ns:List Int):Prop:=p= .lst (iP ns)\/p= .sc (iP ns)
def cell (ns:List Int) (k:Int):Int:=if ns= [] then 0 else ns.getD (k % (ns.length:Int)).toNat 0+31*(k/(ns.length:Int))
theorem pEq_scr {p:PV} {ns:List Int} (h:ScrP p ns):pEq p (.lst [])=some (.bl (decide (ns= []))):=by
 rcases h with rfl|rfl
 ·cases ns with
  |nil=>rfl
  |cons=>rw [pEq_nil];simp [iP]
 ·cases ns with
  |nil=>rfl
  |cons n ns=>simp [pEq,pEqB,iP]
theorem pLen_scr {p:PV} {ns:List Int} (h:ScrP p ns):pLen [p]=some (.int ns.length):=by
 rcases h with rfl|rfl
 ·rw [pLen_l,iP_len]
 ·rw [pLen_s,iP_len]
theorem ix_scr {p:PV} {ns:List Int} {k:Int} (h:ScrP p ns) (hk:0<=k/\k<ns.length):pIx p (.int k)=some (.int (ns.getD k.toNat 0)):=by
 have e:((k.toNat:Nat):Int)=k:=by omega
 have hl:k.toNat<ns.length:=by omega
 have hs:seqOf p=some (iP ns):=by rcases h with rfl|rfl<;>rfl
 have:=pIx_q (n:=k.toNat) (q:= .int (ns.getD k.toNat 0)) hs (by unfold iP;simp [hl,List.getD])
 rw [e] at this
 rw [this]
 rfl
theorem e_At {p:PV} {ns:List Int} {k:Int} (h:ScrP p ns) (hl:ns.length<=63):m_LAt [p,.int k]=some (.int (cell ns k)):=by
 unfold m_LAt g_LAt
 walk_at "ev"
 rw [pEq_scr h]
 walk_at "ev"
 unfold cell
 by_cases e:ns= []
 ·rw [if_pos e,if_pos e]
 ·have h0:0<(ns.length:Int):=by
   have:=List.length_pos_iff.mpr e
   omega
  have m1:=Int.emod_nonneg k (show (ns.length:Int)≠0 by omega)
  have m2:=Int.emod_lt_of_pos k h0
  rw [if_neg e,if_neg e,pLen_scr h]
  walk_at "ev"
  rw [if_pos h0,ix_scr h ⟨m1,m2⟩]
  walk_at "ev"
  rw [if_pos ⟨h0,by omega⟩,if_pos (.inl (by decide))]
  try walk_at "ev"
theorem e_Int {i:Int}:m_LInt [.int i]=some (.bl true):=rfl
def worthL (c:Int):Int:=if c % 4=0 then 1+c/4 % 9 else if c % 4=1 then 1+c/4 % 1000 else if c % 4=2 then 1+c/4 % 9999999998 else 9999999998
theorem worthL_bd {c:Int}:1<=worthL c/\worthL c<=9999999998:=by unfold worthL;omega
theorem ix4 {a b c d:Int} {k:Int}:pIx (.lst [.int a,.int b,.int c,.int d]) (.int (k % 4))=some (.int (if k % 4=0 then a else if k % 4=1 then b else if k % 4=2 then c else d)):=by
 have h:k % 4=0\/k % 4=1\/k % 4=2\/k % 4=3:=by omega
 rcases h with h|h|h|h<;>rw [h]<;>rfl
theorem e_Worth {c:Int}:m_LWorth [.int c]=some (.int (worthL c)):=by
 unfold m_LWorth g_LWorth
 walk_at "ev"
 rw [ix4]
 rfl
def coinsL (c:Int):Int:=if c % 4=0 then c/4 % 9 else if c % 4=1 then c/4 % 1000 else if c % 4=2 then c/4 % 9999999999 else 9999999999
theorem coinsL_bd {c:Int}:0<=coinsL c/\coinsL c<=9999999999:=by unfold coinsL;omega
theorem e_Coins {c:Int}:m_LCoins [.int c]=some (.int (coinsL c)):=by
 unfold m_LCoins g_LCoins
 walk_at "ev"
 rw [ix4]
 rfl
def esFrom:Nat->List Ro->List En
 |_,[]=> []
 |k,r::rs=>⟨r,(k:Int)+1,none⟩::esFrom (k+1) rs
def esOf (rows:List Ro):List En:=esFrom 0 rows
theorem esFrom_len: ∀ {rows:List Ro} {k:Nat},(esFrom k rows).length=rows.length
 | [],_=>rfl
 |r::rs,k=>by rw [esFrom,List.length_cons,esFrom_len,List.length_cons]
theorem esOf_len {rows:List Ro}:(esOf rows).length=rows.length:=esFrom_len
theorem esFrom_snoc: ∀ {rows:List Ro} {k:Nat} {r:Ro},esFrom k (rows++ [r])=esFrom k rows++ [⟨r,(k:Int)+rows.length+1,none⟩]
 | [],k,r=>by simp [esFrom]
 |q::rs,k,r=>by
  rw [List.cons_append,esFrom,esFrom_snoc,esFrom,List.cons_append]
  congr 3
  simp only [List.length_cons]
  congr 1
  omega
theorem kept_from: ∀ {rows:List Ro} {k:Nat} {m:Int},(k:Int)+rows.length<=m->keptE (esFrom k rows) m=rows
 | [],_,_,_=>rfl
 |r::rs,k,m,h=>by
  rw [List.length_cons] at h
  have ih:=kept_from (rows:=rs) (k:=k+1) (m:=m) (by omega)
  unfold keptE at ih ⊢
  rw [esFrom,List.filter_cons,if_pos (by
   unfold En.at
   simp
   omega),List.map_cons,ih]
def bookR (A:BkA) (pl co sp:List PV) (rows:List Ro):Bst:=bkB A pl co sp (esOf rows) rows.length
theorem kept_of {rows:List Ro}:keptE (esOf rows) rows.length=rows:=kept_from (by omega)
theorem wrote_of {rows:List Ro} {r:Ro}:wrote (esOf rows) rows.length r=esOf (rows++ [r]):=by
 unfold wrote esOf
 rw [esFrom_snoc]
 simp
section
variable {A:BkA} {pl co sp:List PV} {rows:List Ro} {d:Int} {x:De}
theorem deed_ok (h:refuse (roundsT rows) rows.getLast? rows.length ⟨rows.length,d,x⟩=none):deed A pl co sp (esOf rows) rows.length d x=(.ok (.int rows.length),[bookR A pl co sp (rows++ [⟨rows.length,d,x⟩])]):=by
 unfold deed
 rw [kept_of,esOf_len,h]
 show (_,_)=_
 rw [wrote_of]
 unfold bookR
 rw [List.length_append]
 rfl
theorem kept_puts (h:Acc rows):PutsOk [[]] (keptE (esOf rows) rows.length):=by rw [kept_of];exact h.puts.1
theorem es_le (h:Acc rows):(esOf rows).length<=500:=by rw [esOf_len];have:=h.puts.2;omega
theorem acc_snoc (h:Acc rows) (hd:DeOk x) (hr:refuse (roundsT rows) rows.getLast? rows.length ⟨rows.length,d,x⟩=none):Acc (rows++ [⟨rows.length,d,x⟩]):= .snoc h hd hr (by omega)
end
def Day (l:Option Ro) (d:Int):Prop:= ∀q,l=some q->q.d<=d
theorem late_no {l:Option Ro} {r:Ro} (h:Day l r.d):late l r=false:=by
 cases l with
 |none=>rfl
 |some q=>exact decide_eq_false (by have:=h q rfl;omega)
theorem refuse_of {pss:Rds} {l:Option Ro} {n:Int} {r:Ro} (h1:n<300) (h2:lacks pss r.x=false) (h3:meets pss r.x=false) (h4:Day l r.d) (h5:twice pss r.x=false) (h6:much pss r.x=false):refuse pss l n r=none:=by
 unfold refuse
 rw [if_neg (by omega),h2,h3,late_no h4,h5,h6]
 simp
section
variable {A:BkA} {pl co sp:List PV} {rows:List Ro} (hA:Acc rows)
include hA
theorem b_Claim {d c a b w:Int} (h:refuse (roundsT rows) rows.getLast? rows.length ⟨rows.length,d,.claim ⟨c,a,b,w⟩⟩=none):m_BookClaim [bookR A pl co sp rows] [.ob A.b,.int d,.int c,.int a,.int b,.int w]=some (.ok (.int rows.length),[bookR A pl co sp (rows++ [⟨rows.length,d,.claim ⟨c,a,b,w⟩⟩])]):=by
 unfold bookR
 rw [e_Claim (es_le hA) (kept_puts hA),deed_ok h];rfl
theorem b_Carry {d c:Int} (h:refuse (roundsT rows) rows.getLast? rows.length ⟨rows.length,d,.carry c⟩=none):m_BookCarry [bookR A pl co sp rows] [.ob A.b,.int d,.int c]=some (.ok (.int rows.length),[bookR A pl co sp (rows++ [⟨rows.length,d,.carry c⟩])]):=by
 unfold bookR
 rw [e_Carry (es_le hA) (kept_puts hA),deed_ok h];rfl
theorem b_Step {d t s m:Int} {k z:Str} (h:refuse (roundsT rows) rows.getLast? rows.length ⟨rows.length,d,.step t s k m z⟩=none):m_BookStep [bookR A pl co sp rows] [.ob A.b,.int d,.int t,.int s,.str k,.int m,.str z]=some (.ok (.int rows.length),[bookR A pl co sp (rows++ [⟨rows.length,d,.step t s k m z⟩])]):=by
 unfold bookR
 rw [e_Step (es_le hA) (kept_puts hA),deed_ok h];rfl
theorem b_Offer {d t c a:Int} (h:refuse (roundsT rows) rows.getLast? rows.length ⟨rows.length,d,.offer t c a⟩=none):m_BookOffer [bookR A pl co sp rows] [.ob A.b,.int d,.int t,.int c,.int a]=some (.ok (.int rows.length),[bookR A pl co sp (rows++ [⟨rows.length,d,.offer t c a⟩])]):=by
 unfold bookR
 rw [e_Offer (es_le hA) (kept_puts hA),deed_ok h];rfl
theorem b_Rule {d t:Int} {ws:List (Int×Int)} {bk:Bool} (hw:ws.length<=1000) (h:refuse (roundsT rows) rows.getLast? rows.length ⟨rows.length,d,.rule t ws bk⟩=none):m_BookRule [bookR A pl co sp rows] [.ob A.b,.int d,.int t,.lst (ws.map winP),.bl bk]=some (.ok (.int rows.length),[bookR A pl co sp (rows++ [⟨rows.length,d,.rule t ws bk⟩])]):=by
 unfold bookR
 rw [e_Rule (es_le hA) (kept_puts hA) hw,deed_ok h];rfl
end
section
variable {f g:SX} {W W' W2:Wd} {ρ ρ':Rho} {x:XF} {p:PV} {fl:FlX}
theorem sx1 (h:f W ρ=some (.nx ρ' W')):sxSeq f g W ρ=g W' ρ':=by unfold sxSeq;rw [h];rfl
theorem sxR (h:f W ρ=some (.rt p W')):sxSeq f g W ρ=some (.rt p W'):=by unfold sxSeq;rw [h];rfl
theorem sx_l {s:SF} (h:s ρ=some (.nx ρ')):sxL s W ρ=some (.nx ρ' W):=by unfold sxL;rw [h];rfl
theorem sx_rt {s:SF} (h:s ρ=some (.rt p)):sxL s W ρ=some (.rt p W):=by unfold sxL;rw [h];rfl
theorem sx_asg {i:Nat} (h:x W ρ=some (.ok p,W')):sxAsg i x W ρ=some (.nx (ρ.set i (some (.f p))) W'):=by unfold sxAsg;rw [h];rfl
theorem sx_ifT {c:ET} {f g:SX} (h:c ρ=some true):sxIf c f g W ρ=f W ρ:=by unfold sxIf;rw [h];rfl
theorem sx_ifF {c:ET} {f g:SX} (h:c ρ=some false):sxIf c f g W ρ=g W ρ:=by unfold sxIf;rw [h];rfl
theorem s_app {i:Nat} {xs:List PV} {e:EF} (hi:ρ[i]? =some (some (.m (.lst xs)))) (h:e ρ=some p) (hz:xs.length<=100000):sApp i e ρ=some (.nx (ρ.set i (some (.m (.lst (xs++ [p])))))):=by
 unfold sApp
 rw [hi]
 show (Option.bind (e ρ) _)=_
 rw [h,Option.bind_some,if_pos (szL' hz)]
theorem x_mt {m:Wd->List PV->Option (EX×Wd)} {dps ps:List PV} {o:EF} {fa:XA} {b:Bst} (h0:o ρ=some (.ob b.A.b)) (hf:fa [b] ρ=some (.ok ps,[b])):xMt m dps o fa [b] ρ=m [b] (.ob b.A.b::(ps++dps)):=by
 unfold xMt
 rw [h0,Option.bind_some]
 show (if ([b].any λs=>s.A.b==b.A.b)=true then _ else _)=_
 rw [if_pos any_1,hf]
 rfl
theorem xa_l {fa:EA} {ps:List PV} (h:fa ρ=some ps):xaL fa W ρ=some (.ok ps,W):=by unfold xaL;rw [h];rfl
theorem xa_c {fx:XF} {fa:XA} {ps:List PV} (h1:fx W ρ=some (.ok p,W')) (h2:fa W' ρ=some (.ok ps,W2)):xaC fx fa W ρ=some (.ok (p::ps),W2):=by
 unfold xaC
 rw [h1]
 show Option.map _ (fa W' ρ)=_
 rw [h2]
 rfl
theorem xa_n:xaN W ρ=some (.ok [],W):=rfl
theorem x_l {e:EF} (h:e ρ=some p):xL e W ρ=some (.ok p,W):=by unfold xL;rw [h];rfl
theorem x_map {o:List PV->Option PV} {fa:XA} {ps:List PV} (h:fa W ρ=some (.ok ps,W')) (ho:o ps=some p):xMap o fa W ρ=some (.ok p,W'):=by
 unfold xMap
 rw [h]
 show Option.map _ (o ps)=_
 rw [ho]
 rfl
end
section
variable {α:Type} {gg:FG} {body:SX} {enc:α->PV}
theorem loopX_pre {xs:List α} (st:List α->Rho->Wd->Prop): ∀(rest done:List α) (ρ:Rho) (W:Wd),xs=done++rest->st done ρ W->(∀done x rest ρ W,xs=done++x::rest->st done ρ W-> ∃ρ1 ρ2 W2,gg (enc x) ρ=some ρ1/\body W ρ1=some (.nx ρ2 W2)/\st (done++ [x]) ρ2 W2)-> ∃ρ' W',loopX gg body (rest.map enc) W ρ=some (.nx ρ' W')/\st xs ρ' W'
 | [],done,ρ,W,e,h,_=>⟨ρ,W,rfl,by rw [e,List.append_nil];exact h⟩
 |x::rest,done,ρ,W,e,h,k=>by
  obtain ⟨ρ1,ρ2,W2,e1,e2,h2⟩:=k done x rest ρ W e h
  obtain ⟨ρ',W',e3,h3⟩:=loopX_pre st rest (done++ [x]) ρ2 W2 (by rw [e,List.append_assoc];rfl) h2 k
  refine ⟨ρ',W',?_,h3⟩
  rw [List.map_cons,loopX,e1]
  show (body W ρ1).bind _=_
  rw [e2]
  exact e3
end
theorem sx_for {gg:FG} {body:SX} {W W':Wd} {ρ ρ':Rho} {it:EA} {xs:List PV} (hi:it ρ=some xs) (h:loopX gg body xs W ρ=some (.nx ρ' W')):sxFor it gg body W ρ=some (.nx ρ' W'):=by
 unfold sxFor
 rw [hi]
 exact h
theorem range_at {n x:Nat} {done rest:List Nat} (e:List.range n=done++x::rest):x=done.length/\x<n:=by
 have h:=congrArg (λl=>l[done.length]?) e
 simp only [List.getElem?_append_right (Nat.le_refl _),Nat.sub_self,List.getElem?_cons_zero] at h
 have hl:=congrArg List.length e
 simp only [List.length_range,List.length_append,List.length_cons] at hl
 rw [List.getElem?_range (by omega)] at h
 cases h
 exact ⟨rfl,by omega⟩
theorem loopR {g:FG} {body:SF} {n:Nat} (st:Nat->Rho->Prop) {ρ:Rho} (h0:st 0 ρ) (step: ∀k ρ,k<n->st k ρ-> ∃ρ1 ρ2,g (.int (k:Nat)) ρ=some ρ1/\body ρ1=some (.nx ρ2)/\st (k+1) ρ2):
  ∃ρ',loopM g body ((List.range n).map λi=>PV.int (i:Nat)) ρ=some (.nx ρ')/\st n ρ':=by
 obtain ⟨ρ',h1,h2⟩:=loop_pre' (g:=g) (body:=body) (enc:=λi:Nat=>PV.int (i:Int)) (xs:=List.range n) (λdone ρ=>st done.length ρ) (List.range n) [] ρ rfl h0 (by
  intro done x rest ρ e h
  obtain ⟨hx,hn⟩:=range_at e
  obtain ⟨ρ1,ρ2,a,b,c⟩:=step done.length ρ (hx ▸ hn) h
  exact ⟨ρ1,ρ2,by rw [hx];exact a,b,by rw [List.length_append];exact c⟩)
 rw [List.length_range] at h2
 exact ⟨ρ',h1,h2⟩
theorem sq1 {f g:SF} {ρ ρ':Rho} (h:f ρ=some (.nx ρ')):sSeq f g ρ=g ρ':=by unfold sSeq;rw [h];rfl
theorem sfor1 {it:EA} {g:FG} {body:SF} {ρ ρ':Rho} {xs:List PV} (hi:it ρ=some xs) (h:loopM g body xs ρ=some (.nx ρ')):sFor it g body ρ=some (.nx ρ'):=by
 unfold sFor
 rw [hi]
 exact h
theorem rngS {α:Type} {f:Nat->α} {k:Nat}:(List.range (k+1)).map f=(List.range k).map f++ [f k]:=by rw [List.range_succ,List.map_append];rfl
def itd (d:Int):Nat->Int->Int
 |0,c=>c
 |k+1,c=>itd d k c/d
def sidesT (n:Nat) (b:Int):List Int:=(List.range n).map λi=>1+itd 6 i b % 6
theorem e_Sides {a b:Int}:m_LSides [.int a,.int b]=some (.lst (iP (sidesT (2+a % 7).toNat b))):=by
 unfold m_LSides g_LSides
 rw [mkM_ev,if_pos (show ([PV.int a,PV.int b]:List PV).length=2 from rfl)]
 obtain ⟨ρ',h1,e3,h2⟩:=loopR (g:=tgN 3) (body:=sSeq (sApp 2 (eOp pAdd (eC (.int 1)) (eOp pMod (eV 1) (eC (.int 6))))) (sAsg 1 (eOp pDiv (eV 1) (eC (.int 6))))) (n:=(2+a % 7).toNat) (λk ρ=> ∃e3,ρ= [some (.f (.int a)),some (.f (.int (itd 6 k b))),some (.m (.lst (iP (sidesT k b)))),e3]) (ρ:= [some (.f (.int a)),some (.f (.int b)),some (.m (.lst [])),none]) ⟨none,rfl⟩ (by
  rintro k ρ hk ⟨e3,rfl⟩
  refine ⟨_,_,rfl,?_,some (.f (.int k)),rfl⟩
  refine (sq1 (s_app (p:= .int (1+itd 6 k b % 6)) rfl ?_ ?_)).trans ?_
  ·walk_at "ev"
  ·unfold sidesT iP;rw [List.length_map,List.length_map,List.length_range];omega
  ·show sAsg _ _ [some (.f (.int a)),some (.f (.int (itd 6 k b))),some (.m (.lst (iP (sidesT k b)++ [.int (1+itd 6 k b % 6)]))),some (.f (.int k))]=_
   have e:iP (sidesT (k+1) b)=iP (sidesT k b)++ [.int (1+itd 6 k b % 6)]:=by
    unfold sidesT iP;rw [rngS,List.map_append];rfl
   rw [e]
   walk_at "ev"
   try rfl)
 refine (congrArg (λz=>Option.bind z Fin1) ((sq1 (ρ':= [some (.f (.int a)),some (.f (.int b)),some (.m (.lst [])),none]) rfl).trans ((sq1 (sfor1 (iaRng1_ev (n:=(2+a % 7).toNat) ?_ (by omega)) h1)).trans rfl))).trans ?_
 ·walk_at "ev"
  rw [show ((2+a % 7).toNat:Int)=2+a % 7 by omega]
  try rfl
 ·rw [h2];rfl
def sel3 (k a b c:Int):Int:=if k % 3=0 then a else if k % 3=1 then b else c
theorem ix3s {a b c:Int} {k:Int}:pIx (.lst [.int a,.int b,.int c]) (.int (k % 3))=some (.int (sel3 k a b c)):=by
 unfold sel3
 have h:k % 3=0\/k % 3=1\/k % 3=2:=by omega
 rcases h with h|h|h<;>rw [h]<;>rfl
def clT (many c x:Int):Cl:=⟨c % sel3 x 20 4 4,c/20 % many,(c/20 % many+1+c/160 % (many - 1)) % many,worthL (x/3)⟩
theorem e_Claim0 {c x many:Int} (hm:2<=many/\many<=8):m_LClaim [.int c,.int x,.int many]=some (.tup [.str "claim",(clT many c x).pv]):=by
 have h1:0<many:=by omega
 have h2:0<many - 1:=by omega
 have h3:0<sel3 x 20 4 4:=by unfold sel3;split;decide;split<;>decide
 unfold m_LClaim g_LClaim
 walk_at "ev"
 simp only [h1,h2,if_true]
 try walk_at "ev"
 rw [ix3s]
 walk_at "ev"
 simp only [h3,if_true]
 try walk_at "ev"
 rw [e_Worth]
 try walk_at "ev"
 rfl
section
variable (ns:List Int) (many:Int)
def qN:Nat:=if cell ns 2/4 % 9=8 then 20 else (1+cell ns 2 % 4).toNat
def qCell (k:Nat):Int:=cell ns (3+(k:Int) % 4)+(k:Int)/4*77
def qCl (k:Nat):Cl:= {clT many (qCell ns k) (qCell ns k/7) with n:=(cell ns 2/36+3*(k:Int)) % 20}
def qCls:List Cl:=(List.range (qN ns)).map (qCl ns many)
end
theorem qN_bd {ns:List Int}:1<=qN ns/\qN ns<=20:=by unfold qN;split<;>omega
theorem e_Claims {p:PV} {ns:List Int} {many:Int} (hs:ScrP p ns) (hl:ns.length<=63) (hm:2<=many/\many<=8):m_LQuarrelClaims [p,.int many]=some (.lst ((qCls ns many).map Cl.pv)):=by
 unfold m_LQuarrelClaims g_LQuarrelClaims
 rw [mkM_ev,if_pos (show ([p,PV.int many]:List PV).length=2 from rfl)]
 have hq:=qN_bd (ns:=ns)
 obtain ⟨ρ',h1,e4,e5,e6,e7,h2⟩:=loopR (g:=tgN 4) (body:=(sSeq (sAsg 5 (eOp pAdd (eCl m_LAt (aC (eW 0) (aC (eOp pAdd (eC (.int 3)) (eOp pMod (eV 4) (eC (.int 4)))) aN))) (eOp pMulI (eOp pDiv (eV 4) (eC (.int 4))) (eC (.int 77)))))
  (sSeq (sAsgG (eCl m_LClaim (aC (eW 5) (aC (eOp pDiv (eV 5) (eC (.int 7))) (aC (eW 1) aN)))) (tgT 2 (tgCons (tgN 6) (tgCons (tgN 7) tgNil))))
  (sApp 2 (eOp pAdd (eTup (aC (eOp pMod (eOp pAdd (eOp pDiv (eV 3) (eC (.int 36))) (eOp pMulI (eC (.int 3)) (eV 4))) (eC (.int 20))) aN)) (eSl pSlT (eV 7) (ePart (eC (.int 1))) eNoPart)))))) (n:=qN ns) (λk ρ=> ∃e4 e5 e6 e7,ρ= [some (.f p),some (.f (.int many)),some (.m (.lst (((List.range k).map (qCl ns many)).map Cl.pv))),some (.f (.int (cell ns 2))),e4,e5,e6,e7]) (ρ:= [some (.f p),some (.f (.int many)),some (.m (.lst [])),some (.f (.int (cell ns 2))),none,none,none,none]) ⟨none,none,none,none,rfl⟩ (by
  rintro k ρ hk ⟨e4,e5,e6,e7,rfl⟩
  refine ⟨_,_,rfl,?_,some (.f (.int k)),some (.f (.int (qCell ns k))),some (.f (.str "claim")),some (.f (clT many (qCell ns k) (qCell ns k/7)).pv),rfl⟩
  refine (sq1 (ρ':= [some (.f p),some (.f (.int many)),some (.m (.lst (((List.range k).map (qCl ns many)).map Cl.pv))),some (.f (.int (cell ns 2))),some (.f (.int k)),some (.f (.int (qCell ns k))),e6,e7]) ?_).trans ?_
  ·show sAsg _ _ [some (.f p),some (.f (.int many)),some (.m (.lst (((List.range k).map (qCl ns many)).map Cl.pv))),some (.f (.int (cell ns 2))),some (.f (.int k)),e5,e6,e7]=_
   walk_at "ev"
   rw [e_At hs hl]
   walk_at "ev"
   rw [if_pos (.inr (by decide))]
   try walk_at "ev"
   try rfl
  refine (sq1 (ρ':= [some (.f p),some (.f (.int many)),some (.m (.lst (((List.range k).map (qCl ns many)).map Cl.pv))),some (.f (.int (cell ns 2))),some (.f (.int k)),some (.f (.int (qCell ns k))),some (.f (.str "claim")),some (.f (clT many (qCell ns k) (qCell ns k/7)).pv)]) ?_).trans ?_
  ·walk_at "ev"
   rw [e_Claim0 hm]
   try walk_at "ev"
   try rfl
  rw [rngS,List.map_append]
  refine (s_app (p:=(qCl ns many k).pv) rfl ?_ (by simp only [List.length_map,List.length_range];omega)).trans rfl
  unfold Cl.pv
  walk_at "ev"
  rw [if_pos (.inl (by decide))]
  try walk_at "ev"
  rfl)
 refine (congrArg (λz=>Option.bind z Fin1) ((sq1 (ρ':= [some (.f p),some (.f (.int many)),some (.m (.lst [])),none,none,none,none,none]) rfl).trans ((sq1 (ρ':= [some (.f p),some (.f (.int many)),some (.m (.lst [])),some (.f (.int (cell ns 2))),none,none,none,none]) ?_).trans ((sq1 (sfor1 (iaRng1_ev (n:=qN ns) ?_ (by omega)) h1)).trans rfl)))).trans ?_
 ·walk_at "ev"
  rw [e_At hs hl]
  try walk_at "ev"
  try rfl
 ·walk_at "ev"
  unfold qN
  by_cases e:cell ns 2/4 % 9=8
  ·simp only [e,decide_true,if_true]
   rfl
  ·simp only [e,decide_false,if_false]
   show ((some (PV.int (1+cell ns 2 % 4))).map λx=> [x])=some [PV.int (((1+cell ns 2 % 4).toNat:Nat):Int)]
   rw [show (((1+cell ns 2 % 4).toNat:Nat):Int)=1+cell ns 2 % 4 by omega]
   rfl
 ·rw [h2];rfl
def c0:Cl:=⟨0,0,0,0⟩
def pk (c:Int) (k:Nat):Int:=(itd 8 k c+3*(k:Int)) % 8
def wonQ (w p:Int):Int:=w*(if p<4 then p else 4)/4 - (if p=5 then 1 else 0)
def winQ (c:Int) (cs:List Cl) (k:Nat):Option (Int×Int):=if pk c k<6 then some ((cs.getD k c0).n,wonQ (cs.getD k c0).w (pk c k)) else none
def winsQ (c:Int) (cs:List Cl):List (Int×Int):=(List.range cs.length).filterMap (winQ c cs)
theorem cl_ix {cs:List Cl} {k:Nat} (h:k<cs.length):pIx (.lst (cs.map Cl.pv)) (.int (k:Nat))=some (cs.getD k c0).pv:=by
 rw [pIx_q (ps:=cs.map Cl.pv) (q:=(cs.getD k c0).pv) rfl]
 ·rfl
 ·rw [List.getElem?_map,List.getElem?_eq_getElem h,List.getD_eq_getElem?_getD,List.getElem?_eq_getElem h];rfl
theorem rngF {α:Type} {f:Nat->Option α} {k:Nat}:(List.range (k+1)).filterMap f=(List.range k).filterMap f++(f k).toList:=by
 rw [List.range_succ,List.filterMap_append]
 cases h:f k with
 |none=>rw [List.filterMap_cons_none h];rfl
 |some a=>rw [List.filterMap_cons_some h];rfl
theorem e_Wins {c:Int} {cs:List Cl} (hz:cs.length<=100):m_LWins [.int c,.lst (cs.map Cl.pv)]=some (.lst ((winsQ c cs).map winP)):=by
 unfold m_LWins g_LWins
 rw [mkM_ev,if_pos (show ([PV.int c,PV.lst (cs.map Cl.pv)]:List PV).length=2 from rfl)]
 obtain ⟨ρ',h1,e3,e4,h2⟩:=loopR (g:=tgN 3) (body:=(sSeq (sAsg 4 (eOp pMod (eOp pAdd (eV 0) (eOp pMulI (eC (.int 3)) (eV 3))) (eC (.int 8))))
  (sSeq (sIf (asB (eOp pLt (eV 4) (eC (.int 6)))) (sApp 2 (eTup (aC (eOp pIx (eOp pIx (eV 1) (eV 3)) (eC (.int 0))) (aC (eOp pSub (eOp pDiv (eOp pMulI (eOp pIx (eOp pIx (eV 1) (eV 3)) (eC (.int 3))) (eCl pMin (aC (eC (.int 4)) (aC (eV 4) aN)))) (eC (.int 4))) (eCl pInt (aC (eOp pEq (eV 4) (eC (.int 5))) aN))) aN)))) sNil)
  (sAsg 0 (eOp pDiv (eV 0) (eC (.int 8))))))) (n:=cs.length) (λk ρ=> ∃e3 e4,ρ= [some (.f (.int (itd 8 k c))),some (.f (.lst (cs.map Cl.pv))),some (.m (.lst (((List.range k).filterMap (winQ c cs)).map winP))),e3,e4]) (ρ:= [some (.f (.int c)),some (.f (.lst (cs.map Cl.pv))),some (.m (.lst [])),none,none]) ⟨none,none,rfl⟩ (by
  rintro k ρ hk ⟨e3,e4,rfl⟩
  refine ⟨_,_,rfl,?_,some (.f (.int k)),some (.f (.int (pk c k))),rfl⟩
  refine (sq1 (ρ':= [some (.f (.int (itd 8 k c))),some (.f (.lst (cs.map Cl.pv))),some (.m (.lst (((List.range k).filterMap (winQ c cs)).map winP))),some (.f (.int k)),some (.f (.int (pk c k)))]) ?_).trans ?_
  ·show sAsg _ _ [some (.f (.int (itd 8 k c))),some (.f (.lst (cs.map Cl.pv))),some (.m (.lst (((List.range k).filterMap (winQ c cs)).map winP))),some (.f (.int k)),e4]=_
   walk_at "ev"
   rw [if_pos (.inl (by decide))]
   try walk_at "ev"
   try rfl
  refine (sq1 (ρ':= [some (.f (.int (itd 8 k c))),some (.f (.lst (cs.map Cl.pv))),some (.m (.lst (((List.range (k+1)).filterMap (winQ c cs)).map winP))),some (.f (.int k)),some (.f (.int (pk c k)))]) ?_).trans rfl
  have hp:0<=pk c k/\pk c k<8:=by unfold pk;omega
  rw [rngF,List.map_append]
  have app: ∀ {ρ:Rho} {p:PV},ρ[2]? =some (some (.m (.lst (((List.range k).filterMap (winQ c cs)).map winP))))->(eTup (aC (eOp pIx (eOp pIx (eV 1) (eV 3)) (eC (.int 0))) (aC (eOp pSub (eOp pDiv (eOp pMulI (eOp pIx (eOp pIx (eV 1) (eV 3)) (eC (.int 3))) (eCl pMin (aC (eC (.int 4)) (aC (eV 4) aN)))) (eC (.int 4))) (eCl pInt (aC (eOp pEq (eV 4) (eC (.int 5))) aN))) aN))) ρ=some p->sApp 2 (eTup (aC (eOp pIx (eOp pIx (eV 1) (eV 3)) (eC (.int 0))) (aC (eOp pSub (eOp pDiv (eOp pMulI (eOp pIx (eOp pIx (eV 1) (eV 3)) (eC (.int 3))) (eCl pMin (aC (eC (.int 4)) (aC (eV 4) aN)))) (eC (.int 4))) (eCl pInt (aC (eOp pEq (eV 4) (eC (.int 5))) aN))) aN))) ρ=some (.nx (ρ.set 2 (some (.m (.lst (((List.range k).filterMap (winQ c cs)).map winP++ [p])))))):=λh1 h2=>s_app h1 h2 (by
   have:=List.length_filterMap_le (winQ c cs) (List.range k)
   rw [List.length_range] at this
   rw [List.length_map];omega)
  generalize sApp 2 (eTup (aC (eOp pIx (eOp pIx (eV 1) (eV 3)) (eC (.int 0))) (aC (eOp pSub (eOp pDiv (eOp pMulI (eOp pIx (eOp pIx (eV 1) (eV 3)) (eC (.int 3))) (eCl pMin (aC (eC (.int 4)) (aC (eV 4) aN)))) (eC (.int 4))) (eCl pInt (aC (eOp pEq (eV 4) (eC (.int 5))) aN))) aN)))=S at app ⊢
  walk_at "ev"
  by_cases h6:pk c k<6
  ·have hw:winQ c cs k=some ((cs.getD k c0).n,wonQ (cs.getD k c0).w (pk c k)):=if_pos h6
   rw [hw]
   simp only [h6,decide_true,if_true]
   refine (app (p:=winP ((cs.getD k c0).n,wonQ (cs.getD k c0).w (pk c k))) rfl ?_).trans rfl
   walk_at "ev"
   rw [cl_ix hk]
   walk_at "ev"
   rw [if_pos (.inr (by split<;>omega))]
   try walk_at "ev"
   unfold winP wonQ
   by_cases h5:pk c k=5
   ·simp only [h5,decide_true,if_true]
   ·simp only [h5,decide_false,if_false]
    try rfl
  ·have hw:winQ c cs k=none:=if_neg h6
   rw [hw]
   simp only [h6,decide_false,if_false]
   rw [show (Option.toList (none:Option (Int×Int))).map winP= [] from rfl,List.append_nil])
 refine (congrArg (λz=>Option.bind z Fin1) ((sq1 (ρ':= [some (.f (.int c)),some (.f (.lst (cs.map Cl.pv))),some (.m (.lst [])),none,none]) rfl).trans ((sq1 (sfor1 (iaRng1_ev (n:=cs.length) ?_ (by omega)) h1)).trans rfl))).trans ?_
 ·walk_at "ev"
 ·rw [h2];rfl
def ldQ (x:Int):Str:=if x % 5=3 then "late" else if x % 5=4 then "much" else "none"
theorem ix5 {x:Int}:pIx (.lst [.str "none",.str "none",.str "none",.str "late",.str "much"]) (.int (x % 5))=some (.str (ldQ x)):=by
 unfold ldQ
 have h:x % 5=0\/x % 5=1\/x % 5=2\/x % 5=3\/x % 5=4:=by omega
 rcases h with h|h|h|h|h<;>rw [h]<;>rfl
def kdQ (c:Int):Str:=if c/8 % 6=0 then "filing" else if c/8 % 6=1 then "hearing" else if c/8 % 6=2 then "plea" else if c/8 % 6=3 then "speech" else if c/8 % 6=4 then "witness" else "paper"
def sel4Q (k a b c d:Int):Int:=if k % 4=0 then a else if k % 4=1 then b else if k % 4=2 then c else d
theorem ix4q {a b c d:Int} {k:Int}:pIx (.lst [.int a,.int b,.int c,.int d]) (.int (k % 4))=some (.int (sel4Q k a b c d)):=ix4
theorem ix6q {c:Int}:pIx (.lst [.str "filing",.str "hearing",.str "plea",.str "speech",.str "witness",.str "paper"]) (.int (c/8 % 6))=some (.str (kdQ c)):=by
 unfold kdQ
 have h:c/8 % 6=0\/c/8 % 6=1\/c/8 % 6=2\/c/8 % 6=3\/c/8 % 6=4\/c/8 % 6=5:=by omega
 rcases h with h|h|h|h|h|h<;>rw [h]<;>rfl
def mdQ (c x:Int):Int:=if kdQ c= "paper" then sel4Q (c/48) 49 50 51 (x/5 % 10000000) else if kdQ c= "witness" then coinsL (x/5) else sel4Q (c/48) 1 1 (x/5 % 100) 3
theorem mdQ_bd {c x:Int}:0<=mdQ c x/\mdQ c x<=10000000000:=by
 have:=coinsL_bd (c:=x/5)
 unfold mdQ sel4Q
 split
 ·split;omega;split;omega;split<;>omega
 split
 ·omega
 ·split;omega;split;omega;split<;>omega
theorem e_StepQ {c x t:Int} {xs:List PV} (hm:0<xs.length):m_LStep [.int c,.int x,.int t,.lst xs]=some (.tup [.str "step",.tup [.int t,.int (c % (xs.length:Int)),.str (kdQ c),.int (mdQ c x),.str (ldQ x)]]):=by
 unfold m_LStep g_LStep
 walk_at "ev"
 rw [ix6q]
 walk_at "ev"
 rw [ix5]
 walk_at "ev"
 rw [ix4q]
 walk_at "ev"
 have hp:(0:Int)<xs.length:=by omega
 by_cases p:kdQ c= "paper"
 ·have w: ¬kdQ c= "witness" :=λe=>by rw [e] at p;exact absurd p (by decide)
  simp only [w,p,decide_true,decide_false,if_true,if_false]
  try walk_at "ev"
  unfold mdQ
  rw [if_pos p,ix4q]
  try walk_at "ev"
  rw [if_pos hp]
 ·by_cases w:kdQ c= "witness"
  ·simp only [w,p,decide_true,decide_false,if_true,if_false]
   try walk_at "ev"
   unfold mdQ
   rw [if_neg p,if_pos w,e_Coins]
   try walk_at "ev"
   rw [if_pos hp]
  ·simp only [w,p,decide_true,decide_false,if_true,if_false]
   try walk_at "ev"
   unfold mdQ
   rw [if_neg p,if_neg w,if_pos hp]
def toldP:De->PV
 | .claim c=>c.pv
 | .carry n=> .tup [.int n]
 | .step t s k m l=> .tup [.int t,.int s,.str k,.int m,.str l]
 | .offer t c a=> .tup [.int t,.int c,.int a]
 | .rule t ws bk=> .tup [.int t,.tpf (ws.map winP),.bl bk]
 | .pay s p c=> .tup [.int s,.int p,.int c]
 | .dun s=> .tup [.int s]
def triP (x:Int×De):PV:= .tup [.str (wordOf x.2),.int x.1,toldP x.2]
def lrP (r:Ro):PV:= .tup [.int r.n,.str (wordOf r.x),.int r.d,toldP r.x]
def amtQ (w x:Int):Int:=if sel3 (x/5) (w*(x % 5)/4) (if w/2 - 1>0 then w/2 - 1 else 0) (w/2+1)<w then sel3 (x/5) (w*(x % 5)/4) (if w/2 - 1>0 then w/2 - 1 else 0) (w/2+1) else w
def oneQ (c:Int) (cs:List Cl):Cl:=cs.getD (c/4 % (cs.length:Int)).toNat c0
def deedQ (many c x t:Int) (cs:List Cl):De:=if c % 4<3 then .step t (c/4 % many) (kdQ (c/4)) (mdQ (c/4) x) (ldQ x) else .offer t (oneQ c cs).n (amtQ (oneQ c cs).w x)
theorem e_Deed {c x t:Int} {xs:List PV} {cs:List Cl} (hm:0<xs.length) (hc:0<cs.length):m_LQuarrelDeed [.int c,.int x,.int t,.lst xs,.lst (cs.map Cl.pv)]=some (.tup [.str (wordOf (deedQ xs.length c x t cs)),toldP (deedQ xs.length c x t cs)]):=by
 have hi:0<=c/4 % (cs.length:Int)/\c/4 % (cs.length:Int)<cs.length:=⟨Int.emod_nonneg _ (by omega),Int.emod_lt_of_pos _ (by omega)⟩
 have hx:pIx (.lst (cs.map Cl.pv)) (.int (c/4 % (cs.length:Int)))=some (oneQ c cs).pv:=by
  have:=cl_ix (cs:=cs) (k:=(c/4 % (cs.length:Int)).toNat) (by omega)
  rw [show (((c/4 % (cs.length:Int)).toNat:Nat):Int)=c/4 % (cs.length:Int) by omega] at this
  exact this
 unfold m_LQuarrelDeed g_LQuarrelDeed
 by_cases h:c % 4<3
 ·have hd:deedQ xs.length c x t cs= .step t (c/4 % (xs.length:Int)) (kdQ (c/4)) (mdQ (c/4) x) (ldQ x):=if_pos h
  rw [hd]
  walk_at "ev"
  simp only [h,decide_true,if_true]
  try walk_at "ev"
  rw [e_StepQ hm]
  try walk_at "ev"
  try rfl
 ·have hd:deedQ xs.length c x t cs= .offer t (oneQ c cs).n (amtQ (oneQ c cs).w x):=if_neg h
  rw [hd]
  walk_at "ev"
  simp only [h,decide_false,if_false]
  try walk_at "ev"
  rw [if_pos (show (0:Int)<cs.length by omega)]
  try walk_at "ev"
  rw [hx]
  walk_at "ev"
  rw [if_pos (.inr (by omega))]
  try walk_at "ev"
  rw [ix3s]
  try walk_at "ev"
  rfl
abbrev Dd:=Int×De
structure QS where
 cs:List Cl
 ds:List Dd
 dy:Int
def sel5 (x:Int):Int:=if x % 5=0 then 0 else if x % 5=1 then 1 else if x % 5=2 then 5 else if x % 5=3 then 40 else 300
theorem ix5n {x:Int}:pIx (.lst [.int 0,.int 1,.int 5,.int 40,.int 300]) (.int (x % 5))=some (.int (sel5 x)):=by
 unfold sel5
 have h:x % 5=0\/x % 5=1\/x % 5=2\/x % 5=3\/x % 5=4:=by omega
 rcases h with h|h|h|h|h<;>rw [h]<;>rfl
section
variable (ns:List Int) (many:Int)
def keepK (c:Int) (k:Nat):Bool:=decide (k=0)||decide (0<c/3 % ((k:Int)+3))
def keepQ (c:Int) (cs:List Cl):List Cl:=((List.range cs.length).filter (keepK c)).map λk=>cs.getD k c0
def cel (s j:Nat):Int:=cell ns ((j:Int)+9*(s:Int))
def oth (s k:Nat):Int:=cell ns (8+9*(s:Int)+(k:Int))
def fiveD (s:Nat) (dy:Int):Nat->Int
 |0=>dy
 |k+1=>fiveD s dy k+sel5 (oth ns s k)
def fiveQ (s:Nat) (cs:List Cl) (dy:Int) (k:Nat):List Dd:=(List.range k).map λj=>(fiveD ns s dy (j+1),deedQ many (oth ns s j/5) (oth ns s j/60) s cs)
def ruleQ (s:Nat) (cs:List Cl) (dy:Int):Dd:=(dy+cel ns s 13 % 50,.rule s (winsQ (cel ns s 14) cs) (decide (0<cel ns s 7 % 3)))
def carQ (s:Nat) (q:QS):QS:=if 0<s then ⟨keepQ (cel ns s 7) q.cs,q.ds++(keepQ (cel ns s 7) q.cs).map (λc=>(q.dy,.carry c.n)),q.dy⟩ else q
def stageQ (s:Nat) (q:QS):QS:=⟨(carQ ns s q).cs,(carQ ns s q).ds++fiveQ ns many s (carQ ns s q).cs q.dy 5++ [ruleQ ns s (carQ ns s q).cs (fiveD ns s q.dy 5)],fiveD ns s q.dy 5+cel ns s 13 % 50⟩
def allQ:Nat->QS
 |0=>⟨qCls ns many,(qCls ns many).map (λc=>(0,.claim c)),0⟩
 |s+1=>stageQ ns many s (allQ s)
def rowsQ (ds:List Dd):List Ro:=(List.range ds.length).map λk:Nat=>⟨(k:Int),(ds.getD k (0,.dun 0)).1,(ds.getD k (0,.dun 0)).2⟩
end
theorem s_ifT {c:ET} {f g:SF} {ρ:Rho} (h:c ρ=some true):sIf c f g ρ=f ρ:=by unfold sIf;rw [h];rfl
theorem s_ifF {c:ET} {f g:SF} {ρ:Rho} (h:c ρ=some false):sIf c f g ρ=g ρ:=by unfold sIf;rw [h];rfl
abbrev bCar:SF:=sIf (asB (eOp pGt (eV 7) (eC (.int 0)))) (sSeq (sAsg 4 (eComp 1 [4,8] (iaRng1 (aC (eCl pLen (aC (eV 4) aN)) aN)) (tgN 0) (tyOr (asB (eOp pEq (eV 0) (eC (.int 0)))) (asB (eOp pGt (eOp pMod (eOp pDiv (eV 2) (eC (.int 3))) (eOp pAdd (eV 0) (eC (.int 3)))) (eC (.int 0))))) (eOp pIx (eV 1) (eV 0))))
  (sAsgM 5 (eOp pAddL (eV 5) (eComp 1 [6] (iaList (eW 4)) (tgN 0) (λ_=>some true) (eTup (aC (eC (.str "carry")) (aC (eW 1) (aC (eTup (aC (eOp pIx (eV 0) (eC (.int 0))) aN)) aN)))))))) sNil
abbrev b5:SF:=(sSeq (sAsg 10 (eCl m_LAt (aC (eW 0) (aC (eOp pAdd (eOp pAdd (eC (.int 8)) (eOp pMulI (eC (.int 9)) (eV 7))) (eV 9)) aN))))
  (sSeq (sAsg 6 (eOp pAdd (eV 6) (eOp pIx (eLst (aC (eC (.int 0)) (aC (eC (.int 1)) (aC (eC (.int 5)) (aC (eC (.int 40)) (aC (eC (.int 300)) aN)))))) (eOp pMod (eV 10) (eC (.int 5))))))
  (sSeq (sAsgG (eCl m_LQuarrelDeed (aC (eOp pDiv (eV 10) (eC (.int 5))) (aC (eOp pDiv (eV 10) (eC (.int 60))) (aC (eW 7) (aC (eW 1) (aC (eW 4) aN)))))) (tgT 2 (tgCons (tgN 11) (tgCons (tgN 12) tgNil))))
  (sApp 5 (eTup (aC (eW 11) (aC (eW 6) (aC (eW 12) aN))))))))
abbrev bRul:SF:=sIf (asB (eOp pLt (eV 7) (eV 2))) (sSeq (sAsg 6 (eOp pAdd (eV 6) (eOp pMod (eCl m_LAt (aC (eW 0) (aC (eOp pAdd (eC (.int 13)) (eOp pMulI (eC (.int 9)) (eV 7))) aN))) (eC (.int 50)))))
  (sSeq (sAsg 13 (eCl m_LWins (aC (eCl m_LAt (aC (eW 0) (aC (eOp pAdd (eC (.int 14)) (eOp pMulI (eC (.int 9)) (eV 7))) aN))) (aC (eW 4) aN))))
  (sApp 5 (eTup (aC (eC (.str "rule")) (aC (eW 6) (aC (eTup (aC (eW 7) (aC (eCl pTuple (aC (eV 13) aN)) (aC (eOp pGt (eOp pMod (eV 8) (eC (.int 3))) (eC (.int 0))) aN)))) aN))))))) sNil
abbrev bStg:SF:=(sSeq (sAsg 8 (eCl m_LAt (aC (eW 0) (aC (eOp pAdd (eC (.int 7)) (eOp pMulI (eC (.int 9)) (eV 7))) aN))))
  (sSeq bCar
  (sSeq (sFor (iaRng1 (aC (eC (.int 5)) aN)) (tgN 9) b5)
  bRul)))
section
variable {ns:List Int} {p:PV} {xs:List PV} {over:Nat} (hs:ScrP p ns) (hl:ns.length<=63) (hm:0<xs.length)
def Q14 (p:PV) (xs:List PV) (over:Nat) (cs:List Cl) (ds:List Dd) (dy:Int) (e7 e8 e9 e10 e11 e12 e13:Option SV):Rho:= [some (.f p),some (.f (.lst xs)),some (.f (.int over)),some (.f (.bl false)),some (.f (.lst (cs.map Cl.pv))),some (.m (.lst (ds.map triP))),some (.f (.int dy)),e7,e8,e9,e10,e11,e12,e13]
omit hs hl hm in
theorem e_car {s:Nat} {q:QS} {e9 e10 e11 e12 e13:Option SV} (hz:q.cs.length<=100) (hd:q.ds.length<=1000):
  bCar (Q14 p xs over q.cs q.ds q.dy (some (.f (.int s))) (some (.f (.int (cel ns s 7)))) e9 e10 e11 e12 e13)=some (.nx (Q14 p xs over (carQ ns s q).cs (carQ ns s q).ds q.dy (some (.f (.int s))) (some (.f (.int (cel ns s 7)))) e9 e10 e11 e12 e13)):=by
 by_cases h:0<s
 ·have e:carQ ns s q=⟨keepQ (cel ns s 7) q.cs,q.ds++(keepQ (cel ns s 7) q.cs).map (λc=>(q.dy,.carry c.n)),q.dy⟩:=if_pos h
  rw [e]
  refine (s_ifT ?_).trans ?_
  ·unfold Q14
   walk_at "ev"
   rw [decide_eq_true (by omega)]
  refine (sq1 (ρ':=Q14 p xs over (keepQ (cel ns s 7) q.cs) q.ds q.dy (some (.f (.int s))) (some (.f (.int (cel ns s 7)))) e9 e10 e11 e12 e13) ?_).trans ?_
  ·have hc:=eComp_p (k:=1) (js:= [4,8]) (it:=iaRng1 (aC (eCl pLen (aC (eV 4) aN)) aN)) (tg:=tgN 0) (cond:=tyOr (asB (eOp pEq (eV 0) (eC (.int 0)))) (asB (eOp pGt (eOp pMod (eOp pDiv (eV 2) (eC (.int 3))) (eOp pAdd (eV 0) (eC (.int 3)))) (eC (.int 0))))) (elt:=eOp pIx (eV 1) (eV 0)) (ρ:=Q14 p xs over q.cs q.ds q.dy (some (.f (.int s))) (some (.f (.int (cel ns s 7)))) e9 e10 e11 e12 e13) (xs:=List.range q.cs.length) (enc:=λi:Nat=>PV.int (i:Int)) (p:=keepK (cel ns s 7)) (f:=λk=>(q.cs.getD k c0).pv) (iaRng1_ev (n:=q.cs.length) (by unfold Q14;walk_at "ev") (by omega)) (by rw [List.length_range];omega) (by
    intro k hk
    have hk:=List.mem_range.mp hk
    unfold Q14 keepK
    walk_at "ev"
    rw [if_pos (show (0:Int)<(k:Int)+3 by omega),cl_ix hk]
    try walk_at "ev"
    by_cases e0:k=0
    ·subst e0
     simp only [Int.natCast_zero,decide_true,Bool.true_or,if_true]
     try rfl
    ·have e1: ¬((k:Int)=0):=by omega
     simp only [e0,e1,decide_false,Bool.false_or,if_false]
     try walk_at "ev"
     by_cases e2:0<cel ns s 7/3 % ((k:Int)+3)
     ·simp only [e2,decide_true,if_true]
      try rfl
     ·simp only [e2,decide_false,if_false]
      try rfl)
   unfold sAsg
   rw [hc]
   unfold keepQ Q14
   rw [List.map_map]
   rfl
  ·have hk:(keepQ (cel ns s 7) q.cs).length<=100:=by
    unfold keepQ
    rw [List.length_map]
    exact Nat.le_trans (List.length_filter_le ..) (by rw [List.length_range];exact hz)
   have hc:=eComp_a (k:=1) (js:= [6]) (it:=iaList (eW 4)) (tg:=tgN 0) (cond:=λ_=>some true) (elt:=eTup (aC (eC (.str "carry")) (aC (eW 1) (aC (eTup (aC (eOp pIx (eV 0) (eC (.int 0))) aN)) aN)))) (ρ:=Q14 p xs over (keepQ (cel ns s 7) q.cs) q.ds q.dy (some (.f (.int s))) (some (.f (.int (cel ns s 7)))) e9 e10 e11 e12 e13) (xs:=keepQ (cel ns s 7) q.cs) (enc:=Cl.pv) (f:=λc=>triP (q.dy,.carry c.n)) rfl (by omega) (by
    intro c _
    unfold Q14
    walk_at "ev"
    rfl)
   unfold sAsgM
   rw [eOp_ev,hc]
   have hb:pAddL (.lst (q.ds.map triP)) (.lst ((keepQ (cel ns s 7) q.cs).map λc=>triP (q.dy,.carry c.n)))=some (.lst ((q.ds++(keepQ (cel ns s 7) q.cs).map (λc=>(q.dy,De.carry c.n))).map triP)):=by
    rw [List.map_append,List.map_map]
    exact if_pos (szL (by rw [List.length_map,List.length_map];omega))
   show Option.map _ ((some (PV.lst (q.ds.map triP))).bind λp=>(some _).bind λq=>pAddL p q)=_
   rw [Option.bind_some,Option.bind_some,hb]
   rfl
 ·have e:carQ ns s q=q:=if_neg h
  rw [e]
  refine (s_ifF ?_).trans rfl
  unfold Q14
  walk_at "ev"
  rw [decide_eq_false (by omega)]
include hs hl hm
theorem e_five {s:Nat} {cs:List Cl} {ds:List Dd} {dy:Int} {e8 e9 e10 e11 e12 e13:Option SV} (hc:0<cs.length) (hd:ds.length<=1000):
  ∃f9 f10 f11 f12,sFor (iaRng1 (aC (eC (.int 5)) aN)) (tgN 9) b5 (Q14 p xs over cs ds dy (some (.f (.int s))) e8 e9 e10 e11 e12 e13)=some (.nx (Q14 p xs over cs (ds++fiveQ ns xs.length s cs dy 5) (fiveD ns s dy 5) (some (.f (.int s))) e8 f9 f10 f11 f12 e13)):=by
 obtain ⟨ρ',h1,f9,f10,f11,f12,h2⟩:=loopR (g:=tgN 9) (body:=b5) (n:=5) (λk ρ=> ∃f9 f10 f11 f12,ρ=Q14 p xs over cs (ds++fiveQ ns xs.length s cs dy k) (fiveD ns s dy k) (some (.f (.int s))) e8 f9 f10 f11 f12 e13) (ρ:=Q14 p xs over cs ds dy (some (.f (.int s))) e8 e9 e10 e11 e12 e13) ⟨e9,e10,e11,e12,by show _=Q14 p xs over cs (ds++ []) dy _ _ _ _ _ _ _;rw [List.append_nil]⟩ (by
  rintro k ρ hk ⟨f9,f10,f11,f12,rfl⟩
  refine ⟨_,_,rfl,?_,some (.f (.int k)),some (.f (.int (oth ns s k))),some (.f (.str (wordOf (deedQ xs.length (oth ns s k/5) (oth ns s k/60) s cs)))),some (.f (toldP (deedQ xs.length (oth ns s k/5) (oth ns s k/60) s cs))),rfl⟩
  refine (sq1 (ρ':=Q14 p xs over cs (ds++fiveQ ns xs.length s cs dy k) (fiveD ns s dy k) (some (.f (.int s))) e8 (some (.f (.int k))) (some (.f (.int (oth ns s k)))) f11 f12 e13) ?_).trans ?_
  ·show sAsg _ _ (Q14 p xs over cs (ds++fiveQ ns xs.length s cs dy k) (fiveD ns s dy k) (some (.f (.int s))) e8 (some (.f (.int k))) f10 f11 f12 e13)=_
   unfold Q14
   walk_at "ev"
   rw [if_pos (.inl (by decide))]
   try walk_at "ev"
   rw [e_At hs hl]
   try walk_at "ev"
   rfl
  refine (sq1 (ρ':=Q14 p xs over cs (ds++fiveQ ns xs.length s cs dy k) (fiveD ns s dy (k+1)) (some (.f (.int s))) e8 (some (.f (.int k))) (some (.f (.int (oth ns s k)))) f11 f12 e13) ?_).trans ?_
  ·unfold Q14
   walk_at "ev"
   rw [ix5n]
   try walk_at "ev"
   rfl
  refine (sq1 (ρ':=Q14 p xs over cs (ds++fiveQ ns xs.length s cs dy k) (fiveD ns s dy (k+1)) (some (.f (.int s))) e8 (some (.f (.int k))) (some (.f (.int (oth ns s k)))) (some (.f (.str (wordOf (deedQ xs.length (oth ns s k/5) (oth ns s k/60) s cs))))) (some (.f (toldP (deedQ xs.length (oth ns s k/5) (oth ns s k/60) s cs)))) e13) ?_).trans ?_
  ·unfold Q14
   walk_at "ev"
   rw [e_Deed hm hc]
   try walk_at "ev"
   try rfl
  have e:(ds++fiveQ ns xs.length s cs dy (k+1)).map triP=(ds++fiveQ ns xs.length s cs dy k).map triP++ [triP (fiveD ns s dy (k+1),deedQ xs.length (oth ns s k/5) (oth ns s k/60) s cs)]:=by
   unfold fiveQ
   rw [rngS, <-List.append_assoc,List.map_append]
   rfl
  unfold Q14
  rw [e]
  refine (s_app (p:=triP (fiveD ns s dy (k+1),deedQ xs.length (oth ns s k/5) (oth ns s k/60) s cs)) rfl ?_ (by unfold fiveQ;simp only [List.length_map,List.length_append,List.length_range];omega)).trans rfl
  walk_at "ev"
  rfl)
 rw [h2] at h1
 exact ⟨f9,f10,f11,f12,sfor1 (iaRng1_ev (n:=5) rfl (by decide)) h1⟩
theorem e_rul {s:Nat} {cs:List Cl} {ds:List Dd} {dy:Int} {e9 e10 e11 e12 e13:Option SV} (ho:s<over) (hz:cs.length<=100) (hd:ds.length<=10000):
  ∃f13,bRul (Q14 p xs over cs ds dy (some (.f (.int s))) (some (.f (.int (cel ns s 7)))) e9 e10 e11 e12 e13)=some (.nx (Q14 p xs over cs (ds++ [ruleQ ns s cs dy]) (dy+cel ns s 13 % 50) (some (.f (.int s))) (some (.f (.int (cel ns s 7)))) e9 e10 e11 e12 f13)):=by
 refine ⟨some (.f (.lst ((winsQ (cel ns s 14) cs).map winP))),?_⟩
 refine (s_ifT ?_).trans ?_
 ·unfold Q14
  walk_at "ev"
  rw [decide_eq_true (by omega)]
 refine (sq1 (ρ':=Q14 p xs over cs ds (dy+cel ns s 13 % 50) (some (.f (.int s))) (some (.f (.int (cel ns s 7)))) e9 e10 e11 e12 e13) ?_).trans ?_
 ·unfold Q14
  walk_at "ev"
  rw [if_pos (.inl (by decide))]
  try walk_at "ev"
  rw [e_At hs hl]
  try walk_at "ev"
  rfl
 refine (sq1 (ρ':=Q14 p xs over cs ds (dy+cel ns s 13 % 50) (some (.f (.int s))) (some (.f (.int (cel ns s 7)))) e9 e10 e11 e12 (some (.f (.lst ((winsQ (cel ns s 14) cs).map winP))))) ?_).trans ?_
 ·unfold Q14
  walk_at "ev"
  rw [if_pos (.inl (by decide))]
  try walk_at "ev"
  rw [e_At hs hl]
  try walk_at "ev"
  have:=e_Wins (c:=cel ns s 14) hz
  unfold cel at this
  show Option.map _ (m_LWins [.int (cell ns (14+9*(s:Int))),.lst (cs.map Cl.pv)])=_
  rw [show (14:Int)+9*(s:Int)=((14:Nat):Int)+9*(s:Int) from rfl,this]
  rfl
 have e:(ds++ [ruleQ ns s cs dy]).map triP=ds.map triP++ [triP (ruleQ ns s cs dy)]:=by rw [List.map_append];rfl
 unfold Q14
 rw [e]
 refine (s_app (p:=triP (ruleQ ns s cs dy)) rfl ?_ (by rw [List.length_map];omega)).trans rfl
 walk_at "ev"
 rfl
end
theorem nq1 {f:SF} {g:EF} {ρ ρ':Rho} (h:f ρ=some (.nx ρ')):nSeq f g ρ=g ρ':=by unfold nSeq;rw [h];rfl
theorem keepQ_pos {c:Int} {cs:List Cl} (h:0<cs.length):0<(keepQ c cs).length:=by
 unfold keepQ
 rw [List.length_map]
 refine List.length_pos_iff.mpr λz=> ?_
 have:0∈(List.range cs.length).filter (keepK c):=List.mem_filter.mpr ⟨List.mem_range.mpr h,by unfold keepK;simp⟩
 rw [z] at this
 cases this
theorem keepQ_le {c:Int} {cs:List Cl}:(keepQ c cs).length<=cs.length:=by
 unfold keepQ
 rw [List.length_map]
 exact Nat.le_trans (List.length_filter_le ..) (by rw [List.length_range];exact Nat.le_refl _)
theorem fiveQ_len {ns:List Int} {many:Int} {s:Nat} {cs:List Cl} {dy:Int} {k:Nat}:(fiveQ ns many s cs dy k).length=k:=by unfold fiveQ;rw [List.length_map,List.length_range]
structure QSz (s:Nat) (q:QS):Prop where
 p:0<q.cs.length
 c:q.cs.length<=20
 d:q.ds.length<=20+26*s
theorem car_sz {ns:List Int} {s:Nat} {q:QS} (h:QSz s q):0<(carQ ns s q).cs.length/\(carQ ns s q).cs.length<=20/\(carQ ns s q).ds.length<=40+26*s:=by
 have hp:=h.p;have hc:=h.c;have hd:=h.d
 unfold carQ
 split
 ·have h1:=keepQ_pos (c:=cel ns s 7) h.p
  have h2:=keepQ_le (c:=cel ns s 7) (cs:=q.cs)
  refine ⟨h1,by show (keepQ _ _).length<=20;omega,?_⟩
  show (q.ds++_).length<=_
  rw [List.length_append,List.length_map]
  omega
 ·exact ⟨hp,hc,by omega⟩
theorem all_sz {ns:List Int} {many:Int}: ∀s:Nat,QSz s (allQ ns many s)
 |0=>by
  have:=qN_bd (ns:=ns)
  refine ⟨?_,?_,?_⟩
  ·show 0<(qCls ns many).length;unfold qCls;rw [List.length_map,List.length_range];omega
  ·show (qCls ns many).length<=20;unfold qCls;rw [List.length_map,List.length_range];omega
  ·show ((qCls ns many).map _).length<=_;unfold qCls;rw [List.length_map,List.length_map,List.length_range];omega
 |s+1=>by
  have h:=all_sz (ns:=ns) (many:=many) s
  have g:=car_sz (ns:=ns) h
  refine ⟨g.1,g.2.1,?_⟩
  have hd:=h.d
  show (((carQ ns s (allQ ns many s)).ds++fiveQ _ _ _ _ _ 5)++ [_]).length<=_
  rw [List.length_append,List.length_append,fiveQ_len]
  have:(carQ ns s (allQ ns many s)).ds.length<=(allQ ns many s).ds.length+20:=by
   unfold carQ
   split
   ·show ((allQ ns many s).ds++(keepQ (cel ns s 7) (allQ ns many s).cs).map (λc=>((allQ ns many s).dy,De.carry c.n))).length<=_
    rw [List.length_append,List.length_map]
    have:=keepQ_le (c:=cel ns s 7) (cs:=(allQ ns many s).cs)
    have:=h.c
    omega
   ·omega
  simp only [List.length_cons,List.length_nil]
  omega
section
variable {ns:List Int} {p:PV} {xs:List PV} {over:Nat} (hs:ScrP p ns) (hl:ns.length<=63) (hm:2<=xs.length/\xs.length<=8)
include hs hl hm
theorem e_stg {s:Nat} {e8 e9 e10 e11 e12 e13:Option SV} (ho:s<over) (h3:over<=3):
  ∃f8 f9 f10 f11 f12 f13,bStg (Q14 p xs over (allQ ns xs.length s).cs (allQ ns xs.length s).ds (allQ ns xs.length s).dy (some (.f (.int s))) e8 e9 e10 e11 e12 e13)=some (.nx (Q14 p xs over (allQ ns xs.length (s+1)).cs (allQ ns xs.length (s+1)).ds (allQ ns xs.length (s+1)).dy (some (.f (.int s))) f8 f9 f10 f11 f12 f13)):=by
 have hz:=all_sz (ns:=ns) (many:=xs.length) s
 have g:=car_sz (ns:=ns) hz
 have hzc:=hz.c;have hzd:=hz.d
 obtain ⟨f9,f10,f11,f12,h5⟩:=e_five (over:=over) (s:=s) (cs:=(carQ ns s (allQ ns xs.length s)).cs) (ds:=(carQ ns s (allQ ns xs.length s)).ds) (dy:=(allQ ns xs.length s).dy) (e8:=some (.f (.int (cel ns s 7)))) (e9:=e9) (e10:=e10) (e11:=e11) (e12:=e12) (e13:=e13) hs hl (show 0<xs.length by omega) g.1 (by omega)
 obtain ⟨f13,hr⟩:=e_rul (xs:=xs) (over:=over) (s:=s) (cs:=(carQ ns s (allQ ns xs.length s)).cs) (ds:=(carQ ns s (allQ ns xs.length s)).ds++fiveQ ns xs.length s (carQ ns s (allQ ns xs.length s)).cs (allQ ns xs.length s).dy 5) (dy:=fiveD ns s (allQ ns xs.length s).dy 5) (e9:=f9) (e10:=f10) (e11:=f11) (e12:=f12) (e13:=e13) hs hl (show 0<xs.length by omega) ho (by omega) (by rw [List.length_append,fiveQ_len];omega)
 refine ⟨_,f9,f10,f11,f12,f13,(sq1 (ρ':=Q14 p xs over (allQ ns xs.length s).cs (allQ ns xs.length s).ds (allQ ns xs.length s).dy (some (.f (.int s))) (some (.f (.int (cel ns s 7)))) e9 e10 e11 e12 e13) ?_).trans ((sq1 (e_car (by omega) (by omega))).trans ((sq1 h5).trans hr))⟩
 unfold Q14
 walk_at "ev"
 rw [if_pos (.inl (by decide))]
 try walk_at "ev"
 rw [e_At hs hl]
 try walk_at "ev"
 rfl
theorem e_Quarrel (h3:over<=3):m_LQuarrel [p,.lst xs,.int over,.bl false]=some (.lst ((rowsQ (allQ ns xs.length over).ds).map lrP)):=by
 have hm2:2<=(xs.length:Int)/\(xs.length:Int)<=8:=by omega
 unfold m_LQuarrel g_LQuarrel
 show (if ([p,PV.lst xs,PV.int over,PV.bl false]:List PV).length=4 then _ else none)=_
 rw [if_pos (show ([p,PV.lst xs,PV.int over,PV.bl false]:List PV).length=4 from rfl)]
 have hz0:=all_sz (ns:=ns) (many:=xs.length) 0
 obtain ⟨ρ',h1,e7,e8,e9,e10,e11,e12,e13,h2⟩:=loopR (g:=tgN 7) (body:=bStg) (n:=over) (λs ρ=> ∃e7 e8 e9 e10 e11 e12 e13,ρ=Q14 p xs over (allQ ns xs.length s).cs (allQ ns xs.length s).ds (allQ ns xs.length s).dy e7 e8 e9 e10 e11 e12 e13) (ρ:=Q14 p xs over (qCls ns xs.length) ((qCls ns xs.length).map (λc=>(0,.claim c))) 0 none none none none none none none) ⟨none,none,none,none,none,none,none,rfl⟩ (by
  rintro s ρ hk ⟨e7,e8,e9,e10,e11,e12,e13,rfl⟩
  obtain ⟨f8,f9,f10,f11,f12,f13,h⟩:=e_stg (over:=over) (s:=s) (e8:=e8) (e9:=e9) (e10:=e10) (e11:=e11) (e12:=e12) (e13:=e13) hs hl hm hk h3
  exact ⟨_,_,rfl,h,some (.f (.int s)),f8,f9,f10,f11,f12,f13,rfl⟩)
 rw [h2] at h1
 have hc:=eComp_a (k:=1) (js:= []) (it:=iaList (eW 4)) (tg:=tgN 0) (cond:=λ_=>some true) (elt:=eTup (aC (eC (.str "claim")) (aC (eC (.int 0)) (aC (eW 0) aN)))) (ρ:= [some (.f p),some (.f (.lst xs)),some (.f (.int over)),some (.f (.bl false)),some (.f (.lst ((qCls ns xs.length).map Cl.pv))),none,none,none,none,none,none,none,none,none]) (xs:=qCls ns xs.length) (enc:=Cl.pv) (f:=λc=>triP (0,.claim c)) rfl (by have:=hz0.c;show (allQ ns xs.length 0).cs.length<=_;omega) (by intro c _;rfl)
 have hz:=all_sz (ns:=ns) (many:=xs.length) over
 have hzd:=hz.d
 have hf:=eComp_a (k:=1) (js:= [5]) (it:=iaRng1 (aC (eCl pLen (aC (eV 5) aN)) aN)) (tg:=tgN 0) (cond:=λ_=>some true) (elt:=eOp pAdd (eTup (aC (eW 0) aN)) (eOp pIx (eV 1) (eV 0))) (ρ:=Q14 p xs over (allQ ns xs.length over).cs (allQ ns xs.length over).ds (allQ ns xs.length over).dy e7 e8 e9 e10 e11 e12 e13) (xs:=List.range (allQ ns xs.length over).ds.length) (enc:=λi:Nat=>PV.int (i:Int)) (f:=λk=>lrP ⟨(k:Int),((allQ ns xs.length over).ds.getD k (0,.dun 0)).1,((allQ ns xs.length over).ds.getD k (0,.dun 0)).2⟩) (iaRng1_ev (n:=(allQ ns xs.length over).ds.length) (by unfold Q14;walk_at "ev") (by omega)) (by rw [List.length_range];omega) (by
  intro k hk
  have hk:=List.mem_range.mp hk
  have hx:pIx (.lst ((allQ ns xs.length over).ds.map triP)) (.int (k:Nat))=some (triP ((allQ ns xs.length over).ds.getD k (0,.dun 0))):=by
   rw [pIx_q (ps:=(allQ ns xs.length over).ds.map triP) (q:=triP ((allQ ns xs.length over).ds.getD k (0,.dun 0))) rfl]
   ·rfl
   ·rw [List.getElem?_map,List.getElem?_eq_getElem hk,List.getD_eq_getElem?_getD,List.getElem?_eq_getElem hk];rfl
  unfold Q14
  walk_at "ev"
  rw [hx]
  unfold triP
  walk_at "ev"
  rfl)
 refine (nq1 (ρ':= [some (.f p),some (.f (.lst xs)),some (.f (.int over)),some (.f (.bl false)),some (.f (.lst ((qCls ns xs.length).map Cl.pv))),none,none,none,none,none,none,none,none,none]) ?_).trans ((nq1 (ρ':= [some (.f p),some (.f (.lst xs)),some (.f (.int over)),some (.f (.bl false)),some (.f (.lst ((qCls ns xs.length).map Cl.pv))),some (.m (.lst (((qCls ns xs.length).map (λc=>((0:Int),De.claim c))).map triP))),none,none,none,none,none,none,none,none]) ?_).trans ((nq1 (ρ':=Q14 p xs over (qCls ns xs.length) ((qCls ns xs.length).map (λc=>(0,.claim c))) 0 none none none none none none none) ?_).trans ((nq1 (sfor1 (iaRng1_ev (n:=over) ?_ (by omega)) h1)).trans ?_)))
 ·walk_at "ev"
  rw [e_Claims hs hl hm2]
  try walk_at "ev"
 ·unfold sAsgM
  rw [hc,List.map_map]
  rfl
 ·rfl
 ·unfold Q14
  walk_at "ev"
  try rfl
 ·rw [hf]
  unfold rowsQ
  rw [List.map_map]
  rfl
end
abbrev NdN (cs:List Cl):Prop:=cs.Pairwise λa b=>a.n≠b.n
theorem fnd_self: ∀ {cs:List Cl} {c:Cl},NdN cs->c∈cs->fnd cs c.n=some c
 | [],_,_,h=>by cases h
 |x::xs,c,nd,h=>by
  have nd:=List.pairwise_cons.mp nd
  unfold fnd
  rcases List.mem_cons.mp h with rfl|h
  ·rw [List.find?_cons_of_pos (by simp)]
  ·rw [List.find?_cons_of_neg (by simpa using nd.1 c h)]
   exact fnd_self nd.2 h
theorem fnd_no {cs:List Cl} {n:Int} (h: ∀c∈cs,c.n≠n):fnd cs n=none:=by
 unfold fnd
 rw [List.find?_eq_none]
 intro c hc
 simpa using h c hc
theorem setN_nd {xs:List Int} (h:xs.Pairwise (· ≠ ·)):setN xs=xs.length:=by
 have hv: ∀i j,i<j->j<xs.length->xs.getD i 0≠xs.getD j 0:=λi j h1 h2=>by
  rw [List.getD_eq_getElem?_getD,List.getD_eq_getElem?_getD,List.getElem?_eq_getElem (by omega),List.getElem?_eq_getElem h2]
  exact List.pairwise_iff_getElem.mp h i j (by omega) h2 h1
 have: ∀k,k<=xs.length->(PyProof.Rows.firstMet (λi=>xs.getD i 0) k).length=k:=by
  intro k
  induction k with
  |zero=>intro _;rfl
  |succ k ih=>
   intro hk
   have ha:(PyProof.Rows.firstMet (λi=>xs.getD i 0) k).any (· ==xs.getD k 0)=false:=by
    rw [PyProof.Rows.firstMet_any]
    rw [List.any_eq_false]
    intro x hx
    obtain ⟨i,hi,rfl⟩:=List.mem_map.mp hx
    have:=hv i k (List.mem_range.mp hi) (by omega)
    simpa using this
   rw [PyProof.Rows.firstMet_succ]
   unfold PyProof.Rows.step_dedup
   rw [ha]
   simp only [Bool.false_eq_true,if_false,List.length_append,List.length_cons,List.length_nil]
   rw [ih (by omega)]
 exact this _ (Nat.le_refl _)
theorem rq_len {ds:List Dd}:(rowsQ ds).length=ds.length:=by unfold rowsQ;rw [List.length_map,List.length_range]
theorem rq_snoc {ds:List Dd} {x:Dd}:rowsQ (ds++ [x])=rowsQ ds++ [⟨(ds.length:Int),x.1,x.2⟩]:=by
 unfold rowsQ
 rw [List.length_append,List.length_cons,List.length_nil,List.range_succ,List.map_append]
 congr 1
 ·refine List.map_congr_left λk hk=> ?_
  have hk:=List.mem_range.mp hk
  rw [List.getD_eq_getElem?_getD,List.getD_eq_getElem?_getD,List.getElem?_append_left hk]
 ·show [Ro.mk _ _ _]=_
  rw [List.getD_eq_getElem?_getD,List.getElem?_append_right (Nat.le_refl _),Nat.sub_self]
  rfl
structure QI (pre:Rds) (cur:List Cl) (ds:List Dd) (dy:Int):Prop where
 acc:Acc (rowsQ ds)
 rd:roundsT (rowsQ ds)=pre++ [cur]
 day: ∀r∈rowsQ ds,r.d<=dy
section
variable {pre pre':Rds} {cur cur':List Cl} {ds:List Dd} {dy d:Int} {x:De}
theorem QI.lastD (h:QI pre cur ds dy) (hd:dy<=d):Day (rowsQ ds).getLast? d:=λq e=>Int.le_trans (h.day q (List.mem_of_getLast? e)) hd
theorem QI.add (h:QI pre cur ds dy) (hd:dy<=d) (hk:DeOk x) (hz:ds.length<300) (h1:lacks (pre++ [cur]) x=false) (h2:meets (pre++ [cur]) x=false) (h3:twice (pre++ [cur]) x=false) (h4:much (pre++ [cur]) x=false) (hp:My.put (pre++ [cur]) x=pre'++ [cur']):QI pre' cur' (ds++ [(d,x)]) d/\refuse (roundsT (rowsQ ds)) (rowsQ ds).getLast? (rowsQ ds).length ⟨(ds.length:Int),d,x⟩=none:=by
 have hr:refuse (roundsT (rowsQ ds)) (rowsQ ds).getLast? (rowsQ ds).length ⟨(ds.length:Int),d,x⟩=none:=by
  rw [h.rd]
  exact refuse_of (by rw [rq_len];omega) h1 h2 (h.lastD hd) h3 h4
 refine ⟨⟨?_,?_,?_⟩,hr⟩
 ·rw [rq_snoc]
  have:=acc_snoc h.acc hk (by rw [rq_len] at hr ⊢;exact hr)
  rw [rq_len] at this
  exact this
 ·rw [rq_snoc,roundsT_snoc,h.rd]
  exact hp
 ·rw [rq_snoc]
  intro r hr
  rcases List.mem_append.mp hr with e|e
  ·exact Int.le_trans (h.day r e) hd
  ·cases List.mem_singleton.mp e;exact Int.le_refl _
theorem at_cur:at_ (pre++ [cur]) (pre.length:Int)=cur:=by
 unfold at_
 rw [if_pos ⟨by omega,by rw [List.length_append,List.length_cons,List.length_nil];omega⟩,Int.toNat_natCast,List.getD_eq_getElem?_getD,List.getElem?_append_right (Nat.le_refl _),Nat.sub_self]
 rfl
theorem over_cur:over (pre++ [cur])=(pre.length:Int):=by unfold over;rw [List.length_append];simp
theorem last_cur:lastR (pre++ [cur])=cur:=by
 unfold lastR
 rw [List.length_append,List.length_cons,List.length_nil,List.getD_eq_getElem?_getD,List.getElem?_append_right (by omega)]
 rw [show pre.length+(0+1) - 1 - pre.length=0 by omega]
 rfl
theorem QI.claim {c:Cl} (h:QI [] cur ds dy) (hd:dy<=d) (hz:ds.length<300) (hn: ∀x∈cur,x.n≠c.n):QI [] (cur++ [c]) (ds++ [(d,.claim c)]) d/\refuse (roundsT (rowsQ ds)) (rowsQ ds).getLast? (rowsQ ds).length ⟨(ds.length:Int),d,.claim c⟩=none:=
 h.add hd trivial hz rfl rfl (by show (fnd cur c.n).isSome=false;rw [fnd_no hn];rfl) rfl rfl
theorem QI.step {t s m:Int} {k l:Str} (h:QI pre cur ds dy) (hd:dy<=d) (hz:ds.length<300) (ht:t=pre.length) (hc:cur≠ []):QI pre cur (ds++ [(d,.step t s k m l)]) d/\refuse (roundsT (rowsQ ds)) (rowsQ ds).getLast? (rowsQ ds).length ⟨(ds.length:Int),d,.step t s k m l⟩=none:=by
 subst ht
 exact h.add hd trivial hz (by show decide (at_ _ _= [])=false;rw [at_cur];exact decide_eq_false hc) (by show decide (_<over _)=false;rw [over_cur];exact decide_eq_false (by omega)) rfl rfl rfl
theorem wIn_cur {c:Cl} (nd:NdN cur) (hc:c∈cur):wIn (pre++ [cur]) (pre.length:Int) c.n=c.w:=by
 unfold wIn
 rw [at_cur,fnd_self nd hc]
 rfl
theorem QI.offer {t a:Int} {c:Cl} (h:QI pre cur ds dy) (hd:dy<=d) (hz:ds.length<300) (ht:t=pre.length) (nd:NdN cur) (hc:c∈cur) (ha:a<=c.w):QI pre cur (ds++ [(d,.offer t c.n a)]) d/\refuse (roundsT (rowsQ ds)) (rowsQ ds).getLast? (rowsQ ds).length ⟨(ds.length:Int),d,.offer t c.n a⟩=none:=by
 subst ht
 exact h.add hd trivial hz (by show (fnd (at_ _ _) c.n).isNone=false;rw [at_cur,fnd_self nd hc];rfl) (by show decide (_<over _)=false;rw [over_cur];exact decide_eq_false (by omega)) rfl (by show decide (wIn _ _ _<a)=false;rw [wIn_cur nd hc];exact decide_eq_false (by omega)) rfl
theorem QI.rule {t:Int} {ws:List (Int×Int)} {bk:Bool} (h:QI pre cur ds dy) (hd:dy<=d) (hz:ds.length<300) (ht:t=pre.length) (nd:NdN cur) (hc:cur≠ []) (hw: ∀w∈ws,∃c∈cur,c.n=w.1/\w.2<=c.w) (hn:(ws.map Prod.fst).Pairwise (· ≠ ·)) (hl:ws.length<=1000):QI (pre++ [cur]) [] (ds++ [(d,.rule t ws bk)]) d/\refuse (roundsT (rowsQ ds)) (rowsQ ds).getLast? (rowsQ ds).length ⟨(ds.length:Int),d,.rule t ws bk⟩=none:=by
 subst ht
 refine h.add hd hl hz ?_ (by show decide (_<over _)=false;rw [over_cur];exact decide_eq_false (by omega)) ?_ ?_ rfl
 ·rw [lacks_rule,at_cur,decide_eq_false hc,Bool.false_or,List.any_eq_false]
  intro w hm
  obtain ⟨c,h1,h2,_⟩:=hw w hm
  rw [<-h2,fnd_self nd h1]
  simp
 ·show decide (setN (ws.map Prod.fst)<ws.length)=false
  rw [setN_nd hn,List.length_map]
  exact decide_eq_false (by omega)
 ·show (ws.any λw=>decide (wIn _ _ w.1<w.2))=false
  rw [List.any_eq_false]
  intro w hm
  obtain ⟨c,h1,h2,h3⟩:=hw w hm
  rw [<-h2,wIn_cur nd h1]
  simp;omega
theorem QI.pay {s p c:Int} (h:QI pre cur ds dy) (hd:dy<=d) (hz:ds.length<300):QI pre cur (ds++ [(d,.pay s p c)]) d/\refuse (roundsT (rowsQ ds)) (rowsQ ds).getLast? (rowsQ ds).length ⟨(ds.length:Int),d,.pay s p c⟩=none:=h.add hd trivial hz rfl rfl rfl rfl rfl
theorem QI.dun {s:Int} (h:QI pre cur ds dy) (hd:dy<=d) (hz:ds.length<300):QI pre cur (ds++ [(d,.dun s)]) d/\refuse (roundsT (rowsQ ds)) (rowsQ ds).getLast? (rowsQ ds).length ⟨(ds.length:Int),d,.dun s⟩=none:=h.add hd trivial hz rfl rfl rfl rfl rfl
theorem QI.carry {pp:Rds} {prev:List Cl} {c:Cl} (h:QI (pp++ [prev]) cur ds dy) (hd:dy<=d) (hz:ds.length<300) (hp:pp.length<2) (nd:NdN prev) (hc:c∈prev) (hn: ∀x∈cur,x.n≠c.n):QI (pp++ [prev]) (cur++ [c]) (ds++ [(d,.carry c.n)]) d/\refuse (roundsT (rowsQ ds)) (rowsQ ds).getLast? (rowsQ ds).length ⟨(ds.length:Int),d,.carry c.n⟩=none:=by
 have ho:over (pp++ [prev]++ [cur])=(pp.length:Int)+1:=by rw [over_cur,List.length_append];simp
 have hl2:last2 (pp++ [prev]++ [cur])=prev:=by
  unfold last2
  rw [List.append_assoc,List.length_append,List.getD_eq_getElem?_getD,List.getElem?_append_right (by simp)]
  simp
 refine h.add hd trivial hz ?_ ?_ ?_ rfl ?_
 ·show (fnd (at_ _ (over _ - 1)) c.n).isNone=false
  have:at_ (pp++ [prev]++ [cur]) ((pp.length:Int)+1 - 1)=prev:=by
   rw [show (pp.length:Int)+1 - 1=pp.length by omega,List.append_assoc]
   unfold at_
   rw [if_pos ⟨by omega,by rw [List.length_append];simp;omega⟩,Int.toNat_natCast,List.getD_eq_getElem?_getD,List.getElem?_append_right (Nat.le_refl _),Nat.sub_self]
   rfl
  rw [ho,this,fnd_self nd hc]
  rfl
 ·show decide (over _=3)=false
  rw [ho]
  exact decide_eq_false (by omega)
 ·show (fnd (lastR _) c.n).isSome=false
  rw [last_cur,fnd_no hn]
  rfl
 ·show List.set _ (_ - 1) (lastR _++(fnd (last2 _) c.n).toList)=_
  rw [last_cur,hl2,fnd_self nd hc]
  rw [List.length_append,List.length_cons,List.length_nil,List.set_append_right _ _ (by omega)]
  rw [show (pp++ [prev]).length+(0+1) - 1 - (pp++ [prev]).length=0 by omega]
  rfl
end
theorem acc_last {rows:List Ro} {r:Ro} (h:Acc (rows++ [r])):Acc rows/\DeOk r.x/\refuse (roundsT rows) rows.getLast? rows.length r=none:=by
 generalize e:rows++ [r]=q at h
 cases h with
 |nil=>exact absurd e (by simp)
 | @snoc rows' r' n ha hd hr hn=>
  obtain ⟨e1,e2⟩:=List.append_inj' e rfl
  subst e1
  cases e2
  refine ⟨ha,hd,?_⟩
  obtain ⟨h1,h2,h3,h4,h5,h6⟩:=refuse_none hr
  unfold refuse
  rw [if_neg (by omega),h2,h3,h4,h5,h6]
  simp
def Bi (i:Int):Prop:= -1000000000000<i/\i<1000000000000
def TxE:De->Prop
 | .claim c=>Bi c.n/\Bi c.a/\Bi c.b/\Bi c.w
 | .carry n=>Bi n
 | .step t s k m l=>Bi t/\Bi s/\k.length<=20/\Bi m/\l.length<=20
 | .offer t c a=>Bi t/\Bi c/\Bi a
 | .rule t ws _=>Bi t/\ws.length<=100/\ ∀w∈ws,Bi w.1/\Bi w.2
 | .pay s p c=>Bi s/\Bi p/\Bi c
 | .dun s=>Bi s
def TxD (x:Dd):Prop:=Bi x.1/\TxE x.2
def ClB (c:Cl):Prop:=Bi c.n/\Bi c.a/\Bi c.b/\1<=c.w/\c.w<=10000000000
theorem QI.claims {d:Int} (h0:0<=d): ∀(ks done:List Cl) (ds:List Dd),QI [] done ds d->NdN (done++ks)->ds.length+ks.length<300->QI [] (done++ks) (ds++ks.map λc=>(d,.claim c)) d
 | [],done,ds,h,_,_=>by simpa using h
 |c::ks,done,ds,h,nd,hz=>by
  have hn: ∀x∈done,x.n≠c.n:=λx hx=>(List.pairwise_append.mp nd).2.2 x hx c List.mem_cons_self
  have h1:=(h.claim (c:=c) (Int.le_refl _) (by simp only [List.length_cons] at hz;omega) hn).1
  have:=QI.claims h0 ks (done++ [c]) (ds++ [(d,.claim c)]) h1 (by rw [List.append_assoc];exact nd) (by simp only [List.length_append,List.length_cons,List.length_nil] at hz ⊢;omega)
  rw [List.append_assoc,List.append_assoc] at this
  exact this
theorem QI.carries {d:Int} {pp:Rds} {prev:List Cl} (hp:pp.length<2) (np:NdN prev): ∀(ks done:List Cl) (ds:List Dd),QI (pp++ [prev]) done ds d->NdN (done++ks)->(∀c∈ks,c∈prev)->ds.length+ks.length<300->QI (pp++ [prev]) (done++ks) (ds++ks.map λc=>(d,.carry c.n)) d
 | [],done,ds,h,_,_,_=>by simpa using h
 |c::ks,done,ds,h,nd,hc,hz=>by
  have hn: ∀x∈done,x.n≠c.n:=λx hx=>(List.pairwise_append.mp nd).2.2 x hx c List.mem_cons_self
  have h1:=(h.carry (c:=c) (Int.le_refl _) (by simp only [List.length_cons] at hz;omega) hp np (hc c List.mem_cons_self) hn).1
  have:=QI.carries hp np ks (done++ [c]) (ds++ [(d,.carry c.n)]) h1 (by rw [List.append_assoc];exact nd) (λx hx=>hc x (List.mem_cons_of_mem _ hx)) (by simp only [List.length_append,List.length_cons,List.length_nil] at hz ⊢;omega)
  rw [List.append_assoc,List.append_assoc] at this
  exact this
theorem sel5_nn {x:Int}:0<=sel5 x/\sel5 x<=300:=by unfold sel5;split;omega;split;omega;split;omega;split<;>omega
theorem oneQ_mem {c:Int} {cs:List Cl} (h:0<cs.length):oneQ c cs∈cs:=by
 have hi:0<=c/4 % (cs.length:Int)/\c/4 % (cs.length:Int)<cs.length:=⟨Int.emod_nonneg _ (by omega),Int.emod_lt_of_pos _ (by omega)⟩
 unfold oneQ
 rw [List.getD_eq_getElem?_getD,List.getElem?_eq_getElem (show (c/4 % (cs.length:Int)).toNat<cs.length by omega)]
 exact List.getElem_mem _
theorem amtQ_bd {w x:Int} (hw:1<=w/\w<=10000000000):amtQ w x<=w/\0<=amtQ w x:=by
 have h0:0<=w*(x % 5):=Int.mul_nonneg (by omega) (by omega)
 unfold amtQ sel3
 have h2:(0:Int)<=(if w/2 - 1>0 then w/2 - 1 else 0):=by split<;>omega
 generalize (if w/2 - 1>0 then w/2 - 1 else 0)=u at h2 ⊢
 generalize w*(x % 5)=v at h0 ⊢
 have: ∀z:Int,0<=z->(if z<w then z else w)<=w/\0<=(if z<w then z else w):=λz hz=>by split<;>omega
 refine this _ ?_
 split;omega;split<;>omega
theorem kd_len {c:Int}:(kdQ c).length<=20:=by
 have h:c/8 % 6=0\/c/8 % 6=1\/c/8 % 6=2\/c/8 % 6=3\/c/8 % 6=4\/c/8 % 6=5:=by omega
 unfold kdQ
 rcases h with h|h|h|h|h|h<;>rw [h]<;>decide
theorem ld_len {c:Int}:(ldQ c).length<=20:=by
 have h:c % 5=0\/c % 5=1\/c % 5=2\/c % 5=3\/c % 5=4:=by omega
 unfold ldQ
 rcases h with h|h|h|h|h<;>rw [h]<;>decide
theorem deed_tx {many c x:Int} {s:Nat} {cs:List Cl} (hm:2<=many/\many<=8) (hs:s<=3) (hc:0<cs.length) (hb: ∀c∈cs,ClB c):TxE (deedQ many c x s cs):=by
 unfold deedQ
 split
 ·have h1:=Int.emod_nonneg (c/4) (show many≠0 by omega)
  have h2:=Int.emod_lt_of_pos (c/4) (show 0<many by omega)
  have h3:=mdQ_bd (c:=c/4) (x:=x)
  exact ⟨⟨by omega,by omega⟩,⟨by omega,by omega⟩,kd_len,⟨by omega,by omega⟩,ld_len⟩
 ·obtain ⟨b1,b2,b3,b4⟩:=hb _ (oneQ_mem (c:=c) hc)
  have h3:=amtQ_bd (x:=x) b4
  exact ⟨⟨by omega,by omega⟩,b1,⟨by omega,by omega⟩⟩
theorem QI.deed {pre:Rds} {cur:List Cl} {ds:List Dd} {dy d:Int} {many c x:Int} (h:QI pre cur ds dy) (hd:dy<=d) (hz:ds.length<300) (nd:NdN cur) (hc:0<cur.length) (hb: ∀c∈cur,ClB c):QI pre cur (ds++ [(d,deedQ many c x (pre.length:Nat) cur)]) d:=by
 unfold deedQ
 split
 ·exact (h.step hd hz rfl (List.length_pos_iff.mp hc)).1
 ·exact (h.offer hd hz rfl nd (oneQ_mem hc) (amtQ_bd (hb _ (oneQ_mem hc)).2.2.2).1).1
theorem fiveD_le {ns:List Int} {s:Nat} {dy:Int}: ∀k,dy<=fiveD ns s dy k/\fiveD ns s dy k<=dy+300*(k:Int)
 |0=>⟨Int.le_refl _,by show dy<=_;omega⟩
 |k+1=>by
  have h:=fiveD_le (ns:=ns) (s:=s) (dy:=dy) k
  have:=sel5_nn (x:=oth ns s k)
  exact ⟨by show dy<=fiveD ns s dy k+_;omega,by show fiveD ns s dy k+_<=_;omega⟩
theorem QI.five {ns:List Int} {pre:Rds} {cur:List Cl} {ds:List Dd} {dy:Int} {many:Int} (h:QI pre cur ds dy) (hz:ds.length<280) (nd:NdN cur) (hc:0<cur.length) (hb: ∀c∈cur,ClB c): ∀k,k<=5->QI pre cur (ds++fiveQ ns many pre.length cur dy k) (fiveD ns pre.length dy k)
 |0,_=>by show QI pre cur (ds++ []) dy;rw [List.append_nil];exact h
 |k+1,hk=>by
  have g:=QI.five (ns:=ns) (many:=many) h hz nd hc hb k (by omega)
  have e:ds++fiveQ ns many pre.length cur dy (k+1)=(ds++fiveQ ns many pre.length cur dy k)++ [(fiveD ns pre.length dy (k+1),deedQ many (oth ns pre.length k/5) (oth ns pre.length k/60) (pre.length:Nat) cur)]:=by
   unfold fiveQ
   rw [rngS, <-List.append_assoc]
  rw [e]
  exact g.deed (by show _<=fiveD ns pre.length dy k+_;have:=sel5_nn (x:=oth ns pre.length k);omega) (by rw [List.length_append,fiveQ_len];omega) nd hc hb
theorem keep_sub {c:Int} {cs:List Cl}:(keepQ c cs).Sublist cs:=by
 have e:(List.range cs.length).map (λk=>cs.getD k c0)=cs:=by
  refine List.ext_getElem (by simp) λi h1 h2=> ?_
  rw [List.getElem_map,List.getElem_range,List.getD_eq_getElem?_getD,List.getElem?_eq_getElem h2]
  rfl
 have:=(List.filter_sublist (p:=keepK c) (l:=List.range cs.length)).map λk=>cs.getD k c0
 rw [e] at this
 exact this
theorem qCls_nd {ns:List Int} {many:Int}:NdN (qCls ns many):=by
 have hq:=qN_bd (ns:=ns)
 refine List.pairwise_map.mpr (List.pairwise_iff_getElem.mpr λi j hi hj hij=> ?_)
 rw [List.getElem_range,List.getElem_range]
 rw [List.length_range] at hi hj
 show (cell ns 2/36+3*(i:Int)) % 20≠(cell ns 2/36+3*(j:Int)) % 20
 omega
theorem qCls_b {ns:List Int} {many:Int} (hm:2<=many/\many<=8): ∀c∈qCls ns many,ClB c:=by
 intro c hc
 obtain ⟨k,hk,rfl⟩:=List.mem_map.mp hc
 have h1:=Int.emod_nonneg (qCell ns k/20) (show many≠0 by omega)
 have h2:=Int.emod_lt_of_pos (qCell ns k/20) (show 0<many by omega)
 have h3:=Int.emod_nonneg (qCell ns k/20 % many+1+qCell ns k/160 % (many - 1)) (show many≠0 by omega)
 have h4:=Int.emod_lt_of_pos (qCell ns k/20 % many+1+qCell ns k/160 % (many - 1)) (show 0<many by omega)
 have h5:=worthL_bd (c:=qCell ns k/7/3)
 refine ⟨?_,?_,?_,?_,?_⟩
 ·show Bi ((cell ns 2/36+3*(k:Int)) % 20);unfold Bi;omega
 ·show Bi (qCell ns k/20 % many);unfold Bi;omega
 ·show Bi ((qCell ns k/20 % many+1+qCell ns k/160 % (many - 1)) % many);unfold Bi;omega
 ·exact h5.1
 ·show worthL (qCell ns k/7/3)<=_;omega
theorem wins_mem {c:Int} {cs:List Cl} (hb: ∀c∈cs,ClB c): ∀w∈winsQ c cs,∃x∈cs,x.n=w.1/\w.2<=x.w/\Bi w.1/\Bi w.2:=by
 intro w hw
 obtain ⟨k,hk,e⟩:=List.mem_filterMap.mp hw
 have hk:=List.mem_range.mp hk
 unfold winQ at e
 split at e
 ·cases e
  have hx:cs.getD k c0∈cs:=by
   rw [List.getD_eq_getElem?_getD,List.getElem?_eq_getElem hk]
   exact List.getElem_mem hk
  obtain ⟨b1,_,_,b4⟩:=hb _ hx
  have hp:0<=pk c k:=by unfold pk;omega
  refine ⟨_,hx,rfl,?_⟩
  show wonQ (cs.getD k c0).w (pk c k)<=(cs.getD k c0).w/\Bi (cs.getD k c0).n/\Bi (wonQ (cs.getD k c0).w (pk c k))
  generalize (cs.getD k c0).w=v at b4 ⊢
  generalize (cs.getD k c0).n=z at b1 ⊢
  generalize pk c k=q at*
  unfold wonQ
  have hq:0<=(if q<4 then q else 4)/\(if q<4 then q else 4)<=4:=by split<;>omega
  generalize (if q<4 then q else 4)=r at hq ⊢
  have h0:0<=v*r:=Int.mul_nonneg (by omega) hq.1
  have h1:v*r<=v*4:=Int.mul_le_mul_of_nonneg_left hq.2 (by omega)
  generalize v*r=y at h0 h1 ⊢
  unfold Bi at*
  split<;>omega
 ·cases e
theorem wins_nd {c:Int} {cs:List Cl} (nd:NdN cs):((winsQ c cs).map Prod.fst).Pairwise (· ≠ ·):=by
 refine List.pairwise_map.mpr (List.pairwise_filterMap.mpr (List.pairwise_iff_getElem.mpr λi j hi hj hij=> ?_))
 rw [List.getElem_range,List.getElem_range]
 rw [List.length_range] at hi hj
 intro a ha b hb
 unfold winQ at ha hb
 split at ha
 ·split at hb
  ·cases ha
   cases hb
   show (cs.getD i c0).n≠(cs.getD j c0).n
   rw [List.getD_eq_getElem?_getD,List.getD_eq_getElem?_getD,List.getElem?_eq_getElem hi,List.getElem?_eq_getElem hj]
   exact List.pairwise_iff_getElem.mp nd i j hi hj hij
  ·cases hb
 ·cases ha
theorem wins_len {c:Int} {cs:List Cl}:(winsQ c cs).length<=cs.length:=by
 have:=List.length_filterMap_le (winQ c cs) (List.range cs.length)
 rw [List.length_range] at this
 exact this
structure QK (ns:List Int) (many:Int) (s:Nat) (q:QS):Prop where
 st:(s=0/\QI [] q.cs q.ds q.dy)\/ ∃pp,pp.length+1=s/\QI (pp++ [q.cs]) [] q.ds q.dy
 nd:NdN q.cs
 cb: ∀c∈q.cs,ClB c
 tx: ∀x∈q.ds,TxD x
 dy:0<=q.dy/\q.dy<=2000*(s:Int)
theorem Bi_dy {d:Int} (h:0<=d/\d<=100000):Bi d:=⟨by omega,by omega⟩
theorem stage_ok {ns:List Int} {many:Int} {s:Nat} {q:QS} (hm:2<=many/\many<=8) (hs:s<3) (z:QSz s q) (k:QK ns many s q):QK ns many (s+1) (stageQ ns many s q):=by
 have hzd:=z.d
 have hdy:=k.dy
 have g:=car_sz (ns:=ns) z
 have hcar: ∃pre:Rds,pre.length=s/\QI pre (carQ ns s q).cs (carQ ns s q).ds q.dy/\NdN (carQ ns s q).cs/\(∀c∈(carQ ns s q).cs,ClB c)/\ ∀x∈(carQ ns s q).ds,TxD x:=by
  rcases k.st with ⟨h0,h1⟩|⟨pp,hp,h1⟩
  ·have e:carQ ns s q=q:=if_neg (by omega)
   rw [e]
   exact ⟨[],by simp;omega,h1,k.nd,k.cb,k.tx⟩
  ·have e:carQ ns s q=⟨keepQ (cel ns s 7) q.cs,q.ds++(keepQ (cel ns s 7) q.cs).map (λc=>(q.dy,.carry c.n)),q.dy⟩:=if_pos (by omega)
   rw [e]
   have sub:=keep_sub (c:=cel ns s 7) (cs:=q.cs)
   have hn:=k.nd.sublist sub
   have hk:=keepQ_le (c:=cel ns s 7) (cs:=q.cs)
   have hc:=z.c
   have h2:=QI.carries (d:=q.dy) (by omega) k.nd (keepQ (cel ns s 7) q.cs) [] q.ds h1 hn (λc hc=>sub.subset hc) (by omega)
   refine ⟨pp++ [q.cs],by rw [List.length_append];simp;omega,h2,hn,λc hc=>k.cb c (sub.subset hc),λx hx=> ?_⟩
   rcases List.mem_append.mp hx with hx|hx
   ·exact k.tx x hx
   ·obtain ⟨c,hc,rfl⟩:=List.mem_map.mp hx
    exact ⟨Bi_dy (by omega),(k.cb c (sub.subset hc)).1⟩
 obtain ⟨pre,hp,h1,nd,cb,tx⟩:=hcar
 subst hp
 have h5:=h1.five (ns:=ns) (many:=many) (by omega) nd g.1 cb 5 (Nat.le_refl _)
 have f5:=fiveD_le (ns:=ns) (s:=pre.length) (dy:=q.dy) 5
 have hrd:fiveD ns pre.length q.dy 5<=fiveD ns pre.length q.dy 5+cel ns pre.length 13 % 50:=by omega
 have hw:=wins_mem (c:=cel ns pre.length 14) cb
 have hwl:=wins_len (c:=cel ns pre.length 14) (cs:=(carQ ns pre.length q).cs)
 have h6:=(h5.rule (t:=(pre.length:Nat)) (ws:=winsQ (cel ns pre.length 14) (carQ ns pre.length q).cs) (bk:=decide (0<cel ns pre.length 7 % 3)) hrd (by rw [List.length_append,fiveQ_len];omega) rfl nd (List.length_pos_iff.mp g.1) (λw hm=>by
  obtain ⟨c,a,b,d,_⟩:=hw w hm
  exact ⟨c,a,b,d⟩) (wins_nd nd) (by have:=g.2.1;omega)).1
 refine ⟨.inr ⟨pre,rfl,h6⟩,nd,cb,λx hx=> ?_,?_⟩
 ·rcases List.mem_append.mp hx with hx|hx
  ·rcases List.mem_append.mp hx with hx|hx
   ·exact tx x hx
   ·unfold fiveQ at hx
    obtain ⟨j,hj,rfl⟩:=List.mem_map.mp hx
    have hj:=List.mem_range.mp hj
    have fj:=fiveD_le (ns:=ns) (s:=pre.length) (dy:=q.dy) (j+1)
    exact ⟨Bi_dy (by push_cast at fj;omega),deed_tx hm (by omega) g.1 cb⟩
  ·cases List.mem_singleton.mp hx
   refine ⟨Bi_dy (d:=fiveD ns pre.length q.dy 5+cel ns pre.length 13 % 50) (by omega),⟨by show (-1000000000000:Int)<(pre.length:Nat);omega,by show ((pre.length:Nat):Int)<1000000000000;omega⟩,by have:=g.2.1;omega,λw hm=> ?_⟩
   obtain ⟨c,a,b,d,e,f⟩:=hw w hm
   exact ⟨e,f⟩
 ·show 0<=fiveD ns pre.length q.dy 5+cel ns pre.length 13 % 50/\fiveD ns pre.length q.dy 5+cel ns pre.length 13 % 50<=2000*((pre.length+1:Nat):Int)
  push_cast
  omega
theorem all_ok {ns:List Int} {many:Int} (hm:2<=many/\many<=8): ∀s:Nat,s<=3->QK ns many s (allQ ns many s)
 |0,_=>by
  have z:=all_sz (ns:=ns) (many:=many) 0
  have h0:QI [] [] [] 0:=⟨.nil,rfl,λr hr=>by cases hr⟩
  have hc:=QI.claims (Int.le_refl 0) (qCls ns many) [] [] h0 qCls_nd (by have:=z.c;show 0+(allQ ns many 0).cs.length<300;omega)
  refine ⟨.inl ⟨rfl,hc⟩,qCls_nd,qCls_b hm,λx hx=> ?_,⟨Int.le_refl _,by show (0:Int)<=_;omega⟩⟩
  obtain ⟨c,hc,rfl⟩:=List.mem_map.mp hx
  obtain ⟨b1,b2,b3,b4,b5⟩:=qCls_b hm c hc
  exact ⟨Bi_dy (by omega),b1,b2,b3,⟨by omega,by omega⟩⟩
 |s+1,h=>stage_ok hm (by omega) (all_sz s) (all_ok hm s (by omega))
def T (i:Int):Str:=toString i
theorem Bi.log {i:Int} (h:Bi i):i.natAbs.log2<1920:=by
 obtain ⟨h1,h2⟩:=h
 by_cases h0:i.natAbs=0
 ·rw [h0];decide
 ·rw [Nat.log2_lt h0]
  have:i.natAbs<2^64:=by omega
  exact Nat.lt_of_lt_of_le this (by decide+kernel)
theorem T_len {i:Int} (h:Bi i):(T i).length<=40:=by
 have hs:i.natAbs<10^20:=by
  obtain ⟨h1,h2⟩:=h
  have e:(10:Nat)^20=100000000000000000000:=by decide+kernel
  rw [e]
  omega
 have:(toString i).length<=20+1:=int_text_length_le10 (k:=20) (by decide) hs
 unfold T
 rw [PySem.ofString_length]
 omega
theorem st_i {i:Int} (h:Bi i):pStrT [.int i]=some (.str (T i)):=if_pos h.log
theorem st_s {x:Str}:pStrT [.str x]=some (.str x):=rfl
theorem st_b {b:Bool}:pStrT [.bl b]=some (.str (if b then "True" else "False")):=rfl
def wD (w:Int×Int):PyData:= .tuple [.int w.1,.int w.2]
theorem sh_ws: ∀ {ws:List (Int×Int)},shPs (ws.map winP)=some (ws.map wD)
 | []=>rfl
 |w::ws=>by
  show ((shP (winP w)).bind λd=>(shPs (ws.map winP)).map (d:: ·))=_
  rw [sh_ws]
  rfl
theorem ws_show: ∀ {ws:List (Int×Int)},(∀w∈ws,Bi w.1/\Bi w.2)->PyData.showableAll (ws.map wD)=true
 | [],_=>by simp [PyData.showableAll]
 |w::ws,h=>by
  have:=h w List.mem_cons_self
  simp only [List.map_cons,PyData.showableAll,wD,PyData.showable,this.1.log,this.2.log,decide_true,Bool.true_and]
  exact ws_show λx hx=>h x (List.mem_cons_of_mem _ hx)
theorem ws_nod: ∀ {ws:List (Int×Int)},PyData.hasDictAll (ws.map wD)=false
 | []=>by simp [PyData.hasDictAll]
 |w::ws=>by
  simp only [List.map_cons,PyData.hasDictAll,wD,PyData.hasDict,Bool.false_or]
  exact ws_nod
theorem ws_dep: ∀ {ws:List (Int×Int)},PyData.depthAll (ws.map wD)<=10
 | []=>by simp [PyData.depthAll]
 |w::ws=>by
  have:=ws_dep (ws:=ws)
  simp only [List.map_cons,PyData.depthAll,wD,PyData.depth]
  omega
theorem tup_len {ts:List Str} {n:Nat} (h: ∀t∈ts,t.length<=n):(tupleText ts).length<=ts.length*(n+2)+3:=by
 unfold tupleText
 rw [strLen_append,strLen_append]
 have h1:=StrLaws.join_length_le ", " ts
 have h2:(ts.map (·.length)).sum<=ts.length*n:=by
  clear h1
  induction ts with
  |nil=>simp
  |cons t ts ih=>
   rw [List.map_cons,List.sum_cons,List.length_cons,Nat.succ_mul]
   have:=ih λx hx=>h x (List.mem_cons_of_mem _ hx)
   have:=h t List.mem_cons_self
   omega
 have e1:(("(" :String):Str).length=1:=rfl
 have e2:((", " :String):Str).length=2:=rfl
 have e3:(((if ts.length==1 then ",)" else ")" :String)):Str).length<=2:=by split<;>decide
 rw [e2] at h1
 rw [e1,Nat.mul_add]
 omega
theorem ws_len: ∀ {ws:List (Int×Int)},(∀w∈ws,Bi w.1/\Bi w.2)->(PyData.shownAll (ws.map wD)).length=ws.length/\ ∀t∈PyData.shownAll (ws.map wD),t.length<=100
 | [],_=>by simp [PyData.shownAll]
 |w::ws,h=>by
  have g:=ws_len (ws:=ws) λx hx=>h x (List.mem_cons_of_mem _ hx)
  obtain ⟨b1,b2⟩:=h w List.mem_cons_self
  simp only [List.map_cons,PyData.shownAll,List.length_cons]
  refine ⟨by rw [g.1],λt ht=> ?_⟩
  rcases List.mem_cons.mp ht with rfl|ht
  ·unfold wD
   simp only [PyData.shown,PyData.shownAll]
   refine Nat.le_trans (tup_len (n:=40) λt ht=> ?_) (by simp)
   simp only [List.mem_cons,List.mem_nil_iff,or_false] at ht
   rcases ht with rfl|rfl
   ·exact T_len b1
   ·exact T_len b2
  ·exact g.2 t ht
theorem st_w {ws:List (Int×Int)} (h: ∀w∈ws,Bi w.1/\Bi w.2) (hz:ws.length<=100): ∃x,pStrT [.tpf (ws.map winP)]=some (.str x):=by
 have g:=ws_len h
 have h1:(PyData.tuple (ws.map wD)).showable=true:=by simp only [PyData.showable];exact ws_show h
 have h2:(PyData.tuple (ws.map wD)).hasDict=false:=by simp only [PyData.hasDict];exact ws_nod
 have h3:(PyData.tuple (ws.map wD)).depth<=100:=by have:=ws_dep (ws:=ws);simp only [PyData.depth];omega
 have h4:(PyData.tuple (ws.map wD)).shown.length<=sizeLine:=by
  simp only [PyData.shown]
  have:=tup_len (ts:=PyData.shownAll (ws.map wD)) (n:=100) g.2
  rw [g.1] at this
  refine Nat.le_trans this (szL ?_)
  have:ws.length*(100+2)<=100*(100+2):=Nat.mul_le_mul_right _ hz
  omega
 refine ⟨(PyData.tuple (ws.map wD)).shown,?_⟩
 show ((shP (.tpf (ws.map winP))).bind λd=>if d.showable=true/\d.hasDict=false/\d.depth<=100/\d.shown.length<=sizeLine then some (PV.str d.shown) else none)=_
 have e:shP (.tpf (ws.map winP))=some (.tuple (ws.map wD)):=by
  show (shPs (ws.map winP)).map PyData.tuple=_
  rw [sh_ws];rfl
 rw [e,Option.bind_some,if_pos ⟨h1,h2,h3,h4⟩]
theorem joinOk {sep:Str} {ts:List Str} (hs:sep.length<=10) (h: ∀t∈ts,t.length<=200) (hz:ts.length<=1000):JoinOk sep ts=true:=by
 unfold JoinOk
 have: ∀(ts:List Str) (a:Nat),(∀t∈ts,t.length<=200)->ts.foldl (· + ·.length+sep.length) a<=a+ts.length*210:=by
  intro ts
  induction ts with
  |nil=>intro a _;simp
  |cons t ts ih=>
   intro a h
   rw [List.foldl_cons,List.length_cons,Nat.succ_mul]
   have:=ih (a+t.length+sep.length) λx hx=>h x (List.mem_cons_of_mem _ hx)
   have:=h t List.mem_cons_self
   omega
 have g:=this ts 0 h
 rw [<-List.foldl_toArray] at g
 have hz2:ts.length*210<=1000*210:=Nat.mul_le_mul_right _ hz
 have hl:(1000*210:Nat)<=sizeLine:=by decide
 show (!Builtin.Str.tooLong _)=true
 unfold Builtin.Str.tooLong
 rw [Bool.not_eq_true',decide_eq_false_iff_not]
 omega
theorem pstrs_of: ∀ {ts:List Str},pstrsO (ts.map PV.str)=some ts
 | []=>rfl
 |t::ts=>by
  show (pstrsO (ts.map PV.str)).map (t:: ·)=_
  rw [pstrs_of];rfl
theorem join_ev {f g:EF} {ρ:Rho} {ts:List Str} (hf:f ρ=some (.str " ")) (hg:g ρ=some (.lst (ts.map PV.str))) (h: ∀t∈ts,t.length<=200) (hz:ts.length<=1000):eJoin f g ρ=some (.str (Txt.join " " ts)):=by
 unfold eJoin
 rw [hf,Option.bind_some,hg,Option.bind_some]
 show (pstrsO (ts.map PV.str)).bind _=_
 rw [pstrs_of,Option.bind_some,if_pos (joinOk (by decide) h hz)]
def wT (w:Int×Int):Str:=T w.1++("=" :Str)++T w.2
def partsT (r:Ro):List Str:=match r.x with
 | .claim c=> ["claim",T r.d,T c.n,T c.a,T c.b,T c.w]
 | .carry n=> ["carry",T r.d,T n]
 | .step t s k m l=> ["step",T r.d,T t,T s,k,T m,l]
 | .offer t c a=> ["offer",T r.d,T t,T c,T a]
 | .rule t ws bk=>(["rule",T r.d,T t,if bk=true then "back" else "own"]:List Str)++ws.map wT
 | .pay s p c=> ["pay",T r.d,T s,T p,T c]
 | .dun s=> ["dun",T r.d,T s]
def textT (r:Ro):Str:=Txt.join " " (partsT r)
theorem wT_len {w:Int×Int} (h:Bi w.1/\Bi w.2):(wT w).length<=100:=by
 have h1:=T_len h.1
 have h2:=T_len h.2
 unfold wT
 rw [strLen_append,strLen_append]
 have:(("=" :String):Str).length=1:=rfl
 omega
theorem parts_ok {r:Ro} (hd:Bi r.d) (hx:TxE r.x):(∀t∈partsT r,t.length<=200)/\(partsT r).length<=1000:=by
 obtain ⟨n,d,x⟩:=r
 have hd:Bi d:=hd
 have L: ∀ {i:Int},Bi i->(T i).length<=200:=λh=>Nat.le_trans (T_len h) (by decide)
 cases x with
 |claim c=>
  obtain ⟨b1,b2,b3,b4⟩:=hx
  refine ⟨λt ht=> ?_,by simp [partsT]⟩
  simp only [partsT,List.mem_cons,List.mem_nil_iff,or_false] at ht
  rcases ht with rfl|rfl|rfl|rfl|rfl|rfl
  ·decide
  ·exact L hd
  ·exact L b1
  ·exact L b2
  ·exact L b3
  ·exact L b4
 |carry c=>
  refine ⟨λt ht=> ?_,by simp [partsT]⟩
  simp only [partsT,List.mem_cons,List.mem_nil_iff,or_false] at ht
  rcases ht with rfl|rfl|rfl
  ·decide
  ·exact L hd
  ·exact L hx
 |step t s k m l=>
  obtain ⟨b1,b2,b3,b4,b5⟩:=hx
  refine ⟨λt ht=> ?_,by simp [partsT]⟩
  simp only [partsT,List.mem_cons,List.mem_nil_iff,or_false] at ht
  rcases ht with rfl|rfl|rfl|rfl|rfl|rfl|rfl
  ·decide
  ·exact L hd
  ·exact L b1
  ·exact L b2
  ·omega
  ·exact L b4
  ·omega
 |offer t c a=>
  obtain ⟨b1,b2,b3⟩:=hx
  refine ⟨λt ht=> ?_,by simp [partsT]⟩
  simp only [partsT,List.mem_cons,List.mem_nil_iff,or_false] at ht
  rcases ht with rfl|rfl|rfl|rfl|rfl
  ·decide
  ·exact L hd
  ·exact L b1
  ·exact L b2
  ·exact L b3
 |rule t ws bk=>
  obtain ⟨b1,b2,b3⟩:=hx
  refine ⟨λt ht=> ?_,by simp [partsT];omega⟩
  rcases List.mem_append.mp ht with ht|ht
  ·simp only [List.mem_cons,List.mem_nil_iff,or_false] at ht
   rcases ht with rfl|rfl|rfl|rfl
   ·decide
   ·exact L hd
   ·exact L b1
   ·cases bk<;>decide
  ·obtain ⟨w,hw,rfl⟩:=List.mem_map.mp ht
   exact Nat.le_trans (wT_len (b3 w hw)) (by decide)
 |pay s p c=>
  obtain ⟨b1,b2,b3⟩:=hx
  refine ⟨λt ht=> ?_,by simp [partsT]⟩
  simp only [partsT,List.mem_cons,List.mem_nil_iff,or_false] at ht
  rcases ht with rfl|rfl|rfl|rfl|rfl
  ·decide
  ·exact L hd
  ·exact L b1
  ·exact L b2
  ·exact L b3
 |dun s=>
  refine ⟨λt ht=> ?_,by simp [partsT]⟩
  simp only [partsT,List.mem_cons,List.mem_nil_iff,or_false] at ht
  rcases ht with rfl|rfl|rfl
  ·decide
  ·exact L hd
  ·exact L hx
theorem fin_rt {f:SF} {ρ:Rho} {p:PV} (h:f ρ=some (.rt p)):(f ρ).bind Fin1=some p:=by rw [h];rfl
theorem mapF_strs {F:PV->Option (Option PV)}: ∀ {xs:List PV} {ts:List Str},(∀x,F x=(pStrT [x]).map some)->xs.map (λx=>pStrT [x])=ts.map (λt=>some (PV.str t))->mapF F xs=some (ts.map PV.str)
 | [],ts,hF,h=>by
  cases ts with
  |nil=>rfl
  |cons t ts=>cases h
 |x::xs,ts,hF,h=>by
  cases ts with
  |nil=>cases h
  |cons t ts=>
   rw [List.map_cons,List.map_cons,List.cons.injEq] at h
   have ih:=mapF_strs (xs:=xs) (ts:=ts) hF h.2
   rw [mapF,hF,h.1,om_some,ob_some,ih]
   rfl
theorem comp_strs {it:EA} {ρ:Rho} {xs:List PV} {ts:List Str} (hi:it ρ=some xs) (hz:ts.length<=1000) (h:xs.map (λx=>pStrT [x])=ts.map (λt=>some (PV.str t))):eComp 1 [] it (tgN 0) (λ_=>some true) (eCl pStrT (aC (eV 0) aN)) ρ=some (.lst (ts.map PV.str)):=by
 unfold eComp
 rw [hi,Option.bind_some,mapF_strs (ts:=ts) (λx=>by
  show (Option.map some (Option.bind _ pStrT))=_
  rfl) h,Option.bind_some,if_pos (szL (by rw [List.length_map];omega))]
theorem e_RowText0 {r:Ro} {xs:List PV} (hw:wordOf r.x≠ "rule") (hi:(iaTup (eSl pSlT (eV 0) (ePart (eC (.int (1)))) eNoPart):EA) [some (.f r.pv)]=some xs) (h2:xs.map (λx=>pStrT [x])=(partsT r).map (λt=>some (PV.str t))) (hd:Bi r.d) (hx:TxE r.x):m_RowText [r.pv]=some (.str (textT r)):=by
 obtain ⟨p1,p2⟩:=parts_ok hd hx
 have hc:=comp_strs hi p2 h2
 have hj:=join_ev (f:=eC (.str " ")) rfl hc p1 p2
 have h0:(asB (eOp pEq (eOp pIx (eV 0) (eC (.int (1)))) (eC (.str "rule")))) [some (.f r.pv)]=some false:=by
  walk_at "ev"
  rw [ix_w]
  walk_at "ev"
  rw [decide_eq_false hw]
 unfold m_RowText g_RowText
 rw [mkM_ev,if_pos (show ([r.pv]:List PV).length=1 from rfl)]
 refine fin_rt ((sq1 (ρ':= [some (.f r.pv)]) (s_ifF h0)).trans ?_)
 unfold sRet
 rw [hj]
 rfl
theorem e_RuleText {n d t:Int} {ws:List (Int×Int)} {bk:Bool} (hd:Bi d) (hx:TxE (.rule t ws bk)):m_RuleText [Ro.pv ⟨n,d,.rule t ws bk⟩]=some (.str (textT ⟨n,d,.rule t ws bk⟩)):=by
 obtain ⟨p1,p2⟩:=parts_ok (r:=⟨n,d,.rule t ws bk⟩) hd hx
 obtain ⟨b1,b2,b3⟩:=hx
 unfold m_RuleText g_RuleText
 rw [mkM_ev,if_pos (show ([Ro.pv ⟨n,d,.rule t ws bk⟩]:List PV).length=1 from rfl)]
 obtain ⟨ρ',h1,e2,e3,h2⟩:=loop_pre' (g:=tgT 2 (tgCons (tgN 2) (tgCons (tgN 3) tgNil))) (body:=sApp 1 (eJs (aC (eFmt (eV 2)) (aC (eC (.str "=")) (aC (eFmt (eV 3)) aN))))) (enc:=winP) (xs:=ws) (λdone ρ=> ∃e2 e3,ρ= [some (.f (Ro.pv ⟨n,d,.rule t ws bk⟩)),some (.m (.lst (((["rule",T d,T t,if bk=true then "back" else "own"]:List Str)++done.map wT).map PV.str))),e2,e3]) ws [] [some (.f (Ro.pv ⟨n,d,.rule t ws bk⟩)),some (.m (.lst ((["rule",T d,T t,if bk=true then "back" else "own"]:List Str).map PV.str))),none,none] rfl ⟨none,none,by rw [List.map_nil,List.append_nil]⟩ (by
  rintro done w rest ρ e ⟨e2,e3,rfl⟩
  have hw:w∈ws:=by rw [e];simp
  have hl:done.length<=100:=by have:=congrArg List.length e;simp only [List.length_append,List.length_cons] at this;omega
  obtain ⟨c1,c2⟩:=b3 w hw
  refine ⟨[some (.f (Ro.pv ⟨n,d,.rule t ws bk⟩)),some (.m (.lst (((["rule",T d,T t,if bk=true then "back" else "own"]:List Str)++done.map wT).map PV.str))),some (.f (.int w.1)),some (.f (.int w.2))],_,rfl,?_,some (.f (.int w.1)),some (.f (.int w.2)),rfl⟩
  have f1:pFmt (.int w.1)=some (.str (T w.1)):=if_pos c1.log
  have f2:pFmt (.int w.2)=some (.str (T w.2)):=if_pos c2.log
  have t1:=T_len c1
  have t2:=T_len c2
  have q1:(("=" :String):Str).length=1:=rfl
  have s1:(Str.empty++T w.1).length<=sizeLine:=szL (by rw [Str.empty_append];omega)
  have s2:(T w.1++("=" :Str)).length<=sizeLine:=szL (by rw [strLen_append];omega)
  have s3:(T w.1++("=" :Str)++T w.2).length<=sizeLine:=szL (by rw [strLen_append,strLen_append];omega)
  have hj:eJs (aC (eFmt (eV 2)) (aC (eC (.str "=")) (aC (eFmt (eV 3)) aN))) [some (.f (Ro.pv ⟨n,d,.rule t ws bk⟩)),some (.m (.lst (((["rule",T d,T t,if bk=true then "back" else "own"]:List Str)++done.map wT).map PV.str))),some (.f (.int w.1)),some (.f (.int w.2))]=some (.str (wT w)):=by
   unfold eJs
   have ea:(aC (eFmt (eV 2)) (aC (eC (.str "=")) (aC (eFmt (eV 3)) aN)):EA) [some (.f (Ro.pv ⟨n,d,.rule t ws bk⟩)),some (.m (.lst (((["rule",T d,T t,if bk=true then "back" else "own"]:List Str)++done.map wT).map PV.str))),some (.f (.int w.1)),some (.f (.int w.2))]=some [.str (T w.1),.str "=",.str (T w.2)]:=by
    unfold eFmt
    walk_at "ev"
    rw [f1,f2]
    walk_at "ev"
   rw [ea,Option.bind_some]
   show Option.map PV.str (Option.bind (Option.bind (Option.bind (some Str.empty) _) _) _)=_
   rw [Option.bind_some]
   show Option.map PV.str (Option.bind (Option.bind (if (Str.empty++T w.1).length<=sizeLine then some (Str.empty++T w.1) else none) _) _)=_
   rw [if_pos s1,Option.bind_some,Str.empty_append]
   show Option.map PV.str (Option.bind (if (T w.1++("=" :Str)).length<=sizeLine then some (T w.1++("=" :Str)) else none) _)=_
   rw [if_pos s2,Option.bind_some]
   show Option.map PV.str (if (T w.1++("=" :Str)++T w.2).length<=sizeLine then some (T w.1++("=" :Str)++T w.2) else none)=_
   rw [if_pos s3]
   rfl
  refine (s_app (p:= .str (wT w)) rfl hj (by simp only [List.length_map,List.length_append,List.length_cons,List.length_nil];omega)).trans ?_
  have ee:(((["rule",T d,T t,if bk=true then "back" else "own"]:List Str)++(done++ [w]).map wT).map PV.str)=(((["rule",T d,T t,if bk=true then "back" else "own"]:List Str)++done.map wT).map PV.str)++ [PV.str (wT w)]:=by simp only [List.map_append,List.map_cons,List.map_nil,List.append_assoc]
  rw [ee]
  rfl)
 have hj:=join_ev (f:=eC (.str " ")) (g:=eV 1) (ρ:=ρ') (ts:=partsT ⟨n,d,.rule t ws bk⟩) rfl (by rw [h2];rfl) p1 p2
 have hp:sAsgM 1 (eLst (aC (eC (.str "rule")) (aC (eCl pStrT (aC (eOp pIx (eV 0) (eC (.int (2)))) aN)) (aC (eCl pStrT (aC (eOp pIx (eV 0) (eC (.int (3)))) aN)) (aC (eIf (asB (eOp pIx (eV 0) (eC (.int (4))))) (eC (.str "back")) (eC (.str "own"))) aN))))) (rho0 4 [Ro.pv ⟨n,d,.rule t ws bk⟩])=some (.nx [some (.f (Ro.pv ⟨n,d,.rule t ws bk⟩)),some (.m (.lst ((["rule",T d,T t,if bk=true then "back" else "own"]:List Str).map PV.str))),none,none]):=by
  walk_at "ev"
  rw [st_i hd,st_i b1]
  cases bk<;>walk_at "ev"
 refine fin_rt ((sq1 hp).trans ((sq1 (sfor1 ?_ h1)).trans ?_))
 ·walk_at "ev"
 ·unfold sRet
  rw [hj]
  rfl
theorem e_RowText {r:Ro} (hd:Bi r.d) (hx:TxE r.x):m_RowText [r.pv]=some (.str (textT r)):=by
 obtain ⟨n,d,x⟩:=r
 have hd:Bi d:=hd
 cases x with
 |claim c=>
  have hx':=hx
  obtain ⟨b1,b2,b3,b4⟩:=hx'
  exact e_RowText0 (xs:= [.str "claim",.int d,.int c.n,.int c.a,.int c.b,.int c.w]) (by show ("claim" :Str)≠ "rule";decide) rfl (by simp only [List.map_cons,List.map_nil,st_s,st_i hd,st_i b1,st_i b2,st_i b3,st_i b4,partsT]) hd hx
 |carry c=>
  have b1:Bi c:=hx
  exact e_RowText0 (xs:= [.str "carry",.int d,.int c]) (by show ("carry" :Str)≠ "rule";decide) rfl (by simp only [List.map_cons,List.map_nil,st_s,st_i hd,st_i b1,partsT]) hd hx
 |step t s k m l=>
  have hx':=hx
  obtain ⟨b1,b2,_,b4,_⟩:=hx'
  exact e_RowText0 (xs:= [.str "step",.int d,.int t,.int s,.str k,.int m,.str l]) (by show ("step" :Str)≠ "rule";decide) rfl (by simp only [List.map_cons,List.map_nil,st_s,st_i hd,st_i b1,st_i b2,st_i b4,partsT]) hd hx
 |offer t c a=>
  have hx':=hx
  obtain ⟨b1,b2,b3⟩:=hx'
  exact e_RowText0 (xs:= [.str "offer",.int d,.int t,.int c,.int a]) (by show ("offer" :Str)≠ "rule";decide) rfl (by simp only [List.map_cons,List.map_nil,st_s,st_i hd,st_i b1,st_i b2,st_i b3,partsT]) hd hx
 |rule t ws bk=>
  unfold m_RowText g_RowText
  walk_at "ev"
  rw [e_RuleText hd hx]
  try walk_at "ev"
 |pay s p c=>
  have hx':=hx
  obtain ⟨b1,b2,b3⟩:=hx'
  exact e_RowText0 (xs:= [.str "pay",.int d,.int s,.int p,.int c]) (by show ("pay" :Str)≠ "rule";decide) rfl (by simp only [List.map_cons,List.map_nil,st_s,st_i hd,st_i b1,st_i b2,st_i b3,partsT]) hd hx
 |dun s=>
  have b1:Bi s:=hx
  exact e_RowText0 (xs:= [.str "dun",.int d,.int s]) (by show ("dun" :Str)≠ "rule";decide) rfl (by simp only [List.map_cons,List.map_nil,st_s,st_i hd,st_i b1,partsT]) hd hx
theorem pAddL_s' {xs ys:List PV} (h:xs.length+ys.length<=100000):pAdd (.lst xs) (.lst ys)=some (.lst (xs++ys)):=if_pos (szL h)
theorem e_LText0 {r:Ro} {xs:List PV} {ts:List Str} (hw:wordOf r.x≠ "rule") (hi:toldP r.x= .tup xs) (h2:xs.map (λx=>pStrT [x])=ts.map (λt=>some (PV.str t))) (hp:partsT r=wordOf r.x::T r.d::ts) (hd:Bi r.d) (hx:TxE r.x):m_LText_2 [.str (wordOf r.x),.int r.d,toldP r.x]=some (.str (textT r)):=by
 obtain ⟨p1,p2⟩:=parts_ok hd hx
 have hz:ts.length<=1000:=by rw [hp] at p2;simp only [List.length_cons] at p2;omega
 have hc:=comp_strs (it:=iaTup (eW 2)) (ρ:= [some (.f (.str (wordOf r.x))),some (.f (.int r.d)),some (.f (.tup xs)),none]) rfl hz h2
 have hj:=join_ev (f:=eC (.str " ")) (g:=eV 3) (ρ:= [some (.f (.str (wordOf r.x))),some (.f (.int r.d)),some (.f (.tup xs)),some (.f (.lst ((partsT r).map PV.str)))]) (ts:=partsT r) rfl rfl p1 p2
 unfold m_LText_2 g_LText_2
 rw [hi,mkM_ev,if_pos (show ([.str (wordOf r.x),.int r.d,.tup xs]:List PV).length=3 from rfl)]
 refine fin_rt ((sq1 (ρ':= [some (.f (.str (wordOf r.x))),some (.f (.int r.d)),some (.f (.tup xs)),some (.f (.lst ((partsT r).map PV.str)))]) ?_).trans ((sq1 (s_ifF ?_)).trans ?_))
 ·unfold sAsg
  show Option.map _ (eOp pAdd _ _ [some (.f (.str (wordOf r.x))),some (.f (.int r.d)),some (.f (.tup xs)),none])=_
  rw [eOp_ev,hc]
  have e1:(eLst (aC (eW 0) (aC (eCl pStrT (aC (eV 1) aN)) aN)):EF) [some (.f (.str (wordOf r.x))),some (.f (.int r.d)),some (.f (.tup xs)),none]=some (.lst [.str (wordOf r.x),.str (T r.d)]):=by
   walk_at "ev"
   rw [st_i hd]
   try walk_at "ev"
  rw [e1,Option.bind_some,Option.bind_some,pAddL_s' (by simp only [List.length_cons,List.length_nil,List.length_map];omega),hp]
  rfl
 ·walk_at "ev"
  rw [decide_eq_false hw]
 ·unfold sRet
  rw [hj]
  rfl
theorem e_LTextR {n d t:Int} {ws:List (Int×Int)} {bk:Bool} (hd:Bi d) (hx:TxE (.rule t ws bk)):m_LText_2 [.str "rule",.int d,toldP (.rule t ws bk)]=some (.str (textT ⟨n,d,.rule t ws bk⟩)):=by
 obtain ⟨p1,p2⟩:=parts_ok (r:=⟨n,d,.rule t ws bk⟩) hd hx
 obtain ⟨b1,b2,b3⟩:=hx
 obtain ⟨tw,hw⟩:=st_w b3 b2
 have ρ0:Rho:= [some (.f (.str "rule")),some (.f (.int d)),some (.f (.tup [.int t,.tpf (ws.map winP),.bl bk])),none]
 have hc:=comp_strs (it:=iaTup (eW 2)) (ρ:= [some (.f (.str "rule")),some (.f (.int d)),some (.f (.tup [.int t,.tpf (ws.map winP),.bl bk])),none]) (xs:= [.int t,.tpf (ws.map winP),.bl bk]) (ts:= [T t,tw,if bk then "True" else "False"]) rfl (by simp) (by simp only [List.map_cons,List.map_nil,st_i b1,hw,st_b])
 have hv:=eComp_a (k:=1) (js:= []) (it:=iaTup (eOp pIx (eV 2) (eC (.int 1)))) (tg:=tgN 0) (cond:=λ_=>some true) (elt:=eOp pAdd (eOp pAdd (eCl pStrT (aC (eOp pIx (eV 0) (eC (.int 0))) aN)) (eC (.str "="))) (eCl pStrT (aC (eOp pIx (eV 0) (eC (.int 1))) aN))) (ρ:= [some (.f (.str "rule")),some (.f (.int d)),some (.f (.tup [.int t,.tpf (ws.map winP),.bl bk])),some (.f (.lst [.str "rule",.str (T d),.str (T t),.str (if bk=true then "back" else "own")]))]) (xs:=ws) (enc:=winP) (f:=λw=> .str (wT w)) (by walk_at "ev") (by omega) (by
  intro w hw
  obtain ⟨c1,c2⟩:=b3 w hw
  have t1:=T_len c1
  have t2:=T_len c2
  have q1:(("=" :String):Str).length=1:=rfl
  have s2:pAdd (.str (T w.1)) (.str "=")=some (.str (T w.1++("=" :Str))):=if_pos (szL (by omega))
  have s3:pAdd (.str (T w.1++("=" :Str))) (.str (T w.2))=some (.str (wT w)):=if_pos (szL (by rw [strLen_append];omega))
  unfold winP
  walk_at "ev"
  rw [st_i c1,st_i c2]
  walk_at "ev"
  rw [s2]
  walk_at "ev"
  rw [s3]
  try walk_at "ev")
 have hj:=join_ev (f:=eC (.str " ")) (g:=eV 3) (ρ:= [some (.f (.str "rule")),some (.f (.int d)),some (.f (.tup [.int t,.tpf (ws.map winP),.bl bk])),some (.f (.lst ((partsT ⟨n,d,.rule t ws bk⟩).map PV.str)))]) (ts:=partsT ⟨n,d,.rule t ws bk⟩) rfl rfl p1 p2
 unfold m_LText_2 g_LText_2
 rw [mkM_ev,if_pos (show ([.str "rule",.int d,toldP (.rule t ws bk)]:List PV).length=3 from rfl)]
 refine fin_rt ((sq1 (ρ':= [some (.f (.str "rule")),some (.f (.int d)),some (.f (.tup [.int t,.tpf (ws.map winP),.bl bk])),some (.f (.lst [.str "rule",.str (T d),.str (T t),.str tw,.str (if bk then "True" else "False")]))]) ?_).trans ((sq1 (ρ':= [some (.f (.str "rule")),some (.f (.int d)),some (.f (.tup [.int t,.tpf (ws.map winP),.bl bk])),some (.f (.lst ((partsT ⟨n,d,.rule t ws bk⟩).map PV.str)))]) ((s_ifT ?_).trans ((sq1 (ρ':= [some (.f (.str "rule")),some (.f (.int d)),some (.f (.tup [.int t,.tpf (ws.map winP),.bl bk])),some (.f (.lst [.str "rule",.str (T d),.str (T t),.str (if bk=true then "back" else "own")]))]) ?_).trans ?_))).trans ?_))
 ·unfold sAsg
  show Option.map _ (eOp pAdd _ _ [some (.f (.str "rule")),some (.f (.int d)),some (.f (.tup [.int t,.tpf (ws.map winP),.bl bk])),none])=_
  rw [eOp_ev,hc]
  have e1:(eLst (aC (eW 0) (aC (eCl pStrT (aC (eV 1) aN)) aN)):EF) [some (.f (.str "rule")),some (.f (.int d)),some (.f (.tup [.int t,.tpf (ws.map winP),.bl bk])),none]=some (.lst [.str "rule",.str (T d)]):=by
   walk_at "ev"
   rw [st_i hd]
   try walk_at "ev"
  rw [e1,Option.bind_some,Option.bind_some,pAddL_s' (by simp)]
  rfl
 ·walk_at "ev"
 ·cases bk
  ·unfold sAsg
   rw [eOp_ev]
   have e1:(eSl pSl (eV 3) eNoPart (ePart (eC (.int 3))):EF) [some (.f (.str "rule")),some (.f (.int d)),some (.f (.tup [.int t,.tpf (ws.map winP),.bl false])),some (.f (.lst [.str "rule",.str (T d),.str (T t),.str tw,.str (if false=true then "True" else "False")]))]=some (.lst [.str "rule",.str (T d),.str (T t)]):=rfl
   have e2:(eLst (aC (eOp pIx (eLst (aC (eC (.str "own")) (aC (eC (.str "back")) aN))) (eCl pInt (aC (eOp pIx (eV 2) (eC (.int 2))) aN))) aN):EF) [some (.f (.str "rule")),some (.f (.int d)),some (.f (.tup [.int t,.tpf (ws.map winP),.bl false])),some (.f (.lst [.str "rule",.str (T d),.str (T t),.str tw,.str (if false=true then "True" else "False")]))]=some (.lst [.str "own"]):=rfl
   rw [e1,e2,Option.bind_some,Option.bind_some,pAddL_s' (by simp)]
   rfl
  ·unfold sAsg
   rw [eOp_ev]
   have e1:(eSl pSl (eV 3) eNoPart (ePart (eC (.int 3))):EF) [some (.f (.str "rule")),some (.f (.int d)),some (.f (.tup [.int t,.tpf (ws.map winP),.bl true])),some (.f (.lst [.str "rule",.str (T d),.str (T t),.str tw,.str (if true=true then "True" else "False")]))]=some (.lst [.str "rule",.str (T d),.str (T t)]):=rfl
   have e2:(eLst (aC (eOp pIx (eLst (aC (eC (.str "own")) (aC (eC (.str "back")) aN))) (eCl pInt (aC (eOp pIx (eV 2) (eC (.int 2))) aN))) aN):EF) [some (.f (.str "rule")),some (.f (.int d)),some (.f (.tup [.int t,.tpf (ws.map winP),.bl true])),some (.f (.lst [.str "rule",.str (T d),.str (T t),.str tw,.str (if true=true then "True" else "False")]))]=some (.lst [.str "back"]):=rfl
   rw [e1,e2,Option.bind_some,Option.bind_some,pAddL_s' (by simp)]
   rfl
 ·unfold sAsg
  rw [eOp_ev,hv]
  show Option.map _ (Option.bind (some (PV.lst [.str "rule",.str (T d),.str (T t),.str (if bk=true then "back" else "own")])) _)=_
  rw [Option.bind_some,Option.bind_some,pAddL_s' (by simp only [List.length_cons,List.length_nil,List.length_map];omega)]
  show some (Fl.nx [_,_,_,some (.f (.lst ([.str "rule",.str (T d),.str (T t),.str (if bk=true then "back" else "own")]++ws.map λw=>PV.str (wT w))))])=some (Fl.nx [_,_,_,some (.f (.lst ((([("rule" :Str),T d,T t,if bk=true then "back" else "own"]:List Str)++ws.map wT).map PV.str)))])
  rw [List.map_append,List.map_map]
  rfl
 ·unfold sRet
  rw [hj]
  rfl
theorem e_LTextA {r:Ro} (hd:Bi r.d) (hx:TxE r.x):m_LText_2 [.str (wordOf r.x),.int r.d,toldP r.x]=some (.str (textT r)):=by
 obtain ⟨n,d,x⟩:=r
 have hd:Bi d:=hd
 cases x with
 |claim c=>
  have hx':=hx
  obtain ⟨b1,b2,b3,b4⟩:=hx'
  exact e_LText0 (r:=⟨n,d,.claim c⟩) (ts:= [T c.n,T c.a,T c.b,T c.w]) (by show ("claim" :Str)≠ "rule";decide) rfl (by simp only [List.map_cons,List.map_nil,st_i b1,st_i b2,st_i b3,st_i b4]) rfl hd hx
 |carry c=>
  have b1:Bi c:=hx
  exact e_LText0 (r:=⟨n,d,.carry c⟩) (ts:= [T c]) (by show ("carry" :Str)≠ "rule";decide) rfl (by simp only [List.map_cons,List.map_nil,st_i b1]) rfl hd hx
 |step t s k m l=>
  have hx':=hx
  obtain ⟨b1,b2,_,b4,_⟩:=hx'
  exact e_LText0 (r:=⟨n,d,.step t s k m l⟩) (ts:= [T t,T s,k,T m,l]) (by show ("step" :Str)≠ "rule";decide) rfl (by simp only [List.map_cons,List.map_nil,st_s,st_i b1,st_i b2,st_i b4]) rfl hd hx
 |offer t c a=>
  have hx':=hx
  obtain ⟨b1,b2,b3⟩:=hx'
  exact e_LText0 (r:=⟨n,d,.offer t c a⟩) (ts:= [T t,T c,T a]) (by show ("offer" :Str)≠ "rule";decide) rfl (by simp only [List.map_cons,List.map_nil,st_i b1,st_i b2,st_i b3]) rfl hd hx
 |rule t ws bk=>exact e_LTextR hd hx
 |pay s p c=>
  have hx':=hx
  obtain ⟨b1,b2,b3⟩:=hx'
  exact e_LText0 (r:=⟨n,d,.pay s p c⟩) (ts:= [T s,T p,T c]) (by show ("pay" :Str)≠ "rule";decide) rfl (by simp only [List.map_cons,List.map_nil,st_i b1,st_i b2,st_i b3]) rfl hd hx
 |dun s=>
  have b1:Bi s:=hx
  exact e_LText0 (r:=⟨n,d,.dun s⟩) (ts:= [T s]) (by show ("dun" :Str)≠ "rule";decide) rfl (by simp only [List.map_cons,List.map_nil,st_i b1]) rfl hd hx
def TxR (r:Ro):Prop:=Bi r.d/\TxE r.x
theorem e_LKeptA {rows:List Ro} (h: ∀r∈rows,TxR r) (hz:rows.length<=1000):m_LKept_2 [.lst (rows.map lrP)]=some (.lst (rows.map λr=> .str (textT r))):=by
 unfold m_LKept_2 g_LKept_2
 have hc:=eComp_a (k:=1) (js:= []) (it:=iaList (eW 0)) (tg:=tgN 0) (cond:=λ_=>some true) (elt:=eCl m_LText_2 (aC (eOp pIx (eV 0) (eC (.int 1))) (aC (eOp pIx (eV 0) (eC (.int 2))) (aC (eOp pIx (eV 0) (eC (.int 3))) aN)))) (ρ:= [some (.f (.lst (rows.map lrP)))]) (xs:=rows) (enc:=lrP) (f:=λr=> .str (textT r)) rfl (by omega) (by
  intro r hr
  obtain ⟨h1,h2⟩:=h r hr
  have ht:gd (toldP r.x)=some (toldP r.x):=by obtain ⟨n,d,x⟩:=r;cases x<;>rfl
  unfold lrP
  walk_at "ev"
  rw [ht]
  walk_at "ev"
  rw [e_LTextA h1 h2]
  try walk_at "ev")
 rw [mkM_ev,if_pos (show ([.lst (rows.map lrP)]:List PV).length=1 from rfl)]
 refine fin_rt ?_
 unfold sRet
 show Option.map _ (eComp 1 [] _ _ _ _ [some (.f (.lst (rows.map lrP)))])=_
 rw [hc]
 rfl
section
variable {A:BkA} {pl co sp:List PV} {rows:List Ro}
theorem b_Pay (hA:Acc rows) {d s p c:Int} (h:refuse (roundsT rows) rows.getLast? rows.length ⟨rows.length,d,.pay s p c⟩=none):m_BookPay [bookR A pl co sp rows] [.ob A.b,.int d,.int s,.int p,.int c]=some (.ok (.int rows.length),[bookR A pl co sp (rows++ [⟨rows.length,d,.pay s p c⟩])]):=by
 unfold bookR
 rw [e_Pay (es_le hA) (kept_puts hA),deed_ok h];rfl
theorem b_Dun (hA:Acc rows) {d s:Int} (h:refuse (roundsT rows) rows.getLast? rows.length ⟨rows.length,d,.dun s⟩=none):m_BookDun [bookR A pl co sp rows] [.ob A.b,.int d,.int s]=some (.ok (.int rows.length),[bookR A pl co sp (rows++ [⟨rows.length,d,.dun s⟩])]):=by
 unfold bookR
 rw [e_Dun (es_le hA) (kept_puts hA),deed_ok h];rfl
theorem e_BookKept (hz:rows.length<=900) (h: ∀r∈rows,TxR r):m_BookKept [bookR A pl co sp rows] [.ob A.b,.non]=some (.ok (.lst (rows.map λr=> .str (textT r))),[bookR A pl co sp rows]):=by
 have hk:m_BookRowsKept [bookR A pl co sp rows] [.ob A.b,.non]=some (.ok (.lst (rows.map Ro.pv)),[bookR A pl co sp rows]):=by
  unfold bookR
  rw [e_RowsKept (by rw [esOf_len];omega),kept_of]
 have hi:(xiList (xMt m_BookRowsKept [] (eW 0) (xaL (aC (eW 1) aN)))) [bookR A pl co sp rows] [some (.f (.ob A.b)),some (.f .non)]=some (.ok (rows.map Ro.pv),[bookR A pl co sp rows]):=by
  unfold xiList
  rw [(x_mt (b:=bookR A pl co sp rows) (dps:= []) (ps:= [.non]) (o:=eW 0) (fa:=xaL (aC (eW 1) aN)) rfl rfl).trans hk]
  rfl
 have hm:mapF (cTurn (cstR [some (.f (.ob A.b)),some (.f .non)] 1 []) (tgN 0) (λ_=>some true) (eCl m_RowText (aC (eW 0) aN))) (rows.map Ro.pv)=some (rows.map λr=>PV.str (textT r)):=mapF_all (enc:=Ro.pv) (f:=λr=>PV.str (textT r)) λr hr=>by
  obtain ⟨h1,h2⟩:=h r hr
  show Option.map some (m_RowText [r.pv])=_
  rw [e_RowText h1 h2]
  rfl
 unfold m_BookKept g_BookKept
 rw [mkMN_ev,if_pos (show ([.ob A.b,.non]:List PV).length=2 from rfl)]
 show (sxRet (xComp 1 [] _ _ _ _) _ [some (.f (.ob A.b)),some (.f .non)]).bind FinN1=_
 unfold sxRet xComp
 rw [hi,Option.bind_some]
 show (Option.map _ (Option.bind (mapF (cTurn (cstR [some (.f (.ob A.b)),some (.f .non)] 1 []) (tgN 0) (λ_=>some true) (eCl m_RowText (aC (eW 0) aN))) (rows.map Ro.pv)) _)).bind FinN1=_
 rw [hm,Option.bind_some,if_pos (szL (by rw [List.length_map];omega))]
 rfl
end
theorem str_ix {ts:List Str} {k:Nat} (h:k<ts.length):pIx (.lst (ts.map PV.str)) (.int (k:Nat))=some (.str (ts.getD k "")):=by
 rw [pIx_q (ps:=ts.map PV.str) (q:= .str (ts.getD k "")) rfl]
 ·rfl
 ·rw [List.getElem?_map,List.getElem?_eq_getElem h,List.getD_eq_getElem?_getD,List.getElem?_eq_getElem h];rfl
theorem e_LTextsA {ts:List Str} (hz:ts.length<=1000):m_LTexts [.lst (ts.map PV.str),.lst (ts.map PV.str)]=some (.bl true):=by
 obtain ⟨ρ',h1,e2,h2⟩:=loopR (g:=tgN 2) (body:=sIf (tyOr (tyNot (asB (eIsi "str" (eOp pIx (eV 0) (eV 2))))) (asB (eOp pNe (eOp pIx (eV 0) (eV 2)) (eOp pIx (eV 1) (eV 2))))) (sRet (eC (.bl false))) sNil) (n:=ts.length) (λ_ ρ=> ∃e2,ρ= [some (.f (.lst (ts.map PV.str))),some (.f (.lst (ts.map PV.str))),e2]) (ρ:= [some (.f (.lst (ts.map PV.str))),some (.f (.lst (ts.map PV.str))),none]) ⟨none,rfl⟩ (by
  rintro k ρ hk ⟨e2,rfl⟩
  refine ⟨_,_,rfl,?_,some (.f (.int k)),rfl⟩
  refine (s_ifF ?_).trans rfl
  show (tyOr (tyNot (asB (eIsi "str" (eOp pIx (eV 0) (eV 2))))) (asB (eOp pNe (eOp pIx (eV 0) (eV 2)) (eOp pIx (eV 1) (eV 2))))) [some (.f (.lst (ts.map PV.str))),some (.f (.lst (ts.map PV.str))),some (.f (.int k))]=_
  walk_at "ev"
  rw [str_ix hk]
  walk_at "ev"
  try simp)
 unfold m_LTexts g_LTexts
 rw [mkM_ev,if_pos (show ([.lst (ts.map PV.str),.lst (ts.map PV.str)]:List PV).length=2 from rfl)]
 refine fin_rt ((sq1 (ρ':= [some (.f (.lst (ts.map PV.str))),some (.f (.lst (ts.map PV.str))),none]) ((s_ifF ?_).trans rfl)).trans ((sq1 (sfor1 (iaRng1_ev (n:=ts.length) ?_ (by omega)) h1)).trans rfl))
 ·show (tyOr (tyNot (asB (eIsi "list" (eV 0)))) (asB (eOp pNe (eCl pLen (aC (eV 0) aN)) (eCl pLen (aC (eV 1) aN))))) [some (.f (.lst (ts.map PV.str))),some (.f (.lst (ts.map PV.str))),none]=_
  walk_at "ev"
  try simp
 ·walk_at "ev"
theorem noL_ws: ∀ {ws:List (Int×Int)},noLs (ws.map winP)=true
 | []=>rfl
 |w::ws=>by
  show (noL (winP w) && noLs (ws.map winP))=true
  rw [noL_ws];rfl
theorem noL_ro {r:Ro}:noL r.pv=true:=by
 obtain ⟨n,d,x⟩:=r
 cases x with
 |rule t ws bk=>
  show (true && (true && (true && (true && (true && (noLs (ws.map winP) && true))))))=true
  rw [noL_ws];rfl
 |_=>rfl
theorem noL_all {f:En->PV} (h: ∀e,noL (f e)=true): ∀ {es:List En},noLs (es.map f)=true
 | []=>rfl
 |e::es=>by
  show (noL (f e) && noLs (es.map f))=true
  rw [h,noL_all h];rfl
theorem noL_ints: ∀ {xs:List Int},noLs (iP xs)=true
 | []=>rfl
 |x::xs=>by
  show (true && noLs (iP xs))=true
  rw [noL_ints];rfl
abbrev B21 (A:BkA) (xs:List Int) (rows:List Ro):Bst:=bookR A (iP xs) [.tup [.int 10,.int 3]] [.tup [.int 10,.int 4]] rows
theorem bor_ok {A:BkA} {xs:List Int} {rows rows':List Ro}:([B21 A xs rows'].all λb=>bkN b && sameA [B21 A xs rows] b)=true:=by
 have h1:bkN (B21 A xs rows')=true:=by
  show (noLs (iP xs) && true && true && noLs ((esOf rows').map (·.r.pv)) && noLs ((esOf rows').map (λe=>PV.int e.ca)) && noLs ((esOf rows').map (λe=>weP e.we)))=true
  rw [noL_ints,noL_all (λe=>noL_ro),noL_all (λe=>rfl),noL_all (λe=>by cases e.we<;>rfl)]
  rfl
 have h2:sameA [B21 A xs rows] (B21 A xs rows')=true:=by
  show ((A.pe==A.pe && A.co==A.co && A.sp==A.sp)||false)=true
  simp
 show (bkN _ && sameA _ _ && true)=true
 rw [h1,h2]
 rfl
theorem x_bor {i:Nat} {f:XF} {W W':Wd} {ρ:Rho} {ps:List PV} {p:PV} (hi:ρ[i]? =some (some (.m (.lst ps)))) (h:f W (ρ.set i (some (.f (.lst ps))))=some (.ok p,W')) (hp:noL p=true) (hw:(W'.all λb=>bkN b && sameA W b)=true):xBor i f W ρ=some (.ok p,W'):=by
 unfold xBor
 rw [hi]
 show Option.bind (f W (ρ.set i (some (.f (.lst ps))))) _=_
 rw [h,Option.bind_some]
 show (if (noL p && _)=true then _ else _)=_
 rw [hp,hw]
 rfl
theorem tupsL_ws: ∀ {ws:List (Int×Int)},tupsL (ws.map winP)=some (ws.map λw=> [V.int w.1,V.int w.2])
 | []=>rfl
 |w::ws=>by
  show ((allV [.int w.1,.int w.2]).bind λv=>(tupsL (ws.map winP)).map (v:: ·))=_
  rw [tupsL_ws]
  rfl
theorem eqT_ws {ws:List (Int×Int)}:eqT (ws.map λw=> [V.int w.1,V.int w.2]) (ws.map λw=> [V.int w.1,V.int w.2])=true:=by
 unfold eqT
 rw [Bool.and_eq_true,List.all_eq_true]
 refine ⟨λj hj=> ?_,by simp⟩
 have hj:=List.mem_range.mp hj
 rw [List.length_map] at hj
 have e:(ws.map λw=> [V.int w.1,V.int w.2]).getD j []= [V.int (ws.getD j (0,0)).1,V.int (ws.getD j (0,0)).2]:=by
  have hj2:j<ws.length:=by omega
  rw [List.getD_eq_getElem?_getD,List.getElem?_map,List.getElem?_eq_getElem hj2,List.getD_eq_getElem?_getD,List.getElem?_eq_getElem hj2]
  rfl
 rw [e]
 show ((eqV (V.int (ws.getD j (0,0)).1) (V.int (ws.getD j (0,0)).1) && (eqV (V.int (ws.getD j (0,0)).2) (V.int (ws.getD j (0,0)).2) && true)) && true)=true
 rw [eqV_refl rfl,eqV_refl rfl]
 rfl
theorem pNeT_ws {ws:List (Int×Int)}:pNeT (.tpf (ws.map winP)) (.tpf (ws.map winP))=some (.bl false):=by
 unfold pNeT
 show (tupsL (ws.map winP)).bind (λa=>(tupsL (ws.map winP)).map λb=>PV.bl (!eqT a b))=_
 rw [tupsL_ws,Option.bind_some]
 show some (PV.bl (!eqT _ _))=_
 rw [eqT_ws]
 rfl
theorem s_put21 {ρ:Rho} {i:Nat} {xs:List PV} {f g:EF} {p:PV} (hi:ρ[i]? =some (some (.m (.lst xs)))) (h:f ρ=some p) (hg:g ρ=some (.int 0)) (hk:0<xs.length):sPut i g f ρ=some (.nx (ρ.set i (some (.m (.lst (xs.set 0 p)))))):=by
 unfold sPut
 rw [hi]
 show (Option.bind (f ρ) _)=_
 rw [h,Option.bind_some,hg,Option.bind_some]
 show Option.map _ (ixN xs.length 0)=_
 rw [show ixN xs.length 0=some 0 from ixN_nat0 hk]
 rfl
section
variable {A:BkA} {xs:List Int} {rows:List Ro} (hA:Acc rows)
include hA
omit hA in
theorem fin_x {f:SX} {W W':Wd} {ρ:Rho} {p:PV} (h:f W ρ=some (.rt p W')):(f W ρ).bind FinX1=some (.ok p,W'):=by rw [h];rfl
omit hA in
theorem sx_retm {f:XF} {W W':Wd} {ρ:Rho} {p:PV} (h:f W ρ=some (.ok p,W')):sxRet f W ρ=some (.rt p W'):=by unfold sxRet;rw [h];rfl
theorem e_LCallA {d:Int} {x:De} (hx: ∀t ws bk,x≠ .rule t ws bk) (h:refuse (roundsT rows) rows.getLast? rows.length ⟨rows.length,d,x⟩=none):m_LCall [B21 A xs rows] [.ob A.b,.str (wordOf x),.int d,toldP x]=some (.ok (.int rows.length),[B21 A xs (rows++ [⟨rows.length,d,x⟩])]):=by
 unfold m_LCall g_LCall
 rw [mkMX_ev,if_pos (show ([.ob A.b,.str (wordOf x),.int d,toldP x]:List PV).length=4 from rfl)]
 cases x with
 |claim c=>
  refine fin_x (sxR ((sx_ifT ?_).trans (sx_retm ((x_mt (b:=B21 A xs rows) rfl (xa_l (ps:= [.int d,.int c.n,.int c.a,.int c.b,.int c.w]) ?_)).trans (b_Claim hA h)))))
  ·rfl
  ·rfl
 |carry c=>
  refine fin_x ((sx1 ((sx_ifF ?_).trans rfl)).trans (sxR ((sx_ifT ?_).trans (sx_retm ((x_mt (b:=B21 A xs rows) rfl (xa_l (ps:= [.int d,.int c]) ?_)).trans (b_Carry hA h))))))
  ·rfl
  ·rfl
  ·rfl
 |step t s k m l=>
  refine fin_x ((sx1 ((sx_ifF ?_).trans rfl)).trans ((sx1 ((sx_ifF ?_).trans rfl)).trans (sxR ((sx_ifT ?_).trans (sx_retm ((x_mt (b:=B21 A xs rows) rfl (xa_l (ps:= [.int d,.int t,.int s,.str k,.int m,.str l]) ?_)).trans (b_Step hA h)))))))
  ·rfl
  ·rfl
  ·rfl
  ·rfl
 |offer t c a=>
  refine fin_x ((sx1 ((sx_ifF ?_).trans rfl)).trans ((sx1 ((sx_ifF ?_).trans rfl)).trans ((sx1 ((sx_ifF ?_).trans rfl)).trans (sxR ((sx_ifT ?_).trans (sx_retm ((x_mt (b:=B21 A xs rows) rfl (xa_l (ps:= [.int d,.int t,.int c,.int a]) ?_)).trans (b_Offer hA h))))))))
  ·rfl
  ·rfl
  ·rfl
  ·rfl
  ·rfl
 |rule t ws bk=>exact absurd rfl (hx t ws bk)
 |pay s p c=>
  refine fin_x ((sx1 ((sx_ifF ?_).trans rfl)).trans ((sx1 ((sx_ifF ?_).trans rfl)).trans ((sx1 ((sx_ifF ?_).trans rfl)).trans ((sx1 ((sx_ifF ?_).trans rfl)).trans (sxR ((sx_ifT ?_).trans (sx_retm ((x_mt (b:=B21 A xs rows) rfl (xa_l (ps:= [.int d,.int s,.int p,.int c]) ?_)).trans (b_Pay hA h)))))))))
  ·rfl
  ·rfl
  ·rfl
  ·rfl
  ·rfl
  ·rfl
 |dun s=>
  refine fin_x ((sx1 ((sx_ifF ?_).trans rfl)).trans ((sx1 ((sx_ifF ?_).trans rfl)).trans ((sx1 ((sx_ifF ?_).trans rfl)).trans ((sx1 ((sx_ifF ?_).trans rfl)).trans ((sx1 ((sx_ifF ?_).trans rfl)).trans (sx_retm ((x_mt (b:=B21 A xs rows) rfl (xa_l (ps:= [.int d,.int s]) ?_)).trans (b_Dun hA h))))))))
  ·rfl
  ·rfl
  ·rfl
  ·rfl
  ·rfl
  ·rfl
def R8 (o:PV) (r:Ro) (sh:Bool) (e6 e7:Option SV):Rho:= [some (.f o),some (.f (lrP r)),some (.f (.bl sh)),some (.f (.str (wordOf r.x))),some (.f (.int r.d)),some (.f (toldP r.x)),e6,e7]
theorem e_LShortA {d:Int} {x:De} {sh:Bool} (hz:TxE x) (h:refuse (roundsT rows) rows.getLast? rows.length ⟨rows.length,d,x⟩=none):m_LShort [B21 A xs rows] [.ob A.b,lrP ⟨rows.length,d,x⟩,.bl sh]=some (.ok (.int rows.length),[B21 A xs (rows++ [⟨rows.length,d,x⟩])]):=by
 unfold m_LShort g_LShort
 rw [mkMX_ev,if_pos (show ([.ob A.b,lrP ⟨rows.length,d,x⟩,.bl sh]:List PV).length=3 from rfl)]
 refine fin_x ((sx1 (W':= [B21 A xs rows]) (ρ':=R8 (.ob A.b) ⟨rows.length,d,x⟩ sh none none) (sx_l ?_)).trans ?_)
 ·show sAsgG (eSl pSlT (eV 1) (ePart (eC (.int 1))) eNoPart) (tgT 3 (tgCons (tgN 3) (tgCons (tgN 4) (tgCons (tgN 5) tgNil)))) [some (.f (.ob A.b)),some (.f (lrP ⟨rows.length,d,x⟩)),some (.f (.bl sh)),none,none,none,none,none]=_
  rfl
 have call: ∀(hr: ∀t ws bk,x≠ .rule t ws bk),sxRet (xCl m_LCall (xaL (aC (eW 0) (aC (eW 3) (aC (eW 4) (aC (eW 5) aN)))))) [B21 A xs rows] (R8 (.ob A.b) ⟨rows.length,d,x⟩ sh none none)=some (.rt (.int rows.length) [B21 A xs (rows++ [⟨rows.length,d,x⟩])]):=λhr=>by
  refine sx_retm ?_
  unfold xCl
  rw [show (xaL (aC (eW 0) (aC (eW 3) (aC (eW 4) (aC (eW 5) aN)))):XA) [B21 A xs rows] (R8 (.ob A.b) ⟨rows.length,d,x⟩ sh none none)=some (.ok [.ob A.b,.str (wordOf x),.int d,toldP x],[B21 A xs rows]) from rfl,Option.bind_some]
  exact e_LCallA hA hr h
 by_cases hr: ∃t ws bk,x= .rule t ws bk
 ·obtain ⟨t,ws,bk,rfl⟩:=hr
  obtain ⟨b1,b2,b3⟩:=hz
  refine (sx1 ((sx_ifF ?_).trans rfl)).trans (sxR ((sx_ifT rfl).trans ?_))
  ·cases sh<;>rfl
  refine (sx1 (W':= [B21 A xs rows]) (ρ':=R8 (.ob A.b) ⟨rows.length,d,.rule t ws bk⟩ sh (some (.m (.lst (ws.map winP)))) none) (sx_l rfl)).trans ?_
  have got:(sxIf (tyAnd (asB (eV 2)) (tyNot (asB (eOp pIx (eV 5) (eC (.int 2)))))) (sxAsg 7 (xBor 6 (xMt m_BookRule [.bl false] (eW 0) (xaL (aC (eW 4) (aC (eOp pIx (eV 5) (eC (.int 0))) (aC (eW 6) aN))))))) (sxAsg 7 (xBor 6 (xMt m_BookRule [] (eW 0) (xaL (aC (eW 4) (aC (eOp pIx (eV 5) (eC (.int 0))) (aC (eW 6) (aC (eOp pIx (eV 5) (eC (.int 2))) aN))))))))) [B21 A xs rows] (R8 (.ob A.b) ⟨rows.length,d,.rule t ws bk⟩ sh (some (.m (.lst (ws.map winP)))) none)=some (.nx (R8 (.ob A.b) ⟨rows.length,d,.rule t ws bk⟩ sh (some (.m (.lst (ws.map winP)))) (some (.f (.int rows.length)))) [B21 A xs (rows++ [⟨rows.length,d,.rule t ws bk⟩])]):=by
   have hb:=b_Rule (A:=A) (pl:=iP xs) (co:= [.tup [.int 10,.int 3]]) (sp:= [.tup [.int 10,.int 4]]) (rows:=rows) (d:=d) (t:=t) (ws:=ws) (bk:=bk) hA (by omega) h
   have whole:sxAsg 7 (xBor 6 (xMt m_BookRule [] (eW 0) (xaL (aC (eW 4) (aC (eOp pIx (eV 5) (eC (.int 0))) (aC (eW 6) (aC (eOp pIx (eV 5) (eC (.int 2))) aN))))))) [B21 A xs rows] (R8 (.ob A.b) ⟨rows.length,d,.rule t ws bk⟩ sh (some (.m (.lst (ws.map winP)))) none)=some (.nx (R8 (.ob A.b) ⟨rows.length,d,.rule t ws bk⟩ sh (some (.m (.lst (ws.map winP)))) (some (.f (.int rows.length)))) [B21 A xs (rows++ [⟨rows.length,d,.rule t ws bk⟩])]):=
    sx_asg (x_bor rfl ((x_mt (b:=B21 A xs rows) rfl (xa_l (ps:= [.int d,.int t,.lst (ws.map winP),.bl bk]) rfl)).trans hb) rfl bor_ok)
   cases sh with
   |false=>exact (sx_ifF rfl).trans whole
   |true=>
    cases bk with
    |true=>exact (sx_ifF rfl).trans whole
    |false=>
     refine (sx_ifT rfl).trans (sx_asg (x_bor rfl ((x_mt (b:=B21 A xs rows) rfl (xa_l (ps:= [.int d,.int t,.lst (ws.map winP)]) rfl)).trans hb) rfl bor_ok))
  refine (sx1 got).trans ?_
  refine (sx1 (sx_l ((s_ifF ?_).trans rfl))).trans ?_
  ·show (asB (eOp pNeT (eCl pTuple (aC (eV 6) aN)) (eOp pIx (eV 5) (eC (.int 1))))) (R8 (.ob A.b) ⟨rows.length,d,.rule t ws bk⟩ sh (some (.m (.lst (ws.map winP)))) (some (.f (.int rows.length))))=_
   show (Option.bind (pNeT (.tpf (ws.map winP)) (.tpf (ws.map winP))) _)=_
   rw [pNeT_ws]
   rfl
  refine (sx1 (sx_l (s_app (xs:=ws.map winP) (p:= .tup [.int 0,.int 1]) rfl rfl (by rw [List.length_map];omega)))).trans ?_
  refine (sx1 (sx_l (s_put21 (xs:=ws.map winP++ [.tup [.int 0,.int 1]]) (p:= .tup [.int 1,.int 2]) rfl rfl rfl (by rw [List.length_append];simp)))).trans ?_
  exact sx_rt rfl
 ·have hr: ∀t ws bk,x≠ .rule t ws bk:=λt ws bk e=>hr ⟨t,ws,bk,e⟩
  cases x with
  |step t s k m l=>
   by_cases hs:sh=true/\l= "none"
   ·obtain ⟨rfl,rfl⟩:=hs
    exact sxR ((sx_ifT rfl).trans (sx_retm ((x_mt (b:=B21 A xs rows) rfl (xa_l (ps:= [.int d,.int t,.int s,.str k,.int m]) rfl)).trans (b_Step hA h))))
   ·refine (sx1 ((sx_ifF ?_).trans rfl)).trans ((sx1 ((sx_ifF rfl).trans rfl)).trans (call hr))
    cases sh with
    |false=>rfl
    |true=>
     have hl:l≠ "none" :=λe=>hs ⟨rfl,e⟩
     show (asB (eOp pEq (eC (.str l)) (eC (.str "none")))) []=_
     walk_at "ev"
     rw [decide_eq_false hl]
  |rule t ws bk=>exact absurd rfl (hr t ws bk)
  |_=>exact (sx1 ((sx_ifF (by cases sh<;>rfl)).trans rfl)).trans ((sx1 ((sx_ifF rfl).trans rfl)).trans (call hr))
end
theorem sx_mk21 {i:Nat} {f:EA} {g:SX} {A:BkA} {W:Wd} {ρ:Rho} {ps:List PV} {b:Bst} (h:f ρ=some ps) (hb:mkB A ps=some b):sMk i f g A W ρ=g [b] (ρ.set i (some (.f (.ob A.b)))):=by
 unfold sMk
 rw [h,Option.bind_some,hb,Option.bind_some]
theorem acc_pre {xs:List Ro}: ∀(n:Nat) (ys:List Ro),ys.length=n->Acc (xs++ys)->Acc xs
 |0,ys,h,a=>by rw [List.length_eq_zero_iff.mp h,List.append_nil] at a;exact a
 |n+1,ys,h,a=>by
  rcases List.eq_nil_or_concat ys with e|⟨zs,z,e⟩
  ·rw [e] at h;cases h
  ·subst e
   rw [List.concat_eq_append, <-List.append_assoc] at a
   exact acc_pre n zs (by simpa using h) (acc_last a).1
theorem rowsQ_at {ds:List Dd} {done rest:List Ro} {r:Ro} (e:rowsQ ds=done++r::rest):r=⟨(done.length:Int),(ds.getD done.length (0,.dun 0)).1,(ds.getD done.length (0,.dun 0)).2⟩/\done.length<ds.length:=by
 have hl:=congrArg List.length e
 rw [rq_len] at hl
 simp only [List.length_append,List.length_cons] at hl
 have h:=congrArg (λl=>l[done.length]?) e
 simp only [List.getElem?_append_right (Nat.le_refl _),Nat.sub_self,List.getElem?_cons_zero] at h
 unfold rowsQ at h
 rw [List.getElem?_map,List.getElem?_range (by omega)] at h
 cases h
 exact ⟨rfl,by omega⟩
theorem rows_tx {ds:List Dd} (h: ∀x∈ds,TxD x): ∀r∈rowsQ ds,TxR r:=by
 intro r hr
 obtain ⟨k,hk,rfl⟩:=List.mem_map.mp hr
 have hk:=List.mem_range.mp hk
 have:ds.getD k (0,.dun 0)∈ds:=by
  rw [List.getD_eq_getElem?_getD,List.getElem?_eq_getElem hk]
  exact List.getElem_mem hk
 exact h _ this
theorem last_ix {X:List Dd} {d:Int} {x:De}:pIx (.lst ((rowsQ (X++ [(d,x)])).map lrP)) (.int (-1))=some (lrP ⟨(X.length:Int),d,x⟩):=by
 have h:((rowsQ (X++ [(d,x)])).map lrP)=(rowsQ X).map lrP++ [lrP ⟨(X.length:Int),d,x⟩]:=by rw [rq_snoc,List.map_append];rfl
 rw [h]
 have:=pIx_neg (p:= .lst ((rowsQ X).map lrP++ [lrP ⟨(X.length:Int),d,x⟩])) (q:=lrP ⟨(X.length:Int),d,x⟩) (n:=1) rfl (by decide) (by rw [List.length_append];simp) (by rw [List.length_append,List.length_cons,List.length_nil,List.getElem?_append_right (by omega)];simp)
 exact this
abbrev bdR:SX:=(sxSeq (sxAsg 8 (xCl m_LShort (xaL (aC (eW 6) (aC (eW 7) (aC (eW 3) aN))))))
  (sxL (sIf (tyOr (tyNot (asB (eCl m_LInt (aC (eW 8) aN)))) (asB (eOp pNe (eV 8) (eOp pIx (eV 7) (eC (.int 0)))))) (sRet (eC (.bl false))) sNil)))
abbrev end21:SX:=(sxSeq (sxPz 2 (sxFor (iaList (eW 2)) (tgN 7) bdR))
  (sxPz 2 (sxRet (xMap m_LTexts (xaC (xMt m_BookKept [.non] (eW 6) xaN) (xaC (xL (eCl m_LKept_2 (aC (eW 2) aN))) xaN))))))
abbrev law21:BkA->SX:=(lSeq (sxL (sAsg 1 (eCl m_LSides (aC (eCl m_LAt (aC (eW 0) (aC (eC (.int 0)) aN))) (aC (eOp pDiv (eCl m_LAt (aC (eW 0) (aC (eC (.int 0)) aN))) (eC (.int 7))) aN)))))
  (lSeq (sxL (sAsgM 2 (eCl m_LQuarrel (aC (eW 0) (aC (eW 1) (aC (eOp pAdd (eC (.int 1)) (eOp pMod (eCl m_LAt (aC (eW 0) (aC (eC (.int 1)) aN))) (eC (.int 3)))) (aC (eC (.bl false)) aN)))))))
  (lSeq (sxL (sAsg 3 (eOp pEq (eOp pMod (eOp pDiv (eCl m_LAt (aC (eW 0) (aC (eC (.int 1)) aN))) (eC (.int 3))) (eC (.int 2))) (eC (.int 1)))))
  (lSeq (sxL (sAsg 4 (eOp pMod (eCl m_LAt (aC (eW 0) (aC (eC (.int 34)) aN))) (eCl pLen (aC (eV 1) aN)))))
  (lSeq (sxL (sAsg 5 (eTup (aC (eW 4) (aC (eOp pMod (eCl m_LAt (aC (eW 0) (aC (eC (.int 35)) aN))) (eOp pIx (eV 1) (eV 4))) (aC (eCl m_LCoins (aC (eCl m_LAt (aC (eW 0) (aC (eC (.int 36)) aN))) aN)) aN))))))
  (lSeq (sxL (sApp 2 (eTup (aC (eCl pLen (aC (eV 2) aN)) (aC (eC (.str "pay")) (aC (eOp pIx (eOp pIx (eV 2) (eNeg (eC (.int 1)))) (eC (.int 2))) (aC (eW 5) aN)))))))
  (lSeq (sxL (sApp 2 (eTup (aC (eCl pLen (aC (eV 2) aN)) (aC (eC (.str "dun")) (aC (eOp pIx (eOp pIx (eV 2) (eNeg (eC (.int 1)))) (eC (.int 2))) (aC (eTup (aC (eW 4) aN)) aN)))))))
  (sMk 6 (aC (eCl pList (aC (eV 1) aN)) (aC (eLst (aC (eTup (aC (eC (.int 10)) (aC (eC (.int 3)) aN))) aN)) (aC (eLst (aC (eTup (aC (eC (.int 10)) (aC (eC (.int 4)) aN))) aN)) aN)))
  end21))))))))
section
variable (ns:List Int)
def zN:Nat:=(2+cell ns 0 % 7).toNat
def zX:List Int:=sidesT (zN ns) (cell ns 0/7)
def zO:Nat:=(1+cell ns 1 % 3).toNat
def zB:Bool:=decide (cell ns 1/3 % 2=1)
def zS:Int:=cell ns 34 % (zN ns:Int)
def zW:Int:=(zX ns).getD (zS ns).toNat 0
def zP:Int:=cell ns 35 % zW ns
def zC:Int:=coinsL (cell ns 36)
def zQ:QS:=allQ ns (zN ns) (zO ns)
def z1:List Dd:=(zQ ns).ds++ [((zQ ns).dy,.pay (zS ns) (zP ns) (zC ns))]
def z2:List Dd:=z1 ns++ [((zQ ns).dy,.dun (zS ns))]
theorem zN_bd:2<=zN ns/\zN ns<=8:=by unfold zN;omega
theorem zX_len:(zX ns).length=zN ns:=by unfold zX sidesT;rw [List.length_map,List.length_range]
theorem zO_bd:1<=zO ns/\zO ns<=3:=by unfold zO;omega
theorem zS_bd:0<=zS ns/\zS ns<zN ns:=by
 have:=zN_bd ns
 unfold zS
 exact ⟨Int.emod_nonneg _ (by omega),Int.emod_lt_of_pos _ (by omega)⟩
theorem zX_ix:pIx (.lst (iP (zX ns))) (.int (zS ns))=some (.int (zW ns)):=by
 have h:=zS_bd ns
 have:=ix_scr (p:= .lst (iP (zX ns))) (ns:=zX ns) (k:=zS ns) (.inl rfl) (by rw [zX_len];exact h)
 exact this
theorem zW_bd:1<=zW ns/\zW ns<=6:=by
 have h:=zS_bd ns
 have hk:(zS ns).toNat<zN ns:=by omega
 have:zW ns=1+itd 6 (zS ns).toNat (cell ns 0/7) % 6:=by
  unfold zW zX sidesT
  rw [List.getD_eq_getElem?_getD,List.getElem?_map,List.getElem?_range hk]
  rfl
 omega
theorem z_last: ∃X x,(zQ ns).ds=X++ [((zQ ns).dy,x)]:=by
 have:=zO_bd ns
 obtain ⟨s,hs⟩: ∃s,zO ns=s+1:=⟨zO ns - 1,by omega⟩
 unfold zQ
 rw [hs]
 exact ⟨_,_,rfl⟩
theorem z_sz:(zQ ns).ds.length<=100:=by
 have:=(all_sz (ns:=ns) (many:=(zN ns:Int)) (zO ns)).d
 have:=zO_bd ns
 unfold zQ
 omega
theorem z_ok:Acc (rowsQ (z2 ns))/\ ∀x∈z2 ns,TxD x:=by
 have hn:=zN_bd ns
 have ho:=zO_bd ns
 have k:=all_ok (ns:=ns) (many:=(zN ns:Int)) (by omega) (zO ns) ho.2
 have hz:=z_sz ns
 have hdy:=k.dy
 rcases k.st with ⟨h0,_⟩|⟨pp,hp,h1⟩
 ·omega
 ·have h2:=(QI.pay (s:=zS ns) (p:=zP ns) (c:=zC ns) h1 (Int.le_refl _) (by show (zQ ns).ds.length<300;omega)).1
  have h3:=(QI.dun (s:=zS ns) h2 (Int.le_refl _) (by show ((zQ ns).ds++ [_]).length<300;rw [List.length_append,List.length_cons,List.length_nil];omega)).1
  refine ⟨h3.acc,λx hx=> ?_⟩
  have bs:=zS_bd ns
  have bw:=zW_bd ns
  have bp:0<=zP ns/\zP ns<zW ns:=by unfold zP;exact ⟨Int.emod_nonneg _ (by omega),Int.emod_lt_of_pos _ (by omega)⟩
  have bc:0<=zC ns/\zC ns<=9999999999:=coinsL_bd
  have bd:Bi (zQ ns).dy:=Bi_dy ⟨hdy.1,by have:=hdy.2;show (allQ ns (zN ns) (zO ns)).dy<=_;omega⟩
  rcases List.mem_append.mp hx with hx|hx
  ·rcases List.mem_append.mp hx with hx|hx
   ·exact k.tx x hx
   ·cases List.mem_singleton.mp hx
    exact ⟨bd,⟨by omega,by omega⟩,⟨by omega,by omega⟩,⟨by omega,by omega⟩⟩
  ·cases List.mem_singleton.mp hx
   exact ⟨bd,by show (-1000000000000:Int)<zS ns;omega,by show zS ns<1000000000000;omega⟩
end
section
variable {ns:List Int} {scr:PV} {A:BkA}
def G9 (ns:List Int) (scr o:PV) (e7 e8:Option SV):Rho:= [some (.f scr),some (.f (.lst (iP (zX ns)))),some (.f (.lst ((rowsQ (z2 ns)).map lrP))),some (.f (.bl (zB ns))),some (.f (.int (zS ns))),some (.f (.tup [.int (zS ns),.int (zP ns),.int (zC ns)])),some (.f o),e7,e8]
theorem rows21: ∃e7 e8,loopX (tgN 7) bdR ((rowsQ (z2 ns)).map lrP) [B21 A (zX ns) []] (G9 ns scr (.ob A.b) none none)=some (.nx (G9 ns scr (.ob A.b) e7 e8) [B21 A (zX ns) (rowsQ (z2 ns))]):=by
 obtain ⟨hacc,htx⟩:=z_ok ns
 obtain ⟨ρ',W',h1,⟨e7,e8,h2⟩,h3⟩:=loopX_pre (gg:=tgN 7) (body:=bdR) (enc:=lrP) (xs:=rowsQ (z2 ns)) (λdone ρ W=>(∃e7 e8,ρ=G9 ns scr (.ob A.b) e7 e8)/\W= [B21 A (zX ns) done]) (rowsQ (z2 ns)) [] (G9 ns scr (.ob A.b) none none) [B21 A (zX ns) []] rfl ⟨⟨none,none,rfl⟩,rfl⟩ (by
  rintro done r rest ρ W e ⟨⟨e7,e8,rfl⟩,rfl⟩
  obtain ⟨hr,hlt⟩:=rowsQ_at e
  have ha:Acc (done++ [r]):=by
   rw [e,show done++r::rest=(done++ [r])++rest by simp] at hacc
   exact acc_pre _ rest rfl hacc
  obtain ⟨ha0,_,hf⟩:=acc_last ha
  have hx:TxE ((z2 ns).getD done.length (0,.dun 0)).2:=by
   have:(z2 ns).getD done.length (0,.dun 0)∈z2 ns:=by
    rw [List.getD_eq_getElem?_getD,List.getElem?_eq_getElem hlt]
    exact List.getElem_mem hlt
   exact (htx _ this).2
  subst hr
  have hs:=e_LShortA (A:=A) (xs:=zX ns) (sh:=zB ns) ha0 hx hf
  refine ⟨G9 ns scr (.ob A.b) (some (.f (lrP ⟨(done.length:Int),((z2 ns).getD done.length (0,.dun 0)).1,((z2 ns).getD done.length (0,.dun 0)).2⟩))) e8,_,_,rfl,(sx1 (sx_asg (p:= .int done.length) (W':= [B21 A (zX ns) (done++ [⟨(done.length:Int),((z2 ns).getD done.length (0,.dun 0)).1,((z2 ns).getD done.length (0,.dun 0)).2⟩])]) ?_)).trans (sx_l ((s_ifF ?_).trans rfl)),⟨_,_,rfl⟩,rfl⟩
  ·unfold xCl
   rw [show (xaL (aC (eW 6) (aC (eW 7) (aC (eW 3) aN))):XA) [B21 A (zX ns) done] (G9 ns scr (.ob A.b) (some (.f (lrP ⟨(done.length:Int),((z2 ns).getD done.length (0,.dun 0)).1,((z2 ns).getD done.length (0,.dun 0)).2⟩))) e8)=some (.ok [.ob A.b,lrP ⟨(done.length:Int),((z2 ns).getD done.length (0,.dun 0)).1,((z2 ns).getD done.length (0,.dun 0)).2⟩,.bl (zB ns)],[B21 A (zX ns) done]) from rfl,Option.bind_some]
   exact hs
  ·show (tyOr (tyNot (asB (eCl m_LInt (aC (eC (.int done.length)) aN)))) (asB (eOp pNe (eC (.int done.length)) (eC (.int done.length))))) []=_
   walk_at "ev"
   rw [e_Int]
   walk_at "ev"
   try simp)
 rw [h2,h3] at h1
 exact ⟨e7,e8,h1⟩
theorem end21_ok {e7 e8:Option SV} (h: ∃f7 f8,loopX (tgN 7) bdR ((rowsQ (z2 ns)).map lrP) [B21 A (zX ns) []] (G9 ns scr (.ob A.b) none none)=some (.nx (G9 ns scr (.ob A.b) f7 f8) [B21 A (zX ns) (rowsQ (z2 ns))])):
  end21 [B21 A (zX ns) []] [some (.f scr),some (.f (.lst (iP (zX ns)))),some (.m (.lst ((rowsQ (z2 ns)).map lrP))),some (.f (.bl (zB ns))),some (.f (.int (zS ns))),some (.f (.tup [.int (zS ns),.int (zP ns),.int (zC ns)])),some (.f (.ob A.b)),none,none]=some (.rt (.bl true) [B21 A (zX ns) (rowsQ (z2 ns))]):=by
 obtain ⟨f7,f8,h⟩:=h
 obtain ⟨hacc,htx⟩:=z_ok ns
 have hz:=z_sz ns
 have hl:(rowsQ (z2 ns)).length<=900:=by
  rw [rq_len]
  unfold z2 z1
  simp only [List.length_append,List.length_cons,List.length_nil]
  omega
 have ht:=rows_tx htx
 refine (sx1 (W':= [B21 A (zX ns) (rowsQ (z2 ns))]) (ρ':=G9 ns scr (.ob A.b) f7 f8) ?_).trans ?_
 ·show sxFor (iaList (eW 2)) (tgN 7) bdR [B21 A (zX ns) []] (G9 ns scr (.ob A.b) none none)=_
  exact sx_for rfl h
 ·show sxRet _ [B21 A (zX ns) (rowsQ (z2 ns))] (G9 ns scr (.ob A.b) f7 f8)=_
  have hk:=e_BookKept (A:=A) (pl:=iP (zX ns)) (co:= [.tup [.int 10,.int 3]]) (sp:= [.tup [.int 10,.int 4]]) hl ht
  have hq:=e_LKeptA ht (by omega)
  have hx:=e_LTextsA (ts:=(rowsQ (z2 ns)).map textT) (by rw [List.length_map];omega)
  rw [List.map_map] at hx
  refine sx_retm (x_map (xa_c ((x_mt (b:=B21 A (zX ns) (rowsQ (z2 ns))) (ps:= []) rfl rfl).trans hk) (xa_c (x_l (p:= .lst ((rowsQ (z2 ns)).map λr=> .str (textT r))) ?_) xa_n)) hx)
  exact hq
theorem law21_ok:LawOk 9 law21:=λA scr ns hl hs=>by
 have hs:ScrP scr ns:=hs
 have hn:=zN_bd ns
 have ho:=zO_bd ns
 have hS:=zS_bd ns
 have hW:=zW_bd ns
 have hz:=z_sz ns
 obtain ⟨X,x,hX⟩:=z_last ns
 refine ⟨[B21 A (zX ns) (rowsQ (z2 ns))],?_⟩
 show sxSeq _ (sxSeq _ (sxSeq _ (sxSeq _ (sxSeq _ (sxSeq _ (sxSeq _ (sMk _ _ _ A))))))) [] _=_
 refine (sx1 (sx_l (ρ':= [some (.f scr),some (.f (.lst (iP (zX ns)))),none,none,none,none,none,none,none]) ?_)).trans ?_
 ·walk_at "ev"
  rw [e_At hs hl]
  try walk_at "ev"
  rw [e_Sides]
  rfl
 refine (sx1 (sx_l (ρ':= [some (.f scr),some (.f (.lst (iP (zX ns)))),some (.m (.lst ((rowsQ (zQ ns).ds).map lrP))),none,none,none,none,none,none]) ?_)).trans ?_
 ·have hq:=e_Quarrel (p:=scr) (xs:=iP (zX ns)) (over:=zO ns) hs hl (by rw [iP_len,zX_len];exact hn) ho.2
  rw [iP_len,zX_len] at hq
  walk_at "ev"
  rw [e_At hs hl]
  try walk_at "ev"
  rw [show (1:Int)+cell ns 1 % 3=((zO ns:Nat):Int) by unfold zO;omega,hq]
  rfl
 refine (sx1 (sx_l (ρ':= [some (.f scr),some (.f (.lst (iP (zX ns)))),some (.m (.lst ((rowsQ (zQ ns).ds).map lrP))),some (.f (.bl (zB ns))),none,none,none,none,none]) ?_)).trans ?_
 ·walk_at "ev"
  rw [e_At hs hl]
  try walk_at "ev"
  rfl
 refine (sx1 (sx_l (ρ':= [some (.f scr),some (.f (.lst (iP (zX ns)))),some (.m (.lst ((rowsQ (zQ ns).ds).map lrP))),some (.f (.bl (zB ns))),some (.f (.int (zS ns))),none,none,none,none]) ?_)).trans ?_
 ·walk_at "ev"
  rw [e_At hs hl]
  try walk_at "ev"
  rw [iP_len,zX_len,if_pos (show (0:Int)<zN ns by omega)]
  rfl
 refine (sx1 (sx_l (ρ':= [some (.f scr),some (.f (.lst (iP (zX ns)))),some (.m (.lst ((rowsQ (zQ ns).ds).map lrP))),some (.f (.bl (zB ns))),some (.f (.int (zS ns))),some (.f (.tup [.int (zS ns),.int (zP ns),.int (zC ns)])),none,none,none]) ?_)).trans ?_
 ·walk_at "ev"
  rw [e_At hs hl,e_At hs hl,zX_ix]
  try walk_at "ev"
  rw [e_Coins]
  try walk_at "ev"
  rw [if_pos (show (0:Int)<zW ns by omega)]
  rfl
 refine (sx1 (sx_l (ρ':= [some (.f scr),some (.f (.lst (iP (zX ns)))),some (.m (.lst ((rowsQ (z1 ns)).map lrP))),some (.f (.bl (zB ns))),some (.f (.int (zS ns))),some (.f (.tup [.int (zS ns),.int (zP ns),.int (zC ns)])),none,none,none]) ?_)).trans ?_
 ·have e:(rowsQ (z1 ns)).map lrP=(rowsQ (zQ ns).ds).map lrP++ [lrP ⟨((zQ ns).ds.length:Int),(zQ ns).dy,.pay (zS ns) (zP ns) (zC ns)⟩]:=by
   unfold z1;rw [rq_snoc,List.map_append];rfl
  rw [e]
  refine (s_app (p:=lrP ⟨((zQ ns).ds.length:Int),(zQ ns).dy,.pay (zS ns) (zP ns) (zC ns)⟩) rfl ?_ (by rw [List.length_map,rq_len];omega)).trans rfl
  have hlx:pIx (.lst ((rowsQ (zQ ns).ds).map lrP)) (.int (-1))=some (lrP ⟨(X.length:Int),(zQ ns).dy,x⟩):=by rw [hX];exact last_ix
  walk_at "ev"
  rw [hlx]
  unfold lrP
  walk_at "ev"
  rw [rq_len]
  rfl
 refine (sx1 (sx_l (ρ':= [some (.f scr),some (.f (.lst (iP (zX ns)))),some (.m (.lst ((rowsQ (z2 ns)).map lrP))),some (.f (.bl (zB ns))),some (.f (.int (zS ns))),some (.f (.tup [.int (zS ns),.int (zP ns),.int (zC ns)])),none,none,none]) ?_)).trans ?_
 ·have e:(rowsQ (z2 ns)).map lrP=(rowsQ (z1 ns)).map lrP++ [lrP ⟨((z1 ns).length:Int),(zQ ns).dy,.dun (zS ns)⟩]:=by
   unfold z2;rw [rq_snoc,List.map_append];rfl
  rw [e]
  refine (s_app (p:=lrP ⟨((z1 ns).length:Int),(zQ ns).dy,.dun (zS ns)⟩) rfl ?_ (by rw [List.length_map,rq_len];unfold z1;rw [List.length_append,List.length_cons,List.length_nil];omega)).trans rfl
  have hlx:pIx (.lst ((rowsQ (z1 ns)).map lrP)) (.int (-1))=some (lrP ⟨((zQ ns).ds.length:Int),(zQ ns).dy,.pay (zS ns) (zP ns) (zC ns)⟩):=last_ix
  walk_at "ev"
  rw [hlx]
  unfold lrP
  walk_at "ev"
  rw [rq_len]
  rfl
 refine (sx_mk21 (ps:= [.lst (iP (zX ns)),.lst [.tup [.int 10,.int 3]],.lst [.tup [.int 10,.int 4]]]) (b:=B21 A (zX ns) []) ?_ rfl).trans ?_
 ·walk_at "ev"
 exact end21_ok (e7:=none) (e8:=none) rows21
end
end My
set_option maxHeartbeats 4000000
namespace My
open PySem L2
def top (i:Nat):Stmt:=PySem.Challenge.pw_costorder_k21_rows_as_texts.main.body.getD i (.Pass ⟨0,0,0,0⟩)
abbrev sClaimRow:Stmt:=top 22
abbrev sCarryRow:Stmt:=top 23
abbrev sStepRow:Stmt:=top 24
abbrev sOfferRow:Stmt:=top 25
abbrev sRuleRow:Stmt:=top 26
abbrev sPayRow:Stmt:=top 27
abbrev sDunRow:Stmt:=top 28
abbrev sRowText:Stmt:=top 29
abbrev sRuleText:Stmt:=top 30
abbrev sRoundsOf:Stmt:=top 31
abbrev sPutRow:Stmt:=top 32
abbrev sOverOf:Stmt:=top 33
abbrev sClaimsOf:Stmt:=top 34
abbrev sFindClaim:Stmt:=top 35
abbrev sCheckRow:Stmt:=top 36
abbrev sCheckNext:Stmt:=top 37
abbrev sLacksClaim:Stmt:=top 38
abbrev sMeetsOver:Stmt:=top 39
abbrev sComesTwice:Stmt:=top 40
abbrev sNamesTooMuch:Stmt:=top 41
abbrev sWorthIn:Stmt:=top 42
abbrev sLAt:Stmt:=top 46
abbrev sLInt:Stmt:=top 47
abbrev sLTexts:Stmt:=top 48
abbrev sLWorth:Stmt:=top 49
abbrev sLCoins:Stmt:=top 50
abbrev sLSides:Stmt:=top 51
abbrev sLCall:Stmt:=top 52
abbrev sLWins:Stmt:=top 53
abbrev sLStep:Stmt:=top 54
abbrev sLClaim:Stmt:=top 55
abbrev sLText:Stmt:=top 56
abbrev sLKept:Stmt:=top 57
abbrev sLQuarrelDeed:Stmt:=top 58
abbrev sLQuarrelClaims:Stmt:=top 59
abbrev sLQuarrel:Stmt:=top 60
abbrev sLShort:Stmt:=top 61
abbrev sLaw:Stmt:=top 62
abbrev sBookInit:Stmt:=inClass (top 44) 0
abbrev sBookClaim:Stmt:=inClass (top 44) 1
abbrev sBookCarry:Stmt:=inClass (top 44) 2
abbrev sBookStep:Stmt:=inClass (top 44) 3
abbrev sBookOffer:Stmt:=inClass (top 44) 4
abbrev sBookRule:Stmt:=inClass (top 44) 5
abbrev sBookPay:Stmt:=inClass (top 44) 6
abbrev sBookDun:Stmt:=inClass (top 44) 7
abbrev sBookWrite:Stmt:=inClass (top 44) 8
abbrev sBookMark:Stmt:=inClass (top 44) 10
abbrev sBookRowsKept:Stmt:=inClass (top 44) 11
abbrev sBookKept:Stmt:=inClass (top 44) 12
structure Txt (P:Program) (w:World) (K:Frag) (mg:Str->Option Value) (cB c_Full c_NoClaim c_RoundOver c_TooLate c_Twice c_TooMuch:Addr):Prop where
 b_any:mg "any" =none
 b_bool:mg "bool" =none
 b_int:mg "int" =none
 b_isinstance:mg "isinstance" =none
 b_len:mg "len" =none
 b_list:mg "list" =none
 b_max:mg "max" =none
 b_min:mg "min" =none
 b_range:mg "range" =none
 b_set:mg "set" =none
 b_str:mg "str" =none
 b_tuple:mg "tuple" =none
 b_zip:mg "zip" =none
 c_CLAIM: ∃t,mg "CLAIM" =some (.int (3) t)
 c_DAY: ∃t,mg "DAY" =some (.int (2) t)
 c_MOST_ROWS: ∃t,mg "MOST_ROWS" =some (.int (300) t)
 c_NUMBER: ∃t,mg "NUMBER" =some (.int (0) t)
 c_OFFER_AMOUNT: ∃t,mg "OFFER_AMOUNT" =some (.int (5) t)
 c_OFFER_CLAIM: ∃t,mg "OFFER_CLAIM" =some (.int (4) t)
 c_ROUNDS: ∃t,mg "ROUNDS" =some (.int (3) t)
 c_RULE_BACK: ∃t,mg "RULE_BACK" =some (.int (4) t)
 c_RULE_WINS: ∃t,mg "RULE_WINS" =some (.int (5) t)
 c_TURN: ∃t,mg "TURN" =some (.int (3) t)
 c_WORD: ∃t,mg "WORD" =some (.int (1) t)
 c_WORTH: ∃t,mg "WORTH" =some (.int (3) t)
 cl:Cls K cB
 mgC:mg "Book" =some (.ref cB)
 n_people:NoAttr K cB "people"
 n_court:NoAttr K cB "court"
 n_speakers:NoAttr K cB "speakers"
 n_rows:NoAttr K cB "rows"
 n_came:NoAttr K cB "came"
 n_went:NoAttr K cB "went"
 n_done:NoAttr K cB "done"
 y_Full:mg "Full" =some (.ref c_Full)
 y_NoClaim:mg "NoClaim" =some (.ref c_NoClaim)
 y_RoundOver:mg "RoundOver" =some (.ref c_RoundOver)
 y_TooLate:mg "TooLate" =some (.ref c_TooLate)
 y_Twice:mg "Twice" =some (.ref c_Twice)
 y_TooMuch:mg "TooMuch" =some (.ref c_TooMuch)
 x_Full:ExcCls K c_Full
 x_NoClaim:ExcCls K c_NoClaim
 x_RoundOver:ExcCls K c_RoundOver
 x_TooLate:ExcCls K c_TooLate
 x_Twice:ExcCls K c_Twice
 x_TooMuch:ExcCls K c_TooMuch
def g_LawK21:BkA->SX:=(lSeq (sxL (sAsg 1 (eCl m_LSides (aC (eCl m_LAt (aC (eW 0) (aC (eC (.int 0)) aN))) (aC (eOp pDiv (eCl m_LAt (aC (eW 0) (aC (eC (.int 0)) aN))) (eC (.int 7))) aN)))))
  (lSeq (sxL (sAsgM 2 (eCl m_LQuarrel (aC (eW 0) (aC (eW 1) (aC (eOp pAdd (eC (.int 1)) (eOp pMod (eCl m_LAt (aC (eW 0) (aC (eC (.int 1)) aN))) (eC (.int 3)))) (aC (eC (.bl false)) aN)))))))
  (lSeq (sxL (sAsg 3 (eOp pEq (eOp pMod (eOp pDiv (eCl m_LAt (aC (eW 0) (aC (eC (.int 1)) aN))) (eC (.int 3))) (eC (.int 2))) (eC (.int 1)))))
  (lSeq (sxL (sAsg 4 (eOp pMod (eCl m_LAt (aC (eW 0) (aC (eC (.int 34)) aN))) (eCl pLen (aC (eV 1) aN)))))
  (lSeq (sxL (sAsg 5 (eTup (aC (eW 4) (aC (eOp pMod (eCl m_LAt (aC (eW 0) (aC (eC (.int 35)) aN))) (eOp pIx (eV 1) (eV 4))) (aC (eCl m_LCoins (aC (eCl m_LAt (aC (eW 0) (aC (eC (.int 36)) aN))) aN)) aN))))))
  (lSeq (sxL (sApp 2 (eTup (aC (eCl pLen (aC (eV 2) aN)) (aC (eC (.str "pay")) (aC (eOp pIx (eOp pIx (eV 2) (eNeg (eC (.int 1)))) (eC (.int 2))) (aC (eW 5) aN)))))))
  (lSeq (sxL (sApp 2 (eTup (aC (eCl pLen (aC (eV 2) aN)) (aC (eC (.str "dun")) (aC (eOp pIx (eOp pIx (eV 2) (eNeg (eC (.int 1)))) (eC (.int 2))) (aC (eTup (aC (eW 4) aN)) aN)))))))
  (sMk 6 (aC (eCl pList (aC (eV 1) aN)) (aC (eLst (aC (eTup (aC (eC (.int 10)) (aC (eC (.int 3)) aN))) aN)) (aC (eLst (aC (eTup (aC (eC (.int 10)) (aC (eC (.int 4)) aN))) aN)) aN)))
  (sxSeq (sxPz 2 (sxFor (iaList (eW 2)) (tgN 7) (sxSeq (sxAsg 8 (xCl m_LShort (xaL (aC (eW 6) (aC (eW 7) (aC (eW 3) aN))))))
  (sxL (sIf (tyOr (tyNot (asB (eCl m_LInt (aC (eW 8) aN)))) (asB (eOp pNe (eV 8) (eOp pIx (eV 7) (eC (.int 0)))))) (sRet (eC (.bl false))) sNil)))))
  (sxPz 2 (sxRet (xMap m_LTexts (xaC (xMt m_BookKept [.non] (eW 6) xaN) (xaC (xL (eCl m_LKept_2 (aC (eW 2) aN))) xaN))))))))))))))
theorem law_ok:LawOk 9 g_LawK21:=law21_ok
section
variable {P:Program} {w:World} {K:Frag} {mg:Str->Option Value} {base:Heap} {cB c_Full c_NoClaim c_RoundOver c_TooLate c_Twice c_TooMuch cS pS:Addr} {tb:Hp->Prop}
theorem scClaimRow:FnScope ["number","day","claim","asker","answerer","worth"] ["number","day","claim","asker","answerer","worth"] (defScope sClaimRow):=⟨rfl,rfl,rfl,by decide+kernel,rfl,by decide+kernel,by decide+kernel⟩
theorem scCarryRow:FnScope ["number","day","claim"] ["number","day","claim"] (defScope sCarryRow):=⟨rfl,rfl,rfl,by decide+kernel,rfl,by decide+kernel,by decide+kernel⟩
theorem scStepRow:FnScope ["number","day","turn","side","kind","many","laid"] ["number","day","turn","side","kind","many","laid"] (defScope sStepRow):=⟨rfl,rfl,rfl,by decide+kernel,rfl,by decide+kernel,by decide+kernel⟩
theorem scOfferRow:FnScope ["number","day","turn","claim","amount"] ["number","day","turn","claim","amount"] (defScope sOfferRow):=⟨rfl,rfl,rfl,by decide+kernel,rfl,by decide+kernel,by decide+kernel⟩
theorem scRuleRow:FnScope ["number","day","turn","wins","back"] ["number","day","turn","wins","back"] (defScope sRuleRow):=⟨rfl,rfl,rfl,by decide+kernel,rfl,by decide+kernel,by decide+kernel⟩
theorem scPayRow:FnScope ["number","day","side","person","coins"] ["number","day","side","person","coins"] (defScope sPayRow):=⟨rfl,rfl,rfl,by decide+kernel,rfl,by decide+kernel,by decide+kernel⟩
theorem scDunRow:FnScope ["number","day","side"] ["number","day","side"] (defScope sDunRow):=⟨rfl,rfl,rfl,by decide+kernel,rfl,by decide+kernel,by decide+kernel⟩
theorem scRuleText:FnScope ["row","words","claim","won"] ["row"] (defScope sRuleText):=⟨rfl,rfl,rfl,by decide+kernel,rfl,by decide+kernel,by decide+kernel⟩
theorem scRowText:FnScope ["row"] ["row"] (defScope sRowText):=⟨rfl,rfl,rfl,by decide+kernel,rfl,by decide+kernel,by decide+kernel⟩
theorem scFindClaim:FnScope ["claims","number","claim"] ["claims","number"] (defScope sFindClaim):=⟨rfl,rfl,rfl,by decide+kernel,rfl,by decide+kernel,by decide+kernel⟩
theorem scPutRow:FnScope ["rounds","row"] ["rounds","row"] (defScope sPutRow):=⟨rfl,rfl,rfl,by decide+kernel,rfl,by decide+kernel,by decide+kernel⟩
theorem scRoundsOf:FnScope ["rows","rounds","row"] ["rows"] (defScope sRoundsOf):=⟨rfl,rfl,rfl,by decide+kernel,rfl,by decide+kernel,by decide+kernel⟩
theorem scOverOf:FnScope ["rounds"] ["rounds"] (defScope sOverOf):=⟨rfl,rfl,rfl,by decide+kernel,rfl,by decide+kernel,by decide+kernel⟩
theorem scClaimsOf:FnScope ["rounds","turn"] ["rounds","turn"] (defScope sClaimsOf):=⟨rfl,rfl,rfl,by decide+kernel,rfl,by decide+kernel,by decide+kernel⟩
theorem scComesTwice:FnScope ["rounds","row","named"] ["rounds","row"] (defScope sComesTwice):=⟨rfl,rfl,rfl,by decide+kernel,rfl,by decide+kernel,by decide+kernel⟩
theorem scLacksClaim:FnScope ["rounds","row","claims"] ["rounds","row"] (defScope sLacksClaim):=⟨rfl,rfl,rfl,by decide+kernel,rfl,by decide+kernel,by decide+kernel⟩
theorem scMeetsOver:FnScope ["rounds","row"] ["rounds","row"] (defScope sMeetsOver):=⟨rfl,rfl,rfl,by decide+kernel,rfl,by decide+kernel,by decide+kernel⟩
theorem scWorthIn:FnScope ["rounds","row","claim"] ["rounds","row","claim"] (defScope sWorthIn):=⟨rfl,rfl,rfl,by decide+kernel,rfl,by decide+kernel,by decide+kernel⟩
theorem scNamesTooMuch:FnScope ["rounds","row"] ["rounds","row"] (defScope sNamesTooMuch):=⟨rfl,rfl,rfl,by decide+kernel,rfl,by decide+kernel,by decide+kernel⟩
theorem scCheckNext:FnScope ["rounds","last","written","row"] ["rounds","last","written","row"] (defScope sCheckNext):=⟨rfl,rfl,rfl,by decide+kernel,rfl,by decide+kernel,by decide+kernel⟩
theorem scCheckRow:FnScope ["rows","written","row"] ["rows","written","row"] (defScope sCheckRow):=⟨rfl,rfl,rfl,by decide+kernel,rfl,by decide+kernel,by decide+kernel⟩
theorem scLAt:FnScope ["_law_script","_law_k"] ["_law_script","_law_k"] (defScope sLAt):=⟨rfl,rfl,rfl,by decide+kernel,rfl,by decide+kernel,by decide+kernel⟩
theorem scLInt:FnScope ["_law_got"] ["_law_got"] (defScope sLInt):=⟨rfl,rfl,rfl,by decide+kernel,rfl,by decide+kernel,by decide+kernel⟩
theorem scLTexts:FnScope ["_law_got","_law_due","_law_k"] ["_law_got","_law_due"] (defScope sLTexts):=⟨rfl,rfl,rfl,by decide+kernel,rfl,by decide+kernel,by decide+kernel⟩
theorem scLWorth:FnScope ["_law_cell"] ["_law_cell"] (defScope sLWorth):=⟨rfl,rfl,rfl,by decide+kernel,rfl,by decide+kernel,by decide+kernel⟩
theorem scLCoins:FnScope ["_law_cell"] ["_law_cell"] (defScope sLCoins):=⟨rfl,rfl,rfl,by decide+kernel,rfl,by decide+kernel,by decide+kernel⟩
theorem scLSides:FnScope ["_law_cell","_law_other","_law_sides_here","_law_k"] ["_law_cell","_law_other"] (defScope sLSides):=⟨rfl,rfl,rfl,by decide+kernel,rfl,by decide+kernel,by decide+kernel⟩
theorem scBookRowsKept:FnScope ["self","mark","at"] ["self","mark"] (defScope sBookRowsKept):=⟨rfl,rfl,rfl,by decide+kernel,rfl,by decide+kernel,by decide+kernel⟩
theorem scBookWrite:FnScope ["self","row"] ["self","row"] (defScope sBookWrite):=⟨rfl,rfl,rfl,by decide+kernel,rfl,by decide+kernel,by decide+kernel⟩
theorem scBookCarry:FnScope ["self","day","claim"] ["self","day","claim"] (defScope sBookCarry):=⟨rfl,rfl,rfl,by decide+kernel,rfl,by decide+kernel,by decide+kernel⟩
theorem scBookClaim:FnScope ["self","day","claim","asker","answerer","worth"] ["self","day","claim","asker","answerer","worth"] (defScope sBookClaim):=⟨rfl,rfl,rfl,by decide+kernel,rfl,by decide+kernel,by decide+kernel⟩
theorem scBookDun:FnScope ["self","day","side"] ["self","day","side"] (defScope sBookDun):=⟨rfl,rfl,rfl,by decide+kernel,rfl,by decide+kernel,by decide+kernel⟩
theorem scBookOffer:FnScope ["self","day","turn","claim","amount"] ["self","day","turn","claim","amount"] (defScope sBookOffer):=⟨rfl,rfl,rfl,by decide+kernel,rfl,by decide+kernel,by decide+kernel⟩
theorem scBookPay:FnScope ["self","day","side","person","coins"] ["self","day","side","person","coins"] (defScope sBookPay):=⟨rfl,rfl,rfl,by decide+kernel,rfl,by decide+kernel,by decide+kernel⟩
theorem scBookStep:FnScope ["self","day","turn","side","kind","many","laid"] ["self","day","turn","side","kind","many","laid"] (defScope sBookStep):=⟨rfl,rfl,rfl,by decide+kernel,rfl,by decide+kernel,by decide+kernel⟩
theorem scLCall:FnScope ["_law_book","_law_word","_law_day","_law_told"] ["_law_book","_law_word","_law_day","_law_told"] (defScope sLCall):=⟨rfl,rfl,rfl,by decide+kernel,rfl,by decide+kernel,by decide+kernel⟩
theorem scLWins:FnScope ["_law_cell","_law_claims","_law_wins_here","_law_k","_law_pick"] ["_law_cell","_law_claims"] (defScope sLWins):=⟨rfl,rfl,rfl,by decide+kernel,rfl,by decide+kernel,by decide+kernel⟩
theorem scLStep:FnScope ["_law_cell","_law_other","_law_stage","_law_sides_here","_law_kind","_law_laid","_law_many"] ["_law_cell","_law_other","_law_stage","_law_sides_here"] (defScope sLStep):=⟨rfl,rfl,rfl,by decide+kernel,rfl,by decide+kernel,by decide+kernel⟩
theorem scLClaim:FnScope ["_law_cell","_law_other","_law_many","_law_asker","_law_answerer"] ["_law_cell","_law_other","_law_many"] (defScope sLClaim):=⟨rfl,rfl,rfl,by decide+kernel,rfl,by decide+kernel,by decide+kernel⟩
theorem scLText:FnScope ["_law_word","_law_day","_law_told","_law_words"] ["_law_word","_law_day","_law_told"] (defScope sLText):=⟨rfl,rfl,rfl,by decide+kernel,rfl,by decide+kernel,by decide+kernel⟩
theorem scLKept:FnScope ["_law_rows"] ["_law_rows"] (defScope sLKept):=⟨rfl,rfl,rfl,by decide+kernel,rfl,by decide+kernel,by decide+kernel⟩
theorem scLQuarrelDeed:FnScope ["_law_cell","_law_other","_law_stage","_law_sides_here","_law_claims","_law_one","_law_amount"] ["_law_cell","_law_other","_law_stage","_law_sides_here","_law_claims"] (defScope sLQuarrelDeed):=⟨rfl,rfl,rfl,by decide+kernel,rfl,by decide+kernel,by decide+kernel⟩
theorem scLQuarrelClaims:FnScope ["_law_script","_law_many","_law_claims","_law_first","_law_k","_law_cell","_law_word","_law_told"] ["_law_script","_law_many"] (defScope sLQuarrelClaims):=⟨rfl,rfl,rfl,by decide+kernel,rfl,by decide+kernel,by decide+kernel⟩
theorem scLQuarrel:FnScope ["_law_script","_law_sides_here","_law_over","_law_more","_law_claims","_law_deeds","_law_day","_law_stage","_law_cell","_law_k","_law_other","_law_word","_law_told","_law_wins_here"] ["_law_script","_law_sides_here","_law_over","_law_more"] (defScope sLQuarrel):=⟨rfl,rfl,rfl,by decide+kernel,rfl,by decide+kernel,by decide+kernel⟩
theorem scBookRule:FnScope ["self","day","turn","wins","back"] ["self","day","turn","wins","back"] (defScope sBookRule):=⟨rfl,rfl,rfl,by decide+kernel,rfl,by decide+kernel,by decide+kernel⟩
theorem scLShort:FnScope ["_law_book","_law_row","_law_short_here","_law_word","_law_day","_law_told","_law_wins_here","_law_got"] ["_law_book","_law_row","_law_short_here"] (defScope sLShort):=⟨rfl,rfl,rfl,by decide+kernel,rfl,by decide+kernel,by decide+kernel⟩
theorem scBookInit:FnScope ["self","sides","court","speakers"] ["self","sides","court","speakers"] (defScope sBookInit):=⟨rfl,rfl,rfl,by decide+kernel,rfl,by decide+kernel,by decide+kernel⟩
theorem scBookKept:FnScope ["self","mark"] ["self","mark"] (defScope sBookKept):=⟨rfl,rfl,rfl,by decide+kernel,rfl,by decide+kernel,by decide+kernel⟩
theorem scLaw:FnScope ["_law_script","_law_sides_here","_law_rows","_law_short_here","_law_side","_law_told","_law_book","_law_row","_law_got"] ["_law_script"] (defScope sLaw):=⟨rfl,rfl,rfl,by decide+kernel,rfl,by decide+kernel,by decide+kernel⟩
variable (T:Txt P w K mg cB c_Full c_NoClaim c_RoundOver c_TooLate c_Twice c_TooMuch) (tbS:TbS tb) (tbT:TbT tb)
include T tbS tbT
theorem ok_ClaimRow {f:Addr} {fd:FuncData} {dV:Value} (F:FunD K "claim_row" "claim_row" sClaimRow f fd dV):FnOk P w K mg base CX0 1 f fd ["number","day","claim","asker","answerer","worth"] (spP K tb m_ClaimRow):=by
 refine kfn F scClaimRow tbS g_ClaimRow λcdv A outer s H E hr=> ?_
 exact ⟨_,(jss_one (js_ret (jo_tup (ja_c (jf_v (pv 0)) (ja_c (jf_s pe_str) (ja_c (jf_v (pv 1)) (ja_c (jf_v (pv 2)) (ja_c (jf_v (pv 3)) (ja_c (jf_v (pv 4)) (ja_c (jf_v (pv 5)) ja_n))))))))))⟩
theorem ok_CarryRow {f:Addr} {fd:FuncData} {dV:Value} (F:FunD K "carry_row" "carry_row" sCarryRow f fd dV):FnOk P w K mg base CX0 1 f fd ["number","day","claim"] (spP K tb m_CarryRow):=by
 refine kfn F scCarryRow tbS g_CarryRow λcdv A outer s H E hr=> ?_
 exact ⟨_,(jss_one (js_ret (jo_tup (ja_c (jf_v (pv 0)) (ja_c (jf_s pe_str) (ja_c (jf_v (pv 1)) (ja_c (jf_v (pv 2)) ja_n)))))))⟩
theorem ok_StepRow {f:Addr} {fd:FuncData} {dV:Value} (F:FunD K "step_row" "step_row" sStepRow f fd dV):FnOk P w K mg base CX0 1 f fd ["number","day","turn","side","kind","many","laid"] (spP K tb m_StepRow):=by
 refine kfn F scStepRow tbS g_StepRow λcdv A outer s H E hr=> ?_
 exact ⟨_,(jss_one (js_ret (jo_tup (ja_c (jf_v (pv 0)) (ja_c (jf_s pe_str) (ja_c (jf_v (pv 1)) (ja_c (jf_v (pv 2)) (ja_c (jf_v (pv 3)) (ja_c (jf_v (pv 4)) (ja_c (jf_v (pv 5)) (ja_c (jf_v (pv 6)) ja_n)))))))))))⟩
theorem ok_OfferRow {f:Addr} {fd:FuncData} {dV:Value} (F:FunD K "offer_row" "offer_row" sOfferRow f fd dV):FnOk P w K mg base CX0 1 f fd ["number","day","turn","claim","amount"] (spP K tb m_OfferRow):=by
 refine kfn F scOfferRow tbS g_OfferRow λcdv A outer s H E hr=> ?_
 exact ⟨_,(jss_one (js_ret (jo_tup (ja_c (jf_v (pv 0)) (ja_c (jf_s pe_str) (ja_c (jf_v (pv 1)) (ja_c (jf_v (pv 2)) (ja_c (jf_v (pv 3)) (ja_c (jf_v (pv 4)) ja_n)))))))))⟩
theorem ok_RuleRow {f:Addr} {fd:FuncData} {dV:Value} (F:FunD K "rule_row" "rule_row" sRuleRow f fd dV):FnOk P w K mg base CX0 1 f fd ["number","day","turn","wins","back"] (spP K tb m_RuleRow):=by
 refine kfn F scRuleRow tbS g_RuleRow λcdv A outer s H E hr=> ?_
 exact ⟨_,(jss_one (js_ret (jo_tup (ja_c (jf_v (pv 0)) (ja_c (jf_s pe_str) (ja_c (jf_v (pv 1)) (ja_c (jf_v (pv 2)) (ja_c (jf_v (pv 4)) (ja_c (JO.z (jo_callT bj_tuple (by rfl) T.b_tuple PyProof.Rows.boot_tuple (jbs_c (jb_v (pv 3)) jbs_n))) ja_n)))))))))⟩
theorem ok_PayRow {f:Addr} {fd:FuncData} {dV:Value} (F:FunD K "pay_row" "pay_row" sPayRow f fd dV):FnOk P w K mg base CX0 1 f fd ["number","day","side","person","coins"] (spP K tb m_PayRow):=by
 refine kfn F scPayRow tbS g_PayRow λcdv A outer s H E hr=> ?_
 exact ⟨_,(jss_one (js_ret (jo_tup (ja_c (jf_v (pv 0)) (ja_c (jf_s pe_str) (ja_c (jf_v (pv 1)) (ja_c (jf_v (pv 2)) (ja_c (jf_v (pv 3)) (ja_c (jf_v (pv 4)) ja_n)))))))))⟩
theorem ok_DunRow {f:Addr} {fd:FuncData} {dV:Value} (F:FunD K "dun_row" "dun_row" sDunRow f fd dV):FnOk P w K mg base CX0 1 f fd ["number","day","side"] (spP K tb m_DunRow):=by
 refine kfn F scDunRow tbS g_DunRow λcdv A outer s H E hr=> ?_
 exact ⟨_,(jss_one (js_ret (jo_tup (ja_c (jf_v (pv 0)) (ja_c (jf_s pe_str) (ja_c (jf_v (pv 1)) (ja_c (jf_v (pv 2)) ja_n)))))))⟩
theorem ok_RuleText {f:Addr} {fd:FuncData} {dV:Value} (F:FunD K "rule_text" "rule_text" sRuleText f fd dV):FnOk P w K mg base CX0 1 f fd ["row"] (spP K tb m_RuleText):=by
 refine kfn F scRuleText tbS g_RuleText λcdv A outer s H E hr=> ?_
 exact ⟨_,(jss_cons (js_setM (λh=>ps_set (i:=1) scRuleText.nd rfl (Or.inl rfl) h) (jn_lst (ja_c (jf_s pe_str) (ja_c (JO.z (jo_callT (bj_strT hr.gd (hu150 hr)) (by rfl) T.b_str PyProof.Rows.boot_str (jbs_c (JO.toB (jo_ix (jb_v (pv 0)) (JO.toB (jo_i (pe_globI (by rfl) T.c_DAY))))) jbs_n))) (ja_c (JO.z (jo_callT (bj_strT hr.gd (hu150 hr)) (by rfl) T.b_str PyProof.Rows.boot_str (jbs_c (JO.toB (jo_ix (jb_v (pv 0)) (JO.toB (jo_i (pe_globI (by rfl) T.c_TURN))))) jbs_n))) (ja_c (JO.z (jo_if (jt_v (JO.toB (jo_ix (jb_v (pv 0)) (JO.toB (jo_i (pe_globI (by rfl) T.c_RULE_BACK)))))) (jo_s pe_str) (jo_s pe_str))) ja_n))))))
  (jss_cons (js_for (k:=99) PassesOwn.never rfl (ji_tup (JO.z (jo_ix (jb_v (pv 0)) (JO.toB (jo_i (pe_globI (by rfl) T.c_RULE_WINS)))))) (jg_t (n:=2) rfl (jgs_cons (jg_n (pg_name (i:=2) scRuleText.nd rfl (Or.inl rfl))) (jgs_cons (jg_n (pg_name (i:=3) scRuleText.nd rfl (Or.inl rfl))) jgs_nil))) (jss_one (js_app' (λh=>ps_expr (pe_bm PySem.F.plainAttrs_list PySem.F.slot_list_append PySem.F.type_list_append mt_append (pv 1) h)) (JO.z (jo_js (jjs_c (jo_fmt (jb_v (pv 2))) (jjs_c (jo_s pe_str) (jjs_c (jo_fmt (jb_v (pv 3))) jjs_n))))))))
  (jss_one (js_ret (jo_join (apos:=⟨0,0,0,0⟩) (λh1 h2=>pe_bm PySem.F.plainAttrs_str PySem.F.slot_str_join PySem.F.type_str_join mt_join h1 h2) (JO.toB (jo_s pe_str)) (jb_v (pv 1)))))))⟩
theorem ok_RowText {f:Addr} {fd:FuncData} {dV:Value} (F:FunD K "row_text" "row_text" sRowText f fd dV) (GRuleText:Fn P w K mg base "rule_text" 1 ["row"] (spP K tb m_RuleText)):FnOk P w K mg base CX0 2 f fd ["row"] (spP K tb m_RowText):=by
 refine kfn F scRowText tbS g_RowText λcdv A outer s H E hr=> ?_
 exact ⟨_,(jss_cons (js_if (jt_cmp (oj_eq hr.units0) (JO.toB (jo_ix (jb_v (pv 0)) (JO.toB (jo_i (pe_globI (by rfl) T.c_WORD))))) (JO.toB (jo_s pe_str)) (nomark _)) (jss_one (js_ret (jo_call (λh=>pe_fn GRuleText hr (by decide) (by rfl) h) (ja_c (jf_v (pv 0)) ja_n)))) jss_nil)
  (jss_one (js_ret (jo_join (apos:=⟨0,0,0,0⟩) (λh1 h2=>pe_bm PySem.F.plainAttrs_str PySem.F.slot_str_join PySem.F.type_str_join mt_join h1 h2) (JO.toB (jo_s pe_str)) (JO.toB (jo_comp ["row"] (defScope sRowText) 1 [] ["value"] (by decide) rfl (by decide+kernel) (ji_tup (JO.z (jo_slT (jb_v (pv 0)) (jp_s (JO.toB (jo_i (pe_globI (by rfl) T.c_WORD)))) jp_n))) (λ_ _ _ _=>(jg_n (pg_name (i:=0) (show List.Nodup (["value"]:List Str) by decide+kernel) rfl (Or.inl rfl)))) (λ_ _ _ _=>jts_nil) (λ_ _ _ _=>(JO.z (jo_callT (bj_strT hr.gd (hu150 hr)) (by rfl) T.b_str PyProof.Rows.boot_str (jbs_c (jb_v (pv 0)) jbs_n)))) (by decide+kernel) (by decide+kernel) (by decide+kernel)))))))⟩
theorem ok_FindClaim {f:Addr} {fd:FuncData} {dV:Value} (F:FunD K "find_claim" "find_claim" sFindClaim f fd dV):FnOk P w K mg base CX0 1 f fd ["claims","number"] (spP K tb m_FindClaim):=by
 refine kfn F scFindClaim tbS g_FindClaim λcdv A outer s H E hr=> ?_
 exact ⟨_,(jss_cons (js_for (k:=99) PassesOwn.never rfl (ji_list (jf_v (pv 0))) (jg_n (pg_name (i:=2) scFindClaim.nd rfl (Or.inl rfl))) (jss_one (js_if (jt_cmp (oj_eq hr.units0) (JO.toB (jo_ix (jb_v (pv 2)) (JO.toB (jo_i pe_int)))) (jb_v (pv 1)) (nomark _)) (jss_one (js_retV (pv 2))) jss_nil)))
  (jss_one (js_ret (jo_n pe_non))))⟩
theorem ok_PutRow {f:Addr} {fd:FuncData} {dV:Value} (F:FunD K "put_row" "put_row" sPutRow f fd dV) (GFindClaim:Fn P w K mg base "find_claim" 1 ["claims","number"] (spP K tb m_FindClaim)):FnOk P w K mg base CX0 2 f fd ["rounds","row"] (spPut K tb m_PutRow):=by
 refine kfnPut F scPutRow tbS tbT g_PutRow λcdv A outer s H E hr=> ?_
 exact ⟨_,(jne_one (jne_if (jt_cmp (oj_eq hr.units0) (JO.toB (jo_ix (jb_v (pv 1)) (JO.toB (jo_i (pe_globI (by rfl) T.c_WORD))))) (JO.toB (jo_s pe_str)) (nomark _)) (jne_one (jne_app (λh0 h=>ps_expr (pe_bm PySem.F.plainAttrs_list PySem.F.slot_list_append PySem.F.type_list_append mt_append (pe_ix (ix_seqK K rfl) (pv 0) h0 (by intro _ _;rfl)) h)) (JO.toB (jo_i pe_int)) (jv_f (JO.z (jo_slT (jb_v (pv 1)) (jp_s (JO.toB (jo_i (pe_globI (by rfl) T.c_CLAIM)))) jp_n))))) (jne_one (jne_if (jt_cmp (oj_eq hr.units0) (JO.toB (jo_ix (jb_v (pv 1)) (JO.toB (jo_i (pe_globI (by rfl) T.c_WORD))))) (JO.toB (jo_s pe_str)) (nomark _)) (jne_one (jne_app (λh0 h=>ps_expr (pe_bm PySem.F.plainAttrs_list PySem.F.slot_list_append PySem.F.type_list_append mt_append (pe_ix (ix_seqK K rfl) (pv 0) h0 (by intro _ _;rfl)) h)) (JO.toB (jo_neg (JO.toB (jo_i pe_int)))) (jv_call (λh1 h2=>pe_fn GFindClaim hr (by decide) (by rfl) (pa_cons (pe_ix (ix_seqK K rfl) (pv 0) h1 (by intro _ _;rfl)) (pa_cons h2 pa_nil))) (JO.toB (jo_neg (JO.toB (jo_i pe_int)))) (JO.z (jo_ix (jb_v (pv 1)) (JO.toB (jo_i (pe_globI (by rfl) T.c_CLAIM)))))))) (jne_one (jne_if (jt_cmp (oj_eq hr.units0) (JO.toB (jo_ix (jb_v (pv 1)) (JO.toB (jo_i (pe_globI (by rfl) T.c_WORD))))) (JO.toB (jo_s pe_str)) (nomark _)) (jne_one (jne_new (λh=>ps_expr (pe_bm PySem.F.plainAttrs_list PySem.F.slot_list_append PySem.F.type_list_append mt_append (pv 0) h)) (pe_lst pa_nil))) jne_nil))))))⟩
theorem ok_RoundsOf {f:Addr} {fd:FuncData} {dV:Value} (F:FunD K "rounds_of" "rounds_of" sRoundsOf f fd dV) (GPutRow:Fn P w K mg base "put_row" 2 ["rounds","row"] (spPut K tb m_PutRow)):FnOk P w K mg base CX0 3 f fd ["rows"] (spP K tb m_RoundsOf):=by
 refine kfnRounds F scRoundsOf tbS m_PutRow λcdv A outer s H E hr=> ?_
 exact pss_cons (ps_set (i:=1) scRoundsOf.nd rfl (Or.inl rfl) (pe_lst (pa_cons (pe_lst pa_nil) pa_nil))) (pss_cons (ps_for PassesOwn.never rfl (pi_list (pv 0)) (pg_name (i:=2) scRoundsOf.nd rfl (Or.inl rfl)) (pss_one (ps_expr (pe_fn GPutRow hr (by decide) (by rfl) (pa_cons (pv 1) (pa_cons (pv 2) pa_nil)))))) (pss_one (PS.frzs (ps_ret (pv 1)))))
theorem ok_OverOf {f:Addr} {fd:FuncData} {dV:Value} (F:FunD K "over_of" "over_of" sOverOf f fd dV):FnOk P w K mg base CX0 1 f fd ["rounds"] (spP K tb m_OverOf):=by
 refine kfn F scOverOf tbS g_OverOf λcdv A outer s H E hr=> ?_
 exact ⟨_,(jss_one (js_ret (jo_op oj_sub (JO.toB (jo_callB bj_len (by rfl) T.b_len PySem.boot_len (jbs_c (jb_v (pv 0)) jbs_n))) (JO.toB (jo_i pe_int)))))⟩
theorem ok_ClaimsOf {f:Addr} {fd:FuncData} {dV:Value} (F:FunD K "claims_of" "claims_of" sClaimsOf f fd dV):FnOk P w K mg base CX0 1 f fd ["rounds","turn"] (spP K tb m_ClaimsOf):=by
 refine kfn F scClaimsOf tbS g_ClaimsOf λcdv A outer s H E hr=> ?_
 exact ⟨_,(jss_cons (js_if (jt_chain oj_le oj_lt (JO.toB (jo_i pe_int)) (jb_v (pv 1)) (JO.toB (jo_callB bj_len (by rfl) T.b_len PySem.boot_len (jbs_c (jb_v (pv 0)) jbs_n)))) (jss_one (js_ret (JN.o (jn_list (by rfl) T.b_list (jbs_c (JO.toB (jo_ix (jb_v (pv 0)) (jb_v (pv 1)))) jbs_n))))) jss_nil)
  (jss_one (js_ret (JN.o (jn_lst ja_n)))))⟩
theorem ok_ComesTwice {f:Addr} {fd:FuncData} {dV:Value} (F:FunD K "comes_twice" "comes_twice" sComesTwice f fd dV) (GFindClaim:Fn P w K mg base "find_claim" 1 ["claims","number"] (spP K tb m_FindClaim)):FnOk P w K mg base CX0 2 f fd ["rounds","row"] (spP K tb m_ComesTwice):=by
 refine kfn F scComesTwice tbS g_ComesTwice λcdv A outer s H E hr=> ?_
 exact ⟨_,(jss_cons (js_if (jt_cmp (oj_eq hr.units0) (JO.toB (jo_ix (jb_v (pv 1)) (JO.toB (jo_i (pe_globI (by rfl) T.c_WORD))))) (JO.toB (jo_s pe_str)) (nomark _)) (jss_one (js_ret (jo_cmp oj_nis (JO.toB (jo_call (λh=>pe_fn GFindClaim hr (by decide) (by rfl) h) (ja_c (JO.z (jo_ix (jb_v (pv 0)) (JO.toB (jo_i pe_int)))) (ja_c (JO.z (jo_ix (jb_v (pv 1)) (JO.toB (jo_i (pe_globI (by rfl) T.c_CLAIM))))) ja_n)))) (JO.toB (jo_n pe_non)) (nomark _)))) jss_nil)
  (jss_cons (js_if (jt_cmp (oj_eq hr.units0) (JO.toB (jo_ix (jb_v (pv 1)) (JO.toB (jo_i (pe_globI (by rfl) T.c_WORD))))) (JO.toB (jo_s pe_str)) (nomark _)) (jss_one (js_ret (jo_cmp oj_nis (JO.toB (jo_call (λh=>pe_fn GFindClaim hr (by decide) (by rfl) h) (ja_c (JO.z (jo_ix (jb_v (pv 0)) (JO.toB (jo_neg (JO.toB (jo_i pe_int)))))) (ja_c (JO.z (jo_ix (jb_v (pv 1)) (JO.toB (jo_i (pe_globI (by rfl) T.c_CLAIM))))) ja_n)))) (JO.toB (jo_n pe_non)) (nomark _)))) jss_nil)
  (jss_cons (js_if (jt_cmp (oj_eq hr.units0) (JO.toB (jo_ix (jb_v (pv 1)) (JO.toB (jo_i (pe_globI (by rfl) T.c_WORD))))) (JO.toB (jo_s pe_str)) (nomark _)) (jss_cons (js_comp ["rounds","row","named"] (defScope sComesTwice) 2 [] ["claim","won"] (i:=2) scComesTwice.nd rfl (by decide) rfl (by decide+kernel) (ji_tup (JO.z (jo_ix (jb_v (pv 1)) (JO.toB (jo_i (pe_globI (by rfl) T.c_RULE_WINS)))))) (λ_ _ _ _=>(jg_t (n:=2) rfl (jgs_cons (jg_n (pg_name (i:=0) (show List.Nodup (["claim","won"]:List Str) by decide+kernel) rfl (Or.inl rfl))) (jgs_cons (jg_n (pg_name (i:=1) (show List.Nodup (["claim","won"]:List Str) by decide+kernel) rfl (Or.inl rfl))) jgs_nil)))) (λ_ _ _ _=>jts_nil) (λ_ _ _ _=>(jf_v (pv 0))) (by decide+kernel) (by decide+kernel) (by decide+kernel))
  (jss_one (js_ret (jo_cmp oj_lt (JO.toB (jo_lenset hr rfl (by rfl) T.b_len (by rfl) T.b_set (ja_c (jf_v (pv 2)) ja_n))) (JO.toB (jo_callB bj_len (by rfl) T.b_len PySem.boot_len (jbs_c (jb_v (pv 2)) jbs_n))) (nomark _))))) jss_nil)
  (jss_one (js_ret (jo_b pe_bl))))))⟩
theorem ok_LacksClaim {f:Addr} {fd:FuncData} {dV:Value} (F:FunD K "lacks_claim" "lacks_claim" sLacksClaim f fd dV) (GClaimsOf:Fn P w K mg base "claims_of" 1 ["rounds","turn"] (spP K tb m_ClaimsOf)) (GFindClaim:Fn P w K mg base "find_claim" 1 ["claims","number"] (spP K tb m_FindClaim)) (GOverOf:Fn P w K mg base "over_of" 1 ["rounds"] (spP K tb m_OverOf)):FnOk P w K mg base CX0 2 f fd ["rounds","row"] (spP K tb m_LacksClaim):=by
 refine kfn F scLacksClaim tbS g_LacksClaim λcdv A outer s H E hr=> ?_
 exact ⟨_,(jss_cons (js_if (jt_cmp (oj_eq hr.units0) (JO.toB (jo_ix (jb_v (pv 1)) (JO.toB (jo_i (pe_globI (by rfl) T.c_WORD))))) (JO.toB (jo_s pe_str)) (nomark _)) (jss_one (js_ret (jo_cmp oj_is (JO.toB (jo_call (λh=>pe_fn GFindClaim hr (by decide) (by rfl) h) (ja_c (JO.z (jo_call (λh=>pe_fn GClaimsOf hr (by decide) (by rfl) h) (ja_c (jf_v (pv 0)) (ja_c (JO.z (jo_op oj_sub (JO.toB (jo_call (λh=>pe_fn GOverOf hr (by decide) (by rfl) h) (ja_c (jf_v (pv 0)) ja_n))) (JO.toB (jo_i pe_int)))) ja_n)))) (ja_c (JO.z (jo_ix (jb_v (pv 1)) (JO.toB (jo_i (pe_globI (by rfl) T.c_CLAIM))))) ja_n)))) (JO.toB (jo_n pe_non)) (nomark _)))) jss_nil)
  (jss_cons (js_if (jt_cmp (oj_eq hr.units0) (JO.toB (jo_ix (jb_v (pv 1)) (JO.toB (jo_i (pe_globI (by rfl) T.c_WORD))))) (JO.toB (jo_s pe_str)) (nomark _)) (jss_one (js_ret (jo_cmp (oj_eq hr.units0) (JO.toB (jo_call (λh=>pe_fn GClaimsOf hr (by decide) (by rfl) h) (ja_c (jf_v (pv 0)) (ja_c (JO.z (jo_ix (jb_v (pv 1)) (JO.toB (jo_i (pe_globI (by rfl) T.c_TURN))))) ja_n)))) (JO.toB (JN.o (jn_lst ja_n))) (nomark _)))) jss_nil)
  (jss_cons (js_if (jt_cmp (oj_eq hr.units0) (JO.toB (jo_ix (jb_v (pv 1)) (JO.toB (jo_i (pe_globI (by rfl) T.c_WORD))))) (JO.toB (jo_s pe_str)) (nomark _)) (jss_one (js_ret (jo_cmp oj_is (JO.toB (jo_call (λh=>pe_fn GFindClaim hr (by decide) (by rfl) h) (ja_c (JO.z (jo_call (λh=>pe_fn GClaimsOf hr (by decide) (by rfl) h) (ja_c (jf_v (pv 0)) (ja_c (JO.z (jo_ix (jb_v (pv 1)) (JO.toB (jo_i (pe_globI (by rfl) T.c_TURN))))) ja_n)))) (ja_c (JO.z (jo_ix (jb_v (pv 1)) (JO.toB (jo_i (pe_globI (by rfl) T.c_OFFER_CLAIM))))) ja_n)))) (JO.toB (jo_n pe_non)) (nomark _)))) jss_nil)
  (jss_cons (js_if (jt_cmp (oj_eq hr.units0) (JO.toB (jo_ix (jb_v (pv 1)) (JO.toB (jo_i (pe_globI (by rfl) T.c_WORD))))) (JO.toB (jo_s pe_str)) (nomark _)) (jss_cons (js_set (λh=>ps_set (i:=2) scLacksClaim.nd rfl (Or.inr rfl) h) (jo_call (λh=>pe_fn GClaimsOf hr (by decide) (by rfl) h) (ja_c (jf_v (pv 0)) (ja_c (JO.z (jo_ix (jb_v (pv 1)) (JO.toB (jo_i (pe_globI (by rfl) T.c_TURN))))) ja_n))))
  (jss_one (js_ret (jo_or (JO.toB (jo_cmp (oj_eq hr.units0) (jb_v (pv 2)) (JO.toB (JN.o (jn_lst ja_n))) (nomark _))) (jo_one (jo_callB (bj_any rfl) (by rfl) T.b_any PyProof.Rows.boot_any (jbs_c (JO.toB (jo_comp ["rounds","row","claims"] (defScope sLacksClaim) 2 [2] ["claim","won","claims"] (by decide) rfl (by decide+kernel) (ji_tup (JO.z (jo_ix (jb_v (pv 1)) (JO.toB (jo_i (pe_globI (by rfl) T.c_RULE_WINS)))))) (λ_ _ _ _=>(jg_t (n:=2) rfl (jgs_cons (jg_n (pg_name (i:=0) (show List.Nodup (["claim","won","claims"]:List Str) by decide+kernel) rfl (Or.inl rfl))) (jgs_cons (jg_n (pg_name (i:=1) (show List.Nodup (["claim","won","claims"]:List Str) by decide+kernel) rfl (Or.inl rfl))) jgs_nil)))) (λ_ _ _ _=>jts_nil) (λ_ _ _ _=>(JO.z (jo_cmp oj_is (JO.toB (jo_call (λh=>pe_fn GFindClaim hr (by decide) (by rfl) h) (ja_c (jf_v (pv 2)) (ja_c (jf_v (pv 0)) ja_n)))) (JO.toB (jo_n pe_non)) (nomark _)))) (by decide+kernel) (by decide+kernel) (by decide+kernel))) jbs_n))))))) jss_nil)
  (jss_one (js_ret (jo_b pe_bl)))))))⟩
theorem ok_MeetsOver {f:Addr} {fd:FuncData} {dV:Value} (F:FunD K "meets_over" "meets_over" sMeetsOver f fd dV) (GOverOf:Fn P w K mg base "over_of" 1 ["rounds"] (spP K tb m_OverOf)):FnOk P w K mg base CX0 2 f fd ["rounds","row"] (spP K tb m_MeetsOver):=by
 refine kfn F scMeetsOver tbS g_MeetsOver λcdv A outer s H E hr=> ?_
 exact ⟨_,(jss_cons (js_if (jt_cmp (oj_eq hr.units0) (JO.toB (jo_ix (jb_v (pv 1)) (JO.toB (jo_i (pe_globI (by rfl) T.c_WORD))))) (JO.toB (jo_s pe_str)) (nomark _)) (jss_one (js_ret (jo_cmp (oj_gt hr.units0) (JO.toB (jo_call (λh=>pe_fn GOverOf hr (by decide) (by rfl) h) (ja_c (jf_v (pv 0)) ja_n))) (JO.toB (jo_i pe_int)) (nomark _)))) jss_nil)
  (jss_cons (js_if (jt_cmp (oj_eq hr.units0) (JO.toB (jo_ix (jb_v (pv 1)) (JO.toB (jo_i (pe_globI (by rfl) T.c_WORD))))) (JO.toB (jo_s pe_str)) (nomark _)) (jss_one (js_ret (jo_cmp (oj_eq hr.units0) (JO.toB (jo_call (λh=>pe_fn GOverOf hr (by decide) (by rfl) h) (ja_c (jf_v (pv 0)) ja_n))) (JO.toB (jo_i (pe_globI (by rfl) T.c_ROUNDS))) (nomark _)))) jss_nil)
  (jss_cons (js_if (jt_cmp oj_in (JO.toB (jo_ix (jb_v (pv 1)) (JO.toB (jo_i (pe_globI (by rfl) T.c_WORD))))) (JO.toB (jo_tup (ja_c (jf_s pe_str) (ja_c (jf_s pe_str) (ja_c (jf_s pe_str) ja_n))))) (by with_unfolding_all rfl)) (jss_one (js_ret (jo_cmp oj_lt (JO.toB (jo_ix (jb_v (pv 1)) (JO.toB (jo_i (pe_globI (by rfl) T.c_TURN))))) (JO.toB (jo_call (λh=>pe_fn GOverOf hr (by decide) (by rfl) h) (ja_c (jf_v (pv 0)) ja_n))) (nomark _)))) jss_nil)
  (jss_one (js_ret (jo_b pe_bl))))))⟩
theorem ok_WorthIn {f:Addr} {fd:FuncData} {dV:Value} (F:FunD K "worth_in" "worth_in" sWorthIn f fd dV) (GClaimsOf:Fn P w K mg base "claims_of" 1 ["rounds","turn"] (spP K tb m_ClaimsOf)) (GFindClaim:Fn P w K mg base "find_claim" 1 ["claims","number"] (spP K tb m_FindClaim)):FnOk P w K mg base CX0 2 f fd ["rounds","row","claim"] (spP K tb m_WorthIn):=by
 refine kfn F scWorthIn tbS g_WorthIn λcdv A outer s H E hr=> ?_
 exact ⟨_,(jss_one (js_ret (jo_ix (JO.toB (jo_call (λh=>pe_fn GFindClaim hr (by decide) (by rfl) h) (ja_c (JO.z (jo_call (λh=>pe_fn GClaimsOf hr (by decide) (by rfl) h) (ja_c (jf_v (pv 0)) (ja_c (JO.z (jo_ix (jb_v (pv 1)) (JO.toB (jo_i (pe_globI (by rfl) T.c_TURN))))) ja_n)))) (ja_c (jf_v (pv 2)) ja_n)))) (JO.toB (jo_i (pe_globI (by rfl) T.c_WORTH))))))⟩
theorem ok_NamesTooMuch {f:Addr} {fd:FuncData} {dV:Value} (F:FunD K "names_too_much" "names_too_much" sNamesTooMuch f fd dV) (GWorthIn:Fn P w K mg base "worth_in" 2 ["rounds","row","claim"] (spP K tb m_WorthIn)):FnOk P w K mg base CX0 3 f fd ["rounds","row"] (spP K tb m_NamesTooMuch):=by
 refine kfn F scNamesTooMuch tbS g_NamesTooMuch λcdv A outer s H E hr=> ?_
 exact ⟨_,(jss_cons (js_if (jt_cmp (oj_eq hr.units0) (JO.toB (jo_ix (jb_v (pv 1)) (JO.toB (jo_i (pe_globI (by rfl) T.c_WORD))))) (JO.toB (jo_s pe_str)) (nomark _)) (jss_one (js_ret (jo_cmp (oj_gt hr.units0) (JO.toB (jo_ix (jb_v (pv 1)) (JO.toB (jo_i (pe_globI (by rfl) T.c_OFFER_AMOUNT))))) (JO.toB (jo_call (λh=>pe_fn GWorthIn hr (by decide) (by rfl) h) (ja_c (jf_v (pv 0)) (ja_c (jf_v (pv 1)) (ja_c (JO.z (jo_ix (jb_v (pv 1)) (JO.toB (jo_i (pe_globI (by rfl) T.c_OFFER_CLAIM))))) ja_n))))) (nomark _)))) jss_nil)
  (jss_cons (js_if (jt_cmp (oj_eq hr.units0) (JO.toB (jo_ix (jb_v (pv 1)) (JO.toB (jo_i (pe_globI (by rfl) T.c_WORD))))) (JO.toB (jo_s pe_str)) (nomark _)) (jss_one (js_ret (jo_callB (bj_any rfl) (by rfl) T.b_any PyProof.Rows.boot_any (jbs_c (JO.toB (jo_comp ["rounds","row"] (defScope sNamesTooMuch) 2 [0,1] ["claim","won","rounds","row"] (by decide) rfl (by decide+kernel) (ji_tup (JO.z (jo_ix (jb_v (pv 1)) (JO.toB (jo_i (pe_globI (by rfl) T.c_RULE_WINS)))))) (λ_ _ _ _=>(jg_t (n:=2) rfl (jgs_cons (jg_n (pg_name (i:=0) (show List.Nodup (["claim","won","rounds","row"]:List Str) by decide+kernel) rfl (Or.inl rfl))) (jgs_cons (jg_n (pg_name (i:=1) (show List.Nodup (["claim","won","rounds","row"]:List Str) by decide+kernel) rfl (Or.inl rfl))) jgs_nil)))) (λ_ _ _ _=>jts_nil) (λ_ _ _ _=>(JO.z (jo_cmp (oj_gt hr.units0) (jb_v (pv 1)) (JO.toB (jo_call (λh=>pe_fn GWorthIn hr (by decide) (by rfl) h) (ja_c (jf_v (pv 2)) (ja_c (jf_v (pv 3)) (ja_c (jf_v (pv 0)) ja_n))))) (nomark _)))) (by decide+kernel) (by decide+kernel) (by decide+kernel))) jbs_n)))) jss_nil)
  (jss_one (js_ret (jo_b pe_bl)))))⟩
theorem ok_CheckNext {f:Addr} {fd:FuncData} {dV:Value} (F:FunD K "check_next" "check_next" sCheckNext f fd dV) (GComesTwice:Fn P w K mg base "comes_twice" 2 ["rounds","row"] (spP K tb m_ComesTwice)) (GLacksClaim:Fn P w K mg base "lacks_claim" 2 ["rounds","row"] (spP K tb m_LacksClaim)) (GMeetsOver:Fn P w K mg base "meets_over" 2 ["rounds","row"] (spP K tb m_MeetsOver)) (GNamesTooMuch:Fn P w K mg base "names_too_much" 3 ["rounds","row"] (spP K tb m_NamesTooMuch)):FnOk P w K mg base (CX1 P w) 4 f fd ["rounds","last","written","row"] (spE K tb [c_Full,c_NoClaim,c_RoundOver,c_TooLate,c_Twice,c_TooMuch,0,0] m_CheckNext):=by
 refine kfnE cB F scCheckNext tbS g_CheckNext λcdv A outer s H E hr=> ?_
 try dsimp only [cxOf]
 exact ⟨_,(jsxs_cons (jsx_if (jt_cmp oj_ge (jb_v (pv 2)) (JO.toB (jo_i (pe_globI (by rfl) T.c_MOST_ROWS))) (nomark _)) (jsxs_one (jsx_raise (k:=0) (ps_raise raiseX hr.hd (by rfl) T.y_Full T.x_Full (pa_cons pe_str pa_nil)))) jsxs_nil)
  (jsxs_cons (jsx_if (jt_v (JO.toB (jo_call (λh=>pe_fn GLacksClaim hr (by decide) (by rfl) h) (ja_c (jf_v (pv 0)) (ja_c (jf_v (pv 3)) ja_n))))) (jsxs_one (jsx_raise (k:=1) (ps_raise raiseX hr.hd (by rfl) T.y_NoClaim T.x_NoClaim (pa_cons pe_str pa_nil)))) jsxs_nil)
  (jsxs_cons (jsx_if (jt_v (JO.toB (jo_call (λh=>pe_fn GMeetsOver hr (by decide) (by rfl) h) (ja_c (jf_v (pv 0)) (ja_c (jf_v (pv 3)) ja_n))))) (jsxs_one (jsx_raise (k:=2) (ps_raise raiseX hr.hd (by rfl) T.y_RoundOver T.x_RoundOver (pa_cons pe_str pa_nil)))) jsxs_nil)
  (jsxs_cons (jsx_if (JW.toT (jw_and (jt_cmp oj_nis (jb_v (pv 1)) (JO.toB (jo_n pe_non)) (nomark _)) (jw_and1 (jt_cmp oj_lt (JO.toB (jo_ix (jb_v (pv 3)) (JO.toB (jo_i (pe_globI (by rfl) T.c_DAY))))) (JO.toB (jo_ix (jb_v (pv 1)) (JO.toB (jo_i (pe_globI (by rfl) T.c_DAY))))) (nomark _))))) (jsxs_one (jsx_raise (k:=3) (ps_raise raiseX hr.hd (by rfl) T.y_TooLate T.x_TooLate (pa_cons pe_str pa_nil)))) jsxs_nil)
  (jsxs_cons (jsx_if (jt_v (JO.toB (jo_call (λh=>pe_fn GComesTwice hr (by decide) (by rfl) h) (ja_c (jf_v (pv 0)) (ja_c (jf_v (pv 3)) ja_n))))) (jsxs_one (jsx_raise (k:=4) (ps_raise raiseX hr.hd (by rfl) T.y_Twice T.x_Twice (pa_cons pe_str pa_nil)))) jsxs_nil)
  (jsxs_one (jsx_if (jt_v (JO.toB (jo_call (λh=>pe_fn GNamesTooMuch hr (by decide) (by rfl) h) (ja_c (jf_v (pv 0)) (ja_c (jf_v (pv 3)) ja_n))))) (jsxs_one (jsx_raise (k:=5) (ps_raise raiseX hr.hd (by rfl) T.y_TooMuch T.x_TooMuch (pa_cons pe_str pa_nil)))) jsxs_nil)))))))⟩
theorem ok_CheckRow {f:Addr} {fd:FuncData} {dV:Value} (F:FunD K "check_row" "check_row" sCheckRow f fd dV) (GCheckNext:FnX P w K mg base "check_next" 4 ["rounds","last","written","row"] (spE K tb [c_Full,c_NoClaim,c_RoundOver,c_TooLate,c_Twice,c_TooMuch,0,0] m_CheckNext)) (GRoundsOf:Fn P w K mg base "rounds_of" 3 ["rows"] (spP K tb m_RoundsOf)):FnOk P w K mg base (CX1 P w) 5 f fd ["rows","written","row"] (spE K tb [c_Full,c_NoClaim,c_RoundOver,c_TooLate,c_Twice,c_TooMuch,0,0] m_CheckRow):=by
 refine kfnE cB F scCheckRow tbS g_CheckRow λcdv A outer s H E hr=> ?_
 try dsimp only [cxOf]
 exact ⟨_,(jsxs_one (jsx_do (jx_callE (λh=>pe_fnX GCheckNext hr (by decide) passX (by rfl) h) (jxa_l (ja_c (JO.z (jo_call (λh=>pe_fn GRoundsOf hr (by decide) (by rfl) h) (ja_c (jf_v (pv 0)) ja_n))) (ja_c (JO.z (jo_if (jt_cmp (oj_ne hr.units0) (jb_v (pv 0)) (JO.toB (JN.o (jn_lst ja_n))) (nomark _)) (jo_ix (jb_v (pv 0)) (JO.toB (jo_neg (JO.toB (jo_i pe_int))))) (jo_n pe_non))) (ja_c (jf_v (pv 1)) (ja_c (jf_v (pv 2)) ja_n))))))))⟩
theorem ok_LAt {f:Addr} {fd:FuncData} {dV:Value} (F:FunD K "_law_at" "_law_at" sLAt f fd dV):FnOk P w K mg base CX0 1 f fd ["_law_script","_law_k"] (spP K tb m_LAt):=by
 refine kfn F scLAt tbS g_LAt λcdv A outer s H E hr=> ?_
 exact ⟨_,(jss_cons (js_if (jt_cmp (oj_eq hr.units0) (jb_v (pv 0)) (JO.toB (JN.o (jn_lst ja_n))) (nomark _)) (jss_one (js_ret (jo_i pe_int))) jss_nil)
  (jss_one (js_ret (jo_op oj_add (JO.toB (jo_ix (jb_v (pv 0)) (JO.toB (jo_op oj_mod (jb_v (pv 1)) (JO.toB (jo_callB bj_len (by rfl) T.b_len PySem.boot_len (jbs_c (jb_v (pv 0)) jbs_n))))))) (JO.toB (jo_op oj_mul (JO.toB (jo_i pe_int)) (JO.toB (jo_op oj_div (jb_v (pv 1)) (JO.toB (jo_callB bj_len (by rfl) T.b_len PySem.boot_len (jbs_c (jb_v (pv 0)) jbs_n)))))))))))⟩
theorem ok_LInt {f:Addr} {fd:FuncData} {dV:Value} (F:FunD K "_law_int" "_law_int" sLInt f fd dV):FnOk P w K mg base CX0 1 f fd ["_law_got"] (spP K tb m_LInt):=by
 refine kfn F scLInt tbS g_LInt λcdv A outer s H E hr=> ?_
 exact ⟨_,(jss_one (js_ret (jo_and (JO.toB (jo_isi (by rfl) T.b_isinstance (jb_v (pv 0)) (pe_bltn (by rfl) T.b_int PyProof.Rows.boot_int (v:= .ty "int") rfl))) (jo_one (jo_not (JO.toB (jo_isi (by rfl) T.b_isinstance (jb_v (pv 0)) (pe_bltn (by rfl) T.b_bool PyProof.Rows.boot_bool (v:= .ty "bool") rfl))))))))⟩
theorem ok_LTexts {f:Addr} {fd:FuncData} {dV:Value} (F:FunD K "_law_texts" "_law_texts" sLTexts f fd dV):FnOk P w K mg base CX0 1 f fd ["_law_got","_law_due"] (spP K tb m_LTexts):=by
 refine kfn F scLTexts tbS g_LTexts λcdv A outer s H E hr=> ?_
 exact ⟨_,(jss_cons (js_if (JW.toT (jw_or (jt_not (jt_v (JO.toB (jo_isi (by rfl) T.b_isinstance (jb_v (pv 0)) (pe_bltn (by rfl) T.b_list PyProof.Rows.boot_list (v:= .ty "list") rfl))))) (jw_or1 (jt_cmp (oj_ne hr.units0) (JO.toB (jo_callB bj_len (by rfl) T.b_len PySem.boot_len (jbs_c (jb_v (pv 0)) jbs_n))) (JO.toB (jo_callB bj_len (by rfl) T.b_len PySem.boot_len (jbs_c (jb_v (pv 1)) jbs_n))) (nomark _))))) (jss_one (js_ret (jo_b pe_bl))) jss_nil)
  (jss_cons (js_for (k:=99) PassesOwn.never rfl (ji_rng1 (by rfl) T.b_range (jbs_c (JO.toB (jo_callB bj_len (by rfl) T.b_len PySem.boot_len (jbs_c (jb_v (pv 1)) jbs_n))) jbs_n)) (jg_n (pg_name (i:=2) scLTexts.nd rfl (Or.inl rfl))) (jss_one (js_if (JW.toT (jw_or (jt_not (jt_v (JO.toB (jo_isi (by rfl) T.b_isinstance (JO.toB (jo_ix (jb_v (pv 0)) (jb_v (pv 2)))) (pe_bltn (by rfl) T.b_str PyProof.Rows.boot_str (v:= .ty "str") rfl))))) (jw_or1 (jt_cmp (oj_ne hr.units0) (JO.toB (jo_ix (jb_v (pv 0)) (jb_v (pv 2)))) (JO.toB (jo_ix (jb_v (pv 1)) (jb_v (pv 2)))) (nomark _))))) (jss_one (js_ret (jo_b pe_bl))) jss_nil)))
  (jss_one (js_ret (jo_b pe_bl)))))⟩
theorem ok_LWorth {f:Addr} {fd:FuncData} {dV:Value} (F:FunD K "_law_worth" "_law_worth" sLWorth f fd dV):FnOk P w K mg base CX0 1 f fd ["_law_cell"] (spP K tb m_LWorth):=by
 refine kfn F scLWorth tbS g_LWorth λcdv A outer s H E hr=> ?_
 exact ⟨_,(jss_one (js_ret (jo_ix (JO.toB (JN.o (jn_lst (ja_c (JO.z (jo_op oj_add (JO.toB (jo_i pe_int)) (JO.toB (jo_op oj_mod (JO.toB (jo_op oj_div (jb_v (pv 0)) (JO.toB (jo_i pe_int)))) (JO.toB (jo_i pe_int)))))) (ja_c (JO.z (jo_op oj_add (JO.toB (jo_i pe_int)) (JO.toB (jo_op oj_mod (JO.toB (jo_op oj_div (jb_v (pv 0)) (JO.toB (jo_i pe_int)))) (JO.toB (jo_i pe_int)))))) (ja_c (JO.z (jo_op oj_add (JO.toB (jo_i pe_int)) (JO.toB (jo_op oj_mod (JO.toB (jo_op oj_div (jb_v (pv 0)) (JO.toB (jo_i pe_int)))) (JO.toB (jo_i pe_int)))))) (ja_c (jf_i pe_int) ja_n))))))) (JO.toB (jo_op oj_mod (jb_v (pv 0)) (JO.toB (jo_i pe_int)))))))⟩
theorem ok_LCoins {f:Addr} {fd:FuncData} {dV:Value} (F:FunD K "_law_coins" "_law_coins" sLCoins f fd dV):FnOk P w K mg base CX0 1 f fd ["_law_cell"] (spP K tb m_LCoins):=by
 refine kfn F scLCoins tbS g_LCoins λcdv A outer s H E hr=> ?_
 exact ⟨_,(jss_one (js_ret (jo_ix (JO.toB (JN.o (jn_lst (ja_c (JO.z (jo_op oj_mod (JO.toB (jo_op oj_div (jb_v (pv 0)) (JO.toB (jo_i pe_int)))) (JO.toB (jo_i pe_int)))) (ja_c (JO.z (jo_op oj_mod (JO.toB (jo_op oj_div (jb_v (pv 0)) (JO.toB (jo_i pe_int)))) (JO.toB (jo_i pe_int)))) (ja_c (JO.z (jo_op oj_mod (JO.toB (jo_op oj_div (jb_v (pv 0)) (JO.toB (jo_i pe_int)))) (JO.toB (jo_i pe_int)))) (ja_c (jf_i pe_int) ja_n))))))) (JO.toB (jo_op oj_mod (jb_v (pv 0)) (JO.toB (jo_i pe_int)))))))⟩
theorem ok_LSides {f:Addr} {fd:FuncData} {dV:Value} (F:FunD K "_law_sides" "_law_sides" sLSides f fd dV):FnOk P w K mg base CX0 1 f fd ["_law_cell","_law_other"] (spP K tb m_LSides):=by
 refine kfn F scLSides tbS g_LSides λcdv A outer s H E hr=> ?_
 exact ⟨_,(jss_cons (js_setM (λh=>ps_set (i:=2) scLSides.nd rfl (Or.inl rfl) h) (jn_lst ja_n))
  (jss_cons (js_for (k:=99) PassesOwn.never rfl (ji_rng1 (by rfl) T.b_range (jbs_c (JO.toB (jo_op oj_add (JO.toB (jo_i pe_int)) (JO.toB (jo_op oj_mod (jb_v (pv 0)) (JO.toB (jo_i pe_int)))))) jbs_n)) (jg_n (pg_name (i:=3) scLSides.nd rfl (Or.inl rfl))) (jss_cons (js_app' (λh=>ps_expr (pe_bm PySem.F.plainAttrs_list PySem.F.slot_list_append PySem.F.type_list_append mt_append (pv 2) h)) (JO.z (jo_op oj_add (JO.toB (jo_i pe_int)) (JO.toB (jo_op oj_mod (jb_v (pv 1)) (JO.toB (jo_i pe_int)))))))
  (jss_one (js_set (λh=>ps_set (i:=1) scLSides.nd rfl (Or.inl rfl) h) (jo_op oj_div (jb_v (pv 1)) (JO.toB (jo_i pe_int)))))))
  (jss_one (js_retV (pv 2)))))⟩
theorem ok_BookRowsKept {f:Addr} {fd:FuncData} {dV:Value} (F:FunD K "rows_kept" "Book.rows_kept" sBookRowsKept f fd dV):FnOk P w K mg base CX0 1 f fd ["self","mark"] (spX K tb cB [c_Full,c_NoClaim,c_RoundOver,c_TooLate,c_Twice,c_TooMuch,0,0] m_BookRowsKept):=by
 refine kfnN F scBookRowsKept tbS g_BookRowsKept λcdv A outer s H E hr=> ?_
 try dsimp only [cxOf]
 exact ⟨_,(jsxs_cons (jsx_asg (λh=>ps_set (i:=2) scBookRowsKept.nd rfl (Or.inr rfl) h) (jx_if (jt_cmp oj_is (jb_v (pv 1)) (JO.toB (jo_n pe_non)) (nomark _)) (jx_done (pe_fld (pv 0) rfl) T.cl T.n_done) (jx_l (JF.o (jf_v (pv 1))))))
  (jsxs_one (jsx_ret (jx_comp ["self","mark","at"] (defScope sBookRowsKept) 3 [2] ["row","came","went","at"] (by decide) rfl (by decide+kernel) (jxi_zip3 (by rfl) T.b_zip (jxb_rows (pe_fld (pv 0) rfl) T.cl T.n_rows) (jxb_came (pe_fld (pv 0) rfl) T.cl T.n_came) (jxb_went (pe_fld (pv 0) rfl) T.cl T.n_went)) (λ_ _ _ _=>(jg_t (n:=3) rfl (jgs_cons (jg_n (pg_name (i:=0) (show List.Nodup (["row","came","went","at"]:List Str) by decide+kernel) rfl (Or.inl rfl))) (jgs_cons (jg_n (pg_name (i:=1) (show List.Nodup (["row","came","went","at"]:List Str) by decide+kernel) rfl (Or.inl rfl))) (jgs_cons (jg_n (pg_name (i:=2) (show List.Nodup (["row","came","went","at"]:List Str) by decide+kernel) rfl (Or.inl rfl))) jgs_nil))))) (λ_ _ _ _=>(jts_one (JW.toT (jw_and (jt_cmp oj_le (jb_v (pv 1)) (jb_v (pv 3)) (nomark _)) (jw_and1 (JW.toT (jw_or (jt_cmp oj_is (jb_v (pv 2)) (JO.toB (jo_n pe_non)) (nomark _)) (jw_or1 (jt_cmp oj_lt (jb_v (pv 3)) (jb_v (pv 2)) (nomark _)))))))))) (λ_ _ _ _=>(jf_v (pv 0))) (by decide+kernel) (by decide+kernel) (by decide+kernel)))))⟩
theorem ok_BookWrite {f:Addr} {fd:FuncData} {dV:Value} (F:FunD K "write" "Book.write" sBookWrite f fd dV) (GBookRowsKeptD:MtF P w K mg base CX0 cB "rows_kept" 1 ["self","mark"] [.non] (spX K tb cB [c_Full,c_NoClaim,c_RoundOver,c_TooLate,c_Twice,c_TooMuch,0,0] m_BookRowsKept)) (GCheckRow:FnX P w K mg base "check_row" 5 ["rows","written","row"] (spE K tb [c_Full,c_NoClaim,c_RoundOver,c_TooLate,c_Twice,c_TooMuch,0,0] m_CheckRow)):FnOk P w K mg base (CX1 P w) 6 f fd ["self","row"] (spX K tb cB [c_Full,c_NoClaim,c_RoundOver,c_TooLate,c_Twice,c_TooMuch,0,0] m_BookWrite):=by
 refine kfnX F scBookWrite tbS g_BookWrite λcdv A outer s H E hr=> ?_
 try dsimp only [cxOf]
 exact ⟨_,(jsxs_cons (jsx_do (jx_callE (λh=>pe_fnX GCheckRow hr (by decide) passX (by rfl) h) (jxa_c (JX.z (jx_methN mkMN_ne (dvs:= [.non]) (dps:= [.non]) (λh1 _=>pe_mt0 GBookRowsKeptD T.cl hr (by decide) pass0 h1) (jf_v (pv 0)) jxa_n (λ_=>(.cons (.non) .nil)) (by decide+kernel))) (jxa_c (JX.z (jx_len (by rfl) T.b_len (jxb_rows (pe_fld (pv 0) rfl) T.cl T.n_rows))) (jxa_c (jxf_l (jf_v (pv 1))) jxa_n)))))
  (jsxs_cons (jsx_done T.n_done T.cl (ps_fldaug (pv 0) pe_int iop_add))
  (jsxs_cons (jsx_appF (lf_rows T.n_rows) T.cl (λh=>ps_expr (pe_bm PySem.F.plainAttrs_list PySem.F.slot_list_append PySem.F.type_list_append mt_append (pe_fld (pv 0) rfl) h)) (jxf_l (jf_v (pv 1))))
  (jsxs_cons (jsx_appF (lf_came T.n_came) T.cl (λh=>ps_expr (pe_bm PySem.F.plainAttrs_list PySem.F.slot_list_append PySem.F.type_list_append mt_append (pe_fld (pv 0) rfl) h)) (JX.z (jx_done (pe_fld (pv 0) rfl) T.cl T.n_done)))
  (jsxs_cons (jsx_appF (lf_went T.n_went) T.cl (λh=>ps_expr (pe_bm PySem.F.plainAttrs_list PySem.F.slot_list_append PySem.F.type_list_append mt_append (pe_fld (pv 0) rfl) h)) (jxf_l (jf_n pe_non)))
  (jsxs_one (jsx_l (js_ret (jo_ix (jb_v (pv 1)) (JO.toB (jo_i (pe_globI (by rfl) T.c_NUMBER))))))))))))⟩
theorem ok_BookCarry {f:Addr} {fd:FuncData} {dV:Value} (F:FunD K "carry" "Book.carry" sBookCarry f fd dV) (GBookWrite:MtF P w K mg base (CX1 P w) cB "write" 6 ["self","row"] [] (spX K tb cB [c_Full,c_NoClaim,c_RoundOver,c_TooLate,c_Twice,c_TooMuch,0,0] m_BookWrite)) (GCarryRow:Fn P w K mg base "carry_row" 1 ["number","day","claim"] (spP K tb m_CarryRow)):FnOk P w K mg base (CX1 P w) 7 f fd ["self","day","claim"] (spX K tb cB [c_Full,c_NoClaim,c_RoundOver,c_TooLate,c_Twice,c_TooMuch,0,0] m_BookCarry):=by
 refine kfnX F scBookCarry tbS g_BookCarry λcdv A outer s H E hr=> ?_
 try dsimp only [cxOf]
 exact ⟨_,(jsxs_one (jsx_ret (jx_meth (dvs:= []) (dps:= []) (λh1 h2=>pe_mt GBookWrite T.cl hr (by decide) passX h1 h2) (jf_v (pv 0)) (jxa_c (JX.z (jx_callP (λh=>pe_fn GCarryRow hr (by decide) (by rfl) h) (jxa_c (JX.z (jx_len (by rfl) T.b_len (jxb_rows (pe_fld (pv 0) rfl) T.cl T.n_rows))) (jxa_c (jxf_l (jf_v (pv 1))) (jxa_c (jxf_l (jf_v (pv 2))) jxa_n))))) jxa_n) (λ_=> .nil) (by decide+kernel))))⟩
theorem ok_BookClaim {f:Addr} {fd:FuncData} {dV:Value} (F:FunD K "claim" "Book.claim" sBookClaim f fd dV) (GBookWrite:MtF P w K mg base (CX1 P w) cB "write" 6 ["self","row"] [] (spX K tb cB [c_Full,c_NoClaim,c_RoundOver,c_TooLate,c_Twice,c_TooMuch,0,0] m_BookWrite)) (GClaimRow:Fn P w K mg base "claim_row" 1 ["number","day","claim","asker","answerer","worth"] (spP K tb m_ClaimRow)):FnOk P w K mg base (CX1 P w) 7 f fd ["self","day","claim","asker","answerer","worth"] (spX K tb cB [c_Full,c_NoClaim,c_RoundOver,c_TooLate,c_Twice,c_TooMuch,0,0] m_BookClaim):=by
 refine kfnX F scBookClaim tbS g_BookClaim λcdv A outer s H E hr=> ?_
 try dsimp only [cxOf]
 exact ⟨_,(jsxs_one (jsx_ret (jx_meth (dvs:= []) (dps:= []) (λh1 h2=>pe_mt GBookWrite T.cl hr (by decide) passX h1 h2) (jf_v (pv 0)) (jxa_c (JX.z (jx_callP (λh=>pe_fn GClaimRow hr (by decide) (by rfl) h) (jxa_c (JX.z (jx_len (by rfl) T.b_len (jxb_rows (pe_fld (pv 0) rfl) T.cl T.n_rows))) (jxa_c (jxf_l (jf_v (pv 1))) (jxa_c (jxf_l (jf_v (pv 2))) (jxa_c (jxf_l (jf_v (pv 3))) (jxa_c (jxf_l (jf_v (pv 4))) (jxa_c (jxf_l (jf_v (pv 5))) jxa_n)))))))) jxa_n) (λ_=> .nil) (by decide+kernel))))⟩
theorem ok_BookDun {f:Addr} {fd:FuncData} {dV:Value} (F:FunD K "dun" "Book.dun" sBookDun f fd dV) (GBookWrite:MtF P w K mg base (CX1 P w) cB "write" 6 ["self","row"] [] (spX K tb cB [c_Full,c_NoClaim,c_RoundOver,c_TooLate,c_Twice,c_TooMuch,0,0] m_BookWrite)) (GDunRow:Fn P w K mg base "dun_row" 1 ["number","day","side"] (spP K tb m_DunRow)):FnOk P w K mg base (CX1 P w) 7 f fd ["self","day","side"] (spX K tb cB [c_Full,c_NoClaim,c_RoundOver,c_TooLate,c_Twice,c_TooMuch,0,0] m_BookDun):=by
 refine kfnX F scBookDun tbS g_BookDun λcdv A outer s H E hr=> ?_
 try dsimp only [cxOf]
 exact ⟨_,(jsxs_one (jsx_ret (jx_meth (dvs:= []) (dps:= []) (λh1 h2=>pe_mt GBookWrite T.cl hr (by decide) passX h1 h2) (jf_v (pv 0)) (jxa_c (JX.z (jx_callP (λh=>pe_fn GDunRow hr (by decide) (by rfl) h) (jxa_c (JX.z (jx_len (by rfl) T.b_len (jxb_rows (pe_fld (pv 0) rfl) T.cl T.n_rows))) (jxa_c (jxf_l (jf_v (pv 1))) (jxa_c (jxf_l (jf_v (pv 2))) jxa_n))))) jxa_n) (λ_=> .nil) (by decide+kernel))))⟩
theorem ok_BookOffer {f:Addr} {fd:FuncData} {dV:Value} (F:FunD K "offer" "Book.offer" sBookOffer f fd dV) (GBookWrite:MtF P w K mg base (CX1 P w) cB "write" 6 ["self","row"] [] (spX K tb cB [c_Full,c_NoClaim,c_RoundOver,c_TooLate,c_Twice,c_TooMuch,0,0] m_BookWrite)) (GOfferRow:Fn P w K mg base "offer_row" 1 ["number","day","turn","claim","amount"] (spP K tb m_OfferRow)):FnOk P w K mg base (CX1 P w) 7 f fd ["self","day","turn","claim","amount"] (spX K tb cB [c_Full,c_NoClaim,c_RoundOver,c_TooLate,c_Twice,c_TooMuch,0,0] m_BookOffer):=by
 refine kfnX F scBookOffer tbS g_BookOffer λcdv A outer s H E hr=> ?_
 try dsimp only [cxOf]
 exact ⟨_,(jsxs_one (jsx_ret (jx_meth (dvs:= []) (dps:= []) (λh1 h2=>pe_mt GBookWrite T.cl hr (by decide) passX h1 h2) (jf_v (pv 0)) (jxa_c (JX.z (jx_callP (λh=>pe_fn GOfferRow hr (by decide) (by rfl) h) (jxa_c (JX.z (jx_len (by rfl) T.b_len (jxb_rows (pe_fld (pv 0) rfl) T.cl T.n_rows))) (jxa_c (jxf_l (jf_v (pv 1))) (jxa_c (jxf_l (jf_v (pv 2))) (jxa_c (jxf_l (jf_v (pv 3))) (jxa_c (jxf_l (jf_v (pv 4))) jxa_n))))))) jxa_n) (λ_=> .nil) (by decide+kernel))))⟩
theorem ok_BookPay {f:Addr} {fd:FuncData} {dV:Value} (F:FunD K "pay" "Book.pay" sBookPay f fd dV) (GBookWrite:MtF P w K mg base (CX1 P w) cB "write" 6 ["self","row"] [] (spX K tb cB [c_Full,c_NoClaim,c_RoundOver,c_TooLate,c_Twice,c_TooMuch,0,0] m_BookWrite)) (GPayRow:Fn P w K mg base "pay_row" 1 ["number","day","side","person","coins"] (spP K tb m_PayRow)):FnOk P w K mg base (CX1 P w) 7 f fd ["self","day","side","person","coins"] (spX K tb cB [c_Full,c_NoClaim,c_RoundOver,c_TooLate,c_Twice,c_TooMuch,0,0] m_BookPay):=by
 refine kfnX F scBookPay tbS g_BookPay λcdv A outer s H E hr=> ?_
 try dsimp only [cxOf]
 exact ⟨_,(jsxs_one (jsx_ret (jx_meth (dvs:= []) (dps:= []) (λh1 h2=>pe_mt GBookWrite T.cl hr (by decide) passX h1 h2) (jf_v (pv 0)) (jxa_c (JX.z (jx_callP (λh=>pe_fn GPayRow hr (by decide) (by rfl) h) (jxa_c (JX.z (jx_len (by rfl) T.b_len (jxb_rows (pe_fld (pv 0) rfl) T.cl T.n_rows))) (jxa_c (jxf_l (jf_v (pv 1))) (jxa_c (jxf_l (jf_v (pv 2))) (jxa_c (jxf_l (jf_v (pv 3))) (jxa_c (jxf_l (jf_v (pv 4))) jxa_n))))))) jxa_n) (λ_=> .nil) (by decide+kernel))))⟩
theorem ok_BookStep {f:Addr} {fd:FuncData} {dV:Value} (F:FunD K "step" "Book.step" sBookStep f fd dV) (GBookWrite:MtF P w K mg base (CX1 P w) cB "write" 6 ["self","row"] [] (spX K tb cB [c_Full,c_NoClaim,c_RoundOver,c_TooLate,c_Twice,c_TooMuch,0,0] m_BookWrite)) (GStepRow:Fn P w K mg base "step_row" 1 ["number","day","turn","side","kind","many","laid"] (spP K tb m_StepRow)):FnOk P w K mg base (CX1 P w) 7 f fd ["self","day","turn","side","kind","many","laid"] (spX K tb cB [c_Full,c_NoClaim,c_RoundOver,c_TooLate,c_Twice,c_TooMuch,0,0] m_BookStep):=by
 refine kfnX F scBookStep tbS g_BookStep λcdv A outer s H E hr=> ?_
 try dsimp only [cxOf]
 exact ⟨_,(jsxs_one (jsx_ret (jx_meth (dvs:= []) (dps:= []) (λh1 h2=>pe_mt GBookWrite T.cl hr (by decide) passX h1 h2) (jf_v (pv 0)) (jxa_c (JX.z (jx_callP (λh=>pe_fn GStepRow hr (by decide) (by rfl) h) (jxa_c (JX.z (jx_len (by rfl) T.b_len (jxb_rows (pe_fld (pv 0) rfl) T.cl T.n_rows))) (jxa_c (jxf_l (jf_v (pv 1))) (jxa_c (jxf_l (jf_v (pv 2))) (jxa_c (jxf_l (jf_v (pv 3))) (jxa_c (jxf_l (jf_v (pv 4))) (jxa_c (jxf_l (jf_v (pv 5))) (jxa_c (jxf_l (jf_v (pv 6))) jxa_n))))))))) jxa_n) (λ_=> .nil) (by decide+kernel))))⟩
theorem ok_LCall {f:Addr} {fd:FuncData} {dV:Value} (F:FunD K "_law_call" "_law_call" sLCall f fd dV) (GBookCarry:MtF P w K mg base (CX1 P w) cB "carry" 7 ["self","day","claim"] [] (spX K tb cB [c_Full,c_NoClaim,c_RoundOver,c_TooLate,c_Twice,c_TooMuch,0,0] m_BookCarry)) (GBookClaim:MtF P w K mg base (CX1 P w) cB "claim" 7 ["self","day","claim","asker","answerer","worth"] [] (spX K tb cB [c_Full,c_NoClaim,c_RoundOver,c_TooLate,c_Twice,c_TooMuch,0,0] m_BookClaim)) (GBookDun:MtF P w K mg base (CX1 P w) cB "dun" 7 ["self","day","side"] [] (spX K tb cB [c_Full,c_NoClaim,c_RoundOver,c_TooLate,c_Twice,c_TooMuch,0,0] m_BookDun)) (GBookOffer:MtF P w K mg base (CX1 P w) cB "offer" 7 ["self","day","turn","claim","amount"] [] (spX K tb cB [c_Full,c_NoClaim,c_RoundOver,c_TooLate,c_Twice,c_TooMuch,0,0] m_BookOffer)) (GBookPay:MtF P w K mg base (CX1 P w) cB "pay" 7 ["self","day","side","person","coins"] [] (spX K tb cB [c_Full,c_NoClaim,c_RoundOver,c_TooLate,c_Twice,c_TooMuch,0,0] m_BookPay)) (GBookStep:MtF P w K mg base (CX1 P w) cB "step" 7 ["self","day","turn","side","kind","many","laid"] [] (spX K tb cB [c_Full,c_NoClaim,c_RoundOver,c_TooLate,c_Twice,c_TooMuch,0,0] m_BookStep)):FnOk P w K mg base (CX1 P w) 8 f fd ["_law_book","_law_word","_law_day","_law_told"] (spX K tb cB [c_Full,c_NoClaim,c_RoundOver,c_TooLate,c_Twice,c_TooMuch,0,0] m_LCall):=by
 refine kfnX F scLCall tbS g_LCall λcdv A outer s H E hr=> ?_
 try dsimp only [cxOf]
 exact ⟨_,(jsxs_cons (jsx_if (jt_cmp (oj_eq hr.units0) (jb_v (pv 1)) (JO.toB (jo_s pe_str)) (nomark _)) (jsxs_one (jsx_ret (jx_meth (dvs:= []) (dps:= []) (λh1 h2=>pe_mt GBookClaim T.cl hr (by decide) passX h1 h2) (jf_v (pv 0)) (jxa_l (ja_c (jf_v (pv 2)) (ja_c (JO.z (jo_ix (jb_v (pv 3)) (JO.toB (jo_i pe_int)))) (ja_c (JO.z (jo_ix (jb_v (pv 3)) (JO.toB (jo_i pe_int)))) (ja_c (JO.z (jo_ix (jb_v (pv 3)) (JO.toB (jo_i pe_int)))) (ja_c (JO.z (jo_ix (jb_v (pv 3)) (JO.toB (jo_i pe_int)))) ja_n)))))) (λ_=> .nil) (by decide+kernel)))) jsxs_nil)
  (jsxs_cons (jsx_if (jt_cmp (oj_eq hr.units0) (jb_v (pv 1)) (JO.toB (jo_s pe_str)) (nomark _)) (jsxs_one (jsx_ret (jx_meth (dvs:= []) (dps:= []) (λh1 h2=>pe_mt GBookCarry T.cl hr (by decide) passX h1 h2) (jf_v (pv 0)) (jxa_l (ja_c (jf_v (pv 2)) (ja_c (JO.z (jo_ix (jb_v (pv 3)) (JO.toB (jo_i pe_int)))) ja_n))) (λ_=> .nil) (by decide+kernel)))) jsxs_nil)
  (jsxs_cons (jsx_if (jt_cmp (oj_eq hr.units0) (jb_v (pv 1)) (JO.toB (jo_s pe_str)) (nomark _)) (jsxs_one (jsx_ret (jx_meth (dvs:= []) (dps:= []) (λh1 h2=>pe_mt GBookStep T.cl hr (by decide) passX h1 h2) (jf_v (pv 0)) (jxa_l (ja_c (jf_v (pv 2)) (ja_c (JO.z (jo_ix (jb_v (pv 3)) (JO.toB (jo_i pe_int)))) (ja_c (JO.z (jo_ix (jb_v (pv 3)) (JO.toB (jo_i pe_int)))) (ja_c (JO.z (jo_ix (jb_v (pv 3)) (JO.toB (jo_i pe_int)))) (ja_c (JO.z (jo_ix (jb_v (pv 3)) (JO.toB (jo_i pe_int)))) (ja_c (JO.z (jo_ix (jb_v (pv 3)) (JO.toB (jo_i pe_int)))) ja_n))))))) (λ_=> .nil) (by decide+kernel)))) jsxs_nil)
  (jsxs_cons (jsx_if (jt_cmp (oj_eq hr.units0) (jb_v (pv 1)) (JO.toB (jo_s pe_str)) (nomark _)) (jsxs_one (jsx_ret (jx_meth (dvs:= []) (dps:= []) (λh1 h2=>pe_mt GBookOffer T.cl hr (by decide) passX h1 h2) (jf_v (pv 0)) (jxa_l (ja_c (jf_v (pv 2)) (ja_c (JO.z (jo_ix (jb_v (pv 3)) (JO.toB (jo_i pe_int)))) (ja_c (JO.z (jo_ix (jb_v (pv 3)) (JO.toB (jo_i pe_int)))) (ja_c (JO.z (jo_ix (jb_v (pv 3)) (JO.toB (jo_i pe_int)))) ja_n))))) (λ_=> .nil) (by decide+kernel)))) jsxs_nil)
  (jsxs_cons (jsx_if (jt_cmp (oj_eq hr.units0) (jb_v (pv 1)) (JO.toB (jo_s pe_str)) (nomark _)) (jsxs_one (jsx_ret (jx_meth (dvs:= []) (dps:= []) (λh1 h2=>pe_mt GBookPay T.cl hr (by decide) passX h1 h2) (jf_v (pv 0)) (jxa_l (ja_c (jf_v (pv 2)) (ja_c (JO.z (jo_ix (jb_v (pv 3)) (JO.toB (jo_i pe_int)))) (ja_c (JO.z (jo_ix (jb_v (pv 3)) (JO.toB (jo_i pe_int)))) (ja_c (JO.z (jo_ix (jb_v (pv 3)) (JO.toB (jo_i pe_int)))) ja_n))))) (λ_=> .nil) (by decide+kernel)))) jsxs_nil)
  (jsxs_one (jsx_ret (jx_meth (dvs:= []) (dps:= []) (λh1 h2=>pe_mt GBookDun T.cl hr (by decide) passX h1 h2) (jf_v (pv 0)) (jxa_l (ja_c (jf_v (pv 2)) (ja_c (JO.z (jo_ix (jb_v (pv 3)) (JO.toB (jo_i pe_int)))) ja_n))) (λ_=> .nil) (by decide+kernel)))))))))⟩
theorem ok_LWins {f:Addr} {fd:FuncData} {dV:Value} (F:FunD K "_law_wins" "_law_wins" sLWins f fd dV):FnOk P w K mg base CX0 1 f fd ["_law_cell","_law_claims"] (spP K tb m_LWins):=by
 refine kfn F scLWins tbS g_LWins λcdv A outer s H E hr=> ?_
 exact ⟨_,(jss_cons (js_setM (λh=>ps_set (i:=2) scLWins.nd rfl (Or.inl rfl) h) (jn_lst ja_n))
  (jss_cons (js_for (k:=99) PassesOwn.never rfl (ji_rng1 (by rfl) T.b_range (jbs_c (JO.toB (jo_callB bj_len (by rfl) T.b_len PySem.boot_len (jbs_c (jb_v (pv 1)) jbs_n))) jbs_n)) (jg_n (pg_name (i:=3) scLWins.nd rfl (Or.inl rfl))) (jss_cons (js_set (λh=>ps_set (i:=4) scLWins.nd rfl (Or.inl rfl) h) (jo_op oj_mod (JO.toB (jo_op oj_add (jb_v (pv 0)) (JO.toB (jo_op oj_mul (JO.toB (jo_i pe_int)) (jb_v (pv 3)))))) (JO.toB (jo_i pe_int))))
  (jss_cons (js_if (jt_cmp oj_lt (jb_v (pv 4)) (JO.toB (jo_i pe_int)) (nomark _)) (jss_one (js_app' (λh=>ps_expr (pe_bm PySem.F.plainAttrs_list PySem.F.slot_list_append PySem.F.type_list_append mt_append (pv 2) h)) (JO.z (jo_tup (ja_c (JO.z (jo_ix (JO.toB (jo_ix (jb_v (pv 1)) (jb_v (pv 3)))) (JO.toB (jo_i pe_int)))) (ja_c (JO.z (jo_op oj_sub (JO.toB (jo_op oj_div (JO.toB (jo_op oj_mul (JO.toB (jo_ix (JO.toB (jo_ix (jb_v (pv 1)) (jb_v (pv 3)))) (JO.toB (jo_i pe_int)))) (JO.toB (jo_callB (bj_min rfl) (by rfl) T.b_min PyProof.Rows.boot_min (jbs_c (JO.toB (jo_i pe_int)) (jbs_c (jb_v (pv 4)) jbs_n)))))) (JO.toB (jo_i pe_int)))) (JO.toB (jo_callT bj_int (by rfl) T.b_int PyProof.Rows.boot_int (jbs_c (JO.toB (jo_cmp (oj_eq hr.units0) (jb_v (pv 4)) (JO.toB (jo_i pe_int)) (nomark _))) jbs_n))))) ja_n)))))) jss_nil)
  (jss_one (js_set (λh=>ps_set (i:=0) scLWins.nd rfl (Or.inl rfl) h) (jo_op oj_div (jb_v (pv 0)) (JO.toB (jo_i pe_int))))))))
  (jss_one (js_retV (pv 2)))))⟩
theorem ok_LStep {f:Addr} {fd:FuncData} {dV:Value} (F:FunD K "_law_step" "_law_step" sLStep f fd dV) (GLCoins:Fn P w K mg base "_law_coins" 1 ["_law_cell"] (spP K tb m_LCoins)):FnOk P w K mg base CX0 2 f fd ["_law_cell","_law_other","_law_stage","_law_sides_here"] (spP K tb m_LStep):=by
 refine kfn F scLStep tbS g_LStep λcdv A outer s H E hr=> ?_
 exact ⟨_,(jss_cons (js_set (λh=>ps_set (i:=4) scLStep.nd rfl (Or.inl rfl) h) (jo_ix (JO.toB (JN.o (jn_lst (ja_c (jf_s pe_str) (ja_c (jf_s pe_str) (ja_c (jf_s pe_str) (ja_c (jf_s pe_str) (ja_c (jf_s pe_str) (ja_c (jf_s pe_str) ja_n))))))))) (JO.toB (jo_op oj_mod (JO.toB (jo_op oj_div (jb_v (pv 0)) (JO.toB (jo_i pe_int)))) (JO.toB (jo_i pe_int))))))
  (jss_cons (js_set (λh=>ps_set (i:=5) scLStep.nd rfl (Or.inl rfl) h) (jo_ix (JO.toB (JN.o (jn_lst (ja_c (jf_s pe_str) (ja_c (jf_s pe_str) (ja_c (jf_s pe_str) (ja_c (jf_s pe_str) (ja_c (jf_s pe_str) ja_n)))))))) (JO.toB (jo_op oj_mod (jb_v (pv 1)) (JO.toB (jo_i pe_int))))))
  (jss_cons (js_set (λh=>ps_set (i:=6) scLStep.nd rfl (Or.inl rfl) h) (jo_ix (JO.toB (JN.o (jn_lst (ja_c (jf_i pe_int) (ja_c (jf_i pe_int) (ja_c (JO.z (jo_op oj_mod (JO.toB (jo_op oj_div (jb_v (pv 1)) (JO.toB (jo_i pe_int)))) (JO.toB (jo_i pe_int)))) (ja_c (jf_i pe_int) ja_n))))))) (JO.toB (jo_op oj_mod (JO.toB (jo_op oj_div (jb_v (pv 0)) (JO.toB (jo_i pe_int)))) (JO.toB (jo_i pe_int))))))
  (jss_cons (js_if (jt_cmp (oj_eq hr.units0) (jb_v (pv 4)) (JO.toB (jo_s pe_str)) (nomark _)) (jss_one (js_set (λh=>ps_set (i:=6) scLStep.nd rfl (Or.inl rfl) h) (jo_call (λh=>pe_fn GLCoins hr (by decide) (by rfl) h) (ja_c (JO.z (jo_op oj_div (jb_v (pv 1)) (JO.toB (jo_i pe_int)))) ja_n)))) jss_nil)
  (jss_cons (js_if (jt_cmp (oj_eq hr.units0) (jb_v (pv 4)) (JO.toB (jo_s pe_str)) (nomark _)) (jss_one (js_set (λh=>ps_set (i:=6) scLStep.nd rfl (Or.inl rfl) h) (jo_ix (JO.toB (JN.o (jn_lst (ja_c (jf_i pe_int) (ja_c (jf_i pe_int) (ja_c (jf_i pe_int) (ja_c (JO.z (jo_op oj_mod (JO.toB (jo_op oj_div (jb_v (pv 1)) (JO.toB (jo_i pe_int)))) (JO.toB (jo_i pe_int)))) ja_n))))))) (JO.toB (jo_op oj_mod (JO.toB (jo_op oj_div (jb_v (pv 0)) (JO.toB (jo_i pe_int)))) (JO.toB (jo_i pe_int))))))) jss_nil)
  (jss_one (js_ret (jo_tup (ja_c (jf_s pe_str) (ja_c (JO.z (jo_tup (ja_c (jf_v (pv 2)) (ja_c (JO.z (jo_op oj_mod (jb_v (pv 0)) (JO.toB (jo_callB bj_len (by rfl) T.b_len PySem.boot_len (jbs_c (jb_v (pv 3)) jbs_n))))) (ja_c (jf_v (pv 4)) (ja_c (jf_v (pv 6)) (ja_c (jf_v (pv 5)) ja_n))))))) ja_n))))))))))⟩
theorem ok_LClaim {f:Addr} {fd:FuncData} {dV:Value} (F:FunD K "_law_claim" "_law_claim" sLClaim f fd dV) (GLWorth:Fn P w K mg base "_law_worth" 1 ["_law_cell"] (spP K tb m_LWorth)):FnOk P w K mg base CX0 2 f fd ["_law_cell","_law_other","_law_many"] (spP K tb m_LClaim):=by
 refine kfn F scLClaim tbS g_LClaim λcdv A outer s H E hr=> ?_
 exact ⟨_,(jss_cons (js_set (λh=>ps_set (i:=3) scLClaim.nd rfl (Or.inl rfl) h) (jo_op oj_mod (JO.toB (jo_op oj_div (jb_v (pv 0)) (JO.toB (jo_i pe_int)))) (jb_v (pv 2))))
  (jss_cons (js_set (λh=>ps_set (i:=4) scLClaim.nd rfl (Or.inl rfl) h) (jo_op oj_mod (JO.toB (jo_op oj_add (JO.toB (jo_op oj_add (jb_v (pv 3)) (JO.toB (jo_i pe_int)))) (JO.toB (jo_op oj_mod (JO.toB (jo_op oj_div (jb_v (pv 0)) (JO.toB (jo_i pe_int)))) (JO.toB (jo_op oj_sub (jb_v (pv 2)) (JO.toB (jo_i pe_int)))))))) (jb_v (pv 2))))
  (jss_one (js_ret (jo_tup (ja_c (jf_s pe_str) (ja_c (JO.z (jo_tup (ja_c (JO.z (jo_op oj_mod (jb_v (pv 0)) (JO.toB (jo_ix (JO.toB (JN.o (jn_lst (ja_c (jf_i pe_int) (ja_c (jf_i pe_int) (ja_c (jf_i pe_int) ja_n)))))) (JO.toB (jo_op oj_mod (jb_v (pv 1)) (JO.toB (jo_i pe_int)))))))) (ja_c (jf_v (pv 3)) (ja_c (jf_v (pv 4)) (ja_c (JO.z (jo_call (λh=>pe_fn GLWorth hr (by decide) (by rfl) h) (ja_c (JO.z (jo_op oj_div (jb_v (pv 1)) (JO.toB (jo_i pe_int)))) ja_n))) ja_n)))))) ja_n)))))))⟩
theorem ok_LText {f:Addr} {fd:FuncData} {dV:Value} (F:FunD K "_law_text" "_law_text" sLText f fd dV):FnOk P w K mg base CX0 1 f fd ["_law_word","_law_day","_law_told"] (spP K tb m_LText_2):=by
 refine kfn F scLText tbS g_LText_2 λcdv A outer s H E hr=> ?_
 exact ⟨_,(jss_cons (js_set (λh=>ps_set (i:=3) scLText.nd rfl (Or.inl rfl) h) (jo_op oj_add (JO.toB (JN.o (jn_lst (ja_c (jf_v (pv 0)) (ja_c (JO.z (jo_callT (bj_strT hr.gd (hu150 hr)) (by rfl) T.b_str PyProof.Rows.boot_str (jbs_c (jb_v (pv 1)) jbs_n))) ja_n))))) (JO.toB (jo_comp ["_law_word","_law_day","_law_told","_law_words"] (defScope sLText) 1 [] ["_law_one"] (by decide) rfl (by decide+kernel) (ji_tup (jf_v (pv 2))) (λ_ _ _ _=>(jg_n (pg_name (i:=0) (show List.Nodup (["_law_one"]:List Str) by decide+kernel) rfl (Or.inl rfl)))) (λ_ _ _ _=>jts_nil) (λ_ _ _ _=>(JO.z (jo_callT (bj_strT hr.gd (hu150 hr)) (by rfl) T.b_str PyProof.Rows.boot_str (jbs_c (jb_v (pv 0)) jbs_n)))) (by decide+kernel) (by decide+kernel) (by decide+kernel)))))
  (jss_cons (js_if (jt_cmp (oj_eq hr.units0) (jb_v (pv 0)) (JO.toB (jo_s pe_str)) (nomark _)) (jss_cons (js_set (λh=>ps_set (i:=3) scLText.nd rfl (Or.inl rfl) h) (jo_op oj_add (JO.toB (jo_sl (jb_v (pv 3)) jp_n (jp_s (JO.toB (jo_i pe_int))))) (JO.toB (JN.o (jn_lst (ja_c (JO.z (jo_ix (JO.toB (JN.o (jn_lst (ja_c (jf_s pe_str) (ja_c (jf_s pe_str) ja_n))))) (JO.toB (jo_callT bj_int (by rfl) T.b_int PyProof.Rows.boot_int (jbs_c (JO.toB (jo_ix (jb_v (pv 2)) (JO.toB (jo_i pe_int)))) jbs_n))))) ja_n))))))
  (jss_one (js_set (λh=>ps_set (i:=3) scLText.nd rfl (Or.inl rfl) h) (jo_op oj_add (jb_v (pv 3)) (JO.toB (jo_comp ["_law_word","_law_day","_law_told","_law_words"] (defScope sLText) 1 [] ["_law_one"] (by decide) rfl (by decide+kernel) (ji_tup (JO.z (jo_ix (jb_v (pv 2)) (JO.toB (jo_i pe_int))))) (λ_ _ _ _=>(jg_n (pg_name (i:=0) (show List.Nodup (["_law_one"]:List Str) by decide+kernel) rfl (Or.inl rfl)))) (λ_ _ _ _=>jts_nil) (λ_ _ _ _=>(JO.z (jo_op oj_add (JO.toB (jo_op oj_add (JO.toB (jo_callT (bj_strT hr.gd (hu150 hr)) (by rfl) T.b_str PyProof.Rows.boot_str (jbs_c (JO.toB (jo_ix (jb_v (pv 0)) (JO.toB (jo_i pe_int)))) jbs_n))) (JO.toB (jo_s pe_str)))) (JO.toB (jo_callT (bj_strT hr.gd (hu150 hr)) (by rfl) T.b_str PyProof.Rows.boot_str (jbs_c (JO.toB (jo_ix (jb_v (pv 0)) (JO.toB (jo_i pe_int)))) jbs_n)))))) (by decide+kernel) (by decide+kernel) (by decide+kernel))))))) jss_nil)
  (jss_one (js_ret (jo_join (apos:=⟨0,0,0,0⟩) (λh1 h2=>pe_bm PySem.F.plainAttrs_str PySem.F.slot_str_join PySem.F.type_str_join mt_join h1 h2) (JO.toB (jo_s pe_str)) (jb_v (pv 3)))))))⟩
theorem ok_LKept {f:Addr} {fd:FuncData} {dV:Value} (F:FunD K "_law_kept" "_law_kept" sLKept f fd dV) (GLText:Fn P w K mg base "_law_text" 1 ["_law_word","_law_day","_law_told"] (spP K tb m_LText_2)):FnOk P w K mg base CX0 2 f fd ["_law_rows"] (spP K tb m_LKept_2):=by
 refine kfn F scLKept tbS g_LKept_2 λcdv A outer s H E hr=> ?_
 exact ⟨_,(jss_one (js_ret (jo_comp ["_law_rows"] (defScope sLKept) 1 [] ["_law_row"] (by decide) rfl (by decide+kernel) (ji_list (jf_v (pv 0))) (λ_ _ _ _=>(jg_n (pg_name (i:=0) (show List.Nodup (["_law_row"]:List Str) by decide+kernel) rfl (Or.inl rfl)))) (λ_ _ _ _=>jts_nil) (λ_ _ _ _=>(JO.z (jo_call (λh=>pe_fn GLText hr (by decide) (by rfl) h) (ja_c (JO.z (jo_ix (jb_v (pv 0)) (JO.toB (jo_i pe_int)))) (ja_c (JO.z (jo_ix (jb_v (pv 0)) (JO.toB (jo_i pe_int)))) (ja_c (JO.z (jo_ix (jb_v (pv 0)) (JO.toB (jo_i pe_int)))) ja_n)))))) (by decide+kernel) (by decide+kernel) (by decide+kernel))))⟩
theorem ok_LQuarrelDeed {f:Addr} {fd:FuncData} {dV:Value} (F:FunD K "_law_quarrel_deed" "_law_quarrel_deed" sLQuarrelDeed f fd dV) (GLStep:Fn P w K mg base "_law_step" 2 ["_law_cell","_law_other","_law_stage","_law_sides_here"] (spP K tb m_LStep)):FnOk P w K mg base CX0 3 f fd ["_law_cell","_law_other","_law_stage","_law_sides_here","_law_claims"] (spP K tb m_LQuarrelDeed):=by
 refine kfn F scLQuarrelDeed tbS g_LQuarrelDeed λcdv A outer s H E hr=> ?_
 exact ⟨_,(jss_cons (js_if (jt_cmp oj_lt (JO.toB (jo_op oj_mod (jb_v (pv 0)) (JO.toB (jo_i pe_int)))) (JO.toB (jo_i pe_int)) (nomark _)) (jss_one (js_ret (jo_call (λh=>pe_fn GLStep hr (by decide) (by rfl) h) (ja_c (JO.z (jo_op oj_div (jb_v (pv 0)) (JO.toB (jo_i pe_int)))) (ja_c (jf_v (pv 1)) (ja_c (jf_v (pv 2)) (ja_c (jf_v (pv 3)) ja_n))))))) jss_nil)
  (jss_cons (js_set (λh=>ps_set (i:=5) scLQuarrelDeed.nd rfl (Or.inl rfl) h) (jo_ix (jb_v (pv 4)) (JO.toB (jo_op oj_mod (JO.toB (jo_op oj_div (jb_v (pv 0)) (JO.toB (jo_i pe_int)))) (JO.toB (jo_callB bj_len (by rfl) T.b_len PySem.boot_len (jbs_c (jb_v (pv 4)) jbs_n)))))))
  (jss_cons (js_set (λh=>ps_set (i:=6) scLQuarrelDeed.nd rfl (Or.inl rfl) h) (jo_ix (JO.toB (JN.o (jn_lst (ja_c (JO.z (jo_op oj_div (JO.toB (jo_op oj_mul (JO.toB (jo_ix (jb_v (pv 5)) (JO.toB (jo_i pe_int)))) (JO.toB (jo_op oj_mod (jb_v (pv 1)) (JO.toB (jo_i pe_int)))))) (JO.toB (jo_i pe_int)))) (ja_c (JO.z (jo_callB (bj_max rfl) (by rfl) T.b_max PyProof.Rows.boot_max (jbs_c (JO.toB (jo_i pe_int)) (jbs_c (JO.toB (jo_op oj_sub (JO.toB (jo_op oj_div (JO.toB (jo_ix (jb_v (pv 5)) (JO.toB (jo_i pe_int)))) (JO.toB (jo_i pe_int)))) (JO.toB (jo_i pe_int)))) jbs_n)))) (ja_c (JO.z (jo_op oj_add (JO.toB (jo_op oj_div (JO.toB (jo_ix (jb_v (pv 5)) (JO.toB (jo_i pe_int)))) (JO.toB (jo_i pe_int)))) (JO.toB (jo_i pe_int)))) ja_n)))))) (JO.toB (jo_op oj_mod (JO.toB (jo_op oj_div (jb_v (pv 1)) (JO.toB (jo_i pe_int)))) (JO.toB (jo_i pe_int))))))
  (jss_one (js_ret (jo_tup (ja_c (jf_s pe_str) (ja_c (JO.z (jo_tup (ja_c (jf_v (pv 2)) (ja_c (JO.z (jo_ix (jb_v (pv 5)) (JO.toB (jo_i pe_int)))) (ja_c (JO.z (jo_callB (bj_min rfl) (by rfl) T.b_min PyProof.Rows.boot_min (jbs_c (JO.toB (jo_ix (jb_v (pv 5)) (JO.toB (jo_i pe_int)))) (jbs_c (jb_v (pv 6)) jbs_n)))) ja_n))))) ja_n))))))))⟩
theorem ok_LQuarrelClaims {f:Addr} {fd:FuncData} {dV:Value} (F:FunD K "_law_quarrel_claims" "_law_quarrel_claims" sLQuarrelClaims f fd dV) (GLAt:Fn P w K mg base "_law_at" 1 ["_law_script","_law_k"] (spP K tb m_LAt)) (GLClaim:Fn P w K mg base "_law_claim" 2 ["_law_cell","_law_other","_law_many"] (spP K tb m_LClaim)):FnOk P w K mg base CX0 3 f fd ["_law_script","_law_many"] (spP K tb m_LQuarrelClaims):=by
 refine kfn F scLQuarrelClaims tbS g_LQuarrelClaims λcdv A outer s H E hr=> ?_
 exact ⟨_,(jss_cons (js_setM (λh=>ps_set (i:=2) scLQuarrelClaims.nd rfl (Or.inl rfl) h) (jn_lst ja_n))
  (jss_cons (js_set (λh=>ps_set (i:=3) scLQuarrelClaims.nd rfl (Or.inl rfl) h) (jo_call (λh=>pe_fn GLAt hr (by decide) (by rfl) h) (ja_c (jf_v (pv 0)) (ja_c (jf_i pe_int) ja_n))))
  (jss_cons (js_for (k:=99) PassesOwn.never rfl (ji_rng1 (by rfl) T.b_range (jbs_c (JO.toB (jo_ix (JO.toB (JN.o (jn_lst (ja_c (JO.z (jo_op oj_add (JO.toB (jo_i pe_int)) (JO.toB (jo_op oj_mod (jb_v (pv 3)) (JO.toB (jo_i pe_int)))))) (ja_c (jf_i pe_int) ja_n))))) (JO.toB (jo_callT bj_int (by rfl) T.b_int PyProof.Rows.boot_int (jbs_c (JO.toB (jo_cmp (oj_eq hr.units0) (JO.toB (jo_op oj_mod (JO.toB (jo_op oj_div (jb_v (pv 3)) (JO.toB (jo_i pe_int)))) (JO.toB (jo_i pe_int)))) (JO.toB (jo_i pe_int)) (nomark _))) jbs_n))))) jbs_n)) (jg_n (pg_name (i:=4) scLQuarrelClaims.nd rfl (Or.inl rfl))) (jss_cons (js_set (λh=>ps_set (i:=5) scLQuarrelClaims.nd rfl (Or.inl rfl) h) (jo_op oj_add (JO.toB (jo_call (λh=>pe_fn GLAt hr (by decide) (by rfl) h) (ja_c (jf_v (pv 0)) (ja_c (JO.z (jo_op oj_add (JO.toB (jo_i pe_int)) (JO.toB (jo_op oj_mod (jb_v (pv 4)) (JO.toB (jo_i pe_int)))))) ja_n)))) (JO.toB (jo_op oj_mul (JO.toB (jo_op oj_div (jb_v (pv 4)) (JO.toB (jo_i pe_int)))) (JO.toB (jo_i pe_int))))))
  (jss_cons (js_asgG (k:=99) (JO.z (jo_call (λh=>pe_fn GLClaim hr (by decide) (by rfl) h) (ja_c (jf_v (pv 5)) (ja_c (JO.z (jo_op oj_div (jb_v (pv 5)) (JO.toB (jo_i pe_int)))) (ja_c (jf_v (pv 1)) ja_n))))) (jg_t (n:=2) rfl (jgs_cons (jg_n (pg_name (i:=6) scLQuarrelClaims.nd rfl (Or.inl rfl))) (jgs_cons (jg_n (pg_name (i:=7) scLQuarrelClaims.nd rfl (Or.inl rfl))) jgs_nil))))
  (jss_one (js_app' (λh=>ps_expr (pe_bm PySem.F.plainAttrs_list PySem.F.slot_list_append PySem.F.type_list_append mt_append (pv 2) h)) (JO.z (jo_op oj_add (JO.toB (jo_tup (ja_c (JO.z (jo_op oj_mod (JO.toB (jo_op oj_add (JO.toB (jo_op oj_div (jb_v (pv 3)) (JO.toB (jo_i pe_int)))) (JO.toB (jo_op oj_mul (JO.toB (jo_i pe_int)) (jb_v (pv 4)))))) (JO.toB (jo_i pe_int)))) ja_n))) (JO.toB (jo_slT (jb_v (pv 7)) (jp_s (JO.toB (jo_i pe_int))) jp_n)))))))))
  (jss_one (js_retV (pv 2))))))⟩
theorem ok_LQuarrel {f:Addr} {fd:FuncData} {dV:Value} (F:FunD K "_law_quarrel" "_law_quarrel" sLQuarrel f fd dV) (GLAt:Fn P w K mg base "_law_at" 1 ["_law_script","_law_k"] (spP K tb m_LAt)) (GLQuarrelClaims:Fn P w K mg base "_law_quarrel_claims" 3 ["_law_script","_law_many"] (spP K tb m_LQuarrelClaims)) (GLQuarrelDeed:Fn P w K mg base "_law_quarrel_deed" 3 ["_law_cell","_law_other","_law_stage","_law_sides_here","_law_claims"] (spP K tb m_LQuarrelDeed)) (GLWins:Fn P w K mg base "_law_wins" 1 ["_law_cell","_law_claims"] (spP K tb m_LWins)):FnOk P w K mg base CX0 4 f fd ["_law_script","_law_sides_here","_law_over","_law_more"] (spPN K tb m_LQuarrel):=by
 refine kfnPN F scLQuarrel tbS g_LQuarrel λcdv A outer s H E hr=> ?_
 exact ⟨_,(jsn_cons (js_set (λh=>ps_set (i:=4) scLQuarrel.nd rfl (Or.inr rfl) h) (jo_call (λh=>pe_fn GLQuarrelClaims hr (by decide) (by rfl) h) (ja_c (jf_v (pv 0)) (ja_c (JO.z (jo_callB bj_len (by rfl) T.b_len PySem.boot_len (jbs_c (jb_v (pv 1)) jbs_n))) ja_n))))
  (jsn_cons (js_setM (λh=>ps_set (i:=5) scLQuarrel.nd rfl (Or.inr rfl) h) (jn_comp ["_law_script","_law_sides_here","_law_over","_law_more","_law_claims","_law_deeds","_law_day","_law_stage","_law_cell","_law_k","_law_other","_law_word","_law_told","_law_wins_here"] (defScope sLQuarrel) 1 [] ["_law_one"] (by decide) rfl (by decide+kernel) (ji_list (jf_v (pv 4))) (λ_ _ _ _=>(jg_n (pg_name (i:=0) (show List.Nodup (["_law_one"]:List Str) by decide+kernel) rfl (Or.inl rfl)))) (λ_ _ _ _=>jts_nil) (λ_ _ _ _=>(JO.z (jo_tup (ja_c (jf_s pe_str) (ja_c (jf_i pe_int) (ja_c (jf_v (pv 0)) ja_n)))))) (by decide+kernel) (by decide+kernel) (by decide+kernel)))
  (jsn_cons (js_set (λh=>ps_set (i:=6) scLQuarrel.nd rfl (Or.inr rfl) h) (jo_i pe_int))
  (jsn_cons (js_for (k:=99) PassesOwn.never rfl (ji_rng1 (by rfl) T.b_range (jbs_c (JO.toB (jo_op oj_add (jb_v (pv 2)) (JO.toB (jo_callT bj_int (by rfl) T.b_int PyProof.Rows.boot_int (jbs_c (jb_v (pv 3)) jbs_n))))) jbs_n)) (jg_n (pg_name (i:=7) scLQuarrel.nd rfl (Or.inl rfl))) (jss_cons (js_set (λh=>ps_set (i:=8) scLQuarrel.nd rfl (Or.inr rfl) h) (jo_call (λh=>pe_fn GLAt hr (by decide) (by rfl) h) (ja_c (jf_v (pv 0)) (ja_c (JO.z (jo_op oj_add (JO.toB (jo_i pe_int)) (JO.toB (jo_op oj_mul (JO.toB (jo_i pe_int)) (jb_v (pv 7)))))) ja_n))))
  (jss_cons (js_if (jt_cmp (oj_gt hr.units0) (jb_v (pv 7)) (JO.toB (jo_i pe_int)) (nomark _)) (jss_cons (js_set (λh=>ps_set (i:=4) scLQuarrel.nd rfl (Or.inr rfl) h) (jo_comp ["_law_script","_law_sides_here","_law_over","_law_more","_law_claims","_law_deeds","_law_day","_law_stage","_law_cell","_law_k","_law_other","_law_word","_law_told","_law_wins_here"] (defScope sLQuarrel) 1 [4,8] ["_law_k","_law_claims","_law_cell"] (by decide) rfl (by decide+kernel) (ji_rng1 (by rfl) T.b_range (jbs_c (JO.toB (jo_callB bj_len (by rfl) T.b_len PySem.boot_len (jbs_c (jb_v (pv 4)) jbs_n))) jbs_n)) (λ_ _ _ _=>(jg_n (pg_name (i:=0) (show List.Nodup (["_law_k","_law_claims","_law_cell"]:List Str) by decide+kernel) rfl (Or.inl rfl)))) (λ_ _ _ _=>(jts_one (JW.toT (jw_or (jt_cmp (oj_eq hr.units0) (jb_v (pv 0)) (JO.toB (jo_i pe_int)) (nomark _)) (jw_or1 (jt_cmp (oj_gt hr.units0) (JO.toB (jo_op oj_mod (JO.toB (jo_op oj_div (jb_v (pv 2)) (JO.toB (jo_i pe_int)))) (JO.toB (jo_op oj_add (jb_v (pv 0)) (JO.toB (jo_i pe_int)))))) (JO.toB (jo_i pe_int)) (nomark _))))))) (λ_ _ _ _=>(JO.z (jo_ix (jb_v (pv 1)) (jb_v (pv 0))))) (by decide+kernel) (by decide+kernel) (by decide+kernel)))
  (jss_one (js_setM (λh=>ps_set (i:=5) scLQuarrel.nd rfl (Or.inr rfl) h) (jn_add (jb_v (pv 5)) (JO.toB (jo_comp ["_law_script","_law_sides_here","_law_over","_law_more","_law_claims","_law_deeds","_law_day","_law_stage","_law_cell","_law_k","_law_other","_law_word","_law_told","_law_wins_here"] (defScope sLQuarrel) 1 [6] ["_law_one","_law_day"] (by decide) rfl (by decide+kernel) (ji_list (jf_v (pv 4))) (λ_ _ _ _=>(jg_n (pg_name (i:=0) (show List.Nodup (["_law_one","_law_day"]:List Str) by decide+kernel) rfl (Or.inl rfl)))) (λ_ _ _ _=>jts_nil) (λ_ _ _ _=>(JO.z (jo_tup (ja_c (jf_s pe_str) (ja_c (jf_v (pv 1)) (ja_c (JO.z (jo_tup (ja_c (JO.z (jo_ix (jb_v (pv 0)) (JO.toB (jo_i pe_int)))) ja_n))) ja_n)))))) (by decide+kernel) (by decide+kernel) (by decide+kernel))))))) jss_nil)
  (jss_cons (js_for (k:=99) PassesOwn.never rfl (ji_rng1 (by rfl) T.b_range (jbs_c (JO.toB (jo_i pe_int)) jbs_n)) (jg_n (pg_name (i:=9) scLQuarrel.nd rfl (Or.inl rfl))) (jss_cons (js_set (λh=>ps_set (i:=10) scLQuarrel.nd rfl (Or.inl rfl) h) (jo_call (λh=>pe_fn GLAt hr (by decide) (by rfl) h) (ja_c (jf_v (pv 0)) (ja_c (JO.z (jo_op oj_add (JO.toB (jo_op oj_add (JO.toB (jo_i pe_int)) (JO.toB (jo_op oj_mul (JO.toB (jo_i pe_int)) (jb_v (pv 7)))))) (jb_v (pv 9)))) ja_n))))
  (jss_cons (js_set (λh=>ps_set (i:=6) scLQuarrel.nd rfl (Or.inr rfl) h) (jo_op oj_add (jb_v (pv 6)) (JO.toB (jo_ix (JO.toB (JN.o (jn_lst (ja_c (jf_i pe_int) (ja_c (jf_i pe_int) (ja_c (jf_i pe_int) (ja_c (jf_i pe_int) (ja_c (jf_i pe_int) ja_n)))))))) (JO.toB (jo_op oj_mod (jb_v (pv 10)) (JO.toB (jo_i pe_int))))))))
  (jss_cons (js_asgG (k:=99) (JO.z (jo_call (λh=>pe_fn GLQuarrelDeed hr (by decide) (by rfl) h) (ja_c (JO.z (jo_op oj_div (jb_v (pv 10)) (JO.toB (jo_i pe_int)))) (ja_c (JO.z (jo_op oj_div (jb_v (pv 10)) (JO.toB (jo_i pe_int)))) (ja_c (jf_v (pv 7)) (ja_c (jf_v (pv 1)) (ja_c (jf_v (pv 4)) ja_n))))))) (jg_t (n:=2) rfl (jgs_cons (jg_n (pg_name (i:=11) scLQuarrel.nd rfl (Or.inl rfl))) (jgs_cons (jg_n (pg_name (i:=12) scLQuarrel.nd rfl (Or.inl rfl))) jgs_nil))))
  (jss_one (js_app' (λh=>ps_expr (pe_bm PySem.F.plainAttrs_list PySem.F.slot_list_append PySem.F.type_list_append mt_append (pv 5) h)) (JO.z (jo_tup (ja_c (jf_v (pv 11)) (ja_c (jf_v (pv 6)) (ja_c (jf_v (pv 12)) ja_n)))))))))))
  (jss_one (js_if (jt_cmp oj_lt (jb_v (pv 7)) (jb_v (pv 2)) (nomark _)) (jss_cons (js_set (λh=>ps_set (i:=6) scLQuarrel.nd rfl (Or.inr rfl) h) (jo_op oj_add (jb_v (pv 6)) (JO.toB (jo_op oj_mod (JO.toB (jo_call (λh=>pe_fn GLAt hr (by decide) (by rfl) h) (ja_c (jf_v (pv 0)) (ja_c (JO.z (jo_op oj_add (JO.toB (jo_i pe_int)) (JO.toB (jo_op oj_mul (JO.toB (jo_i pe_int)) (jb_v (pv 7)))))) ja_n)))) (JO.toB (jo_i pe_int))))))
  (jss_cons (js_set (λh=>ps_set (i:=13) scLQuarrel.nd rfl (Or.inl rfl) h) (jo_call (λh=>pe_fn GLWins hr (by decide) (by rfl) h) (ja_c (JO.z (jo_call (λh=>pe_fn GLAt hr (by decide) (by rfl) h) (ja_c (jf_v (pv 0)) (ja_c (JO.z (jo_op oj_add (JO.toB (jo_i pe_int)) (JO.toB (jo_op oj_mul (JO.toB (jo_i pe_int)) (jb_v (pv 7)))))) ja_n)))) (ja_c (jf_v (pv 4)) ja_n))))
  (jss_one (js_app' (λh=>ps_expr (pe_bm PySem.F.plainAttrs_list PySem.F.slot_list_append PySem.F.type_list_append mt_append (pv 5) h)) (JO.z (jo_tup (ja_c (jf_s pe_str) (ja_c (jf_v (pv 6)) (ja_c (JO.z (jo_tup (ja_c (jf_v (pv 7)) (ja_c (JO.z (jo_callT bj_tuple (by rfl) T.b_tuple PyProof.Rows.boot_tuple (jbs_c (jb_v (pv 13)) jbs_n))) (ja_c (JO.z (jo_cmp (oj_gt hr.units0) (JO.toB (jo_op oj_mod (jb_v (pv 8)) (JO.toB (jo_i pe_int)))) (JO.toB (jo_i pe_int)) (nomark _))) ja_n))))) ja_n))))))))) jss_nil))))))
  (jsn_ret (jn_comp ["_law_script","_law_sides_here","_law_over","_law_more","_law_claims","_law_deeds","_law_day","_law_stage","_law_cell","_law_k","_law_other","_law_word","_law_told","_law_wins_here"] (defScope sLQuarrel) 1 [5] ["_law_k","_law_deeds"] (by decide) rfl (by decide+kernel) (ji_rng1 (by rfl) T.b_range (jbs_c (JO.toB (jo_callB bj_len (by rfl) T.b_len PySem.boot_len (jbs_c (jb_v (pv 5)) jbs_n))) jbs_n)) (λ_ _ _ _=>(jg_n (pg_name (i:=0) (show List.Nodup (["_law_k","_law_deeds"]:List Str) by decide+kernel) rfl (Or.inl rfl)))) (λ_ _ _ _=>jts_nil) (λ_ _ _ _=>(JO.z (jo_op oj_add (JO.toB (jo_tup (ja_c (jf_v (pv 0)) ja_n))) (JO.toB (jo_ix (jb_v (pv 1)) (jb_v (pv 0))))))) (by decide+kernel) (by decide+kernel) (by decide+kernel)))))))⟩
theorem ok_BookRule {f:Addr} {fd:FuncData} {dV:Value} (F:FunD K "rule" "Book.rule" sBookRule f fd dV) (GBookWrite:MtF P w K mg base (CX1 P w) cB "write" 6 ["self","row"] [] (spX K tb cB [c_Full,c_NoClaim,c_RoundOver,c_TooLate,c_Twice,c_TooMuch,0,0] m_BookWrite)) (GRuleRow:Fn P w K mg base "rule_row" 1 ["number","day","turn","wins","back"] (spP K tb m_RuleRow)):FnOk P w K mg base (CX1 P w) 7 f fd ["self","day","turn","wins","back"] (spX K tb cB [c_Full,c_NoClaim,c_RoundOver,c_TooLate,c_Twice,c_TooMuch,0,0] m_BookRule):=by
 refine kfnX F scBookRule tbS g_BookRule λcdv A outer s H E hr=> ?_
 try dsimp only [cxOf]
 exact ⟨_,(jsxs_one (jsx_ret (jx_meth (dvs:= []) (dps:= []) (λh1 h2=>pe_mt GBookWrite T.cl hr (by decide) passX h1 h2) (jf_v (pv 0)) (jxa_c (JX.z (jx_callP (λh=>pe_fn GRuleRow hr (by decide) (by rfl) h) (jxa_c (JX.z (jx_len (by rfl) T.b_len (jxb_rows (pe_fld (pv 0) rfl) T.cl T.n_rows))) (jxa_c (jxf_l (jf_v (pv 1))) (jxa_c (jxf_l (jf_v (pv 2))) (jxa_c (jxf_l (jf_v (pv 3))) (jxa_c (jxf_l (jf_v (pv 4))) jxa_n))))))) jxa_n) (λ_=> .nil) (by decide+kernel))))⟩
theorem ok_LShort {f:Addr} {fd:FuncData} {dV:Value} (F:FunD K "_law_short" "_law_short" sLShort f fd dV) (GBookRule:MtF P w K mg base (CX1 P w) cB "rule" 7 ["self","day","turn","wins","back"] [] (spX K tb cB [c_Full,c_NoClaim,c_RoundOver,c_TooLate,c_Twice,c_TooMuch,0,0] m_BookRule)) (GBookRuleD:MtF P w K mg base (CX1 P w) cB "rule" 7 ["self","day","turn","wins","back"] [.bl false] (spX K tb cB [c_Full,c_NoClaim,c_RoundOver,c_TooLate,c_Twice,c_TooMuch,0,0] m_BookRule)) (GBookStepD:MtF P w K mg base (CX1 P w) cB "step" 7 ["self","day","turn","side","kind","many","laid"] [.str "none"] (spX K tb cB [c_Full,c_NoClaim,c_RoundOver,c_TooLate,c_Twice,c_TooMuch,0,0] m_BookStep)) (GLCall:FnX P w K mg base "_law_call" 8 ["_law_book","_law_word","_law_day","_law_told"] (spX K tb cB [c_Full,c_NoClaim,c_RoundOver,c_TooLate,c_Twice,c_TooMuch,0,0] m_LCall)):FnOk P w K mg base (CX1 P w) 9 f fd ["_law_book","_law_row","_law_short_here"] (spX K tb cB [c_Full,c_NoClaim,c_RoundOver,c_TooLate,c_Twice,c_TooMuch,0,0] m_LShort):=by
 refine kfnX F scLShort tbS g_LShort λcdv A outer s H E hr=> ?_
 try dsimp only [cxOf]
 exact ⟨_,(jsxs_cons (jsx_l (js_asgG (k:=99) (JO.z (jo_slT (jb_v (pv 1)) (jp_s (JO.toB (jo_i pe_int))) jp_n)) (jg_t (n:=3) rfl (jgs_cons (jg_n (pg_name (i:=3) scLShort.nd rfl (Or.inl rfl))) (jgs_cons (jg_n (pg_name (i:=4) scLShort.nd rfl (Or.inl rfl))) (jgs_cons (jg_n (pg_name (i:=5) scLShort.nd rfl (Or.inl rfl))) jgs_nil))))))
  (jsxs_cons (jsx_if (JW.toT (jw_and (jt_v (jb_v (pv 2))) (jw_and (jt_cmp (oj_eq hr.units0) (jb_v (pv 3)) (JO.toB (jo_s pe_str)) (nomark _)) (jw_and1 (jt_cmp (oj_eq hr.units0) (JO.toB (jo_ix (jb_v (pv 5)) (JO.toB (jo_i pe_int)))) (JO.toB (jo_s pe_str)) (nomark _)))))) (jsxs_one (jsx_ret (jx_meth (dvs:= [.str "none"]) (dps:= [.str "none"]) (λh1 h2=>pe_mt GBookStepD T.cl hr (by decide) passX h1 h2) (jf_v (pv 0)) (jxa_l (ja_c (jf_v (pv 4)) (ja_c (JO.z (jo_ix (jb_v (pv 5)) (JO.toB (jo_i pe_int)))) (ja_c (JO.z (jo_ix (jb_v (pv 5)) (JO.toB (jo_i pe_int)))) (ja_c (JO.z (jo_ix (jb_v (pv 5)) (JO.toB (jo_i pe_int)))) (ja_c (JO.z (jo_ix (jb_v (pv 5)) (JO.toB (jo_i pe_int)))) ja_n)))))) (λ_=>(.cons (.str _) .nil)) (by decide+kernel)))) jsxs_nil)
  (jsxs_cons (jsx_if (jt_cmp (oj_eq hr.units0) (jb_v (pv 3)) (JO.toB (jo_s pe_str)) (nomark _)) (jsxs_cons (jsx_l (js_setM (λh=>ps_set (i:=6) scLShort.nd rfl (Or.inl rfl) h) (jn_list (by rfl) T.b_list (jbs_c (JO.toB (jo_ix (jb_v (pv 5)) (JO.toB (jo_i pe_int)))) jbs_n))))
  (jsxs_cons (jsx_if (JW.toT (jw_and (jt_v (jb_v (pv 2))) (jw_and1 (jt_not (jt_v (JO.toB (jo_ix (jb_v (pv 5)) (JO.toB (jo_i pe_int))))))))) (jsxs_one (jsx_asg (λh=>ps_set (i:=7) scLShort.nd rfl (Or.inl rfl) h) (jx_bor 6 (jx_meth (dvs:= [.bl false]) (dps:= [.bl false]) (λh1 h2=>pe_mt GBookRuleD T.cl hr (by decide) passX h1 h2) (jf_v (pv 0)) (jxa_l (ja_c (jf_v (pv 4)) (ja_c (JO.z (jo_ix (jb_v (pv 5)) (JO.toB (jo_i pe_int)))) (ja_c (jf_v (pv 6)) ja_n)))) (λ_=>(.cons (.bl false) .nil)) (by decide+kernel)) tbT))) (jsxs_one (jsx_asg (λh=>ps_set (i:=7) scLShort.nd rfl (Or.inl rfl) h) (jx_bor 6 (jx_meth (dvs:= []) (dps:= []) (λh1 h2=>pe_mt GBookRule T.cl hr (by decide) passX h1 h2) (jf_v (pv 0)) (jxa_l (ja_c (jf_v (pv 4)) (ja_c (JO.z (jo_ix (jb_v (pv 5)) (JO.toB (jo_i pe_int)))) (ja_c (jf_v (pv 6)) (ja_c (JO.z (jo_ix (jb_v (pv 5)) (JO.toB (jo_i pe_int)))) ja_n))))) (λ_=> .nil) (by decide+kernel)) tbT))))
  (jsxs_cons (jsx_l (js_if (jt_cmp (oj_neT hr.units0 hr.units1) (JO.toB (jo_callT bj_tuple (by rfl) T.b_tuple PyProof.Rows.boot_tuple (jbs_c (jb_v (pv 6)) jbs_n))) (JO.toB (jo_ix (jb_v (pv 5)) (JO.toB (jo_i pe_int)))) (nomark _)) (jss_one (js_ret (jo_n pe_non))) jss_nil))
  (jsxs_cons (jsx_l (js_app' (λh=>ps_expr (pe_bm PySem.F.plainAttrs_list PySem.F.slot_list_append PySem.F.type_list_append mt_append (pv 6) h)) (JO.z (jo_tup (ja_c (jf_i pe_int) (ja_c (jf_i pe_int) ja_n))))))
  (jsxs_cons (jsx_l (js_put' (λh1 h2=>ps_asg h1 (pg_sub (pv 6) h2 set_list)) (JO.z (jo_tup (ja_c (jf_i pe_int) (ja_c (jf_i pe_int) ja_n)))) (JO.toB (jo_i pe_int))))
  (jsxs_one (jsx_l (js_retV (pv 7))))))))) jsxs_nil)
  (jsxs_one (jsx_ret (jx_call (λh=>pe_fnX GLCall hr (by decide) passX (by rfl) h) (jxa_l (ja_c (jf_v (pv 0)) (ja_c (jf_v (pv 3)) (ja_c (jf_v (pv 4)) (ja_c (jf_v (pv 5)) ja_n)))))))))))⟩
theorem ok_BookInit {f:Addr} {fd:FuncData} {dV:Value} (F:FunD K "__init__" "Book.__init__" sBookInit f fd dV):FnOk P w K mg base CX0 1 f fd ["self","sides","court","speakers"] (spMk K cB):=by
 refine kfnInit F scBookInit T.cl ⟨T.n_people,T.n_court,T.n_speakers,T.n_rows,T.n_came,T.n_went,T.n_done⟩ λcdv A outer s H E hr=> ?_
 exact (pss_cons (ps_fld (pv 0) (pe_callTy cb_list (by rfl) T.b_list PyProof.Rows.boot_list (pa_cons (pv 1) pa_nil)) rfl)
  (pss_cons (ps_fld (pv 0) (pe_callTy cb_list (by rfl) T.b_list PyProof.Rows.boot_list (pa_cons (pv 2) pa_nil)) rfl)
  (pss_cons (ps_fld (pv 0) (pe_callTy cb_list (by rfl) T.b_list PyProof.Rows.boot_list (pa_cons (pv 3) pa_nil)) rfl)
  (pss_cons (ps_fld (pv 0) (pe_lst pa_nil) rfl)
  (pss_cons (ps_fld (pv 0) (pe_lst pa_nil) rfl)
  (pss_cons (ps_fld (pv 0) (pe_lst pa_nil) rfl)
  (pss_one (PS.frzs (ps_fld (pv 0) pe_int rfl)))))))))
theorem ok_BookKept {f:Addr} {fd:FuncData} {dV:Value} (F:FunD K "kept" "Book.kept" sBookKept f fd dV) (GBookRowsKept:MtF P w K mg base CX0 cB "rows_kept" 1 ["self","mark"] [] (spX K tb cB [c_Full,c_NoClaim,c_RoundOver,c_TooLate,c_Twice,c_TooMuch,0,0] m_BookRowsKept)) (GRowText:Fn P w K mg base "row_text" 2 ["row"] (spP K tb m_RowText)):FnOk P w K mg base CX0 3 f fd ["self","mark"] (spX K tb cB [c_Full,c_NoClaim,c_RoundOver,c_TooLate,c_Twice,c_TooMuch,0,0] m_BookKept):=by
 refine kfnN F scBookKept tbS g_BookKept λcdv A outer s H E hr=> ?_
 try dsimp only [cxOf]
 exact ⟨_,(jsxs_one (jsx_ret (jx_comp ["self","mark"] (defScope sBookKept) 1 [] ["row"] (by decide) rfl (by decide+kernel) (jxi_list (JX.z (jx_methN mkMN_ne (dvs:= []) (dps:= []) (λh1 h2=>pe_mt GBookRowsKept T.cl hr (by decide) pass0 h1 h2) (jf_v (pv 0)) (jxa_l (ja_c (jf_v (pv 1)) ja_n)) (λ_=> .nil) (by decide+kernel)))) (λ_ _ _ _=>(jg_n (pg_name (i:=0) (show List.Nodup (["row"]:List Str) by decide+kernel) rfl (Or.inl rfl)))) (λ_ _ _ _=>jts_nil) (λ_ _ _ _=>(JO.z (jo_call (λh=>pe_fn GRowText hr (by decide) (by rfl) h) (ja_c (jf_v (pv 0)) ja_n)))) (by decide+kernel) (by decide+kernel) (by decide+kernel))))⟩
theorem ok_Law {f:Addr} {fd:FuncData} {dV:Value} (F:FunD K "law" "law" sLaw f fd dV) (GMk:MkF P w K mg base cB 1 ["self","sides","court","speakers"] [] (spMk K cB)) (GBookKeptD:MtF P w K mg base CX0 cB "kept" 3 ["self","mark"] [.non] (spX K tb cB [c_Full,c_NoClaim,c_RoundOver,c_TooLate,c_Twice,c_TooMuch,0,0] m_BookKept)) (GLAt:Fn P w K mg base "_law_at" 1 ["_law_script","_law_k"] (spP K tb m_LAt)) (GLCoins:Fn P w K mg base "_law_coins" 1 ["_law_cell"] (spP K tb m_LCoins)) (GLInt:Fn P w K mg base "_law_int" 1 ["_law_got"] (spP K tb m_LInt)) (GLKept:Fn P w K mg base "_law_kept" 2 ["_law_rows"] (spP K tb m_LKept_2)) (GLQuarrel:Fn P w K mg base "_law_quarrel" 4 ["_law_script","_law_sides_here","_law_over","_law_more"] (spPN K tb m_LQuarrel)) (GLShort:FnX P w K mg base "_law_short" 9 ["_law_book","_law_row","_law_short_here"] (spX K tb cB [c_Full,c_NoClaim,c_RoundOver,c_TooLate,c_Twice,c_TooMuch,0,0] m_LShort)) (GLSides:Fn P w K mg base "_law_sides" 1 ["_law_cell","_law_other"] (spP K tb m_LSides)) (GLTexts:Fn P w K mg base "_law_texts" 1 ["_law_got","_law_due"] (spP K tb m_LTexts)) (hg:LawOk 9 g_LawK21):FnOk P w K mg base CX0 10 f fd ["_law_script"] (spLawP K tb):=by
 refine fn_law (cB:=cB) F scLaw tbS g_LawK21 (λvs H Q E h=>h) hg λcdv A outer s H E hr=> ?_
 exact JSL.ex (jsl_cons (cs:= [c_Full,c_NoClaim,c_RoundOver,c_TooLate,c_Twice,c_TooMuch,0,0]) (jsx_l (js_set (λh=>ps_set (i:=1) scLaw.nd rfl (Or.inl rfl) h) (jo_call (λh=>pe_fn GLSides hr (by decide) (by rfl) h) (ja_c (JO.z (jo_call (λh=>pe_fn GLAt hr (by decide) (by rfl) h) (ja_c (jf_v (pv 0)) (ja_c (jf_i pe_int) ja_n)))) (ja_c (JO.z (jo_op oj_div (JO.toB (jo_call (λh=>pe_fn GLAt hr (by decide) (by rfl) h) (ja_c (jf_v (pv 0)) (ja_c (jf_i pe_int) ja_n)))) (JO.toB (jo_i pe_int)))) ja_n)))))
  (jsl_cons (cs:= [c_Full,c_NoClaim,c_RoundOver,c_TooLate,c_Twice,c_TooMuch,0,0]) (jsx_l (js_setM (λh=>ps_set (i:=2) scLaw.nd rfl (Or.inl rfl) h) (jn_call (λh=>pe_fn GLQuarrel hr (by decide) (by rfl) h) (ja_c (jf_v (pv 0)) (ja_c (jf_v (pv 1)) (ja_c (JO.z (jo_op oj_add (JO.toB (jo_i pe_int)) (JO.toB (jo_op oj_mod (JO.toB (jo_call (λh=>pe_fn GLAt hr (by decide) (by rfl) h) (ja_c (jf_v (pv 0)) (ja_c (jf_i pe_int) ja_n)))) (JO.toB (jo_i pe_int)))))) (ja_c (jf_b pe_bl) ja_n)))))))
  (jsl_cons (cs:= [c_Full,c_NoClaim,c_RoundOver,c_TooLate,c_Twice,c_TooMuch,0,0]) (jsx_l (js_set (λh=>ps_set (i:=3) scLaw.nd rfl (Or.inl rfl) h) (jo_cmp (oj_eq hr.units0) (JO.toB (jo_op oj_mod (JO.toB (jo_op oj_div (JO.toB (jo_call (λh=>pe_fn GLAt hr (by decide) (by rfl) h) (ja_c (jf_v (pv 0)) (ja_c (jf_i pe_int) ja_n)))) (JO.toB (jo_i pe_int)))) (JO.toB (jo_i pe_int)))) (JO.toB (jo_i pe_int)) (nomark _))))
  (jsl_cons (cs:= [c_Full,c_NoClaim,c_RoundOver,c_TooLate,c_Twice,c_TooMuch,0,0]) (jsx_l (js_set (λh=>ps_set (i:=4) scLaw.nd rfl (Or.inl rfl) h) (jo_op oj_mod (JO.toB (jo_call (λh=>pe_fn GLAt hr (by decide) (by rfl) h) (ja_c (jf_v (pv 0)) (ja_c (jf_i pe_int) ja_n)))) (JO.toB (jo_callB bj_len (by rfl) T.b_len PySem.boot_len (jbs_c (jb_v (pv 1)) jbs_n))))))
  (jsl_cons (cs:= [c_Full,c_NoClaim,c_RoundOver,c_TooLate,c_Twice,c_TooMuch,0,0]) (jsx_l (js_set (λh=>ps_set (i:=5) scLaw.nd rfl (Or.inl rfl) h) (jo_tup (ja_c (jf_v (pv 4)) (ja_c (JO.z (jo_op oj_mod (JO.toB (jo_call (λh=>pe_fn GLAt hr (by decide) (by rfl) h) (ja_c (jf_v (pv 0)) (ja_c (jf_i pe_int) ja_n)))) (JO.toB (jo_ix (jb_v (pv 1)) (jb_v (pv 4)))))) (ja_c (JO.z (jo_call (λh=>pe_fn GLCoins hr (by decide) (by rfl) h) (ja_c (JO.z (jo_call (λh=>pe_fn GLAt hr (by decide) (by rfl) h) (ja_c (jf_v (pv 0)) (ja_c (jf_i pe_int) ja_n)))) ja_n))) ja_n))))))
  (jsl_cons (cs:= [c_Full,c_NoClaim,c_RoundOver,c_TooLate,c_Twice,c_TooMuch,0,0]) (jsx_l (js_app' (λh=>ps_expr (pe_bm PySem.F.plainAttrs_list PySem.F.slot_list_append PySem.F.type_list_append mt_append (pv 2) h)) (JO.z (jo_tup (ja_c (JO.z (jo_callB bj_len (by rfl) T.b_len PySem.boot_len (jbs_c (jb_v (pv 2)) jbs_n))) (ja_c (jf_s pe_str) (ja_c (JO.z (jo_ix (JO.toB (jo_ix (jb_v (pv 2)) (JO.toB (jo_neg (JO.toB (jo_i pe_int)))))) (JO.toB (jo_i pe_int)))) (ja_c (jf_v (pv 5)) ja_n))))))))
  (jsl_cons (cs:= [c_Full,c_NoClaim,c_RoundOver,c_TooLate,c_Twice,c_TooMuch,0,0]) (jsx_l (js_app' (λh=>ps_expr (pe_bm PySem.F.plainAttrs_list PySem.F.slot_list_append PySem.F.type_list_append mt_append (pv 2) h)) (JO.z (jo_tup (ja_c (JO.z (jo_callB bj_len (by rfl) T.b_len PySem.boot_len (jbs_c (jb_v (pv 2)) jbs_n))) (ja_c (jf_s pe_str) (ja_c (JO.z (jo_ix (JO.toB (jo_ix (jb_v (pv 2)) (JO.toB (jo_neg (JO.toB (jo_i pe_int)))))) (JO.toB (jo_i pe_int)))) (ja_c (JO.z (jo_tup (ja_c (jf_v (pv 4)) ja_n))) ja_n))))))))
  (jsl_make (λh=>ps_set (i:=6) scLaw.nd rfl (Or.inl rfl) (pe_mk GMk hr (by decide) (by rfl) T.mgC h)) (ja_c (JO.z (JN.o (jn_list (by rfl) T.b_list (jbs_c (jb_v (pv 1)) jbs_n)))) (ja_c (JO.z (JN.o (jn_lst (ja_c (JO.z (jo_tup (ja_c (jf_i pe_int) (ja_c (jf_i pe_int) ja_n)))) ja_n)))) (ja_c (JO.z (JN.o (jn_lst (ja_c (JO.z (jo_tup (ja_c (jf_i pe_int) (ja_c (jf_i pe_int) ja_n)))) ja_n)))) ja_n)))
  (jsxs_cons (jsx_pz (i:=2) (jsx_for (k:=99) PassesOwn.never rfl (ji_list (jf_v (pv 2))) (jg_n (pg_name (i:=7) scLaw.nd rfl (Or.inl rfl))) (jsxs_cons (jsx_asg (λh=>ps_set (i:=8) scLaw.nd rfl (Or.inl rfl) h) (jx_call (λh=>pe_fnX GLShort hr (by decide) passN (by rfl) h) (jxa_l (ja_c (jf_v (pv 6)) (ja_c (jf_v (pv 7)) (ja_c (jf_v (pv 3)) ja_n))))))
  (jsxs_one (jsx_l (js_if (JW.toT (jw_or (jt_not (jt_v (JO.toB (jo_call (λh=>pe_fn GLInt hr (by decide) (by rfl) h) (ja_c (jf_v (pv 8)) ja_n))))) (jw_or1 (jt_cmp (oj_ne hr.units0) (jb_v (pv 8)) (JO.toB (jo_ix (jb_v (pv 7)) (JO.toB (jo_i pe_int)))) (nomark _))))) (jss_one (js_ret (jo_b pe_bl))) jss_nil))))))
  (jsxs_one (jsx_pz (i:=2) (jsx_ret (jx_callP (λh=>pe_fn GLTexts hr (by decide) (by rfl) h) (jxa_c (JX.z (jx_methN mkMN_ne (dvs:= [.non]) (dps:= [.non]) (λh1 _=>pe_mt0 GBookKeptD T.cl hr (by decide) pass0 h1) (jf_v (pv 6)) jxa_n (λ_=>(.cons (.non) .nil)) (by decide+kernel))) (jxa_c (jxf_l (JO.z (jo_call (λh=>pe_fn GLKept hr (by decide) (by rfl) h) (ja_c (jf_v (pv 2)) ja_n)))) jxa_n)))))))))))))))
end
def TD (K:Frag) (x:Str) (st:Stmt) (f:Addr):Prop:=PySem.W.nsIn K mainGlobals x=some (some (.ref f))/\ ∃fd,Fun K x x st f fd
theorem TD.mk {K:Frag} {x:Str} {st:Stmt} {f:Addr} {oc:Value} {od an:Option Addr} {sl:Array (Option Value)} {kV dc pm cd ct:Value} (a:PySem.W.nsIn K mainGlobals x=some (some (.ref f))) (l:K.lookup f=some ⟨oc,od,.func (PySem.W.fnOf x x (defArgs st) (defBody st) (defScope st) (.none) kV dc pm an cd ct),sl⟩) (c:PySem.W.codeIn K cd x=true) (k:PySem.W.keepIn K (.ref f)=true):TD K x st f:=⟨a,_,fun_mk l c k⟩
def TM (K:Frag) (cB:Addr) (x n:Str) (st:Stmt) (f:Addr):Prop:=PySem.W.findIn K (.ref cB) x=some (some (.ref f))/\PySem.W.isFn K (.ref f)=true/\ ∃fd,Fun K x n st f fd
theorem TM.mk {K:Frag} {cB:Addr} {x n:Str} {st:Stmt} {f:Addr} {oc:Value} {od an:Option Addr} {sl:Array (Option Value)} {kV dc pm cd ct:Value} (a:PySem.W.findIn K (.ref cB) x=some (some (.ref f))) (i:PySem.W.isFn K (.ref f)=true) (l:K.lookup f=some ⟨oc,od,.func (PySem.W.fnOf x n (defArgs st) (defBody st) (defScope st) (.none) kV dc pm an cd ct),sl⟩) (c:PySem.W.codeIn K cd n=true) (k:PySem.W.keepIn K (.ref f)=true):TM K cB x n st f:=⟨a,i,_,fun_mk l c k⟩
theorem un1 {P:List Value->Prop} (h: ∀a,P [a]): ∀us:List Value,us.length=1->P us
 | [a],_=>h a
theorem un2 {P:List Value->Prop} (h: ∀a b,P [a,b]): ∀us:List Value,us.length=2->P us
 | [a,b],_=>h a b
theorem un3 {P:List Value->Prop} (h: ∀a b c,P [a,b,c]): ∀us:List Value,us.length=3->P us
 | [a,b,c],_=>h a b c
theorem un4 {P:List Value->Prop} (h: ∀a b c d,P [a,b,c,d]): ∀us:List Value,us.length=4->P us
 | [a,b,c,d],_=>h a b c d
theorem un5 {P:List Value->Prop} (h: ∀a b c d e,P [a,b,c,d,e]): ∀us:List Value,us.length=5->P us
 | [a,b,c,d,e],_=>h a b c d e
theorem un6 {P:List Value->Prop} (h: ∀a b c d e f,P [a,b,c,d,e,f]): ∀us:List Value,us.length=6->P us
 | [a,b,c,d,e,f],_=>h a b c d e f
theorem un7 {P:List Value->Prop} (h: ∀a b c d e f g,P [a,b,c,d,e,f,g]): ∀us:List Value,us.length=7->P us
 | [a,b,c,d,e,f,g],_=>h a b c d e f g
theorem all_mk {l:PySem.W.OpenLaw} {w:World} {K:Frag} {h:Heap} {mg:Str->Option Value} {fa cB c_Full c_NoClaim c_RoundOver c_TooLate c_Twice c_TooMuch f0 f1 f2 f3 f4 f5 f6 f7 f8 f9 f10 f11 f12 f13 f14 f15 f16 f17 f18 f19 f20 f21 f22 f23 f24 f25 f26 f27 f28 f29 f30 f31 f32 f33 f34 f35 f36 f37 f38 f39 f40 f41 f42 f43 f44 f45 f46 f47 f48 f49:Addr} (X:K.In h) (G:h.Ns mainGlobals mg) (hfa:mg "law" =some (.ref fa))
  {od37 an37 od41 an41 od43 an43 od48 an48 od49 an49:Option Addr} {sl37 sl41 sl43 sl48 sl49:Array (Option Value)} {oc37 kV37 dc37 pm37 cd37 ct37 oc41 kV41 dc41 pm41 cd41 ct41 oc43 kV43 dc43 pm43 cd43 ct43 oc48 kV48 dc48 pm48 cd48 ct48 oc49 kV49 dc49 pm49 cd49 ct49:Value} {tk_CLAIM tk_DAY tk_MOST_ROWS tk_NUMBER tk_OFFER_AMOUNT tk_OFFER_CLAIM tk_ROUNDS tk_RULE_BACK tk_RULE_WINS tk_TURN tk_WORD tk_WORTH:Tok}
  {dT41 dT43 dT48 dT49:Addr} {do41 do43 do48 do49:Value} {dd41 dd43 dd48 dd49:Option Addr} {dn41 dn43 dn48 dn49:Nat} {ds41 ds43 ds48 ds49:Array (Option Value)}
  {kd41_0:Tok}
  (aB:PySem.W.nsIn K mainGlobals "Book" =some (some (.ref cB)))
  (e_Full:PySem.W.nsIn K mainGlobals "Full" =some (some (.ref c_Full)))
  (e_NoClaim:PySem.W.nsIn K mainGlobals "NoClaim" =some (some (.ref c_NoClaim)))
  (e_RoundOver:PySem.W.nsIn K mainGlobals "RoundOver" =some (some (.ref c_RoundOver)))
  (e_TooLate:PySem.W.nsIn K mainGlobals "TooLate" =some (some (.ref c_TooLate)))
  (e_Twice:PySem.W.nsIn K mainGlobals "Twice" =some (some (.ref c_Twice)))
  (e_TooMuch:PySem.W.nsIn K mainGlobals "TooMuch" =some (some (.ref c_TooMuch)))
  (t0:TD K "claim_row" sClaimRow f0)
  (t1:TD K "carry_row" sCarryRow f1)
  (t2:TD K "step_row" sStepRow f2)
  (t3:TD K "offer_row" sOfferRow f3)
  (t4:TD K "rule_row" sRuleRow f4)
  (t5:TD K "pay_row" sPayRow f5)
  (t6:TD K "dun_row" sDunRow f6)
  (t7:TD K "row_text" sRowText f7)
  (t8:TD K "rule_text" sRuleText f8)
  (t9:TD K "rounds_of" sRoundsOf f9)
  (t10:TD K "put_row" sPutRow f10)
  (t11:TD K "over_of" sOverOf f11)
  (t12:TD K "claims_of" sClaimsOf f12)
  (t13:TD K "find_claim" sFindClaim f13)
  (t14:TD K "check_row" sCheckRow f14)
  (t15:TD K "check_next" sCheckNext f15)
  (t16:TD K "lacks_claim" sLacksClaim f16)
  (t17:TD K "meets_over" sMeetsOver f17)
  (t18:TD K "comes_twice" sComesTwice f18)
  (t19:TD K "names_too_much" sNamesTooMuch f19)
  (t20:TD K "worth_in" sWorthIn f20)
  (t21:TD K "_law_at" sLAt f21)
  (t22:TD K "_law_int" sLInt f22)
  (t23:TD K "_law_texts" sLTexts f23)
  (t24:TD K "_law_worth" sLWorth f24)
  (t25:TD K "_law_coins" sLCoins f25)
  (t26:TD K "_law_sides" sLSides f26)
  (t27:TD K "_law_call" sLCall f27)
  (t28:TD K "_law_wins" sLWins f28)
  (t29:TD K "_law_step" sLStep f29)
  (t30:TD K "_law_claim" sLClaim f30)
  (t31:TD K "_law_text" sLText f31)
  (t32:TD K "_law_kept" sLKept f32)
  (t33:TD K "_law_quarrel_deed" sLQuarrelDeed f33)
  (t34:TD K "_law_quarrel_claims" sLQuarrelClaims f34)
  (t35:TD K "_law_quarrel" sLQuarrel f35)
  (t36:TD K "_law_short" sLShort f36)
  (a37:PySem.W.nsIn K mainGlobals "law" =some (some (.ref f37)))
  (l37:K.lookup f37=some ⟨oc37,od37,.func (PySem.W.fnOf "law" "law" (defArgs sLaw) (defBody sLaw) (defScope sLaw) (.none) kV37 dc37 pm37 an37 cd37 ct37),sl37⟩)
  (c37:PySem.W.codeIn K cd37 "law" =true)
  (k37:PySem.W.keepIn K (.ref f37)=true)
  (t38:TM K cB "__init__" "Book.__init__" sBookInit f38)
  (t39:TM K cB "claim" "Book.claim" sBookClaim f39)
  (t40:TM K cB "carry" "Book.carry" sBookCarry f40)
  (a41:PySem.W.findIn K (.ref cB) "step" =some (some (.ref f41)))
  (i41:PySem.W.isFn K (.ref f41)=true)
  (l41:K.lookup f41=some ⟨oc41,od41,.func (PySem.W.fnOf "step" "Book.step" (defArgs sBookStep) (defBody sBookStep) (defScope sBookStep) (.ref dT41) kV41 dc41 pm41 an41 cd41 ct41),sl41⟩)
  (c41:PySem.W.codeIn K cd41 "Book.step" =true)
  (k41:PySem.W.keepIn K (.ref f41)=true)
  (d41:K.lookup dT41=some ⟨do41,dd41,.seq #[.str "none" kd41_0] dn41,ds41⟩)
  (t42:TM K cB "offer" "Book.offer" sBookOffer f42)
  (a43:PySem.W.findIn K (.ref cB) "rule" =some (some (.ref f43)))
  (i43:PySem.W.isFn K (.ref f43)=true)
  (l43:K.lookup f43=some ⟨oc43,od43,.func (PySem.W.fnOf "rule" "Book.rule" (defArgs sBookRule) (defBody sBookRule) (defScope sBookRule) (.ref dT43) kV43 dc43 pm43 an43 cd43 ct43),sl43⟩)
  (c43:PySem.W.codeIn K cd43 "Book.rule" =true)
  (k43:PySem.W.keepIn K (.ref f43)=true)
  (d43:K.lookup dT43=some ⟨do43,dd43,.seq #[.bool false] dn43,ds43⟩)
  (t44:TM K cB "pay" "Book.pay" sBookPay f44)
  (t45:TM K cB "dun" "Book.dun" sBookDun f45)
  (t46:TM K cB "write" "Book.write" sBookWrite f46)
  (t47:TM K cB "mark" "Book.mark" sBookMark f47)
  (a48:PySem.W.findIn K (.ref cB) "rows_kept" =some (some (.ref f48)))
  (i48:PySem.W.isFn K (.ref f48)=true)
  (l48:K.lookup f48=some ⟨oc48,od48,.func (PySem.W.fnOf "rows_kept" "Book.rows_kept" (defArgs sBookRowsKept) (defBody sBookRowsKept) (defScope sBookRowsKept) (.ref dT48) kV48 dc48 pm48 an48 cd48 ct48),sl48⟩)
  (c48:PySem.W.codeIn K cd48 "Book.rows_kept" =true)
  (k48:PySem.W.keepIn K (.ref f48)=true)
  (d48:K.lookup dT48=some ⟨do48,dd48,.seq #[.none] dn48,ds48⟩)
  (a49:PySem.W.findIn K (.ref cB) "kept" =some (some (.ref f49)))
  (i49:PySem.W.isFn K (.ref f49)=true)
  (l49:K.lookup f49=some ⟨oc49,od49,.func (PySem.W.fnOf "kept" "Book.kept" (defArgs sBookKept) (defBody sBookKept) (defScope sBookKept) (.ref dT49) kV49 dc49 pm49 an49 cd49 ct49),sl49⟩)
  (c49:PySem.W.codeIn K cd49 "Book.kept" =true)
  (k49:PySem.W.keepIn K (.ref f49)=true)
  (d49:K.lookup dT49=some ⟨do49,dd49,.seq #[.none] dn49,ds49⟩)
  (z_any:PySem.W.nsIn K mainGlobals "any" =some none)
  (z_bool:PySem.W.nsIn K mainGlobals "bool" =some none)
  (z_int:PySem.W.nsIn K mainGlobals "int" =some none)
  (z_isinstance:PySem.W.nsIn K mainGlobals "isinstance" =some none)
  (z_len:PySem.W.nsIn K mainGlobals "len" =some none)
  (z_list:PySem.W.nsIn K mainGlobals "list" =some none)
  (z_max:PySem.W.nsIn K mainGlobals "max" =some none)
  (z_min:PySem.W.nsIn K mainGlobals "min" =some none)
  (z_range:PySem.W.nsIn K mainGlobals "range" =some none)
  (z_set:PySem.W.nsIn K mainGlobals "set" =some none)
  (z_str:PySem.W.nsIn K mainGlobals "str" =some none)
  (z_tuple:PySem.W.nsIn K mainGlobals "tuple" =some none)
  (z_zip:PySem.W.nsIn K mainGlobals "zip" =some none)
  (y_CLAIM:PySem.W.nsIn K mainGlobals "CLAIM" =some (some (.int (3) tk_CLAIM)))
  (y_DAY:PySem.W.nsIn K mainGlobals "DAY" =some (some (.int (2) tk_DAY)))
  (y_MOST_ROWS:PySem.W.nsIn K mainGlobals "MOST_ROWS" =some (some (.int (300) tk_MOST_ROWS)))
  (y_NUMBER:PySem.W.nsIn K mainGlobals "NUMBER" =some (some (.int (0) tk_NUMBER)))
  (y_OFFER_AMOUNT:PySem.W.nsIn K mainGlobals "OFFER_AMOUNT" =some (some (.int (5) tk_OFFER_AMOUNT)))
  (y_OFFER_CLAIM:PySem.W.nsIn K mainGlobals "OFFER_CLAIM" =some (some (.int (4) tk_OFFER_CLAIM)))
  (y_ROUNDS:PySem.W.nsIn K mainGlobals "ROUNDS" =some (some (.int (3) tk_ROUNDS)))
  (y_RULE_BACK:PySem.W.nsIn K mainGlobals "RULE_BACK" =some (some (.int (4) tk_RULE_BACK)))
  (y_RULE_WINS:PySem.W.nsIn K mainGlobals "RULE_WINS" =some (some (.int (5) tk_RULE_WINS)))
  (y_TURN:PySem.W.nsIn K mainGlobals "TURN" =some (some (.int (3) tk_TURN)))
  (y_WORD:PySem.W.nsIn K mainGlobals "WORD" =some (some (.int (1) tk_WORD)))
  (y_WORTH:PySem.W.nsIn K mainGlobals "WORTH" =some (some (.int (3) tk_WORTH)))
  (pg:PySem.W.plainGet K cB Str.empty=true)
  (hd:PySem.W.hasDictIn K cB=true)
  (po:PySem.W.plainOver K cB=true)
  (sa:PySem.W.findIn K (.ref cB) "__setattr__" =some (some (.builtin "object.__setattr__")))
  (mk:PySem.W.makesIn K cB=true)
  (kc:PySem.W.keepIn K (.ref cB)=true)
  (nf_people:PySem.W.findIn K (.ref cB) "people" =some none)
  (nf_court:PySem.W.findIn K (.ref cB) "court" =some none)
  (nf_speakers:PySem.W.findIn K (.ref cB) "speakers" =some none)
  (nf_rows:PySem.W.findIn K (.ref cB) "rows" =some none)
  (nf_came:PySem.W.findIn K (.ref cB) "came" =some none)
  (nf_went:PySem.W.findIn K (.ref cB) "went" =some none)
  (nf_done:PySem.W.findIn K (.ref cB) "done" =some none)
  (xx_Full:ExcCls K c_Full)
  (xx_NoClaim:ExcCls K c_NoClaim)
  (xx_RoundOver:ExcCls K c_RoundOver)
  (xx_TooLate:ExcCls K c_TooLate)
  (xx_Twice:ExcCls K c_Twice)
  (xx_TooMuch:ExcCls K c_TooMuch):
  ∃fd:FuncData,(∀(s:Shared) (v:Value),BindsTo s fd ⟨[v],[]⟩ [("_law_script",v)])/\ ∀base:Heap,K.In base->base.Ns mainGlobals mg->FnOk l.prog w K mg base CX0 10 fa fd ["_law_script"] (spLawP K (λ_=>True)):=by
 have e:=hfa.symm.trans (PySem.W.mg_of X G a37)
 cases e
 have T:Txt l.prog w K mg cB c_Full c_NoClaim c_RoundOver c_TooLate c_Twice c_TooMuch:=⟨PySem.W.mg_none_of X G z_any,
  PySem.W.mg_none_of X G z_bool,
  PySem.W.mg_none_of X G z_int,
  PySem.W.mg_none_of X G z_isinstance,
  PySem.W.mg_none_of X G z_len,
  PySem.W.mg_none_of X G z_list,
  PySem.W.mg_none_of X G z_max,
  PySem.W.mg_none_of X G z_min,
  PySem.W.mg_none_of X G z_range,
  PySem.W.mg_none_of X G z_set,
  PySem.W.mg_none_of X G z_str,
  PySem.W.mg_none_of X G z_tuple,
  PySem.W.mg_none_of X G z_zip,
  ⟨_,PySem.W.mg_of X G y_CLAIM⟩,
  ⟨_,PySem.W.mg_of X G y_DAY⟩,
  ⟨_,PySem.W.mg_of X G y_MOST_ROWS⟩,
  ⟨_,PySem.W.mg_of X G y_NUMBER⟩,
  ⟨_,PySem.W.mg_of X G y_OFFER_AMOUNT⟩,
  ⟨_,PySem.W.mg_of X G y_OFFER_CLAIM⟩,
  ⟨_,PySem.W.mg_of X G y_ROUNDS⟩,
  ⟨_,PySem.W.mg_of X G y_RULE_BACK⟩,
  ⟨_,PySem.W.mg_of X G y_RULE_WINS⟩,
  ⟨_,PySem.W.mg_of X G y_TURN⟩,
  ⟨_,PySem.W.mg_of X G y_WORD⟩,
  ⟨_,PySem.W.mg_of X G y_WORTH⟩,
  ⟨pg,hd,po,sa⟩,
  PySem.W.mg_of X G aB,
  nf_people,
  nf_court,
  nf_speakers,
  nf_rows,
  nf_came,
  nf_went,
  nf_done,
  PySem.W.mg_of X G e_Full,
  PySem.W.mg_of X G e_NoClaim,
  PySem.W.mg_of X G e_RoundOver,
  PySem.W.mg_of X G e_TooLate,
  PySem.W.mg_of X G e_Twice,
  PySem.W.mg_of X G e_TooMuch,
  xx_Full,
  xx_NoClaim,
  xx_RoundOver,
  xx_TooLate,
  xx_Twice,
  xx_TooMuch⟩
 obtain ⟨a0,fd0,F0⟩:=t0
 obtain ⟨a1,fd1,F1⟩:=t1
 obtain ⟨a2,fd2,F2⟩:=t2
 obtain ⟨a3,fd3,F3⟩:=t3
 obtain ⟨a4,fd4,F4⟩:=t4
 obtain ⟨a5,fd5,F5⟩:=t5
 obtain ⟨a6,fd6,F6⟩:=t6
 obtain ⟨a7,fd7,F7⟩:=t7
 obtain ⟨a8,fd8,F8⟩:=t8
 obtain ⟨a9,fd9,F9⟩:=t9
 obtain ⟨a10,fd10,F10⟩:=t10
 obtain ⟨a11,fd11,F11⟩:=t11
 obtain ⟨a12,fd12,F12⟩:=t12
 obtain ⟨a13,fd13,F13⟩:=t13
 obtain ⟨a14,fd14,F14⟩:=t14
 obtain ⟨a15,fd15,F15⟩:=t15
 obtain ⟨a16,fd16,F16⟩:=t16
 obtain ⟨a17,fd17,F17⟩:=t17
 obtain ⟨a18,fd18,F18⟩:=t18
 obtain ⟨a19,fd19,F19⟩:=t19
 obtain ⟨a20,fd20,F20⟩:=t20
 obtain ⟨a21,fd21,F21⟩:=t21
 obtain ⟨a22,fd22,F22⟩:=t22
 obtain ⟨a23,fd23,F23⟩:=t23
 obtain ⟨a24,fd24,F24⟩:=t24
 obtain ⟨a25,fd25,F25⟩:=t25
 obtain ⟨a26,fd26,F26⟩:=t26
 obtain ⟨a27,fd27,F27⟩:=t27
 obtain ⟨a28,fd28,F28⟩:=t28
 obtain ⟨a29,fd29,F29⟩:=t29
 obtain ⟨a30,fd30,F30⟩:=t30
 obtain ⟨a31,fd31,F31⟩:=t31
 obtain ⟨a32,fd32,F32⟩:=t32
 obtain ⟨a33,fd33,F33⟩:=t33
 obtain ⟨a34,fd34,F34⟩:=t34
 obtain ⟨a35,fd35,F35⟩:=t35
 obtain ⟨a36,fd36,F36⟩:=t36
 have F37:=(fun_mk (st:=sLaw) l37 c37 k37).d
 obtain ⟨a38,i38,fd38,F38⟩:=t38
 obtain ⟨a39,i39,fd39,F39⟩:=t39
 obtain ⟨a40,i40,fd40,F40⟩:=t40
 have F41:FunD K "step" "Book.step" sBookStep f41 _ _:=⟨_,_,_,_,_,_,_,_,_,rfl,l41,c41⟩
 obtain ⟨a42,i42,fd42,F42⟩:=t42
 have F43:FunD K "rule" "Book.rule" sBookRule f43 _ _:=⟨_,_,_,_,_,_,_,_,_,rfl,l43,c43⟩
 obtain ⟨a44,i44,fd44,F44⟩:=t44
 obtain ⟨a45,i45,fd45,F45⟩:=t45
 obtain ⟨a46,i46,fd46,F46⟩:=t46
 obtain ⟨a47,i47,fd47,F47⟩:=t47
 have F48:FunD K "rows_kept" "Book.rows_kept" sBookRowsKept f48 _ _:=⟨_,_,_,_,_,_,_,_,_,rfl,l48,c48⟩
 have F49:FunD K "kept" "Book.kept" sBookKept f49 _ _:=⟨_,_,_,_,_,_,_,_,_,rfl,l49,c49⟩
 have b0:=F0.binds (ps:= ["number","day","claim","asker","answerer","worth"]) λ_ _ _ _ _ _=>un6 λ_ _ _ _ _ _=>rfl
 have b1:=F1.binds (ps:= ["number","day","claim"]) λ_ _ _ _ _ _=>un3 λ_ _ _=>rfl
 have b2:=F2.binds (ps:= ["number","day","turn","side","kind","many","laid"]) λ_ _ _ _ _ _=>un7 λ_ _ _ _ _ _ _=>rfl
 have b3:=F3.binds (ps:= ["number","day","turn","claim","amount"]) λ_ _ _ _ _ _=>un5 λ_ _ _ _ _=>rfl
 have b4:=F4.binds (ps:= ["number","day","turn","wins","back"]) λ_ _ _ _ _ _=>un5 λ_ _ _ _ _=>rfl
 have b5:=F5.binds (ps:= ["number","day","side","person","coins"]) λ_ _ _ _ _ _=>un5 λ_ _ _ _ _=>rfl
 have b6:=F6.binds (ps:= ["number","day","side"]) λ_ _ _ _ _ _=>un3 λ_ _ _=>rfl
 have b7:=F7.binds (ps:= ["row"]) λ_ _ _ _ _ _=>un1 λ_=>rfl
 have b8:=F8.binds (ps:= ["row"]) λ_ _ _ _ _ _=>un1 λ_=>rfl
 have b9:=F9.binds (ps:= ["rows"]) λ_ _ _ _ _ _=>un1 λ_=>rfl
 have b10:=F10.binds (ps:= ["rounds","row"]) λ_ _ _ _ _ _=>un2 λ_ _=>rfl
 have b11:=F11.binds (ps:= ["rounds"]) λ_ _ _ _ _ _=>un1 λ_=>rfl
 have b12:=F12.binds (ps:= ["rounds","turn"]) λ_ _ _ _ _ _=>un2 λ_ _=>rfl
 have b13:=F13.binds (ps:= ["claims","number"]) λ_ _ _ _ _ _=>un2 λ_ _=>rfl
 have b14:=F14.binds (ps:= ["rows","written","row"]) λ_ _ _ _ _ _=>un3 λ_ _ _=>rfl
 have b15:=F15.binds (ps:= ["rounds","last","written","row"]) λ_ _ _ _ _ _=>un4 λ_ _ _ _=>rfl
 have b16:=F16.binds (ps:= ["rounds","row"]) λ_ _ _ _ _ _=>un2 λ_ _=>rfl
 have b17:=F17.binds (ps:= ["rounds","row"]) λ_ _ _ _ _ _=>un2 λ_ _=>rfl
 have b18:=F18.binds (ps:= ["rounds","row"]) λ_ _ _ _ _ _=>un2 λ_ _=>rfl
 have b19:=F19.binds (ps:= ["rounds","row"]) λ_ _ _ _ _ _=>un2 λ_ _=>rfl
 have b20:=F20.binds (ps:= ["rounds","row","claim"]) λ_ _ _ _ _ _=>un3 λ_ _ _=>rfl
 have b21:=F21.binds (ps:= ["_law_script","_law_k"]) λ_ _ _ _ _ _=>un2 λ_ _=>rfl
 have b22:=F22.binds (ps:= ["_law_got"]) λ_ _ _ _ _ _=>un1 λ_=>rfl
 have b23:=F23.binds (ps:= ["_law_got","_law_due"]) λ_ _ _ _ _ _=>un2 λ_ _=>rfl
 have b24:=F24.binds (ps:= ["_law_cell"]) λ_ _ _ _ _ _=>un1 λ_=>rfl
 have b25:=F25.binds (ps:= ["_law_cell"]) λ_ _ _ _ _ _=>un1 λ_=>rfl
 have b26:=F26.binds (ps:= ["_law_cell","_law_other"]) λ_ _ _ _ _ _=>un2 λ_ _=>rfl
 have b27:=F27.binds (ps:= ["_law_book","_law_word","_law_day","_law_told"]) λ_ _ _ _ _ _=>un4 λ_ _ _ _=>rfl
 have b28:=F28.binds (ps:= ["_law_cell","_law_claims"]) λ_ _ _ _ _ _=>un2 λ_ _=>rfl
 have b29:=F29.binds (ps:= ["_law_cell","_law_other","_law_stage","_law_sides_here"]) λ_ _ _ _ _ _=>un4 λ_ _ _ _=>rfl
 have b30:=F30.binds (ps:= ["_law_cell","_law_other","_law_many"]) λ_ _ _ _ _ _=>un3 λ_ _ _=>rfl
 have b31:=F31.binds (ps:= ["_law_word","_law_day","_law_told"]) λ_ _ _ _ _ _=>un3 λ_ _ _=>rfl
 have b32:=F32.binds (ps:= ["_law_rows"]) λ_ _ _ _ _ _=>un1 λ_=>rfl
 have b33:=F33.binds (ps:= ["_law_cell","_law_other","_law_stage","_law_sides_here","_law_claims"]) λ_ _ _ _ _ _=>un5 λ_ _ _ _ _=>rfl
 have b34:=F34.binds (ps:= ["_law_script","_law_many"]) λ_ _ _ _ _ _=>un2 λ_ _=>rfl
 have b35:=F35.binds (ps:= ["_law_script","_law_sides_here","_law_over","_law_more"]) λ_ _ _ _ _ _=>un4 λ_ _ _ _=>rfl
 have b36:=F36.binds (ps:= ["_law_book","_law_row","_law_short_here"]) λ_ _ _ _ _ _=>un3 λ_ _ _=>rfl
 have b38:=F38.binds (ps:= ["self","sides","court","speakers"]) λ_ _ _ _ _ _=>un4 λ_ _ _ _=>rfl
 have b39:=F39.binds (ps:= ["self","day","claim","asker","answerer","worth"]) λ_ _ _ _ _ _=>un6 λ_ _ _ _ _ _=>rfl
 have b40:=F40.binds (ps:= ["self","day","claim"]) λ_ _ _ _ _ _=>un3 λ_ _ _=>rfl
 have b41:Binds K (PySem.W.fnOf "step" "Book.step" (defArgs sBookStep) (defBody sBookStep) (defScope sBookStep) (.ref dT41) kV41 dc41 pm41 an41 cd41 ct41) ["self","day","turn","side","kind","many","laid"] []:=λs us KX hl=>by
  obtain ⟨u0,u1,u2,u3,u4,u5,u6,rfl⟩:=list7 (us:=us) (by simpa using hl)
  exact BindsTo.of_defaults rfl (KX _ _ d41) rfl rfl rfl
 have b41D:Binds K (PySem.W.fnOf "step" "Book.step" (defArgs sBookStep) (defBody sBookStep) (defScope sBookStep) (.ref dT41) kV41 dc41 pm41 an41 cd41 ct41) ["self","day","turn","side","kind","many","laid"] [.str "none" kd41_0]:=λs us KX hl=>by
  obtain ⟨u0,u1,u2,u3,u4,u5,rfl⟩:=list6 (us:=us) (by simpa using hl)
  exact BindsTo.of_defaults rfl (KX _ _ d41) rfl rfl rfl
 have b42:=F42.binds (ps:= ["self","day","turn","claim","amount"]) λ_ _ _ _ _ _=>un5 λ_ _ _ _ _=>rfl
 have b43:Binds K (PySem.W.fnOf "rule" "Book.rule" (defArgs sBookRule) (defBody sBookRule) (defScope sBookRule) (.ref dT43) kV43 dc43 pm43 an43 cd43 ct43) ["self","day","turn","wins","back"] []:=λs us KX hl=>by
  obtain ⟨u0,u1,u2,u3,u4,rfl⟩:=list5 (us:=us) (by simpa using hl)
  exact BindsTo.of_defaults rfl (KX _ _ d43) rfl rfl rfl
 have b43D:Binds K (PySem.W.fnOf "rule" "Book.rule" (defArgs sBookRule) (defBody sBookRule) (defScope sBookRule) (.ref dT43) kV43 dc43 pm43 an43 cd43 ct43) ["self","day","turn","wins","back"] [.bool false]:=λs us KX hl=>by
  obtain ⟨u0,u1,u2,u3,rfl⟩:=list4 (us:=us) (by simpa using hl)
  exact BindsTo.of_defaults rfl (KX _ _ d43) rfl rfl rfl
 have b44:=F44.binds (ps:= ["self","day","side","person","coins"]) λ_ _ _ _ _ _=>un5 λ_ _ _ _ _=>rfl
 have b45:=F45.binds (ps:= ["self","day","side"]) λ_ _ _ _ _ _=>un3 λ_ _ _=>rfl
 have b46:=F46.binds (ps:= ["self","row"]) λ_ _ _ _ _ _=>un2 λ_ _=>rfl
 have b47:=F47.binds (ps:= ["self"]) λ_ _ _ _ _ _=>un1 λ_=>rfl
 have b48:Binds K (PySem.W.fnOf "rows_kept" "Book.rows_kept" (defArgs sBookRowsKept) (defBody sBookRowsKept) (defScope sBookRowsKept) (.ref dT48) kV48 dc48 pm48 an48 cd48 ct48) ["self","mark"] []:=λs us KX hl=>by
  obtain ⟨u0,u1,rfl⟩:=list2 (us:=us) (by simpa using hl)
  exact BindsTo.of_defaults rfl (KX _ _ d48) rfl rfl rfl
 have b48D:Binds K (PySem.W.fnOf "rows_kept" "Book.rows_kept" (defArgs sBookRowsKept) (defBody sBookRowsKept) (defScope sBookRowsKept) (.ref dT48) kV48 dc48 pm48 an48 cd48 ct48) ["self","mark"] [.none]:=λs us KX hl=>by
  obtain ⟨u0,rfl⟩:=list1 (us:=us) (by simpa using hl)
  exact BindsTo.of_defaults rfl (KX _ _ d48) rfl rfl rfl
 have b49D:Binds K (PySem.W.fnOf "kept" "Book.kept" (defArgs sBookKept) (defBody sBookKept) (defScope sBookKept) (.ref dT49) kV49 dc49 pm49 an49 cd49 ct49) ["self","mark"] [.none]:=λs us KX hl=>by
  obtain ⟨u0,rfl⟩:=list1 (us:=us) (by simpa using hl)
  exact BindsTo.of_defaults rfl (KX _ _ d49) rfl rfl rfl
 refine ⟨PySem.W.fnOf "law" "law" (defArgs sLaw) (defBody sLaw) (defScope sLaw) .none kV37 dc37 pm37 an37 cd37 ct37,λs v=> .of_eq rfl,λbase _ _=> ?_⟩
 have tbS:TbS (λ_=>True):=λ_ _ _ h=>h
 have tbT:TbT (λ_=>True):=λ_ _ _ h=>h
 have GClaimRow:Fn l.prog w K mg base "claim_row" 1 ["number","day","claim","asker","answerer","worth"] (spP K (λ_=>True) m_ClaimRow):=⟨_,_,ok_ClaimRow T tbS tbT F0.d,PySem.W.mg_of X G a0,F0.kp,b0⟩
 have GCarryRow:Fn l.prog w K mg base "carry_row" 1 ["number","day","claim"] (spP K (λ_=>True) m_CarryRow):=⟨_,_,ok_CarryRow T tbS tbT F1.d,PySem.W.mg_of X G a1,F1.kp,b1⟩
 have GStepRow:Fn l.prog w K mg base "step_row" 1 ["number","day","turn","side","kind","many","laid"] (spP K (λ_=>True) m_StepRow):=⟨_,_,ok_StepRow T tbS tbT F2.d,PySem.W.mg_of X G a2,F2.kp,b2⟩
 have GOfferRow:Fn l.prog w K mg base "offer_row" 1 ["number","day","turn","claim","amount"] (spP K (λ_=>True) m_OfferRow):=⟨_,_,ok_OfferRow T tbS tbT F3.d,PySem.W.mg_of X G a3,F3.kp,b3⟩
 have GRuleRow:Fn l.prog w K mg base "rule_row" 1 ["number","day","turn","wins","back"] (spP K (λ_=>True) m_RuleRow):=⟨_,_,ok_RuleRow T tbS tbT F4.d,PySem.W.mg_of X G a4,F4.kp,b4⟩
 have GPayRow:Fn l.prog w K mg base "pay_row" 1 ["number","day","side","person","coins"] (spP K (λ_=>True) m_PayRow):=⟨_,_,ok_PayRow T tbS tbT F5.d,PySem.W.mg_of X G a5,F5.kp,b5⟩
 have GDunRow:Fn l.prog w K mg base "dun_row" 1 ["number","day","side"] (spP K (λ_=>True) m_DunRow):=⟨_,_,ok_DunRow T tbS tbT F6.d,PySem.W.mg_of X G a6,F6.kp,b6⟩
 have GRuleText:Fn l.prog w K mg base "rule_text" 1 ["row"] (spP K (λ_=>True) m_RuleText):=⟨_,_,ok_RuleText T tbS tbT F8.d,PySem.W.mg_of X G a8,F8.kp,b8⟩
 have GRowText:Fn l.prog w K mg base "row_text" 2 ["row"] (spP K (λ_=>True) m_RowText):=⟨_,_,ok_RowText T tbS tbT F7.d GRuleText,PySem.W.mg_of X G a7,F7.kp,b7⟩
 have GFindClaim:Fn l.prog w K mg base "find_claim" 1 ["claims","number"] (spP K (λ_=>True) m_FindClaim):=⟨_,_,ok_FindClaim T tbS tbT F13.d,PySem.W.mg_of X G a13,F13.kp,b13⟩
 have GPutRow:Fn l.prog w K mg base "put_row" 2 ["rounds","row"] (spPut K (λ_=>True) m_PutRow):=⟨_,_,ok_PutRow T tbS tbT F10.d GFindClaim,PySem.W.mg_of X G a10,F10.kp,b10⟩
 have GRoundsOf:Fn l.prog w K mg base "rounds_of" 3 ["rows"] (spP K (λ_=>True) m_RoundsOf):=⟨_,_,ok_RoundsOf T tbS tbT F9.d GPutRow,PySem.W.mg_of X G a9,F9.kp,b9⟩
 have GOverOf:Fn l.prog w K mg base "over_of" 1 ["rounds"] (spP K (λ_=>True) m_OverOf):=⟨_,_,ok_OverOf T tbS tbT F11.d,PySem.W.mg_of X G a11,F11.kp,b11⟩
 have GClaimsOf:Fn l.prog w K mg base "claims_of" 1 ["rounds","turn"] (spP K (λ_=>True) m_ClaimsOf):=⟨_,_,ok_ClaimsOf T tbS tbT F12.d,PySem.W.mg_of X G a12,F12.kp,b12⟩
 have GComesTwice:Fn l.prog w K mg base "comes_twice" 2 ["rounds","row"] (spP K (λ_=>True) m_ComesTwice):=⟨_,_,ok_ComesTwice T tbS tbT F18.d GFindClaim,PySem.W.mg_of X G a18,F18.kp,b18⟩
 have GLacksClaim:Fn l.prog w K mg base "lacks_claim" 2 ["rounds","row"] (spP K (λ_=>True) m_LacksClaim):=⟨_,_,ok_LacksClaim T tbS tbT F16.d GClaimsOf GFindClaim GOverOf,PySem.W.mg_of X G a16,F16.kp,b16⟩
 have GMeetsOver:Fn l.prog w K mg base "meets_over" 2 ["rounds","row"] (spP K (λ_=>True) m_MeetsOver):=⟨_,_,ok_MeetsOver T tbS tbT F17.d GOverOf,PySem.W.mg_of X G a17,F17.kp,b17⟩
 have GWorthIn:Fn l.prog w K mg base "worth_in" 2 ["rounds","row","claim"] (spP K (λ_=>True) m_WorthIn):=⟨_,_,ok_WorthIn T tbS tbT F20.d GClaimsOf GFindClaim,PySem.W.mg_of X G a20,F20.kp,b20⟩
 have GNamesTooMuch:Fn l.prog w K mg base "names_too_much" 3 ["rounds","row"] (spP K (λ_=>True) m_NamesTooMuch):=⟨_,_,ok_NamesTooMuch T tbS tbT F19.d GWorthIn,PySem.W.mg_of X G a19,F19.kp,b19⟩
 have GCheckNext:FnX l.prog w K mg base "check_next" 4 ["rounds","last","written","row"] (spE K (λ_=>True) [c_Full,c_NoClaim,c_RoundOver,c_TooLate,c_Twice,c_TooMuch,0,0] m_CheckNext):=⟨_,_,ok_CheckNext T tbS tbT F15.d GComesTwice GLacksClaim GMeetsOver GNamesTooMuch,PySem.W.mg_of X G a15,F15.kp,b15⟩
 have GCheckRow:FnX l.prog w K mg base "check_row" 5 ["rows","written","row"] (spE K (λ_=>True) [c_Full,c_NoClaim,c_RoundOver,c_TooLate,c_Twice,c_TooMuch,0,0] m_CheckRow):=⟨_,_,ok_CheckRow T tbS tbT F14.d GCheckNext GRoundsOf,PySem.W.mg_of X G a14,F14.kp,b14⟩
 have GLAt:Fn l.prog w K mg base "_law_at" 1 ["_law_script","_law_k"] (spP K (λ_=>True) m_LAt):=⟨_,_,ok_LAt T tbS tbT F21.d,PySem.W.mg_of X G a21,F21.kp,b21⟩
 have GLInt:Fn l.prog w K mg base "_law_int" 1 ["_law_got"] (spP K (λ_=>True) m_LInt):=⟨_,_,ok_LInt T tbS tbT F22.d,PySem.W.mg_of X G a22,F22.kp,b22⟩
 have GLTexts:Fn l.prog w K mg base "_law_texts" 1 ["_law_got","_law_due"] (spP K (λ_=>True) m_LTexts):=⟨_,_,ok_LTexts T tbS tbT F23.d,PySem.W.mg_of X G a23,F23.kp,b23⟩
 have GLWorth:Fn l.prog w K mg base "_law_worth" 1 ["_law_cell"] (spP K (λ_=>True) m_LWorth):=⟨_,_,ok_LWorth T tbS tbT F24.d,PySem.W.mg_of X G a24,F24.kp,b24⟩
 have GLCoins:Fn l.prog w K mg base "_law_coins" 1 ["_law_cell"] (spP K (λ_=>True) m_LCoins):=⟨_,_,ok_LCoins T tbS tbT F25.d,PySem.W.mg_of X G a25,F25.kp,b25⟩
 have GLSides:Fn l.prog w K mg base "_law_sides" 1 ["_law_cell","_law_other"] (spP K (λ_=>True) m_LSides):=⟨_,_,ok_LSides T tbS tbT F26.d,PySem.W.mg_of X G a26,F26.kp,b26⟩
 have GBookRowsKept:MtF l.prog w K mg base CX0 cB "rows_kept" 1 ["self","mark"] [] (spX K (λ_=>True) cB [c_Full,c_NoClaim,c_RoundOver,c_TooLate,c_Twice,c_TooMuch,0,0] m_BookRowsKept):=⟨_,_,_,ok_BookRowsKept T tbS tbT F48,⟨a48,i48,k48⟩,b48,.nil⟩
 have GBookRowsKeptD:MtF l.prog w K mg base CX0 cB "rows_kept" 1 ["self","mark"] [.non] (spX K (λ_=>True) cB [c_Full,c_NoClaim,c_RoundOver,c_TooLate,c_Twice,c_TooMuch,0,0] m_BookRowsKept):=⟨_,_,_,ok_BookRowsKept T tbS tbT F48,⟨a48,i48,k48⟩,b48D,(.cons rfl .nil)⟩
 have GBookWrite:MtF l.prog w K mg base (CX1 l.prog w) cB "write" 6 ["self","row"] [] (spX K (λ_=>True) cB [c_Full,c_NoClaim,c_RoundOver,c_TooLate,c_Twice,c_TooMuch,0,0] m_BookWrite):=⟨_,_,_,ok_BookWrite T tbS tbT F46.d GBookRowsKeptD GCheckRow,⟨a46,i46,F46.kp⟩,b46,.nil⟩
 have GBookCarry:MtF l.prog w K mg base (CX1 l.prog w) cB "carry" 7 ["self","day","claim"] [] (spX K (λ_=>True) cB [c_Full,c_NoClaim,c_RoundOver,c_TooLate,c_Twice,c_TooMuch,0,0] m_BookCarry):=⟨_,_,_,ok_BookCarry T tbS tbT F40.d GBookWrite GCarryRow,⟨a40,i40,F40.kp⟩,b40,.nil⟩
 have GBookClaim:MtF l.prog w K mg base (CX1 l.prog w) cB "claim" 7 ["self","day","claim","asker","answerer","worth"] [] (spX K (λ_=>True) cB [c_Full,c_NoClaim,c_RoundOver,c_TooLate,c_Twice,c_TooMuch,0,0] m_BookClaim):=⟨_,_,_,ok_BookClaim T tbS tbT F39.d GBookWrite GClaimRow,⟨a39,i39,F39.kp⟩,b39,.nil⟩
 have GBookDun:MtF l.prog w K mg base (CX1 l.prog w) cB "dun" 7 ["self","day","side"] [] (spX K (λ_=>True) cB [c_Full,c_NoClaim,c_RoundOver,c_TooLate,c_Twice,c_TooMuch,0,0] m_BookDun):=⟨_,_,_,ok_BookDun T tbS tbT F45.d GBookWrite GDunRow,⟨a45,i45,F45.kp⟩,b45,.nil⟩
 have GBookOffer:MtF l.prog w K mg base (CX1 l.prog w) cB "offer" 7 ["self","day","turn","claim","amount"] [] (spX K (λ_=>True) cB [c_Full,c_NoClaim,c_RoundOver,c_TooLate,c_Twice,c_TooMuch,0,0] m_BookOffer):=⟨_,_,_,ok_BookOffer T tbS tbT F42.d GBookWrite GOfferRow,⟨a42,i42,F42.kp⟩,b42,.nil⟩
 have GBookPay:MtF l.prog w K mg base (CX1 l.prog w) cB "pay" 7 ["self","day","side","person","coins"] [] (spX K (λ_=>True) cB [c_Full,c_NoClaim,c_RoundOver,c_TooLate,c_Twice,c_TooMuch,0,0] m_BookPay):=⟨_,_,_,ok_BookPay T tbS tbT F44.d GBookWrite GPayRow,⟨a44,i44,F44.kp⟩,b44,.nil⟩
 have GBookStep:MtF l.prog w K mg base (CX1 l.prog w) cB "step" 7 ["self","day","turn","side","kind","many","laid"] [] (spX K (λ_=>True) cB [c_Full,c_NoClaim,c_RoundOver,c_TooLate,c_Twice,c_TooMuch,0,0] m_BookStep):=⟨_,_,_,ok_BookStep T tbS tbT F41 GBookWrite GStepRow,⟨a41,i41,k41⟩,b41,.nil⟩
 have GBookStepD:MtF l.prog w K mg base (CX1 l.prog w) cB "step" 7 ["self","day","turn","side","kind","many","laid"] [.str "none"] (spX K (λ_=>True) cB [c_Full,c_NoClaim,c_RoundOver,c_TooLate,c_Twice,c_TooMuch,0,0] m_BookStep):=⟨_,_,_,ok_BookStep T tbS tbT F41 GBookWrite GStepRow,⟨a41,i41,k41⟩,b41D,(.cons ⟨_,rfl⟩ .nil)⟩
 have GLCall:FnX l.prog w K mg base "_law_call" 8 ["_law_book","_law_word","_law_day","_law_told"] (spX K (λ_=>True) cB [c_Full,c_NoClaim,c_RoundOver,c_TooLate,c_Twice,c_TooMuch,0,0] m_LCall):=⟨_,_,ok_LCall T tbS tbT F27.d GBookCarry GBookClaim GBookDun GBookOffer GBookPay GBookStep,PySem.W.mg_of X G a27,F27.kp,b27⟩
 have GLWins:Fn l.prog w K mg base "_law_wins" 1 ["_law_cell","_law_claims"] (spP K (λ_=>True) m_LWins):=⟨_,_,ok_LWins T tbS tbT F28.d,PySem.W.mg_of X G a28,F28.kp,b28⟩
 have GLStep:Fn l.prog w K mg base "_law_step" 2 ["_law_cell","_law_other","_law_stage","_law_sides_here"] (spP K (λ_=>True) m_LStep):=⟨_,_,ok_LStep T tbS tbT F29.d GLCoins,PySem.W.mg_of X G a29,F29.kp,b29⟩
 have GLClaim:Fn l.prog w K mg base "_law_claim" 2 ["_law_cell","_law_other","_law_many"] (spP K (λ_=>True) m_LClaim):=⟨_,_,ok_LClaim T tbS tbT F30.d GLWorth,PySem.W.mg_of X G a30,F30.kp,b30⟩
 have GLText:Fn l.prog w K mg base "_law_text" 1 ["_law_word","_law_day","_law_told"] (spP K (λ_=>True) m_LText_2):=⟨_,_,ok_LText T tbS tbT F31.d,PySem.W.mg_of X G a31,F31.kp,b31⟩
 have GLKept:Fn l.prog w K mg base "_law_kept" 2 ["_law_rows"] (spP K (λ_=>True) m_LKept_2):=⟨_,_,ok_LKept T tbS tbT F32.d GLText,PySem.W.mg_of X G a32,F32.kp,b32⟩
 have GLQuarrelDeed:Fn l.prog w K mg base "_law_quarrel_deed" 3 ["_law_cell","_law_other","_law_stage","_law_sides_here","_law_claims"] (spP K (λ_=>True) m_LQuarrelDeed):=⟨_,_,ok_LQuarrelDeed T tbS tbT F33.d GLStep,PySem.W.mg_of X G a33,F33.kp,b33⟩
 have GLQuarrelClaims:Fn l.prog w K mg base "_law_quarrel_claims" 3 ["_law_script","_law_many"] (spP K (λ_=>True) m_LQuarrelClaims):=⟨_,_,ok_LQuarrelClaims T tbS tbT F34.d GLAt GLClaim,PySem.W.mg_of X G a34,F34.kp,b34⟩
 have GLQuarrel:Fn l.prog w K mg base "_law_quarrel" 4 ["_law_script","_law_sides_here","_law_over","_law_more"] (spPN K (λ_=>True) m_LQuarrel):=⟨_,_,ok_LQuarrel T tbS tbT F35.d GLAt GLQuarrelClaims GLQuarrelDeed GLWins,PySem.W.mg_of X G a35,F35.kp,b35⟩
 have GBookRule:MtF l.prog w K mg base (CX1 l.prog w) cB "rule" 7 ["self","day","turn","wins","back"] [] (spX K (λ_=>True) cB [c_Full,c_NoClaim,c_RoundOver,c_TooLate,c_Twice,c_TooMuch,0,0] m_BookRule):=⟨_,_,_,ok_BookRule T tbS tbT F43 GBookWrite GRuleRow,⟨a43,i43,k43⟩,b43,.nil⟩
 have GBookRuleD:MtF l.prog w K mg base (CX1 l.prog w) cB "rule" 7 ["self","day","turn","wins","back"] [.bl false] (spX K (λ_=>True) cB [c_Full,c_NoClaim,c_RoundOver,c_TooLate,c_Twice,c_TooMuch,0,0] m_BookRule):=⟨_,_,_,ok_BookRule T tbS tbT F43 GBookWrite GRuleRow,⟨a43,i43,k43⟩,b43D,(.cons rfl .nil)⟩
 have GLShort:FnX l.prog w K mg base "_law_short" 9 ["_law_book","_law_row","_law_short_here"] (spX K (λ_=>True) cB [c_Full,c_NoClaim,c_RoundOver,c_TooLate,c_Twice,c_TooMuch,0,0] m_LShort):=⟨_,_,ok_LShort T tbS tbT F36.d GBookRule GBookRuleD GBookStepD GLCall,PySem.W.mg_of X G a36,F36.kp,b36⟩
 have GMk:MkF l.prog w K mg base cB 1 ["self","sides","court","speakers"] [] (spMk K cB):=⟨_,_,_,ok_BookInit T tbS tbT F38.d,⟨mk,a38,i38,kc⟩,b38,.nil⟩
 have GBookKeptD:MtF l.prog w K mg base CX0 cB "kept" 3 ["self","mark"] [.non] (spX K (λ_=>True) cB [c_Full,c_NoClaim,c_RoundOver,c_TooLate,c_Twice,c_TooMuch,0,0] m_BookKept):=⟨_,_,_,ok_BookKept T tbS tbT F49 GBookRowsKept GRowText,⟨a49,i49,k49⟩,b49D,(.cons rfl .nil)⟩
 exact ok_Law T tbS tbT F37 GMk GBookKeptD GLAt GLCoins GLInt GLKept GLQuarrel GLShort GLSides GLTexts law_ok
theorem walk {l:PySem.W.OpenLaw} {q:Program} {loose:List Str} {XP:(Str->Option Value)->Heap->Prop} {YP:World->Heap->Prop} {d:DefRec} {K:Params->Frag} (hn:l.most=some 63) (hdf:d.params.defaults= [])
  (hY: ∀(w:World) (h:Heap),YP w h->(K w.params).In h)
  (F: ∀(w:World) (mg:Str->Option Value) (fa:Addr) (h:Heap),(K w.params).In h->h.Ns mainGlobals mg->mg d.name=some (.ref fa)->
   ∃fd:FuncData,(∀(s:Shared) (u:Value),BindsTo s fd ⟨[u],[]⟩ [("_law_script",u)])/\ ∀base:Heap,(K w.params).In base->base.Ns mainGlobals mg->FnOk l.prog w (K w.params) mg base CX0 10 fa fd ["_law_script"] (spLawP (K w.params) (λ_=>True))):
  PySem.W.WalkO q loose XP YP l.row.toRowW d [] (λf vs=>PySem.call f vs):=
 L2.walk_of (n:=63) (k:=10) (x:= "_law_script") (CX:=λ_=>CX0) (sp:=λw=>spLawP (K w.params) (λ_=>True)) hn (by decide) hdf ⟨rfl,by decide,by decide,rfl⟩ hY F (λ_ _ a ns hl _ hS=>⟨a,ns,rfl,hS,hl,trivial,λ_=>rfl⟩) λ_ _ _ _ _ z=>z
end My
local macro_rules | `(tactic| walk_at "td") => `(tactic| (refine' My.TD.mk ?a ?l ?c ?k; (case a => k_is); (case l => k_is); (case c => k_is); (case k => k_is)))
local macro_rules | `(tactic| walk_at "tm") => `(tactic| (refine' My.TM.mk ?a ?i ?l ?c ?k; (case a => k_is); (case i => k_is); (case l => k_is); (case c => k_is); (case k => k_is)))
open PySem PySem.W PyProof.Rows
namespace PySem.W.Fast
def tw15943156554496822394:=()
def tw12288522709657490960:=()
def tw3533978452171507705:=()
def tw683553199033082106:=()
def tw594846209756373493:=()
def tw8089338916006516490:=()
def tw18366940164627070741:=()
def tw6591448271597438961:=()
def tw18183535762190785383:=()
def tw16404067203236926637:=()
def tw7089648297880908452:=()
def tw2382893056035953190:=()
def tw4051327695584504618:=()
def tw882363438526235076:=()
def tw18065631574874516768:=()
def tw12634463791062120727:=()
def tw3672898667513779134:=()
def tw1015351267885084034:=()
def tw17665026647370997031:=()
def tw13793879631570279173:=()
def tw10351850789279682646:=()
def tw13359800647853787074:=()
def tw5469080951851986021:=()
def tw9287027866768879539:=()
def tw4620455425232620672:=()
def tw7303248269572744416:=()
def tw7789084237103302661:=()
def tw6459994611476688435:=()
def tw4225648505885761349:=()
def tw14354023204268786577:=()
def tw14277084819400515928:=()
def tw4372838639652054887:=()
def tw12607660534705415917:=()
def tw15179920593577651922:=()
def tw5184434197754877690:=()
def tw5907244559597157961:=()
def tw2686588067761070001:=()
def tw14216284357940209628:=()
def tw5585535417020427665:=()
def tw2720578394510510250:=()
def tw9379647216265026627:=()
def tw7945884751300800931:=()
def tw4327937999776016584:=()
def tw3921174628443714800:=()
def tw17718376443302401752:=()
def tw14802818330710515611:=()
def tw16944353797908444884:=()
def tw360646200243322692:=()
def tw5023786343374085954:=()
def tw10898118735440930792:=()
def tw2684112553176151591:=()
def tw2767504393585419013:=()
def tw17244982394941726186:=()
def tw4519329143138837517:=()
def tw134530376054219018:=()
def tw7970821893016570735:=()
def tw1723193049990665939:=()
def tw8658526823403487258:=()
def tw14093105731703857520:=()
def tw11356489813154843484:=()
def tw13824053362520950391:=()
def tw3890419963033897785:=()
def tw15134468028417506311:=()
def tw17556262248641648178:=()
def tw9127957979751963305:=()
def tw15468881515110822329:=()
def tw13876397005058236304:=()
def tw6309698018435807216:=()
def tw10010075018803984647:=()
def tw6624548895535842516:=()
def tw12431727672580745687:=()
def tw8724922217697036256:=()
def tw15488383255755106652:=()
def tw16991662554119515114:=()
def tw13900907854691145393:=()
def tw9731008463003103583:=()
def tw6786705920891780461:=()
def tw5670188648344953204:=()
def tw259134694298577415:=()
def tw9377514277400069386:=()
def tw9284531657284582676:=()
def tw8265199524438874228:=()
def tw1818157313589485557:=()
def tw5635289573993841383:=()
def tw7054464939536679725:=()
def tw5827396772269527286:=()
def tw15232867909803305611:=()
def tw11341485357286468164:=()
def tw6947174228539133818:=()
def tw10254851994706529600:=()
def tw4244441762581702224:=()
def tw804843610961682259:=()
def tw5144119454018169295:=()
def tw7526113731194331812:=()
def tw15204920931395470071:=()
def tw9812224985477379203:=()
def tw5206457463191434569:=()
def tw6515423320911443984:=()
def tw10652737974023722615:=()
def tw12149096811726457300:=()
def tw2474715143265031474:=()
def tw18166767953528771472:=()
def tw15458210429613932073:=()
def tw3609774617928728229:=()
def tw16719810074002254326:=()
def tw7550558955852498836:=()
def tw13217270544096720730:=()
def tw9606502479212173125:=()
def tw10430900660912334916:=()
def tw17680513209432947176:=()
def tw2501839820551284891:=()
def tw15434164835841096538:=()
def tw10422379962887506625:=()
def tw2107014106539516089:=()
def tw1554258201212990663:=()
def tw2143076410477294987:=()
end PySem.W.Fast
set_option maxRecDepth 100000 in
set_option maxHeartbeats 0 in
theorem PySem.Challenge.cw_costorder_k21_rows_as_texts_holds : PySem.Challenge.rw_costorder_k21_rows_as_texts.Holds := by
 w_on;o_law;k_head;(case hw=>w_witness2)
 k_fill
 refine My.walk (l:=PySem.Challenge.rw_costorder_k21_rows_as_texts) rfl rfl (λw h Y=>by first|exact PySem.W.kIn_of Y|exact PySem.W.km_in_of Y) ?F
 case F=>
  intro w mg fa h KX G hmg
  refine' My.all_mk KX G hmg ?aB ?e_Full ?e_NoClaim ?e_RoundOver ?e_TooLate ?e_Twice ?e_TooMuch ?t0 ?t1 ?t2 ?t3 ?t4 ?t5 ?t6 ?t7 ?t8 ?t9 ?t10 ?t11 ?t12 ?t13 ?t14 ?t15 ?t16 ?t17 ?t18 ?t19 ?t20 ?t21 ?t22 ?t23 ?t24 ?t25 ?t26 ?t27 ?t28 ?t29 ?t30 ?t31 ?t32 ?t33 ?t34 ?t35 ?t36 ?a37 ?l37 ?c37 ?k37 ?t38 ?t39 ?t40 ?a41 ?i41 ?l41 ?c41 ?k41 ?d41 ?t42 ?a43 ?i43 ?l43 ?c43 ?k43 ?d43 ?t44 ?t45 ?t46 ?t47 ?a48 ?i48 ?l48 ?c48 ?k48 ?d48 ?a49 ?i49 ?l49 ?c49 ?k49 ?d49 ?z_any ?z_bool ?z_int ?z_isinstance ?z_len ?z_list ?z_max ?z_min ?z_range ?z_set ?z_str ?z_tuple ?z_zip ?y_CLAIM ?y_DAY ?y_MOST_ROWS ?y_NUMBER ?y_OFFER_AMOUNT ?y_OFFER_CLAIM ?y_ROUNDS ?y_RULE_BACK ?y_RULE_WINS ?y_TURN ?y_WORD ?y_WORTH ?pg ?hd ?po ?sa ?mk ?kc ?nf_people ?nf_court ?nf_speakers ?nf_rows ?nf_came ?nf_went ?nf_done ?xx_Full ?xx_NoClaim ?xx_RoundOver ?xx_TooLate ?xx_Twice ?xx_TooMuch
  (case aB=>k_is)
  (case e_Full=>k_is)
  (case e_NoClaim=>k_is)
  (case e_RoundOver=>k_is)
  (case e_TooLate=>k_is)
  (case e_Twice=>k_is)
  (case e_TooMuch=>k_is)
  (case t0=>walk_at "td")
  (case t1=>walk_at "td")
  (case t2=>walk_at "td")
  (case t3=>walk_at "td")
  (case t4=>walk_at "td")
  (case t5=>walk_at "td")
  (case t6=>walk_at "td")
  (case t7=>walk_at "td")
  (case t8=>walk_at "td")
  (case t9=>walk_at "td")
  (case t10=>walk_at "td")
  (case t11=>walk_at "td")
  (case t12=>walk_at "td")
  (case t13=>walk_at "td")
  (case t14=>walk_at "td")
  (case t15=>walk_at "td")
  (case t16=>walk_at "td")
  (case t17=>walk_at "td")
  (case t18=>walk_at "td")
  (case t19=>walk_at "td")
  (case t20=>walk_at "td")
  (case t21=>walk_at "td")
  (case t22=>walk_at "td")
  (case t23=>walk_at "td")
  (case t24=>walk_at "td")
  (case t25=>walk_at "td")
  (case t26=>walk_at "td")
  (case t27=>walk_at "td")
  (case t28=>walk_at "td")
  (case t29=>walk_at "td")
  (case t30=>walk_at "td")
  (case t31=>walk_at "td")
  (case t32=>walk_at "td")
  (case t33=>walk_at "td")
  (case t34=>walk_at "td")
  (case t35=>walk_at "td")
  (case t36=>walk_at "td")
  (case a37=>k_is)
  (case l37=>k_is)
  (case c37=>k_is)
  (case k37=>k_is)
  (case t38=>walk_at "tm")
  (case t39=>walk_at "tm")
  (case t40=>walk_at "tm")
  (case a41=>k_is)
  (case i41=>k_is)
  (case l41=>k_is)
  (case c41=>k_is)
  (case k41=>k_is)
  (case d41=>k_is)
  (case t42=>walk_at "tm")
  (case a43=>k_is)
  (case i43=>k_is)
  (case l43=>k_is)
  (case c43=>k_is)
  (case k43=>k_is)
  (case d43=>k_is)
  (case t44=>walk_at "tm")
  (case t45=>walk_at "tm")
  (case t46=>walk_at "tm")
  (case t47=>walk_at "tm")
  (case a48=>k_is)
  (case i48=>k_is)
  (case l48=>k_is)
  (case c48=>k_is)
  (case k48=>k_is)
  (case d48=>k_is)
  (case a49=>k_is)
  (case i49=>k_is)
  (case l49=>k_is)
  (case c49=>k_is)
  (case k49=>k_is)
  (case d49=>k_is)
  (case z_any=>k_is)
  (case z_bool=>k_is)
  (case z_int=>k_is)
  (case z_isinstance=>k_is)
  (case z_len=>k_is)
  (case z_list=>k_is)
  (case z_max=>k_is)
  (case z_min=>k_is)
  (case z_range=>k_is)
  (case z_set=>k_is)
  (case z_str=>k_is)
  (case z_tuple=>k_is)
  (case z_zip=>k_is)
  (case y_CLAIM=>k_is)
  (case y_DAY=>k_is)
  (case y_MOST_ROWS=>k_is)
  (case y_NUMBER=>k_is)
  (case y_OFFER_AMOUNT=>k_is)
  (case y_OFFER_CLAIM=>k_is)
  (case y_ROUNDS=>k_is)
  (case y_RULE_BACK=>k_is)
  (case y_RULE_WINS=>k_is)
  (case y_TURN=>k_is)
  (case y_WORD=>k_is)
  (case y_WORTH=>k_is)
  (case pg=>k_is)
  (case hd=>k_is)
  (case po=>k_is)
  (case sa=>k_is)
  (case mk=>k_is)
  (case kc=>k_is)
  (case nf_people=>k_is)
  (case nf_court=>k_is)
  (case nf_speakers=>k_is)
  (case nf_rows=>k_is)
  (case nf_came=>k_is)
  (case nf_went=>k_is)
  (case nf_done=>k_is)
  (case xx_Full=>first|k_is|(unfold ExcCls;k_is)|kernel_rfl)
  (case xx_NoClaim=>first|k_is|(unfold ExcCls;k_is)|kernel_rfl)
  (case xx_RoundOver=>first|k_is|(unfold ExcCls;k_is)|kernel_rfl)
  (case xx_TooLate=>first|k_is|(unfold ExcCls;k_is)|kernel_rfl)
  (case xx_Twice=>first|k_is|(unfold ExcCls;k_is)|kernel_rfl)
  (case xx_TooMuch=>first|k_is|(unfold ExcCls;k_is)|kernel_rfl)
