import PyProof.Rows.All
import Wide.All
import OpenK.AllK
import Wide.FinOn
import PyProof.EqAt
import PyProof.EqKinds
import PyProof.TupleCall
import Open.SpecLaws
import KE.OsHead
import KE.OsGo
import PySem.Challenge.RW_steptimes_s01_answers
set_option Elab.async false
set_option linter.all false
set_option maxRecDepth 100000
set_option maxHeartbeats 4000000
set_option compiler.extract_closed false
set_option genSizeOf false
theorem L2.hidL {A:Prop} (h:let G:=A;G):A:=h
local macro_rules | `(tactic| obtain $p:rcasesPatMed := $e:term) => `(tactic| (refine L2.hidL ?_; intro G; (rcases $e:term with $p:rcasesPatMed) <;> (unfold G; clear G)))
section
namespace L2
open PySem PySem.W PyProof.Rows
theorem Nu:PySem.Challenge.rw_steptimes_s01_answers.wellSaid=true:=by decide+kernel
end L2
namespace Ui
open PySem PySem.Spec PyProof.Rows
theorem S0 (x y:Value):checkTypeCall "enumerate" ⟨[x],[("start",y)]⟩=pure ():=by kernel_rfl
theorem Vd (x y:Value):checkBuiltinCall "enumerate.__new__" ⟨[.type "enumerate",x],[("start",y)]⟩=pure ():=by kernel_rfl
theorem Tb (o x y:Value):argsOk "object.__init__" ⟨[o,x],[("start",y)]⟩:=by
 unfold argsOk;rw [signature?_of (id:="object.__init__") (n:=['_', '_', 't', 'i', 'n', 'i', '_', '_']) (o:=['t', 'c', 'e', 'j', 'b', 'o']) (by kernel_rfl) F.owner_object]
 kernel_rfl
end Ui
end
section
set_option autoImplicit false
namespace Mt
open Vblaai
theorem eI (a:W):minW a none=a:=by cases a<;>rfl
theorem fk (a:W):minW none a=a:=by cases a<;>rfl
theorem kO (a b c:W):minW (minW a b) c=minW a (minW b c):=by
 cases a<;>cases b<;>cases c<;>simp only [minW,Option.some.injEq];omega
theorem Ec (a b:W):minW a b=minW b a:=by
 cases a<;>cases b<;>simp only [minW,Option.some.injEq];omega
theorem vh:∀(l:List W) (a:W),l.foldl minW a=minW a (l.foldl minW none)
 |[],a=>(eI a).symm
 |x::l,a=>by
  rw [List.foldl_cons,List.foldl_cons,vh l (minW a x),vh l (minW none x),fk,kO]
theorem iU:least []=none:=rfl
theorem b5 (x:W) (l:List W):least (x::l)=minW x (least l):=by
 unfold least;rw [List.foldl_cons,vh,fk]
theorem j5:∀(l m:List W),least (l++m)=minW (least l) (least m)
 |[],m=>by rw [List.nil_append,iU,fk]
 |x::l,m=>by rw [List.cons_append,b5,b5,j5 l m,kO]
theorem f7 {α:Type} (f:α→List W):∀l:List α, least (l.flatMap f)=least (l.map fun x=>least (f x))
 |[]=>rfl
 |x::l=>by rw [List.flatMap_cons,List.map_cons,j5,b5,f7 f l]
theorem iF:∀l:List W,(∀x∈l,x=none)→least l=none
 |[],_=>rfl
 |x::l,h=>by rw [b5,h x List.mem_cons_self,fk,iF l fun y hy=>h y (List.mem_cons_of_mem _ hy)]
structure Rc (m k:Nat) (t:Table):Prop where
 len:t.length=m
 row:∀(i:Nat) (r:List W),t[i]?=some r→r.length=k
abbrev Sq (k:Nat) (t:Table):Prop:=Rc k k t
theorem Am {t:Table} {i j:Nat} {r:List W} (h:t[i]?=some r):at_ t i j=(r[j]?).getD none:=by
 have e:t.getD i []=r:=by rw [List.getD_eq_getElem?_getD,h];rfl
 unfold at_;rw [e,List.getD_eq_getElem?_getD]
theorem Rc.get {m k:Nat} {t:Table} (h:Rc m k t) {i:Nat} (hi:i<m):∃r,t[i]?=some r∧r.length=k:=by
 have hl:i<t.length:=by rw [h.len];exact hi
 exact ⟨t[i],List.getElem?_eq_getElem hl,h.row i _ (List.getElem?_eq_getElem hl)⟩
theorem Rc.ma {m k:Nat} {t:Table} (h:Rc m k t) {i j:Nat} {r:List W} (e:t[i]?=some r) (hj:j<k):r[j]?=some (at_ t i j):=by
 rw [Am e];have hl:j<r.length:=by have:=h.row i r e;omega
 rw [List.getElem?_eq_getElem hl];rfl
theorem Rc.cell {m k:Nat} {t:Table} (h:Rc m k t) {i j:Nat} (hi:i<m) (hj:j<k):∃r,t[i]?=some r∧r[j]?=some (at_ t i j):=by
 obtain ⟨r,h1,_⟩:=h.get hi;exact ⟨r,h1,h.ma h1 hj⟩
theorem Rc.ext {m k:Nat} {t u:Table} (ht:Rc m k t) (hu:Rc m k u) (h:∀i j,i<m→j<k→at_ t i j=at_ u i j):t=u:=by
 apply List.ext_getElem?;intro i;by_cases hi:i<m
 ·obtain ⟨r,h1,h2⟩:=ht.get hi;obtain ⟨s,h3,h4⟩:=hu.get hi;rw [h1,h3]
  congr 1
  apply List.ext_getElem?;intro j;by_cases hj:j<k
  ·rw [ht.ma h1 hj,hu.ma h3 hj,h i j hi hj]
  ·rw [List.getElem?_eq_none (by omega),List.getElem?_eq_none (by omega)]
 ·rw [List.getElem?_eq_none (by rw [ht.len];omega),List.getElem?_eq_none (by rw [hu.len];omega)]
def Cw (m k:Nat) (f:Nat→Nat→W):Table:=(List.range m).map fun i=>(List.range k).map (f i)
theorem qv (k:Nat) (f:Nat→Nat→W):Cw k k f=table k f:=rfl
theorem Jh {m k:Nat} {f:Nat→Nat→W} {i:Nat} (hi:i<m):(Cw m k f)[i]?=some ((List.range k).map (f i)):=by
 unfold Cw;rw [List.getElem?_map,List.getElem?_range hi];rfl
theorem i0 {m k:Nat} {f:Nat→Nat→W} {i j:Nat} (hi:i<m) (hj:j<k):at_ (Cw m k f) i j=f i j:=by
 rw [Am (Jh hi),List.getElem?_map,List.getElem?_range hj];rfl
theorem gm (m k:Nat) (f:Nat→Nat→W):Rc m k (Cw m k f):=by
 refine ⟨by simp [Cw],fun i r h=>?_⟩;have hi:i<m:=by
  have:=(List.getElem?_eq_some_iff.mp h).1;simpa [Cw] using this
 rw [Jh hi] at h
 cases h;simp
theorem dD {k:Nat} {f:Nat→Nat→W} {i j:Nat} (hi:i<k) (hj:j<k):at_ (table k f) i j=f i j:=i0 hi hj
theorem IQ (k:Nat) (f:Nat→Nat→W):Sq k (table k f):=gm k k f
theorem Rc.Lw {m k:Nat} {t:Table} {f:Nat→Nat→W} (ht:Rc m k t) (h:∀i j,i<m→j<k→at_ t i j=f i j):t=Cw m k f :=
 ht.ext (gm m k f) fun i j hi hj=>by rw [i0 hi hj];exact h i j hi hj
def put (t:Table) (i j:Nat) (w:W):Table:=t.set i ((t.getD i []).set j (minW (at_ t i j) w))
theorem Rc.set {m k:Nat} {t:Table} (h:Rc m k t) (i:Nat) {r:List W} (hr:r.length=k):Rc m k (t.set i r):=by
 refine ⟨by rw [List.length_set];exact h.len,fun i' r' e=>?_⟩;by_cases TM:i=i'
 ·subst TM;have hi:i<t.length:=by
   have:=(List.getElem?_eq_some_iff.mp e).1
   rwa [List.length_set] at this
  rw [List.getElem?_set_self hi] at e
  cases e;exact hr
 ·rw [List.getElem?_set_ne TM] at e;exact h.row i' r' e
theorem Rc.put {m k:Nat} {t:Table} (h:Rc m k t) {i j:Nat} (hi:i<m) (w:W):Rc m k (put t i j w):=by
 obtain ⟨r,h1,h2⟩:=h.get hi;refine h.set i ?_;rw [List.length_set,List.getD_eq_getElem?_getD,h1];exact h2
theorem Nc {m k:Nat} {t:Table} (h:Rc m k t) {i j:Nat} (hi:i<m) (hj:j<k) (w:W) {i' j':Nat} (o4:i'<m) (MI:j'<k) :
  at_ (put t i j w) i' j'=if i=i'∧j=j' then minW (at_ t i j) w else at_ t i' j':=by
 obtain ⟨r,h1,h2⟩:=h.get hi;have hg:t.getD i []=r:=by rw [List.getD_eq_getElem?_getD,h1];rfl
 unfold Mt.put;rw [hg];by_cases TM:i=i'
 ·subst TM;rw [Am (List.getElem?_set_self (by rw [h.len];exact hi))];by_cases Yu:j=j'
  ·subst Yu;rw [if_pos ⟨rfl,rfl⟩,List.getElem?_set_self (by omega)];rfl
  ·rw [if_neg (fun z=>Yu z.2),List.getElem?_set_ne Yu,Am h1]
 ·rw [if_neg (fun z=>TM z.1)];have e:(t.set i (r.set j (minW (at_ t i j) w)))[i']?=t[i']?:=List.getElem?_set_ne TM;have e':(t.set i (r.set j (minW (at_ t i j) w))).getD i' []=t.getD i' []:=by rw [List.getD_eq_getElem?_getD,e, ←List.getD_eq_getElem?_getD]
  show ((t.set i (r.set j (minW (at_ t i j) w))).getD i' []).getD j' none=_;rw [e'];rfl
abbrev Up:=Nat×Nat×W
def dC (t:Table) (us:List Up):Table:=us.foldl (fun t u=>put t u.1 u.2.1 u.2.2) t
theorem OS (t:Table):dC t []=t:=rfl
theorem iB (t:Table) (us vs:List Up):dC t (us++vs)=dC (dC t us) vs:=List.foldl_append
def FZ (m k:Nat) (us:List Up):Prop:=∀u∈us,u.1<m∧u.2.1<k
theorem Rc.dC {m k:Nat}:∀{us:List Up} {t:Table},Rc m k t→FZ m k us→Rc m k (Mt.dC t us)
 |[],_,h,_=>h
 |u::us,t,h,hu=>by
  show Rc m k (Mt.dC (Mt.put t u.1 u.2.1 u.2.2) us);exact Rc.dC (h.put (hu u List.mem_cons_self).1 _) fun v hv=>hu v (List.mem_cons_of_mem _ hv)
def hit (i j:Nat) (u:Up):W:=if u.1=i∧u.2.1=j then u.2.2 else none
theorem Bo {m k:Nat} {i j:Nat} (hi:i<m) (hj:j<k):∀{us:List Up} {t:Table},Rc m k t→FZ m k us →
  at_ (dC t us) i j=minW (at_ t i j) (least (us.map (hit i j)))
 |[],t,_,_=>by rw [OS,List.map_nil,iU,eI]
 |u::us,t,h,hu=>by
  have h0:=hu u List.mem_cons_self;show at_ (Mt.dC (Mt.put t u.1 u.2.1 u.2.2) us) i j=_;rw [Bo hi hj (h.put h0.1 _) fun v hv=>hu v (List.mem_cons_of_mem _ hv),Nc h h0.1 h0.2 _ hi hj,List.map_cons,b5];unfold hit;by_cases e:u.1=i∧u.2.1=j
  ·rw [if_pos e,if_pos e, ←kO,e.1,e.2]
  ·rw [if_neg e,if_neg e,fk]
theorem pY {m k:Nat} {us:List Up} {t:Table} (h:Rc m k t) (hu:FZ m k us) :
  dC t us=Cw m k fun i j=>minW (at_ t i j) (least (us.map (hit i j))) :=
 (h.dC hu).Lw fun _ _ hi hj=>Bo hi hj h hu
theorem O0 {m k:Nat} {t:Table} (h:Rc m k t) {i j:Nat} (hi:i<m) (hj:j<k):put t i j none=t :=
 (h.put hi none).ext h fun i' j' o4 MI=>by
  rw [Nc h hi hj none o4 MI,eI];split
  ·rename_i e;rw [e.1,e.2]
  ·rfl
def j7 (ahead:W) (row behind:List W):List W:=List.zipWith (fun b r=>minW b (addW ahead r)) row behind
def hZ (t:Table) (m:Nat):Table:=t.map fun row=>j7 (row.getD m none) row (t.getD m [])
theorem Aa {k:Nat} {t:Table} (h:Sq k t) {m:Nat} (hm:m<k):hZ t m=through k t m:=by
 obtain ⟨b,hb,ZV⟩:=h.get hm;have YI:t.getD m []=b:=by rw [List.getD_eq_getElem?_getD,hb];rfl
 have sq:Sq k (hZ t m):=by
  refine ⟨by rw [hZ,List.length_map];exact h.len,fun i r e=>?_⟩;unfold hZ at e;rw [List.getElem?_map] at e
  cases q:t[i]? with
  |none=>rw [q] at e;cases e
  |some r0 =>
   rw [q] at e
   cases e;have:=h.row i r0 q;rw [YI];unfold j7;rw [List.length_zipWith];omega
 refine sq.Lw fun i j hi hj=>?_;obtain ⟨r,hr,hrl⟩:=h.get hi;have e1:(hZ t m)[i]?=some (j7 (r.getD m none) r b):=by
  unfold hZ;rw [List.getElem?_map,hr,YI];rfl
 rw [Am e1];unfold j7;rw [List.getElem?_zipWith];have ej:r[j]?=some (at_ t i j):=by
  obtain ⟨r',e2,e3⟩:=h.cell hi hj;rw [hr] at e2;cases e2;exact e3
 have em:r[m]?=some (at_ t i m):=by
  obtain ⟨r',e2,e3⟩:=h.cell hi hm;rw [hr] at e2;cases e2;exact e3
 have eb:b[j]?=some (at_ t m j):=by
  obtain ⟨r',e2,e3⟩:=h.cell hm hj;rw [hb] at e2;cases e2;exact e3
 rw [ej,eb,List.getD_eq_getElem?_getD,em];rfl
theorem JS (k:Nat) (t:Table) (m:Nat):Sq k (through k t m):=IQ k _
theorem HQ {k:Nat} {t:Table} (h:Sq k t) {m:Nat} (hm:m<k):Sq k (Mt.hZ t m):=by rw [Aa h hm];exact JS k t m
def nE (t:Table) (m:Nat):Table:=(List.range m).foldl Mt.hZ t
theorem uS (t:Table) (m:Nat):nE t (m+1)=Mt.hZ (nE t m) m:=by
 unfold nE;rw [List.range_succ,List.foldl_append];rfl
theorem oK {k:Nat} {t:Table} (h:Sq k t):∀{m:Nat},m≤k→Sq k (nE t m)∧nE t m=(List.range m).foldl (through k) t
 |0,_=>⟨h,rfl⟩
 |m+1,hm=>by
  obtain ⟨h1,h2⟩:=oK h (m:=m) (by omega);rw [uS];refine ⟨HQ h1 (by omega),?_⟩;rw [Aa h1 (by omega),List.range_succ,List.foldl_append,h2];rfl
theorem yD {k:Nat} {t:Table} (h:Sq k t):nE t k=closed k t:=(oK h (Nat.le_refl k)).2
theorem mU {k:Nat} {t:Table} (h:Sq k t):Sq k (Vblaai.closed k t):=by
 rw [←yD h];exact (oK h (Nat.le_refl k)).1
def zy (k:Nat) (t:Table):Prop:=∀i,i<k→(at_ t i i).isSome=true
theorem zF {a b:W} (h:a.isSome=true):(minW a b).isSome=true:=by
 cases a with
 |none=>cases h
 |some x=>cases b<;>rfl
theorem Fx {k:Nat} {t:Table} {m:Nat} (h:zy k t):zy k (through k t m):=fun i hi=>by
 unfold through;rw [dD hi hi];exact zF (h i hi)
theorem tN {k:Nat} {t:Table} (h:zy k t):zy k (Vblaai.closed k t):=by
 unfold Vblaai.closed;have:∀(l:List Nat) (t:Table),zy k t→zy k (l.foldl (through k) t):=by
  intro l
  induction l with
  |nil=>intro t h;exact h
  |cons m l ih=>intro t h;exact ih _ (Fx h)
 exact this _ t h
theorem yQ {k:Nat} {t:Table} {us:List Up} (hs:Sq k t) (h:zy k t) (hu:FZ k k us):zy k (dC t us):=fun i hi=>by
 rw [Bo hi hi hs hu];exact zF (h i hi)
end Mt
end
section
set_option autoImplicit false
namespace Mt
open Vblaai
structure cH (n:Net):Prop where
 pos:1≤size n
 lim:∀x∈n.limits,x.a<size n∧x.b<size n∧x.a≠x.b
 nat:∀x∈n.natures,x.a<size n∧x.c<size n∧x.a≠x.c
 own:∀(i j:Nat) (x y:Nature),n.natures[i]?=some x→n.natures[j]?=some y→x.c=y.c→i=j
def bare (k:Nat):Table:=Cw k k fun i j=>if j=0∨j=i then some 0 else none
def jc (x:Limit):List Up:=[(x.a,x.b,x.most.map fun (q:Nat)=>(q:Int)),(x.b,x.a,x.least.map fun (q:Nat)=> -(q:Int))]
def qI (x:Nature):List Up:=[(x.a,x.c,some (x.hi:Int)),(x.c,x.a,some (-(x.lo:Int)))]
def wZ (n:Net):List Up:=n.limits.flatMap jc++n.natures.flatMap qI
theorem lH {i j:Nat} {u:Up} (h:¬(u.1=i∧u.2.1=j)):hit i j u=none:=if_neg h
theorem ui {i j:Nat} {u:Up} (h:u.1=i∧u.2.1=j):hit i j u=u.2.2:=if_pos h
theorem Pe {x:Limit} (h:x.a≠x.b) (i j:Nat):least ((jc x).map (hit i j)) =
  if x.a=i∧x.b=j then x.most.map fun (q:Nat)=>(q:Int) else if x.b=i∧x.a=j then x.least.map fun (q:Nat)=> -(q:Int) else none:=by
 unfold jc;rw [List.map_cons,List.map_cons,List.map_nil,b5,b5,iU,eI];by_cases e:x.a=i∧x.b=j
 ·rw [ui (u:=(x.a,x.b,_)) e,lH (u:=(x.b,x.a,_)) (fun z=>h (by have:=e.1;have:=z.1;have:=e.2;have:=z.2;simp only at *; omega)),if_pos e,eI]
 ·rw [lH (u:=(x.a,x.b,_)) e,fk,if_neg e];rfl
theorem Qc {x:Nature} (h:x.a≠x.c) (i j:Nat):least ((qI x).map (hit i j)) =
  if x.a=i∧x.c=j then some (x.hi:Int) else if x.c=i∧x.a=j then some (-(x.lo:Int)) else none:=by
 unfold qI;rw [List.map_cons,List.map_cons,List.map_nil,b5,b5,iU,eI];by_cases e:x.a=i∧x.c=j
 ·rw [ui (u:=(x.a,x.c,_)) e,lH (u:=(x.c,x.a,_)) (fun z=>h (by have:=e.1;have:=z.1;have:=e.2;have:=z.2;simp only at *; omega)),if_pos e,eI]
 ·rw [lH (u:=(x.a,x.c,_)) e,fk,if_neg e];rfl
theorem i5 {α β γ:Type} (f:α→List β) (g:β→γ) (l:List α):(l.flatMap f).map g=l.flatMap fun x=>(f x).map g:=List.map_flatMap
theorem Kp {n:Net} (h:cH n):FZ (size n) (size n) (wZ n):=by
 intro u hu;unfold wZ at hu;rcases List.mem_append.mp hu with hu|hu
 ·obtain ⟨x,hx,hu⟩:=List.mem_flatMap.mp hu;have:=h.lim x hx;unfold jc at hu;simp only [List.mem_cons,List.not_mem_nil,or_false] at hu;rcases hu with rfl|rfl
  ·exact ⟨this.1,this.2.1⟩
  ·exact ⟨this.2.1,this.1⟩
 ·obtain ⟨x,hx,hu⟩:=List.mem_flatMap.mp hu;have:=h.nat x hx;unfold qI at hu;simp only [List.mem_cons,List.not_mem_nil,or_false] at hu;rcases hu with rfl|rfl
  ·exact ⟨this.1,this.2.1⟩
  ·exact ⟨this.2.1,this.1⟩
theorem Ql {n:Net} (h:cH n):dC (bare (size n)) (wZ n)=base n:=by
 rw [pY (show Sq (size n) (bare (size n)) from gm _ _ _) (Kp h)]
 unfold base;rw [←qv];refine (gm _ _ _).ext (gm _ _ _) fun i j hi hj=>?_;rw [i0 hi hj,i0 hi hj];unfold bare;rw [i0 hi hj];unfold told wZ;rw [List.map_append,j5,i5,i5,f7,f7]
 congr 1
 ·by_cases e:j=0∨j=i
  ·rw [if_pos e];split
   ·rfl
   ·rename_i q;rw [if_pos (e.resolve_right fun z=>q z.symm)]
  ·rw [if_neg e,if_neg (fun z=>e (.inr z.symm)),if_neg (fun z=>e (.inl z))]
 ·congr 1
  ·congr 1
   exact List.map_congr_left fun x hx=>Pe (h.lim x hx).2.2 i j
  ·congr 1
   exact List.map_congr_left fun x hx=>Qc (h.nat x hx).2.2 i j
theorem EJ {n:Net} (h:cH n):zy (size n) (base n):=fun i hi=>by
 unfold base;rw [dD hi hi];unfold told;rw [if_pos rfl];exact zF rfl
theorem Be (n:Net):Sq (size n) (base n):=IQ _ _
structure yN (n:Net) (f:Form):Prop where
 ord:Sq (size n) f.ord
 diag:zy (size n) f.ord
 wait:Rc n.natures.length (size n) f.wait
theorem LP (f:Form) (k i:Nat):waitAt f k i=at_ f.wait k i:=rfl
theorem Ae {α:Type} (l:List α) (k:Nat) (g:α×Nat→Nat→W):Rc l.length k (l.zipIdx.map fun x=>(List.range k).map (g x)):=by
 refine ⟨by simp,fun i r e=>?_⟩;rw [List.getElem?_map] at e
 cases q:l.zipIdx[i]? with
 |none=>rw [q] at e;cases e
 |some y=>rw [q] at e;cases e;simp
theorem zipIdx_get {α:Type} {l:List α} {i:Nat} {x:α} (h:l[i]?=some x):l.zipIdx[i]?=some (x,i):=by
 rw [List.getElem?_zipIdx,h];simp
theorem zH {α:Type} {l:List α} {k i j:Nat} {x:α} {g:α×Nat→Nat→W} (h:l[i]?=some x) (hj:j<k):at_ (l.zipIdx.map fun x=>(List.range k).map (g x)) i j=g (x,i) j:=by
 have e:(l.zipIdx.map fun x=>(List.range k).map (g x))[i]?=some ((List.range k).map (g (x,i))):=by
  rw [List.getElem?_map,zipIdx_get h];rfl
 rw [Am e,List.getElem?_map,List.getElem?_range hj];rfl
theorem pj {n:Net} (h:cH n):yN n (first n):=by
 refine ⟨Be n,EJ h,?_⟩;refine ⟨by simp [first],fun i r e=>?_⟩
 have e:(n.natures.map fun x=>(List.range (size n)).map fun i=>if i=x.c then some (-(x.hi:Int)) else none)[i]?=some r:=e
 rw [List.getElem?_map] at e
 cases q:n.natures[i]? with
 |none=>rw [q] at e;cases e
 |some y=>rw [q] at e;cases e;simp
def JB (n:Net) (f:Form):List Up:=n.natures.zipIdx.flatMap fun x=>(f.wait.getD x.2 []).zipIdx.map fun w=>(w.2,x.1.a,w.1)
theorem mem_zipIdx' {α:Type} {l:List α} {p:α×Nat} (h:p∈l.zipIdx):l[p.2]?=some p.1:=by
 have:=List.mem_zipIdx_iff_getElem?.mp h;exact this
theorem wR (i:Nat):∀(l:List W) (s:Nat),least ((l.zipIdx s).map fun w=>if w.2=i then w.1 else none)=if s≤i then (l[i - s]?).getD none else none
 |[],s=>by simp [iU]
 |w::l,s=>by
  rw [List.zipIdx_cons,List.map_cons,b5,wR i l (s+1)];by_cases h1:s=i
  ·subst h1;rw [if_pos rfl,if_neg (by omega),if_pos (Nat.le_refl _),eI,Nat.sub_self];rfl
  ·rw [if_neg h1,fk];by_cases h2:s≤i
   ·rw [if_pos (by omega),if_pos h2];have:i - s=(i - (s+1))+1:=by omega
    rw [this,List.getElem?_cons_succ]
   ·rw [if_neg (by omega),if_neg h2]
theorem P0 (l:List W) (a i j:Nat):least ((l.zipIdx.map fun w=>((w.2,a,w.1):Up)).map (hit i j))=if a=j then l.getD i none else none:=by
 rw [List.map_map];by_cases h:a=j
 ·rw [if_pos h,List.getD_eq_getElem?_getD];have:=wR i l 0;rw [if_pos (Nat.zero_le _),Nat.sub_zero] at this;rw [←this]
  congr 1
  refine List.map_congr_left fun w _=>?_;show hit i j (w.2,a,w.1)=_;unfold hit;simp only [h,and_true]
 ·rw [if_neg h];refine iF _ fun x hx=>?_;obtain ⟨w,_,rfl⟩:=List.mem_map.mp hx;exact lH fun z=>h z.2
theorem um {n:Net} {f:Form} (h:cH n) (hf:yN n f):FZ (size n) (size n) (JB n f):=by
 intro u hu;obtain ⟨x,hx,hu⟩:=List.mem_flatMap.mp hu;obtain ⟨w,hw,rfl⟩:=List.mem_map.mp hu;have e1:=mem_zipIdx' hx;have e2:=mem_zipIdx' hw;have h1:=(h.nat x.1 (List.mem_of_getElem? e1)).1;refine ⟨?_,h1⟩;obtain ⟨r,h2,h3⟩:=hf.wait.get (i:=x.2) (List.getElem?_eq_some_iff.mp e1).1;have e3:f.wait.getD x.2 []=r:=by rw [List.getD_eq_getElem?_getD,h2];rfl
 rw [e3] at e2;have:=(List.getElem?_eq_some_iff.mp e2).1;show w.2<size n;omega
theorem BP {n:Net} {f:Form} (h:cH n) (hf:yN n f):dC f.ord (JB n f)=longest n f:=by
 rw [pY hf.ord (um h hf)];unfold longest;rw [←qv];refine (gm _ _ _).ext (gm _ _ _) fun i j hi hj=>?_;rw [i0 hi hj,i0 hi hj]
 congr 1
 unfold JB;rw [i5,f7]
 congr 1
 refine List.map_congr_left fun x hx=>?_;rw [P0];rfl
def mW (br ws:List W):W:=least (List.zipWith addW br ws)
def FR (o:Table) (ws:List W) (a:Nat):List W:=(o.map fun br=>mW br ws).set a none
theorem Dy {α β γ:Type} (f:α→β→γ) (k:Nat) (l:List α) (m:List β) (hl:l.length=k) (hm:m.length=k) (da:α) (db:β) :
  List.zipWith f l m=(List.range k).map fun j=>f (l.getD j da) (m.getD j db):=by
 apply List.ext_getElem?;intro j;by_cases hj:j<k
 ·rw [List.getElem?_map,List.getElem?_range hj,List.getElem?_zipWith,List.getElem?_eq_getElem (by omega:j<l.length),List.getElem?_eq_getElem (by omega:j<m.length)];show some (f l[j] m[j])=some (f (l.getD j da) (m.getD j db));rw [List.getD_eq_getElem?_getD,List.getD_eq_getElem?_getD,List.getElem?_eq_getElem (by omega:j<l.length),List.getElem?_eq_getElem (by omega:j<m.length)];rfl
 ·rw [List.getElem?_eq_none (by rw [List.length_zipWith];omega),List.getElem?_eq_none (by simp;omega)]
def pC (n:Net) (f:Form):Form:=⟨closed (size n) f.ord,n.natures.zipIdx.map fun x=>FR (closed (size n) f.ord) (f.wait.getD x.2 []) x.1.a⟩
theorem JX {n:Net} {f:Form} (h:cH n) (hf:yN n f):pC n f=carried n f:=by
 unfold pC carried
 congr 1
 refine List.map_congr_left fun x hx=>?_;have e1:=mem_zipIdx' hx;have hxn:=List.getElem?_eq_some_iff.mp e1;obtain ⟨r,h2,h3⟩:=hf.wait.get (i:=x.2) hxn.1;have e3:f.wait.getD x.2 []=r:=by rw [List.getD_eq_getElem?_getD,h2];rfl
 have so:=mU hf.ord;rw [e3];unfold FR;apply List.ext_getElem?;intro i;by_cases hi:i<size n
 ·rw [List.getElem?_map,List.getElem?_range hi];by_cases ha:i=x.1.a
  ·subst ha;rw [List.getElem?_set_self (by rw [List.length_map,so.len];exact hi)];simp
  ·rw [List.getElem?_set_ne (Ne.symm ha),List.getElem?_map];obtain ⟨br,hb,ZV⟩:=so.get hi;rw [hb];simp only [Option.map_some,if_neg ha];unfold mW;rw [Dy addW (size n) br r ZV h3 none none]
   congr 2
   refine List.map_congr_left fun j hj=>?_;have hj:=List.mem_range.mp hj
   congr 1
   ·rw [List.getD_eq_getElem?_getD,so.ma hb hj];rfl
   ·unfold waitAt;rw [e3]
 ·rw [List.getElem?_eq_none (by simp [so.len];omega),List.getElem?_eq_none (by simp;omega)]
theorem Cd {n:Net} {f:Form} (h:cH n) (hf:yN n f):yN n (carried n f) :=
 ⟨mU hf.ord,tN hf.diag,Ae _ _ _⟩
def fE (w:W):Bool:=lessW w (some 0)
def JY (n:Net) (f:Form):List Up:=n.natures.flatMap fun x=>(f.ord.getD x.c []).zipIdx.map fun b=>(x.a,b.2,if b.2≠x.c∧fE b.1=true then addW b.1 (some (x.lo:Int)) else none)
def Gg (n:Net) (f:Form):List Up:=n.natures.zipIdx.flatMap fun x=>f.wait.zipIdx.map fun r=>(r.2,x.1.a,if r.2≠x.2∧fE (r.1.getD x.1.c none)=true then addW (r.1.getD x.1.c none) (some (x.1.lo:Int)) else none)
theorem EH (a b:W):addW a b=addW b a:=by
 cases a<;>cases b<;>simp [addW,Int.add_comm]
theorem nT (i:Nat) (g:W×Nat→W):∀(l:List W) (s:Nat),least ((l.zipIdx s).map fun w=>if w.2=i then g w else none)=if s≤i then (match l[i - s]? with|some w=>g (w,i)|none=>none) else none
 |[],s=>by simp [iU]
 |w::l,s=>by
  rw [List.zipIdx_cons,List.map_cons,b5,nT i g l (s+1)];by_cases h1:s=i
  ·subst h1;rw [if_pos rfl,if_neg (by omega),if_pos (Nat.le_refl _),eI,Nat.sub_self];rfl
  ·rw [if_neg h1,fk];by_cases h2:s≤i
   ·rw [if_pos (by omega),if_pos h2];have:i - s=(i - (s+1))+1:=by omega
    rw [this,List.getElem?_cons_succ]
   ·rw [if_neg (by omega),if_neg h2]
theorem tH {β:Type} (i:Nat) (g:β×Nat→W):∀(l:List β) (s:Nat),least ((l.zipIdx s).map fun w=>if w.2=i then g w else none)=if s≤i then (match l[i - s]? with|some w=>g (w,i)|none=>none) else none
 |[],s=>by simp [iU]
 |w::l,s=>by
  rw [List.zipIdx_cons,List.map_cons,b5,tH i g l (s+1)];by_cases h1:s=i
  ·subst h1;rw [if_pos rfl,if_neg (by omega),if_pos (Nat.le_refl _),eI,Nat.sub_self];rfl
  ·rw [if_neg h1,fk];by_cases h2:s≤i
   ·rw [if_pos (by omega),if_pos h2];have:i - s=(i - (s+1))+1:=by omega
    rw [this,List.getElem?_cons_succ]
   ·rw [if_neg (by omega),if_neg h2]
theorem ur {n:Net} {f:Form} (h:cH n) (hf:yN n f):FZ (size n) (size n) (JY n f):=by
 intro u hu;obtain ⟨x,hx,hu⟩:=List.mem_flatMap.mp hu;obtain ⟨w,hw,rfl⟩:=List.mem_map.mp hu;have e2:=mem_zipIdx' hw;have h1:=h.nat x hx;refine ⟨h1.1,?_⟩;obtain ⟨r,h2,h3⟩:=hf.ord.get (i:=x.c) h1.2.1;have e3:f.ord.getD x.c []=r:=by rw [List.getD_eq_getElem?_getD,h2];rfl
 rw [e3] at e2;have:=(List.getElem?_eq_some_iff.mp e2).1;show w.2<size n;omega
theorem vj {n:Net} {f:Form} (h:cH n) (hf:yN n f):FZ n.natures.length (size n) (Gg n f):=by
 intro u hu;obtain ⟨x,hx,hu⟩:=List.mem_flatMap.mp hu;obtain ⟨w,hw,rfl⟩:=List.mem_map.mp hu;have e1:=mem_zipIdx' hx;have e2:=mem_zipIdx' hw;have h1:=h.nat x.1 (List.mem_of_getElem? e1);refine ⟨?_,h1.1⟩;have:=(List.getElem?_eq_some_iff.mp e2).1;have q:=hf.wait.len;show w.2<n.natures.length;omega
def Nd (n:Net) (f:Form):Form:=⟨dC f.ord (JY n f),dC f.wait (Gg n f)⟩
theorem B7 {n:Net} {f:Form} (h:cH n) (hf:yN n f):Nd n f=early n f:=by
 unfold Nd early;have so:=hf.ord
 congr 1
 ·rw [pY hf.ord (ur h hf), ←qv];refine (gm _ _ _).ext (gm _ _ _) fun i j hi hj=>?_;rw [i0 hi hj,i0 hi hj]
  congr 1
  unfold JY;rw [i5,f7]
  congr 1
  refine List.map_congr_left fun x hx=>?_;have h1:=h.nat x hx;obtain ⟨r,h2,h3⟩:=hf.ord.get (i:=x.c) h1.2.1;have e3:f.ord.getD x.c []=r:=by rw [List.getD_eq_getElem?_getD,h2];rfl
  rw [e3,List.map_map];by_cases ha:x.a=i
  ·have:=nT j (fun b=>if b.2≠x.c∧fE b.1=true then addW b.1 (some (x.lo:Int)) else none) r 0
   rw [if_pos (Nat.zero_le _),Nat.sub_zero,so.ma h2 hj] at this;have e4:((hit i j) ∘ fun b:W×Nat=>((x.a,b.2,if b.2≠x.c∧fE b.1=true then addW b.1 (some (x.lo:Int)) else none):Up))=fun w=>if w.2=j then (if w.2≠x.c∧fE w.1=true then addW w.1 (some (x.lo:Int)) else none) else none:=by
    funext w
    show hit i j (x.a,w.2,_)=_;unfold hit;simp only [ha,true_and]
   rw [e4,this];simp only [ha,true_and];unfold fE;rw [EH];by_cases hc:x.c=j
   ·rw [if_neg (fun z=>z.1 hc.symm),if_neg (fun z=>z.1 hc)]
   ·by_cases hb:lessW (at_ f.ord x.c j) (some 0)=true
    ·rw [if_pos ⟨Ne.symm hc,hb⟩,if_pos ⟨hc,hb⟩]
    ·rw [if_neg (fun z=>hb z.2),if_neg (fun z=>hb z.2)]
  ·rw [if_neg (fun z=>ha z.1)];refine iF _ fun y hy=>?_;obtain ⟨w,_,rfl⟩:=List.mem_map.mp hy;exact lH fun z=>ha z.1
 ·rw [pY hf.wait (vj h hf)];refine (gm _ _ _).ext (Ae _ _ _) fun i j hi hj=>?_;obtain ⟨y,hy⟩:∃y,n.natures[i]?=some y:=⟨_,List.getElem?_eq_getElem hi⟩;rw [i0 hi hj,zH hy hj]
  congr 1
  unfold Gg;rw [i5,f7];have e0:n.natures.map (fun x=>if x.a=j∧x.c≠y.c∧lessW (waitAt f i x.c) (some 0)=true then addW (some (x.lo:Int)) (waitAt f i x.c) else none)
    =n.natures.zipIdx.map (fun x=>if x.1.a=j∧x.1.c≠y.c∧lessW (waitAt f i x.1.c) (some 0)=true then addW (some (x.1.lo:Int)) (waitAt f i x.1.c) else none):=by
   have:n.natures=n.natures.zipIdx.map (·.1):=by simp
   conv=>lhs;rw [this]
   rw [List.map_map];rfl
  show _=least (n.natures.map (fun x=>if x.a=j∧x.c≠y.c∧lessW (waitAt f i x.c) (some 0)=true then addW (some (x.lo:Int)) (waitAt f i x.c) else none))
  rw [e0]
  congr 1
  refine List.map_congr_left fun x hx=>?_;have e1:=mem_zipIdx' hx;rw [List.map_map];by_cases ha:x.1.a=j
  ·have:=tH i (fun r:List W×Nat=>if r.2≠x.2∧fE (r.1.getD x.1.c none)=true then addW (r.1.getD x.1.c none) (some (x.1.lo:Int)) else none) f.wait 0
   obtain ⟨r,h2,h3⟩:=hf.wait.get hi;rw [if_pos (Nat.zero_le _),Nat.sub_zero,h2] at this;have e4:((hit i j) ∘ fun r:List W×Nat=>((r.2,x.1.a,if r.2≠x.2∧fE (r.1.getD x.1.c none)=true then addW (r.1.getD x.1.c none) (some (x.1.lo:Int)) else none):Up))=fun w=>if w.2=i then (if w.2≠x.2∧fE (w.1.getD x.1.c none)=true then addW (w.1.getD x.1.c none) (some (x.1.lo:Int)) else none) else none:=by
    funext w
    show hit i j (w.2,x.1.a,_)=_;unfold hit;simp only [ha,and_true]
   rw [e4,this];have e5:r.getD x.1.c none=waitAt f i x.1.c:=by
    unfold waitAt;have:f.wait.getD i []=r:=by rw [List.getD_eq_getElem?_getD,h2];rfl
    rw [this]
   simp only [ha,true_and,e5];unfold fE;rw [EH];have UX:(i≠x.2)↔(x.1.c≠y.c):=by
    constructor
    ·intro z q;exact z (h.own _ _ _ _ hy e1 q.symm)
    ·intro z q;subst q;rw [hy] at e1;exact z (by rw [Option.some.inj e1])
   by_cases hc:i≠x.2
   ·by_cases hb:lessW (waitAt f i x.1.c) (some 0)=true
    ·rw [if_pos ⟨hc,hb⟩,if_pos ⟨UX.mp hc,hb⟩]
    ·rw [if_neg (fun z=>hb z.2),if_neg (fun z=>hb z.2)]
   ·rw [if_neg (fun z=>hc z.1),if_neg (fun z=>hc (UX.mpr z.1))]
  ·rw [if_neg (fun z=>ha z.1)];refine iF _ fun y hy=>?_;obtain ⟨w,_,rfl⟩:=List.mem_map.mp hy;exact lH fun z=>ha z.2
theorem Jb {n:Net} {f:Form} (h:cH n) (hf:yN n f):yN n (early n f):=by
 rw [←B7 h hf];exact ⟨hf.ord.dC (ur h hf),yQ hf.ord hf.diag (ur h hf),hf.wait.dC (vj h hf)⟩
def NN (n:Net) (f:Form):List Up:=n.natures.zipIdx.flatMap fun x=>(f.wait.getD x.2 []).zipIdx.map fun w=>(w.2,x.1.a,if w.2≠x.1.c∧w.2≠x.1.a then maxW w.1 (-(x.1.lo:Int)) else none)
def HH (n:Net) (f:Form):Form:=⟨dC f.ord (NN n f),f.wait⟩
theorem xR {n:Net} {f:Form} (h:cH n) (hf:yN n f):FZ (size n) (size n) (NN n f):=by
 intro u hu;obtain ⟨x,hx,hu⟩:=List.mem_flatMap.mp hu;obtain ⟨w,hw,rfl⟩:=List.mem_map.mp hu;have e1:=mem_zipIdx' hx;have e2:=mem_zipIdx' hw;have h1:=(h.nat x.1 (List.mem_of_getElem? e1)).1;refine ⟨?_,h1⟩;obtain ⟨r,h2,h3⟩:=hf.wait.get (i:=x.2) (List.getElem?_eq_some_iff.mp e1).1;have e3:f.wait.getD x.2 []=r:=by rw [List.getD_eq_getElem?_getD,h2];rfl
 rw [e3] at e2;have:=(List.getElem?_eq_some_iff.mp e2).1;show w.2<size n;omega
theorem wm {n:Net} {f:Form} (h:cH n) (hf:yN n f):HH n f=plainer n f:=by
 unfold HH plainer
 congr 1
 rw [pY hf.ord (xR h hf), ←qv];refine (gm _ _ _).ext (gm _ _ _) fun i j hi hj=>?_;rw [i0 hi hj,i0 hi hj]
 congr 1
 unfold NN;rw [i5,f7]
 congr 1
 refine List.map_congr_left fun x hx=>?_;have e1:=mem_zipIdx' hx;obtain ⟨r,h2,h3⟩:=hf.wait.get (i:=x.2) (List.getElem?_eq_some_iff.mp e1).1;have e3:f.wait.getD x.2 []=r:=by rw [List.getD_eq_getElem?_getD,h2];rfl
 rw [e3,List.map_map];by_cases ha:x.1.a=j
 ·have:=nT i (fun w=>if w.2≠x.1.c∧w.2≠x.1.a then maxW w.1 (-(x.1.lo:Int)) else none) r 0
  rw [if_pos (Nat.zero_le _),Nat.sub_zero,hf.wait.ma h2 hi] at this;have e4:((hit i j) ∘ fun w:W×Nat=>((w.2,x.1.a,if w.2≠x.1.c∧w.2≠x.1.a then maxW w.1 (-(x.1.lo:Int)) else none):Up))=fun w=>if w.2=i then (if w.2≠x.1.c∧w.2≠x.1.a then maxW w.1 (-(x.1.lo:Int)) else none) else none:=by
   funext w
   show hit i j (w.2,x.1.a,_)=_;unfold hit;simp only [ha,and_true]
  rw [e4,this];simp only [ha,true_and];rfl
 ·rw [if_neg (fun z=>ha z.1)];refine iF _ fun y hy=>?_;obtain ⟨w,_,rfl⟩:=List.mem_map.mp hy;exact lH fun z=>ha z.2
theorem JO {n:Net} {f:Form} (h:cH n) (hf:yN n f):yN n (plainer n f):=by
 rw [←wm h hf];exact ⟨hf.ord.dC (xR h hf),yQ hf.ord hf.diag (xR h hf),hf.wait⟩
theorem I0 {n:Net} {f:Form} (h:cH n) (hf:yN n f):yN n (round n f):=JO h (Jb h (Cd h hf))
theorem KH {n:Net} {f:Form} (h:cH n) (hf:yN n f):Sq (size n) (longest n f)∧zy (size n) (longest n f):=by
 rw [←BP h hf];exact ⟨hf.ord.dC (um h hf),yQ hf.ord hf.diag (um h hf)⟩
end Mt
end
section
set_option autoImplicit false
namespace Mt
open Vblaai
def fG (m:Nat):Bytes→List Bytes
 |[]=>[[]]
 |c::l=>match fG m l with
  |[]=>[[c]]
  |w::r=>if c=m then []::w::r else (c::w)::r
theorem pR (m:Nat):∀l:Bytes,∃w r,fG m l=w::r
 |[]=>⟨[],[],rfl⟩
 |c::l=>by
  obtain ⟨w,r,h⟩:=pR m l;unfold fG;rw [h];by_cases e:c=m
  ·exact ⟨[],w::r,by simp [e]⟩
  ·exact ⟨c::w,r,by simp [e]⟩
theorem Cj:∀l:Bytes,wordsOf l=fG 32 l
 |[]=>rfl
 |c::l=>by
  unfold wordsOf fG;rw [Cj l]
  cases fG 32 l<;>rfl
def cf (m:Nat) (s:List Bytes×Bytes) (c:Nat):List Bytes×Bytes:=if c=m then (s.1++[s.2],[]) else (s.1,s.2++[c])
def dz (m:Nat) (l:Bytes):List Bytes×Bytes:=l.foldl (cf m) ([],[])
theorem wD (m:Nat) (l:Bytes) (c:Nat):dz m (l++[c])=cf m (dz m l) c:=by
 unfold dz;rw [List.foldl_append];rfl
theorem sh (m:Nat):∀(l:Bytes) (ps:List Bytes) (p w:Bytes) (r:List Bytes),fG m l=w::r →
  (l.foldl (cf m) (ps,p)).1++[(l.foldl (cf m) (ps,p)).2]=ps++(p++w)::r
 |[],ps,p,w,r,h=>by
  cases h;simp
 |c::l,ps,p,w,r,h=>by
  obtain ⟨w',r',h'⟩:=pR m l;rw [List.foldl_cons];unfold fG at h;rw [h'] at h;unfold cf;by_cases e:c=m
  ·simp only [e,if_true] at h
   cases h;rw [if_pos e];have:=sh m l (ps++[p]) [] w' r' h';unfold cf at this;rw [this];simp
  ·simp only [e,if_false] at h
   cases h;rw [if_neg e];have:=sh m l ps (p++[c]) _ _ h';unfold cf at this;rw [this];simp
theorem z8 (m:Nat) (l:Bytes):(dz m l).1++[(dz m l).2]=fG m l:=by
 obtain ⟨w,r,h⟩:=pR m l;have:=sh m l [] [] w r h;unfold dz;rw [this,h];rfl
theorem wY:∀l:Bytes,fG 10 l=linesOf l∨fG 10 l=linesOf l++[[]]
 |[]=>.inr rfl
 |c::l=>by
  obtain ⟨w,r,h⟩:=pR 10 l;unfold fG linesOf;rcases wY l with e|e
  ·rw [←e,h];exact .inl rfl
  ·rw [h] at e ⊢
   cases q:linesOf l with
   |nil =>
    rw [q] at e
    cases e;by_cases hc:c=10
    ·simp [hc]
    ·simp [hc]
   |cons x y =>
    rw [q] at e
    cases e;by_cases hc:c=10
    ·simp [hc]
    ·simp [hc]
theorem nM:∀(ls:List Bytes) (n:Net) (i:Nat),takeLines n i (ls++[[]])=takeLines n i ls
 |[],n,i=>by simp [takeLines]
 |l::ls,n,i=>by
  rw [List.cons_append];unfold takeLines;split
  ·exact nM ls n (i+1)
  ·split
   ·rfl
   ·exact nM ls _ (i+1)
theorem Kt (t:Bytes):readNet t=takeLines {} 1 (fG 10 t):=by
 unfold readNet;rcases wY t with e|e
 ·rw [e]
 ·rw [e,nM]
def fe (w:Bytes):Nat:=w.foldl (fun a c=>10*a+(c - 48)) 0
def bV (w:Bytes):Bool:=(decide (1≤w.length)&&decide (w.length≤4))&&w.all isDigit&& !(decide (1<w.length)&&decide (w.head?=some 48))&&decide (fe w≤1000)
theorem zq (w:Bytes):number w=if bV w=true then some (fe w) else none:=by
 unfold number bV fe GREAT;by_cases h1:w=[]
 ·subst h1;rfl
 ·have hl:1≤w.length:=by
   cases w with
   |nil=>exact absurd rfl h1
   |cons _ _=>simp
  by_cases h2:4<w.length
  ·rw [if_pos (.inr (.inl h2)),if_neg];simp only [Bool.and_eq_true,decide_eq_true_eq,not_and];omega
  ·by_cases h3:w.all isDigit=false
   ·rw [if_pos (.inr (.inr (.inl h3))),if_neg];rw [h3];simp
   ·by_cases h4:w.head?=some 48∧1<w.length
    ·rw [if_pos (.inr (.inr (.inr h4))),if_neg];simp [h4.1,h4.2]
    ·rw [if_neg (fun z=>z.elim h1 fun z=>z.elim h2 fun z=>z.elim h3 h4)];have Uo:w.all isDigit=true:=by simpa using h3
     have h4':(!(decide (1<w.length)&&decide (w.head?=some 48)))=true:=by
      by_cases q:w.head?=some 48
      ·have:¬1<w.length:=fun z=>h4 ⟨q,z⟩;simp [this]
      ·simp [q]
     rw [Uo,h4'];simp only [hl,decide_true,(by omega:w.length≤4),Bool.and_true,Bool.true_and]
     split<;>simp_all
theorem Ob (w:Bytes):bound w=if w=[45] then some none else if bV w=true then some (some (fe w)) else none:=by
 unfold bound;rw [zq];split
 ·rfl
 ·split<;>rfl
def aX (w:Bytes):Bool:=decide (w=[45])||bV w
def dA (w:Bytes):Option Nat:=if w=[45] then none else some (fe w)
theorem Ii (w:Bytes):bound w=if aX w=true then some (dA w) else none:=by
 rw [Ob];unfold aX dA;by_cases h:w=[45]
 ·simp [h]
 ·simp [h]
def d9:Bytes:=[115,116,101,112]
def cE:Bytes:=[108,105,109,105,116]
def bU:Bytes:=[110,97,116,117,114,101]
def MN:Bytes:=[115,116,97,114,116]
theorem D9:text "step"=d9:=by decide
theorem By:text "limit"=cE:=by decide
theorem AD:text "nature"=bU:=by decide
def qh (l:List Bytes):Bool:=match l with
 |[k,w]=>decide (k=d9)&&isName w
 |_=>false
def jw (l:List Bytes) (k:Bytes):Bool:=match l with
 |[k',w,v,_,_]=>decide (k'=k)&&isName w&&isName v
 |_=>false
def lL (n:Net) (w:Bytes):Except Nat Net:=if n.names.contains w=true then .error 2 else if 12≤n.names.length then .error 4 else .ok { n with names:=n.names++[w] }
def pQ (x:Limit):Bool:=decide (x.a=x.b)||(match x.least,x.most with|some p,some q=>decide (q<p)|_,_=>false)
def jK (n:Net) (w v x y:Bytes):Except Nat Net :=
 if (n.names.contains w&&n.names.contains v)=false then .error 3
 else let l:Limit:={ a:=n.names.idxOf w,b:=n.names.idxOf v,least:=dA x,most:=dA y }
  if pQ l=true then .error 5 else if 40≤n.limits.length then .error 4 else .ok { n with limits:=n.limits++[l] }
def mX (n:Net) (x:Nature):Bool:=decide (x.a=x.c)||decide (x.c=0)||isNature n x.c||decide (x.lo=0)||decide (x.hi<x.lo)
def iD (n:Net) (w v x y:Bytes):Except Nat Net :=
 if (n.names.contains w&&n.names.contains v)=false then .error 3
 else let l:Nature:={ a:=n.names.idxOf w,c:=n.names.idxOf v,lo:=fe x,hi:=fe y }
  if mX n l=true then .error 5 else if 5≤n.natures.length then .error 4 else .ok { n with natures:=n.natures++[l] }
def gF (n:Net) (l:List Bytes):Except Nat Net:=match l with
 |[k,w]=>if decide (k=d9)&&isName w then lL n w else .error 1
 |[k,w,v,x,y] =>
  if decide (k=cE)&&isName w&&isName v&&aX x&&aX y then jK n w v x y
  else if decide (k=bU)&&isName w&&isName v&&bV x&&bV y then iD n w v x y
  else .error 1
 |_=>.error 1
theorem nH (n:Net) (w:Bytes):pointOf n w=if n.names.contains w=true then some (n.names.idxOf w) else none:=rfl
theorem Gx (n:Net):∀l:List Bytes,gF n l=takeLine n l
 |[k,w]=>by
  unfold gF takeLine;dsimp only;rw [D9];by_cases h1:k=d9
  ·rw [if_pos h1];by_cases h2:isName w=false
   ·rw [if_pos h2,if_neg (by simp [h2])]
   ·have Pa:isName w=true:=by simpa using h2
    rw [if_neg h2,if_pos (by simp [h1,Pa])];unfold lL;rw [nH];by_cases h3:n.names.contains w=true
    ·rw [if_pos h3,if_pos h3];rfl
    ·rw [if_neg h3,if_neg h3];rfl
  ·rw [if_neg h1,if_neg (by simp [h1])]
 |[k,w,v,x,y]=>by
  unfold gF takeLine;dsimp only;rw [By,AD];by_cases h0:isName w=false∨isName v=false
  ·rw [if_pos h0];have:(isName w&&isName v)=false:=by rcases h0 with h|h<;>simp [h]
   rw [if_neg (by rcases h0 with h|h<;>simp [h]),if_neg (by rcases h0 with h|h<;>simp [h])]
  ·have hw:isName w=true:=by
    by_cases q:isName w=true
    ·exact q
    ·exact absurd (.inl (by simpa using q)) h0
   have hv:isName v=true:=by
    by_cases q:isName v=true
    ·exact q
    ·exact absurd (.inr (by simpa using q)) h0
   rw [if_neg h0];by_cases h1:k=cE
   ·rw [if_pos h1,Ii,Ii];have hk:¬k=bU:=by rw [h1];decide
    by_cases hx:aX x=true
    ·by_cases hy:aX y=true
     ·rw [if_pos (by simp [h1,hw,hv,hx,hy]),if_pos hx,if_pos hy];simp only;unfold jK;rw [nH,nH];by_cases c1:n.names.contains w=true
      ·by_cases c2:n.names.contains v=true
       ·rw [if_neg (by simp only [c1,c2];decide),if_pos c1,if_pos c2];simp only;unfold pQ;simp only [Bool.or_eq_true,decide_eq_true_eq];rfl
       ·rw [if_pos (by simp only [Bool.not_eq_true] at c2;simp only [c2];simp),if_pos c1,if_neg c2]
      ·rw [if_pos (by simp only [Bool.not_eq_true] at c1;simp only [c1];simp),if_neg c1]
     ·rw [if_neg (by simp only [Bool.not_eq_true] at hy;simp [hy]),if_neg (by simp [hk]),if_neg hy]
      split<;>simp_all
    ·rw [if_neg (by simp only [Bool.not_eq_true] at hx;simp [hx]),if_neg (by simp [hk]),if_neg hx]
   ·rw [if_neg (by simp [h1]),if_neg h1];by_cases h2:k=bU
    ·rw [if_pos h2,zq,zq];by_cases hx:bV x=true
     ·by_cases hy:bV y=true
      ·rw [if_pos (by simp [h2,hw,hv,hx,hy]),if_pos hx,if_pos hy];simp only;unfold iD;rw [nH,nH];by_cases c1:n.names.contains w=true
       ·by_cases c2:n.names.contains v=true
        ·rw [if_neg (by simp only [c1,c2];decide),if_pos c1,if_pos c2];simp only;unfold mX;simp only [Bool.or_eq_true,decide_eq_true_eq,or_assoc];rfl
        ·rw [if_pos (by simp only [Bool.not_eq_true] at c2;simp only [c2];simp),if_pos c1,if_neg c2]
       ·rw [if_pos (by simp only [Bool.not_eq_true] at c1;simp only [c1];simp),if_neg c1]
      ·rw [if_neg (by simp only [Bool.not_eq_true] at hy;simp [hy]),if_neg hy]
       split<;>simp_all
     ·rw [if_neg (by simp only [Bool.not_eq_true] at hx;simp [hx]),if_neg hx]
    ·rw [if_neg (by simp [h2]),if_neg h2]
 |[]=>rfl
 |[_]=>rfl
 |[_,_,_]=>rfl
 |[_,_,_,_]=>rfl
 |_::_::_::_::_::_::_=>rfl
end Mt
end
section
set_option autoImplicit false
namespace Mt
open Vblaai
structure aP (n:Net):Prop extends cH n where
 nm:n.names.length≤12
 nl:n.limits.length≤40
 nn:n.natures.length≤5
 names:∀w∈n.names,w.length≤8
 J1:∀x∈n.limits,(∀q∈x.least,q≤1000)∧∀q∈x.most,q≤1000
 vw:∀x∈n.natures,1≤x.lo∧x.lo≤x.hi∧x.hi≤1000∧x.c≠0
theorem BR:aP {} where
 pos:=by decide
 lim:=by intro x h;cases h
 nat:=by intro x h;cases h
 own:=by intro i j x y h;cases h
 nm:=by decide
 nl:=by decide
 nn:=by decide
 names:=by decide
 J1:=by intro x h;cases h
 vw:=by intro x h;cases h
theorem JP {w:Bytes} (h:isName w=true):w.length≤8:=by
 unfold isName at h;simp only [Bool.and_eq_true,decide_eq_true_eq] at h;exact h.2.1
theorem Md {n m:Net} {w:Bytes} (h:aP n) (hw:isName w=true) (e:lL n w=.ok m):aP m:=by
 unfold lL at e;split at e
 ·cases e
 ·split at e
  ·cases e
  ·cases e;rename_i h1 h2;have hs:size { n with names:=n.names++[w] }=size n+1:=by simp [size]
   refine ⟨⟨by rw [hs];omega,fun x hx=>?_,fun x hx=>?_,h.own⟩,by simp only [List.length_append,List.length_singleton];omega,h.nl,h.nn,fun v hv=>?_,h.J1,h.vw⟩
   ·have:=h.lim x hx;rw [hs];exact ⟨by omega,by omega,this.2.2⟩
   ·have:=h.nat x hx;rw [hs];exact ⟨by omega,by omega,this.2.2⟩
   ·rcases List.mem_append.mp hv with hv|hv
    ·exact h.names v hv
    ·have:v=w:=by simpa using hv
     subst this;exact JP hw
theorem FT {n:Net} {w:Bytes} (h:n.names.contains w=true):n.names.idxOf w<size n:=by
 unfold size;exact List.idxOf_lt_length_of_mem (by simpa using h)
theorem IA {w:Bytes} (h:bV w=true):fe w≤1000:=by
 unfold bV at h;simp only [Bool.and_eq_true,decide_eq_true_eq] at h;exact h.2
theorem CJ {w:Bytes} (h:aX w=true):∀q∈dA w,q≤1000:=by
 intro q hq;unfold dA at hq;unfold aX at h;split at hq
 ·cases hq
 ·rename_i hw
  cases hq;simp only [Bool.or_eq_true,decide_eq_true_eq] at h;exact IA (h.resolve_left hw)
theorem JV {n m:Net} {w v x y:Bytes} (h:aP n) (hx:aX x=true) (hy:aX y=true) (e:jK n w v x y=.ok m):aP m:=by
 unfold jK at e;split at e
 ·cases e
 ·rename_i h0;have Qo:n.names.contains w=true∧n.names.contains v=true:=by simpa using h0
  dsimp only at e;split at e
  ·cases e
  ·split at e
   ·cases e
   ·cases e;rename_i h1 h2;unfold pQ at h1;simp only [Bool.or_eq_true,decide_eq_true_eq,not_or] at h1;have hs:size { n with limits:=n.limits++[{ a:=n.names.idxOf w,b:=n.names.idxOf v,least:=dA x,most:=dA y }] }=size n:=rfl;refine ⟨⟨h.pos,fun z hz=>?_,h.nat,h.own⟩,h.nm,by simp only [List.length_append,List.length_singleton];omega,h.nn,h.names,fun z hz=>?_,h.vw⟩
    ·rcases List.mem_append.mp hz with hz|hz
     ·exact h.lim z hz
     ·have:z={ a:=n.names.idxOf w,b:=n.names.idxOf v,least:=dA x,most:=dA y }:=by simpa using hz
      subst this;exact ⟨FT Qo.1,FT Qo.2,h1.1⟩
    ·rcases List.mem_append.mp hz with hz|hz
     ·exact h.J1 z hz
     ·have:z={ a:=n.names.idxOf w,b:=n.names.idxOf v,least:=dA x,most:=dA y }:=by simpa using hz
      subst this;exact ⟨CJ hx,CJ hy⟩
theorem qz (n:Net) (c:Nat):isNature n c=n.natures.any fun x=>x.c==c:=by
 unfold isNature natureOf;rw [←Bool.coe_iff_coe,List.find?_isSome];simp
theorem Jf {n m:Net} {w v x y:Bytes} (h:aP n) (hx:bV x=true) (hy:bV y=true) (e:iD n w v x y=.ok m):aP m:=by
 unfold iD at e;split at e
 ·cases e
 ·rename_i h0;have Qo:n.names.contains w=true∧n.names.contains v=true:=by simpa using h0
  dsimp only at e;split at e
  ·cases e
  ·split at e
   ·cases e
   ·cases e;rename_i h1 h2;unfold mX at h1;simp only [Bool.or_eq_true,decide_eq_true_eq,not_or] at h1;obtain ⟨⟨⟨⟨X4,QV⟩,O7⟩,Yw⟩,h15⟩:=h1;rw [qz] at O7;have Vr:∀z∈n.natures,z.c≠n.names.idxOf v:=by
     intro z hz q;exact O7 (List.any_eq_true.mpr ⟨z,hz,by simp [q]⟩)
    refine ⟨⟨h.pos,h.lim,fun z hz=>?_,fun i j a b ha hb hc=>?_⟩,h.nm,h.nl,by simp only [List.length_append,List.length_singleton];omega,h.names,h.J1,fun z hz=>?_⟩
    ·rcases List.mem_append.mp hz with hz|hz
     ·exact h.nat z hz
     ·have:z={ a:=n.names.idxOf w,c:=n.names.idxOf v,lo:=fe x,hi:=fe y }:=by simpa using hz
      subst this;exact ⟨FT Qo.1,FT Qo.2,X4⟩
    ·have ha:(n.natures++[{ a:=n.names.idxOf w,c:=n.names.idxOf v,lo:=fe x,hi:=fe y }])[i]?=some a:=ha;have hb:(n.natures++[{ a:=n.names.idxOf w,c:=n.names.idxOf v,lo:=fe x,hi:=fe y }])[j]?=some b:=hb;rw [List.getElem?_append] at ha hb;split at ha
     ·split at hb
      ·exact h.own i j a b ha hb hc
      ·have OD:b.c=n.names.idxOf v:=by
        rename_i q1 q2;have:j - n.natures.length=0:=by
         have:=(List.getElem?_eq_some_iff.mp hb).1;simpa using this
        rw [this] at hb
        cases hb;rfl
       exact absurd (hc.trans OD) (Vr a (List.mem_of_getElem? ha))
     ·have RR:a.c=n.names.idxOf v∧i=n.natures.length:=by
       rename_i q1;have:i - n.natures.length=0:=by
        have:=(List.getElem?_eq_some_iff.mp ha).1;simpa using this
       rw [this] at ha
       cases ha;exact ⟨rfl,by omega⟩
      split at hb
      ·exact absurd (hc.symm.trans RR.1) (Vr b (List.mem_of_getElem? hb))
      ·rename_i q1 q2;have:j - n.natures.length=0:=by
        have:=(List.getElem?_eq_some_iff.mp hb).1;simpa using this
       omega
    ·rcases List.mem_append.mp hz with hz|hz
     ·exact h.vw z hz
     ·have:z={ a:=n.names.idxOf w,c:=n.names.idxOf v,lo:=fe x,hi:=fe y }:=by simpa using hz
      subst this;exact ⟨Nat.one_le_iff_ne_zero.mpr Yw,Nat.le_of_not_lt h15,IA hy,QV⟩
theorem KY {n m:Net}:∀{l:List Bytes},aP n→gF n l=.ok m→aP m
 |[k,w],h,e=>by
  unfold gF at e;dsimp only at e;split at e
  ·rename_i q;simp only [Bool.and_eq_true,decide_eq_true_eq] at q;exact Md h q.2 e
  ·cases e
 |[k,w,v,x,y],h,e=>by
  unfold gF at e;dsimp only at e;split at e
  ·rename_i q;simp only [Bool.and_eq_true,decide_eq_true_eq] at q;exact JV h q.1.2 q.2 e
  ·split at e
   ·rename_i q;simp only [Bool.and_eq_true,decide_eq_true_eq] at q;exact Jf h q.1.2 q.2 e
   ·cases e
 |[],h,e=>by cases e
 |[_],h,e=>by cases e
 |[_,_,_],h,e=>by cases e
 |[_,_,_,_],h,e=>by cases e
 |_::_::_::_::_::_::_,h,e=>by cases e
def d7 (ws:List Bytes):Bytes:=match ws with
 |[]=>[10]
 |w::r=>w++r.flatMap (fun v=>32::v)++[10]
theorem ET:∀(w:Bytes) (r:List Bytes),spaced (w::r)=w++r.flatMap (fun v=>32::v)
 |w,[]=>by simp [spaced]
 |w,v::r=>by
  have ih:=ET v r;show w++(32::spaced (v::r))=_;rw [ih,List.flatMap_cons];simp
theorem Mq (w:Bytes) (r:List Bytes):spaced (w::r)++[10]=d7 (w::r):=by
 rw [ET];rfl
def iY (n:Net):Bytes:=(n.names.drop 1).flatMap (fun w=>d7 [d9,w]) ++
 n.limits.flatMap (fun x=>d7 [cE,nameAt n x.a,nameAt n x.b,boundText x.least,boundText x.most]) ++
 n.natures.flatMap (fun x=>d7 [bU,nameAt n x.a,nameAt n x.c,boundText (some x.lo),boundText (some x.hi)])
theorem zS (n:Net):printNet n=iY n:=by
 unfold printNet iY;rw [List.flatMap_append,List.flatMap_append,List.flatMap_map,List.flatMap_map,List.flatMap_map,D9,By,AD, ←List.append_assoc];simp only [Mq];rfl
end Mt
end
section
set_option autoImplicit false
namespace Mt
theorem ND (c:List (List Int)):PyVblaai.whole c=c:=by
 rcases c with _|⟨a,_|⟨b,_|⟨d,c⟩⟩⟩;rfl
 all_goals (rcases a with _|⟨p,_|⟨x,_|⟨y,_|⟨z,_|⟨w,a⟩⟩⟩⟩⟩;rfl)
 all_goals (rcases p with n|n;iterate 16 (rcases n with _|n;rfl))
 all_goals rfl
theorem O2 (l:List Int):PyVblaai.calls l=PyFlat.calls PyVblaai.shape l.length l:=by
 unfold PyVblaai.calls;split
 ·rename_i h;exact h.symm
 ·rename_i cs h;rw [h]
  congr 1
  have:PyVblaai.whole=id:=funext ND;rw [this,List.map_id]
theorem OB {shape:Int→Option (Nat×Nat)} {f:Nat}:PyFlat.calls shape f []=some []:=by
 cases f<;>rfl
theorem MC {shape:Int→Option (Nat×Nat)} {f:Nat} {p:Int} {r:List Int} {cs:List (List (List Int))} (h:PyFlat.calls shape f (p::r)=some cs) :
  ∃n k,shape p=some (n,k)∧n≤r.length∧∃xs t,PyFlat.rows k (r.drop n)=some (xs,t)∧∃f' RL,PyFlat.calls shape f' t=some RL∧cs=((p::r.take n)::xs)::RL:=by
 cases f with
 |zero=>cases h
 |succ f =>
  unfold PyFlat.calls at h;split at h
  ·cases h
  ·rename_i c t hc;split at h
   ·cases h
   ·rename_i RL Q0
    cases h;have hc:(match shape p with
     |none=>none
     |some (n,k)=>if r.length<n then none else match PyFlat.rows k (r.drop n) with
      |none=>none
      |some (xs,t)=>some ((p::r.take n)::xs,t))=some (c,t):=hc
    cases hs:shape p with
    |none=>rw [hs] at hc;cases hc
    |some nk =>
     obtain ⟨n,k⟩:=nk;rw [hs] at hc;dsimp only at hc;by_cases hl:r.length<n
     ·rw [if_pos hl] at hc;cases hc
     ·rw [if_neg hl] at hc
      cases hr:PyFlat.rows k (r.drop n) with
      |none=>rw [hr] at hc;cases hc
      |some q =>
       obtain ⟨xs,t'⟩:=q;rw [hr] at hc
       cases hc;exact ⟨n,k,rfl,by omega,xs,_,hr,f,RL,Q0,rfl⟩
theorem EG {r:List Int} {xs:List (List Int)} {t:List Int} (h:PyFlat.rows 0 r=some (xs,t)):xs=[]∧t=r:=by
 cases h;exact ⟨rfl,rfl⟩
theorem Nr {r:List Int} {xs:List (List Int)} {t:List Int} (h:PyFlat.rows 1 r=some (xs,t)):∃(m:Nat) (r':List Int),r=(m:Int)::r'∧m≤r'.length∧xs=[r'.take m]∧t=r'.drop m:=by
 unfold PyFlat.rows at h;split at h
 ·cases h
 ·rename_i x s hx;split at h
  ·cases h
  ·rename_i xs' t' ht
   cases h;obtain ⟨e1,e2⟩:=EG ht;subst e1 e2;unfold PyFlat.row at hx;split at hx
   ·cases hx
   ·rename_i n r';split at hx
    ·rename_i hn
     cases hx;exact ⟨n.toNat,r',by rw [Int.toNat_of_nonneg hn.1],hn.2,rfl,rfl⟩
    ·cases hx
end Mt
end
section
set_option autoImplicit false
namespace Mt
open Vblaai
structure SA (n:Net) (p:Play):Prop where
 len:p.times.length=size n
 zero:(timeOf p.times 0).isSome=true
 past:∀(i s:Nat),timeOf p.times i=some s→s≤p.now
 BS:∀x∈n.natures,∀s,timeOf p.times x.a=some s→timeOf p.times x.c=none→p.now<s+x.hi
theorem jy {ts:Times} {i:Nat}:timeOf ts i=(ts[i]?).getD none:=by
 unfold timeOf;rw [List.getD_eq_getElem?_getD]
def jS (t:Nat) (s:List Nat) (ts:Times):Times:=s.foldl (fun ts p=>ts.set p (some t)) ts
theorem CY (t:Nat):∀(s:List Nat) (ts:Times),(jS t s ts).length=ts.length
 |[],ts=>rfl
 |p::s,ts=>by
  show (jS t s (ts.set p (some t))).length=_;rw [CY t s,List.length_set]
theorem qa (t:Nat) (i:Nat):∀(s:List Nat) (ts:Times),(jS t s ts)[i]?=if i∈s∧i<ts.length then some (some t) else ts[i]?
 |[],ts=>by simp [jS]
 |p::s,ts=>by
  show (jS t s (ts.set p (some t)))[i]?=_;rw [qa t i s,List.length_set];by_cases h1:i∈s∧i<ts.length
  ·rw [if_pos h1,if_pos ⟨List.mem_cons_of_mem _ h1.1,h1.2⟩]
  ·rw [if_neg h1];by_cases h2:p=i
   ·subst h2;by_cases h3:p<ts.length
    ·rw [List.getElem?_set_self h3,if_pos ⟨List.mem_cons_self,h3⟩]
    ·rw [if_neg (fun z=>h3 z.2),List.getElem?_eq_none (by rw [List.length_set];omega),List.getElem?_eq_none (by omega)]
   ·rw [List.getElem?_set_ne h2,if_neg];intro z;rcases List.mem_cons.mp z.1 with e|e
    ·exact h2 e.symm
    ·exact h1 ⟨e,z.2⟩
theorem qd (t:Nat) (s:List Nat) (ts:Times) (i:Nat):(doneAt t s ts)[i]?=(ts[i]?).map fun x=>if x.isNone=true∧s.contains i=true then some t else x:=by
 unfold doneAt;rw [List.getElem?_map,List.getElem?_zipIdx]
 cases ts[i]? with
 |none=>rfl
 |some x=>simp
theorem f9 (t:Nat) (s:List Nat) (ts:Times):(doneAt t s ts).length=ts.length:=by
 unfold doneAt;rw [List.length_map,List.length_zipIdx]
theorem zm {t:Nat} {s:List Nat} {ts:Times} (h:∀p∈s,timeOf ts p=none):jS t s ts=doneAt t s ts:=by
 apply List.ext_getElem?;intro i;rw [qa,qd]
 cases q:ts[i]? with
 |none =>
  rw [if_neg]
  ·rfl
  ·intro z;rw [List.getElem?_eq_getElem z.2] at q
   cases q
 |some x =>
  have hi:=(List.getElem?_eq_some_iff.mp q).1;by_cases hs:i∈s
  ·have:=h i hs;rw [jy,q] at this;have this:x=none:=this;subst this;rw [if_pos ⟨hs,hi⟩];simp [hs]
  ·rw [if_neg (fun z=>hs z.1)];simp [hs]
theorem jg (t:Nat) (s:List Nat) (ts:Times) (i:Nat) (hi:i<ts.length):timeOf (doneAt t s ts) i=if timeOf ts i=none∧i∈s then some t else timeOf ts i:=by
 rw [jy,qd,jy,List.getElem?_eq_getElem hi];simp only [Option.map_some,Option.getD_some]
 cases ts[i] with
 |none=>simp
 |some x=>simp
theorem nu {ts:Times} {i:Nat} (h:ts.length≤i):timeOf ts i=none:=by
 rw [jy,List.getElem?_eq_none h];rfl
theorem tK {ts:Times} {i s:Nat} (h:timeOf ts i=some s):i<ts.length:=by
 by_cases q:i<ts.length
 ·exact q
 ·rw [nu (by omega)] at h
  cases h
def Dx (ts:Times) (t:Nat) (x:Nature):Bool:=(timeOf ts x.c).isNone&&(timeOf ts x.a).any fun s=>decide (s+x.lo≤t∧t≤s+x.hi)
def sy (ts:Times) (t:Nat) (x:Nature):Bool:=(timeOf ts x.c).isNone&&(timeOf ts x.a).any fun s=>decide (t=s+x.hi)
def DL (n:Net) (ts:Times) (t:Nat):List Nat:=(n.natures.filter (Dx ts t)).map fun x=>x.c
def rJ (n:Net) (ts:Times) (t:Nat):List Nat:=(n.natures.filter (sy ts t)).map fun x=>x.c
theorem FC (n:Net) (ts:Times) (t:Nat):DL n ts t=may n ts t:=rfl
theorem C9 {n:Net} {ts:Times} {t:Nat} (h:∀x∈n.natures,∀s,timeOf ts x.a=some s→timeOf ts x.c=none→t≤s+x.hi):rJ n ts t=must n ts t:=by
 unfold rJ must
 congr 1
 refine List.filter_congr fun x hx=>?_;unfold sy
 cases q1:timeOf ts x.c with
 |some _=>rfl
 |none =>
  cases q2:timeOf ts x.a with
  |none=>rfl
  |some s =>
   have:=h x hx s q2 q1;simp only [Option.isNone_none,Option.any_some,Bool.true_and]
   congr 1
   exact propext ⟨fun h=>by omega,fun h=>by omega⟩
theorem CA {n:Net} {ts:Times} {t p:Nat} (h:p∈may n ts t):timeOf ts p=none:=by
 unfold may at h;obtain ⟨x,hx,rfl⟩:=List.mem_map.mp h;have:=(List.mem_filter.mp hx).2;simp only [Bool.and_eq_true,Option.isNone_iff_eq_none] at this;exact this.1
def j9 (n:Net):List Nat:=(List.range (size n - 1)).filterMap fun i=>if isNature n (i+1)=true then none else some (i+1)
theorem LU (k:Nat) (h:1≤k):List.range k=0::(List.range (k - 1)).map (· +1):=by
 obtain ⟨m,rfl⟩:∃m,k=m+1:=⟨k - 1,by omega⟩;rw [List.range_succ_eq_map];rfl
theorem Hw (n:Net) (ts:Times) (hp:1≤size n) (h0:(timeOf ts 0).isSome=true):(j9 n).filter (fun p=>(timeOf ts p).isNone)=ours n ts:=by
 unfold j9 ours;rw [LU (size n) hp];have e0:(!isNature n 0&&(timeOf ts 0).isNone)=false:=by
  cases q:timeOf ts 0 with
  |none=>rw [q] at h0;cases h0
  |some _=>simp
 rw [List.filter_cons,if_neg (by rw [e0];exact Bool.false_ne_true),List.filter_map];generalize List.range (size n - 1)=l
 induction l with
 |nil=>rfl
 |cons i l ih =>
  rw [List.filterMap_cons]
  cases q:isNature n (i+1) with
  |true =>
   simp only [if_true];rw [List.filter_cons,if_neg]
   ·exact ih
   ·simp [q]
  |false =>
   simp only [Bool.false_eq_true,if_false];rw [List.filter_cons,List.filter_cons]
   cases q2:(timeOf ts (i+1)).isNone with
   |true =>
    rw [if_pos rfl,if_pos (by simp [q,q2]),List.map_cons,ih]
   |false =>
    rw [if_neg Bool.false_ne_true,if_neg (by simp [q,q2]),ih]
theorem p8 {n:Net} {ts:Times} {p:Nat} (h:p∈ours n ts):timeOf ts p=none∧p<size n∧isNature n p=false:=by
 unfold ours at h;have h:=List.mem_filter.mp h;have h2:=h.2;simp only [Bool.and_eq_true,Option.isNone_iff_eq_none,Bool.not_eq_true'] at h2;exact ⟨h2.2,List.mem_range.mp h.1,h2.1⟩
def ow (f:Form) (n:Net) (ts:Times) (t:Nat) (s:List Nat) (p:Nat):Bool:=bounded f n ts t s p&&waited f n ts t p
theorem m9 (f:Form) (n:Net) (ts:Times) (t k:Nat) (s:List Nat):ready f n ts t (k+1) s=if (s.filter (ow f n ts t s)).length=s.length then s else ready f n ts t k (s.filter (ow f n ts t s)):=rfl
theorem E9 (f:Form) (n:Net) (ts:Times) (t:Nat):∀(k:Nat) (s:List Nat),∀p∈ready f n ts t k s,p∈s
 |0,s,p,h=>h
 |k+1,s,p,h=>by
  rw [m9] at h;split at h
  ·exact h
  ·exact (List.mem_filter.mp (E9 f n ts t k _ p h)).1
theorem vX (f:Form) (n:Net) (ts:Times) (t:Nat):∀(k m:Nat) (s:List Nat),s.length<k→s.length<m→ready f n ts t k s=ready f n ts t m s
 |0,_,_,h,_=>by omega
 |_,0,_,_,h=>by omega
 |k+1,m+1,s,h1,h2=>by
  rw [m9,m9];split
  ·rfl
  ·rename_i q;have:=List.length_filter_le (ow f n ts t s) s;exact vX f n ts t k m _ (by omega) (by omega)
theorem CZ (n:Net) (ts:Times):(ours n ts).length≤size n:=by
 unfold ours;have:=List.length_filter_le (fun p=> !isNature n p&&(timeOf ts p).isNone) (List.range (size n));rw [List.length_range] at this;exact this
theorem vR {f:Form} {n:Net} {ts:Times} {t p:Nat} (h:p∈steps f n ts t):timeOf ts p=none∧p<size n∧isNature n p=false:=p8 (E9 f n ts t _ _ p h)
theorem Hj {α:Type} (q:α→Bool):∀l:List α, (l.filter q).length=l.length→l.filter q=l:=fun l h=>by
 rw [List.filter_eq_self];exact List.length_filter_eq_length_iff.mp h
theorem uf (n:Net):(fresh n).length=size n:=by simp [fresh]
theorem jW (n:Net) (i:Nat):timeOf (fresh n) i=if i=0∧i<size n then some 0 else none:=by
 rw [jy];unfold fresh;rw [List.getElem?_map];by_cases h:i<size n
 ·rw [List.getElem?_range h];by_cases e:i=0
  ·simp [e,show 0<size n by omega]
  ·simp [e]
 ·rw [List.getElem?_eq_none (by simp;omega),if_neg (fun z=>h z.2)];rfl
theorem L6 {n:Net} (hn:aP n) (s:List Nat):SA n { now:=0,times:=doneAt 0 s (fresh n) }:=by
 have hp:0<size n:=hn.pos;have past:∀(i s':Nat),timeOf (doneAt 0 s (fresh n)) i=some s'→s'=0:=fun i s' h=>by
  have hi:=tK h;rw [f9] at hi;rw [jg _ _ _ _ hi] at h;split at h
  ·cases h;rfl
  ·rw [jW] at h;split at h
   ·cases h;rfl
   ·cases h
 refine ⟨by rw [f9,uf],?_,fun i s' h=>by rw [past i s' h];exact Nat.le_refl _,fun x hx s' h _=>?_⟩
 ·rw [jg _ _ _ _ (by rw [uf];exact hp)];split
  ·rfl
  ·rw [jW,if_pos ⟨rfl,hp⟩];rfl
 ·have:=hn.vw x hx;rw [past _ _ h];show 0<0+x.hi;omega
theorem Nw {n:Net} {p:Play} {c s:List Nat} (hn:aP n) (h:SA n p) (h2:∀x∈must n p.times (p.now+1),x∈c) (hs:∀q∈s,timeOf (doneAt (p.now+1) c p.times) q=none) :
  SA n { now:=p.now+1,times:=doneAt (p.now+1) s (doneAt (p.now+1) c p.times) }:=by
 have tm:∀i,i<size n→timeOf (doneAt (p.now+1) s (doneAt (p.now+1) c p.times)) i=if timeOf p.times i=none∧(i∈c∨i∈s) then some (p.now+1) else timeOf p.times i:=fun i hi=>by
  rw [jg _ _ _ _ (by rw [f9,h.len];exact hi),jg _ _ _ _ (by rw [h.len];exact hi)];by_cases q1:timeOf p.times i=none
  ·by_cases q2:i∈c
   ·simp [q1,q2]
   ·by_cases q3:i∈s
    ·simp [q1,q2,q3]
    ·simp [q1,q2,q3]
  ·simp [q1]
 refine ⟨by rw [f9,f9,h.len],?_,fun i s' e=>?_,fun x hx s' e1 e2=>?_⟩
 ·rw [tm 0 hn.pos];split
  ·rfl
  ·exact h.zero
 ·have hi:=tK e;rw [f9,f9,h.len] at hi;rw [tm i hi] at e;split at e
  ·cases e;exact Nat.le_refl _
  ·exact Nat.le_succ_of_le (h.past i s' e)
 ·have gc:=hn.nat x hx;have hq:=hn.vw x hx;rw [tm x.a gc.1] at e1;rw [tm x.c gc.2.1] at e2;split at e2
  ·cases e2
  ·rename_i hc;split at e1
   ·cases e1;show p.now+1<p.now+1+x.hi;omega
   ·have u:=h.BS x hx s' e1 e2;have hnc:¬x.c∈c:=fun z=>hc ⟨e2,.inl z⟩;by_cases q:s'+x.hi≤p.now+1
    ·exfalso;refine hnc (h2 x.c ?_);unfold must;refine List.mem_map.mpr ⟨x,List.mem_filter.mpr ⟨hx,?_⟩,rfl⟩;simp [e1,e2,q]
    ·show p.now+1<s'+x.hi;omega
end Mt
end
section
set_option autoImplicit false
namespace Mt
open Vblaai
theorem bK (x:Nat) (l s:List Nat):s∈parts (x::l)↔s∈parts l∨∃r∈parts l,s=x::r:=by
 show s∈parts l++(parts l).map (fun s=>x::s)↔_;rw [List.mem_append,List.mem_map]
 constructor
 ·rintro (h|⟨r,hr,e⟩)
  ·exact .inl h
  ·exact .inr ⟨r,hr,e.symm⟩
 ·rintro (h|⟨r,hr,e⟩)
  ·exact .inl h
  ·exact .inr ⟨r,hr,e.symm⟩
theorem E6:∀l:List Nat,[]∈parts l
 |[]=>by simp [parts]
 |x::l=>(bK x l []).mpr (.inl (E6 l))
theorem i3:∀(l s:List Nat),s∈parts l→∀x∈s,x∈l
 |[],s,h,x,hx=>by
  have:s=[]:=by simpa [parts] using h
  subst this
  cases hx
 |y::l,s,h,x,hx=>by
  rcases (bK y l s).mp h with h|⟨r,hr,rfl⟩
  ·exact List.mem_cons_of_mem _ (i3 l s h x hx)
  ·rcases List.mem_cons.mp hx with rfl|hx
   ·exact List.mem_cons_self
   ·exact List.mem_cons_of_mem _ (i3 l r hr x hx)
theorem mO (q:Nat→Bool):∀(l s:List Nat),s∈parts l→s.filter q∈parts (l.filter q)
 |[],s,h=>by
  have:s=[]:=by simpa [parts] using h
  subst this;exact E6 _
 |y::l,s,h=>by
  rcases (bK y l s).mp h with h|⟨r,hr,rfl⟩
  ·have:=mO q l s h;rw [List.filter_cons];split
   ·exact (bK y _ _).mpr (.inl this)
   ·exact this
  ·have:=mO q l r hr;rw [List.filter_cons,List.filter_cons];split
   ·exact (bK y _ _).mpr (.inr ⟨_,this,rfl⟩)
   ·exact this
theorem g8 (q:Nat→Bool):∀(l s:List Nat),s∈parts (l.filter q)→s∈parts l
 |[],s,h=>h
 |y::l,s,h=>by
  rw [List.filter_cons] at h;split at h
  ·rcases (bK y _ s).mp h with h|⟨r,hr,rfl⟩
   ·exact (bK y l s).mpr (.inl (g8 q l s h))
   ·exact (bK y l _).mpr (.inr ⟨r,g8 q l r hr,rfl⟩)
  ·exact (bK y l s).mpr (.inl (g8 q l s h))
theorem BU:∀l:List Nat,l∈parts l
 |[]=>by simp [parts]
 |x::l=>(bK x l _).mpr (.inr ⟨l,BU l,rfl⟩)
theorem qt (q:Nat→Bool) (l:List Nat):l.filter q∈parts l:=g8 q l _ (BU _)
def xH (acc:List (List Nat)) (l:List Nat):List (List Nat):=l.foldl (fun found x=>(found.map fun s=>s++[x])++found) acc
theorem xh:∀(l:List Nat) (acc:List (List Nat)) (s:List Nat),s∈xH acc l↔∃a∈acc,∃b∈parts l,s=a++b
 |[],acc,s=>by
  show s∈acc↔_
  constructor
  ·intro h;exact ⟨s,h,[],by simp [parts],by simp⟩
  ·rintro ⟨a,ha,b,hb,rfl⟩;have:b=[]:=by simpa [parts] using hb
   subst this;simpa using ha
 |x::l,acc,s=>by
  show s∈xH ((acc.map fun s=>s++[x])++acc) l↔_;rw [xh l]
  constructor
  ·rintro ⟨a,ha,b,hb,rfl⟩;rcases List.mem_append.mp ha with ha|ha
   ·obtain ⟨a',ha',rfl⟩:=List.mem_map.mp ha;exact ⟨a',ha',x::b,(bK x l _).mpr (.inr ⟨b,hb,rfl⟩),by simp⟩
   ·exact ⟨a,ha,b,(bK x l _).mpr (.inl hb),rfl⟩
  ·rintro ⟨a,ha,b,hb,rfl⟩;rcases (bK x l b).mp hb with hb|⟨r,hr,rfl⟩
   ·exact ⟨a,List.mem_append_right _ ha,b,hb,rfl⟩
   ·exact ⟨a++[x],List.mem_append_left _ (List.mem_map.mpr ⟨a,ha,rfl⟩),r,hr,by simp⟩
def cv (l:List Nat):List (List Nat):=xH [[]] l
theorem iI (l s:List Nat):s∈cv l↔s∈parts l:=by
 unfold cv;rw [xh]
 constructor
 ·rintro ⟨a,ha,b,hb,rfl⟩;have:a=[]:=by simpa using ha
  subst this;simpa using hb
 ·intro h;exact ⟨[],by simp,s,h,by simp⟩
theorem xb {t:Nat} {s s':List Nat} {ts:Times} (h:∀i,i∈s↔i∈s'):doneAt t s ts=doneAt t s' ts:=by
 apply List.ext_getElem?;intro i;rw [qd,qd];have e:s.contains i=s'.contains i:=by
  rw [←Bool.coe_iff_coe];simpa using h i
 rw [e]
structure St (n:Net) (t:Nat) (u:Times):Prop where
 len:u.length=size n
 zero:timeOf u 0=some 0
 past:∀(i s:Nat),timeOf u i=some s→s≤t
 BS:∀x∈n.natures,∀s,timeOf u x.a=some s→timeOf u x.c=none→t<s+x.hi
theorem NU {n:Net} (hn:aP n):St n 0 (fresh n):=by
 have hp:0<size n:=hn.pos;refine ⟨uf n,?_,fun i s h=>?_,fun x hx s h _=>?_⟩
 ·rw [jW,if_pos ⟨rfl,hp⟩]
 ·rw [jW] at h;split at h
  ·cases h;exact Nat.le_refl _
  ·cases h
 ·have:=hn.vw x hx;omega
theorem bS {n:Net} {t t':Nat} {u:Times} (h:St n t u) (s:List Nat) (i:Nat):timeOf (doneAt t' s u) i=if timeOf u i=none∧i∈s∧i<size n then some t' else timeOf u i:=by
 by_cases hi:i<size n
 ·rw [jg _ _ _ _ (by rw [h.len];exact hi)];by_cases a:timeOf u i=none∧i∈s
  ·rw [if_pos a,if_pos ⟨a.1,a.2,hi⟩]
  ·rw [if_neg a,if_neg (fun z=>a ⟨z.1,z.2.1⟩)]
 ·rw [nu (by rw [f9,h.len];omega),if_neg (fun z=>hi z.2.2),nu (by rw [h.len];omega)]
theorem yJ {n:Net} (hn:aP n) {t:Nat} {u:Times} (h:St n t u) (s:List Nat):St n t (doneAt t s u):=by
 refine ⟨by rw [f9,h.len],?_,fun i s' e=>?_,fun x hx s' e1 e2=>?_⟩
 ·rw [bS h,if_neg (by rw [h.zero];simp)];exact h.zero
 ·rw [bS h] at e;split at e
  ·cases e;exact Nat.le_refl _
  ·exact h.past i s' e
 ·rw [bS h] at e1 e2;have hq:=hn.vw x hx;split at e2
  ·cases e2
  ·split at e1
   ·cases e1;omega
   ·exact h.BS x hx s' e1 e2
theorem mS {n:Net} (hn:aP n) {t:Nat} {u:Times} (h:St n t u) {c:List Nat} (hm:∀x∈must n u (t+1),x∈c):St n (t+1) (doneAt (t+1) c u):=by
 refine ⟨by rw [f9,h.len],?_,fun i s' e=>?_,fun x hx s' e1 e2=>?_⟩
 ·rw [bS h,if_neg (by rw [h.zero];simp)];exact h.zero
 ·rw [bS h] at e;split at e
  ·cases e;exact Nat.le_refl _
  ·exact Nat.le_succ_of_le (h.past i s' e)
 ·rw [bS h] at e1 e2;have hq:=hn.vw x hx;have gc:=hn.nat x hx;split at e2
  ·cases e2
  ·rename_i hc;split at e1
   ·cases e1;omega
   ·have u1:=h.BS x hx s' e1 e2;by_cases q:s'+x.hi≤t+1
    ·exfalso;refine hc ⟨e2,hm x.c ?_,gc.2.1⟩;unfold must;refine List.mem_map.mpr ⟨x,List.mem_filter.mpr ⟨hx,?_⟩,rfl⟩;simp [e1,e2,q]
    ·omega
theorem Qu {n:Net} {t:Nat} {u:Times} (h:St n t u):rJ n u (t+1)=must n u (t+1):=C9 fun x hx s e1 e2=>by
 have:=h.BS x hx s e1 e2;omega
theorem Gp {n:Net} {u:Times} {t p:Nat}:p∈may n u t↔∃x∈n.natures,x.c=p∧timeOf u p=none∧∃s,timeOf u x.a=some s∧s+x.lo≤t∧t≤s+x.hi:=by
 unfold may;rw [List.mem_map]
 constructor
 ·rintro ⟨x,hx,rfl⟩;have h:=List.mem_filter.mp hx;have h2:=h.2;rw [Bool.and_eq_true,Option.isNone_iff_eq_none] at h2
  cases q:timeOf u x.a with
  |none=>rw [q] at h2;simp at h2
  |some s =>
   rw [q] at h2;simp only [Option.any_some,decide_eq_true_eq] at h2;exact ⟨x,h.1,rfl,h2.1,s,q,h2.2.1,h2.2.2⟩
 ·rintro ⟨x,hx,rfl,h1,s,h2,h3,h4⟩;exact ⟨x,List.mem_filter.mpr ⟨hx,by simp [h1,h2,h3,h4]⟩,rfl⟩
theorem IF {n:Net} {u:Times} {t p:Nat}:p∈must n u t↔∃x∈n.natures,x.c=p∧timeOf u p=none∧∃s,timeOf u x.a=some s∧s+x.hi≤t:=by
 unfold must;rw [List.mem_map]
 constructor
 ·rintro ⟨x,hx,rfl⟩;have h:=List.mem_filter.mp hx;have h2:=h.2;rw [Bool.and_eq_true,Option.isNone_iff_eq_none] at h2
  cases q:timeOf u x.a with
  |none=>rw [q] at h2;simp at h2
  |some s =>
   rw [q] at h2;simp only [Option.any_some,decide_eq_true_eq] at h2;exact ⟨x,h.1,rfl,h2.1,s,q,h2.2⟩
 ·rintro ⟨x,hx,rfl,h1,s,h2,h3⟩;exact ⟨x,List.mem_filter.mpr ⟨hx,by simp [h1,h2,h3]⟩,rfl⟩
theorem ng {n:Net} (hn:aP n) {t:Nat} {u:Times} (h:St n t u) {p:Nat} (hp:p∈must n u (t+1)):p∈may n u (t+1):=by
 obtain ⟨x,hx,e,h1,s,h2,h3⟩:=IF.mp hp;subst e;have:=h.BS x hx s h2 h1;have:=hn.vw x hx;exact Gp.mpr ⟨x,hx,rfl,h1,s,h2,by omega,by omega⟩
def mv (n:Net) (f t:Nat) (u:Times):Bool:=(natureSets n u (t+1)).all fun c=>keeps n (doneAt (t+1) c u)&&wins n f (t+1) (doneAt (t+1) c u)
def nl (n:Net) (f t:Nat) (u:Times):Bool:=keeps n u&&(allDone n u||(match f with
 |0=>false
 |f+1=>mv n f t u))
theorem oM (n:Net) (f t:Nat) (ts:Times):wins n f t ts=(parts (ours n ts)).any fun s=>nl n f t (doneAt t s ts):=by
 cases f with
 |zero =>
  unfold wins
  congr 1
  funext s
  unfold nl;simp only [Bool.or_false];rw [Bool.and_comm]
 |succ f=>rfl
theorem J6 {n:Net} {f t:Nat} {ts:Times} (hk:∀s,keeps n (doneAt t s ts)=true→keeps n ts=true):(keeps n ts&&wins n f t ts)=wins n f t ts:=by
 cases q:keeps n ts with
 |true=>rfl
 |false =>
  rw [Bool.false_and,oM]
  symm
  rw [List.any_eq_false];intro s _;unfold nl
  cases q2:keeps n (doneAt t s ts) with
  |true=>rw [hk s q2] at q;cases q
  |false=>simp
theorem gC {n:Net} {u:Times} {t:Nat} {c:List Nat}:c∈natureSets n u t↔c∈parts (may n u t)∧∀x∈must n u t,x∈c:=by
 unfold natureSets;rw [List.mem_filter,List.all_eq_true];simp
theorem NQ {n:Net} (hn:aP n) {t:Nat} {u:Times} (h:St n t u) (g:Times→Bool) :
  (natureSets n u (t+1)).all (fun c=>g (doneAt (t+1) c u))=(cv ((may n u (t+1)).filter fun x=> !(must n u (t+1)).contains x)).all fun s=>g (doneAt (t+1) (must n u (t+1)++s) u):=by
 rw [←Bool.coe_iff_coe,List.all_eq_true,List.all_eq_true]
 constructor
 ·intro H s hs;have hs:=(iI _ _).mp hs;have Vf:=i3 _ _ hs;have e:doneAt (t+1) (must n u (t+1)++s) u=doneAt (t+1) ((may n u (t+1)).filter fun x=>decide (x∈must n u (t+1)++s)) u:=xb fun i=>by
   rw [List.mem_filter,decide_eq_true_eq]
   constructor
   ·intro hi;refine ⟨?_,hi⟩;rcases List.mem_append.mp hi with hi|hi
    ·exact ng hn h hi
    ·exact (List.mem_filter.mp (Vf i hi)).1
   ·exact fun hi=>hi.2
  rw [e];refine H _ (gC.mpr ⟨qt _ _,fun x hx=>?_⟩);exact List.mem_filter.mpr ⟨ng hn h hx,decide_eq_true (List.mem_append_left _ hx)⟩
 ·intro H c hc;obtain ⟨hp,hm⟩:=gC.mp hc;have q:=H (c.filter fun x=> !(must n u (t+1)).contains x) ((iI _ _).mpr (mO _ _ _ hp));have e:doneAt (t+1) (must n u (t+1)++c.filter fun x=> !(must n u (t+1)).contains x) u=doneAt (t+1) c u:=xb fun i=>by
   rw [List.mem_append,List.mem_filter]
   constructor
   ·rintro (hi|hi)
    ·exact hm i hi
    ·exact hi.1
   ·intro hi;by_cases z:i∈must n u (t+1)
    ·exact .inl z
    ·exact .inr ⟨hi,by simpa using z⟩
  rw [e] at q;exact q
end Mt
end
section
set_option autoImplicit false
namespace Mt
open Vblaai
def jM (n:Net):Table:=dC (bare (size n)) (n.limits.flatMap jc)
def AI (d:Int) (w:W):Prop:=∀z,w=some z→d≤z
theorem gZ (d:Int):AI d none:=fun z h=>by cases h
theorem g0 {d z:Int}:AI d (some z)↔d≤z:=⟨fun h=>h z rfl,fun h y e=>by cases e;exact h⟩
theorem Lb {d:Int} {a b:W}:AI d (minW a b)↔AI d a∧AI d b:=by
 cases a with
 |none =>
  rw [fk];exact ⟨fun h=>⟨gZ d,h⟩,fun h=>h.2⟩
 |some x =>
  cases b with
  |none =>
   rw [eI];exact ⟨fun h=>⟨h,gZ d⟩,fun h=>h.1⟩
  |some y =>
   rw [show minW (some x) (some y)=some (min x y) from rfl,g0,g0,g0]
   omega
theorem En {d:Int}:∀{l:List W},AI d (least l)↔∀x∈l,AI d x
 |[]=>⟨fun _ x h=>(List.not_mem_nil h).elim,fun _=>gZ d⟩
 |x::l=>by
  rw [b5,Lb,En (l:=l)]
  constructor
  ·rintro ⟨h1,h2⟩ y hy;rcases List.mem_cons.mp hy with rfl|hy
   ·exact h1
   ·exact h2 y hy
  ·exact fun h=>⟨h x List.mem_cons_self,fun y hy=>h y (List.mem_cons_of_mem _ hy)⟩
theorem E8 {n:Net} (h:cH n):FZ (size n) (size n) (n.limits.flatMap jc):=fun u hu=>by
 obtain ⟨x,hx,hu⟩:=List.mem_flatMap.mp hu;have:=h.lim x hx;unfold jc at hu;rcases List.mem_cons.mp hu with rfl|hu
 ·exact ⟨this.1,this.2.1⟩
 ·rcases List.mem_cons.mp hu with rfl|hu
  ·exact ⟨this.2.1,this.1⟩
  ·cases hu
theorem PX {n:Net} (h:cH n):Sq (size n) (jM n):=(gm _ _ _).dC (E8 h)
theorem xT {n:Net} (h:cH n) {i j:Nat} (hi:i<size n) (hj:j<size n) (d:Int):AI d (at_ (jM n) i j)↔((j=0∨j=i)→d≤0)∧∀x∈n.limits,(x.a=i→x.b=j→∀q∈x.most,d≤(q:Int))∧(x.b=i→x.a=j→∀q∈x.least,d≤ -(q:Int)):=by
 unfold jM;have sqb:Rc (size n) (size n) (bare (size n)):=gm _ _ _;rw [Bo hi hj sqb (E8 h),Lb,En];unfold bare;rw [i0 hi hj]
 constructor
 ·rintro ⟨h1,h2⟩;refine ⟨fun c=>?_,fun x hx=>⟨fun e1 e2 q hq=>?_,fun e1 e2 q hq=>?_⟩⟩
  ·rw [if_pos c,g0] at h1;exact h1
  ·have:=h2 _ (List.mem_map.mpr ⟨(x.a,x.b,x.most.map fun (q:Nat)=>(q:Int)),List.mem_flatMap.mpr ⟨x,hx,by simp [jc]⟩,rfl⟩);rw [ui ⟨e1,e2⟩] at this;have GR:x.most=some q:=hq;rw [GR] at this;exact g0.mp this
  ·have:=h2 _ (List.mem_map.mpr ⟨(x.b,x.a,x.least.map fun (q:Nat)=> -(q:Int)),List.mem_flatMap.mpr ⟨x,hx,by simp [jc]⟩,rfl⟩);rw [ui ⟨e1,e2⟩] at this;have GR:x.least=some q:=hq;rw [GR] at this;exact g0.mp this
 ·rintro ⟨h1,h2⟩;refine ⟨?_,fun y hy=>?_⟩
  ·by_cases c:j=0∨j=i
   ·rw [if_pos c,g0];exact h1 c
   ·rw [if_neg c];exact gZ d
  ·obtain ⟨u,hu,rfl⟩:=List.mem_map.mp hy;obtain ⟨x,hx,hu⟩:=List.mem_flatMap.mp hu;have:=h2 x hx;unfold jc at hu;rcases List.mem_cons.mp hu with rfl|hu
   ·by_cases e:x.a=i∧x.b=j
    ·rw [ui e]
     cases q:x.most with
     |none=>exact gZ d
     |some z=>exact g0.mpr (this.1 e.1 e.2 z q)
    ·rw [lH e];exact gZ d
   ·rcases List.mem_cons.mp hu with rfl|hu
    ·by_cases e:x.b=i∧x.a=j
     ·rw [ui e]
      cases q:x.least with
      |none=>exact gZ d
      |some z=>exact g0.mpr (this.2 e.1 e.2 z q)
     ·rw [lH e];exact gZ d
    ·cases hu
theorem ku {n:Net} (h:cH n) {u:Times} (hz:timeOf u 0=some 0):keeps n u=true↔∀(i j si sj:Nat),i<size n→j<size n→timeOf u i=some si→timeOf u j=some sj→AI ((sj:Int) - si) (at_ (jM n) i j):=by
 unfold keeps;rw [List.all_eq_true]
 constructor
 ·intro H i j si sj hi hj e1 e2;rw [xT h hi hj];refine ⟨fun c=>?_,fun x hx=>⟨fun ea eb q hq=>?_,fun ea eb q hq=>?_⟩⟩
  ·rcases c with c|c
   ·subst c;rw [hz] at e2
    cases e2;omega
   ·subst c;rw [e1] at e2
    cases e2;omega
  ·have:=H x hx;unfold keepsOne at this;subst ea eb;rw [e1,e2] at this;have GR:x.most=some q:=hq;rw [GR] at this;simp only [Option.all_some,Bool.and_eq_true,decide_eq_true_eq] at this;omega
  ·have:=H x hx;unfold keepsOne at this;subst ea eb;rw [e1,e2] at this;have GR:x.least=some q:=hq;rw [GR] at this;simp only [Option.all_some,Bool.and_eq_true,decide_eq_true_eq] at this;omega
 ·intro H x hx;have gc:=h.lim x hx;unfold keepsOne
  cases e1:timeOf u x.a with
  |none=>rfl
  |some s =>
   cases e2:timeOf u x.b with
   |none=>rfl
   |some t =>
    have h1:=((xT h gc.1 gc.2.1 _).mp (H x.a x.b s t gc.1 gc.2.1 e1 e2)).2 x hx;have h2:=((xT h gc.2.1 gc.1 _).mp (H x.b x.a t s gc.2.1 gc.1 e2 e1)).2 x hx;simp only [Bool.and_eq_true]
    constructor
    ·cases q:x.least with
     |none=>rfl
     |some z =>
      have:=h2.2 rfl rfl z q;simp only [Option.all_some,decide_eq_true_eq];omega
    ·cases q:x.most with
     |none=>rfl
     |some z =>
      have:=h1.1 rfl rfl z q;simp only [Option.all_some,decide_eq_true_eq];omega
def Ck (n:Net) (u:Times) (p:Nat) (T:Int):Prop:=∀(j s:Nat),j<size n→j≠p→timeOf u j=some s→AI ((s:Int) - T) (at_ (jM n) p j)∧AI (T - (s:Int)) (at_ (jM n) j p)
def EE (n:Net) (u:Times) (p:Nat) (w:Int×Int) (j:Nat):Int×Int:=if j=p then w else match timeOf u j with
 |none=>w
 |some s=>((match at_ (jM n) p j with
  |none=>w.1
  |some b=>max w.1 ((s:Int) - b)),(match at_ (jM n) j p with
  |none=>w.2
  |some a=>min w.2 ((s:Int)+a)))
def l8 (n:Net) (h:Nat) (u:Times) (p m:Nat):Int×Int:=(List.range m).foldl (EE n u p) (0,(h:Int))
theorem zU (n:Net) (h:Nat) (u:Times) (p m:Nat):l8 n h u p (m+1)=EE n u p (l8 n h u p m) m:=by
 unfold l8;rw [List.range_succ,List.foldl_append];rfl
def kept (n:Net) (h:Nat) (u:Times) (p:Nat):Int×Int:=l8 n h u p (size n)
theorem Ea (n:Net) (h:Nat) (u:Times) (p:Nat) (T:Int):∀m,((l8 n h u p m).1≤T∧T≤(l8 n h u p m).2)↔(0≤T∧T≤(h:Int))∧∀(j s:Nat),j<m→j≠p→timeOf u j=some s→AI ((s:Int) - T) (at_ (jM n) p j)∧AI (T - (s:Int)) (at_ (jM n) j p)
 |0=>by
  show (0≤T∧T≤(h:Int))↔_;exact ⟨fun z=>⟨z,fun j s hj=>by omega⟩,fun z=>z.1⟩
 |m+1=>by
  have ih:=Ea n h u p T m;rw [zU];have split:(∀(j s:Nat),j<m+1→j≠p→timeOf u j=some s→AI ((s:Int) - T) (at_ (jM n) p j)∧AI (T - (s:Int)) (at_ (jM n) j p)) ↔
    (∀(j s:Nat),j<m→j≠p→timeOf u j=some s→AI ((s:Int) - T) (at_ (jM n) p j)∧AI (T - (s:Int)) (at_ (jM n) j p))∧(m≠p→∀s,timeOf u m=some s→AI ((s:Int) - T) (at_ (jM n) p m)∧AI (T - (s:Int)) (at_ (jM n) m p)):=by
   constructor
   ·exact fun z=>⟨fun j s hj=>z j s (by omega),fun hm s e=>z m s (by omega) hm e⟩
   ·rintro ⟨z1,z2⟩ j s hj WT e;by_cases q:j=m
    ·subst q;exact z2 WT s e
    ·exact z1 j s (by omega) WT e
  rw [split, ←and_assoc, ←ih];unfold EE;by_cases hm:m=p
  ·rw [if_pos hm];exact ⟨fun z=>⟨z,fun hn=>absurd hm hn⟩,fun z=>z.1⟩
  ·rw [if_neg hm]
   cases e:timeOf u m with
   |none =>
    simp only;exact ⟨fun z=>⟨z,fun _ s hs=>by cases hs⟩,fun z=>z.1⟩
   |some s =>
    simp only;have one:(m≠p→∀s',some s=some s'→AI ((s':Int) - T) (at_ (jM n) p m)∧AI (T - (s':Int)) (at_ (jM n) m p))↔(AI ((s:Int) - T) (at_ (jM n) p m)∧AI (T - (s:Int)) (at_ (jM n) m p)) :=
     ⟨fun z=>z hm s rfl,fun z _ s' e'=>by cases e';exact z⟩
    rw [one]
    cases e1:at_ (jM n) p m with
    |none =>
     cases e2:at_ (jM n) m p with
     |none=>exact ⟨fun z=>⟨z,gZ _,gZ _⟩,fun z=>z.1⟩
     |some a =>
      simp only [g0];have:=gZ ((s:Int) - T)
      constructor
      ·intro z;exact ⟨⟨z.1,by omega⟩,this,by omega⟩
      ·rintro ⟨⟨z1,z2⟩,_,z3⟩;exact ⟨z1,by omega⟩
    |some b =>
     cases e2:at_ (jM n) m p with
     |none =>
      simp only [g0];have:=gZ (T - (s:Int))
      constructor
      ·intro z;exact ⟨⟨by omega,z.2⟩,by omega,this⟩
      ·rintro ⟨⟨z1,z2⟩,z3,_⟩;exact ⟨by omega,z2⟩
     |some a =>
      simp only [g0]
      constructor
      ·intro z;exact ⟨⟨by omega,by omega⟩,by omega,by omega⟩
      ·rintro ⟨⟨z1,z2⟩,z3,z4⟩;exact ⟨by omega,by omega⟩
theorem qE (n:Net) (h:Nat) (u:Times) (p:Nat) (T:Int):((kept n h u p).1≤T∧T≤(kept n h u p).2)↔(0≤T∧T≤(h:Int))∧Ck n u p T:=Ea n h u p T (size n)
def BS (u:Times) (x:Nature):Bool:=(timeOf u x.a).isSome&&(timeOf u x.c).isNone
def gx (n:Net) (t:Nat) (u:Times) (p:Nat) (k:Int×Int):Int×Int:=match timeOf u p with
 |some s=>((s:Int),(s:Int))
 |none=>match n.natures.find? (fun x=>decide (x.c=p)&&BS u x) with
  |some x=>(max ((((timeOf u x.a).getD 0:Nat):Int)+x.lo) ((t:Int)+1),(((timeOf u x.a).getD 0:Nat):Int)+x.hi)
  |none=>(max k.1 ((t:Int)+1),k.2)
def good (n:Net) (h t:Nat) (u:Times) (p:Nat):Bool:=decide ((gx n t u p (kept n h u p)).1≤(gx n t u p (kept n h u p)).2∧(kept n h u p).1≤(gx n t u p (kept n h u p)).1∧(gx n t u p (kept n h u p)).2≤(kept n h u p).2)
def u9 (n:Net) (h t:Nat) (u:Times) (p:Nat):Option (Int×Int):=if (timeOf u p).isSome=true then none else some (gx n t u p (kept n h u p))
def look (n:Net) (h t:Nat) (u:Times):Option (List (Option (Int×Int))):=if (List.range (size n)).all (good n h t u)=true then some ((List.range (size n)).map (u9 n h t u)) else none
section
variable {n:Net} {h t:Nat} {u:Times}
theorem uh {ws:List (Option (Int×Int))} (e:look n h t u=some ws) {p:Nat} (hp:p<size n):good n h t u p=true:=by
 unfold look at e;split at e
 ·rename_i q;exact List.all_eq_true.mp q p (List.mem_range.mpr hp)
 ·cases e
theorem HM {ws:List (Option (Int×Int))} (e:look n h t u=some ws) {p:Nat} (hp:p<size n):ws[p]?=some (u9 n h t u p):=by
 unfold look at e;split at e
 ·cases e;rw [List.getElem?_map,List.getElem?_range hp];rfl
 ·cases e
theorem EI {p s:Nat} (e:timeOf u p=some s):good n h t u p=true↔((kept n h u p).1≤(s:Int)∧(s:Int)≤(kept n h u p).2):=by
 unfold good gx;rw [e];simp only [decide_eq_true_eq];omega
theorem Nn (hn:aP n) {x:Nature} (hx:x∈n.natures) {s:Nat} (ha:timeOf u x.a=some s) (hc:timeOf u x.c=none):n.natures.find? (fun y=>decide (y.c=x.c)&&BS u y)=some x:=by
 cases q:n.natures.find? (fun y=>decide (y.c=x.c)&&BS u y) with
 |none =>
  have:=List.find?_eq_none.mp q x hx;simp [BS,ha,hc] at this
 |some y =>
  have h1:=List.find?_some q;have h2:=List.mem_of_find?_eq_some q;simp only [Bool.and_eq_true,decide_eq_true_eq] at h1;obtain ⟨i,hi⟩:=List.getElem?_of_mem hx;obtain ⟨j,hj⟩:=List.getElem?_of_mem h2;have:=hn.own i j x y hi hj h1.1.symm;subst this;rw [hi] at hj;exact hj.symm ▸ rfl
theorem kD (hn:aP n) {x:Nature} (hx:x∈n.natures) {s:Nat} (ha:timeOf u x.a=some s) (hc:timeOf u x.c=none) (k:Int×Int):gx n t u x.c k=(max ((s:Int)+x.lo) ((t:Int)+1),(s:Int)+x.hi):=by
 unfold gx;rw [hc,Nn hn hx ha hc];show (max ((((timeOf u x.a).getD 0:Nat):Int)+x.lo) ((t:Int)+1),(((timeOf u x.a).getD 0:Nat):Int)+x.hi)=_;rw [ha];rfl
theorem qP {p:Nat} (hp:timeOf u p=none) (M8:∀x∈n.natures,x.c=p→timeOf u x.a=none) (k:Int×Int):gx n t u p k=(max k.1 ((t:Int)+1),k.2):=by
 unfold gx;rw [hp];have:n.natures.find? (fun y=>decide (y.c=p)&&BS u y)=none:=by
  rw [List.find?_eq_none];intro x hx z;simp only [Bool.and_eq_true,decide_eq_true_eq] at z;have:=M8 x hx z.1;simp [BS,this] at z
 rw [this]
theorem yX (n:Net) (u:Times) (p:Nat):(∃x∈n.natures,x.c=p∧∃s,timeOf u x.a=some s)∨∀x∈n.natures,x.c=p→timeOf u x.a=none:=by
 by_cases q:∃x∈n.natures,x.c=p∧∃s,timeOf u x.a=some s
 ·exact .inl q
 ·refine .inr fun x hx e=>?_
  cases z:timeOf u x.a with
  |none=>rfl
  |some s=>exact absurd ⟨x,hx,e,s,z⟩ q
theorem vL (hn:aP n) (st:St n t u) {ws:List (Option (Int×Int))} (e:look n h t u=some ws):keeps n u=true:=by
 rw [ku hn.tocH st.zero];intro i j si sj hi hj e1 e2;by_cases q:i=j
 ·subst q;rw [e1] at e2
  cases e2;rw [xT hn.tocH hi hi];refine ⟨fun _=>by omega,fun x hx=>⟨fun a b=>?_,fun a b=>?_⟩⟩
  ·exact absurd (a.trans b.symm) (hn.lim x hx).2.2
  ·exact absurd (b.trans a.symm) (hn.lim x hx).2.2
 ·have g:=(EI e1).mp (uh e hi);have:=((qE n h u i _).mp g).2 j sj hj (Ne.symm q) e2;exact this.1
theorem N9 (hn:aP n) (st:St n h u) {ws:List (Option (Int×Int))} (e:look n h h u=some ws):allDone n u=true:=by
 unfold allDone;rw [List.all_eq_true];intro p hp;have hp:=List.mem_range.mp hp
 cases q:timeOf u p with
 |some s=>rfl
 |none =>
  exfalso;have g:=uh e hp;unfold good at g;simp only [decide_eq_true_eq] at g;have k2:(kept n h u p).2≤(h:Int):=by
   by_cases z:(kept n h u p).1≤(kept n h u p).2
   ·exact ((qE n h u p _).mp ⟨z,Int.le_refl _⟩).1.2
   ·omega
  rcases yX n u p with ⟨x,hx,ex,s,es⟩|M8
  ·subst ex;rw [kD hn hx es q] at g;have:=st.BS x hx s es q;have hq:=hn.vw x hx;simp only at g;omega
  ·rw [qP q M8] at g;simp only at g;omega
end
end Mt
end
section
set_option autoImplicit false
namespace Mt
open Vblaai
def Ext (u v:Times):Prop:=∀i s,timeOf u i=some s→timeOf v i=some s
theorem Ext.refl (u:Times):Ext u u:=fun _ _ h=>h
theorem Ext.trans {u v w:Times} (a:Ext u v) (b:Ext v w):Ext u w:=fun i s h=>b i s (a i s h)
theorem hX {n:Net} {t t':Nat} {u:Times} (h:St n t u) (s:List Nat):Ext u (doneAt t' s u):=fun i x e=>by
 rw [bS h,if_neg (by rw [e];simp)];exact e
section
variable {n:Net}
theorem Ci (hn:aP n) {u v:Times} (hz:timeOf u 0=some 0) (e:Ext u v) (k:keeps n v=true):keeps n u=true:=by
 rw [ku hn.tocH hz];rw [ku hn.tocH (e 0 0 hz)] at k;exact fun i j si sj hi hj e1 e2=>k i j si sj hi hj (e i si e1) (e j sj e2)
theorem nA (hn:aP n) {u v:Times} (hz:timeOf u 0=some 0) (e:Ext u v) (k:keeps n v=true) {p T:Nat} (hp:p<size n) (ht:timeOf v p=some T):Ck n u p (T:Int):=by
 rw [ku hn.tocH (e 0 0 hz)] at k;exact fun j s hj _ e1=>⟨k p j T s hp hj ht (e j s e1),k j p s T hj hp (e j s e1) ht⟩
theorem EK {u v:Times} (e:Ext u v) {p:Nat} {T:Int} (h:Ck n v p T):Ck n u p T:=fun j s hj WT e1=>h j s hj WT (e j s e1)
theorem zO (hn:aP n) {x y:Nature} (hx:x∈n.natures) (hy:y∈n.natures) (e:x.c=y.c):x=y:=by
 obtain ⟨i,hi⟩:=List.getElem?_of_mem hx;obtain ⟨j,hj⟩:=List.getElem?_of_mem hy;have:=hn.own i j x y hi hj e;subst this;rw [hi] at hj;exact Option.some.inj hj
theorem AA {x:Nature} (hx:x∈n.natures):isNature n x.c=true:=by
 rw [qz];exact List.any_eq_true.mpr ⟨x,hx,by simp⟩
theorem HW (hn:aP n) {t:Nat} {u:Times} (h:St n t u):((may n u (t+1)).filter fun x=>decide (x∈must n u (t+1)))∈natureSets n u (t+1) :=
 gC.mpr ⟨qt _ _,fun x hx=>List.mem_filter.mpr ⟨ng hn h hx,decide_eq_true hx⟩⟩
theorem reach (hn:aP n):∀(f t:Nat) (u:Times),St n t u→nl n f t u=true→∃v,Ext u v∧keeps n v=true∧∀p,p<size n→timeOf u p=none→∃T,timeOf v p=some T∧t+1≤T∧T≤t+f:=by
 intro f
 induction f with
 |zero =>
  intro t u st h;unfold nl at h;simp only [Bool.or_false,Bool.and_eq_true] at h;refine ⟨u,Ext.refl u,h.1,fun p hp e=>?_⟩;have:=List.all_eq_true.mp h.2 p (List.mem_range.mpr hp);rw [e] at this
  cases this
 |succ f ih =>
  intro t u st h;unfold nl at h;simp only [Bool.and_eq_true,Bool.or_eq_true] at h;obtain ⟨hk,h⟩:=h;rcases h with h|h
  ·refine ⟨u,Ext.refl u,hk,fun p hp e=>?_⟩;have:=List.all_eq_true.mp h p (List.mem_range.mpr hp);rw [e] at this
   cases this
  ·unfold mv at h;have h1:=List.all_eq_true.mp h _ (HW hn st);generalize ec:((may n u (t+1)).filter fun x=>decide (x∈must n u (t+1)))=c at h1;have hm:∀x∈must n u (t+1),x∈c:=fun x hx=>by
    rw [←ec];exact List.mem_filter.mpr ⟨ng hn st hx,decide_eq_true hx⟩
   have Rj:=mS hn st hm;simp only [Bool.and_eq_true] at h1;have h2:=h1.2;rw [oM] at h2;obtain ⟨s,_,h3⟩:=List.any_eq_true.mp h2;have MW:=yJ hn Rj s;obtain ⟨v,e1,e2,e3⟩:=ih (t+1) _ MW h3;have x1:=hX (t':=t+1) st c;have x2:=hX (t':=t+1) Rj s;refine ⟨v,(x1.trans x2).trans e1,e2,fun p hp hu=>?_⟩
   cases q:timeOf (doneAt (t+1) s (doneAt (t+1) c u)) p with
   |none =>
    obtain ⟨T,a,b,d⟩:=e3 p hp q;exact ⟨T,a,by omega,by omega⟩
   |some T =>
    refine ⟨T,e1 p T q,?_,?_⟩
    ·rw [bS Rj] at q;split at q
     ·cases q;omega
     ·rw [bS st] at q;split at q
      ·cases q;omega
      ·rw [hu] at q;cases q
    ·have:=MW.past p T q;omega
theorem PL (hn:aP n) {x:Nature} (hx:x∈n.natures) {s T:Nat} (h1:s+x.lo≤T) (h2:T≤s+x.hi):∀(f t:Nat) (u:Times),St n t u→timeOf u x.a=some s→timeOf u x.c=none→t+1≤T→¬(T≤t+f∧Ck n u x.c (T:Int))→nl n f t u=false:=by
 intro f;have gc:=hn.nat x hx;have nd:∀u:Times,timeOf u x.c=none→allDone n u=false:=fun u e=>by
  unfold allDone;rw [List.all_eq_false];exact ⟨x.c,List.mem_range.mpr gc.2.1,by rw [e];simp⟩
 induction f with
 |zero =>
  intro t u st ea ec _ _;unfold nl;rw [nd u ec];simp
 |succ f ih =>
  intro t u st ea ec ht bad;unfold nl;rw [nd u ec,Bool.false_or];have key:mv n f t u=false:=by
   unfold mv;rw [List.all_eq_false];by_cases q:T=t+1
   ·have YE:x.c∈may n u (t+1):=Gp.mpr ⟨x,hx,rfl,ec,s,ea,by omega,by omega⟩;refine ⟨(may n u (t+1)).filter fun y=>decide (y∈must n u (t+1)∨y=x.c),gC.mpr ⟨qt _ _,fun y hy=>List.mem_filter.mpr ⟨ng hn st hy,decide_eq_true (.inl hy)⟩⟩,?_⟩;intro z;simp only [Bool.and_eq_true] at z;have hv:timeOf (doneAt (t+1) ((may n u (t+1)).filter fun y=>decide (y∈must n u (t+1)∨y=x.c)) u) x.c=some (t+1):=by
     rw [bS st,if_pos ⟨ec,List.mem_filter.mpr ⟨YE,decide_eq_true (.inr rfl)⟩,gc.2.1⟩]
    have:=nA hn st.zero (hX st _) z.1 gc.2.1 hv;rw [q] at bad;exact bad ⟨by omega,this⟩
   ·refine ⟨_,HW hn st,?_⟩;intro z;simp only [Bool.and_eq_true] at z;have hm:∀y∈must n u (t+1),y∈((may n u (t+1)).filter fun y=>decide (y∈must n u (t+1))):=fun y hy=>List.mem_filter.mpr ⟨ng hn st hy,decide_eq_true hy⟩;have Rj:=mS hn st hm;have Ub:¬x.c∈((may n u (t+1)).filter fun y=>decide (y∈must n u (t+1))):=fun hy=>by
     have:=of_decide_eq_true (List.mem_filter.mp hy).2;obtain ⟨y,hy,e,_,s',es,hs⟩:=IF.mp this;have:=zO hn hy hx e;subst this;rw [ea] at es
     cases es;omega
    generalize ((may n u (t+1)).filter fun y=>decide (y∈must n u (t+1)))=c at z Rj Ub;have w:=z.2;rw [oM] at w;obtain ⟨s1,hs1,hw⟩:=List.any_eq_true.mp w;have e1:timeOf (doneAt (t+1) c u) x.c=none:=by
     rw [bS st,if_neg (fun z=>Ub z.2.1)];exact ec
    have WA:¬x.c∈s1:=fun hy=>by
     have:=(p8 (i3 _ _ hs1 _ hy)).2.2;rw [AA hx] at this
     cases this
    have MW:=yJ hn Rj s1;have e2:timeOf (doneAt (t+1) s1 (doneAt (t+1) c u)) x.c=none:=by
     rw [bS Rj,if_neg (fun z=>WA z.2.1)];exact e1
    have ex:=(hX (t':=t+1) st c).trans (hX (t':=t+1) Rj s1);have:=ih (t+1) _ MW (ex _ _ ea) e2 (by omega) fun z=>bad ⟨by omega,EK ex z.2⟩;rw [this] at hw
    cases hw
  show (keeps n u&&mv n f t u)=false;rw [key,Bool.and_false]
theorem LW (hn:aP n) {h f t:Nat} (hf:t+f=h) {u:Times} (st:St n t u) (e:look n h t u=none):nl n f t u=false:=by
 unfold look at e;split at e
 ·cases e
 ·rename_i q;have q:(List.range (size n)).all (good n h t u)=false:=by simpa using q
  rw [List.all_eq_false] at q;obtain ⟨p,hp,hg⟩:=q;have hp:=List.mem_range.mp hp
  cases ep:timeOf u p with
  |some s =>
   rw [EI ep,qE] at hg;unfold nl
   cases hk:keeps n u with
   |false=>rfl
   |true =>
    exfalso;have:=st.past p s ep;exact hg ⟨⟨by omega,by omega⟩,nA hn st.zero (Ext.refl u) hk hp ep⟩
  |none =>
   unfold good at hg;simp only [decide_eq_true_eq] at hg;rcases yX n u p with ⟨x,hx,ex,s,es⟩|M8
   ·subst ex;rw [kD hn hx es ep] at hg;simp only at hg;have hu:=st.BS x hx s es ep;have hq:=hn.vw x hx;have two:∃T:Nat,s+x.lo≤T∧T≤s+x.hi∧t+1≤T∧¬((kept n h u x.c).1≤(T:Int)∧(T:Int)≤(kept n h u x.c).2):=by
     by_cases c1:(kept n h u x.c).1≤max ((s:Int)+x.lo) ((t:Int)+1)
     ·refine ⟨s+x.hi,by omega,Nat.le_refl _,by omega,fun z=>hg ⟨by omega,c1,?_⟩⟩;have:=z.2
      push_cast at this
      omega
     ·refine ⟨max (s+x.lo) (t+1),by omega,by omega,by omega,fun z=>c1 ?_⟩;have:=z.1;have e9:((max (s+x.lo) (t+1):Nat):Int)=max ((s:Int)+x.lo) ((t:Int)+1):=by omega
      rw [e9] at this;exact this
    obtain ⟨T,a1,a2,a3,a4⟩:=two;refine PL hn hx a1 a2 f t u st es ep a3 fun z=>a4 ((qE n h u x.c _).mpr ⟨⟨by omega,by omega⟩,z.2⟩)
   ·rw [qP ep M8] at hg;simp only at hg
    cases hl:nl n f t u with
    |false=>rfl
    |true =>
     exfalso;obtain ⟨v,e1,e2,e3⟩:=reach hn f t u st hl;obtain ⟨T,b1,b2,b3⟩:=e3 p hp ep;have:=(qE n h u p (T:Int)).mpr ⟨⟨by omega,by omega⟩,nA hn st.zero e1 e2 hp b1⟩;exact hg ⟨by omega,by omega,by omega⟩
def fits (n:Net) (h t:Nat) (ts:Times) (p:Nat):Bool:=decide ((kept n h ts p).1≤(t:Int)∧(t:Int)≤(kept n h ts p).2)
theorem MH (hn:aP n) {h f t:Nat} (hf:t+f=h) {ts:Times} (st:St n t ts):wins n f t ts=(cv ((ours n ts).filter (fits n h t ts))).any fun s=>nl n f t (doneAt t s ts):=by
 rw [oM, ←Bool.coe_iff_coe,List.any_eq_true,List.any_eq_true]
 constructor
 ·rintro ⟨s,hs,hl⟩;refine ⟨s,(iI _ _).mpr ?_,hl⟩;have hk:keeps n (doneAt t s ts)=true:=by
   unfold nl at hl;exact (Bool.and_eq_true_iff.mp hl).1
  have all:∀p∈s,fits n h t ts p=true:=fun p hp=>by
   have ho:=p8 (i3 _ _ hs p hp);have hv:timeOf (doneAt t s ts) p=some t:=by rw [bS st,if_pos ⟨ho.1,hp,ho.2.1⟩]
   exact decide_eq_true ((qE n h ts p _).mpr ⟨⟨by omega,by omega⟩,nA hn st.zero (hX st s) hk ho.2.1 hv⟩)
  have:=mO (fits n h t ts) _ _ hs;rw [List.filter_eq_self.mpr all] at this;exact this
 ·rintro ⟨s,hs,hl⟩;exact ⟨s,g8 _ _ _ ((iI _ _).mp hs),hl⟩
end
end Mt
end
section
set_option autoImplicit false
namespace Mt
open Vblaai
def So (n:Net) (u:Times) (p T:Nat):Prop:=∀x∈n.natures,x.c=p→∀s,timeOf u x.a=some s→s+x.lo≤T∧T≤s+x.hi
structure MD (n:Net) (h t0:Nat) (u v:Times):Prop where
 pat:∀i,timeOf u i=none↔timeOf v i=none
 k1:keeps n u=true
 k2:keeps n v=true
 ok:∀p,p<size n→timeOf u p=none→∀T:Nat,t0≤T→T≤h→So n u p T→(Ck n u p (T:Int)↔Ck n v p (T:Int))
 nat:∀x∈n.natures,timeOf u x.c=none→∀s,timeOf u x.a=some s→timeOf v x.a=some s
section
variable {n:Net}
theorem MD.later {h t0 t1:Nat} {u v:Times} (s:MD n h t0 u v) (e:t0≤t1):MD n h t1 u v:=⟨s.pat,s.k1,s.k2,fun p hp hu T h1 h2 hP=>s.ok p hp hu T (Nat.le_trans e h1) h2 hP,s.nat⟩
def VM (n:Net) (u:Times) (c:List Nat) (T:Nat):Prop:=∀p∈c,p<size n∧timeOf u p=none∧So n u p T
theorem D8 {t T0:Nat} {u:Times} (st:St n t u) {c:List Nat} (hc:∀p∈c,p<size n∧timeOf u p=none) {q:Nat} (T:Int) :
  Ck n (doneAt T0 c u) q T↔Ck n u q T∧∀p∈c,p≠q→AI ((T0:Int) - T) (at_ (jM n) q p)∧AI (T - (T0:Int)) (at_ (jM n) p q):=by
 constructor
 ·intro H;refine ⟨EK (hX st c) H,fun p hp hpq=>?_⟩;refine H p T0 (hc p hp).1 hpq ?_;rw [bS st,if_pos ⟨(hc p hp).2,hp,(hc p hp).1⟩]
 ·rintro ⟨h1,h2⟩ j s hj Y9 e;rw [bS st] at e;split at e
  ·rename_i z
   cases e;exact h2 j z.2.1 Y9
  ·exact h1 j s hj Y9 e
theorem BL (hn:aP n) {t T0:Nat} {u:Times} (st:St n t u) {c:List Nat} (hc:∀p∈c,p<size n∧timeOf u p=none) :
  keeps n (doneAt T0 c u)=true↔keeps n u=true∧(∀p∈c,Ck n u p (T0:Int))∧∀p∈c,∀q∈c,AI 0 (at_ (jM n) p q):=by
 have hz:timeOf (doneAt T0 c u) 0=some 0:=hX st c 0 0 st.zero;have tc:∀p∈c,timeOf (doneAt T0 c u) p=some T0:=fun p hp=>by rw [bS st,if_pos ⟨(hc p hp).2,hp,(hc p hp).1⟩]
 constructor
 ·intro k;refine ⟨Ci hn st.zero (hX st c) k,fun p hp=>nA hn st.zero (hX st c) k (hc p hp).1 (tc p hp),fun p hp q hq=>?_⟩;rw [ku hn.tocH hz] at k;have:=k p q T0 T0 (hc p hp).1 (hc q hq).1 (tc p hp) (tc q hq);rw [Int.sub_self] at this;exact this
 ·rintro ⟨k,h1,h2⟩;rw [ku hn.tocH hz];rw [ku hn.tocH st.zero] at k;intro i j si sj hi hj e1 e2;rw [bS st] at e1 e2;split at e1
  ·rename_i z1
   cases e1;split at e2
   ·rename_i z2
    cases e2;rw [Int.sub_self];exact h2 i z1.2.1 j z2.2.1
   ·by_cases q:j=i
    ·subst q;rw [z1.1] at e2
     cases e2
    ·exact (h1 i z1.2.1 j sj hj q e2).1
  ·split at e2
   ·rename_i z2
    cases e2;by_cases q:i=j
    ·subst q;rw [z2.1] at e1
     cases e1
    ·exact (h1 j z2.2.1 i si hi q e1).2
   ·exact k i j si sj hi hj e1 e2
theorem Ew {h t0:Nat} {u v:Times} (s:MD n h t0 u v) {c:List Nat} {T0:Nat} (hc:VM n u c T0):∀p∈c,p<size n∧timeOf v p=none:=fun p hp=>⟨(hc p hp).1,(s.pat p).mp (hc p hp).2.1⟩
theorem uv (hn:aP n) {h t T0:Nat} {u v:Times} (st:St n t u) (uK:St n t v) (s:MD n h T0 u v) (hT:T0≤h) {c:List Nat} (hc:VM n u c T0):keeps n (doneAt T0 c u)=keeps n (doneAt T0 c v):=by
 rw [←Bool.coe_iff_coe,BL hn st fun p hp=>⟨(hc p hp).1,(hc p hp).2.1⟩,BL hn uK (Ew s hc)]
 constructor
 ·rintro ⟨_,h1,h2⟩;exact ⟨s.k2,fun p hp=>(s.ok p (hc p hp).1 (hc p hp).2.1 T0 (Nat.le_refl _) hT (hc p hp).2.2).mp (h1 p hp),h2⟩
 ·rintro ⟨_,h1,h2⟩;exact ⟨s.k1,fun p hp=>(s.ok p (hc p hp).1 (hc p hp).2.1 T0 (Nat.le_refl _) hT (hc p hp).2.2).mpr (h1 p hp),h2⟩
theorem BC (hn:aP n) {h t T0:Nat} {u v:Times} (st:St n t u) (uK:St n t v) (s:MD n h T0 u v) (hT:T0≤h) {c:List Nat} (hc:VM n u c T0) (hk:keeps n (doneAt T0 c u)=true):MD n h T0 (doneAt T0 c u) (doneAt T0 c v):=by
 have MB:keeps n (doneAt T0 c v)=true:=by rw [←uv hn st uK s hT hc];exact hk
 have pat:∀i,timeOf (doneAt T0 c u) i=none↔timeOf (doneAt T0 c v) i=none:=fun i=>by
  rw [bS st,bS uK];have:=s.pat i;by_cases q:timeOf u i=none∧i∈c∧i<size n
  ·rw [if_pos q,if_pos ⟨this.mp q.1,q.2⟩]
  ·rw [if_neg q,if_neg (fun z=>q ⟨this.mpr z.1,z.2⟩)];exact this
 refine ⟨pat,hk,MB,fun p hp hu T h1 h2 hP=>?_,fun x hx WS s' es=>?_⟩
 ·rw [D8 st (fun p hp=>⟨(hc p hp).1,(hc p hp).2.1⟩),D8 uK (Ew s hc)];have hu0:timeOf u p=none:=by
   rw [bS st] at hu;split at hu
   ·cases hu
   ·exact hu
  have hP0:So n u p T:=fun x hx ex s' es=>hP x hx ex s' (hX st c x.a s' es);rw [s.ok p hp hu0 T h1 h2 hP0]
 ·have hc0:timeOf u x.c=none:=by
   rw [bS st] at WS;split at WS
   ·cases WS
   ·exact WS
  rw [bS st] at es;rw [bS uK];split at es
  ·rename_i z
   cases es;rw [if_pos ⟨(s.pat x.a).mp z.1,z.2⟩]
  ·have:=s.nat x hx hc0 s' es;rw [if_neg (fun z=>by rw [this] at z;cases z.1)];exact this
theorem Hz {h t0:Nat} {u v:Times} (s:MD n h t0 u v):ours n u=ours n v:=by
 unfold ours;refine List.filter_congr fun p _=>?_
 congr 1
 rw [←Bool.coe_iff_coe,Option.isNone_iff_eq_none,Option.isNone_iff_eq_none];exact s.pat p
theorem Gf {h t0 T:Nat} {u v:Times} (s:MD n h t0 u v):may n u T=may n v T∧must n u T=must n v T:=by
 have one:∀x∈n.natures,timeOf u x.c=none→timeOf u x.a=timeOf v x.a:=fun x hx e=>by
  cases q:timeOf u x.a with
  |none=>exact ((s.pat x.a).mp q).symm
  |some z=>exact (s.nat x hx e z q).symm
 constructor
 ·unfold may
  congr 1
  refine List.filter_congr fun x hx=>?_
  cases q:timeOf u x.c with
  |none=>rw [(s.pat x.c).mp q,one x hx q]
  |some z =>
   cases q2:timeOf v x.c with
   |none=>rw [(s.pat x.c).mpr q2] at q;cases q
   |some z2=>simp
 ·unfold must
  congr 1
  refine List.filter_congr fun x hx=>?_
  cases q:timeOf u x.c with
  |none=>rw [(s.pat x.c).mp q,one x hx q]
  |some z =>
   cases q2:timeOf v x.c with
   |none=>rw [(s.pat x.c).mpr q2] at q;cases q
   |some z2=>simp
theorem HJ {h t0:Nat} {u v:Times} (s:MD n h t0 u v):allDone n u=allDone n v:=by
 unfold allDone;rw [←Bool.coe_iff_coe,List.all_eq_true,List.all_eq_true];have one:∀p,(timeOf u p).isSome=true↔(timeOf v p).isSome=true:=fun p=>by
  have:=s.pat p
  cases q:timeOf u p<;>cases q2:timeOf v p<;>simp_all
 exact ⟨fun z p hp=>(one p).mp (z p hp),fun z p hp=>(one p).mpr (z p hp)⟩
theorem Jz (hn:aP n) {t:Nat} {u:Times} {c:List Nat} (hc:c∈natureSets n u t):VM n u c t:=fun p hp=>by
 obtain ⟨x,hx,e,h1,s,h2,h3,h4⟩:=Gp.mp (i3 _ _ (gC.mp hc).1 p hp);subst e;refine ⟨(hn.nat x hx).2.1,h1,fun y hy e s' es=>?_⟩;have:=zO hn hy hx e;subst this;rw [h2] at es
 cases es;exact ⟨h3,h4⟩
theorem HK {u:Times} {s:List Nat} (hs:s∈parts (ours n u)) (t:Nat):VM n u s t:=fun p hp=>by
 have:=p8 (i3 _ _ hs p hp);refine ⟨this.2.1,this.1,fun y hy e=>?_⟩;subst e;rw [AA hy] at this;exact absurd this.2.2 (by decide)
theorem NP (hn:aP n) {h f t:Nat} (hf:t+1+f=h) (ih:∀(v v':Times),St n (t+1) v→St n (t+1) v'→MD n h (t+1) v v'→wins n f (t+1) v=wins n f (t+1) v') {u u':Times} (st:St n t u) (uK:St n t u') (s:MD n h (t+1) u u'):mv n f t u=mv n f t u':=by
 unfold mv;have e:natureSets n u (t+1)=natureSets n u' (t+1):=by
  unfold natureSets;rw [(Gf s).1,(Gf s).2]
 rw [←e];have NI:∀(l:List (List Nat)) (g g':List Nat→Bool),(∀c∈l,g c=g' c)→l.all g=l.all g':=fun l g g' hg=>by
  rw [←Bool.coe_iff_coe,List.all_eq_true,List.all_eq_true];exact ⟨fun z c hc=>by rw [←hg c hc];exact z c hc,fun z c hc=>by rw [hg c hc];exact z c hc⟩
 refine NI _ _ _ fun c hc=>?_;have Jd:=Jz hn hc;have hT:t+1≤h:=by omega
 have ek:=uv hn st uK s hT Jd;rw [←ek]
 cases q:keeps n (doneAt (t+1) c u) with
 |false=>rfl
 |true =>
  simp only [Bool.true_and];have hm:=(gC.mp hc).2;have hm':∀x∈must n u' (t+1),x∈c:=by rw [←(Gf s).2];exact hm
  exact ih _ _ (mS hn st hm) (mS hn uK hm') (BC hn st uK s hT Jd q)
theorem Oq (hn:aP n) {h:Nat}:∀(f t:Nat),t+f=h→∀(v v':Times),St n t v→St n t v'→MD n h t v v'→wins n f t v=wins n f t v':=by
 intro f
 induction f with
 |zero =>
  intro t hf v v' st uK s;rw [oM,oM, ←Hz s];have NI:∀(l:List (List Nat)) (g g':List Nat→Bool),(∀c∈l,g c=g' c)→l.any g=l.any g':=fun l g g' hg=>by
   rw [←Bool.coe_iff_coe,List.any_eq_true,List.any_eq_true];exact ⟨fun z1=>(by obtain ⟨c,hc,z⟩:=z1;exact ⟨c,hc,by rw [←hg c hc];exact z⟩),fun z1=>(by obtain ⟨c,hc,z⟩:=z1;exact ⟨c,hc,by rw [hg c hc];exact z⟩)⟩
  refine NI _ _ _ fun c hc=>?_;have Jd:=HK hc t;have ek:=uv hn st uK s (by omega) Jd;unfold nl;rw [←ek]
  cases q:keeps n (doneAt t c v) with
  |false=>rfl
  |true=>rw [HJ (BC hn st uK s (by omega) Jd q)]
 |succ f ih =>
  intro t hf v v' st uK s;rw [oM,oM, ←Hz s];have NI:∀(l:List (List Nat)) (g g':List Nat→Bool),(∀c∈l,g c=g' c)→l.any g=l.any g':=fun l g g' hg=>by
   rw [←Bool.coe_iff_coe,List.any_eq_true,List.any_eq_true];exact ⟨fun z1=>(by obtain ⟨c,hc,z⟩:=z1;exact ⟨c,hc,by rw [←hg c hc];exact z⟩),fun z1=>(by obtain ⟨c,hc,z⟩:=z1;exact ⟨c,hc,by rw [hg c hc];exact z⟩)⟩
  refine NI _ _ _ fun c hc=>?_;have Jd:=HK hc t;have ek:=uv hn st uK s (by omega) Jd;unfold nl;rw [←ek]
  cases q:keeps n (doneAt t c v) with
  |false=>rfl
  |true =>
   have s2:=BC hn st uK s (by omega) Jd q;have e2:mv n f t (doneAt t c v)=mv n f t (doneAt t c v'):=NP hn (by omega) (ih (t+1) (by omega)) (yJ hn st c) (yJ hn uK c) (s2.later (Nat.le_succ t));simp only [Bool.true_and];rw [HJ s2,e2]
theorem Ol (hn:aP n) {h f t:Nat} (hf:t+1+f=h) {u u':Times} (st:St n t u) (uK:St n t u') {ws:List (Option (Int×Int))} (e:look n h t u=some ws) (e':look n h t u'=some ws):mv n f t u=mv n f t u':=by
 have ZG:∀p,p<size n→u9 n h t u p=u9 n h t u' p:=fun p hp=>by
  have a:=HM e hp;have b:=HM e' hp;rw [a] at b;exact Option.some.inj b
 have pat:∀i,timeOf u i=none↔timeOf u' i=none:=fun i=>by
  by_cases hi:i<size n
  ·have:=ZG i hi;unfold u9 at this
   cases q:timeOf u i<;>cases q2:timeOf u' i<;>simp_all
  ·rw [nu (by rw [st.len];omega),nu (by rw [uK.len];omega)]
 have V6:∀p,p<size n→timeOf u p=none→gx n t u p (kept n h u p)=gx n t u' p (kept n h u' p):=fun p hp q=>by
  have:=ZG p hp;unfold u9 at this;rw [q,(pat p).mp q] at this;simpa using this
 have nat:∀x∈n.natures,timeOf u x.c=none→∀s,timeOf u x.a=some s→timeOf u' x.a=some s:=fun x hx hc s es=>by
  have gc:=hn.nat x hx
  cases q:timeOf u' x.a with
  |none=>rw [(pat x.a).mpr q] at es;cases es
  |some s' =>
   have:=V6 x.c gc.2.1 hc;rw [kD hn hx es hc,kD hn hx q ((pat x.c).mp hc)] at this;have:=congrArg Prod.snd this;simp only at this;have:s=s':=by omega
   rw [this]
 refine NP hn hf (Oq hn f (t+1) hf) st uK ⟨pat,vL hn st e,vL hn uK e',fun p hp hu T h1 h2 hP=>?_,nat⟩;have Rv:=(pat p).mp hu;have w:=V6 p hp hu;have g:=uh e hp;have g':=uh e' hp;unfold good at g g';simp only [decide_eq_true_eq] at g g';have into:∀v,Ck n v p (T:Int)↔((kept n h v p).1≤(T:Int)∧(T:Int)≤(kept n h v p).2):=fun v=>by
  rw [qE];exact ⟨fun z=>⟨⟨by omega,by omega⟩,z⟩,fun z=>z.2⟩
 rw [into u,into u'];rcases yX n u p with ⟨x,hx,ex,s,es⟩|M8
 ·subst ex;have SO:=nat x hx hu s es;have:=hP x hx rfl s es;rw [kD hn hx es hu] at g;rw [kD hn hx SO Rv] at g';simp only at g g'
  constructor
  ·intro _;omega
  ·intro _;omega
 ·have Xw:∀x∈n.natures,x.c=p→timeOf u' x.a=none:=fun x hx ex=>(pat x.a).mp (M8 x hx ex);rw [qP hu M8,qP Rv Xw] at w;have w1:=congrArg Prod.fst w;have w2:=congrArg Prod.snd w;simp only at w1 w2
  constructor
  ·intro z;omega
  ·intro z;omega
end
end Mt
end
section
set_option autoImplicit false
namespace Mt
open Vblaai
theorem len_sub {α:Type} [DecidableEq α]:∀(l m:List α),l.Nodup→(∀x∈l,x∈m)→l.length≤m.length
 |[],m,_,_=>Nat.zero_le _
 |x::l,m,nd,h=>by
  have hx:x∈m:=h x List.mem_cons_self;have Zu:=List.nodup_cons.mp nd;have:=len_sub l (m.erase x) Zu.2 fun y hy=>by
   have ne:y≠x:=fun z=>Zu.1 (by rw [←z];exact hy);exact (List.mem_erase_of_ne ne).mpr (h y (List.mem_cons_of_mem _ hy))
  rw [List.length_erase_of_mem hx] at this;have pos:0<m.length:=List.length_pos_of_mem hx;simp only [List.length_cons];omega
theorem CC {α β:Type} (f:α→List β) (c:Nat):∀l:List α, (∀x∈l,(f x).length=c)→(l.flatMap f).length=l.length*c
 |[],_=>by simp
 |x::l,h=>by
  rw [List.flatMap_cons,List.length_append,h x List.mem_cons_self,CC f c l fun y hy=>h y (List.mem_cons_of_mem _ hy),List.length_cons,Nat.add_mul,Nat.one_mul,Nat.add_comm]
def Kx:List (Option Nat):=[none,some 0,some 1,some 2,some 3,some 4,some 5,some 6,some 7,some 8]
def Kd:Nat→List Times
 |0=>[[]]
 |m+1=>(Kd m).flatMap fun u=>Kx.map fun x=>x::u
theorem HD:∀m,(Kd m).length=10 ^ m
 |0=>rfl
 |m+1=>by
  show ((Kd m).flatMap fun u=>Kx.map fun x=>x::u).length=_;rw [CC _ 10 _ fun u _=>by rw [List.length_map];rfl,HD m,Nat.pow_succ]
theorem HB:∀(u:Times),(∀x∈u,x∈Kx)→u∈Kd u.length
 |[],_=>by simp [Kd]
 |x::u,h=>by
  show x::u∈(Kd u.length).flatMap fun u=>Kx.map fun x=>x::u;rw [List.mem_flatMap];exact ⟨u,HB u fun y hy=>h y (List.mem_cons_of_mem _ hy),List.mem_map.mpr ⟨x,h x List.mem_cons_self,rfl⟩⟩
theorem NY {x:Option Nat} (h:∀s,x=some s→s≤8):x∈Kx:=by
 cases x with
 |none=>simp [Kx]
 |some s =>
  have:=h s rfl;have:s=0∨s=1∨s=2∨s=3∨s=4∨s=5∨s=6∨s=7∨s=8:=by omega
  rcases this with rfl|rfl|rfl|rfl|rfl|rfl|rfl|rfl|rfl<;>simp [Kx]
theorem KI {n:Net} {h:Nat} (hn:size n≤6) (hh:h≤8) (ks:List (Int×List (Option (Int×Int)))) (nd:ks.Nodup) (hk:∀k∈ks,∃t u,k.1=((t:Nat):Int)∧t<h∧St n t u∧look n h t u=some k.2):ks.length≤8000000:=by
 have:=len_sub ks ((List.range 8).flatMap fun t=>(Kd (size n)).map fun u=>(((t:Nat):Int),(look n h t u).getD [])) nd fun k MB=>by
  obtain ⟨t,u,e1,ht,st,e2⟩:=hk k MB;rw [List.mem_flatMap];refine ⟨t,List.mem_range.mpr (by omega),List.mem_map.mpr ⟨u,?_,?_⟩⟩
  ·rw [←st.len];refine HB u fun x hx=>NY fun s e=>?_;obtain ⟨i,hi,e3⟩:=List.getElem_of_mem hx;have:=st.past i s (by
    unfold timeOf;rw [List.getD_eq_getElem?_getD,List.getElem?_eq_getElem hi,e3,e]
    rfl)
   omega
  ·rw [e2];exact Prod.ext e1.symm rfl
 rw [CC _ (10 ^ size n) _ fun t _=>by rw [List.length_map,HD]] at this;have p:10 ^ size n≤10 ^ 6:=Nat.pow_le_pow_right (by decide) hn;rw [List.length_range] at this;omega
theorem HY {n:Net} {t:Nat} {u:Times} (st:St n t u):allDone n u=u.all (·.isSome):=by
 unfold allDone;rw [←Bool.coe_iff_coe,List.all_eq_true,List.all_eq_true]
 constructor
 ·intro h x hx;obtain ⟨i,hi,e⟩:=List.getElem_of_mem hx;have:=h i (List.mem_range.mpr (by rw [←st.len];exact hi));unfold timeOf at this;rw [List.getD_eq_getElem?_getD,List.getElem?_eq_getElem hi,e] at this;exact this
 ·intro h i hi;have o4:i<u.length:=by rw [st.len];exact List.mem_range.mp hi
  have:=h u[i] (List.getElem_mem o4);unfold timeOf;rw [List.getD_eq_getElem?_getD,List.getElem?_eq_getElem o4];exact this
end Mt
end
section
set_option autoImplicit false
namespace Mt
open Vblaai
def Le (a b:W):Prop:=∀z,b=some z→∃y,a=some y∧y≤z
theorem Le.refl (a:W):Le a a:=fun z e=>⟨z,e,Int.le_refl z⟩
theorem Le.trans {a b c:W} (h:Le a b) (g:Le b c):Le a c:=fun z e=>by
 obtain ⟨y,e1,l1⟩:=g z e;obtain ⟨x,e2,l2⟩:=h y e1;exact ⟨x,e2,by omega⟩
theorem Le.none (a:W):Le a none:=fun z e=>by cases e
theorem Bn {a:W} {z:Int}:Le a (some z)↔∃y,a=some y∧y≤z:=⟨fun h=>h z rfl,fun h y e=>by cases e;exact h⟩
theorem Le.antisymm {a b:W} (h:Le a b) (g:Le b a):a=b:=by
 cases a with
 |none =>
  cases b with
  |none=>rfl
  |some y =>
   obtain ⟨_,e,_⟩:=h y rfl
   cases e
 |some x =>
  obtain ⟨y,e,l⟩:=g x rfl;subst e;obtain ⟨x',e,l'⟩:=h y rfl
  cases e;have:x=y:=by omega
  rw [this]
theorem fi (a b:W):Le (minW a b) a:=fun z e=>by
 subst e
 cases b with
 |none=>exact ⟨z,rfl,Int.le_refl z⟩
 |some y=>exact ⟨_,rfl,Int.min_le_left z y⟩
theorem gg (a b:W):Le (minW a b) b:=by
 rw [Ec];exact fi b a
theorem La {c a b:W} (h:Le c a) (g:Le c b):Le c (minW a b):=by
 cases a with
 |none=>rw [fk];exact g
 |some x =>
  cases b with
  |none=>exact h
  |some y =>
   intro z e;have e:some (min x y)=some z:=e
   cases e;rcases Int.le_total x y with q|q
   ·rw [Int.min_eq_left q];exact h x rfl
   ·rw [Int.min_eq_right q];exact g y rfl
theorem Le.min {a b c d:W} (h:Le a c) (g:Le b d):Le (minW a b) (minW c d):=La ((fi a b).trans h) ((gg a b).trans g)
theorem Le.add {a b c d:W} (h:Le a c) (g:Le b d):Le (addW a b) (addW c d):=fun z e=>by
 cases c with
 |none=>cases e
 |some x =>
  cases d with
  |none=>cases e
  |some y =>
   have e:some (x+y)=some z:=e
   cases e;obtain ⟨x',e1,l1⟩:=h x rfl;obtain ⟨y',e2,l2⟩:=g y rfl;subst e1 e2;exact ⟨x'+y',rfl,by omega⟩
theorem Le.max {a b:W} (h:Le a b) (c:Int):Le (maxW a c) (maxW b c):=fun z e=>by
 cases b with
 |none=>cases e
 |some x =>
  have e:some (Max.max x c)=some z:=e
  cases e;obtain ⟨y,e1,l⟩:=h x rfl;subst e1;exact ⟨Max.max y c,rfl,by omega⟩
theorem Le.less {a b:W} (h:Le a b) (c:Int) (l:lessW b (some c)=true):lessW a (some c)=true:=by
 cases b with
 |none=>cases l
 |some x =>
  obtain ⟨y,e1,l1⟩:=h x rfl;subst e1;have l:decide (x<c)=true:=l;show decide (y<c)=true;have:=of_decide_eq_true l;exact decide_eq_true (by omega)
theorem Le.least {α:Type} {f g:α→W}:∀{l:List α},(∀x∈l,Le (f x) (g x))→Le (least (l.map f)) (least (l.map g))
 |[],_=>Le.refl _
 |x::l,h=>by
  rw [List.map_cons,List.map_cons,b5,b5];exact Le.min (h x List.mem_cons_self) (Le.least fun y hy=>h y (List.mem_cons_of_mem _ hy))
theorem mR:∀{l:List W} {x:W},x∈l→Le (least l) x
 |y::l,x,h=>by
  rw [b5];rcases List.mem_cons.mp h with rfl|h
  ·exact fi _ _
  ·exact (gg _ _).trans (mR h)
def Bf (k:Nat) (t u:Table):Prop:=∀i j,i<k→j<k→Le (at_ t i j) (at_ u i j)
theorem Bf.refl (k:Nat) (t:Table):Bf k t t:=fun _ _ _ _=>Le.refl _
theorem Bf.trans {k:Nat} {t u v:Table} (h:Bf k t u) (g:Bf k u v):Bf k t v:=fun i j hi hj=>(h i j hi hj).trans (g i j hi hj)
theorem Bf.through {k m:Nat} {t u:Table} (hm:m<k) (h:Bf k t u):Bf k (through k t m) (through k u m):=fun i j hi hj=>by
 unfold Vblaai.through;rw [dD hi hj,dD hi hj];exact Le.min (h i j hi hj) (Le.add (h i m hi hm) (h m j hm hj))
theorem vi {k m:Nat} {t:Table}:Bf k (Vblaai.through k t m) t:=fun i j hi hj=>by
 unfold Vblaai.through;rw [dD hi hj];exact fi _ _
theorem Et {k:Nat}:∀(l:List Nat) {t u:Table},(∀m∈l,m<k)→Bf k t u→Bf k (l.foldl (Vblaai.through k) t) (l.foldl (Vblaai.through k) u)
 |[],_,_,_,h=>h
 |m::l,_,_,hl,h=>Et l (fun x hx=>hl x (List.mem_cons_of_mem _ hx)) (Bf.through (hl m List.mem_cons_self) h)
theorem Fn {k:Nat}:∀(l:List Nat) {t:Table},Bf k (l.foldl (Vblaai.through k) t) t
 |[],t=>Bf.refl k t
 |m::l,t=>(Fn l).trans vi
theorem Bf.closed {k:Nat} {t u:Table} (h:Bf k t u):Bf k (closed k t) (closed k u):=Et _ (fun m hm=>List.mem_range.mp hm) h
theorem EC {k:Nat} {t:Table}:Bf k (Vblaai.closed k t) t:=Fn _
theorem Ha {k:Nat}:∀(l:List Nat) {t:Table} {m i j:Nat},(∀x∈l,x<k)→m∈l→i<k→j<k→Le (at_ (l.foldl (Vblaai.through k) t) i j) (addW (at_ t i m) (at_ t m j))
 |x::l,t,m,i,j,hl,hm,hi,hj=>by
  have KL:∀y∈l,y<k:=fun y hy=>hl y (List.mem_cons_of_mem _ hy);show Le (at_ (l.foldl (Vblaai.through k) (Vblaai.through k t x)) i j) _;rcases List.mem_cons.mp hm with rfl|hm
  ·refine (Fn l i j hi hj).trans ?_;unfold Vblaai.through;rw [dD hi hj];exact gg _ _
  ·have ZW:=KL m hm;exact (Ha l KL hm hi hj).trans (Le.add (vi i m hi ZW) (vi m j ZW hj))
theorem JJ {k:Nat} {t:Table} {m i j:Nat} (hm:m<k) (hi:i<k) (hj:j<k):Le (at_ (Vblaai.closed k t) i j) (addW (at_ t i m) (at_ t m j)):=Ha _ (fun x hx=>List.mem_range.mp hx) (List.mem_range.mpr hm) hi hj
theorem Hi {k:Nat} {t u:Table} (h:Bf k t u) (r:ringed k u=true):ringed k t=true:=by
 unfold ringed at *;obtain ⟨i,hi,l⟩:=List.any_eq_true.mp r;have o4:=List.mem_range.mp hi;exact List.any_eq_true.mpr ⟨i,hi,(h i i o4 o4).less 0 l⟩
structure uF (n:Net) (f g:Form):Prop where
 ord:Bf (size n) f.ord g.ord
 wait:∀k i,k<n.natures.length→i<size n→Le (waitAt f k i) (waitAt g k i)
theorem uF.trans {n:Net} {f g h:Form} (a:uF n f g) (b:uF n g h):uF n f h:=⟨a.ord.trans b.ord,fun k i hk hi=>(a.wait k i hk hi).trans (b.wait k i hk hi)⟩
theorem Jw {n:Net} {x:Nature×Nat} (h:x∈n.natures.zipIdx):x.2<n.natures.length∧x.1∈n.natures∧n.natures[x.2]?=some x.1:=by
 have:=mem_zipIdx' h;exact ⟨(List.getElem?_eq_some_iff.mp this).1,List.mem_of_getElem? this,this⟩
theorem uF.longest {n:Net} {f g:Form} (h:uF n f g):Bf (size n) (longest n f) (longest n g):=fun i j hi hj=>by
 unfold Vblaai.longest;rw [dD hi hj,dD hi hj];refine Le.min (h.ord i j hi hj) (Le.least fun x hx=>?_);by_cases c:x.1.a=j
 ·rw [if_pos c,if_pos c];exact h.wait x.2 i (Jw hx).1 hi
 ·rw [if_neg c,if_neg c];exact Le.refl _
theorem mM {n:Net} {f:Form} {k i:Nat} {x:Nature} (e:n.natures[k]?=some x) (hi:i<size n):waitAt (carried n f) k i=if i=x.a then none else least ((List.range (size n)).map fun j=>addW (at_ (closed (size n) f.ord) i j) (waitAt f k j)):=zH (g:=fun (x:Nature×Nat) (i:Nat)=>if i=x.1.a then none else least ((List.range (size n)).map fun j=>addW (at_ (closed (size n) f.ord) i j) (waitAt f x.2 j))) e hi
theorem FE {n:Net} {k:Nat} (h:k<n.natures.length):∃x,n.natures[k]?=some x:=⟨_,List.getElem?_eq_getElem h⟩
theorem uF.carried {n:Net} {f g:Form} (h:uF n f g):uF n (carried n f) (carried n g):=by
 refine ⟨h.ord.closed,fun k i hk hi=>?_⟩;obtain ⟨x,e⟩:=FE hk;rw [mM e hi,mM e hi];by_cases c:i=x.a
 ·rw [if_pos c,if_pos c];exact Le.refl _
 ·rw [if_neg c,if_neg c];exact Le.least fun j hj=>Le.add (h.ord.closed i j hi (List.mem_range.mp hj)) (h.wait k j hk (List.mem_range.mp hj))
def E4 (n:Net) (f:Form) (z:Nature×Nat) (i:Nat):W:=minW (waitAt f z.2 i) (least (n.natures.map fun x=>if x.a=i∧x.c≠z.1.c∧lessW (waitAt f z.2 x.c) (some 0)=true then addW (some (x.lo:Int)) (waitAt f z.2 x.c) else none))
theorem Hr (n:Net) (f:Form):(early n f).wait=n.natures.zipIdx.map fun k=>(List.range (size n)).map (E4 n f k):=rfl
theorem qm {n:Net} {f:Form} {k i:Nat} {x:Nature} (e:n.natures[k]?=some x) (hi:i<size n):waitAt (early n f) k i=minW (waitAt f k i) (least (n.natures.map fun y=>if y.a=i∧y.c≠x.c∧lessW (waitAt f k y.c) (some 0)=true then addW (some (y.lo:Int)) (waitAt f k y.c) else none)):=by
 rw [LP,Hr,zH (g:=E4 n f) e hi];rfl
theorem pX {n:Net} {f:Form} {i j:Nat} (hi:i<size n) (hj:j<size n):at_ (early n f).ord i j=minW (at_ f.ord i j) (least (n.natures.map fun x=>if x.a=i∧x.c≠j∧lessW (at_ f.ord x.c j) (some 0)=true then addW (some (x.lo:Int)) (at_ f.ord x.c j) else none)):=dD hi hj
theorem uF.early {n:Net} (hn:cH n) {f g:Form} (h:uF n f g):uF n (early n f) (early n g):=by
 refine ⟨fun i j hi hj=>?_,fun k i hk hi=>?_⟩
 ·rw [pX hi hj,pX hi hj];refine Le.min (h.ord i j hi hj) (Le.least fun x hx=>?_);have q:=h.ord x.c j (hn.nat x hx).2.1 hj;by_cases c:x.a=i∧x.c≠j∧lessW (at_ g.ord x.c j) (some 0)=true
  ·rw [if_pos c,if_pos ⟨c.1,c.2.1,q.less 0 c.2.2⟩];exact Le.add (Le.refl _) q
  ·rw [if_neg c];exact Le.none _
 ·obtain ⟨x,e⟩:=FE hk;rw [qm e hi,qm e hi];refine Le.min (h.wait k i hk hi) (Le.least fun y hy=>?_);have q:=h.wait k y.c hk (hn.nat y hy).2.1;by_cases c:y.a=i∧y.c≠x.c∧lessW (waitAt g k y.c) (some 0)=true
  ·rw [if_pos c,if_pos ⟨c.1,c.2.1,q.less 0 c.2.2⟩];exact Le.add (Le.refl _) q
  ·rw [if_neg c];exact Le.none _
theorem lN {n:Net} {f:Form} {i j:Nat} (hi:i<size n) (hj:j<size n):at_ (plainer n f).ord i j=minW (at_ f.ord i j) (least ((n.natures.zipIdx).map fun x=>if x.1.a=j∧i≠x.1.c∧i≠j then maxW (waitAt f x.2 i) (-(x.1.lo:Int)) else none)):=dD hi hj
theorem uF.plainer {n:Net} {f g:Form} (h:uF n f g):uF n (plainer n f) (plainer n g):=by
 refine ⟨fun i j hi hj=>?_,fun k i hk hi=>h.wait k i hk hi⟩;rw [lN hi hj,lN hi hj];refine Le.min (h.ord i j hi hj) (Le.least fun x hx=>?_);by_cases c:x.1.a=j∧i≠x.1.c∧i≠j
 ·rw [if_pos c,if_pos c];exact Le.max (h.wait x.2 i (Jw hx).1 hi) _
 ·rw [if_neg c,if_neg c];exact Le.refl _
theorem uF.round {n:Net} (hn:cH n) {f g:Form} (h:uF n f g):uF n (round n f) (round n g):=(h.carried.early hn).plainer
theorem uF.antisymm {n:Net} {f g:Form} (h:uF n f g) (k:uF n g f) (hf:yN n f) (hg:yN n g):f=g:=by
 have e1:f.ord=g.ord:=hf.ord.ext hg.ord fun i j hi hj=>(h.ord i j hi hj).antisymm (k.ord i j hi hj);have e2:f.wait=g.wait:=hf.wait.ext hg.wait fun i j hi hj=>(h.wait i j hi hj).antisymm (k.wait i j hi hj)
 cases f
 cases g;simp only at e1 e2;rw [e1,e2]
theorem EV (n:Net) (i:Nat):Le (told n i i) (some 0):=by
 unfold told;rw [if_pos rfl];exact fi _ _
theorem vJ {n:Net} {k i:Nat} {x:Nature} (e:n.natures[k]?=some x) (hi:i<size n):waitAt (first n) k i=if i=x.c then some (-(x.hi:Int)) else none:=by
 have e2:(n.natures.map fun x=>(List.range (size n)).map fun i=>if i=x.c then some (-(x.hi:Int)) else none)[k]?=some ((List.range (size n)).map fun i=>if i=x.c then some (-(x.hi:Int)) else none):=by
  rw [List.getElem?_map,e];rfl
 have:=Am (j:=i) e2;rw [List.getElem?_map,List.getElem?_range hi] at this;exact this
theorem NO {n:Net} (hn:cH n):uF n (round n (first n)) (first n):=by
 have c1:uF n (carried n (first n)) (first n):=by
  refine ⟨EC,fun k i hk hi=>?_⟩;obtain ⟨x,e⟩:=FE hk;have hx:=hn.nat x (List.mem_of_getElem? e);rw [mM e hi];by_cases c:i=x.c
  ·rw [if_neg (fun z=>hx.2.2 (by rw [←z, ←c]))];refine (mR (List.mem_map.mpr ⟨i,List.mem_range.mpr hi,rfl⟩)).trans ?_;have d:Le (at_ (closed (size n) (first n).ord) i i) (some 0):=(EC i i hi hi).trans (by
    show Le (at_ (base n) i i) (some 0);unfold base;rw [dD hi hi];exact EV n i)
   have:=Le.add d (Le.refl (waitAt (first n) k i))
   refine this.trans ?_;rw [vJ e hi,if_pos c];show Le (some (0+ -(x.hi:Int))) _;rw [Int.zero_add];exact Le.refl _
  ·rw [vJ e hi,if_neg c];exact Le.none _
 have c2:∀f,uF n (early n f) f:=fun f=>by
  refine ⟨fun i j hi hj=>?_,fun k i hk hi=>?_⟩
  ·rw [pX hi hj];exact fi _ _
  ·obtain ⟨x,e⟩:=FE hk;rw [qm e hi];exact fi _ _
 have c3:∀f,uF n (plainer n f) f:=fun f=>⟨fun i j hi hj=>by
  rw [lN hi hj];exact fi _ _,fun k i hk hi=>Le.refl _⟩
 exact (c3 _).trans ((c2 _).trans c1)
end Mt
end
section
set_option autoImplicit false
namespace Mt
open Vblaai
def rounds (n:Net) (f:Form):Nat→Form
 |0=>f
 |t+1=>round n (rounds n f t)
theorem uo {n:Net} (hn:cH n) {f:Form} (hf:yN n f):∀t,yN n (rounds n f t)
 |0=>hf
 |t+1=>I0 hn (uo hn hf t)
theorem Ag {n:Net} (hn:cH n) {f g:Form} (h:uF n f g):∀t,uF n (rounds n f t) (rounds n g t)
 |0=>h
 |t+1=>(Ag hn h t).round hn
theorem mJ {n:Net} (hn:cH n):∀t,uF n (rounds n (first n) t) (first n)
 |0=>⟨Bf.refl _ _,fun _ _ _ _=>Le.refl _⟩
 |t+1=>((mJ hn t).round hn).trans (NO hn)
theorem zx (n:Net) (f0:Form):∀(m t:Nat) {k:Nat} {f:Form},reduceFrom n m t (rounds n f0 t)=some (k,f)→∃s,k=s∧t≤s∧s<t+m∧f=rounds n f0 s∧round n f=f∧ringed (size n) (closed (size n) (longest n f))=false
 |0,t,k,f,h=>by cases h
 |m+1,t,k,f,h=>by
  unfold reduceFrom at h;by_cases c:ringed (size n) (closed (size n) (longest n (rounds n f0 t)))=true
  ·rw [if_pos c] at h
   cases h
  ·rw [if_neg c] at h;by_cases d:round n (rounds n f0 t)=rounds n f0 t
   ·have h:(if round n (rounds n f0 t)=rounds n f0 t then some (t,rounds n f0 t) else reduceFrom n m (t+1) (round n (rounds n f0 t)))=some (k,f):=h
    rw [if_pos d] at h
    cases h;exact ⟨t,rfl,Nat.le_refl _,by omega,rfl,d,by simpa using c⟩
   ·have h:(if round n (rounds n f0 t)=rounds n f0 t then some (t,rounds n f0 t) else reduceFrom n m (t+1) (round n (rounds n f0 t)))=some (k,f):=h
    rw [if_neg d] at h;obtain ⟨s,h1,h2,h3,h4⟩:=zx n f0 m (t+1) h;exact ⟨s,h1,by omega,by omega,h4⟩
theorem Ah {n:Net} {g:Form} {s:Nat} (hr:∀t,ringed (size n) (closed (size n) (longest n (rounds n g t)))=false) (hs:round n (rounds n g s)=rounds n g s):∀(m t:Nat),t≤s→s<t+m→(reduceFrom n m t (rounds n g t)).isSome=true
 |0,t,h1,h2=>by omega
 |m+1,t,h1,h2=>by
  unfold reduceFrom;rw [if_neg (by rw [hr t];exact Bool.false_ne_true)];show (if round n (rounds n g t)=rounds n g t then some (t,rounds n g t) else reduceFrom n m (t+1) (round n (rounds n g t))).isSome=true
  by_cases d:round n (rounds n g t)=rounds n g t
  ·rw [if_pos d];rfl
  ·rw [if_neg d];have lP:t≠s:=fun z=>d (by rw [z];exact hs);exact Ah hr hs m (t+1) (by omega) (by omega)
inductive Ik (E:Nat→Nat→Prop):Nat→Nat→Prop
 |refl (i:Nat):Ik E i i
 |step {i m j:Nat}:E i m→Ik E m j→Ik E i j
theorem Ik.trans {E:Nat→Nat→Prop} {i j k:Nat} (h:Ik E i j) (g:Ik E j k):Ik E i k:=by
 induction h with
 |refl _=>exact g
 |step e _ ih=>exact .step e (ih g)
theorem Ik.one {E:Nat→Nat→Prop} {i j:Nat} (h:E i j):Ik E i j:= .step h (.refl j)
def Mo (n:Net) (i j:Nat):Prop:=i<size n∧j<size n∧(told n i j).isSome=true
theorem jr {a b:W} (h:(minW a b).isSome=true):a.isSome=true∨b.isSome=true:=by
 cases a with
 |some x=>exact .inl rfl
 |none=>rw [fk] at h;exact .inr h
theorem qV {a b:W} (h:(addW a b).isSome=true):a.isSome=true∧b.isSome=true:=by
 cases a with
 |none=>cases h
 |some x =>
  cases b with
  |none=>cases h
  |some y=>exact ⟨rfl,rfl⟩
theorem gT:∀{l:List W},(least l).isSome=true→∃x∈l,x.isSome=true
 |[],h=>by cases h
 |x::l,h=>by
  rw [b5] at h;rcases jr h with h|h
  ·exact ⟨x,List.mem_cons_self,h⟩
  ·obtain ⟨y,hy,e⟩:=gT h;exact ⟨y,List.mem_cons_of_mem _ hy,e⟩
def KJ (n:Net) (t:Table):Prop:=∀i j,i<size n→j<size n→(at_ t i j).isSome=true→Ik (Mo n) i j
structure IC (n:Net) (f:Form):Prop where
 ord:KJ n f.ord
 wait:∀k i x,n.natures[k]?=some x→i<size n→(waitAt f k i).isSome=true→Ik (Mo n) i x.a
theorem HU {n:Net} {t:Table} {m:Nat} (hm:m<size n) (h:KJ n t):KJ n (through (size n) t m):=fun i j hi hj e=>by
 unfold through at e;rw [dD hi hj] at e;rcases jr e with e|e
 ·exact h i j hi hj e
 ·have:=qV e;exact (h i m hi hm this.1).trans (h m j hm hj this.2)
theorem HL {n:Net}:∀(l:List Nat) {t:Table},(∀m∈l,m<size n)→KJ n t→KJ n (l.foldl (through (size n)) t)
 |[],_,_,h=>h
 |m::l,_,hl,h=>HL l (fun x hx=>hl x (List.mem_cons_of_mem _ hx)) (HU (hl m List.mem_cons_self) h)
theorem De {n:Net} {t:Table} (h:KJ n t):KJ n (closed (size n) t):=HL _ (fun m hm=>List.mem_range.mp hm) h
theorem zJ {n:Net} (hn:cH n) {x:Nature} (hx:x∈n.natures):Mo n x.a x.c∧Mo n x.c x.a:=by
 obtain ⟨h1,h2,h3⟩:=hn.nat x hx;refine ⟨⟨h1,h2,?_⟩,⟨h2,h1,?_⟩⟩
 ·have:Le (told n x.a x.c) (some (x.hi:Int)):=by
   unfold told;refine (gg _ _).trans ((gg _ _).trans (mR (List.mem_map.mpr ⟨x,hx,?_⟩)));rw [if_pos ⟨rfl,rfl⟩]
  obtain ⟨y,e,_⟩:=this _ rfl;rw [e];rfl
 ·have:Le (told n x.c x.a) (some (-(x.lo:Int))):=by
   unfold told;refine (gg _ _).trans ((gg _ _).trans (mR (List.mem_map.mpr ⟨x,hx,?_⟩)));rw [if_neg (fun z=>h3 z.1),if_pos ⟨rfl,rfl⟩]
  obtain ⟨y,e,_⟩:=this _ rfl;rw [e];rfl
theorem Mw {n:Net} (hn:cH n):IC n (first n):=by
 refine ⟨fun i j hi hj e=>?_,fun k i x ek hi e=>?_⟩
 ·refine Ik.one ⟨hi,hj,?_⟩;have e:(at_ (base n) i j).isSome=true:=e;unfold base at e;rw [dD hi hj] at e;exact e
 ·rw [vJ ek hi] at e;by_cases c:i=x.c
  ·rw [c];exact Ik.one (zJ hn (List.mem_of_getElem? ek)).2
  ·rw [if_neg c] at e
   cases e
theorem Iz {n:Net} {f:Form} (h:IC n f):IC n (carried n f):=by
 refine ⟨De h.ord,fun k i x ek hi e=>?_⟩;rw [mM ek hi] at e;by_cases c:i=x.a
 ·rw [c];exact .refl _
 ·rw [if_neg c] at e;obtain ⟨y,hy,e⟩:=gT e;obtain ⟨j,hj,rfl⟩:=List.mem_map.mp hy;have hj:=List.mem_range.mp hj;have:=qV e;exact (De h.ord i j hi hj this.1).trans (h.wait k j x ek hj this.2)
theorem MK {n:Net} (hn:cH n) {f:Form} (h:IC n f):IC n (early n f):=by
 refine ⟨fun i j hi hj e=>?_,fun k i x ek hi e=>?_⟩
 ·rw [pX hi hj] at e;rcases jr e with e|e
  ·exact h.ord i j hi hj e
  ·obtain ⟨y,hy,e⟩:=gT e;obtain ⟨z,hz,rfl⟩:=List.mem_map.mp hy;by_cases c:z.a=i∧z.c≠j∧lessW (at_ f.ord z.c j) (some 0)=true
   ·rw [if_pos c] at e;rw [←c.1];exact (Ik.one (zJ hn hz).1).trans (h.ord z.c j (hn.nat z hz).2.1 hj (qV e).2)
   ·rw [if_neg c] at e
    cases e
 ·rw [qm ek hi] at e;rcases jr e with e|e
  ·exact h.wait k i x ek hi e
  ·obtain ⟨y,hy,e⟩:=gT e;obtain ⟨z,hz,rfl⟩:=List.mem_map.mp hy;by_cases c:z.a=i∧z.c≠x.c∧lessW (waitAt f k z.c) (some 0)=true
   ·rw [if_pos c] at e;rw [←c.1];exact (Ik.one (zJ hn hz).1).trans (h.wait k z.c x ek (hn.nat z hz).2.1 (qV e).2)
   ·rw [if_neg c] at e
    cases e
theorem JW {a:W} {c:Int} (h:(maxW a c).isSome=true):a.isSome=true:=by
 cases a with
 |none=>cases h
 |some x=>rfl
theorem IJ {n:Net} {f:Form} (h:IC n f):IC n (plainer n f):=by
 refine ⟨fun i j hi hj e=>?_,fun k i x ek hi e=>h.wait k i x ek hi e⟩;rw [lN hi hj] at e;rcases jr e with e|e
 ·exact h.ord i j hi hj e
 ·obtain ⟨y,hy,e⟩:=gT e;obtain ⟨z,hz,rfl⟩:=List.mem_map.mp hy;by_cases c:z.1.a=j∧i≠z.1.c∧i≠j
  ·rw [if_pos c] at e;rw [←c.1];exact h.wait z.2 i z.1 (Jw hz).2.2 hi (JW e)
  ·rw [if_neg c] at e
   cases e
theorem BZ {n:Net} (hn:cH n):∀t,IC n (rounds n (first n) t)
 |0=>Mw hn
 |t+1=>IJ (MK hn (Iz (BZ hn t)))
inductive Way (E:Nat→Nat→Prop):Nat→List Nat→Nat→Prop
 |one (i:Nat):Way E i [i] i
 |step {i m j:Nat} {l:List Nat}:E i m→Way E m l j→Way E i (i::l) j
theorem Way.cut {E:Nat→Nat→Prop} {m j:Nat} {l:List Nat} (h:Way E m l j) {i:Nat} (hi:i∈l):∃l',Way E i l' j∧∃l1,l=l1++l':=by
 induction h with
 |one k =>
  have:i=k:=by simpa using hi
  subst this;exact ⟨_,.one i,[],rfl⟩
 |@step k m j l e w ih =>
  by_cases c:i=k
  ·subst c;exact ⟨_,.step e w,[],rfl⟩
  ·have hi:i∈l:=by
    rcases List.mem_cons.mp hi with z|z
    ·exact absurd z c
    ·exact z
   obtain ⟨l',h1,l1,h2⟩:=ih hi;exact ⟨l',h1,k::l1,by rw [h2];rfl⟩
theorem Ik.way {E:Nat→Nat→Prop} {i j:Nat} (h:Ik E i j):∃l,Way E i l j∧l.Nodup:=by
 induction h with
 |refl i=>exact ⟨_,.one i,by simp⟩
 |@step i m j e _ ih =>
  obtain ⟨l,w,nd⟩:=ih;by_cases c:i∈l
  ·obtain ⟨l',w',l1,e1⟩:=w.cut c;refine ⟨l',w',?_⟩;rw [e1] at nd;exact (List.nodup_append.mp nd).2.1
  ·exact ⟨_,.step e w,List.nodup_cons.mpr ⟨c,nd⟩⟩
theorem Way.lt {n:Net} {i j:Nat} {l:List Nat} (h:Way (Mo n) i l j) (hi:i<size n):(∀x∈l,x<size n)∧j<size n:=by
 induction h with
 |one k=>exact ⟨fun x hx=>by rw [show x=k by simpa using hx];exact hi,hi⟩
 |@step k m j l e w ih =>
  have:=ih e.2.1;refine ⟨fun x hx=>?_,this.2⟩;rcases List.mem_cons.mp hx with rfl|hx
  ·exact hi
  ·exact this.1 x hx
theorem J7 {n:Net} (hn:aP n) {i j:Nat} (h:(told n i j).isSome=true):Le (told n i j) (some 1000):=by
 refine Bn.mpr ?_;obtain ⟨z,e⟩:=Option.isSome_iff_exists.mp h;refine ⟨z,e,?_⟩;unfold told at h;have le:∀(w:W) (y:Int),w=some y→Le (told n i j) w→z≤y:=fun w y e1 l=>by
  obtain ⟨y',e2,l2⟩:=l y e1;rw [e] at e2
  cases e2;exact l2
 rcases jr h with h1|h1
 ·have l:Le (told n i j) (if i=j then some 0 else if j=0 then some 0 else none):=fi _ _
  by_cases c:i=j
  ·rw [if_pos c] at l;have:=le _ 0 rfl l;omega
  ·by_cases d:j=0
   ·rw [if_neg c,if_pos d] at l;have:=le _ 0 rfl l;omega
   ·rw [if_neg c,if_neg d] at h1
    cases h1
 ·rcases jr h1 with h2|h2
  ·obtain ⟨w,hw,e2⟩:=gT h2;have l:Le (told n i j) w:=(gg _ _).trans ((fi _ _).trans (mR hw));obtain ⟨y,e3⟩:=Option.isSome_iff_exists.mp e2;have q:=le w y e3 l;obtain ⟨x,hx,e4⟩:=List.mem_map.mp hw;have lq:=hn.J1 x hx;by_cases c:x.a=i∧x.b=j
   ·rw [if_pos c,e3] at e4;obtain ⟨a,ea,e5⟩:=Option.map_eq_some_iff.mp e4;have:=lq.2 a ea;omega
   ·rw [if_neg c] at e4;by_cases d:x.b=i∧x.a=j
    ·rw [if_pos d,e3] at e4;obtain ⟨a,ea,e5⟩:=Option.map_eq_some_iff.mp e4;omega
    ·rw [if_neg d,e3] at e4
     cases e4
  ·obtain ⟨w,hw,e2⟩:=gT h2;have l:Le (told n i j) w:=(gg _ _).trans ((gg _ _).trans (mR hw));obtain ⟨y,e3⟩:=Option.isSome_iff_exists.mp e2;have q:=le w y e3 l;obtain ⟨x,hx,e4⟩:=List.mem_map.mp hw;have lq:=hn.vw x hx;by_cases c:x.a=i∧x.c=j
   ·rw [if_pos c,e3] at e4
    cases e4;omega
   ·rw [if_neg c] at e4;by_cases d:x.c=i∧x.a=j
    ·rw [if_pos d,e3] at e4
     cases e4;omega
    ·rw [if_neg d,e3] at e4
     cases e4
theorem RP {n:Net} (hn:aP n) {f:Form} (hl:uF n f (first n)) (fx:round n f=f) {i j:Nat} {l:List Nat} (h:Way (Mo n) i l j) (hi:i<size n):Le (at_ f.ord i j) (some (1000*((l.length:Int) - 1))):=by
 have tri:∀a m b,a<size n→m<size n→b<size n→Le (at_ f.ord a b) (addW (at_ f.ord a m) (at_ f.ord m b)):=fun a m b ha hm hb=>by
  have q:Bf (size n) (round n f).ord (closed (size n) f.ord):=fun x y hx hy=>by
   show Le (at_ (plainer n (early n (carried n f))).ord x y) _;rw [lN hx hy];refine (fi _ _).trans ?_;rw [pX hx hy];exact fi _ _
  rw [fx] at q;exact (q a b ha hb).trans (JJ hm ha hb)
 have bs:∀a b,a<size n→b<size n→Le (at_ f.ord a b) (told n a b):=fun a b ha hb=>by
  have:=hl.ord a b ha hb;have e:at_ (first n).ord a b=told n a b:=dD ha hb
  rw [e] at this;exact this
 induction h with
 |one k =>
  refine (bs k k hi hi).trans ((EV n k).trans ?_);exact Bn.mpr ⟨0,rfl,by simp⟩
 |@step k m j l e w ih =>
  have hj:=(w.lt e.2.1).2;refine (tri k m j hi e.2.1 hj).trans ?_;refine (Le.add ((bs k m hi e.2.1).trans (J7 hn e.2.2)) (ih e.2.1)).trans ?_;refine Bn.mpr ⟨_,rfl,?_⟩;simp only [List.length_cons];omega
theorem LQ {n:Net} (hn:aP n) {t:Nat} (fx:round n (rounds n (first n) t)=rounds n (first n) t) {i j:Nat} (hi:i<size n) (hj:j<size n) {x:Int} (e:at_ (rounds n (first n) t).ord i j=some x):x≤12000:=by
 have r:=(BZ hn.tocH t).ord i j hi hj (by rw [e];rfl);obtain ⟨l,w,nd⟩:=r.way;have hl:=w.lt hi;have len:l.length≤size n:=by
  have:=len_sub l (List.range (size n)) nd fun y hy=>List.mem_range.mpr (hl.1 y hy)
  rwa [List.length_range] at this
 have nm:size n≤12:=hn.nm;have:=RP hn (mJ hn.tocH t) fx w hi;obtain ⟨y,e2,l2⟩:=this _ rfl;rw [e] at e2
 cases e2;omega
theorem MA {n:Net} (hn:aP n) {k:Nat} {f:Form} (h:reduced n=some (k,f)) {i j:Nat} (hi:i<size n) (hj:j<size n) (lP:i≠j) {x:Int} (e:at_ f.ord i j=some x):sure (withLimit n i j 12000)=true:=by
 obtain ⟨s,_,_,hs,rfl,fx,nr⟩:=zx n (first n) ROUNDS 0 h
 have hx:=LQ hn fx hi hj e;have XQ:cH (withLimit n i j 12000):=by
  refine ⟨hn.pos,fun y hy=>?_,hn.nat,hn.own⟩;rcases List.mem_append.mp hy with hy|hy
  ·exact hn.lim y hy
  ·have:y={ a:=i,b:=j,least:=none,most:=some 12000 }:=by simpa [withLimit] using hy
   subst this;exact ⟨hi,hj,lP⟩
 have to:∀a b,told (withLimit n i j 12000) a b=minW (told n a b) (if i=a∧j=b then some 12000 else none):=fun a b=>by
  have e1:(withLimit n i j 12000).limits=n.limits++[{ a:=i,b:=j,least:=none,most:=some 12000 }]:=rfl;unfold told;rw [e1,List.map_append,j5];have e2:least ([({ a:=i,b:=j,least:=none,most:=some 12000 }:Limit)].map fun x=>if x.a=a∧x.b=b then x.most.map fun (q:Nat)=>(q:Int) else if x.b=a∧x.a=b then x.least.map fun (q:Nat)=> -(q:Int) else none)=if i=a∧j=b then some 12000 else none:=by
   rw [List.map_cons,List.map_nil,b5,iU,eI];by_cases c:i=a∧j=b
   ·rw [if_pos c,if_pos c];rfl
   ·rw [if_neg c,if_neg c];by_cases d:j=a∧i=b
    ·rw [if_pos d];rfl
    ·rw [if_neg d]
  rw [e2,kO,kO]
  congr 1
  rw [kO]
  congr 1
  exact Ec _ _
 have lo:uF n (first (withLimit n i j 12000)) (first n):=⟨fun a b ha hb=>by
  have e1:at_ (first (withLimit n i j 12000)).ord a b=told (withLimit n i j 12000) a b:=dD ha hb
  have e2:at_ (first n).ord a b=told n a b:=dD ha hb
  rw [e1,e2,to];exact fi _ _,fun a b ha hb=>Le.refl _⟩
 have up:uF n (rounds n (first n) s) (first (withLimit n i j 12000)):=⟨fun a b ha hb=>by
  have e1:at_ (first (withLimit n i j 12000)).ord a b=told (withLimit n i j 12000) a b:=dD ha hb
  have q:=(mJ hn.tocH s).ord a b ha hb;have e2:at_ (first n).ord a b=told n a b:=dD ha hb
  rw [e2] at q;rw [e1,to];refine La q ?_;by_cases c:i=a∧j=b
  ·rw [if_pos c, ←c.1, ←c.2,e];exact Bn.mpr ⟨x,rfl,hx⟩
  ·rw [if_neg c];exact Le.none _,fun a b ha hb=>(mJ hn.tocH s).wait a b ha hb⟩
 have YJ:∀t,uF n (rounds n (first n) s) (rounds n (first (withLimit n i j 12000)) t):=fun t=>by
  induction t with
  |zero=>exact up
  |succ t ih =>
   have:=ih.round hn.tocH;rw [fx] at this;exact this
 have rd:∀t,rounds (withLimit n i j 12000) (first (withLimit n i j 12000)) t=rounds n (first (withLimit n i j 12000)) t:=fun t=>by
  induction t with
  |zero=>rfl
  |succ t ih =>
   show round (withLimit n i j 12000) (rounds (withLimit n i j 12000) (first (withLimit n i j 12000)) t)=_
   rw [ih];rfl
 have eq:rounds n (first (withLimit n i j 12000)) s=rounds n (first n) s :=
  uF.antisymm (Ag hn.tocH lo s) (YJ s) (uo hn.tocH (⟨(pj XQ).ord,(pj XQ).diag,(pj XQ).wait⟩:yN n (first (withLimit n i j 12000))) s) (uo hn.tocH (pj hn.tocH) s)
 show (reduceFrom (withLimit n i j 12000) ROUNDS 0 (rounds (withLimit n i j 12000) (first (withLimit n i j 12000)) 0)).isSome=true
 refine Ah (s:=s) (fun t=>?_) ?_ ROUNDS 0 (Nat.zero_le _) hs
 ·rw [rd t]
  cases q:ringed (size (withLimit n i j 12000)) (closed (size (withLimit n i j 12000)) (longest (withLimit n i j 12000) (rounds n (first (withLimit n i j 12000)) t))) with
  |false=>rfl
  |true =>
   have q:ringed (size n) (closed (size n) (longest n (rounds n (first (withLimit n i j 12000)) t)))=true:=q
   have:=Hi ((YJ t).longest.closed) q;rw [nr] at this
   cases this
 ·rw [rd s,eq];exact fx
end Mt
end
section
namespace L2
open PySem PySem.Spec PyProof.Rows
abbrev Key:=Sum Int Str
def Rk:Key→Value→Bool
 | .inl k,v=>Value.isInt k v
 | .inr x,v=>Value.isStrOf x v
def Yj (w:World):Key→Int
 | .inl k=>hashInt k
 | .inr x=>hashStr w x
theorem fP:∀{k:Key} {v:Value},Rk k v=true→(∃i t,k=Sum.inl i∧v=Value.int i t)∨(∃x t,k=Sum.inr x∧v=Value.str x t)
 | .inl i,v,h=>by
  obtain ⟨t,e⟩:=Value.isInt_shape (k:=i) (v:=v) h;exact .inl ⟨i,t,rfl,e⟩
 | .inr x,v,h=>by
  obtain ⟨t,e⟩:=Value.isStrOf_shape (x:=x) (v:=v) h;exact .inr ⟨x,t,rfl,e⟩
theorem SM (a b:Int):decide ((Sum.inl a:Key)=Sum.inl b)=(a==b):=by
 by_cases e:a=b
 ·subst e;simp
 ·have h:¬(Sum.inl a:Key)=Sum.inl b:=fun q=>e (Sum.inl.inj q);rw [decide_eq_false h];exact (beq_eq_false_iff_ne.mpr e).symm
theorem Tr (a b:Str):decide ((Sum.inr a:Key)=Sum.inr b)=decide (a=b):=by
 by_cases e:a=b
 ·subst e;simp
 ·have h:¬(Sum.inr a:Key)=Sum.inr b:=fun q=>e (Sum.inr.inj q);rw [decide_eq_false h,decide_eq_false e]
theorem Sk (a:Int) (b:Str):decide ((Sum.inl a:Key)=Sum.inr b)=false:=decide_eq_false (fun q=>nomatch q)
theorem SQ (a:Str) (b:Int):decide ((Sum.inr a:Key)=Sum.inl b)=false:=decide_eq_false (fun q=>nomatch q)
def LM (prog:Program) (w:World):PySem.KeyKind prog w Key where
 is:=Rk
 hash:=Yj w
 inj:=fun v a b ha hb=>by
  rcases fP ha with ⟨i,t,rfl,rfl⟩|⟨x,t,rfl,rfl⟩
  ·rcases fP hb with ⟨j,u,rfl,e⟩|⟨y,u,rfl,e⟩
   ·injection e with e1 _;rw [e1]
   ·exact nomatch e
  ·rcases fP hb with ⟨j,u,rfl,e⟩|⟨y,u,rfl,e⟩
   ·exact nomatch e
   ·injection e with e1 _;rw [e1]
 byValue:=fun k v h=>by
  rcases fP h with ⟨i,t,rfl,rfl⟩|⟨x,t,rfl,rfl⟩<;>rfl
 pyHash:=fun hv h=>by
  rcases fP hv with ⟨i,t,rfl,rfl⟩|⟨x,t,rfl,rfl⟩
  ·exact wpAny_pyHash_int h
  ·exact wpAny_pyHash_str h
 eqBool:=fun hu hv h=>by
  rcases fP hu with ⟨i,t,rfl,rfl⟩|⟨x,t,rfl,rfl⟩
  ·rcases fP hv with ⟨j,u,rfl,rfl⟩|⟨y,u,rfl,rfl⟩
   ·rw [SM] at h;exact wpAny_eqBool_int h
   ·rw [Sk] at h;exact SeqAt.EqAt.int_str i t y u _ _ _ _ h
  ·rcases fP hv with ⟨j,u,rfl,rfl⟩|⟨y,u,rfl,rfl⟩
   ·rw [SQ] at h;exact SeqAt.EqAt.str_int x t j u _ _ _ _ h
   ·rw [Tr] at h;exact wpAny_eqBool_str h
 «strs» :=fun k x t v h=>by
  rcases fP h with ⟨i,u,rfl,e⟩|⟨y,u,rfl,e⟩
  ·exact nomatch e
  ·injection e with e1 _
   subst e1
   cases v<;>rfl
end L2
namespace L2
open PySem PySem.Spec PyProof.Rows
inductive V where
 |de|bl (b:Bool)|int (i:Int)|str (x:Str)|Jq (b:Array UInt8)|WY (b:UInt64)|ref (a:Addr)|ty (n:String)
 deriving DecidableEq
def RelV:V→Value→Prop
 | .de,u=>u=Value.none
 | .bl b,u=>u=Value.bool b
 | .int i,u=>∃t,u=Value.int i t
 | .str x,u=>∃t,u=Value.str x t
 | .Jq b,u=>∃t,u=Value.bytes b t
 | .WY b,u=>∃t,u=Value.float b t
 | .ref a,u=>u=Value.ref a
 | .ty n,u=>u=Value.type n
abbrev Vals:List V→List Value→Prop:=Paired RelV
theorem Vals.length {xs:List V} {us:List Value} (r:Vals xs us):xs.length=us.length:=Paired.length r
theorem Vals.get:∀{xs:List V} {us:List Value} {i:Nat} {x:V},Vals xs us→xs[i]?=some x→∃u,us[i]?=some u∧RelV x u
 |_,_,_,_,.nil,e=>by simp at e
 |_,_,0,_,.cons r _,e=>by simp at e;subst e;exact ⟨_,rfl,r⟩
 |_,_,i+1,x,.cons _ t,e=>by
  obtain ⟨u,h1,h2⟩:=Vals.get (i:=i) (x:=x) t (by simpa using e);exact ⟨u,by simpa using h1,h2⟩
theorem Vals.set {x:V} {u:Value} (r:RelV x u):∀{xs:List V} {us:List Value} (i:Nat),Vals xs us→Vals (xs.set i x) (us.set i u)
 |_,_,_,.nil=>.nil
 |_,_,0,.cons _ t=>.cons r t
 |_,_,i+1,.cons q t=>.cons q (Vals.set r i t)
theorem Vals.append:∀{xs ys:List V} {us ws:List Value},Vals xs us→Vals ys ws→Vals (xs++ys) (us++ws)
 |_,_,_,_,.nil,s=>s
 |_,_,_,_,.cons r t,s=>.cons r (Vals.append t s)
theorem Vals.take:∀{xs:List V} {us:List Value} (n:Nat),Vals xs us→Vals (xs.take n) (us.take n)
 |_,_,0,_=>.nil
 |_,_,_+1,.nil=>.nil
 |_,_,n+1,.cons r t=>.cons r (Vals.take n t)
theorem Vals.drop:∀{xs:List V} {us:List Value} (n:Nat),Vals xs us→Vals (xs.drop n) (us.drop n)
 |_,_,0,r=>r
 |_,_,_+1,.nil=>.nil
 |_,_,n+1,.cons _ t=>Vals.drop n t
def D7:Option V→Option Value→Prop
 |some v,some u=>RelV v u
 |none,none=>True
 |_,_=>False
def KV {κ:Type}:List (κ×V)→List (κ×Value)→Prop:=Paired fun (p:κ×V) (q:κ×Value)=>p.1=q.1∧RelV p.2 q.2
def kV:Key→V
 | .inl i=>.int i
 | .inr x=>.str x
inductive HO where
 |lst (xs:List V)
 |tup (xs:List V)
 |dK (FJ:List (Key×V))|dT (FJ:List (List Key×V))
 |set (S:Int→Bool) (n:Nat)
 |ins (C dx:Addr) (fs:List (Str×V))
 |own (x:Addr)
 |xd (fs:List (Str×V))
 |met (f x:Addr)
 |XA (lo hi:Int)
 |sg (o:Obj) (u:HO)
 |Sj (ps:Array Value)
 |ext (φ:Heap→Prop)
abbrev Hp:=Addr→Option HO
def upd (H:Hp) (a:Addr) (o:HO):Hp:=fun b=>if b=a then some o else H b
theorem aA {H:Hp} {a:Addr} {o:HO}:upd H a o a=some o:=by unfold upd;rw [if_pos rfl]
theorem aF {H:Hp} {a b:Addr} {o:HO} (h:b≠a):upd H a o b=H b:=by unfold upd;rw [if_neg h]
theorem fC {H:Hp} {a:Addr} {o u:HO}:upd (upd H a o) a u=upd H a u:=by
 funext b;unfold upd;split<;>rfl
theorem pO {H:Hp} {a b:Addr} {o u:HO} (h:H a=some o) (h':H b=some u) (d:o≠u):a≠b:=by
 intro e;subst e;rw [h] at h';exact d (Option.some.inj h')
theorem aC {H:Hp} {a b:Addr} {o:HO} (h:H a=some o) (h':H b=none):a≠b:=by
 intro e;subst e;rw [h] at h';cases h'
section
variable (P:Program) (w:World)
def gY (H:Hp) (h:Heap) (a:Addr):HO→Prop
 | .lst xs=>xs.length≤sizeLine∧∃(bI:List Value) (n:Nat),Vals xs bI∧h.get? a=some { cls:= .type "list",data:= .seq bI.toArray n }
 | .tup xs=>xs.length≤sizeLine∧∃bI:List Value,Vals xs bI∧IsTup h a bI.toArray
 | .dK FJ=>FJ.length≤sizeLine∧(a==sysModules)=false∧∃vs,KV FJ vs∧h.DictOf (LM P w) a vs
 | .dT FJ=>FJ.length≤sizeLine∧(a==sysModules)=false∧∃xs:List (List Key×Addr×Value),
   Paired (fun (p:List Key×V) (q:List Key×Addr×Value)=>p.1=q.1∧H q.2.1=some (.tup (p.1.map kV))∧RelV p.2 q.2.2) FJ xs ∧
   ∃o es ep,h.get? a=some o∧o.ExactDict∧o.data=.dict es ep∧es.toList=xs.map (entryOfKey (tupleKind (LM P w)))∧(xs.map (·.1)).Nodup
 | .set S n=>h.SetOf (intKind P w) a S n
 | .ins C dx fs=>H dx=some (.own a)∧fs.length≤1000∧dx≠a∧h.get? a=some (PySem.W.instObj C dx) ∧
   ∃mA,h.Ns1 dx mA∧(∀f,D7 (fs.lookup f) (mA f))∧PySem.Within mA (fs.map (·.1))
 | .own _=>∃o,h.get? a=some o
 | .xd fs=>∃mA,h.Ns1 a mA∧∀f,D7 (fs.lookup f) (mA f)
 | .XA lo hi=>∃t u v,h.get? a=some { cls:= .type "range",data:= .fields #[.int lo t,.int hi u,.int 1 v] }
 | .sg o u=>h.get? a=some o∧gY H h a u
 | .Sj ps=>h.get? a=some { cls:= .none,data:= .fields ps }
 | .met f x=>h.get? a=some (PySem.W.methodObj (.ref f) (.ref x))
 | .ext φ=>φ h∧(∃o,h.get? a=some o)∧∀h1 h2:Heap,φ h1→(∀o,h1.get? a=some o→h2.get? a=some o)→φ h2
def wy (H:Hp) (h:Heap):Prop:=∀a o,H a=some o→gY P w H h a o
end
section
variable {P:Program} {w:World} {H H':Hp} {h h':Heap} {a:Addr} {o:HO}
theorem gY.lt (x:gY P w H h a o):a<h.objs.size:=by
 cases o with
 |lst xs=>obtain ⟨_,_,_,_,e⟩:=x;exact Heap.lt_size e
 |tup xs=>obtain ⟨_,_,_,p⟩:=x;exact p.lt
 |dK FJ=>obtain ⟨_,_,_,_,o,_,_,e,_⟩:=x;exact Heap.lt_size e
 |dT FJ=>obtain ⟨_,_,_,_,o,_,_,e,_⟩:=x;exact Heap.lt_size e
 |set S n=>obtain ⟨o,_,_,_,e,_⟩:=x;exact Heap.lt_size e
 |ins C dx fs=>obtain ⟨_,_,_,e,_⟩:=x;exact Heap.lt_size e
 |own y=>obtain ⟨_,e⟩:=x;exact Heap.lt_size e
 |xd fs=>obtain ⟨_,⟨_,_,_,e,_⟩,_⟩:=x;exact Heap.lt_size e
 |XA lo hi=>obtain ⟨_,_,_,e⟩:=x;exact Heap.lt_size e
 |sg ob u=>obtain ⟨e,_⟩:=x;exact Heap.lt_size e
 |Sj ps=>exact Heap.lt_size (show h.get? a=some _ from x)
 |met f y=>exact Heap.lt_size (show h.get? a=some _ from x)
 |ext φ=>obtain ⟨_,⟨_,e⟩,_⟩:=x;exact Heap.lt_size e
theorem Paired.Qe {α β:Type} {F G:α→β→Prop}:∀{l₁ :List α} {l₂ :List β},Paired F l₁ l₂ →(∀a b,F a b→G a b)→Paired G l₁ l₂
 |_,_,.nil,_=>.nil
 |_,_,.cons r t,f=>.cons (f _ _ r) (Paired.Qe t f)
theorem gY.DX (x:gY P w H h a o) (k:∀b u,(b=a∨H b=some (.own a))→h.get? b=some u→h'.get? b=some u)
  (ho:∀b,H b=some (.own a)→H' b=some (.own a)) (ht:∀b xs,H b=some (.tup xs)→H' b=some (.tup xs)):gY P w H' h' a o:=by
 induction o with
 |lst xs=>obtain ⟨z,bI,n,r,e⟩:=x;exact ⟨z,bI,n,r,k _ _ (.inl rfl) e⟩
 |tup xs=>obtain ⟨z,bI,r,ob,e,c⟩:=x;exact ⟨z,bI,r,ob,k _ _ (.inl rfl) e,c⟩
 |dK FJ=>obtain ⟨z,y,vs,r,ob,es,ep,e,c⟩:=x;exact ⟨z,y,vs,r,ob,es,ep,k _ _ (.inl rfl) e,c⟩
 |dT FJ =>
  obtain ⟨z,y,xs,r,ob,es,ep,e,c⟩:=x;exact ⟨z,y,xs,Paired.Qe r fun p q z=>⟨z.1,ht _ _ z.2.1,z.2.2⟩,ob,es,ep,k _ _ (.inl rfl) e,c⟩
 |set S n=>obtain ⟨ob,es,ep,t,e,c⟩:=x;exact ⟨ob,es,ep,t,k _ _ (.inl rfl) e,c⟩
 |ins C dx fs =>
  obtain ⟨d,z,ne,e,mA,⟨od,es,ep,e2,c⟩,r⟩:=x;exact ⟨ho _ d,z,ne,k _ _ (.inl rfl) e,mA,⟨od,es,ep,k _ _ (.inr d) e2,c⟩,r⟩
 |own y=>obtain ⟨ob,e⟩:=x;exact ⟨ob,k _ _ (.inl rfl) e⟩
 |xd fs=>obtain ⟨mA,⟨od,es,ep,e,c⟩,r⟩:=x;exact ⟨mA,⟨od,es,ep,k _ _ (.inl rfl) e,c⟩,r⟩
 |XA lo hi=>obtain ⟨t,u,v,e⟩:=x;exact ⟨t,u,v,k _ _ (.inl rfl) e⟩
 |sg ob u ih=>obtain ⟨e,q⟩:=x;exact ⟨k _ _ (.inl rfl) e,ih q⟩
 |Sj ps =>
  have e:h.get? a=some { cls:= .none,data:= .fields ps }:=x;show h'.get? a=some { cls:= .none,data:= .fields ps };exact k a _ (.inl rfl) e
 |met f y =>
  have e:h.get? a=some (PySem.W.methodObj (.ref f) (.ref y)):=x;show h'.get? a=some (PySem.W.methodObj (.ref f) (.ref y));exact k a _ (.inl rfl) e
 |ext φ=>obtain ⟨p,⟨o,e⟩,st⟩:=x;exact ⟨st _ _ p fun o q=>k _ _ (.inl rfl) q,⟨o,k _ _ (.inl rfl) e⟩,st⟩
theorem wy.lt (x:wy P w H h) (e:H a=some o):a<h.objs.size:=(x a o e).lt
theorem wy.fresh (x:wy P w H h) (e:h.objs.size≤a):H a=none:=by
 cases q:H a with
 |none=>rfl
 |some u=>exact absurd (Nat.lt_of_lt_of_le (x.lt q) e) (Nat.lt_irrefl _)
theorem wy.kept (x:wy P w H h) (k:∀b u,h.get? b=some u→h'.get? b=some u):wy P w H h':=fun a o e =>
 (x a o e).DX (fun b u _ q=>k b u q) (fun _ q=>q) fun _ _ q=>q
theorem wy.laid (x:wy P w H h) (k:∀b u,h.get? b=some u→h'.get? b=some u) (hp:h.objs.size≤a) (new:gY P w (upd H a o) h' a o):wy P w (upd H a o) h':=fun b u e=>by
 have hn:=x.fresh hp;by_cases hb:b=a
 ·subst hb;rw [aA] at e;cases e;exact new
 ·rw [aF hb] at e;exact (x b u e).DX (fun c v _ q=>k c v q) (fun c q=>by rw [aF (aC q hn)];exact q) fun c xs q=>by rw [aF (aC q hn)];exact q
end
def Rd (H:Hp) (a:Addr) (u:HO):Prop:=H a=some u∨∃o,H a=some (.sg o u)
theorem Rd.ok {P:Program} {w:World} {H:Hp} {h:Heap} {a:Addr} {u:HO} (r:Rd H a u) (x:wy P w H h):gY P w H h a u:=by
 rcases r with r|⟨o,r⟩
 ·exact x a u r
 ·obtain ⟨_,q⟩:=x a _ r;exact q
def Rz:Option HO→Prop
 |some (.lst _)=>True
 |some (.dK _)=>True
 |some (.dT _)=>True
 |some (.set _ _)=>True
 |some (.ins _ _ _)=>True
 |some (.ext _)=>True
 |_=>False
section
variable {P:Program} {w:World} {H:Hp} {h h':Heap} {x e:Addr} {o':HO}
theorem wy.write (ok:wy P w H h) (mu:Rz (H x)) (he:e=x∨H e=some (.own x)) (k:∀b u,b≠e→h.get? b=some u→h'.get? b=some u) (TY:∃u,h'.get? e=some u)
  (new:gY P w (upd H x o') h' x o'):wy P w (upd H x o') h':=fun b u q=>by
 have UC:∀c y,H c=some (.own y)→c≠x:=fun c y r z=>by subst z;rw [r] at mu;exact mu
 have Yk:∀c xs,H c=some (.tup xs)→c≠x:=fun c xs r z=>by subst z;rw [r] at mu;exact mu
 by_cases hb:b=x
 ·subst hb;rw [aA] at q;cases q;exact new
 ·rw [aF hb] at q;by_cases R9:b=e
  ·have q':H b=some (.own x):=by
    rcases he with z|z
    ·exact absurd (R9.trans z) hb
    ·rw [R9];exact z
   rw [q] at q';cases q';obtain ⟨v,hv⟩:=TY;exact ⟨v,by rw [R9];exact hv⟩
  ·refine (ok b u q).DX (fun c v hc r=>k c v ?_ r) (fun c r=>by rw [aF (UC c b r)];exact r) fun c xs r=>by rw [aF (Yk c xs r)];exact r
   rcases hc with rfl|hc
   ·exact R9
   ·rintro rfl;rcases he with z|z
    ·exact UC c b hc z
    ·rw [hc] at z;cases z;exact hb rfl
end
structure Un (fs ex:List Addr) (H H':Hp) (h h':Heap):Prop where
 keep:∀b o,h.get? b=some o→H b=none→b∉fs→b∉ex→h'.get? b=some o
 slot:∀b o,h.get? b=some o→H b=none→b∈fs→b∉ex→∃sl,h'.get? b=some { o with slots:=sl }
 free:∀b o,h.get? b=some o→H b=none→b∉ex→H' b=none
 there:∀b o,h.get? b=some o→b∉ex→∃o',h'.get? b=some o'
 Fu:∀b xs,H b=some (.tup xs)→H' b=some (.tup xs)
 C7:∀b o u,H b=some (.sg o u)→H' b=some (.sg o u)
 GD:∀b ps,H b=some (.Sj ps)→∃more,H' b=some (.Sj (ps++more))
section
variable {fs fs' ex ex':List Addr} {H H1 H2:Hp} {h h1 h2 h':Heap} {a x e:Addr} {o:HO}
theorem Un.any (u:Un fs ex H H1 h h1) {b:Addr} {ob:Obj} (q:h.get? b=some ob) (n:H b=none) (hx:b∉ex):∃sl,h1.get? b=some { ob with slots:=sl }:=by
 by_cases hb:b∈fs
 ·exact u.slot b ob q n hb hx
 ·exact ⟨ob.slots,u.keep b ob q n hb hx⟩
theorem Un.kept (k:∀b u,h.get? b=some u→h'.get? b=some u):Un fs ex H H h h' :=
 ⟨fun b ob q _ _ _=>k b ob q,fun b ob q _ _ _=>⟨ob.slots,k b ob q⟩,fun _ _ _ n _=>n,fun b ob q _=>⟨ob,k b ob q⟩,fun _ _ q=>q,fun _ _ _ q=>q,fun _ ps q=>⟨#[],by rw [q];simp⟩⟩
theorem Un.refl:Un fs ex H H h h:=Un.kept fun _ _ q=>q
theorem Un.laid (k:∀b u,h.get? b=some u→h'.get? b=some u) (hp:h.objs.size≤a) (hn:H a=none):Un fs ex H (upd H a o) h h' where
 keep:=fun b u q _ _ _=>k b u q
 slot:=fun b u q _ _ _=>⟨u.slots,k b u q⟩
 free:=fun b u q n _=>by rw [aF (Nat.ne_of_lt (Nat.lt_of_lt_of_le (Heap.lt_size q) hp))];exact n
 there:=fun b u q _=>⟨u,k b u q⟩
 Fu:=fun b xs q=>by rw [aF (aC q hn)];exact q
 C7:=fun b u xs q=>by rw [aF (aC q hn)];exact q
 GD:=fun b ps q=>⟨#[],by rw [aF (aC q hn),q];simp⟩
theorem Un.write (mu:Rz (H x)) (he:e=x∨H e=some (.own x)) (k:∀b u,b≠e→h.get? b=some u→h'.get? b=some u) (TY:∃u,h'.get? e=some u):Un fs ex H (upd H x o) h h':=by
 have hx:∀b,H b=none→b≠x:=fun b n z=>by subst z;rw [n] at mu;exact mu
 have hb:∀b,H b=none→b≠e:=fun b n z=>by
  subst z;rcases he with r|r
  ·exact hx b n r
  ·rw [n] at r;cases r
 have hm:∀b u,H b=some u→¬Rz (some u)→b≠x:=fun b u q nm z=>by subst z;rw [q] at mu;exact nm mu
 refine ⟨fun b u q n _ _=>k b u (hb b n) q,fun b u q n _ _=>⟨u.slots,k b u (hb b n) q⟩,fun b u q n _=>by rw [aF (hx b n)];exact n,fun b u q _=>?_,
  fun b xs q=>by rw [aF (hm b _ q fun z=>z)];exact q,fun b u xs q=>by rw [aF (hm b _ q fun z=>z)];exact q,fun b ps q=>⟨#[],by rw [aF (hm b _ q fun z=>z),q];simp⟩⟩
 by_cases R9:b=e
 ·subst R9;exact TY
 ·exact ⟨u,k b u R9 q⟩
end
def Wm (h:Heap) (H:Hp):List Addr:=(List.range h.objs.size).filter fun a=>(H a).isSome
def GJ (h:Heap) (H:Hp):Heap:=PySem.W.hideAll h (Wm h H)
theorem My (h:Heap) (H:Hp):(GJ h H).objs.size=h.objs.size:=PySem.W.hideAll_size _ _
theorem Nk {h:Heap} {H:Hp} {b:Addr} {o:Obj} (e:h.get? b=some o) (n:H b=none):(GJ h H).get? b=some o :=
 PySem.W.hideAll_get _ e fun hm=>by
  have q:(H b).isSome=true:=(List.mem_filter.mp hm).2;rw [n] at q;simp at q
theorem PU {h:Heap} {H:Hp} {b:Addr} {o:Obj} (e:(GJ h H).get? b=some o):h.get? b=some o∧H b=none:=by
 have e':h.get? b=some o:=PySem.W.of_hideAll (Wm h H) e;refine ⟨e',?_⟩
 cases q:H b with
 |none=>rfl
 |some x =>
  have hm:b∈Wm h H:=List.mem_filter.mpr ⟨List.mem_range.mpr (Heap.lt_size e'),by simp [q]⟩;have z:(GJ h H).get? b=none:=PySem.W.hideAll_none (Wm h H) hm;rw [z] at e;cases e
def Pz (g h:Heap) (L:Addr):List (Addr×Obj):=(List.range h.objs.size).filterMap fun a=>if a=L∨(g.get? a).isSome=true then none else (h.get? a).map fun o=>(a,o)
def rest (g h:Heap) (L d:Addr):List (Addr×Obj):=(Pz g h L).filter fun p=>decide (p.1≠d)
end L2
namespace L2
open PySem PySem.Spec PyProof.Rows
structure Mod (K:PySem.W.Frag) (mg:Str→Option Value) (base:Heap):Prop where
 VL:K.In base
 glob:base.Ns mainGlobals mg
 blt:∃mb,base.Ns builtinsNs mb∧∀x:Str,x≠"__name__"→mb x=bootBuiltins x
 nolimit:base.NoLimit
structure Cx where
 prog:Program
 w:World
 K:PySem.W.Frag
 mg:Str→Option Value
 base:Heap
 A:Around
 N:List Str
 Fb:Shared
 SU:Hp
 env:Env
 outer:List Env
 stack:List Env
 ex:List Addr
 fn:Str→Bool
 calm:Bool
 pn:List (Addr×Obj)
 xe:Value→Shared→Prop
def OZ (l:List Env):List Addr:=l.filterMap (·.frame)
abbrev Cx.fs (X:Cx):List Addr:=OZ X.outer
def T9 (sc:Scope) (x:Str):Prop:=sc.names.lookup x=some .local∨sc.names.lookup x=some .cell∨sc.names.lookup x=some .free
def Loc (sc:Scope) (x:Str):Prop:=sc.names.lookup x=some .local∨sc.names.lookup x=some .cell
def Look (env:Env) (h:Heap) (m:Str→Option Value) (x:Str) (u:Value):Prop :=
 (env.kindOf x=some .local∧m x=some u)∨((env.kindOf x=some .cell∨env.kindOf x=some .free)∧∃c,env.cells.lookup x=some c∧h.IsCell c (some u))
structure Cx.Ok (X:Cx):Prop where
 mod:Mod X.K X.mg X.base
 kind:X.env.scope.kind=.function
 glob:X.env.globals=mainGlobals
 blt:X.env.builtins=builtinsNs
 above:X.Fb.heap.objs.size≤X.env.locals
 inj:∀x y c,X.env.cells.lookup x=some c→X.env.cells.lookup y=some c→x=y
 has:∀x,(X.env.kindOf x=some .cell∨X.env.kindOf x=some .free)→∃c,X.env.cells.lookup x=some c
 UG:∀x c,X.fn x=true→X.env.cells.lookup x=some c→X.Fb.heap.objs.size≤c
 hd:X.calm=true→X.A.handled=none
 frames:X.A.frames=some X.stack
 W3:X.stack=X.outer∨(X.stack=X.env::X.outer∧X.env.frame=some X.env.locals)
 WI:∀b∈X.ex,b≠X.env.locals∧∀x c,X.env.cells.lookup x=some c→c≠b
 bs:∀b o,X.base.get? b=some o→X.Fb.heap.get? b=some o∧X.SU b=none
 O4:X.base.objs.size≤X.Fb.heap.objs.size
 Nb:∀b o,X.base.get? b=some o→b∉X.ex
 NC:∀b∈X.ex,b∉X.fs
 Bb:X.Fb.heap.FunFrames X.base X.outer
 TF:∀b∈X.fs,X.SU b=none
structure Inv (X:Cx) (pins:List (Addr×Obj)) (σ:List (Option V)) (H:Hp) (s:Shared):Prop where
 ok:X.Ok
 os:s.os=X.Fb.os
 bare:AllBare s.gens
 base:Un X.fs X.ex X.SU H X.Fb.heap s.heap
 loc:∃m,s.heap.Ns X.env.locals m∧∀(i:Nat) (x:Str) (v:V),X.N[i]?=some x→σ[i]?=some (some v)→T9 X.env.scope x→∃u,RelV v u∧Look X.env s.heap m x u
 cell:∀x c,X.env.cells.lookup x=some c→∃v,s.heap.IsCell c v
 free:H X.env.locals=none
 pH:∀x c,X.env.cells.lookup x=some c→H c=none
 pin:∀p∈X.pn++pins,s.heap.get? p.1=some p.2∧H p.1=none∧p.1≠X.env.locals∧p.1∉X.fs∧∀v,p.2.data≠ .cell v
 cZ:wy X.prog X.w H s.heap
 len:σ.length=X.N.length
section
variable {X:Cx} {pins:List (Addr×Obj)} {σ:List (Option V)} {H H':Hp} {s:Shared} {h':Heap}
theorem Cx.Ok.Xu (ok:X.Ok) {b:Addr} {o:Obj} (e:X.base.get? b=some o):b∉X.fs:=fun hb=>by
 have:=(ok.Bb.mem hb).1;rw [e] at this;cases this
theorem Inv.bs (I:Inv X pins σ H s):∀b o,X.base.get? b=some o→s.heap.get? b=some o∧H b=none:=fun b o e =>
 ⟨I.base.keep b o (I.ok.bs b o e).1 (I.ok.bs b o e).2 (I.ok.Xu e) (I.ok.Nb b o e),I.base.free b o (I.ok.bs b o e).1 (I.ok.bs b o e).2 (I.ok.Nb b o e)⟩
theorem Inv.bk (I:Inv X pins σ H s):∀b o,X.base.get? b=some o→s.heap.get? b=some o:=fun b o e=>(I.bs b o e).1
theorem Inv.mod (I:Inv X pins σ H s):Mod X.K X.mg X.base:=I.ok.mod
theorem Inv.Km (I:Inv X pins σ H s):X.K.In s.heap:=I.ok.mod.VL.keeps I.bk
theorem Inv.fr (I:Inv X pins σ H s):∃m,Fr X.base X.env.locals s.heap m :=
 let ⟨m,hn,_⟩:=I.loc
 ⟨m,hn,I.bk,Nat.le_trans I.ok.O4 I.ok.above⟩
theorem Inv.lt (I:Inv X pins σ H s):X.env.locals<s.heap.objs.size:=let ⟨_,hn,_⟩:=I.loc;hn.lt
theorem Inv.sz (I:Inv X pins σ H s):X.Fb.heap.objs.size≤s.heap.objs.size:=Nat.le_trans I.ok.above (Nat.le_of_lt I.lt)
theorem Inv.Yl (I:Inv X pins σ H s) {a:Addr} (h:s.heap.objs.size≤a):a∉X.fs:=fun hb=>by
 obtain ⟨_,o,ho,_⟩:=I.ok.Bb.mem hb;exact absurd (Nat.lt_of_lt_of_le (Heap.lt_size ho) (Nat.le_trans I.sz h)) (Nat.lt_irrefl _)
theorem Inv.RQ (I:Inv X pins σ H s):∀x c,X.env.cells.lookup x=some c→c≠X.env.locals:=fun x c e z=>by
 obtain ⟨v,o,ho,hd⟩:=I.cell x c e;obtain ⟨m,⟨o',es,ep,K4,Xz,_⟩,_⟩:=I.loc;rw [z,K4] at ho;cases ho;rw [Xz] at hd;cases hd
theorem Inv.Bb (I:Inv X pins σ H s):s.heap.FunFrames X.base X.outer:=by
 have all:∀(l:List Env),(∀b∈OZ l,b∈X.fs)→X.Fb.heap.FunFrames X.base l→s.heap.FunFrames X.base l:=by
  intro l
  induction l with
  |nil=>intro _ _;trivial
  |cons env r ih =>
   intro hs hl;obtain ⟨hk,⟨L,o,hf,hn,ho,hd⟩,hr⟩:=hl;have hL:L∈X.fs:=hs L (by unfold OZ;rw [List.filterMap_cons,hf];exact List.mem_cons_self);obtain ⟨sl,e⟩:=I.base.slot L o ho (I.ok.TF L hL) hL fun z=>I.ok.NC L z hL;exact ⟨hk,⟨L,_,hf,hn,e,hd⟩,ih (fun b hb=>hs b (by unfold OZ;rw [List.filterMap_cons,hf];exact List.mem_cons_of_mem _ hb)) hr⟩
 exact all X.outer (fun _ hb=>hb) I.ok.Bb
theorem Inv.stack (I:Inv X pins σ H s):s.heap.FunFrames X.base X.stack:=by
 rcases I.ok.W3 with e|⟨e,hf⟩
 ·rw [e];exact I.Bb
 ·rw [e];obtain ⟨m,hn,_⟩:=I.loc;refine .cons (by rw [I.ok.kind];decide) hf hn ?_ I.Bb;exact Heap.get?_none_of_le (Nat.le_trans I.ok.O4 I.ok.above)
theorem Inv.KD (I:Inv X pins σ H s):∀b∈OZ X.stack,b∈X.env.locals::X.fs:=fun b hb=>by
 rcases I.ok.W3 with e|⟨e,hf⟩
 ·rw [e] at hb;exact List.mem_cons_of_mem _ hb
 ·rw [e] at hb;unfold OZ at hb;rw [List.filterMap_cons,hf] at hb;exact hb
theorem Inv.Lz (I:Inv X pins σ H s):∀b∈OZ X.stack,H b=none:=fun b hb=>by
 rcases List.mem_cons.mp (I.KD b hb) with e|hb
 ·rw [e];exact I.free
 ·obtain ⟨_,o,ho,_⟩:=I.ok.Bb.mem hb;exact I.base.free b o ho (I.ok.TF b hb) fun z=>I.ok.NC b z hb
theorem Inv.step {g':Array GenState} {t':Nat} {d':Drawn} {ch:List Addr} (I:Inv X pins σ H s)
  (Pb:∀b∈ch,(b∈X.ex∨X.Fb.heap.objs.size≤b)∧b≠X.env.locals∧(∀x c,X.env.cells.lookup x=some c→c≠b)∧∀p∈X.pn++pins,p.1≠b)
  (keep:∀b o,b≠X.env.locals→b∉X.fs→b∉ch→s.heap.get? b=some o→H b=none→h'.get? b=some o)
  (slot:∀b o,b≠X.env.locals→b∈X.fs→b∉ch→s.heap.get? b=some o→H b=none→∃sl,h'.get? b=some { o with slots:=sl }) (free:∀b o,b∉ch→s.heap.get? b=some o→H b=none→H' b=none)
  (there:∀b o,b∉ch→s.heap.get? b=some o→∃o',h'.get? b=some o')
  (Fu:∀b xs,H b=some (.tup xs)→H' b=some (.tup xs)) (C7:∀b o u,H b=some (.sg o u)→H' b=some (.sg o u)) (GD:∀b ps,H b=some (.Sj ps)→∃more,H' b=some (.Sj (ps++more)))
  (ns:∀m,s.heap.Ns X.env.locals m→h'.Ns X.env.locals m) (cZ:wy X.prog X.w H' h') (hg:AllBare g') :
  Inv X pins σ H' { s with heap:=h',gens:=g',drawn:=d',toks:=t' }:=by
 have Y4:∀b o,X.Fb.heap.get? b=some o→b≠X.env.locals:=fun b o e=>Nat.ne_of_lt (Nat.lt_of_lt_of_le (Heap.lt_size e) I.ok.above);have WL:∀b o,X.Fb.heap.get? b=some o→b∉X.ex→b∉ch:=fun b o e hx hb=>by
  rcases (Pb b hb).1 with z|z
  ·exact hx z
  ·exact absurd (Nat.lt_of_lt_of_le (Heap.lt_size e) z) (Nat.lt_irrefl _)
 have cellK:∀x c,X.env.cells.lookup x=some c→∀v,s.heap.IsCell c v→h'.IsCell c v:=fun x c e v ⟨o,ho,hd⟩=>by
  have VE:c∉ch:=fun z=>(Pb c z).2.2.1 x c e rfl;by_cases hc:c∈X.fs
  ·obtain ⟨sl,q⟩:=slot c o (I.RQ x c e) hc VE ho (I.pH x c e);exact ⟨_,q,hd⟩
  ·exact ⟨o,keep c o (I.RQ x c e) hc VE ho (I.pH x c e),hd⟩
 refine ⟨I.ok,I.os,hg,⟨fun b o e n hb hx=>?_,fun b o e n hb hx=>?_,fun b o e n hx=>?_,fun b o e hx=>?_,fun b xs e=>Fu b xs (I.base.Fu b xs e),fun b o xs e=>C7 b o xs (I.base.C7 b o xs e),fun b ps e=>?_⟩,?_,fun x c e=>?_,?_,fun x c e=>?_,fun p hp=>?_,cZ,I.len⟩
 ·exact keep b o (Y4 b o e) hb (WL b o e hx) (I.base.keep b o e n hb hx) (I.base.free b o e n hx)
 ·obtain ⟨sl,e1⟩:=I.base.slot b o e n hb hx;obtain ⟨sl',e2⟩:=slot b _ (Y4 b o e) hb (WL b o e hx) e1 (I.base.free b o e n hx);exact ⟨sl',e2⟩
 ·obtain ⟨o',e1⟩:=I.base.there b o e hx;exact free b o' (WL b o e hx) e1 (I.base.free b o e n hx)
 ·obtain ⟨o',e1⟩:=I.base.there b o e hx;exact there b o' (WL b o e hx) e1
 ·obtain ⟨m1,e1⟩:=I.base.GD b ps e;obtain ⟨m2,e2⟩:=GD b _ e1;exact ⟨m1++m2,by rw [e2,Array.append_assoc]⟩
 ·obtain ⟨m,hn,hl⟩:=I.loc;refine ⟨m,ns m hn,fun i x v e1 e2 e3=>?_⟩;obtain ⟨u,r,l⟩:=hl i x v e1 e2 e3;refine ⟨u,r,?_⟩;rcases l with l|⟨k,c,e,z⟩
  ·exact .inl l
  ·exact .inr ⟨k,c,e,cellK x c e _ z⟩
 ·obtain ⟨v,z⟩:=I.cell x c e;exact ⟨v,cellK x c e v z⟩
 ·obtain ⟨m,⟨o,_,_,ho,_⟩,_⟩:=I.loc;exact free _ o (fun z=>(Pb _ z).2.1 rfl) ho I.free
 ·obtain ⟨v,o,ho,hd⟩:=I.cell x c e;exact free c o (fun z=>(Pb c z).2.2.1 x c e rfl) ho (I.pH x c e)
 ·obtain ⟨e,n,ne,nf,d⟩:=I.pin p hp;have VE:p.1∉ch:=fun z=>(Pb p.1 z).2.2.2 p hp rfl;exact ⟨keep p.1 p.2 ne nf VE e n,free p.1 p.2 VE e n,ne,nf,d⟩
theorem Inv.un {t':Nat} (I:Inv X pins σ H s) (u:Un X.fs [] H H' s.heap h') (cZ:wy X.prog X.w H' h'):Inv X pins σ H' { s with heap:=h',toks:=t' }:=by
 obtain ⟨m,⟨o,es,ep,ho,r⟩,_⟩:=id I.loc;obtain ⟨sl,hL⟩:=u.any ho I.free (by simp);exact I.step (g':=s.gens) (d':=s.drawn) (ch:=[]) (fun _ z=>nomatch z) (fun b o _ hb _ e n=>u.keep b o e n hb (by simp)) (fun b o _ hb _ e n=>u.slot b o e n hb (by simp)) (fun b o _ e n=>u.free b o e n (by simp)) (fun b o _ e=>u.there b o e (by simp)) u.Fu u.C7 u.GD (fun m' hm=>by
  obtain ⟨o',SO,VP,K4,r'⟩:=hm;rw [ho] at K4;cases K4;exact ⟨_,SO,VP,hL,r'⟩) cZ I.bare
theorem Inv.call {g':Array GenState} {t':Nat} {d':Drawn} {ch:List Addr} (I:Inv X pins σ H s) (u:Un (OZ X.stack) ch H H' s.heap h') (cZ:wy X.prog X.w H' h') (hg:AllBare g')
  (Pb:∀b∈ch,(b∈X.ex∨X.Fb.heap.objs.size≤b)∧b≠X.env.locals∧(∀x c,X.env.cells.lookup x=some c→c≠b)∧∀p∈X.pn++pins,p.1≠b) :
  Inv X pins σ H' { s with heap:=h',gens:=g',drawn:=d',toks:=t' }:=by
 obtain ⟨m,⟨o,es,ep,ho,r⟩,_⟩:=id I.loc;obtain ⟨sl,hL⟩:=u.any ho I.free fun z=>(Pb _ z).2.1 rfl;exact I.step (ch:=ch) Pb (fun b o hL hb hc e n=>u.keep b o e n (fun z=>(List.mem_cons.mp (I.KD b z)).elim hL hb) hc) (fun b o _ _ hc e n=>u.any e n hc) (fun b o hc e n=>u.free b o e n hc) (fun b o hc e=>u.there b o e hc) u.Fu u.C7 u.GD (fun m' hm=>by
  obtain ⟨o',SO,VP,K4,r'⟩:=hm;rw [ho] at K4;cases K4;exact ⟨_,SO,VP,hL,r'⟩) cZ hg
theorem Inv.turned {t':Nat} {it:Addr} (I:Inv X pins σ H s) (k:∀b o,b≠it→s.heap.get? b=some o→h'.get? b=some o) (hn:H it=none) (hL:it≠X.env.locals)
  (h1:it∈X.ex∨X.Fb.heap.objs.size≤it) (h2:∀x c,X.env.cells.lookup x=some c→c≠it) (h3:∀p∈X.pn++pins,p.1≠it):Inv X pins σ H { s with heap:=h',toks:=t' }:=by
 have Q6:∀b u,H b=some u→b≠it:=fun b u e z=>by rw [z,hn] at e;cases e
 refine I.step (g':=s.gens) (d':=s.drawn) (ch:=[it]) (fun b hb=>?_) (fun b o _ _ hc e _=>k b o (fun z=>hc (by simp [z])) e) (fun b o _ _ hc e _=>⟨o.slots,k b o (fun z=>hc (by simp [z])) e⟩) (fun _ _ _ _ n=>n)
  (fun b o hc e=>⟨o,k b o (fun z=>hc (by simp [z])) e⟩) (fun _ _ e=>e) (fun _ _ _ e=>e) (fun b ps e=>⟨#[],by rw [e];simp⟩) (fun m hm=>?_) (fun b u e=>?_) I.bare
 ·have e:b=it:=by simpa using hb
  subst e;exact ⟨h1,hL,h2,h3⟩
 ·obtain ⟨o,es,ep,ho,r⟩:=hm;exact ⟨o,es,ep,k _ o (Ne.symm hL) ho,r⟩
 ·refine (I.cZ b u e).DX (fun c v hc q=>k c v ?_ q) (fun _ q=>q) fun _ _ q=>q;rcases hc with z|z
  ·rw [z];exact Q6 b u e
  ·exact Q6 c _ z
theorem Inv.tok (I:Inv X pins σ H s) (t:Nat):Inv X pins σ H { s with toks:=t }:=I.un (h':=s.heap) (t':=t) Un.refl I.cZ
theorem Inv.kept {t':Nat} (I:Inv X pins σ H s) (k:∀b u,s.heap.get? b=some u→h'.get? b=some u):Inv X pins σ H { s with heap:=h',toks:=t' }:=I.un (Un.kept k) (I.cZ.kept k)
theorem Inv.laid {a:Addr} {o:HO} {t':Nat} (I:Inv X pins σ H s) (k:∀b u,s.heap.get? b=some u→h'.get? b=some u) (hp:s.heap.objs.size≤a) (new:gY X.prog X.w (upd H a o) h' a o) :
  Inv X pins σ (upd H a o) { s with heap:=h',toks:=t' }:=I.un (Un.laid k hp (I.cZ.fresh hp)) (I.cZ.laid k hp new)
theorem Inv.write {x e:Addr} {o:HO} {t':Nat} (I:Inv X pins σ H s) (mu:Rz (H x)) (he:e=x∨H e=some (.own x)) (k:∀b u,b≠e→s.heap.get? b=some u→h'.get? b=some u) (TY:∃u,h'.get? e=some u)
  (new:gY X.prog X.w (upd H x o) h' x o):Inv X pins σ (upd H x o) { s with heap:=h',toks:=t' }:=I.un (Un.write mu he k TY) (I.cZ.write mu he k TY new)
theorem Inv.weak {σ':List (Option V)} (I:Inv X pins σ H s) (hl:σ'.length=σ.length) (w:∀(i:Nat) v,σ'[i]?=some (some v)→σ[i]?=some (some v)):Inv X pins σ' H s :=
 ⟨I.ok,I.os,I.bare,I.base,let ⟨m,hn,KL⟩:=I.loc;⟨m,hn,fun i x v e1 e2 e3=>KL i x v e1 (w i v e2) e3⟩,I.cell,I.free,I.pH,I.pin,I.cZ,hl.trans I.len⟩
theorem Inv.Lj {Q5:List (Addr×Obj)} (I:Inv X pins σ H s) (h:∀p∈Q5,s.heap.get? p.1=some p.2∧H p.1=none∧p.1≠X.env.locals∧p.1∉X.fs∧∀v,p.2.data≠ .cell v):Inv X Q5 σ H s :=
 ⟨I.ok,I.os,I.bare,I.base,I.loc,I.cell,I.free,I.pH,fun p hp=>(List.mem_append.mp hp).elim (fun z=>I.pin p (List.mem_append_left _ z)) (h p),I.cZ,I.len⟩
theorem Cu {N:List Str} (hN:N.Nodup) {i j:Nat} {x:Str} (a:N[i]?=some x) (b:N[j]?=some x):i=j:=by
 obtain ⟨h1,e1⟩:=List.getElem?_eq_some_iff.mp a;obtain ⟨h2,e2⟩:=List.getElem?_eq_some_iff.mp b;exact (List.getElem_inj hN).mp (e1.trans e2.symm)
theorem Eo {M:Model} {A:Around} {E:Value→Shared→Prop} {i:Nat} {x:Str} {v:V} {u:Value} {Q:Unit→Shared→Prop} (I:Inv X pins σ H s) (hN:X.N.Nodup) (hi:X.N[i]?=some x) (hx:Loc X.env.scope x) (r:RelV v u)
  (h:∀s',Inv X pins (σ.set i (some v)) H s'→(∃a,Heap.SameBut a s.heap s'.heap∧(a=X.env.locals∨X.env.cells.lookup x=some a))→Q () s') (hf:X.fn x=true∨X.env.scope.names.lookup x=some .local:=by first|exact .inl rfl|exact .inr rfl|assumption):wpAny M A (storeName X.env x u) Q E s:=by
 obtain ⟨m,hn,hl⟩:=id I.loc;have Yg:(X.env.scope.kind== .class||(X.env.scope.kind== .module&&X.env.locals !=X.env.globals))=false:=by rw [I.ok.kind];rfl
 have hiσ:i<σ.length:=by rw [I.len];exact (List.getElem?_eq_some_iff.mp hi).1
 have RQ:=I.RQ;have tracked:∀{a:Addr} {h':Heap},(∃o,s.heap.get? a=some o∧H a=none)→Heap.SameBut a s.heap h'→wy X.prog X.w H h':=fun {a h'} ha hs b ob e=>by
  obtain ⟨_,_,ED⟩:=ha;refine (I.cZ b ob e).DX (fun c w' hc q=>(hs.2 c ?_).trans q) (fun _ q=>q) fun _ _ q=>q;rintro rfl;rcases hc with rfl|hc
  ·rw [ED] at e;cases e
  ·rw [ED] at hc;cases hc
 rcases hx with hk|hk
 ·refine wpAny_storeName_local hk hn (fun h' hn' hs=>?_) Yg;obtain ⟨oL,_,_,hoL,_⟩:=id hn;refine h _ ⟨I.ok,I.os,I.bare,⟨fun b o e n hb hx=>?_,fun b o e n hb hx=>?_,I.base.free,fun b o e hx=>?_,I.base.Fu,I.base.C7,I.base.GD⟩,⟨_,hn',fun j y v' e1 e2 e3=>?_⟩,fun y c e=>?_,I.free,I.pH,fun p hp=>?_,tracked ⟨oL,hoL,I.free⟩ hs,by simpa using I.len⟩ ⟨_,hs,.inl rfl⟩
  ·exact (hs.2 b (Nat.ne_of_lt (Nat.lt_of_lt_of_le (Heap.lt_size e) I.ok.above))).trans (I.base.keep b o e n hb hx)
  ·obtain ⟨sl,e1⟩:=I.base.slot b o e n hb hx;exact ⟨sl,(hs.2 b (Nat.ne_of_lt (Nat.lt_of_lt_of_le (Heap.lt_size e) I.ok.above))).trans e1⟩
  ·obtain ⟨o',e1⟩:=I.base.there b o e hx;exact ⟨o',(hs.2 b (Nat.ne_of_lt (Nat.lt_of_lt_of_le (Heap.lt_size e) I.ok.above))).trans e1⟩
  ·by_cases hj:j=i
   ·subst hj;rw [hi] at e1;cases e1;rw [List.getElem?_set_self hiσ] at e2
    cases e2;exact ⟨u,r,.inl ⟨hk,by simp⟩⟩
   ·rw [List.getElem?_set_ne (Ne.symm hj)] at e2;obtain ⟨u',r',q⟩:=hl j y v' e1 e2 e3;refine ⟨u',r',?_⟩;rcases q with ⟨k,e⟩|⟨k,c,e,z⟩
    ·refine .inl ⟨k,?_⟩;have:y≠x:=fun e=>hj (Cu hN e1 (e ▸ hi));simp [this,e]
    ·exact .inr ⟨k,c,e,z.sameBut hs (RQ y c e)⟩
  ·obtain ⟨w',z⟩:=I.cell y c e;exact ⟨w',z.sameBut hs (RQ y c e)⟩
  ·obtain ⟨e,n,ne,nf,d⟩:=I.pin p hp;exact ⟨(hs.2 p.1 ne).trans e,n,ne,nf,d⟩
 ·have XD:X.fn x=true:=by
   rcases hf with z|z
   ·exact z
   ·rw [z] at hk;cases hk
  obtain ⟨c,hc⟩:=I.ok.has x (.inl hk);obtain ⟨w',z⟩:=I.cell x c hc;refine wpAny_storeName_cell I.ok.kind hk hc z (fun h' Zg hs=>?_);obtain ⟨oc,Zb,W7⟩:=id z;refine h { s with heap:=h' } ⟨I.ok,I.os,I.bare,⟨fun b o e n hb hx=>?_,fun b o e n hb hx=>?_,I.base.free,fun b o e hx=>?_,I.base.Fu,I.base.C7,I.base.GD⟩,⟨m,hn.sameBut hs (Ne.symm (RQ x c hc)),fun j y v' e1 e2 e3=>?_⟩,fun y c' e=>?_,I.free,I.pH,fun p hp=>?_,tracked ⟨oc,Zb,I.pH x c hc⟩ hs,by simpa using I.len⟩ ⟨c,hs,.inr hc⟩
  ·exact (hs.2 b (Nat.ne_of_lt (Nat.lt_of_lt_of_le (Heap.lt_size e) (I.ok.UG x c XD hc)))).trans (I.base.keep b o e n hb hx)
  ·obtain ⟨sl,e1⟩:=I.base.slot b o e n hb hx;exact ⟨sl,(hs.2 b (Nat.ne_of_lt (Nat.lt_of_lt_of_le (Heap.lt_size e) (I.ok.UG x c XD hc)))).trans e1⟩
  ·obtain ⟨o',e1⟩:=I.base.there b o e hx;exact ⟨o',(hs.2 b (Nat.ne_of_lt (Nat.lt_of_lt_of_le (Heap.lt_size e) (I.ok.UG x c XD hc)))).trans e1⟩
  ·by_cases hj:j=i
   ·subst hj;rw [hi] at e1;cases e1;rw [List.getElem?_set_self hiσ] at e2
    cases e2;exact ⟨u,r,.inr ⟨.inl hk,c,hc,Zg⟩⟩
   ·rw [List.getElem?_set_ne (Ne.symm hj)] at e2;obtain ⟨u',r',q⟩:=hl j y v' e1 e2 e3;refine ⟨u',r',?_⟩;rcases q with q|⟨k,c',e,z'⟩
    ·exact .inl q
    ·refine .inr ⟨k,c',e,z'.sameBut hs ?_⟩;rintro rfl;exact hj (Cu hN e1 (I.ok.inj _ _ _ e hc ▸ hi))
  ·by_cases UX:c'=c
   ·subst UX;exact ⟨_,Zg⟩
   ·obtain ⟨w2,z2⟩:=I.cell y c' e;exact ⟨w2,z2.sameBut hs UX⟩
  ·obtain ⟨e,n,ne,nf,d⟩:=I.pin p hp;refine ⟨(hs.2 p.1 ?_).trans e,n,ne,nf,d⟩;intro q;rw [q,Zb] at e;have q':oc=p.2:=Option.some.inj e;exact d w' (by rw [←q'];exact W7)
theorem BO {M:Model} {A:Around} {E:Value→Shared→Prop} {i:Nat} {x:Str} {v:V} {u:Value} {Q:Unit→Shared→Prop} (I:Inv X pins σ H s) (hN:X.N.Nodup) (hi:X.N[i]?=some x) (hx:Loc X.env.scope x) (r:RelV v u)
  (h:∀s',Inv X pins (σ.set i (some v)) H s'→Q () s') (hf:X.fn x=true∨X.env.scope.names.lookup x=some .local:=by first|exact .inl rfl|exact .inr rfl|assumption):wpAny M A (storeName X.env x u) Q E s :=
 Eo I hN hi hx r (fun s' I' _=>h s' I') hf
theorem Inv.VX {s':Shared} {ch:List Addr} (I:Inv X pins σ H s) (ho:s'.os=s.os) (u:Un (OZ X.stack) ch H H' s.heap s'.heap) (cZ:wy X.prog X.w H' s'.heap) (hg:AllBare s'.gens)
  (Pb:∀b∈ch,(b∈X.ex∨X.Fb.heap.objs.size≤b)∧b≠X.env.locals∧(∀x c,X.env.cells.lookup x=some c→c≠b)∧∀p∈X.pn++pins,p.1≠b):Inv X pins σ H' s':=by
 obtain ⟨h',g',d',t',o'⟩:=s';have e:o'=s.os:=ho;subst e;exact I.call (g':=g') (t':=t') (d':=d') u cZ hg Pb
end
abbrev XK:=Value→Option Addr→Hp→Prop
abbrev St:=List (Option V)
abbrev VK:=V→Hp→Prop
abbrev TE:=St→Hp→VK→Prop
abbrev TT:=St→Hp→(Bool→Hp→Prop)→Prop
abbrev TA:=St→Hp→(List V→Hp→Prop)→Prop
structure Ends where
 nx:St→Hp→Prop
 rt:VK
 bk:St→Hp→Prop:=fun _ _=>False
 ct:St→Hp→Prop:=fun _ _=>False
abbrev TS:=Ends→St→Hp→Prop
def EP (X:Cx) (pins:List (Addr×Obj)) (σ:St) (Q:VK) (u:Value) (s':Shared):Prop:=∃v H',Inv X pins σ H' s'∧RelV v u∧Q v H'
def TP (X:Cx) (pins:List (Addr×Obj)) (σ:St) (Q:Bool→Hp→Prop) (b:Bool) (s':Shared):Prop:=∃H',Inv X pins σ H' s'∧Q b H'
def AP (X:Cx) (pins:List (Addr×Obj)) (σ:St) (Q:List V→Hp→Prop) (us:List Value) (s':Shared):Prop:=∃vs H',Inv X pins σ H' s'∧Vals vs us∧Q vs H'
def SP (X:Cx) (pins:List (Addr×Obj)) (D:Ends) (f:Flow) (s':Shared):Prop :=
 match f with
 | .next=>∃σ' H',Inv X pins σ' H' s'∧D.nx σ' H'
 | .brk=>∃σ' H',Inv X pins σ' H' s'∧D.bk σ' H'
 | .cont=>∃σ' H',Inv X pins σ' H' s'∧D.ct σ' H'
 | .ret u=>∃v σ' H',Inv X pins σ' H' s'∧RelV v u∧D.rt v H'
def PE (X:Cx) (e:Expr) (t:TE):Prop :=
 ∀(pins:List (Addr×Obj)) (s:Shared) (σ:St) (H:Hp) (Q:VK),Inv X pins σ H s→t σ H Q→wpAny (model X.prog X.w) X.A (eval e X.env) (EP X pins σ Q) X.xe s
def PT (X:Cx) (e:Expr) (t:TT):Prop :=
 ∀(pins:List (Addr×Obj)) (s:Shared) (σ:St) (H:Hp) (Q:Bool→Hp→Prop),Inv X pins σ H s→t σ H Q→wpAny (model X.prog X.w) X.A (isTrue e X.env (eval e X.env)) (TP X pins σ Q) X.xe s
def PW (X:Cx) (e:Expr) (t:TT):Prop :=
 ∀(whole:Sem Value) (pins:List (Addr×Obj)) (s:Shared) (σ:St) (H:Hp) (Q:Bool→Hp→Prop),Inv X pins σ H s→t σ H Q→wpAny (model X.prog X.w) X.A (isTrue e X.env whole) (TP X pins σ Q) X.xe s
theorem PW.pt {X:Cx} {e:Expr} {t:TT} (h:PW X e t):PT X e t:=h _
def PA (X:Cx) (es:List Expr) (t:TA):Prop :=
 ∀(pos:Pos) (pins:List (Addr×Obj)) (s:Shared) (σ:St) (H:Hp) (Q:List V→Hp→Prop),Inv X pins σ H s→t σ H Q→wpAny (model X.prog X.w) X.A (spliced (backTo pos (starEach es X.env))) (AP X pins σ Q) X.xe s
def PS (X:Cx) (st:Stmt) (t:TS):Prop :=
 ∀(pins:List (Addr×Obj)) (s:Shared) (σ:St) (H:Hp) (D:Ends),Inv X pins σ H s→t D σ H→wpAny (model X.prog X.w) X.A (exec st X.env) (SP X pins D) X.xe s
def G7 (X:Cx) (st:List Stmt) (t:TS):Prop :=
 ∀(pins:List (Addr×Obj)) (s:Shared) (σ:St) (H:Hp) (D:Ends),Inv X pins σ H s→t D σ H→wpAny (model X.prog X.w) X.A (execs st X.env) (SP X pins D) X.xe s
theorem fm {α:Type} {t:Sem α} {Q Q':α→Shared→Prop} {M:Model} {A:Around} {E:Value→Shared→Prop} {s:Shared} (h:wpAny M A t Q E s) (hQ:∀a s,Q a s→Q' a s):wpAny M A t Q' E s:=wpAny_mono h hQ fun _ _ x=>x
end L2
namespace L2
open PySem PySem.Spec PyProof.Rows
section
variable {X:Cx}
theorem bin {a b:Expr} {ta tb:TE} (ha:PE X a ta) (hb:PE X b tb) {pins:List (Addr×Obj)} {s:Shared} {σ:St} {H:Hp} {R:V→V→Hp→Prop} (I:Inv X pins σ H s) (h:ta σ H fun x H1=>tb σ H1 fun y H2=>R x y H2)
  {α:Type} {Q:α→Shared→Prop} {f:Value→Value→Sem α}
  (hf:∀v u s2 x y H2,Inv X pins σ H2 s2→RelV x v→RelV y u→R x y H2→wpAny (model X.prog X.w) X.A (f v u) Q X.xe s2) :
  wpAny (model X.prog X.w) X.A (eval a X.env) (fun v s₁ =>wpAny (model X.prog X.w) X.A (eval b X.env) (fun u s₂ =>wpAny (model X.prog X.w) X.A (f v u) Q X.xe s₂) X.xe s₁) X.xe s:=by
 refine fm (ha pins s σ H _ I h) fun v s1 z1=>?_;obtain ⟨x,H1,I1,r1,q1⟩:=z1;refine fm (hb pins s1 σ H1 _ I1 q1) fun u s2 z1=>?_;obtain ⟨y,H2,I2,r2,q2⟩:=z1;exact hf v u s2 x y H2 I2 r1 r2 q2
def f0 (Q:VK) (H:Hp) (o:Option (Option V)):Prop:=match o with|some (some v)=>Q v H|_=>False
theorem f0_e {Q H o} (h:f0 Q H o):∃v,o=some (some v)∧Q v H:=by
 rcases o with _|_|v;exact h.elim;exact h.elim;exact ⟨v,rfl,h⟩
def yC (i:Nat):TE:=fun σ H Q=>f0 Q H (σ[i]?)
def tC (v:V):TE:=fun _ H Q=>Q v H
theorem RM {i:Nat} {x:Str} {pos:Pos} (hN:X.N[i]?=some x) (hv:T9 X.env.scope x) (hd:(x==("__debug__":Str))=false:=by decide) (Qn:(x==("__classdict__":Str))=false:=by decide):PE X (.Name x pos) (yC i):=by
 intro pins s σ H Q I h;obtain ⟨v,e,h⟩:=f0_e h;obtain ⟨m,hn,hl⟩:=I.loc;obtain ⟨u,r,l⟩:=hl i x v hN e hv;have fin:EP X pins σ Q u s:=⟨v,H,I,r,h⟩;rcases l with ⟨hk,hm⟩|⟨hk,c,hc,Li⟩
 ·exact wpAny_Name (wpAny_loadName_local I.ok.kind hk hn hm fin) hd
 ·rcases hk with hk|hk
  ·exact wpAny_Name (wpAny_loadName_cell I.ok.kind hk hc Li fin) hd
  ·exact wpAny_Name (wpAny_loadName_free I.ok.kind hk hc Li fin Qn) hd
theorem aI {i j pos}:PE X (.Constant (.int i) j pos) (tC (.int i)):=fun _ _ _ H _ I h=>wpAny_Constant_int ⟨.int i,H,I.tok _,⟨_,rfl⟩,h⟩
theorem kh {b j pos}:PE X (.Constant (.bool b) j pos) (tC (.bl b)):=fun _ _ _ H _ I h=>Constant_bool ⟨.bl b,H,I,rfl,h⟩
theorem aS {j pos}:PE X (.Constant .none j pos) (tC .de):=fun _ _ _ H _ I h=>Constant_none ⟨.de,H,I,rfl,h⟩
def Gl (X:Cx) (x:Str):Prop:=X.env.kindOf x=some .globalImplicit
theorem Bd {E:Value→Shared→Prop} {pins:List (Addr×Obj)} {s:Shared} {σ:St} {H:Hp} {x:Str} {u:Value} {pos:Pos} {Q:Value→Shared→Prop} (I:Inv X pins σ H s) (hg:Gl X x) (hm:X.mg x=some u) (h:Q u s)
  (hd:(x==("__debug__":Str))=false:=by decide):wpAny (model X.prog X.w) X.A (eval (.Name x pos) X.env) Q E s :=
 Calls.Name_function_global I.ok.kind hg (Calls.loadGlobal_global (by rw [I.ok.glob];exact I.mod.glob.keeps I.bk) hm h) hd
theorem vZ {E:Value→Shared→Prop} {pins:List (Addr×Obj)} {s:Shared} {σ:St} {H:Hp} {x:Str} {u:Value} {pos:Pos} {Q:Value→Shared→Prop} (I:Inv X pins σ H s) (hg:Gl X x) (hm:X.mg x=none) (hv:bootBuiltins x=some u) (h:Q u s)
  (hn:x≠"__name__":=by decide) (hd:(x==("__debug__":Str))=false:=by decide):wpAny (model X.prog X.w) X.A (eval (.Name x pos) X.env) Q E s:=by
 obtain ⟨mb,h1,h2⟩:=I.mod.blt;exact Calls.Name_function_global I.ok.kind hg (Calls.loadGlobal_builtin (by rw [I.ok.glob];exact I.mod.glob.keeps I.bk) hm (by rw [I.ok.blt];exact h1.keeps I.bk) ((h2 x hn).trans hv) h) hd
theorem Lc {x:Str} {v:V} {u:Value} {pos:Pos} (hg:Gl X x) (hm:X.mg x=some u) (r:RelV v u) (hd:(x==("__debug__":Str))=false:=by decide):PE X (.Name x pos) (tC v) :=
 fun _ _ _ H _ I h=>Bd I hg hm ⟨v,H,I,r,h⟩ hd
variable {a b:Expr} {ta tb:TE} {pos:Pos}
def PC (X:Cx) (op:CmpOp) (a b:Expr) (t:TE):Prop :=
 ∀(pins:List (Addr×Obj)) (s:Shared) (σ:St) (H:Hp) (Q:VK),Inv X pins σ H s→t σ H Q →
  wpAny (model X.prog X.w) X.A (eval a X.env) (fun v s₁ =>wpAny (model X.prog X.w) X.A (eval b X.env) (fun u s₂ =>wpAny (model X.prog X.w) X.A (compareOp op v u) (EP X pins σ Q) X.xe s₂) X.xe s₁) X.xe s
theorem OJ (b:Expr) {op:CmpOp} (h:op≠ .In) (h2:op≠ .NotIn):behindInMarks op b=false:=by
 have e1:(op==CmpOp.In)=false:=by cases op<;>first|rfl|exact absurd rfl h
 have e2:(op==CmpOp.NotIn)=false:=by cases op<;>first|rfl|exact absurd rfl h2
 cases b<;>simp [behindInMarks,e1,e2]
def e1 (Q:Bool→Hp→Prop) (x:V) (H1:Hp):Prop:=match x with|.bl k=>Q k H1|_=>False
theorem e1_e {Q x H} (h:e1 Q x H):∃k,x=.bl k∧Q k H:=by
 cases x with
 |bl k=>exact ⟨k,rfl,h⟩
 |_=>exact h.elim
def tB (t:TE):TT:=fun σ H Q=>t σ H (e1 Q)
theorem Sy {op:CmpOp} {t:TE} (h:PC X op a b t) (h1:behindInMarks op b=false:=by first|exact OJ _ (by decide) (by decide)|rfl):PT X (.Compare a [op] [b] pos) (tB t):=by
 intro pins s σ H Q I hw;refine wpAny_isTrue_Compare1 (fm (h pins s σ H _ I hw) fun v s1 h1=>fm h1 fun u s2 h2=>fm h2 fun c s3 z1=>?_) h1;obtain ⟨x,H1,I1,r1,q1⟩:=z1;obtain ⟨d,rfl,q⟩:=e1_e q1
 cases r1;exact wpAny_truthy_bool ⟨H1,I1,q⟩
theorem bZ {e:Expr} {t:TE} (h:PE X e t) (he:∀whole,isTrue e X.env whole=(do let v←whole;standAt e.pos;holding [v] (truthy v)):=by intro _;rfl):PT X e (tB t):=by
 intro pins s σ H Q I hw;refine isTrue_plain (fm (h pins s σ H _ I hw) fun v s1 z1=>?_) (he _);obtain ⟨x,H1,I1,r1,q1⟩:=z1;obtain ⟨d,rfl,q⟩:=e1_e q1
 cases r1;exact wpAny_truthy_bool ⟨H1,I1,q⟩
variable {tA WW:TT} {rest:List Expr}
def U0 (t u:TT):TT:=fun σ H Q=>t σ H fun c H1=>if c=true then u σ H1 Q else Q false H1
def Zq (t u:TT):TT:=fun σ H Q=>t σ H fun c H1=>if c=true then Q true H1 else u σ H1 Q
def US (t:TT):TT:=fun σ H Q=>t σ H fun c H1=>Q (!c) H1
theorem jm (ha:PT X a tA):PW X (.BoolOp .And [a] pos) tA:=by
 intro wh pins s σ H Q I h;refine isTrue_and (fm (ha pins s σ H Q I h) fun c s1 e=>?_)
 cases c with
 |true=>exact isTrue_and_nil e
 |false=>exact e
theorem oZ (ha:PT X a tA):PW X (.BoolOp .Or [a] pos) tA:=by
 intro wh pins s σ H Q I h;refine isTrue_or (fm (ha pins s σ H Q I h) fun c s1 e=>?_)
 cases c with
 |false=>exact isTrue_or_nil e
 |true=>exact e
theorem jb (ha:PT X a tA) (hb:PW X (.BoolOp .And (b::rest) pos) WW):PW X (.BoolOp .And (a::b::rest) pos) (U0 tA WW):=by
 intro wh pins s σ H Q I h;refine isTrue_and (fm (ha pins s σ H _ I h) fun c s1 z1=>?_);obtain ⟨H1,I1,q1⟩:=z1
 cases c with
 |true=>exact hb wh pins s1 σ H1 Q I1 q1
 |false=>exact ⟨H1,I1,q1⟩
theorem rC (ha:PT X a tA) (hb:PW X (.BoolOp .Or (b::rest) pos) WW):PW X (.BoolOp .Or (a::b::rest) pos) (Zq tA WW):=by
 intro wh pins s σ H Q I h;refine isTrue_or (fm (ha pins s σ H _ I h) fun c s1 z1=>?_);obtain ⟨H1,I1,q1⟩:=z1
 cases c with
 |true=>exact ⟨H1,I1,q1⟩
 |false=>exact hb wh pins s1 σ H1 Q I1 q1
theorem gu (ha:PT X a tA):PT X (.UnaryOp .Not a pos) (US tA):=by
 intro pins s σ H Q I h;exact isTrue_not (ha pins s σ H (fun c H1=>Q (!c) H1) I h)
def Rw (ta tb:TE):TE:=fun σ H Q=>ta σ H fun x H1=>∃c,x=.bl c∧if c=true then tb σ H1 Q else Q (.bl false) H1
def VH (ta tb:TE):TE:=fun σ H Q=>ta σ H fun x H1=>∃c,x=.bl c∧if c=true then Q (.bl true) H1 else tb σ H1 Q
theorem gA {op} {t:TE} (h:PE X a t):PE X (.BoolOp op [a] pos) t:=fun pins s σ H Q I hw=>BoolOp_one (h pins s σ H Q I hw)
theorem gB (ha:PE X a ta) (hb:PE X (.BoolOp .And (b::rest) pos) tb):PE X (.BoolOp .And (a::b::rest) pos) (Rw ta tb):=by
 intro pins s σ H Q I h;refine BoolOp_and (fm (ha pins s σ H _ I h) fun v s1 z1=>?_);obtain ⟨x,H1,I1,r1,q1⟩:=z1;obtain ⟨c,rfl,q1⟩:=q1
 cases r1;refine wpAny_truthy_bool ?_
 cases c with
 |true=>exact hb pins s1 σ H1 Q I1 q1
 |false=>exact ⟨.bl false,H1,I1,rfl,q1⟩
theorem IX (ha:PE X a ta) (hb:PE X (.BoolOp .Or (b::rest) pos) tb):PE X (.BoolOp .Or (a::b::rest) pos) (VH ta tb):=by
 intro pins s σ H Q I h;refine BoolOp_or (fm (ha pins s σ H _ I h) fun v s1 z1=>?_);obtain ⟨x,H1,I1,r1,q1⟩:=z1;obtain ⟨c,rfl,q1⟩:=q1
 cases r1;refine wpAny_truthy_bool ?_
 cases c with
 |false=>exact hb pins s1 σ H1 Q I1 q1
 |true=>exact ⟨.bl true,H1,I1,rfl,q1⟩
def YM (t:TT) (ta tb:TE):TE:=fun σ H Q=>t σ H fun c H1=>if c=true then ta σ H1 Q else tb σ H1 Q
theorem dh {c:Expr} (hc:PT X c tA) (ha:PE X a ta) (hb:PE X b tb):PE X (.IfExp c a b pos) (YM tA ta tb):=by
 intro pins s σ H Q I h;refine wpAny_IfExp (fm (hc pins s σ H _ I h) fun d s1 z1=>?_);obtain ⟨H1,I1,q1⟩:=z1
 cases d with
 |true=>exact ha pins s1 σ H1 Q I1 q1
 |false=>exact hb pins s1 σ H1 Q I1 q1
end
end L2
namespace L2
open PySem PySem.Spec PyProof.Rows
def kd (K:PySem.W.Frag) (H:Hp) (a:Addr) (xs:List V):Prop :=
 Rd H a (.lst xs) ∨
  ∃(o:Obj) (bI:Array Value) (n:Nat),K.lookup a=some o∧o.cls=.type "list"∧o.dict=none∧o.data=.seq bI n∧bI.size≤sizeLine∧Vals xs bI.toList
def n6 (K:PySem.W.Frag) (H:Hp) (a:Addr) (xs:List V):Prop :=
 Rd H a (.tup xs) ∨
  ∃(o:Obj) (bI:Array Value) (n:Nat),K.lookup a=some o∧o.cls=.type "tuple"∧o.data=.seq bI n∧bI.size≤sizeLine∧Vals xs bI.toList
def X1:Value→Option V
 | .none=>some .de
 | .bool b=>some (.bl b)
 | .int i _=>some (.int i)
 | .str x _=>some (.str x)
 | .bytes b _=>some (.Jq b)
 | .float b _=>some (.WY b)
 | .ref a=>some (.ref a)
 | .type n=>some (.ty n)
 |_=>none
theorem RelV.abs {x:V} {u:Value} (r:RelV x u):X1 u=some x:=by
 cases x with
 |de=>cases r;rfl
 |bl _=>cases r;rfl
 |int _=>obtain ⟨t,rfl⟩:=r;rfl
 |str _=>obtain ⟨t,rfl⟩:=r;rfl
 |Jq _=>obtain ⟨t,rfl⟩:=r;rfl
 |WY _=>obtain ⟨t,rfl⟩:=r;rfl
 |ref _=>cases r;rfl
 |ty _=>cases r;rfl
theorem RelV.inj {x y:V} {u:Value} (r:RelV x u) (q:RelV y u):x=y:=Option.some.inj (r.abs.symm.trans q.abs)
theorem Vals.inj:∀{xs ys:List V} {us:List Value},Vals xs us→Vals ys us→xs=ys
 |_,_,_,.nil,.nil=>rfl
 |_,_,_,.cons r t,.cons r' t'=>by rw [r.inj r',Vals.inj t t']
section
variable {X:Cx} {pins:List (Addr×Obj)} {σ:St} {H:Hp} {s:Shared} {a:Addr} {xs ys:List V}
theorem kd.of {K:PySem.W.Frag} (h:H a=some (.lst xs)):kd K H a xs:= .inl (.inl h)
theorem n6.of {K:PySem.W.Frag} (h:H a=some (.tup xs)):n6 K H a xs:= .inl (.inl h)
theorem Inv.list (I:Inv X pins σ H s) (h:kd X.K H a xs):∃bI:List Value,Vals xs bI∧PlainL s.heap a bI.toArray∧xs.length≤sizeLine:=by
 rcases h with h|⟨o,bI,n,hk,hc,hd,hs,hz,r⟩
 ·obtain ⟨z,bI,n,r,e⟩:=h.ok I.cZ;exact ⟨bI,r,⟨_,n,e,rfl,rfl,rfl⟩,z⟩
 ·refine ⟨bI.toList,r,⟨o,n,I.Km a o hk,hc,hd,by simpa using hs⟩,?_⟩;have e:=r.length;simp only [Array.length_toList] at e;omega
theorem Inv.tuple (I:Inv X pins σ H s) (h:n6 X.K H a xs):∃bI:List Value,Vals xs bI∧IsTup s.heap a bI.toArray∧xs.length≤sizeLine:=by
 rcases h with h|⟨o,bI,n,hk,hc,hs,hz,r⟩
 ·obtain ⟨z,bI,r,p⟩:=h.ok I.cZ;exact ⟨bI,r,p,z⟩
 ·refine ⟨bI.toList,r,⟨o,I.Km a o hk,hc,n,by simpa using hs⟩,?_⟩;have e:=r.length;simp only [Array.length_toList] at e;omega
theorem Inv.t7 (I:Inv X pins σ H s) (h:kd X.K H a xs) (h':kd X.K H a ys):xs=ys:=by
 obtain ⟨bI,r,⟨o,n,e,_,_,d⟩,_⟩:=I.list h;obtain ⟨its',r',⟨o',n',e',_,_,d'⟩,_⟩:=I.list h';rw [e] at e';cases e';rw [d] at d'
 injection d' with d1 _
 have:bI=its':=by simpa using congrArg Array.toList d1
 subst this;exact r.inj r'
theorem Inv.Mh (I:Inv X pins σ H s) (h:n6 X.K H a xs) (h':n6 X.K H a ys):xs=ys:=by
 obtain ⟨bI,r,⟨o,e,_,n,d⟩,_⟩:=I.tuple h;obtain ⟨its',r',⟨o',e',_,n',d'⟩,_⟩:=I.tuple h';rw [e] at e';cases e';rw [d] at d'
 injection d' with d1 _
 have:bI=its':=by simpa using congrArg Array.toList d1
 subst this;exact r.inj r'
end
abbrev Cx.DN (X:Cx) (E:Value→Shared→Prop):Cx:={ X with xe:=E }
abbrev Cx.Pj (X:Cx):Cx:=X.DN fun _ _=>False
theorem Cx.Ok.DN {X:Cx} (ok:X.Ok) (E:Value→Shared→Prop):(X.DN E).Ok :=
 ⟨ok.mod,ok.kind,ok.glob,ok.blt,ok.above,ok.inj,ok.has,ok.UG,ok.hd,ok.frames,ok.W3,ok.WI,ok.bs,ok.O4,ok.Nb,ok.NC,ok.Bb,ok.TF⟩
theorem Cx.Ok.sH {X:Cx} {E:Value→Shared→Prop} (ok:(X.DN E).Ok):X.Ok :=
 ⟨ok.mod,ok.kind,ok.glob,ok.blt,ok.above,ok.inj,ok.has,ok.UG,ok.hd,ok.frames,ok.W3,ok.WI,ok.bs,ok.O4,ok.Nb,ok.NC,ok.Bb,ok.TF⟩
section
variable {X:Cx} {pins:List (Addr×Obj)} {σ:St} {H:Hp} {s:Shared} {E:Value→Shared→Prop}
theorem Inv.DN (I:Inv X pins σ H s) (E:Value→Shared→Prop):Inv (X.DN E) pins σ H s:=⟨I.ok.DN E,I.os,I.bare,I.base,I.loc,I.cell,I.free,I.pH,I.pin,I.cZ,I.len⟩
theorem Inv.sH (I:Inv (X.DN E) pins σ H s):Inv X pins σ H s:=⟨I.ok.sH,I.os,I.bare,I.base,I.loc,I.cell,I.free,I.pH,I.pin,I.cZ,I.len⟩
theorem SP.sH {D:Ends} {f:Flow} {s':Shared} (h:SP (X.DN E) pins D f s'):SP X pins D f s':=by
 cases f with
 |next=>obtain ⟨σ',H',I,q⟩:=h;exact ⟨σ',H',I.sH,q⟩
 |brk=>obtain ⟨σ',H',I,q⟩:=h;exact ⟨σ',H',I.sH,q⟩
 |cont=>obtain ⟨σ',H',I,q⟩:=h;exact ⟨σ',H',I.sH,q⟩
 |ret u=>obtain ⟨v,σ',H',I,r,q⟩:=h;exact ⟨v,σ',H',I.sH,r,q⟩
theorem G7.Pj {st:List Stmt} {t:TS} (h:G7 X.Pj st t):G7 X st t:=fun pins s σ H D I hw =>
 wpAny_mono (h pins s σ H D (I.DN _) hw) (fun _ _ q=>q.sH) fun _ _ z=>False.elim z
end
section
variable {X:Cx} {st:Stmt} {rest:List Stmt} {t u:TS} {e:Expr} {te:TE} {pos:Pos}
def Rl:TS:=fun D σ H=>D.nx σ H
def Vo (t u:TS):TS:=fun D σ H=>t { D with nx:=u D } σ H
theorem aJ:G7 X [] Rl:=fun _ _ σ H _ I h=>wpAny_execs_nil ⟨σ, H,I,h⟩
theorem ae (h1:PS X st t) (h2:G7 X rest u):G7 X (st::rest) (Vo t u):=by
 intro pins s σ H D I h;refine wpAny_execs_cons (fm (h1 pins s σ H { D with nx:=u D } I h) fun f s1 q=>?_)
 cases f with
 |next =>
  obtain ⟨σ',H',I',q⟩:=q;exact h2 pins s1 σ' H' D I' q
 |ret v=>exact q
 |brk=>exact q
 |cont=>exact q
theorem ah (h1:PS X st t):G7 X [st] t:=by
 intro pins s σ H D I h;refine wpAny_execs_cons (fm (h1 pins s σ H D I h) fun f s1 q=>?_)
 cases f with
 |next=>exact wpAny_execs_nil q
 |ret v=>exact q
 |brk=>exact q
 |cont=>exact q
theorem Inv.quiet {pins:List (Addr×Obj)} {σ:St} {H:Hp} {s:Shared} (I:Inv X pins σ H s):interactive X.env=false:=by simp [interactive,I.ok.kind]
def Q2 (te:TE):TS:=fun D σ H=>te σ H fun _ H1=>D.nx σ H1
theorem b8 (he:PE X e te) (hs:swapsWith e none pos.line X.env=pure false:=by rfl):PS X (.Expr e pos) (Q2 te):=by
 intro pins s σ H D I h;exact wpAny_Expr_any (fm (he pins s σ H _ I h) fun v s1 z1=>by obtain ⟨x,H1,I1,r1,q1⟩:=z1;exact ⟨σ, H1,I1,q1⟩) I.quiet hs
def SW (te:TE):TS:=fun D σ H=>te σ H D.rt
theorem au (he:PE X e te):PS X (.Return (some e) pos) (SW te):=by
 intro pins s σ H D I h;exact wpAny_Return_some (fm (he pins s σ H _ I h) fun v s1 z1=>by obtain ⟨x,H1,I1,r1,q1⟩:=z1;exact ⟨x,σ, H1,I1,r1,q1⟩)
def VN (c:TT) (t u:TS):TS:=fun D σ H=>c σ H fun b H1=>if b=true then t D σ H1 else u D σ H1
theorem aY {c:Expr} {a b:List Stmt} {tc:TT} (hc:PT X c tc) (ha:G7 X a t) (hb:G7 X b u):PS X (.If c a b pos) (VN tc t u):=by
 intro pins s σ H D I h;refine wpAny_If (fm (hc pins s σ H _ I h) fun d s1 z1=>?_);obtain ⟨H1,I1,q1⟩:=z1
 cases d with
 |true=>exact ha pins s1 σ H1 D I1 q1
 |false=>exact hb pins s1 σ H1 D I1 q1
end
abbrev TG:=V→St→Hp→(St→Hp→Prop)→Prop
abbrev NR:=List V→St→Hp→(St→Hp→Prop)→Prop
def PG (X:Cx) (target:Expr) (t:TG):Prop :=
 ∀(pins:List (Addr×Obj)) (s:Shared) (σ:St) (H:Hp) (v:V) (u:Value) (Q:St→Hp→Prop),Inv X pins σ H s→RelV v u→t v σ H Q →
  wpAny (model X.prog X.w) X.A (assign target X.env u) (fun _ s'=>∃σ' H',Inv X pins σ' H' s'∧Q σ' H') X.xe s
def UA (X:Cx) (ts:List Expr) (t:NR):Prop :=
 ∀(pins:List (Addr×Obj)) (s:Shared) (σ:St) (H:Hp) (vs:List V) (us:List Value) (Q:St→Hp→Prop),Inv X pins σ H s→Vals vs us→t vs σ H Q →
  wpAny (model X.prog X.w) X.A (assignInOrder ((assignEach ts X.env).map (·.2)) us) (fun _ s'=>∃σ' H',Inv X pins σ' H' s'∧Q σ' H') X.xe s
abbrev PB:=V→V→V→Hp→(Hp→Prop)→Prop
def UL (X:Cx) (t:PB):Prop :=
 ∀(pins:List (Addr×Obj)) (s:Shared) (σ:St) (H:Hp) (o i v:V) (ov iv u:Value) (Q:Hp→Prop),Inv X pins σ H s→RelV o ov→RelV i iv→RelV v u→t o i v H Q →
  wpAny (model X.prog X.w) X.A (setItem ov iv u) (fun _ s'=>∃H',Inv X pins σ H' s'∧Q H') X.xe s
abbrev VD:=V→V→Hp→VK→Prop
def Zo (X:Cx) (op:Operator) (t:VD):Prop :=
 ∀(pins:List (Addr×Obj)) (s:Shared) (σ:St) (H:Hp) (x y:V) (v u:Value) (Q:VK),Inv X pins σ H s→RelV x v→RelV y u→t x y H Q →
  wpAny (model X.prog X.w) X.A (inplaceOp op v u) (EP X pins σ Q) X.xe s
section
variable {X:Cx} {pos:Pos}
def Em (i:Nat):TG:=fun v σ H Q=>Q (σ.set i (some v)) H
theorem aK {i:Nat} {x:Str} (hN:X.N.Nodup) (hi:X.N[i]?=some x) (hx:Loc X.env.scope x) (hf:X.fn x=true∨X.env.scope.names.lookup x=some .local:=by first|exact .inl rfl|exact .inr rfl|assumption):PG X (.Name x pos) (Em i):=by
 intro pins s σ H v u Q I r h;exact wpAny_assign_Name (BO I hN hi hx r (fun s' I'=>⟨_,H,I',h⟩) hf)
def VW:NR:=fun vs σ H Q=>vs=[]∧Q σ H
def QU (t:TG) (u:NR):NR:=fun vs σ H Q=>∃v r,vs=v::r∧t v σ H fun σ' H'=>u r σ' H' Q
theorem fD:UA X [] VW:=by
 intro pins s σ H vs us Q I r h;obtain ⟨e,h⟩:=h;subst e
 cases r;exact assignInOrder_nil ⟨σ, H,I,h⟩
theorem bq {e:Expr} {es:List Expr} {t:TG} {u:NR} (h1:PG X e t) (h2:UA X es u)
  (hs:(assignEach (e::es) X.env).map (·.2)=assign e X.env::(assignEach es X.env).map (·.2):=by rfl):UA X (e::es) (QU t u):=by
 intro pins s σ H vs us Q I r h;obtain ⟨v,vr,e1,h⟩:=h;subst e1
 cases r with
 |cons r rr =>
  rw [hs];refine assignInOrder_cons (fm (h1 pins s σ H _ _ _ I r h) fun _ s1 z1=>?_);obtain ⟨σ1,H1,I1,q1⟩:=z1;exact h2 pins s1 σ1 H1 _ _ Q I1 rr q1
def X6 (K:PySem.W.Frag) (n:Nat) (t:NR):TG:=fun v σ H Q=>∃a xs,v=.ref a∧n6 K H a xs∧xs.length=n∧t xs σ H Q
theorem Sh {es:List Expr} {k:Nat} {t:NR} {n:Nat} (hc:X.calm=true) (h:UA X es t)
  (hn:(assignEach es X.env).length=n:=by rfl) (VG:(assignEach es X.env).findIdx? (·.1)=none:=by rfl):PG X (.Tuple es k pos) (X6 X.K n t):=by
 intro pins s σ H v u Q I r hw;obtain ⟨a,xs,e1,hq,hl,hw⟩:=hw;subst e1
 cases r;obtain ⟨bI,rv,ht,hz⟩:=I.tuple hq;refine assign_Tuple_tuple (I.ok.hd hc) ht (by simp [hn, ←hl,rv.length]) VG fun h' hx=>?_;have I1:Inv X pins σ H { s with heap:=h' }:=I.kept (t':=s.toks) fun b o e=>hx b o (Nat.ne_of_lt (Heap.lt_size e)) e;exact h pins _ σ H xs _ Q I1 (by simpa using rv) hw
def Uz (to ti:TE) (t:PB):TG:=fun v σ H Q=>to σ H fun o H1=>ti σ H1 fun i H2=>t o i v H2 fun H3=>Q σ H3
theorem GQ {o i:Expr} {to ti:TE} {t:PB} (ho:PE X o to) (hi:PE X i ti) (hs:UL X t)
  (ha:∀v,assign (.Subscript o i pos) X.env v=(do
   let ov←holding [v] (eval o X.env)
   let iv←holding [v,ov] (eval i X.env)
   standAt pos
   holding [v,ov,iv] (setItem ov iv v)
   release [v,ov,iv] []):=by intro _;rfl):PG X (.Subscript o i pos) (Uz to ti t):=by
 intro pins s σ H v u Q I r h;rw [ha];refine wpAny_bind (wpAny_holding (fm (ho pins s σ H _ I h) fun ov s1 z1=>?_));obtain ⟨x,H1,I1,r1,q1⟩:=z1;refine wpAny_bind (wpAny_holding (fm (hi pins s1 σ H1 _ I1 q1) fun iv s2 z1=>?_));obtain ⟨y,H2,I2,r2,q2⟩:=z1;refine wpAny_bind (wpAny_standAt (wpAny_bind (wpAny_holding (fm (hs pins s2 σ H2 x y v ov iv u _ I2 r1 r2 r q2) fun _ s3 z1=>?_))));obtain ⟨H3,I3,q3⟩:=z1;exact wpAny_release ⟨σ, H3,I3,q3⟩
def Pt (te:TE) (g:TG):TS:=fun D σ H=>te σ H fun x H1=>g x σ H1 D.nx
theorem Gi {tg e:Expr} {te:TE} {g:TG} (he:PE X e te) (hg:PG X tg g) (hs:swapsWithSole [tg] e pos.line X.env=pure false:=by rfl) (hw:swappedStores [tg] e X.env=pure none:=by rfl)
  (h1:(assignEach [tg] X.env).map (·.2)=[assign tg X.env]:=by rfl):PS X (.Assign [tg] e pos) (Pt te g):=by
 intro pins s σ H D I h;refine wpAny_Assign_stores (fm (he pins s σ H _ I h) fun v s1 z1=>?_) hs hw;obtain ⟨x,H1,I1,r1,q1⟩:=z1;rw [h1];exact fm (hg pins s1 σ H1 x v _ I1 r1 q1) fun _ s2 q=>q
theorem aN {i:Nat} {x:Str} {e:Expr} {te:TE} {pos':Pos} (hN:X.N.Nodup) (hi:X.N[i]?=some x) (hx:Loc X.env.scope x) (he:PE X e te) (hs:swapsWith e (some (.Name x pos')) pos.line X.env=pure false:=by rfl) (hf:X.fn x=true∨X.env.scope.names.lookup x=some .local:=by first|exact .inl rfl|exact .inr rfl|assumption) :
  PS X (.Assign [.Name x pos'] e pos) (Pt te (Em i)):=by
 intro pins s σ H D I h;refine wpAny_Assign_Name (fm (he pins s σ H _ I h) fun v s1 z1=>?_) hs;obtain ⟨y,H1,I1,r1,q1⟩:=z1;exact BO I1 hN hi hx r1 (fun s2 I2=>⟨_,H1,I2,q1⟩) hf
def Vz (i:Nat) (te:TE) (ti:VD):TS:=fun D σ H=>∃x,σ[i]?=some (some x)∧te σ H fun y H1=>ti x y H1 fun z H2=>D.nx (σ.set i (some z)) H2
theorem TH {i:Nat} {x:Str} {e:Expr} {te:TE} {op:Operator} {ti:VD} {pos':Pos} (hN:X.N.Nodup) (hi:X.N[i]?=some x) (hx:Loc X.env.scope x) (he:PE X e te) (ho:Zo X op ti) (hf:X.fn x=true∨X.env.scope.names.lookup x=some .local:=by first|exact .inl rfl|exact .inr rfl|assumption) :
  PS X (.AugAssign (.Name x pos') op e pos) (Vz i te ti):=by
 intro pins s σ H D I h;obtain ⟨v,e1,h⟩:=h;obtain ⟨m,hn,hl⟩:=I.loc;have vis:T9 X.env.scope x:=by rcases hx with k|k;exact .inl k;exact .inr (.inl k)
 obtain ⟨u,r,l⟩:=hl i x v hi e1 vis;refine wpAny_AugAssign_Name ?_;have go:wpAny (model X.prog X.w) X.A (eval e X.env) (fun w s₂ =>wpAny (model X.prog X.w) X.A (inplaceOp op u w) (fun r s₃ =>wpAny (model X.prog X.w) X.A (storeName X.env x r) (fun _=>SP X pins D .next) X.xe s₃) X.xe s₂) X.xe s:=by
  refine fm (he pins s σ H _ I h) fun w s1 z1=>?_;obtain ⟨y,H1,I1,r1,q1⟩:=z1;refine fm (ho pins s1 σ H1 v y u w _ I1 r r1 q1) fun z s2 z1=>?_;obtain ⟨zv,H2,I2,r2,q2⟩:=z1;exact BO I2 hN hi hx r2 (fun s3 I3=>⟨_,H2,I3,q2⟩) hf
 rcases l with ⟨hk,hm⟩|⟨hk,c,hc,Li⟩
 ·exact wpAny_loadName_local I.ok.kind hk hn hm go
 ·rcases hk with hk|hk
  ·exact wpAny_loadName_cell I.ok.kind hk hc Li go
  ·rcases hx with k|k
   ·have:X.env.scope.names.lookup x=some .free:=hk;rw [k] at this;cases this
   ·have:X.env.scope.names.lookup x=some .free:=hk;rw [k] at this;cases this
def Zl (f:Int→Int→Int):VD:=fun x y H Q=>∃i j,x=.int i∧y=.int j∧Q (.int (f i j)) H
theorem SV:Zo X .Add (Zl fun i j=>i+j):=by
 intro pins s σ H x y v u Q I r1 r2 h;obtain ⟨i,j,e1,e2,q⟩:=h;subst e1;subst e2;obtain ⟨t,rfl⟩:=r1;obtain ⟨t',rfl⟩:=r2;exact iadd_int ⟨.int _,H,I.tok _,⟨_,rfl⟩,q⟩
end
section
variable {X:Cx} {pos:Pos}
def OM (c:TT) (tb:TS):TS:=fun D σ H=>∃W:Nat→St→Hp→Prop,(∃m,W m σ H)∧∀m σ H,W m σ H →
 c σ H fun b H1=>if b=true then ∃N:St→Hp→Prop,(∀σ' H',N σ' H'→∃m',m'<m∧W m' σ' H')∧tb { D with nx:=N,ct:=N,bk:=D.nx } σ H1 else D.nx σ H1
theorem xu {c:Expr} {body:List Stmt} {tc:TT} {tb:TS} (hp:PassesOwn (model X.prog X.w) X.A X.env X.xe) (hc:PT X c tc) (hb:G7 X body tb):PS X (.While c body [] pos) (OM tc tb):=by
 intro pins s σ H D I h;obtain ⟨W,⟨m0,w0⟩,turn⟩:=h;refine wpAny_While (codeAny_whileLoop (fun n s'=>∃σ' H',Inv X pins σ' H' s'∧W n σ' H') ?_ m0 ⟨σ, H,I,w0⟩);rintro n s1 ⟨σ1,H1,I1,w1⟩;refine wpAny_passesOwn hp (fm (hc pins s1 σ1 H1 _ I1 (turn n σ1 H1 w1)) fun b s2 z1=>?_);obtain ⟨H2,I2,q2⟩:=z1
 cases b with
 |true =>
  obtain ⟨N,hN,q2⟩:=q2;rw [if_pos rfl];refine wpAny_passesOwn hp (fm (hb pins s2 σ1 H2 _ I2 q2) fun f s3 q3=>?_)
  cases f with
  |next =>
   obtain ⟨σ3,H3,I3,n3⟩:=q3;obtain ⟨m',hm,w3⟩:=hN σ3 H3 n3;exact ⟨m',hm,σ3,H3,I3,w3⟩
  |cont =>
   obtain ⟨σ3,H3,I3,n3⟩:=q3;obtain ⟨m',hm,w3⟩:=hN σ3 H3 n3;exact ⟨m',hm,σ3,H3,I3,w3⟩
  |brk=>exact q3
  |ret v=>exact q3
 |false =>
  rw [if_neg Bool.false_ne_true];exact wpAny_execs_nil ⟨σ1,H2,I2,q2⟩
end
structure It where
 go:Nat→Hp→Prop
 JL:Nat→Hp→V→Hp→Prop
 stop:Nat→Hp→Prop
def zD (X:Cx) (pins:List (Addr×Obj)) (H:Hp) (b:Addr):Prop :=
 H b=none∧b≠X.env.locals∧b∉X.fs∧(b∈X.ex∨X.Fb.heap.objs.size≤b)∧(∀x c,X.env.cells.lookup x=some c→c≠b)∧∀p∈X.pn++pins,p.1≠b
theorem Inv.Fw {X:Cx} {pins:List (Addr×Obj)} {σ:St} {H H':Hp} {s:Shared} {b:Addr} (I:Inv X pins σ H s) (hb:s.heap.objs.size≤b) (hn:H' b=none):zD X pins H' b:=by
 refine ⟨hn,Nat.ne_of_gt (Nat.lt_of_lt_of_le I.lt hb),I.Yl hb,.inr (Nat.le_trans I.sz hb),fun x c e z=>?_,fun p hp z=>?_⟩
 ·obtain ⟨v,q⟩:=I.cell x c e;exact absurd (Nat.lt_of_lt_of_le q.lt (by rw [z];exact hb)) (Nat.lt_irrefl _)
 ·exact absurd (Nat.lt_of_lt_of_le (Heap.lt_size (I.pin p hp).1) (by rw [z];exact hb)) (Nat.lt_irrefl _)
structure Turn (P:Program) (w:World) (K:PySem.W.Frag) (tg:Expr) (J:It) (fp:List Addr) (it:Addr) (tn:Nat→Heap→Prop):Prop where
 mem:it∈fp
 obj:∀i h,tn i h→∀b∈fp,∃o,h.get? b=some o∧∀v,o.data≠ .cell v
 keep:∀i h h',tn i h→(∀b∈fp,∀o,h.get? b=some o→h'.get? b=some o)→tn i h'
 item:∀(X:Cx),X.prog=P→X.w=w→X.K=K→X.calm=true→∀(i:Nat) (pins:List (Addr×Obj)) (s:Shared) (σ:St) (H:Hp) (E:Value→Shared→Prop),Inv X pins σ H s→(∀b∈fp,zD X pins H b)→tn i s.heap→J.go i H →
  wpAny (model P w) X.A (pyNext (.ref it)) (fun r s1=>∃u,r=some u ∧
   wpAny (model P w) X.A (letOwnedTupleGo tg (.ref it) u) (fun _ s2=>∃x H',Inv X pins σ H' s2∧RelV x u∧J.JL i H x H'∧tn (i+1) s2.heap∧∀b∈fp,H' b=none) E s1) E s
 done:∀(X:Cx),X.prog=P→X.w=w→X.K=K→X.calm=true→∀(i:Nat) (pins:List (Addr×Obj)) (s:Shared) (σ:St) (H:Hp) (E:Value→Shared→Prop),Inv X pins σ H s→(∀b∈fp,zD X pins H b)→tn i s.heap→J.stop i H →
  wpAny (model P w) X.A (pyNext (.ref it)) (fun r s1=>r=none∧Inv X pins σ H s1) E s
 self:∀(A:Around) (i:Nat) (s:Shared) (Q:Value→Shared→Prop) (E:Value→Shared→Prop),tn i s.heap→Q (.ref it) s→wpAny (model P w) A (pyIter (.ref it)) Q E s
abbrev TI:=St→Hp→(It→Hp→Prop)→Prop
def Xi (X:Cx) (pins:List (Addr×Obj)) (σ:St) (tg:Expr) (R:It→Hp→Prop) (Xt:Value) (s2:Shared):Prop :=
 ∃(it:Addr) (fp:List Addr) (tn:Nat→Heap→Prop) (J:It) (H':Hp),Xt=.ref it∧Inv X pins σ H' s2∧Turn X.prog X.w X.K tg J fp it tn∧tn 0 s2.heap∧(∀b∈fp,zD X pins H' b)∧R J H'
def PI (X:Cx) (tg iter:Expr) (wi:TI):Prop :=
 ∀(pins:List (Addr×Obj)) (s:Shared) (σ:St) (H:Hp) (R:It→Hp→Prop),Inv X pins σ H s→wi σ H R →
  wpAny (model X.prog X.w) X.A (eval iter X.env) (fun v s1=>wpAny (model X.prog X.w) X.A (pyIter v) (Xi X pins σ tg R) X.xe s1) X.xe s
theorem Lm {M : Model} {A : Around} {E : Value → Shared → Prop} {s : Shared} {tg : Expr} {it : Addr} {u : Value} {o : Obj} {n : String} {vs : Array Value} {Q : Unit → Shared → Prop} (ho : s.heap.get? it = some o) (hc : o.cls = .type n) (hd : o.data = .fields vs)
    (hn : ["enumerate", "zip", "dict_itemiterator", "dict_reverseitemiterator", "odict_iterator", "itertools.zip_longest", "itertools.pairwise"].contains n = false) (hQ : Q () s) : wpAny M A (letOwnedTupleGo tg (.ref it) u) Q E s := by
  unfold letOwnedTupleGo
  cases tg <;> first
    | exact wpAny_pure hQ
    | (cases u <;> first
        | exact wpAny_pure hQ
        | (refine wpAny_bind (wpAny_load ho ?_)
           rw [hc, hd];show wpAny M A (if (["enumerate", "zip", "dict_itemiterator", "dict_reverseitemiterator", "odict_iterator", "itertools.zip_longest", "itertools.pairwise"].contains n && vs[0]? == some (rawInt _)) = true then _ else _) Q E s
           rw [if_neg (by intro h; rw [hn, Bool.false_and] at h; cases h)];exact wpAny_pure hQ))
def Tn (K:PySem.W.Frag) (a:Addr):It :=
 ⟨fun i H=>∃xs x,kd K H a xs∧xs[i]?=some x,fun i H x H'=>H'=H∧∀xs,kd K H a xs→xs[i]?=some x,fun i H=>∃xs,kd K H a xs∧xs.length≤i⟩
def Ug (K:PySem.W.Frag) (a:Addr):It :=
 ⟨fun i H=>∃xs x,n6 K H a xs∧xs[i]?=some x,fun i H x H'=>H'=H∧∀xs,n6 K H a xs→xs[i]?=some x,fun i H=>∃xs,n6 K H a xs∧xs.length≤i⟩
def RZ (lo:Int) (n:Nat):It:=⟨fun i _=>i<n,fun i H x H'=>H'=H∧x=.int (lo+i),fun i _=>n≤i⟩
theorem EZ {P:Program} {w:World} {K:PySem.W.Frag} {tg:Expr} (a it:Addr):Turn P w K tg (Tn K a) [it] it (fun i h=>h.IsListIter it a i) where
 mem:=by simp
 obj:=fun i h st b hb=>by
  have e:b=it:=by simpa using hb
  subst e;obtain ⟨o,e,c,d⟩:=st;exact ⟨o,e,fun v z=>by rw [d] at z;cases z⟩
 keep:=fun i h h' st k=>st.at fun o e=>k it (by simp) o e
 item:=by
  intro X hP hw hK hc i pins s σ H E I hf st hg;subst hP hw hK;obtain ⟨xs,x,hq,hx⟩:=hg;obtain ⟨bI,rv,p,hz⟩:=I.list hq;obtain ⟨u,hu,ru⟩:=rv.get hx;obtain ⟨f0,f1,f2,f3,f4,f5⟩:=hf it (by simp);refine wpAny_pyNext_list_item st p.isList (x:=u) (by simpa using hu) fun h' uK sb=>?_;have I1:Inv X pins σ H { s with heap:=h' }:=I.turned (t':=s.toks) (fun b o hb e=>(sb.2 b hb).trans e) f0 f1 f3 f4 f5;obtain ⟨o,e,c,d⟩:=id uK;exact ⟨u,rfl,Lm (s:={ s with heap:=h' }) e c d (by decide) ⟨x,H,I1,ru,⟨rfl,fun ys hy=>by rw [I.t7 hy hq];exact hx⟩,uK,fun b hb=>(hf b hb).1⟩⟩
 done:=by
  intro X hP hw hK hc i pins s σ H E I hf st hg;subst hP hw hK;obtain ⟨xs,hq,hx⟩:=hg;obtain ⟨bI,rv,p,hz⟩:=I.list hq;obtain ⟨f0,f1,f2,f3,f4,f5⟩:=hf it (by simp);have hl:=rv.length;exact wpAny_pyNext_list_end (I.ok.hd hc) st p.isList (by simp;omega) fun h' eb=>⟨rfl,I.turned (t':=s.toks) (fun b o hb e=>eb b o hb e) f0 f1 f3 f4 f5⟩
 self:=fun _ _ _ _ _ st h=>wpAny_pyIter_listiter st h
theorem Cg {P:Program} {w:World} {K:PySem.W.Frag} {tg:Expr} (a it:Addr):Turn P w K tg (Ug K a) [it] it (fun i h=>h.IsTupleIter it a i) where
 mem:=by simp
 obj:=fun i h st b hb=>by
  have e:b=it:=by simpa using hb
  subst e;obtain ⟨o,e,c,d⟩:=st;exact ⟨o,e,fun v z=>by rw [d] at z;cases z⟩
 keep:=fun i h h' st k=>st.at fun o e=>k it (by simp) o e
 item:=by
  intro X hP hw hK hc i pins s σ H E I hf st hg;subst hP hw hK;obtain ⟨xs,x,hq,hx⟩:=hg;obtain ⟨bI,rv,p,hz⟩:=I.tuple hq;obtain ⟨u,hu,ru⟩:=rv.get hx;obtain ⟨f0,f1,f2,f3,f4,f5⟩:=hf it (by simp);refine wpAny_pyNext_tuple_item st (show s.heap.IsTuple a bI.toArray from p) (x:=u) (by simpa using hu) fun h' uK sb=>?_
  have I1:Inv X pins σ H { s with heap:=h' }:=I.turned (t':=s.toks) (fun b o hb e=>(sb.2 b hb).trans e) f0 f1 f3 f4 f5;obtain ⟨o,e,c,d⟩:=id uK;exact ⟨u,rfl,Lm (s:={ s with heap:=h' }) e c d (by decide) ⟨x,H,I1,ru,⟨rfl,fun ys hy=>by rw [I.Mh hy hq];exact hx⟩,uK,fun b hb=>(hf b hb).1⟩⟩
 done:=by
  intro X hP hw hK hc i pins s σ H E I hf st hg;subst hP hw hK;obtain ⟨xs,hq,hx⟩:=hg;obtain ⟨bI,rv,p,hz⟩:=I.tuple hq;obtain ⟨f0,f1,f2,f3,f4,f5⟩:=hf it (by simp);have hl:=rv.length;exact wpAny_pyNext_tuple_end (I.ok.hd hc) st (show s.heap.IsTuple a bI.toArray from p) (by simp;omega) fun h' eb=>⟨rfl,I.turned (t':=s.toks) (fun b o hb e=>eb b o hb e) f0 f1 f3 f4 f5⟩
 self:=fun _ _ _ _ _ st h=>wpAny_pyIter_tupleiter st h
theorem J2 {P:Program} {w:World} {K:PySem.W.Frag} {tg:Expr} (it:Addr) (lo:Int) (n:Nat):Turn P w K tg (RZ lo n) [it] it (fun i h=>IsRangeIter h it (lo+(i:Nat)*1) ((n:Int) - (i:Nat)) 1) where
 mem:=by simp
 obj:=fun i h st b hb=>by
  have e:b=it:=by simpa using hb
  subst e;exact ⟨_,st,fun v z=>by
   have z':Data.fields _=Data.cell v:=z
   cases z'⟩
 keep:=fun i h h' st k=>k it (by simp) _ st
 item:=by
  intro X hP hw hK hc i pins s σ H E I hf st hg;subst hP hw hK;obtain ⟨f0,f1,f2,f3,f4,f5⟩:=hf it (by simp);have W:=Walks.range (prog:=X.prog) (w:=X.w) (I.ok.hd hc) it lo 1 n;refine W.item i s _ _ hg st fun v h' tk hv uK kk=>?_;obtain ⟨t,rfl⟩:=hv;have I1:Inv X pins σ H { s with heap:=h',toks:=tk }:=I.turned (fun b o hb e=>kk b o (by simpa using hb) e) f0 f1 f3 f4 f5;refine ⟨_,rfl,Lm (s:={ s with heap:=h',toks:=tk }) (n:="range_iterator") uK rfl rfl (by decide) ⟨.int (lo+i),H,I1,⟨t,?_⟩,⟨rfl,rfl⟩,uK,fun b hb=>(hf b hb).1⟩⟩;rw [Int.mul_one]
 done:=by
  intro X hP hw hK hc i pins s σ H E I hf st hg;subst hP hw hK;obtain ⟨f0,f1,f2,f3,f4,f5⟩:=hf it (by simp);exact wpAny_pyNext_range_end (I.ok.hd hc) st (by have:n≤i:=hg;omega) fun h' eb=>⟨rfl,I.turned (t':=s.toks) (fun b o hb e=>eb b o hb e) f0 f1 f3 f4 f5⟩
 self:=fun _ _ _ _ _ st h=>wpAny_pyIter_rangeiter st h
end L2
namespace L2
open PySem PySem.Spec PyProof.Rows
section
variable {X:Cx} {tg:Expr}
theorem Hv {pins:List (Addr×Obj)} {σ:St} {H:Hp} {s:Shared} {R:It→Hp→Prop} {E:Value→Shared→Prop} {lo hi:Int} {t u v:Tok} {tk:Nat} (I:Inv X pins σ H s) (h1: -(2 ^ 62)≤lo) (h2:lo<2 ^ 62) (h3: -(2 ^ 62)≤hi) (h4:hi<2 ^ 62)
  (q:R (RZ lo (hi - lo).toNat) H):wpAny (model X.prog X.w) X.A (pyIter (.ref s.heap.objs.size)) (Xi X pins σ tg R) E { s with heap:=s.heap.push { cls:= .type "range",data:= .fields #[.int lo t,.int hi u,.int 1 v] },toks:=tk }:=by
 refine wpAny_pyIter_range (IsRange.new ..) (small_one h1 h2 h3 h4) ?_;have I1:Inv X pins σ H { s with heap:=s.heap.push { cls:= .type "range",data:= .fields #[.int lo t,.int hi u,.int 1 v] },toks:=tk }:=I.kept fun b o e=>Heap.get?_push_of_some _ e;refine ⟨(s.heap.push { cls:= .type "range",data:= .fields #[.int lo t,.int hi u,.int 1 v] }).objs.size,[(s.heap.push { cls:= .type "range",data:= .fields #[.int lo t,.int hi u,.int 1 v] }).objs.size],_,_,H,rfl,
  I1.kept (t':=tk) fun b o e=>Heap.get?_push_of_some _ e,J2 _ lo (hi - lo).toNat,?_,fun b hb=>?_,q⟩
 ·have e1:lo+((0:Nat):Int)*1=lo:=by simp
  have e2:(((hi - lo).toNat:Nat):Int) - ((0:Nat):Int)=Builtin.Range.rangeSize lo hi 1:=by rw [rangeSize_one];split<;>omega
  show IsRangeIter _ _ (lo+((0:Nat):Int)*1) ((((hi - lo).toNat:Nat):Int) - ((0:Nat):Int)) 1;rw [e1,e2];exact Heap.get?_push_size _ rfl
 ·have e:b=(s.heap.push { cls:= .type "range",data:= .fields #[.int lo t,.int hi u,.int 1 v] }).objs.size:=by simpa using hb
  subst e;exact I1.Fw (Nat.le_refl _) (I1.cZ.fresh (Nat.le_refl _))
def Rx (ta:TA):TI:=fun σ H R=>ta σ H fun vs H1=>∃j:Int,vs=[.int j]∧ -(2 ^ 62)≤j∧j<2 ^ 62∧R (RZ 0 j.toNat) H1
def Rb (ta:TA):TI:=fun σ H R=>ta σ H fun vs H1=>∃i j:Int,vs=[.int i,.int j]∧(-(2 ^ 62)≤i∧i<2 ^ 62∧ -(2 ^ 62)≤j∧j<2 ^ 62)∧R (RZ i (j - i).toNat) H1
theorem mQ {a:Expr} {ta:TA} {p pos:Pos} (hg:Gl X "range") (hm:X.mg "range"=none) (ha:PA X [a] ta) (hs:starEach [a] X.env=[(false,eval a X.env)]:=by rfl):PI X tg (.Call (.Name "range" p) [a] [] pos) (Rx ta):=by
 intro pins s σ H R I h;refine Call_ (vZ I hg hm boot_range (PyProof.Rows.callWith_type1 (fm (ha pos pins s σ H _ I h) fun us s1 z1=>?_) hs rfl));obtain ⟨vs,H1,I1,r1,q1⟩:=z1;obtain ⟨j,e,q1,q2,q⟩:=q1;subst e
 cases r1 with
 |cons r rr =>
  cases rr;obtain ⟨t,rfl⟩:=r;exact call_range_1 (Hv I1 (by omega) (by omega) q1 q2 (by simpa using q))
theorem MR {a b:Expr} {ta:TA} {p pos:Pos} (hg:Gl X "range") (hm:X.mg "range"=none) (ha:PA X [a,b] ta) (hs:starEach [a,b] X.env=[(false,eval a X.env),(false,eval b X.env)]:=by rfl) (Vw:starEach [b] X.env=[(false,eval b X.env)]:=by rfl) :
  PI X tg (.Call (.Name "range" p) [a,b] [] pos) (Rb ta):=by
 intro pins s σ H R I h;refine Call_ (vZ I hg hm boot_range (PyProof.Rows.callWith_type1 (fm (ha pos pins s σ H _ I h) fun us s1 z1=>?_) (by rw [hs,Vw]) (by rw [Vw];rfl)));obtain ⟨vs,H1,I1,r1,q1⟩:=z1;obtain ⟨i,j,e,⟨q1,q2,q3,q4⟩,q⟩:=q1;subst e
 cases r1 with
 |cons r rr =>
  cases rr with
  |cons r' rr =>
   cases rr;obtain ⟨t,rfl⟩:=r;obtain ⟨t',rfl⟩:=r';exact call_range_2 (Hv I1 q1 q2 q3 q4 q)
def Sw (wi:TI) (g:TG) (tb:TS):TS:=fun D σ H=>wi σ H fun J H1=>∃W:Nat→Nat→St→Hp→Prop,(∃m,W 0 m σ H1)∧∀i m σ H,W i m σ H →
 (J.stop i H∧D.nx σ H)∨(J.go i H∧∃N:St→Hp→Prop,(∀σ' H',N σ' H'→∃m',m'<m∧W (i+1) m' σ' H')∧∀x H',J.JL i H x H'→g x σ H' fun σ2 H2=>tb { D with nx:=N,ct:=N,bk:=D.nx } σ2 H2)
def C6 (fp:List Addr) (h:Heap):List (Addr×Obj):=fp.filterMap fun b=>(h.get? b).map fun o=>(b,o)
theorem vk {fp:List Addr} {h:Heap} {b:Addr} {o:Obj} (hb:b∈fp) (e:h.get? b=some o):(b,o)∈C6 fp h:=List.mem_filterMap.mpr ⟨b,hb,by rw [e];rfl⟩
theorem MJ {fp:List Addr} {h:Heap} {p:Addr×Obj} (hp:p∈C6 fp h):p.1∈fp∧h.get? p.1=some p.2:=by
 obtain ⟨b,hb,e⟩:=List.mem_filterMap.mp hp
 cases q:h.get? b with
 |none=>rw [q] at e;cases e
 |some o =>
  rw [q] at e;have e':(b,o)=p:=Option.some.inj e;subst e';exact ⟨hb,q⟩
theorem Inv.pinned {pins:List (Addr×Obj)} {σ:St} {H:Hp} {s:Shared} {fp:List Addr} (I:Inv X pins σ H s) (hf:∀b∈fp,zD X pins H b) (ho:∀b∈fp,∃o,s.heap.get? b=some o∧∀v,o.data≠ .cell v):Inv X (pins++C6 fp s.heap) σ H s :=
 I.Lj fun p hp=>(List.mem_append.mp hp).elim (fun z=>I.pin p (List.mem_append_right _ z)) fun z=>by
  obtain ⟨hb,e⟩:=MJ z;obtain ⟨f0,f1,f2,_⟩:=hf p.1 hb;obtain ⟨o,e',d⟩:=ho p.1 hb;rw [e] at e';cases e';exact ⟨e,f0,f1,f2,d⟩
theorem Inv.wX {pins pl:List (Addr×Obj)} {σ:St} {H:Hp} {s:Shared} (I:Inv X (pins++pl) σ H s):Inv X pins σ H s:=I.Lj fun p hp=>I.pin p (List.mem_append_right _ (List.mem_append_left _ hp))
theorem cJ {iter:Expr} {body:List Stmt} {wi:TI} {g:TG} {tb:TS} {pos:Pos} (hp:PassesOwn (model X.prog X.w) X.A X.env X.xe) (hc:X.calm=true) (hi:PI X tg iter wi) (hg:PG X tg g) (hb:G7 X body tb)
  (hs:∀x,foldedSetIterable iter X.env x=pure x:=by intro _;rfl):PS X (.For tg iter body [] pos) (Sw wi g tb):=by
 intro pins s σ H D I h;refine wpAny_For (fm (hi pins s σ H _ I h) fun v s1 h1=>fm h1 fun Xt s2 h2=>?_) hs;obtain ⟨it,fp,tn,J,H2,e,I2,T,MW,f2,W,⟨m0,w0⟩,turn⟩:=h2;subst e;have KW:∀{H':Hp},(∀b∈fp,H' b=none)→∀b∈fp,zD X pins H' b:=fun hn b hb=>⟨hn b hb,(f2 b hb).2⟩;refine codeAny_forLoop_any (fun n s'=>∃i σ' H',Inv X pins σ' H' s'∧tn i s'.heap∧(∀b∈fp,H' b=none)∧W i n σ' H') ?_ m0 ⟨0,σ, H2,I2,MW,fun b hb=>(f2 b hb).1,w0⟩;rintro n s3 ⟨i,σ3,H3,I3,Wq,ZZ,w3⟩;rcases turn i n σ3 H3 w3 with ⟨stop,qn⟩|⟨go,N,hN,step⟩
 ·refine wpAny_passesOwn hp (fm (T.done X rfl rfl rfl hc i pins s3 σ3 H3 X.xe I3 (KW ZZ) Wq stop) fun r s4 ⟨hr,I4⟩=>?_);subst hr;exact wpAny_execs_nil ⟨σ3,H3,I4,qn⟩
 ·refine wpAny_passesOwn hp (fm (T.item X rfl rfl rfl hc i pins s3 σ3 H3 X.xe I3 (KW ZZ) Wq go) fun r s4 z1=>?_);obtain ⟨u,hr,h4⟩:=z1;subst hr;refine wpAny_passesOwn hp (fm h4 fun _ s5 z1=>?_);obtain ⟨x,H5,I5,r5,y5,T5,fr5⟩:=z1;have I5':=I5.pinned (KW fr5) (T.obj _ _ T5);refine wpAny_passesOwn hp (fm (hg _ s5 σ3 H5 x u _ I5' r5 (step x H5 y5)) fun _ s6 z1=>?_);obtain ⟨σ6,H6,I6,q6⟩:=z1;refine wpAny_passesOwn hp (fm (hb _ s6 σ6 H6 _ I6 q6) fun f s7 q7=>?_);have again:∀{σ7:St} {H7:Hp},Inv X (pins++C6 fp s5.heap) σ7 H7 s7→N σ7 H7→∃m,m<n∧∃i σ' H',Inv X pins σ' H' s7∧tn i s7.heap∧(∀b∈fp,H' b=none)∧W i m σ' H':=fun {σ7 H7} I7 n7=>by
   obtain ⟨m',hm,w7⟩:=hN σ7 H7 n7;refine ⟨m',hm,i+1,σ7,H7,I7.wX,T.keep _ _ _ T5 fun b hb o e=>(I7.pin (b,o) (List.mem_append_right _ (List.mem_append_right _ (vk hb e)))).1,fun b hb=>?_,w7⟩;obtain ⟨o,e,d⟩:=T.obj _ _ T5 b hb;exact (I7.pin (b,o) (List.mem_append_right _ (List.mem_append_right _ (vk hb e)))).2.1
  cases f with
  |next=>obtain ⟨σ7,H7,I7,n7⟩:=q7;exact again I7 n7
  |cont=>obtain ⟨σ7,H7,I7,n7⟩:=q7;exact again I7 n7
  |brk=>obtain ⟨σ7,H7,I7,q7⟩:=q7;exact ⟨σ7,H7,I7.wX,q7⟩
  |ret v=>obtain ⟨x7,σ7,H7,I7,r7,q7⟩:=q7;exact ⟨x7,σ7,H7,I7.wX,r7,q7⟩
end
end L2
namespace L2
open PySem PySem.Spec PyProof.Rows
abbrev R2:=V→V→Hp→VK→Prop
def ve (X:Cx) (f:Value→Value→Sem Value) (r:R2):Prop :=
 ∀(pins:List (Addr×Obj)) (s:Shared) (σ:St) (H:Hp) (x y:V) (v u:Value) (Q:VK),Inv X pins σ H s→RelV x v→RelV y u→r x y H Q →
  wpAny (model X.prog X.w) X.A (f v u) (EP X pins σ Q) X.xe s
def Yt (X:Cx) (f:Value→Sem Value) (r:V→Hp→VK→Prop):Prop :=
 ∀(pins:List (Addr×Obj)) (s:Shared) (σ:St) (H:Hp) (x:V) (v:Value) (Q:VK),Inv X pins σ H s→RelV x v→r x H Q →
  wpAny (model X.prog X.w) X.A (f v) (EP X pins σ Q) X.xe s
def jI (X:Cx) (f:Value) (r:List V→Hp→VK→Prop):Prop :=
 ∀(pins:List (Addr×Obj)) (s:Shared) (σ:St) (H:Hp) (xs:List V) (us:List Value) (Q:VK),Inv X pins σ H s→Vals xs us→r xs H Q →
  wpAny (model X.prog X.w) X.A (call f us) (EP X pins σ Q) X.xe s
def UP (r:R2) (ta tb:TE):TE:=fun σ H Q=>ta σ H fun x H1=>tb σ H1 fun y H2=>r x y H2 Q
def Zp (r:V→Hp→VK→Prop) (ta:TE):TE:=fun σ H Q=>ta σ H fun x H1=>r x H1 Q
def rI (C:Int→Int→Prop) (g:Int→Int→V):R2:=fun x y H Q=>∃i j,x=.int i∧y=.int j∧C i j∧Q (g i j) H
def QI (g:Int→Int→V):R2:=fun x y H Q=>∃i j,x=.int i∧y=.int j∧Q (g i j) H
def rU (g:Int→V):V→Hp→VK→Prop:=fun x H Q=>∃i,x=.int i∧Q (g i) H
section
variable {X:Cx} {a b c:Expr} {ta tb tc:TE} {pos:Pos}
theorem Sl (ha:PE X a ta) (hb:PE X b tb) {pins:List (Addr×Obj)} {s:Shared} {σ:St} {H:Hp} {R:V→V→Hp→Prop} (I:Inv X pins σ H s)
  (h:ta σ H fun x H1=>tb σ H1 fun y H2=>R x y H2) {Q:Value→Shared→Prop} {f:Value→Value→Sem Value}
  (hf:∀v u s2 x y H2,Inv X pins σ H2 s2→RelV x v→RelV y u→R x y H2→wpAny (model X.prog X.w) X.A (f v u) Q X.xe s2) :
  wpAny (model X.prog X.w) X.A (eval a X.env) (fun v s₁ =>wpAny (model X.prog X.w) X.A (eval b X.env) (fun u s₂ =>wpAny (model X.prog X.w) X.A (f v u) Q X.xe s₂) X.xe s₁) X.xe s:=by
 refine fm (ha pins s σ H _ I h) fun v s1 z1=>?_;obtain ⟨x,H1,I1,r1,q1⟩:=z1;refine fm (hb pins s1 σ H1 _ I1 q1) fun u s2 z1=>?_;obtain ⟨y,H2,I2,r2,q2⟩:=z1;exact hf v u s2 x y H2 I2 r1 r2 q2
theorem cG {op:Operator} {r:R2} (ho:ve X (binaryOp op) r) (ha:PE X a ta) (hb:PE X b tb):PE X (.BinOp a op b pos) (UP r ta tb):=by
 intro pins s σ H Q I h;exact wpAny_BinOp (Sl ha hb I h fun v u s2 x y H2 I2 rx ry q=>ho pins s2 σ H2 x y v u Q I2 rx ry q)
theorem EF {op:UnaryOp} {r:V→Hp→VK→Prop} (ho:Yt X (unaryOp op) r) (ha:PE X a ta):PE X (.UnaryOp op a pos) (Zp r ta):=by
 intro pins s σ H Q I h;exact UnaryOp_ (fm (ha pins s σ H _ I h) fun v s1 z1=>by obtain ⟨x,H1,I1,r1,q1⟩:=z1;exact ho pins s1 σ H1 x v Q I1 r1 q1)
theorem Z1 {f:Value→Value→Sem Value} {C:Int→Int→Prop} {g:Int→Int→Int}
  (rule:∀(i j:Int) (t u:Tok) (s:Shared) (Q:Value→Shared→Prop) (E:Value→Shared→Prop),C i j→Q (.int (g i j) s.toks) { s with toks:=s.toks+1 }→wpAny (model X.prog X.w) X.A (f (.int i t) (.int j u)) Q E s) :
  ve X f (rI C fun i j=>.int (g i j)):=by
 intro pins s σ H x y v u Q I rx ry h;obtain ⟨i,j,rfl,rfl,hc,q⟩:=h;obtain ⟨t,rfl⟩:=rx;obtain ⟨t',rfl⟩:=ry;exact rule i j t t' s _ _ hc ⟨.int (g i j),H,I.tok _,⟨_,rfl⟩,q⟩
theorem Uq {f:Value→Value→Sem Value} {g:Int→Int→Int}
  (rule:∀(i j:Int) (t u:Tok) (s:Shared) (Q:Value→Shared→Prop) (E:Value→Shared→Prop),Q (.int (g i j) s.toks) { s with toks:=s.toks+1 }→wpAny (model X.prog X.w) X.A (f (.int i t) (.int j u)) Q E s) :
  ve X f (QI fun i j=>.int (g i j)):=by
 intro pins s σ H x y v u Q I rx ry h;obtain ⟨i,j,rfl,rfl,q⟩:=h;obtain ⟨t,rfl⟩:=rx;obtain ⟨t',rfl⟩:=ry;exact rule i j t t' s _ _ ⟨.int (g i j),H,I.tok _,⟨_,rfl⟩,q⟩
theorem QJ {f:Value→Value→Sem Value} {g:Int→Int→Bool}
  (rule:∀(i j:Int) (t u:Tok) (s:Shared) (Q:Value→Shared→Prop) (E:Value→Shared→Prop),Q (.bool (g i j)) s→wpAny (model X.prog X.w) X.A (f (.int i t) (.int j u)) Q E s) :
  ve X f (QI fun i j=>.bl (g i j)):=by
 intro pins s σ H x y v u Q I rx ry h;obtain ⟨i,j,rfl,rfl,q⟩:=h;obtain ⟨t,rfl⟩:=rx;obtain ⟨t',rfl⟩:=ry;exact rule i j t t' s _ _ ⟨.bl (g i j),H,I,rfl,q⟩
def Xe (i j:Int):Prop:=0<j∧j<1073741824
def SR (i j:Int):Prop:=(-(2 ^ 64)<i∧i<2 ^ 64)∨(-(2 ^ 64)<j∧j<2 ^ 64)
theorem SR.ok {i j:Int} (h:SR i j):IntMulOk i j:=by
 rcases h with ⟨h1,h2⟩|⟨h1,h2⟩
 ·exact .of_left (intBits_le_64 h1 h2)
 ·exact .of_right (intBits_le_64 h1 h2)
theorem fY:ve X (binaryOp .Add) (QI fun i j=>.int (i+j)):=Uq fun _ _ _ _ _ _ _ q=>add_int q
theorem vt:ve X (binaryOp .Sub) (QI fun i j=>.int (i - j)):=Uq fun _ _ _ _ _ _ _ q=>sub_int q
theorem RB:ve X (binaryOp .Mult) (rI SR fun i j=>.int (i*j)):=Z1 fun _ _ _ _ _ _ _ hc q=>mul_int q hc.ok
theorem PH:ve X (binaryOp .FloorDiv) (rI Xe fun i j=>.int (i / j)):=Z1 fun i j _ _ _ _ _ hc q=>by
 have h1:(0:Int)<j:=hc.1;have h2:j<1073741824:=hc.2;exact floordiv_int (by omega) (by rw [Int.fdiv_eq_ediv_of_nonneg i (by omega)];exact q) (.inl (PyProof.noPylong_small (by omega)))
theorem unI {f:Value→Sem Value} {g:Int→Int}
  (rule:∀(i:Int) (t:Tok) (s:Shared) (Q:Value→Shared→Prop) (E:Value→Shared→Prop),Q (.int (g i) s.toks) { s with toks:=s.toks+1 }→wpAny (model X.prog X.w) X.A (f (.int i t)) Q E s) :
  Yt X f (rU fun i=>.int (g i)):=by
 intro pins s σ H x v Q I rx h;obtain ⟨i,rfl,q⟩:=h;obtain ⟨t,rfl⟩:=rx;exact rule i t s _ _ ⟨.int (g i),H,I.tok _,⟨_,rfl⟩,q⟩
theorem zh:Yt X (unaryOp .USub) (rU fun i=>.int (-i)):=unI fun _ _ _ _ _ q=>neg_int q
end
def Oy:V→V→Bool
 | .de,.de=>true| .de,.int _=>true| .int _,.de=>true| .de,.bl _=>true| .bl _,.de=>true| .de,.str _=>true| .str _,.de=>true
 | .int _,.int _=>true| .bl _,.bl _=>true| .str _,.str _=>true| .Jq _,.Jq _=>true
 | .int _,.str _=>true| .str _,.int _=>true| .bl _,.str _=>true| .str _,.bl _=>true
 |_,_=>false
def Zn:R2:=fun x y H Q=>Oy x y=true∧Q (.bl (decide (x=y))) H
def ZR:R2:=fun x y H Q=>Oy x y=true∧Q (.bl (!decide (x=y))) H
theorem Lv {i j:Int}:decide (V.int i=V.int j)=(i==j):=by
 rw [Bool.eq_iff_iff];simp
theorem OG {i j:Bool}:decide (V.bl i=V.bl j)=(i==j):=by
 rw [Bool.eq_iff_iff];simp
theorem Ll {i j:Str}:decide (V.str i=V.str j)=(i==j):=by
 rw [Bool.eq_iff_iff];simp
theorem Ly {i j:Array UInt8}:decide (V.Jq i=V.Jq j)=(i.toList==j.toList):=by
 rw [Bool.eq_iff_iff]
 cases i
 cases j;simp
section
variable {X:Cx} {a b c:Expr} {ta tb tc:TE} {pos:Pos}
theorem cN {pins:List (Addr×Obj)} {σ:St} {H:Hp} {s:Shared} {Q:VK} {k k':Bool} (I:Inv X pins σ H s) (q:Q (.bl k) H) (e:k=k'):EP X pins σ Q (.bool k') s:=by
 subst e;exact ⟨.bl k,H,I,rfl,q⟩
theorem eF:ve X (compareOp .Eq) Zn:=by
 intro pins s σ H x y v u Q I rx ry h;obtain ⟨hs,q⟩:=h
 cases x with
 |de =>
  cases rx
  cases y with
  |de=>cases ry;exact PySem.EqNone.eq_none_none (cN I q (by simp))
  |bl j=>cases ry;exact PySem.EqNone.eq_none_bool (cN I q (by simp))
  |int j=>obtain ⟨t',rfl⟩:=ry;exact PySem.EqNone.eq_none_int (cN I q (by simp))
  |str j=>obtain ⟨t',rfl⟩:=ry;exact PySem.EqNone.eq_none_str (cN I q (by simp))
  |_=>exact absurd (show false=true from hs) Bool.false_ne_true
 |bl i =>
  cases rx
  cases y with
  |de=>cases ry;exact PySem.EqNone.eq_bool_none (cN I q (by simp))
  |bl j=>cases ry;exact eq_bool (cN I q OG)
  |str j=>obtain ⟨t',rfl⟩:=ry;exact PySem.EqMixed.eq_bool_str (cN I q (by simp))
  |_=>exact absurd (show false=true from hs) Bool.false_ne_true
 |int i =>
  obtain ⟨t,rfl⟩:=rx
  cases y with
  |de=>cases ry;exact PySem.EqNone.eq_int_none (cN I q (by simp))
  |int j=>obtain ⟨t',rfl⟩:=ry;exact eq_int (cN I q Lv)
  |str j=>obtain ⟨t',rfl⟩:=ry;exact PySem.EqMixed.eq_int_str (cN I q (by simp))
  |_=>exact absurd (show false=true from hs) Bool.false_ne_true
 |str i =>
  obtain ⟨t,rfl⟩:=rx
  cases y with
  |de=>cases ry;exact PySem.EqNone.eq_str_none (cN I q (by simp))
  |bl j=>cases ry;exact PySem.EqMixed.eq_str_bool (cN I q (by simp))
  |int j=>obtain ⟨t',rfl⟩:=ry;exact PySem.EqMixed.eq_str_int (cN I q (by simp))
  |str j=>obtain ⟨t',rfl⟩:=ry;exact eq_str (cN I q Ll)
  |_=>exact absurd (show false=true from hs) Bool.false_ne_true
 |Jq i =>
  obtain ⟨t,rfl⟩:=rx
  cases y with
  |Jq j=>obtain ⟨t',rfl⟩:=ry;exact PySem.W.eq_bytes (cN I q Ly)
  |_=>exact absurd (show false=true from hs) Bool.false_ne_true
 |_=>cases y<;>exact absurd (show false=true from hs) Bool.false_ne_true
theorem tQ:ve X (compareOp .NotEq) ZR:=by
 intro pins s σ H x y v u Q I rx ry h;obtain ⟨hs,q⟩:=h
 cases x with
 |de =>
  cases rx
  cases y with
  |de=>cases ry;exact PySem.EqNone.ne_none_none (cN I q (by simp))
  |bl j=>cases ry;exact PySem.EqNone.ne_none_bool (cN I q (by simp))
  |int j=>obtain ⟨t',rfl⟩:=ry;exact PySem.EqNone.ne_none_int (cN I q (by simp))
  |str j=>obtain ⟨t',rfl⟩:=ry;exact PySem.EqNone.ne_none_str (cN I q (by simp))
  |_=>exact absurd (show false=true from hs) Bool.false_ne_true
 |bl i =>
  cases rx
  cases y with
  |de=>cases ry;exact PySem.EqNone.ne_bool_none (cN I q (by simp))
  |bl j=>cases ry;exact ne_bool (cN I q (congrArg not OG))
  |str j=>obtain ⟨t',rfl⟩:=ry;exact PySem.EqMixed.ne_bool_str (cN I q (by simp))
  |_=>exact absurd (show false=true from hs) Bool.false_ne_true
 |int i =>
  obtain ⟨t,rfl⟩:=rx
  cases y with
  |de=>cases ry;exact PySem.EqNone.ne_int_none (cN I q (by simp))
  |int j=>obtain ⟨t',rfl⟩:=ry;exact ne_int (cN I q (congrArg not Lv))
  |str j=>obtain ⟨t',rfl⟩:=ry;exact PySem.EqMixed.ne_int_str (cN I q (by simp))
  |_=>exact absurd (show false=true from hs) Bool.false_ne_true
 |str i =>
  obtain ⟨t,rfl⟩:=rx
  cases y with
  |de=>cases ry;exact PySem.EqNone.ne_str_none (cN I q (by simp))
  |bl j=>cases ry;exact PySem.EqMixed.ne_str_bool (cN I q (by simp))
  |int j=>obtain ⟨t',rfl⟩:=ry;exact PySem.EqMixed.ne_str_int (cN I q (by simp))
  |str j=>obtain ⟨t',rfl⟩:=ry;exact ne_str (cN I q (congrArg not Ll))
  |_=>exact absurd (show false=true from hs) Bool.false_ne_true
 |Jq i =>
  obtain ⟨t,rfl⟩:=rx
  cases y with
  |Jq j=>obtain ⟨t',rfl⟩:=ry;exact PySem.W.ne_bytes (cN I q (congrArg not Ly))
  |_=>exact absurd (show false=true from hs) Bool.false_ne_true
 |_=>cases y<;>exact absurd (show false=true from hs) Bool.false_ne_true
theorem oo:ve X (compareOp .Lt) (QI fun i j=>.bl (decide (i<j))):=QJ fun _ _ _ _ _ _ _ q=>lt_int q
theorem ia:ve X (compareOp .LtE) (QI fun i j=>.bl (decide (i≤j))):=QJ fun _ _ _ _ _ _ _ q=>le_int q
theorem K5:ve X (compareOp .Gt) (QI fun i j=>.bl (decide (j<i))):=QJ fun _ _ _ _ _ _ _ q=>gt_int q
theorem Es:ve X (compareOp .GtE) (QI fun i j=>.bl (decide (j≤i))):=QJ fun _ _ _ _ _ _ _ q=>ge_int q
theorem cC:ve X (compareOp .Is) (fun x y H Q=>y=.de∧Q (.bl (decide (x=.de))) H):=by
 intro pins s σ H x y v u Q I rx ry h;obtain ⟨rfl,q⟩:=h
 cases ry;refine is_none_gen (cN I q ?_)
 cases x<;>first
  |(cases rx;rfl)
  |(obtain ⟨t,rfl⟩:=rx;rfl)
theorem iw:ve X (compareOp .IsNot) (fun x y H Q=>y=.de∧Q (.bl (!decide (x=.de))) H):=by
 intro pins s σ H x y v u Q I rx ry h;obtain ⟨rfl,q⟩:=h
 cases ry;refine isnot_none_gen (cN I q ?_)
 cases x<;>first
  |(cases rx;rfl)
  |(obtain ⟨t,rfl⟩:=rx;rfl)
theorem aG (b:Expr) {op:CmpOp} (h:op≠ .In:=by decide) (h2:op≠ .NotIn:=by decide):behindInMarks op b=false:=by
 have e1:(op==CmpOp.In)=false:=by cases op<;>first|rfl|exact absurd rfl h
 have e2:(op==CmpOp.NotIn)=false:=by cases op<;>first|rfl|exact absurd rfl h2
 cases b<;>simp [behindInMarks,e1,e2]
theorem bO {op:CmpOp} {r:R2} (ho:ve X (compareOp op) r) (ha:PE X a ta) (hb:PE X b tb) (hm:behindInMarks op b=false):PE X (.Compare a [op] [b] pos) (UP r ta tb):=by
 intro pins s σ H Q I h;exact wpAny_Compare1 (Sl ha hb I h fun v u s2 x y H2 I2 rx ry q=>ho pins s2 σ H2 x y v u Q I2 rx ry q) hm
def N5 (t:TE):TT:=fun σ H Q=>t σ H (e1 Q)
theorem aE {op:CmpOp} {r:R2} (ho:ve X (compareOp op) r) (ha:PE X a ta) (hb:PE X b tb) (hm:behindInMarks op b=false):PT X (.Compare a [op] [b] pos) (N5 (UP r ta tb)):=by
 intro pins s σ H Q I h;refine wpAny_isTrue_Compare1 (fm (ha pins s σ H _ I h) fun v s1 ⟨x,H1,I1,r1,q1⟩=>fm (hb pins s1 σ H1 _ I1 q1) fun u s2 ⟨y,H2,I2,r2,q2⟩ =>
  fm (ho pins s2 σ H2 x y v u _ I2 r1 r2 q2) fun c s3 z1=>?_) hm;obtain ⟨z,H3,I3,r3,qk⟩:=z1
 obtain ⟨k,e,q3⟩:=e1_e qk
 subst e
 cases r3;exact wpAny_truthy_bool ⟨H3,I3,q3⟩
def Kn (r r':R2) (ta tb tc:TE):TE:=fun σ H Q=>ta σ H fun x H1=>tb σ H1 fun y H2=>r x y H2 fun z H3=>∃k,z=.bl k ∧
 (if k=true then tc σ H3 fun w' H4=>r' y w' H4 Q else Q (.bl false) H3)
theorem nU {op Se:CmpOp} {r r':R2} (ho:ve X (compareOp op) r) (K4:ve X (compareOp Se) r') (ha:PE X a ta) (hb:PE X b tb) (hc:PE X c tc)
  (hm:lastMarks [op,Se] [b,c]=false:=by with_unfolding_all rfl):PE X (.Compare a [op,Se] [b,c] pos) (Kn r r' ta tb tc):=by
 intro pins s σ H Q I h;refine Compare_chain (fm (ha pins s σ H _ I h) fun v s1 ⟨x,H1,I1,r1,q1⟩=>chain_link (fm (hb pins s1 σ H1 _ I1 q1) fun u s2 ⟨y,H2,I2,r2,q2⟩ =>
  fm (ho pins s2 σ H2 x y v u _ I2 r1 r2 q2) fun d s3 z1=>?_)) hm;obtain ⟨z,H3,I3,r3,k,e,q3⟩:=z1
 subst e
 cases r3;refine wpAny_truthy_bool ?_
 cases k with
 |false=>exact ite_ff ⟨.bl false,H3,I3,rfl,q3⟩
 |true=>exact ite_tt (chain_last (fm (hc pins s3 σ H3 _ I3 q3) fun w' s4 z1=>by obtain ⟨z',H4,I4,r4,q4⟩:=z1;exact K4 pins s4 σ H4 y z' u w' Q I4 r2 r4 q4))
theorem sR {op Se:CmpOp} {r r':R2} (ho:ve X (compareOp op) r) (K4:ve X (compareOp Se) r') (ha:PE X a ta) (hb:PE X b tb) (hc:PE X c tc)
  (hm:lastMarks [op,Se] [b,c]=false:=by with_unfolding_all rfl):PT X (.Compare a [op,Se] [b,c] pos) (N5 (Kn r r' ta tb tc)):=by
 intro pins s σ H Q I h;refine isTrue_chain (fm (ha pins s σ H _ I h) fun v s1 ⟨x,H1,I1,r1,q1⟩=>test_link (fm (hb pins s1 σ H1 _ I1 q1) fun u s2 ⟨y,H2,I2,r2,q2⟩ =>
  fm (ho pins s2 σ H2 x y v u _ I2 r1 r2 q2) fun d s3 z1=>?_)) hm;obtain ⟨z,H3,I3,r3,k,e,q3⟩:=z1
 subst e
 cases r3;refine wpAny_truthy_bool ?_
 cases k with
 |false =>
  obtain ⟨k',e',q'⟩:=e1_e (show e1 Q (V.bl false) H3 from q3)
  cases e';exact ite_ff ⟨H3,I3,q'⟩
 |true =>
  refine ite_tt (test_last (fm (hc pins s3 σ H3 _ I3 q3) fun w' s4 ⟨z',H4,I4,r4,q4⟩=>fm (K4 pins s4 σ H4 y z' u w' _ I4 r2 r4 q4) fun d' s5 z1=>?_));obtain ⟨z2,H5,I5,r5,qk⟩:=z1;obtain ⟨k2,e2,q5⟩:=e1_e qk;subst e2
  cases r5;exact wpAny_truthy_bool ⟨H5,I5,q5⟩
theorem Cr:(sizeLine:Nat)<2 ^ 63:=by rw [sizeLine_eq];decide
theorem vals1 {x:V} {us:List Value} (r:Vals [x] us):∃u,us=[u]∧RelV x u:=by
 cases r with
 |cons r1 r2=>cases r2;exact ⟨_,rfl,r1⟩
theorem vals2 {x y:V} {us:List Value} (r:Vals [x,y] us):∃u w',us=[u,w']∧RelV x u∧RelV y w':=by
 cases r with
 |cons r1 r2 =>
  cases r2 with
  |cons r3 r4=>cases r4;exact ⟨_,_,rfl,r1,r3⟩
theorem ux (hc:X.calm=true):jI X (.builtin "max") (fun xs H Q=>∃i j,xs=[.int i,.int j]∧Q (.int (if j>i then j else i)) H):=by
 intro pins s σ H xs us Q I r h;obtain ⟨i,j,rfl,q⟩:=h;obtain ⟨u,w',rfl,⟨t,rfl⟩,⟨t',rfl⟩⟩:=vals2 r;refine max_two_ints (I.ok.hd hc) fun h' tk k=>⟨_,H,I.kept k,?_,q⟩;by_cases hj:j>i
 ·rw [if_pos hj,if_pos hj];exact ⟨_,rfl⟩
 ·rw [if_neg hj,if_neg hj];exact ⟨_,rfl⟩
theorem Ei (hc:X.calm=true):jI X (.builtin "min") (fun xs H Q=>∃i j,xs=[.int i,.int j]∧Q (.int (if j<i then j else i)) H):=by
 intro pins s σ H xs us Q I r h;obtain ⟨i,j,rfl,q⟩:=h;obtain ⟨u,w',rfl,⟨t,rfl⟩,⟨t',rfl⟩⟩:=vals2 r;refine min_two_ints (I.ok.hd hc) fun h' tk k=>⟨_,H,I.kept k,?_,q⟩;by_cases hj:j<i
 ·rw [if_pos hj,if_pos hj];exact ⟨_,rfl⟩
 ·rw [if_neg hj,if_neg hj];exact ⟨_,rfl⟩
theorem Gr:jI X (.type "str") (fun xs H Q=>∃i,xs=[.int i]∧i.natAbs.log2<1920∧Q (.str (toString i)) H):=by
 intro pins s σ H xs us Q I r h;obtain ⟨i,rfl,hz,q⟩:=h;obtain ⟨u,rfl,t,rfl⟩:=vals1 r;exact PySem.P.str_of_int hz ⟨.str _,H,I.tok _,⟨_,rfl⟩,q⟩
theorem OE:jI X (.builtin "ord") (fun xs H Q=>∃x,xs=[.str x]∧x.length=1∧Q (.int (x.cps.getD 0 0:Nat)) H):=by
 intro pins s σ H xs us Q I r h;obtain ⟨x,rfl,hz,q⟩:=h;obtain ⟨u,rfl,t,rfl⟩:=vals1 r;exact ord_of_one hz ⟨.int _,H,I.tok _,⟨_,rfl⟩,q⟩
end
end L2
namespace L2
open PySem PySem.Spec PyProof.Rows
structure Kl (h:Heap) (x dx C:Addr) (mA:Str→Option Value):Prop where
 obj:h.get? x=some (PySem.W.instObj C dx)
 ns:h.Ns1 dx mA
 ne:dx≠x
theorem LV {h:Heap} {dx:Addr} {mA:Str→Option Value} (n:h.Ns1 dx mA):∃od,h.get? dx=some od∧∀name,PySem.W.lookIn name od=some (mA name):=by
 obtain ⟨o,es,ep,ho,hd,hk,_,hm⟩:=n;refine ⟨o,ho,fun name=>?_⟩;have e:=hm name;unfold nsFind findBy at e;rw [←Array.find?_toList] at e;unfold PySem.W.lookIn;rw [hd];dsimp only;split
 ·rename_i y q;rw [q] at e;exact congrArg some e
 ·rename_i q;rw [q] at e;have a:es.toList.any (·.refKey)=false:=by
   rw [List.any_eq_false];intro y hy;obtain ⟨z,t,Yh⟩:=hk y (Array.mem_toList_iff.mp hy);simp [DictEntry.refKey,Yh]
  have a':¬es.toList.any (·.refKey)=true:=by rw [a];exact Bool.false_ne_true
  rw [if_neg a'];exact congrArg some e
theorem Kl.look {h:Heap} {x dx C:Addr} {mA:Str→Option Value} (I:Kl h x dx C mA):∃od,PySem.W.InstAt h x (PySem.W.instObj C dx) C (some od)∧∀name,PySem.W.lookIn name od=some (mA name) :=
 let ⟨od,ho,hl⟩:=LV I.ns
 ⟨od,⟨I.obj,rfl,rfl,ho⟩,hl⟩
section
variable {prog:Program} {w:World} {A:Around} {E:Value→Shared→Prop} {s:Shared} {K:PySem.W.Frag} {x dx C f:Addr} {mA:Str→Option Value} {name:Str} {v:Value}
theorem get_map {expr:Bool} {Q:Value→Shared→Prop} (X:K.In s.heap) (I:Kl s.heap x dx C mA) (hg:PySem.W.plainGet K C name=true) (hh:PySem.W.hasDictIn K C=true)
  (ha:PySem.W.findIn K (.ref C) name=some none) (hv:mA name=some v) (Wz:PySem.W.handedIn v=true) (h:Q v { s with toks:=s.toks+1 }) :
  wpAny (model prog w) A (getAttr (.ref x) name expr) Q E s:=by
 obtain ⟨od,J,hl⟩:=I.look;exact PySem.W.get_value X J (PySem.W.plainGet_of hg).1 (PySem.W.findObj_own hh ha rfl (by rw [hl,hv])) Wz h
theorem ON {pl:Sem Bool} {Q:Value×List Value→Shared→Prop} (X:K.In s.heap) (I:Kl s.heap x dx C mA) (hg:PySem.W.plainGet K C name=true)
  (hf:PySem.W.findIn K (.ref C) name=some (some (.ref f))) (ht:PySem.W.isFn K (.ref f)=true) (hv:mA name=none) (h:Q (.ref f,[.ref x]) s) :
  wpAny (model prog w) A (getMethod (.ref x) name pl) Q E s:=by
 obtain ⟨od,J,hl⟩:=I.look;exact PySem.W.method_fn X J (PySem.W.plainGet_of hg).1 (PySem.W.plainGet_of hg).2 hf (beq_iff_eq.mp ht) (by show (PySem.W.lookIn name od).map (·.isSome)=some false;rw [hl,hv];rfl) h
theorem QE {ns:List Str} {Q:Unit→Shared→Prop} (X:K.In s.heap) (I:Kl s.heap x dx C mA)
  (hs:PySem.W.findIn K (.ref C) "__setattr__"=some (some (.builtin "object.__setattr__"))) (hp:PySem.W.plainOver K C=true) (ht:PySem.W.takerIn K C name=some none) (hh:PySem.W.hasDictIn K C=true)
  (hw:PySem.Within mA ns) (hsz:ns.length≤sizeLine)
  (h:∀h',Kl h' x dx C (fun y=>if y=name then some v else mA y)→Heap.SameBut dx s.heap h'→Q () { s with heap:=h',toks:=s.toks+2 }) :
  wpAny (model prog w) A (setAttr (.ref x) name v) Q E s:=by
 obtain ⟨od,J,hl⟩:=I.look;refine PySem.W.set_plain X J hs (PySem.W.osa_open (s:={ s with toks:=s.toks+1 }) (r:=none) X J hp ht fun b=>?_);obtain ⟨cd,hc,Xz⟩:=PySem.W.any_some hh;have hx:s.heap.get? x=some ⟨.ref C,some dx,.plain, #[]⟩:=I.obj;refine wpAny_bind (wpAny_pure (wpAny_bind (wpAny_bind (wpAny_loadPart hx (wpAny_bind (PySem.W.Looks.here (s:={ s with toks:=s.toks+1 }) (PySem.W.looks_clsIn X hc) ?_))))));rw [Xz];refine wpAny_pure (a:=some dx) (wpAny_bind (wpAny_pure (wpAny_bind ?_)));refine wpAny_nsSet1 (s:={ s with toks:=s.toks+1 }) I.ns fun h' Wx Vw=>?_;obtain ⟨oD,esD,epD,hoD,hdD,hcD⟩:=Wx.count (PySem.Within.cons name v hw);refine wpAny_bind (wpAny_lookBehind hoD (by rw [hdD];exact pastItsLine_dict (Nat.le_trans hcD (by rw [List.length_cons];omega))) ?_);exact wpAny_pure (h _ ⟨(Vw.2 _ (Ne.symm I.ne)).trans I.obj,Wx,I.ne⟩ Vw)
theorem OH {R:Result→Shared→Prop} {vs:List Value} {kw:List (Str×Value)} (X:K.In s.heap) (hm:PySem.W.makesIn K C=true)
  (hi:PySem.W.findIn K (.ref C) "__init__"=some (some (.ref f))) (hf:PySem.W.typeIn K (.ref f)=some (.type "function"))
  (h:codeAny (model prog w) (A.under (.builtin "type.__call__" ⟨.ref C::vs,kw⟩)) (.call (.ref f) ⟨.ref (s.heap.objs.size+1)::vs,kw⟩) (PySem.W.InitBack (s.heap.objs.size+1) R)
   { s with heap:=(s.heap.push PySem.W.emptyDict).push (PySem.W.instObj C s.heap.objs.size) }) :
  codeAny (model prog w) A (.call (.ref C) ⟨vs,kw⟩) R s:=by
 obtain ⟨hh,g,d,t,os⟩:=s;exact PySem.W.make_core (PySem.W.makes_of X hm) (PySem.W.looks_findIn X hi) (fun self=>PySem.W.bind_fn X self hf) (.inl rfl) h
end
def g9 (f:Str) (v:V):List (Str×V)→List (Str×V)
 |[]=>[(f,v)]
 |(g,x)::r=>if g=f then (g,v)::r else (g,x)::g9 f v r
theorem AE (f g:Str) (v:V):∀fs:List (Str×V),(g9 f v fs).lookup g=if g=f then some v else fs.lookup g
 |[]=>by
  show List.lookup g [(f,v)]=_;by_cases h:g=f
  ·have hb:(g==f)=true:=beq_iff_eq.mpr h;simp only [List.lookup,hb,if_pos h]
  ·have hb:(g==f)=false:=beq_eq_false_iff_ne.mpr h;simp only [List.lookup,hb,if_neg h]
 |(k,x)::r=>by
  have ih:=AE f g v r;rw [show g9 f v ((k,x)::r)=(if k=f then (k,v)::r else (k,x)::g9 f v r) from rfl]
  by_cases hk:k=f
  ·rw [if_pos hk];by_cases h:g=k
   ·have hb:(g==k)=true:=beq_iff_eq.mpr h;simp only [List.lookup,hb,if_pos (h.trans hk)]
   ·have hb:(g==k)=false:=beq_eq_false_iff_ne.mpr h;simp only [List.lookup,hb,if_neg (fun e:g=f=>h (e.trans hk.symm))]
  ·rw [if_neg hk];by_cases h:g=k
   ·have hb:(g==k)=true:=beq_iff_eq.mpr h;simp only [List.lookup,hb,if_neg (fun e:g=f=>hk (h.symm.trans e))]
   ·have hb:(g==k)=false:=beq_eq_false_iff_ne.mpr h;simp only [List.lookup,hb];exact ih
theorem yO (f:Str) (v:V):∀fs:List (Str×V),f∈(g9 f v fs).map (·.1)∧∀g,g∈fs.map (·.1)→g∈(g9 f v fs).map (·.1)
 |[]=>⟨by simp [g9],fun g h=>by simp at h⟩
 |(k,x)::r=>by
  obtain ⟨i1,i2⟩:=yO f v r;rw [show g9 f v ((k,x)::r)=(if k=f then (k,v)::r else (k,x)::g9 f v r) from rfl]
  by_cases hk:k=f
  ·rw [if_pos hk];subst hk;exact ⟨by simp,fun g h=>by simpa using h⟩
  ·rw [if_neg hk];refine ⟨?_,fun g h=>?_⟩
   ·rw [List.map_cons];exact List.mem_cons_of_mem _ i1
   ·rw [List.map_cons] at h ⊢;rcases List.mem_cons.mp h with e|e
    ·exact List.mem_cons.mpr (.inl e)
    ·exact List.mem_cons_of_mem _ (i2 g e)
theorem z0 (f:Str) (v:V):∀fs:List (Str×V),(g9 f v fs).length≤fs.length+1
 |[]=>by simp [g9]
 |(k,x)::r=>by
  have ih:=z0 f v r;rw [show g9 f v ((k,x)::r)=(if k=f then (k,v)::r else (k,x)::g9 f v r) from rfl]
  by_cases hk:k=f
  ·rw [if_pos hk,List.length_cons,List.length_cons];omega
  ·rw [if_neg hk,List.length_cons,List.length_cons];omega
theorem D7.some_of {v:V} {o:Option Value} (r:D7 (some v) o):∃u,o=some u∧RelV v u:=by
 cases o with
 |none=>exact (show False from r).elim
 |some u=>exact ⟨u,rfl,r⟩
theorem D7.none_of {o:Option Value} (r:D7 none o):o=none:=by
 cases o with
 |none=>rfl
 |some u=>exact (show False from r).elim
theorem LO {v:V} {u:Value} (r:RelV v u):PySem.W.handedIn u=true:=by
 cases v with
 |de=>cases (show u=Value.none from r);rfl
 |bl b=>cases (show u=Value.bool b from r);rfl
 |int i=>obtain ⟨t,e⟩:=(show ∃t,u=Value.int i t from r);cases e;rfl
 |str x=>obtain ⟨t,e⟩:=(show ∃t,u=Value.str x t from r);cases e;rfl
 |Jq b=>obtain ⟨t,e⟩:=(show ∃t,u=Value.bytes b t from r);cases e;rfl
 |WY b=>obtain ⟨t,e⟩:=(show ∃t,u=Value.float b t from r);cases e;rfl
 |ref a=>cases (show u=Value.ref a from r);rfl
 |ty n=>cases (show u=Value.type n from r);rfl
section
variable {P:Program} {w:World} {H H':Hp} {h h':Heap} {a C dx:Addr} {fs fs':List (Str×V)}
theorem GF (cZ:wy P w H h) (e:H a=some (.ins C dx fs)):∃mA,Kl h a dx C mA∧(∀f,D7 (fs.lookup f) (mA f))∧PySem.Within mA (fs.map (·.1))∧fs.length≤1000∧H dx=some (.own a):=by
 obtain ⟨d,z,ne,ob,mA,n,r,q⟩:=(show gY P w H h a (.ins C dx fs) from cZ a _ e)
 exact ⟨mA,⟨ob,n,ne⟩,r,q,z,d⟩
end
structure Na (K:PySem.W.Frag) (C:Addr):Prop where
 pg:PySem.W.plainGet K C Str.empty=true
 hd:PySem.W.hasDictIn K C=true
 po:PySem.W.plainOver K C=true
 sa:PySem.W.findIn K (.ref C) "__setattr__"=some (some (.builtin "object.__setattr__"))
theorem Na.get {K:PySem.W.Frag} {C:Addr} (c:Na K C) (f:Str):PySem.W.plainGet K C f=true:=c.pg
def b7 (K:PySem.W.Frag) (C:Addr) (f:Str):Prop:=PySem.W.findIn K (.ref C) f=some none
theorem b7.UT {K:PySem.W.Frag} {C:Addr} {f:Str} (n:b7 K C f):PySem.W.takerIn K C f=some none:=by
 unfold PySem.W.takerIn;rw [show PySem.W.findIn K (.ref C) f=some none from n]
 rfl
structure Meth (K:PySem.W.Frag) (C:Addr) (m:Str) (f:Addr):Prop where
 at_:PySem.W.findIn K (.ref C) m=some (some (.ref f))
 fn:PySem.W.isFn K (.ref f)=true
 kp:PySem.W.keepIn K (.ref f)=true
section
variable {X:Cx} {pins:List (Addr×Obj)} {σ:St} {H:Hp} {s:Shared} {a C dx:Addr} {fs:List (Str×V)} {f:Str} {v:V} {A:Around} {E:Value→Shared→Prop}
theorem BQ {b:Bool} {Q:Value→Shared→Prop} (I:Inv X pins σ H s) (e:H a=some (.ins C dx fs)) (c:Na X.K C) (n:b7 X.K C f) (l:fs.lookup f=some v)
  (h:∀u s',Inv X pins σ H s'→RelV v u→Q u s'):wpAny (model X.prog X.w) A (getAttr (.ref a) f b) Q E s:=by
 obtain ⟨mA,O,r,_,_,_⟩:=GF I.cZ e;obtain ⟨u,hu,ru⟩:=D7.some_of (v:=v) (o:=mA f) (by rw [←l];exact r f);exact get_map I.Km O (c.get f) c.hd n hu (LO ru) (h u _ (I.tok _) ru)
theorem vy {m:Str} {g:Addr} {pl:Sem Bool} {Q:Value×List Value→Shared→Prop} (I:Inv X pins σ H s) (e:H a=some (.ins C dx fs)) (c:Na X.K C) (k:Meth X.K C m g) (l:fs.lookup m=none)
  (h:Q (.ref g,[.ref a]) s):wpAny (model X.prog X.w) A (getMethod (.ref a) m pl) Q E s:=by
 obtain ⟨mA,O,r,_,_,_⟩:=GF I.cZ e;have hn:mA m=none:=D7.none_of (by rw [←l];exact r m);exact ON I.Km O (c.get m) k.at_ k.fn hn h
theorem BN {y:V} {u:Value} {Q:Unit→Shared→Prop} (I:Inv X pins σ H s) (e:H a=some (.ins C dx fs)) (c:Na X.K C) (n:b7 X.K C f) (hl:fs.length<1000) (ry:RelV y u)
  (h:∀s',Inv X pins σ (upd H a (.ins C dx (g9 f y fs))) s'→Q () s'):wpAny (model X.prog X.w) A (setAttr (.ref a) f u) Q E s:=by
 obtain ⟨mA,O,r,wi,_,ho⟩:=GF I.cZ e;have hz:(fs.map (·.1)).length≤sizeLine:=by rw [List.length_map,sizeLine_eq];omega
 refine QE I.Km O c.sa c.po n.UT c.hd wi hz fun h' O' sb=>h _ ?_;have hd:∃o,h'.get? dx=some o:=let ⟨o,_,_,e',_⟩:=O'.ns;⟨o,e'⟩
 refine I.write (x:=a) (e:=dx) (by rw [e];exact True.intro) (.inr ho) (fun b q hb z=>(sb.2 b hb).trans z) hd ?_;refine ⟨by rw [aF O.ne];exact ho,?_,O.ne,O'.obj,_,O'.ns,fun g=>?_,fun g hg=>?_⟩
 ·have:=z0 f y fs;omega
 ·show D7 ((g9 f y fs).lookup g) (if g=f then some u else mA g)
  rw [AE];by_cases q:g=f
  ·rw [if_pos q,if_pos q];exact ry
  ·rw [if_neg q,if_neg q];exact r g
 ·by_cases q:g=f
  ·rw [q];exact (yO f y fs).1
  ·refine (yO f y fs).2 g (wi g fun z=>hg ?_);show (if g=f then some u else mA g)=none
   rw [if_neg q];exact z
theorem Inv.made (I:Inv X pins σ H s):Inv X pins σ (upd (upd H s.heap.objs.size (.own (s.heap.objs.size+1))) (s.heap.objs.size+1) (.ins C s.heap.objs.size []))
  { s with heap:=(s.heap.push PySem.W.emptyDict).push (PySem.W.instObj C s.heap.objs.size) }:=by
 have e1:(s.heap.push PySem.W.emptyDict).get? s.heap.objs.size=some PySem.W.emptyDict:=Heap.get?_push_size s.heap rfl;have e2:((s.heap.push PySem.W.emptyDict).push (PySem.W.instObj C s.heap.objs.size)).get? (s.heap.objs.size+1)=some (PySem.W.instObj C s.heap.objs.size):=by
  have:=Heap.get?_push_size (s.heap.push PySem.W.emptyDict) (o:=PySem.W.instObj C s.heap.objs.size) rfl
  rwa [Heap.size_push] at this
 have e3:(s.heap.push PySem.W.emptyDict).Ns s.heap.objs.size (fun _=>none):=⟨PySem.W.emptyDict, #[],_,e1,rfl,(fun e he=>absurd he (by simp)),fun _=>rfl⟩;have I1:=I.laid (a:=s.heap.objs.size) (o:= .own (s.heap.objs.size+1)) (h':=s.heap.push PySem.W.emptyDict) (t':=s.toks) (fun b u q=>Heap.get?_push_of_some _ q) (Nat.le_refl _) ⟨_,e1⟩;refine I1.laid (a:=s.heap.objs.size+1) (o:= .ins C s.heap.objs.size []) (t':=s.toks) (fun b u q=>Heap.get?_push_of_some _ q) (Nat.le_of_eq (Heap.size_push _ _)) ?_;have ne:s.heap.objs.size≠s.heap.objs.size+1:=Nat.ne_of_lt (Nat.lt_succ_self _);refine ⟨by rw [aF ne,aA],Nat.zero_le _,ne,e2,fun _=>none,(Heap.Ns1.of_empty e3).at fun o q=>Heap.get?_push_of_some _ q,fun _=>True.intro,fun y hy=>absurd rfl hy⟩
theorem Qp {prog:Program} {w:World} {env:Env} {e:Expr} {f:Str} {pos:Pos} {s:Shared} {Q:Value→Shared→Prop} (hb:attributeBase e f env (eval e env)=eval e env)
  (h:wpAny (model prog w) A (eval e env) (fun o s₁ =>wpAny (model prog w) A (getAttr o f true) Q E s₁) E s):wpAny (model prog w) A (eval (.Attribute e f pos) env) Q E s :=
 Attribute_any_ h (by rw [arm_eval_Attribute,hb])
end
section
variable {X:Cx} {o e value:Expr} {f:Str} {pos pos' wx:Pos} {ta tv:TE}
theorem Q4 {pl:Sem Bool} {m:Str} {apos:Pos} {args:List Expr} {pins:List (Addr×Obj)} {s:Shared} {σ:St} {H:Hp} {Q:Value→Shared→Prop} {te:TE} (he:PE X e te) (I:Inv X pins σ H s)
  (h:te σ H fun x H1=>∃a C dx fs g,x=.ref a∧H1 a=some (.ins C dx fs)∧Na X.K C∧Meth X.K C m g∧fs.lookup m=none ∧
   ∀s1,Inv X pins σ H1 s1→wpAny (model X.prog X.w) X.A (callWith pos (.ref g) [.ref a] (backTo pos (starEach args X.env)) (backToKw pos (keywordEach [] X.env))) Q X.xe s1)
  (ht:eval (.Call (.Attribute e m apos) args [] pos) X.env=(do
   let ov←eval e X.env
   standAt apos.atName
   let (f,first)←holding [ov] (getMethod ov m pl)
   callWith pos f first (backTo pos (starEach args X.env)) (backToKw pos (keywordEach [] X.env)))) :
  wpAny (model X.prog X.w) X.A (eval (.Call (.Attribute e m apos) args [] pos) X.env) Q X.xe s:=by
 refine PySem.W.methodCall_KW (pl:=pl) (fm (he pins s σ H _ I h) fun u s1 z1=>?_) ht;obtain ⟨x,H1,I1,rx,a,C,dx,fs,g,ex,ea,c,k,l,q⟩:=z1;subst ex;obtain rfl:u=Value.ref a:=rx;exact vy I1 ea c k l (q s1 I1)
end
end L2
namespace L2
open PySem PySem.Spec PyProof.Rows
structure je (k:Nat) (A:Around):Prop where
 hd:A.handled=none
 dp:A.depth+3*k+5<recursionLimit
 un:A.units+16*k+200<cLine
theorem je.mono {j k:Nat} {A:Around} (r:je k A) (h:j≤k):je j A:=⟨r.hd,by have:=r.dp;omega,by have:=r.un;omega⟩
theorem je.deeper {k:Nat} {A:Around} (r:je (k+1) A) (env:Env):je k (A.deeper env) :=
 ⟨r.hd,by have:=r.dp;show A.depth+1+3*k+5<_;omega,by have:=r.un;show A.units+3+16*k+200<_;omega⟩
theorem Ko {A:Around} {C:Addr} {us:List Value} {kw:List (Str×Value)}:(A.under (.builtin "type.__call__" ⟨.ref C::us,kw⟩)).depth=A.depth+1:=by
 first|rfl|simp [Around.under,Code.weight,Code.isCreation,Code.isGuard,Code.isCaller,Code.frames,Code.isFrame,guardIds]
theorem KS {A:Around} {C:Addr} {us:List Value} {kw:List (Str×Value)}:(A.under (.builtin "type.__call__" ⟨.ref C::us,kw⟩)).units=A.units+1:=by
 first|rfl|simp [Around.under,Code.cUnits,Code.frames,Code.isFrame]
theorem je.make {k:Nat} {A:Around} (r:je (k+1) A) (C:Addr) (us:List Value) (kw:List (Str×Value)):je k (A.under (.builtin "type.__call__" ⟨.ref C::us,kw⟩)) :=
 ⟨r.hd,by have:=r.dp;rw [Ko];omega,by have:=r.un;rw [KS];omega⟩
theorem je.depth {k:Nat} {A:Around} (r:je k A):A.depth<recursionLimit:=by have:=r.dp;omega
theorem je.units {k:Nat} {A:Around} (r:je k A):A.units+64<cLine:=by have:=r.un;omega
def KP:TA:=fun _ H Q=>Q [] H
def Ap (ta:TE) (tr:TA):TA:=fun σ H Q=>ta σ H fun x H1=>tr σ H1 fun xs H2=>Q (x::xs) H2
section
variable {X:Cx} {e:Expr} {es:List Expr} {te:TE} {t:TA} {pos:Pos}
theorem ag:PA X [] KP:=fun _ _ _ _ H Q I h=>Calls.spliced_nil ⟨[],H,I,.nil,h⟩
theorem aa (ha:PE X e te) (hr:PA X es t) (hs:starEach (e::es) X.env=(false,eval e X.env)::starEach es X.env:=by rfl):PA X (e::es) (Ap te t):=by
 intro pos pins s σ H Q I h;rw [hs];show wpAny _ _ (spliced ((false,eval e X.env)::backTo pos (starEach es X.env))) _ _ s;refine Calls.spliced_cons (fm (ha pins s σ H _ I h) fun u s1 z1=>?_);obtain ⟨x,H1,I1,r1,q1⟩:=z1;exact fm (hr pos pins s1 σ H1 _ I1 q1) fun us s2 z1=>(by obtain ⟨xs,H2,I2,r2,q2⟩:=z1;exact ⟨x::xs,H2,I2,.cons r1 r2,q2⟩)
def UO (t:TA):TE:=fun σ H Q=>t σ H fun xs H1=>xs.length≤sizeLine∧∀p,H1 p=none→Q (.ref p) (upd H1 p (.tup xs))
def Vk (t:TA):TE:=fun σ H Q=>t σ H fun xs H1=>xs.length≤sizeLine∧∀p,H1 p=none→Q (.ref p) (upd H1 p (.lst xs))
theorem vv {x1} (h:PA X es t):PE X (.Tuple es x1 pos) (UO t):=by
 intro pins s σ H Q I hq;refine wpAny_Tuple_spliced (fm (h pos pins s σ H _ I hq) fun us s1 ⟨xs,H1,I1,r,z,q⟩=>⟨by rw [←r.length];exact z,?_⟩);have hf:H1 s1.heap.objs.size=none:=I1.cZ.fresh (Nat.le_refl _);refine ⟨.ref s1.heap.objs.size,upd H1 s1.heap.objs.size (.tup xs),I1.laid (t':=s1.toks) (fun b u e=>Heap.get?_push_of_some _ e) (Nat.le_refl _) ?_,rfl,q _ hf⟩;exact ⟨z,us,r,⟨_,Heap.get?_push_size _ rfl,rfl,_,rfl⟩⟩
theorem a9 (h:PA X es t):PE X (.List es pos) (Vk t):=by
 intro pins s σ H Q I hq;refine wpAny_List_spliced (fm (h pos pins s σ H _ I hq) fun us s1 ⟨xs,H1,I1,r,z,q⟩=>⟨by rw [←r.length];exact z,?_⟩);have hf:H1 s1.heap.objs.size=none:=I1.cZ.fresh (Nat.le_refl _);refine ⟨.ref s1.heap.objs.size,upd H1 s1.heap.objs.size (.lst xs),I1.laid (t':=s1.toks) (fun b u e=>Heap.get?_push_of_some _ e) (Nat.le_refl _) ?_,rfl,q _ hf⟩;exact ⟨z,us,0,r,Heap.get?_push_size _ rfl⟩
end
abbrev Sp:=List V→Hp→VK→XK→Prop
abbrev L8:=List Env→Hp→Shared→XK→Value→Shared→Prop
structure Kq (P:Program) (w:World) (K:PySem.W.Frag) (mg:Str→Option Value) (base:Heap) (A:Around) (outer:List Env) (s:Shared) (H:Hp):Prop where
 frames:A.frames=some outer
 mod:Mod K mg base
 bs:∀b o,base.get? b=some o→s.heap.get? b=some o∧H b=none
 O4:base.objs.size≤s.heap.objs.size
 Bb:s.heap.FunFrames base outer
 TF:∀b∈OZ outer,H b=none
 cZ:wy P w H s.heap
 bare:AllBare s.gens
def CE (outer:List Env) (P:Program) (w:World) (H:Hp) (s:Shared) (Q:VK) (u:Value) (s':Shared):Prop :=
 ∃v H',s'.os=s.os∧AllBare s'.gens∧Un (OZ outer) [] H H' s.heap s'.heap∧wy P w H' s'.heap∧RelV v u∧Q v H'
def CR (CX:L8) (outer:List Env) (P:Program) (w:World) (H:Hp) (s:Shared) (Q:VK) (E:XK) (r:Result) (s':Shared):Prop :=
 match r with
 | .ok (.ret u)=>CE outer P w H s Q u s'
 | .ok _=>False
 | .error e=>CX outer H s E e s'
structure aU (P:Program) (w:World) (K:PySem.W.Frag) (mg:Str→Option Value) (base:Heap) (CX:L8) (k:Nat) (f:Addr) (fd:FuncData) (ps:List Str) (sp:Sp):Prop where
 len:∀vs H Q E,sp vs H Q E→vs.length=ps.length
 run:∀(A:Around) (outer:List Env) (s:Shared) (H:Hp) (args:Args) (us:List Value) (vs:List V) (Q:VK) (E:XK),je k A→Kq P w K mg base A outer s H→BindsTo s fd args (ps.zip us)→Vals vs us→sp vs H Q E →
  codeAny (model P w) A (.call (.ref f) args) (CR CX outer P w H s Q E) s
theorem aU.mono {P:Program} {w:World} {K:PySem.W.Frag} {mg:Str→Option Value} {base:Heap} {CX:L8} {j k:Nat} {f:Addr} {fd:FuncData} {ps:List Str} {sp:Sp} (F:aU P w K mg base CX j f fd ps sp) (h:j≤k) :
  aU P w K mg base CX k f fd ps sp:=⟨F.len,fun A outer s H args us vs Q E hr=>F.run A outer s H args us vs Q E (hr.mono h)⟩
theorem Kq.make {P:Program} {w:World} {K:PySem.W.Frag} {mg:Str→Option Value} {base:Heap} {A:Around} {outer:List Env} {s:Shared} {H:Hp} (e:Kq P w K mg base A outer s H) (C:Addr) (us:List Value) (kw:List (Str×Value)) :
  Kq P w K mg base (A.under (.builtin "type.__call__" ⟨.ref C::us,kw⟩)) outer s H:=⟨by first|exact e.frames|(simpa [Around.under,Code.envs,Code.isFrame,pushEnvs] using e.frames),e.mod,e.bs,e.O4,e.Bb,e.TF,e.cZ,e.bare⟩
section
variable {X:Cx} {pins:List (Addr×Obj)} {σ:St} {H:Hp} {s s':Shared}
theorem Inv.Vl (I:Inv X pins σ H s):Kq X.prog X.w X.K X.mg X.base X.A X.stack s H :=
 ⟨I.ok.frames,I.ok.mod,I.bs,Nat.le_trans I.ok.O4 I.sz,I.stack,I.Lz,I.cZ,I.bare⟩
theorem Inv.after {Q:VK} {u:Value} (I:Inv X pins σ H s) (h:CE X.stack X.prog X.w H s Q u s'):EP X pins σ Q u s':=by
 obtain ⟨v,H',os,bare,un,cZ,r,q⟩:=h;obtain ⟨hh,g,d,t,os'⟩:=s';obtain rfl:os'=s.os:=os;exact ⟨v,H',I.call (h':=hh) (g':=g) (d':=d) (t':=t) (ch:=[]) un cZ bare (fun b z=>absurd z (by simp)),r,q⟩
end
def Rg (sp:Sp) (u5:List V) (E:XK) (t:TA):TE:=fun σ H Q=>t σ H fun vs H1=>sp (vs++u5) H1 Q E
def f8 (sp:Sp) (u5:List V) (E:XK) (Q:VK) (x:V) (vs:List V) (H2:Hp):Prop:=sp (x::(vs++u5)) H2 Q E
def f9 (t:TA) (σ:St) (k:List V→Hp→Prop) (H1:Hp) (o:Option V):Prop:=match o with|none=>t σ H1 k|_=>False
def f7 (C:Addr) (m:Str) (t:TA) (σ:St) (k:List V→Hp→Prop) (H1:Hp) (o:Option HO):Prop:=∃dx fs,o=some (.ins C dx fs)∧f9 t σ k H1 (fs.lookup m)
def f6 (C:Addr) (m:Str) (sp:Sp) (u5:List V) (E:XK) (t:TA) (σ:St) (Q:VK) (x:V) (H1:Hp):Prop:=match x with|.ref a=>f7 C m t σ (f8 sp u5 E Q (.ref a)) H1 (H1 a)|_=>False
theorem f6_e {C m} {sp:Sp} {u5 E} {t:TA} {σ Q x H} (h:f6 C m sp u5 E t σ Q x H):∃a dx fs,x=.ref a∧H a=some (.ins C dx fs)∧fs.lookup m=none∧t σ H (f8 sp u5 E Q x):=by
 cases x with
 |ref a=>
  obtain ⟨dx,fs,e,h⟩:=(h:f7 C m t σ (f8 sp u5 E Q (.ref a)) H (H a))
  cases l:fs.lookup m with
  |none=>rw [l] at h;exact ⟨a,dx,fs,rfl,e,l,h⟩
  |some v=>rw [l] at h;exact h.elim
 |_=>exact h.elim
def IH (C:Addr) (m:Str) (sp:Sp) (u5:List V) (E:XK) (ta:TE) (t:TA):TE:=fun σ H Q=>ta σ H (f6 C m sp u5 E t σ Q)
def NZ (C:Addr) (sp:Sp) (u5:List V) (E:XK) (t:TA):TE:=fun σ H Q=>t σ H fun vs H1=>∀x dx,H1 x=none→H1 dx=none→dx≠x →
 sp (.ref x::(vs++u5)) (upd (upd H1 dx (.own x)) x (.ins C dx [])) (fun v H2=>v=.de∧Q (.ref x) H2) E
def Binds (K:PySem.W.Frag) (fd:FuncData) (ps:List Str) (ds:List Value):Prop :=
 ∀(s:Shared) (us:List Value),K.In s.heap→(us++ds).length=ps.length→BindsTo s fd ⟨us,[]⟩ (ps.zip (us++ds))
theorem Binds.all {K:PySem.W.Frag} {fd:FuncData} {ps:List Str} (h:∀us:List Value,us.length=ps.length→bindArgs fd ⟨us,[]⟩=pure (ps.zip us)):Binds K fd ps []:=fun s us _ hl=>by
 rw [List.append_nil] at hl ⊢;exact .of_eq (h us hl)
def Passes (CX:L8) (X:Cx) (E:XK):Prop:=∀(pins:List (Addr×Obj)) (σ:St) (H:Hp) (s:Shared) (e:Value) (s':Shared),Inv X pins σ H s→CX X.stack H s E e s'→X.xe e s'
section
variable {X:Cx} {CX:L8} {k:Nat} {f C:Addr} {fd:FuncData} {ps:List Str} {sp:Sp} {u5:List V} {ds:List Value} {E:XK} {x m:Str} {p pos apos:Pos} {e o:Expr} {es:List Expr} {ta:TE} {t:TA}
theorem JT {pins:List (Addr×Obj)} {σ:St} {H:Hp} {s:Shared} {Q:VK} {us:List Value} {vs:List V} (F:aU X.prog X.w X.K X.mg X.base CX k f fd ps sp) (hr:je k X.A) (hb:Binds X.K fd ps ds) (hd:Vals u5 ds) (hx:Passes CX X E)
  (I:Inv X pins σ H s) (r:Vals vs us) (h:sp (vs++u5) H Q E):wpAny (model X.prog X.w) X.A (call (.ref f) us) (EP X pins σ Q) X.xe s:=by
 have r2:Vals (vs++u5) (us++ds):=r.append hd;have hl:(us++ds).length=ps.length:=by rw [←r2.length];exact F.len _ _ _ _ h
 refine wpAny_call (codeAny_mono (F.run X.A X.stack s H ⟨us,[]⟩ (us++ds) (vs++u5) Q E hr I.Vl (hb s us I.Km hl) r2 h) fun r s' hq=>?_)
 cases r with
 |error e=>exact hx pins σ H s e s' I hq
 |ok fl =>
  cases fl with
  |ret u=>exact I.after hq
  |next=>exact False.elim hq
  |brk=>exact False.elim hq
  |cont=>exact False.elim hq
theorem aD (F:aU X.prog X.w X.K X.mg X.base CX k f fd ps sp) (hr:je k X.A) (hg:Gl X x) (hm:X.mg x=some (.ref f)) (hk:PySem.W.keepIn X.K (.ref f)=true) (hb:Binds X.K fd ps ds) (hd:Vals u5 ds) (hx:Passes CX X E)
  (ha:PA X (e::es) t) (QB:(x==("__debug__":Str))=false:=by decide) (he:starEach (e::es) X.env=(false,eval e X.env)::starEach es X.env:=by rfl) (Js:(backTo pos (starEach es X.env)).any (·.1)=false:=by rfl) :
  PE X (.Call (.Name x p) (e::es) [] pos) (Rg sp u5 E t):=by
 intro pins s σ H Q I h;refine wpAny_Call_Name_kw (Bd I hg hm ?_ QB);refine PySem.W.callWith_K (h₀ :=X.base) I.ok.mod.VL hk (fm (ha pos pins s σ H _ I h) fun us s1 ⟨vs,H1,I1,r,q⟩=>⟨I1.Km,?_⟩) he Js;exact JT F hr hb hd hx I1 r q
theorem a8 {pl:Sem Bool} (he:PE X o ta) (c:Na X.K C) (hm:Meth X.K C m f) (F:aU X.prog X.w X.K X.mg X.base CX k f fd ps sp) (hr:je k X.A) (hb:Binds X.K fd ps ds) (hd:Vals u5 ds) (hx:Passes CX X E) (ha:PA X (e::es) t)
  (VG:starEach (e::es) X.env=(false,eval e X.env)::starEach es X.env:=by rfl) (Js:(backTo pos (starEach es X.env)).any (·.1)=false:=by rfl)
  (ht:eval (.Call (.Attribute o m apos) (e::es) [] pos) X.env=(do
   let ov←eval o X.env
   standAt apos.atName
   let (f,first)←holding [ov] (getMethod ov m pl)
   callWith pos f first (backTo pos (starEach (e::es) X.env)) (backToKw pos (keywordEach [] X.env))):=by rfl) :
  PE X (.Call (.Attribute o m apos) (e::es) [] pos) (IH C m sp u5 E ta t):=by
 intro pins s σ H Q I h;refine PySem.W.methodCall_KW (pl:=pl) (fm (he pins s σ H _ I h) fun u s1 z1=>?_) ht;obtain ⟨x,H1,I1,rx,z⟩:=z1;obtain ⟨a,dx,fs,ex,ea,l,q⟩:=f6_e z;subst ex;obtain rfl:u=Value.ref a:=rx;refine vy I1 ea c hm l ?_;refine PySem.W.callWith_K (first:=[.ref a]) (h₀ :=X.base) I.ok.mod.VL hm.kp (fm (ha pos pins s1 σ H1 _ I1 q) fun us s2 ⟨vs,H2,I2,r,q2⟩=>⟨I2.Km,?_⟩) VG Js
 exact JT (us:= .ref a::us) (vs:= .ref a::vs) F hr hb hd hx I2 (.cons rfl r) q2
theorem cU {pl:Sem Bool} (he:PE X o ta) (c:Na X.K C) (hm:Meth X.K C m f) (F:aU X.prog X.w X.K X.mg X.base CX k f fd ps sp) (hr:je k X.A) (hb:Binds X.K fd ps ds) (hd:Vals u5 ds) (hx:Passes CX X E)
  (ht:eval (.Call (.Attribute o m apos) [] [] pos) X.env=(do
   let ov←eval o X.env
   standAt apos.atName
   let (f,first)←holding [ov] (getMethod ov m pl)
   callWith pos f first (backTo pos (starEach [] X.env)) (backToKw pos (keywordEach [] X.env))):=by rfl) :
  PE X (.Call (.Attribute o m apos) [] [] pos) (IH C m sp u5 E ta KP):=by
 intro pins s σ H Q I h;refine PySem.W.methodCall_KW (pl:=pl) (fm (he pins s σ H _ I h) fun u s1 z1=>?_) ht;obtain ⟨x,H1,I1,rx,z⟩:=z1;obtain ⟨a,dx,fs,ex,ea,l,q⟩:=f6_e z;subst ex;obtain rfl:u=Value.ref a:=rx;refine vy I1 ea c hm l ?_;exact PySem.W.callWith_K0 (first:=[.ref a]) I1.Km hm.kp (JT (us:=[.ref a]) (vs:=[.ref a]) F hr hb hd hx I1 (.cons rfl .nil) q)
structure Mk (K:PySem.W.Frag) (C f:Addr):Prop where
 makes:PySem.W.makesIn K C=true
 init:PySem.W.findIn K (.ref C) "__init__"=some (some (.ref f))
 fn:PySem.W.isFn K (.ref f)=true
 kp:PySem.W.keepIn K (.ref C)=true
theorem Hl {pins:List (Addr×Obj)} {σ:St} {H:Hp} {s:Shared} {Q:VK} {us:List Value} {vs:List V} (M:Mk X.K C f) (F:aU X.prog X.w X.K X.mg X.base CX k f fd ps sp) (hr:je (k+1) X.A) (hb:Binds X.K fd ps ds) (hd:Vals u5 ds)
  (hx:Passes CX X E) (I:Inv X pins σ H s) (r:Vals vs us)
  (h:∀x dx,H x=none→H dx=none→dx≠x→sp (.ref x::(vs++u5)) (upd (upd H dx (.own x)) x (.ins C dx [])) (fun v H2=>v=.de∧Q (.ref x) H2) E) :
  wpAny (model X.prog X.w) X.A (call (.ref C) us) (EP X pins σ Q) X.xe s:=by
 have hq:=h (s.heap.objs.size+1) s.heap.objs.size (I.cZ.fresh (Nat.le_succ _)) (I.cZ.fresh (Nat.le_refl _)) (Nat.ne_of_lt (Nat.lt_succ_self _));have I2:=Inv.made (C:=C) I;have r2:Vals (V.ref (s.heap.objs.size+1)::(vs++u5)) (Value.ref (s.heap.objs.size+1)::(us++ds)):= .cons rfl (r.append hd);have hl:(Value.ref (s.heap.objs.size+1)::us++ds).length=ps.length:=by
  have e:=r2.length;rw [F.len _ _ _ _ hq] at e;exact e.symm
 refine wpAny_call (OH (f:=f) I.Km M.makes M.init (beq_iff_eq.mp M.fn) (codeAny_mono (F.run _ X.stack _ _ ⟨Value.ref (s.heap.objs.size+1)::us,[]⟩ (Value.ref (s.heap.objs.size+1)::(us++ds)) _ _ E (hr.make C us [])
  (I2.Vl.make C us []) (hb _ (Value.ref (s.heap.objs.size+1)::us) I2.Km hl) r2 hq) fun r s' GR=>?_))
 cases r with
 |error e=>exact hx pins σ _ _ e s' I2 GR
 |ok fl =>
  cases fl with
  |ret u =>
   obtain ⟨v,H',I3,rv,ev,q3⟩:=I2.after GR;subst ev;exact ⟨rv,⟨V.ref (s.heap.objs.size+1),H',I3,rfl,q3⟩⟩
  |next=>exact False.elim GR
  |brk=>exact False.elim GR
  |cont=>exact False.elim GR
theorem gQ (M:Mk X.K C f) (F:aU X.prog X.w X.K X.mg X.base CX k f fd ps sp) (hr:je (k+1) X.A) (hg:Gl X x) (hm:X.mg x=some (.ref C)) (hb:Binds X.K fd ps ds) (hd:Vals u5 ds) (hx:Passes CX X E)
  (ha:PA X (e::es) t) (QB:(x==("__debug__":Str))=false:=by decide) (he:starEach (e::es) X.env=(false,eval e X.env)::starEach es X.env:=by rfl) (Js:(backTo pos (starEach es X.env)).any (·.1)=false:=by rfl) :
  PE X (.Call (.Name x p) (e::es) [] pos) (NZ C sp u5 E t):=by
 intro pins s σ H Q I h;refine wpAny_Call_Name_kw (Bd I hg hm ?_ QB);refine PySem.W.callWith_K (h₀ :=X.base) I.ok.mod.VL M.kp (fm (ha pos pins s σ H _ I h) fun us s1 ⟨vs,H1,I1,r,q⟩=>⟨I1.Km,?_⟩) he Js;exact Hl M F hr hb hd hx I1 r q
theorem wL (M:Mk X.K C f) (F:aU X.prog X.w X.K X.mg X.base CX k f fd ps sp) (hr:je (k+1) X.A) (hg:Gl X x) (hm:X.mg x=some (.ref C)) (hb:Binds X.K fd ps ds) (hd:Vals u5 ds) (hx:Passes CX X E)
  (QB:(x==("__debug__":Str))=false:=by decide):PE X (.Call (.Name x p) [] [] pos) (NZ C sp u5 E KP):=by
 intro pins s σ H Q I h;refine wpAny_Call_Name_kw (Bd I hg hm ?_ QB);exact PySem.W.callWith_K0 I.Km M.kp (Hl (us:=[]) M F hr hb hd hx I .nil h)
end
def PK (X:Cx) (kws:List Keyword) (t:TA):Prop :=
 ∀(pos:Pos) (pins:List (Addr×Obj)) (s:Shared) (σ:St) (H:Hp) (Q:List V→Hp→Prop),Inv X pins σ H s→t σ H Q→wpAny (model X.prog X.w) X.A (evalAll ((backToKw pos (keywordEach kws X.env)).map (·.2))) (AP X pins σ Q) X.xe s
section
variable {X:Cx} {CX:L8} {k:Nat} {f C:Addr} {fd:FuncData} {ps ks:List Str} {sp:Sp} {E:XK} {x m:Str} {p pos apos PV:Pos} {e o:Expr} {es:List Expr} {kws:List Keyword} {te ta:TE} {t tk:TA} {nm:Option Str}
theorem Th:PK X [] KP:=fun _ _ _ _ H Q I h=>wpAny_evalAll_nil ⟨[],H,I,.nil,h⟩
theorem QM (ha:PE X e te) (hr:PK X kws t):PK X (⟨nm,e,PV⟩::kws) (Ap te t):=by
 intro pos pins s σ H Q I h;show wpAny _ _ (evalAll ((do let v←eval e X.env;standAt pos;pure v)::(backToKw pos (keywordEach kws X.env)).map (·.2))) _ _ s
 refine wpAny_evalAll_cons (wpAny_bind (fm (ha pins s σ H _ I h) fun u s1 ⟨x,H1,I1,r1,q1⟩=>wpAny_bind (wpAny_standAt (wpAny_pure ?_))));exact fm (hr pos pins s1 σ H1 _ I1 q1) fun us s2 z1=>(by obtain ⟨xs,H2,I2,r2,q2⟩:=z1;exact ⟨x::xs,H2,I2,.cons r1 r2,q2⟩)
variable {g:List Value→List Value→List Value} {gV:List V→List V→List V}
end
structure az (N P:List Str) (sc:Scope):Prop where
 kind:sc.kind=.function
 co:sc.isCoroutine=false
 gen:sc.isGenerator=false
 nd:N.Nodup
 pre:N.take P.length=P
 par:∀x∈P,sc.names.lookup x=some .local∨sc.names.lookup x=some .cell
 RJ:∀y∈sc.names,y.2≠ .free
theorem Eb {kindOf:Str→Option NameKind} {x:Str}:∀{binds:List (Str×Value)} {m:Str→Option Value},(∀v,(x,v)∉binds)→bindL kindOf binds m x=m x
 |[],_,_=>rfl
 |(n,v)::r,m,h=>by
  unfold bindL;rw [Eb fun w hw=>h w (List.mem_cons_of_mem _ hw)];split
  ·have:x≠n:=by rintro rfl;exact h v List.mem_cons_self
   simp [this]
  ·rfl
theorem ES {kindOf:Str→Option NameKind} {x:Str}:∀{binds:List (Str×Value)} {m:Str→Option Value},(∀v,(x,v)∉binds)→bindC kindOf binds m x=m x
 |[],_,_=>rfl
 |(n,v)::r,m,h=>by
  unfold bindC;rw [ES fun w hw=>h w (List.mem_cons_of_mem _ hw)];split
  ·rfl
  ·have:x≠n:=by rintro rfl;exact h v List.mem_cons_self
   simp [this]
theorem Ef {kindOf:Str→Option NameKind} {x:Str} {v:Value}:∀{P:List Str} {vs:List Value} {i:Nat} {m:Str→Option Value},P.Nodup→P[i]?=some x→vs[i]?=some v→kindOf x=some .local →
  bindL kindOf (P.zip vs) m x=some v
 |[],_,_,_,_,h,_,_=>by simp at h
 |_::_,[],_,_,_,_,h,_=>by simp at h
 |p::P,w::vs,0,m,nd,h1,h2,hk=>by
  simp at h1 h2;subst h1;subst h2;show bindL kindOf ((p,w)::P.zip vs) m p=_;unfold bindL;rw [Eb fun v hv=>(List.nodup_cons.mp nd).1 (List.of_mem_zip hv).1,if_pos hk];simp
 |p::P,w::vs,i+1,m,nd,h1,h2,hk=>by
  show bindL kindOf ((p,w)::P.zip vs) m x=_;unfold bindL;exact Ef (i:=i) (List.nodup_cons.mp nd).2 (by simpa using h1) (by simpa using h2) hk
theorem EM {kindOf:Str→Option NameKind} {x:Str} {v:Value}:∀{P:List Str} {vs:List Value} {i:Nat} {m:Str→Option Value},P.Nodup→P[i]?=some x→vs[i]?=some v→kindOf x≠some .local →
  bindC kindOf (P.zip vs) m x=some v
 |[],_,_,_,_,h,_,_=>by simp at h
 |_::_,[],_,_,_,_,h,_=>by simp at h
 |p::P,w::vs,0,m,nd,h1,h2,hk=>by
  simp at h1 h2;subst h1;subst h2;show bindC kindOf ((p,w)::P.zip vs) m p=_;unfold bindC;rw [ES fun v hv=>(List.nodup_cons.mp nd).1 (List.of_mem_zip hv).1,if_neg hk];simp
 |p::P,w::vs,i+1,m,nd,h1,h2,hk=>by
  show bindC kindOf ((p,w)::P.zip vs) m x=_;unfold bindC;exact EM (i:=i) (List.nodup_cons.mp nd).2 (by simpa using h1) (by simpa using h2) hk
def start (N:List Str) (vs:List V):St:=vs.map some++List.replicate (N.length - vs.length) none
def CW (CX:L8) (P:Program) (w:World) (K:PySem.W.Frag) (mg:Str→Option Value) (base:Heap) (N:List Str) (qual:Str) (scope:Scope) (f:Addr) (cd:Value) (A:Around) (outer:List Env) (s:Shared) (H:Hp) (E:XK):Cx where
 prog:=P
 w:=w
 K:=K
 mg:=mg
 base:=base
 A:=A.deeper (envOfC qual scope s.heap.objs.size f cd)
 N:=N
 Fb:=s
 SU:=H
 env:=envOfC qual scope s.heap.objs.size f cd
 outer:=outer
 stack:=envOfC qual scope s.heap.objs.size f cd::outer
 ex:=[]
 calm:=true
 fn:=fun _=>true
 pn:=[]
 xe:=fun e s'=>wpAny (model P w) (A.deeper (envOfC qual scope s.heap.objs.size f cd)) (leaving (envOfC qual scope s.heap.objs.size f cd) e) (fun _ YB=>CX outer H s E e YB) (fun e' YB=>CX outer H s E e' YB) s'
theorem HS {sc:Scope} {n:Nat} {x:Str} (h:sc.names.lookup x=some .cell):∃c,(cellsFrom n sc.names []).lookup x=some c:=by
 have q:=PySem.W.cellsFrom_some sc.names n [] (.inl h);exact Option.isSome_iff_exists.mp q
theorem LZ {CX:L8} {P:Program} {w:World} {K:PySem.W.Frag} {mg:Str→Option Value} {base:Heap} {N ps:List Str} {qual:Str} {scope:Scope} {f:Addr} {cd:Value} {A:Around} {outer:List Env} {s s1:Shared} {H:Hp} {E:XK} {us:List Value} {vs:List V}
  (S:az N ps scope) (hd:A.handled=none) (e0:Kq P w K mg base A outer s H) (hl:vs.length=ps.length) (r:Vals vs us)
  (x:InCallC s s.heap.objs.size (bindL (envOfC qual scope s.heap.objs.size f cd).kindOf (ps.zip us) fun _=>none) (cellsFrom (s.heap.objs.size+1) scope.names []) (bindC (envOfC qual scope s.heap.objs.size f cd).kindOf (ps.zip us) fun _=>none) s1) :
  Inv (CW CX P w K mg base N qual scope f cd A outer s H E) [] (start N vs) H s1:=by
 have Js:ps.length≤N.length:=by have:=congrArg List.length S.pre;rw [List.length_take] at this;omega
 obtain ⟨h1,tk,rfl,hk⟩:=x.done;have T8:∀b:Addr,b∉(CW CX P w K mg base N qual scope f cd A outer s H E).ex:=fun b z=>absurd (show b∈([]:List Addr) from z) (by simp)
 refine ⟨⟨e0.mod,S.kind,rfl,rfl,Nat.le_refl _,fun y z c h1 h2=>?_,fun y hy=>?_,fun y c _ h=>?_,fun _=>hd,Around.frames_deeper e0.frames,.inr ⟨rfl,rfl⟩,fun b z=>absurd z (T8 b),e0.bs,e0.O4,fun b _ _=>T8 b,fun b z=>absurd z (T8 b),e0.Bb,e0.TF⟩,
  rfl,e0.bare,Un.kept hk,⟨_,x.toInCall.ns,fun i y v h1 h2 h3=>?_⟩,fun y c h=>⟨_,x.cell y c h⟩,e0.cZ.fresh (Nat.le_refl _),fun y c h=>?_,fun p hp=>absurd (show p∈([]:List (Addr×Obj)) from hp) (by simp),e0.cZ.kept hk,?_⟩
 ·exact name_of_addr x.apart (PySem.mem_of_lookup h1) (PySem.mem_of_lookup h2)
 ·have hy:scope.names.lookup y=some .cell∨scope.names.lookup y=some .free:=hy;rcases hy with hy|hy
  ·exact HS hy
  ·exact absurd rfl (S.RJ _ (PySem.mem_of_lookup hy))
 ·exact Nat.le_of_lt (x.above y c (PySem.mem_of_lookup h))
 ·have hi:i<vs.length:=by
   unfold start at h2;by_cases hi:i<vs.length
   ·exact hi
   ·rw [List.getElem?_append_right (by simpa using hi)] at h2;rw [List.getElem?_replicate] at h2;split at h2<;>cases h2
  have ha:vs[i]?=some v:=by
   unfold start at h2;rw [List.getElem?_append_left (by simpa using hi),List.getElem?_map] at h2
   cases e:vs[i]? with
   |none=>rw [e] at h2;cases h2
   |some a=>rw [e] at h2;cases h2;rfl
  obtain ⟨u,hu,rv⟩:=r.get ha;have hp:ps[i]?=some y:=by
   rw [←S.pre,List.getElem?_take_of_lt (by omega)];exact h1
  have Zv:ps.Nodup:=by rw [←S.pre];exact S.nd.sublist (List.take_sublist _ _)
  refine ⟨u,rv,?_⟩;rcases S.par y (List.mem_of_getElem? hp) with k|k
  ·exact .inl ⟨k,Ef Zv hp hu k⟩
  ·obtain ⟨c,e⟩:=HS (n:=s.heap.objs.size+1) k;refine .inr ⟨.inl k,c,e,?_⟩;have q:=x.cell y c e;rw [EM Zv hp hu (by show scope.names.lookup y≠_;rw [k];decide)] at q;exact q
 ·exact e0.cZ.fresh (Nat.le_of_lt (x.above y c (PySem.mem_of_lookup h)))
 ·unfold start;show _=N.length;rw [List.length_append,List.length_map,List.length_replicate];omega
theorem VF {CX:L8} {P:Program} {w:World} {K:PySem.W.Frag} {mg:Str→Option Value} {base:Heap} {k:Nat} {f:Addr} {name qual:Str} {params:Arguments} {body:List Stmt} {scope:Scope} {dV kV doc pm bJ ct oc:Value} {an od:Option Addr}
  {Ho:Array (Option Value)} {N ps:List Str} {sp:Sp} (lk:K.lookup f=some ⟨oc,od,.func (PySem.W.fnOf name qual params body scope dV kV doc pm an bJ ct),Ho⟩) (Qn:PySem.W.codeIn K bJ qual=true) (S:az N ps scope)
  (len:∀vs H Q E,sp vs H Q E→vs.length=ps.length)
  (pF:∀(A:Around) (outer:List Env) (s:Shared) (H:Hp) (vs:List V) (Q:VK) (E:XK),je k (A.deeper (envOfC qual scope s.heap.objs.size f bJ))→sp vs H Q E →
   ∃t,G7 (CW CX P w K mg base N qual scope f bJ A outer s H E) body t∧t { nx:=fun _ H'=>Q .de H',rt:=Q } (start N vs) H) :
  aU P w K mg base CX (k+1) f (PySem.W.fnOf name qual params body scope dV kV doc pm an bJ ct) ps sp:=by
 refine ⟨len,fun A outer s H args us vs Q E hr e0 hb r O9=>?_⟩;have hl:=len _ _ _ _ O9;have KX:K.In s.heap:=e0.mod.VL.keeps fun b o e=>(e0.bs b o e).1;have lim:s.heap.NoLimit:=e0.mod.nolimit.keeps fun b o e=>(e0.bs b o e).1;have Vv:∀y∈ps.zip us,scope.names.lookup y.1=some .local∨(scope.names.lookup y.1=some .cell∧((cellsFrom (s.heap.objs.size+1) scope.names []).lookup y.1).isSome=true):=fun ⟨n,v⟩ hy=>by
  rcases S.par n (List.of_mem_zip hy).1 with q|q
  ·exact .inl q
  ·exact .inr ⟨q,PySem.W.cellsFrom_some _ _ _ (.inl q)⟩
 refine codeAny_call_function hr.depth (KX _ _ lk) rfl S.co S.gen rfl (PySem.W.codeRec_of KX Qn) (hb _ _ _ _ ?_);refine wpAny_newFunctionEnv_cells S.kind Vv fun env he s1 x=>?_;subst he;refine ⟨lim.keeps x.toInCall.keep,codeAny_func ?_⟩;obtain ⟨t,ht,hq⟩:=pF A outer s H vs Q E (hr.deeper _) O9;have I:Inv (CW CX P w K mg base N qual scope f bJ A outer s H E) [] (start N vs) H s1:=LZ S hr.hd e0 hl r x;refine wpAny_mono (ht [] s1 (start N vs) H _ I hq) (fun fl s' hs=>?_) fun e s' hs=>hs;have fin:∀{σ':St} {H':Hp} {v:V} {u:Value},Inv (CW CX P w K mg base N qual scope f bJ A outer s H E) [] σ' H' s'→RelV v u→Q v H'→CE outer P w H s Q u s' :=
  fun {σ' H' v u} J rv q=>⟨v,H',J.os,J.bare,J.base,J.cZ,rv,q⟩
 cases fl with
 |ret u =>
  obtain ⟨v,σ',H',J,rv,q⟩:=hs;exact fin J rv q
 |next =>
  obtain ⟨σ',H',J,q⟩:=hs;exact fin (v:=V.de) (u:=Value.none) J rfl q
 |brk =>
  obtain ⟨_,_,_,q⟩:=hs;exact False.elim q
 |cont =>
  obtain ⟨_,_,_,q⟩:=hs;exact False.elim q
end L2
namespace L2
open PySem PySem.Spec PyProof.Rows
section
variable {X:Cx} {x:Str} {p pos:Pos} {e:Expr} {es:List Expr} {t:TA} {id T:String} {r:List V→Hp→VK→Prop}
def XR (r:List V→Hp→VK→Prop) (t:TA):TE:=fun σ H Q=>t σ H fun vs H1=>r vs H1 Q
theorem bc (hc:jI X (.builtin id) r) (hg:Gl X x) (hm:X.mg x=none) (hv:bootBuiltins x=some (.builtin id)) (ha:PA X (e::es) t) (hn:x≠"__name__":=by decide) (QB:(x==("__debug__":Str))=false:=by decide)
  (he:starEach (e::es) X.env=(false,eval e X.env)::starEach es X.env:=by rfl) (Js:(backTo pos (starEach es X.env)).any (·.1)=false:=by rfl):PE X (.Call (.Name x p) (e::es) [] pos) (XR r t):=by
 intro pins s σ H Q I h;refine wpAny_Call_Name_kw (vZ I hg hm hv ?_ hn QB);exact PyProof.Rows.callWith_builtin1 (fm (ha pos pins s σ H _ I h) fun us s1 z1=>by obtain ⟨vs,H1,I1,r1,q1⟩:=z1;exact hc pins s1 σ H1 vs us Q I1 r1 q1) he Js
theorem ik (hc:jI X (.type T) r) (hg:Gl X x) (hm:X.mg x=none) (hv:bootBuiltins x=some (.type T)) (ha:PA X (e::es) t) (hn:x≠"__name__":=by decide) (QB:(x==("__debug__":Str))=false:=by decide)
  (he:starEach (e::es) X.env=(false,eval e X.env)::starEach es X.env:=by rfl) (Js:(backTo pos (starEach es X.env)).any (·.1)=false:=by rfl):PE X (.Call (.Name x p) (e::es) [] pos) (XR r t):=by
 intro pins s σ H Q I h;refine wpAny_Call_Name_kw (vZ I hg hm hv ?_ hn QB);exact PyProof.Rows.callWith_type1 (fm (ha pos pins s σ H _ I h) fun us s1 z1=>by obtain ⟨vs,H1,I1,r1,q1⟩:=z1;exact hc pins s1 σ H1 vs us Q I1 r1 q1) he Js
end
end L2
namespace HT
open PySem PyProof.Rows
section
variable {prog:Program} {w:World} {A:Around} {E:Value→Shared→Prop} {s:Shared}
def Ja (n d:Nat):Option Int→Nat
 |none=>d
 |some v=>if v<0 then (v+(n:Int)).toNat else min v.toNat n
theorem OU (n d:Nat):Ja n d none=d:=rfl
theorem GO (n d k:Nat):Ja n d (some (k:Int))=min k n:=by
 show (if (k:Int)<0 then ((k:Int)+(n:Int)).toNat else min (k:Int).toNat n)=min k n
 rw [if_neg (by omega),Int.toNat_natCast]
end
end HT
namespace L2
open PySem PySem.Spec PyProof.Rows
abbrev TO:=St→Hp→(Option Int→Hp→Prop)→Prop
def PO (X:Cx) (e:Option Expr) (t:TO):Prop :=
 ∀(pins:List (Addr×Obj)) (s:Shared) (σ:St) (H:Hp) (Q:Option Int→Hp→Prop),Inv X pins σ H s→t σ H Q →
  wpAny (model X.prog X.w) X.A (evalPart e X.env) (fun u s'=>∃o H',Inv X pins σ H' s'∧IsPart u o∧Q o H') X.xe s
def Lg:TO:=fun _ H Q=>Q none H
def QP (t:TE):TO:=fun σ H Q=>t σ H fun x H1=>∃i,x=.int i∧Q (some i) H1
section
variable {X:Cx} {e:Expr} {te:TE} {lo hi:Option Expr} {tl th:TO} {pos p2:Pos}
theorem Lq:PO X none Lg:=by
 intro pins s σ H Q I h;rw [evalPart_none];exact wpAny_pure ⟨none,H,I,.none,h⟩
theorem uC (h:PE X e te):PO X (some e) (QP te):=by
 intro pins s σ H Q I hw;rw [evalPart_some];refine fm (h pins s σ H _ I hw) fun u s1 z1=>?_;obtain ⟨x,H1,I1,r1,q1⟩:=z1;obtain ⟨i,rfl,q⟩:=q1;obtain ⟨t,rfl⟩:=r1;exact ⟨some i,H1,I1,.int i t,q⟩
def T2 (X:Cx) (r:V→Option Int→Option Int→Hp→VK→Prop):Prop :=
 ∀(pins:List (Addr×Obj)) (s:Shared) (σ:St) (H:Hp) (x:V) (v vl vu:Value) (lo hi:Option Int) (sl:Addr) (Q:VK),Inv X pins σ H s→RelV x v→s.heap.IsSliceOf sl vl vu .none→IsPart vl lo→IsPart vu hi→r x lo hi H Q →
  ∃T id,typeLookup (.type T) "__getitem__"=pure (some (.builtin id))∧s.TypeIs v T∧wpAny (model X.prog X.w) X.A (getItem v (.ref sl)) (EP X pins σ Q) X.xe s
def Zx (r:V→Option Int→Option Int→Hp→VK→Prop) (te:TE) (tl th:TO):TE:=fun σ H Q=>te σ H fun x H1=>tl σ H1 fun l H2=>th σ H2 fun u H3=>r x l u H3 Q
theorem xr {r:V→Option Int→Option Int→Hp→VK→Prop} (hr:T2 X r) (he:PE X e te) (hl:PO X lo tl) (hu:PO X hi th):PE X (.Subscript e (.Slice lo hi none p2) pos) (Zx r te tl th):=by
 intro pins s σ H Q I h;refine Subscript_ (fm (he pins s σ H _ I h) fun v s1 z1=>?_);obtain ⟨x,H1,I1,r1,q1⟩:=z1;refine wpAny_Slice (fm (hl pins s1 σ H1 _ I1 q1) fun vl s2 ⟨l,H2,I2,pl,q2⟩=>fm (hu pins s2 σ H2 _ I2 q2) fun vu s3 z1=>?_);obtain ⟨u,H3,I3,pu,q3⟩:=z1;rw [evalPart_none];refine wpAny_pure ?_;have I4:Inv X pins σ H3 { s3 with heap:=s3.heap.push { cls:= .type "slice",data:= .fields #[vl,vu,.none] } }:=I3.kept (t':=s3.toks) fun b ob q=>Heap.get?_push_of_some _ q;obtain ⟨T,id,hT,ht,hg⟩:=hr pins { s3 with heap:=s3.heap.push { cls:= .type "slice",data:= .fields #[vl,vu,.none] } } σ H3 x v vl vu l u s3.heap.objs.size Q I4 r1 (Heap.IsSliceOf.new ..) pl pu q3;show wpAny (model X.prog X.w) X.A (subscriptTail e (.Slice lo hi none p2) v (.ref s3.heap.objs.size)) (EP X pins σ Q) X.xe { s3 with heap:=s3.heap.push { cls:= .type "slice",data:= .fields #[vl,vu,.none] } };exact tail_any (ops:=[.ref s3.heap.objs.size,v]) ht hT hg (by with_unfolding_all rfl)
def xG (xs:List V) (lo hi:Option Int):List V:=(xs.drop (HT.Ja xs.length 0 lo)).take (HT.Ja xs.length xs.length hi - HT.Ja xs.length 0 lo)
theorem HA (xs:List V) (lo hi:Option Int):(xG xs lo hi).length≤xs.length:=by
 unfold xG;rw [List.length_take,List.length_drop];omega
end
end L2
namespace L2
open PySem PySem.Spec PyProof.Rows
def Pc (n:Nat) (i:Int):Option Nat:=if 0≤i then (if i<n then some i.toNat else none) else if -(n:Int)≤i then some (i+n).toNat else none
def iz {α:Type} (xs:List α) (i:Int):Option α:=(Pc xs.length i).bind fun j=>xs[j]?
theorem K9 {n:Nat} {i:Int} {j:Nat} (h:Pc n i=some j):seqIndex? i n=some j∧j<n∧ -(n:Int)≤i∧i<n:=by
 unfold Pc at h;by_cases h0:0≤i
 ·rw [if_pos h0] at h;by_cases h1:i<n
  ·rw [if_pos h1] at h;have e:i.toNat=j:=Option.some.inj h;exact ⟨by rw [seqIndex_of h0 h1,e],by omega,by omega,h1⟩
  ·rw [if_neg h1] at h;cases h
 ·rw [if_neg h0] at h;by_cases h1: -(n:Int)≤i
  ·rw [if_pos h1] at h;have e:(i+n).toNat=j:=Option.some.inj h;exact ⟨by rw [seqIndex_neg (by omega) h1,e],by omega,h1,by omega⟩
  ·rw [if_neg h1] at h;cases h
theorem FV {α:Type} {xs:List α} {i:Int} {v:α} (h:iz xs i=some v):∃j,seqIndex? i xs.length=some j∧xs[j]?=some v∧j<xs.length∧ -(xs.length:Int)≤i∧i<xs.length:=by
 unfold iz at h
 cases e:Pc xs.length i with
 |none=>rw [e] at h;cases h
 |some j =>
  rw [e] at h;obtain ⟨h1,h2,h3,h4⟩:=K9 e;exact ⟨j,h1,h,h2,h3,h4⟩
theorem cV {α:Type} {xs:List α} {j:Nat} {v:α} (h:xs[j]?=some v):iz xs (j:Int)=some v:=by
 have hj:j<xs.length:=(List.getElem?_eq_some_iff.mp h).1;have e:Pc xs.length (j:Int)=some j:=by
  unfold Pc;rw [if_pos (by omega),if_pos (by omega)];simp
 unfold iz;rw [e];exact h
def Qi (b:Expr):Prop:=∀o i,subscripted b false o i=operate [o,i] (getItem o i)
def Ln (X:Cx) (r:R2):Prop :=
 ∀(value slice:Expr) (pins:List (Addr×Obj)) (s:Shared) (σ:St) (H:Hp) (x y:V) (v u:Value) (Q:VK),Inv X pins σ H s→RelV x v→RelV y u→r x y H Q →
  subscripted slice false v u=operate [v,u] (getItem v u)→wpAny (model X.prog X.w) X.A (subscriptTail value slice v u) (EP X pins σ Q) X.xe s
def YZ (X:Cx) (id:String) (r:V→List V→Hp→VK→Prop):Prop :=
 ∀(pins:List (Addr×Obj)) (s:Shared) (σ:St) (H:Hp) (x:V) (xs:List V) (v:Value) (us:List Value) (Q:VK),Inv X pins σ H s→RelV x v→Vals xs us→r x xs H Q →
  wpAny (model X.prog X.w) X.A (call (.builtin id) (v::us)) (EP X pins σ Q) X.xe s
section
variable {X:Cx} {a b:Expr} {ta tb:TE} {pos:Pos}
theorem Ln.or {r r':R2} (h:Ln X r) (h':Ln X r'):Ln X (fun x y H Q=>r x y H Q∨r' x y H Q):=by
 intro value slice pins s σ H x y v u Q I rx ry q hs;rcases q with q|q
 ·exact h value slice pins s σ H x y v u Q I rx ry q hs
 ·exact h' value slice pins s σ H x y v u Q I rx ry q hs
theorem aR {r:R2} (hr:Ln X r) (ha:PE X a ta) (hb:PE X b tb) (hs:Qi b):PE X (.Subscript a b pos) (UP r ta tb):=by
 intro pins s σ H Q I h;exact Subscript_ (Sl ha hb I h fun v u s2 x y H2 I2 rx ry q=>hr a b pins s2 σ H2 x y v u Q I2 rx ry q (hs _ _))
def VT (K:PySem.W.Frag):R2:=fun x y H Q=>∃p xs i v,x=.ref p∧y=.int i∧kd K H p xs∧iz xs i=some v∧Q v H
def UD (K:PySem.W.Frag):R2:=fun x y H Q=>∃p xs i v,x=.ref p∧y=.int i∧n6 K H p xs∧iz xs i=some v∧Q v H
def UU:R2:=fun x y H Q=>∃z i c,x=.str z∧y=.int i∧z.length≤sizeLine∧iz z.cps.toList i=some c∧Q (.str ⟨#[c]⟩) H
theorem Qa:Ln X (VT X.K):=by
 intro value slice pins s σ H x y v u Q I rx ry h hs;obtain ⟨p,xs,i,z,rfl,rfl,hq,he,q⟩:=h
 cases rx;obtain ⟨t,rfl⟩:=ry;obtain ⟨bI,r,pl,hz⟩:=I.list hq;obtain ⟨j,h1,h2,h3,h4,h5⟩:=FV he;obtain ⟨w,ew,U7⟩:=r.get h2;have hl:=r.length;have hn:=Cr;have fin:EP X pins σ Q w s:=⟨z,H,I,U7,q⟩;by_cases h0:0≤i
 ·have hj:i.toNat=j:=by
   rw [seqIndex_of h0 h5] at h1;exact Option.some.inj h1
  exact item_listR pl.isList h0 (by omega) (by rw [hj];simpa using ew) fin hs
 ·have hj:(i+(bI.toArray.size:Int)).toNat=j:=by
   rw [seqIndex_neg (by omega) h4] at h1;rw [List.size_toArray, ←hl];exact Option.some.inj h1
  exact subscriptTail_builtinR (x:=w) pl.isList.typeIs slot_list_getitem.lookup
   (wpAny_getItem_list_neg (Q:=fun r s'=>r=w∧EP X pins σ Q r s') pl.isList (by omega) (by rw [List.size_toArray]<;>omega) (by omega) (by rw [hj];simpa using ew) ⟨rfl,fin⟩) hs
theorem Sm:Ln X (UD X.K):=by
 intro value slice pins s σ H x y v u Q I rx ry h hs;obtain ⟨p,xs,i,z,rfl,rfl,hq,he,q⟩:=h
 cases rx;obtain ⟨t,rfl⟩:=ry;obtain ⟨bI,r,pl,hz⟩:=I.tuple hq;obtain ⟨j,h1,h2,h3,h4,h5⟩:=FV he;obtain ⟨w,ew,U7⟩:=r.get h2;have hl:=r.length;have hn:=Cr;have fin:EP X pins σ Q w s:=⟨z,H,I,U7,q⟩;exact subscriptTail_builtinR (x:=w) pl.typeIs slot_tuple_getitem.lookup
  (getItem_tuple (j:=j) (Q:=fun r s'=>r=w∧EP X pins σ Q r s') pl (by omega) (by omega) (by rw [List.size_toArray, ←hl];exact h1) (by simpa using ew) ⟨rfl,fin⟩) hs
theorem S6:Ln X UU:=by
 intro value slice pins s σ H x y v u Q I rx ry h hs;obtain ⟨z,i,c,rfl,rfl,hz,he,q⟩:=h;obtain ⟨t,rfl⟩:=rx;obtain ⟨t',rfl⟩:=ry;obtain ⟨j,h1,h2,h3,h4,h5⟩:=FV he;have hl:z.cps.toList.length=z.length:=by simp [Str.length]
 rw [hl] at h1 h4 h5;have hn:=Cr;exact tail_any (typeIs_str s z t) slot_str_getitem.lookup (getItem_str (c:=c) (by
  have e1:decide (i< -(2 ^ 63:Int))=false:=decide_eq_false (by omega);have e2:decide (i≥2 ^ 63)=false:=decide_eq_false (by omega);rw [e1,e2,Bool.or_false]) (by rw [h1];simpa using h2) ⟨.str ⟨#[c]⟩,H,I.tok _,⟨_,rfl⟩,q⟩) hs
def rIx (K:PySem.W.Frag):R2:=fun x y H Q=>VT K x y H Q∨UD K x y H Q∨UU x y H Q
theorem N4:Ln X (rIx X.K):=Qa.or (Sm.or S6)
theorem KG (bI:List Value) (n j:Nat) (u:Value):Obj.mapSeq (·.setIfInBounds j u) { cls:= .type "list",data:= .seq bI.toArray n }={ cls:= .type "list",data:= .seq (bI.set j u).toArray n }:=by
 simp [Obj.mapSeq]
theorem Inv.lst {pins:List (Addr×Obj)} {σ:St} {H:Hp} {s:Shared} {p:Addr} {xs:List V} (I:Inv X pins σ H s) (h:H p=some (.lst xs)) :
  ∃(bI:List Value) (n:Nat),Vals xs bI∧s.heap.get? p=some { cls:= .type "list",data:= .seq bI.toArray n }∧xs.length≤sizeLine:=by
 obtain ⟨z,bI,n,r,e⟩:=I.cZ p _ h;exact ⟨bI,n,r,e,z⟩
theorem Inv.Tc {pins:List (Addr×Obj)} {σ:St} {H:Hp} {s:Shared} {p:Addr} {xs ys:List V} {bI its':List Value} {n n':Nat} {f:Obj→Obj} (I:Inv X pins σ H s) (h:H p=some (.lst xs))
  (ho:s.heap.get? p=some { cls:= .type "list",data:= .seq bI.toArray n }) (hf:f { cls:= .type "list",data:= .seq bI.toArray n }={ cls:= .type "list",data:= .seq its'.toArray n' }) (r:Vals ys its') (hz:ys.length≤sizeLine) (t:Nat) :
  Inv X pins σ (upd H p (.lst ys)) { s with heap:=s.heap.update p f,toks:=t }:=by
 have e:(s.heap.update p f).get? p=some { cls:= .type "list",data:= .seq its'.toArray n' }:=by
  rw [Heap.get?_update_self f ho (by rw [hf]<;>rfl),hf]
 refine I.write (x:=p) (e:=p) (by rw [h];trivial) (.inl rfl) (fun b u hb q=>(Heap.get?_update_other _ _ (Ne.symm hb)).trans q) ⟨_,e⟩ ?_;exact ⟨hz,its',n',r,e⟩
def Q7:V→V→V→Hp→(Hp→Prop)→Prop:=fun o i v H Q=>∃p xs k j,o=.ref p∧i=.int k∧H p=some (.lst xs)∧Pc xs.length k=some j∧Q (upd H p (.lst (xs.set j v)))
theorem set_list:UL X Q7:=by
 intro pins s σ H o i v ov iv u Q I ro ri rv h;obtain ⟨p,xs,k,j,rfl,rfl,hp,hj,q⟩:=h
 cases ro;obtain ⟨t,rfl⟩:=ri;obtain ⟨bI,n,r,ho,hz⟩:=I.lst hp;obtain ⟨h1,h2,h3,h4⟩:=K9 hj;have hl:=r.length;have hn:=Cr;have I':Inv X pins σ (upd H p (.lst (xs.set j v))) { s with heap:=s.heap.update p (Obj.mapSeq (·.setIfInBounds j u)) } :=
  I.Tc hp ho (KG bI n j u) (r.set rv j) (by rw [List.length_set];exact hz) s.toks
 by_cases h0:0≤k
 ·have hk:k.toNat=j:=by
   rw [seqIndex_of h0 h4] at h1;exact Option.some.inj h1
  exact PySem.W.ki_setAt ho h0 (by omega) (by rw [List.size_toArray, ←hl];exact h4) (by rw [hk];exact ⟨_,I',q⟩)
 ·have hk:(k+(bI.toArray.size:Int)).toNat=j:=by
   rw [seqIndex_neg (by omega) h3] at h1;rw [List.size_toArray, ←hl];exact Option.some.inj h1
  exact PySem.W.ki_setBack ho (by omega) (by rw [List.size_toArray, ←hl];exact h3) (by omega) (by rw [hk];exact ⟨_,I',q⟩)
theorem GV (lo hi:Option Int) (n:Nat):(sliceBounds lo hi none n).1=((HT.Ja n 0 lo:Nat):Int)∧(sliceBounds lo hi none n).2.1=((HT.Ja n n hi:Nat):Int)∧(sliceBounds lo hi none n).2.2=1:=by
 refine ⟨?_,?_,rfl⟩
 ·cases lo with
  |none=>simp [sliceBounds,HT.Ja]
  |some i =>
   simp only [sliceBounds,HT.Ja,Option.getD_none,show (1:Int)>0 by decide,if_true];by_cases h:i<0
   ·simp only [h,if_true]<;>omega
   ·simp only [h,if_false]<;>omega
 ·cases hi with
  |none=>simp [sliceBounds,HT.Ja]
  |some i =>
   simp only [sliceBounds,HT.Ja,Option.getD_none,show (1:Int)>0 by decide,if_true];by_cases h:i<0
   ·simp only [h,if_true]<;>omega
   ·simp only [h,if_false]<;>omega
theorem DY (bI:List Value) (lo hi:Option Int):slicePick bI.toArray lo hi none=((bI.drop (HT.Ja bI.length 0 lo)).take (HT.Ja bI.length bI.length hi - HT.Ja bI.length 0 lo)).toArray:=by
 obtain ⟨h1,h2,h3⟩:=GV lo hi bI.toArray.size;unfold slicePick;rw [h1,h2,h3];simp only [sliceRange_one,pick_run,List.size_toArray]<;>rfl
def VI (K:PySem.W.Frag):V→Option Int→Option Int→Hp→VK→Prop:=fun x lo hi H Q=>∃a xs,x=.ref a∧kd K H a xs∧∀p,H p=none→Q (.ref p) (upd H p (.lst (xG xs lo hi)))
theorem Gn:T2 X (VI X.K):=by
 intro pins s σ H x v vl vu lo hi sl Q I rx hs pl pu h;obtain ⟨a,xs,rfl,hx,q⟩:=h
 cases rx;obtain ⟨bI,r,ht,hz⟩:=I.list hx;have hlen:=r.length;refine ⟨"list",_,slot_list_getitem.lookup,ht.isList.typeIs,?_⟩;refine wpAny_getItem_list_slice ht.isList hs pl pu .none (by simp) ?_ (by rw [List.size_toArray]<;>omega);rw [DY, ←hlen];refine ⟨.ref s.heap.objs.size,_,I.laid (t':=s.toks) (o:= .lst (xG xs lo hi)) (fun b ob q=>Heap.get?_push_of_some _ q) (Nat.le_refl _) ?_,rfl,q _ (I.cZ.fresh (Nat.le_refl _))⟩;exact ⟨Nat.le_trans (HA xs lo hi) hz,_,0,(r.drop (HT.Ja xs.length 0 lo)).take (HT.Ja xs.length xs.length hi - HT.Ja xs.length 0 lo),Heap.get?_push_size _ rfl⟩
def oG:V→Bool
 | .de=>true
 | .bl _=>true
 | .int _=>true
 | .str _=>true
 |_=>false
def O8:V→V→Bool
 | .de,.de=>true
 | .bl a,.bl b=>a==b
 | .bl a,.int b=>(if a then 1 else 0)==b
 | .int a,.bl b=>a==(if b then 1 else 0)
 | .int a,.int b=>a==b
 | .str a,.str b=>a==b
 |_,_=>false
theorem TJ {A:Around} {s:Shared} {y x:V} {u v:Value} (ry:RelV y u) (rx:RelV x v) (fy:oG y=true) (fx:oG x=true):SeqAt.EqAt A s u v (O8 y x):=by
 cases y with
 |de =>
  cases ry
  cases x with
  |de=>cases rx;exact SeqAt.EqAt.same _
  |bl b=>cases rx;exact SeqAt.EqAt.none_bool b
  |int b=>obtain ⟨t,rfl⟩:=rx;exact SeqAt.EqAt.none_int b t
  |str b=>obtain ⟨t,rfl⟩:=rx;exact SeqAt.EqAt.none_str b t
  |_=>exact absurd (show false=true from fx) Bool.false_ne_true
 |bl a =>
  cases ry
  cases x with
  |de=>cases rx;exact SeqAt.EqAt.bool_none a
  |bl b=>cases rx;exact SeqAt.EqAt.bool_bool a b
  |int b=>obtain ⟨t,rfl⟩:=rx;exact SeqAt.EqAt.bool_int a b t
  |str b=>obtain ⟨t,rfl⟩:=rx;exact SeqAt.EqAt.bool_str a b t
  |_=>exact absurd (show false=true from fx) Bool.false_ne_true
 |int a =>
  obtain ⟨t',rfl⟩:=ry
  cases x with
  |de=>cases rx;exact SeqAt.EqAt.int_none a t'
  |bl b=>cases rx;exact SeqAt.EqAt.int_bool a t' b
  |int b=>obtain ⟨t,rfl⟩:=rx;exact SeqAt.EqAt.int_int a t' b t
  |str b=>obtain ⟨t,rfl⟩:=rx;exact SeqAt.EqAt.int_str a t' b t
  |_=>exact absurd (show false=true from fx) Bool.false_ne_true
 |str a =>
  obtain ⟨t',rfl⟩:=ry
  cases x with
  |de=>cases rx;exact SeqAt.EqAt.str_none a t'
  |bl b=>cases rx;exact SeqAt.EqAt.str_bool a t' b
  |int b=>obtain ⟨t,rfl⟩:=rx;exact SeqAt.EqAt.str_int a t' b t
  |str b=>obtain ⟨t,rfl⟩:=rx;exact SeqAt.EqAt.str_str a t' b t
  |_=>exact absurd (show false=true from fx) Bool.false_ne_true
 |_=>exact absurd (show false=true from fy) Bool.false_ne_true
def Jx (x:V) (u:Value):Bool:=match u with
 | .none=>O8 .de x
 | .bool b=>O8 (.bl b) x
 | .int i _=>O8 (.int i) x
 | .str z _=>O8 (.str z) x
 |_=>false
theorem Ng {x y:V} {u:Value} (r:RelV y u) (f:oG y=true):Jx x u=O8 y x:=by
 cases y with
 |de=>cases r;rfl
 |bl b=>cases r;rfl
 |int i=>obtain ⟨t,rfl⟩:=r;rfl
 |str z=>obtain ⟨t,rfl⟩:=r;rfl
 |_=>exact absurd (show false=true from f) Bool.false_ne_true
theorem ym {x:V}:∀{xs:List V} {us:List Value},Vals xs us→xs.all oG=true→us.any (Jx x)=xs.any fun y=>O8 y x
 |_,_,.nil,_=>rfl
 |y::xs,u::us,.cons r t,f=>by
  rw [List.all_cons,Bool.and_eq_true] at f;rw [List.any_cons,List.any_cons,Ng r f.1,ym t f.2]
theorem sJ {A:Around} {s:Shared} {x:V} {v:Value} (rx:RelV x v) (fx:oG x=true):∀{xs:List V} {us:List Value},Vals xs us→xs.all oG=true→∀u∈us,SeqAt.EqAt A s u v (Jx x u)
 |_,_,.nil,_=>fun u hu=>by cases hu
 |y::xs,u::us,.cons r t,f=>fun u' hu=>by
  rw [List.all_cons,Bool.and_eq_true] at f;rcases List.mem_cons.mp hu with rfl|hu
  ·rw [Ng r f.1];exact TJ r rx f.1 fx
  ·exact sJ rx fx t f.2 u' hu
def LI (x:V) (xs:List V):Bool:=xs.any fun y=>O8 y x
def Zi (K:PySem.W.Frag) (neg:Bool):R2:=fun x y H Q=>∃p xs,y=.ref p∧(kd K H p xs∨n6 K H p xs)∧oG x=true∧xs.all oG=true∧Q (.bl (if neg then !LI x xs else LI x xs)) H
theorem Ma:ve X (compareOp .In) (Zi X.K false):=by
 intro pins s σ H x y v u Q I rx ry h;obtain ⟨p,xs,rfl,hq,fx,fs,q⟩:=h
 cases ry;rcases hq with hq|hq
 ·obtain ⟨bI,r,pl,hz⟩:=I.list hq;refine SeqAt.in_listAt (Jx x) pl.isList (fun w hw=>sJ rx fx r fs w (by simpa using hw)) ⟨.bl _,H,I,rfl,?_⟩;rw [show bI.toArray.any (Jx x)=bI.any (Jx x) by simp,ym r fs];exact q
 ·obtain ⟨bI,r,pl,hz⟩:=I.tuple hq;refine SeqAt.in_tupleAt (Jx x) pl (fun w hw=>sJ rx fx r fs w (by simpa using hw)) ⟨.bl _,H,I,rfl,?_⟩;rw [show bI.toArray.any (Jx x)=bI.any (Jx x) by simp,ym r fs];exact q
theorem Ga:ve X (compareOp .NotIn) (Zi X.K true):=by
 intro pins s σ H x y v u Q I rx ry h;obtain ⟨p,xs,rfl,hq,fx,fs,q⟩:=h
 cases ry;rcases hq with hq|hq
 ·obtain ⟨bI,r,pl,hz⟩:=I.list hq;refine SeqAt.notIn_listAt (Jx x) pl.isList (fun w hw=>sJ rx fx r fs w (by simpa using hw)) ⟨.bl _,H,I,rfl,?_⟩;rw [show bI.toArray.any (Jx x)=bI.any (Jx x) by simp,ym r fs];exact q
 ·obtain ⟨bI,r,pl,hz⟩:=I.tuple hq;refine SeqAt.notIn_tupleAt (Jx x) pl (fun w hw=>sJ rx fx r fs w (by simpa using hw)) ⟨.bl _,H,I,rfl,?_⟩;rw [show bI.toArray.any (Jx x)=bI.any (Jx x) by simp,ym r fs];exact q
theorem qO:jI X (.builtin "len") (fun xs H Q=>∃p ys,xs=[.ref p]∧(kd X.K H p ys∨n6 X.K H p ys)∧Q (.int ys.length) H):=by
 intro pins s σ H xs us Q I r h;obtain ⟨p,ys,rfl,hq,q⟩:=h;obtain ⟨u,rfl,rx⟩:=vals1 r
 cases rx;have hn:=Cr;rcases hq with hq|hq
 ·obtain ⟨bI,r',pl,hz⟩:=I.list hq;have hlen:=r'.length;exact Calls.call_len_list pl.isList (by simp only [List.size_toArray]<;>omega) ⟨.int ys.length,H,I.tok _,⟨s.toks+1,by rw [List.size_toArray,hlen]⟩,q⟩
 ·obtain ⟨bI,r',pl,hz⟩:=I.tuple hq;have hlen:=r'.length;exact len_tuple pl (by simp only [List.size_toArray]<;>omega) ⟨.int ys.length,H,I.tok _,⟨s.toks+1,by rw [List.size_toArray,hlen]⟩,q⟩
theorem yA:jI X (.type "list") (fun xs H Q=>∃p ys,xs=[.ref p]∧(kd X.K H p ys∨n6 X.K H p ys)∧∀l,H l=none→Q (.ref l) (upd H l (.lst ys))):=by
 intro pins s σ H xs us Q I r h;obtain ⟨p,ys,rfl,hq,q⟩:=h;obtain ⟨u,rfl,rx⟩:=vals1 r
 cases rx;have fin:∀(bI:List Value),Vals ys bI→ys.length≤sizeLine→∀(h':Heap) (c':Nat),(∀b o',s.heap.get? b=some o'→h'.get? b=some o') →
   h'.get? s.heap.objs.size=some { cls:= .type "list",dict:=none,data:= .seq bI.toArray c',slots:= #[] }→EP X pins σ Q (.ref s.heap.objs.size) { s with heap:=h' }:=fun bI r' hz h' c' kp e =>
  ⟨.ref s.heap.objs.size,_,I.laid (t':=s.toks) kp (Nat.le_refl _) (show gY X.prog X.w _ h' _ (.lst ys) from ⟨hz,bI,c',r',e⟩),rfl,q _ (I.cZ.fresh (Nat.le_refl _))⟩
 rcases hq with hq|hq
 ·obtain ⟨bI,r',pl,hz⟩:=I.list hq;have hlen:=r'.length;obtain ⟨o,ho,hc,n,hd⟩:=pl.isList;exact call_list_seq p (.inl rfl) ho hc hd (fun h' c' kp e=>fin bI r' hz h' c' kp e) (by simp only [List.size_toArray]<;>omega)
 ·obtain ⟨bI,r',pl,hz⟩:=I.tuple hq;have hlen:=r'.length;obtain ⟨o,ho,hc,n,hd⟩:=pl;exact call_list_seq p (.inr rfl) ho hc hd (fun h' c' kp e=>fin bI r' hz h' c' kp e) (by simp only [List.size_toArray]<;>omega)
theorem DG:jI X (.type "tuple") (fun xs H Q=>∃p ys,xs=[.ref p]∧((kd X.K H p ys∧∀l,H l=none→Q (.ref l) (upd H l (.tup ys)))∨(n6 X.K H p ys∧Q (.ref p) H))):=by
 intro pins s σ H xs us Q I r h;obtain ⟨p,ys,rfl,h⟩:=h;obtain ⟨u,rfl,rx⟩:=vals1 r
 cases rx;rcases h with ⟨hq,q⟩|⟨hq,q⟩
 ·obtain ⟨bI,r',pl,hz⟩:=I.list hq;have hlen:=r'.length;refine call_tuple_list pl.isList (fun h' kp=>?_) (by simp only [List.size_toArray]<;>omega);have I1:Inv X pins σ H { s with heap:=h' }:=I.kept (t':=s.toks) kp;have I2:Inv X pins σ (upd H h'.objs.size (.tup ys)) { s with heap:=h'.push { cls:= .type "tuple",data:= .seq bI.toArray } } :=
   I1.laid (t':=s.toks) (fun b o e=>Heap.get?_push_of_some _ e) (Nat.le_refl _) (show gY X.prog X.w _ _ _ (.tup ys) from ⟨hz,bI,r',IsTup.new _ _⟩)
  exact ⟨.ref h'.objs.size,_,I2,rfl,q _ (I1.cZ.fresh (Nat.le_refl _))⟩
 ·obtain ⟨bI,r',pl,hz⟩:=I.tuple hq;exact call_tuple_same pl ⟨.ref p,H,I,rfl,q⟩
def tyV (K:PySem.W.Frag) (T:String) (x:V) (H:Hp):Prop:=match x with
 | .str _=>T="str"
 | .int _=>T="int"
 | .ref p=>(T="list"∧∃xs,kd K H p xs)∨(T="tuple"∧∃o,K.lookup p=some o∧o.cls=.type "tuple"∧o.dict=none) ∨
   (T="dict"∧((∃FJ,H p=some (.dK FJ))∨∃FJ,H p=some (.dT FJ)))∨(T="set"∧∃S n,H p=some (.set S n))
 |_=>False
theorem RH {pins:List (Addr×Obj)} {σ:St} {H:Hp} {s:Shared} {T:String} {x:V} {v:Value} (I:Inv X pins σ H s) (r:RelV x v) (ty:tyV X.K T x H) :
  s.TypeIs v T∧∀a,v=.ref a→∃ob,s.heap.get? a=some ob∧ob.dict=none:=by
 cases x with
 |str z =>
  obtain ⟨t,rfl⟩:=r
  cases (show T="str" from ty)
  exact ⟨typeIs_str s z t,fun _ e=>nomatch e⟩
 |int i =>
  obtain ⟨t,rfl⟩:=r
  cases (show T="int" from ty)
  exact ⟨typeIs_int s i t,fun _ e=>nomatch e⟩
 |ref p =>
  cases r;rcases ty with ⟨rfl,xs,hq⟩|⟨rfl,o,hk,hc,hd⟩|⟨rfl,hk⟩|⟨rfl,S,n,hk⟩
  ·obtain ⟨bI,_,pl,_⟩:=I.list hq;refine ⟨pl.isList.typeIs,fun a e=>?_⟩
   cases e;obtain ⟨o,n,e,c,hd,_⟩:=pl;exact ⟨o,e,hd⟩
  ·refine ⟨⟨o,I.Km p o hk,hc⟩,fun a e=>?_⟩
   cases e;exact ⟨o,I.Km _ o hk,hd⟩
  ·have z:∃o,s.heap.get? p=some o∧o.ExactDict:=by
    rcases hk with ⟨FJ,hk⟩|⟨FJ,hk⟩
    ·obtain ⟨_,_,_,_,o,_,_,e,ex,_⟩:=I.cZ p _ hk;exact ⟨o,e,ex⟩
    ·obtain ⟨_,_,_,_,o,_,_,e,ex,_⟩:=I.cZ p _ hk;exact ⟨o,e,ex⟩
   obtain ⟨o,e,ex⟩:=z;refine ⟨⟨o,e,ex.1⟩,fun a e2=>?_⟩
   cases e2;exact ⟨o,e,ex.2.1⟩
  ·obtain ⟨o,_,_,_,e,ex,_⟩:=I.cZ p _ hk;refine ⟨⟨o,e,ex.1⟩,fun a e2=>?_⟩
   cases e2;exact ⟨o,e,ex.2.1⟩
 |_=>exact False.elim ty
variable {o e:Expr} {es:List Expr} {to:TE} {t:TA} {name:Str} {apos oT:Pos} {T id:String} {r:V→List V→Hp→VK→Prop}
end
end L2
namespace L2
open PySem PySem.Spec PyProof.Rows
def YF (X:Cx) (id:String) (r:V→List V→Hp→VK→Prop):Prop :=
 ∀(pins:List (Addr×Obj)) (s:Shared) (σ:St) (H:Hp) (x:V) (xs:List V) (v:Value) (us:List Value) (Q:VK),Inv X pins σ H s→RelV x v→Vals xs us→r x xs H Q →
  wpAny (model X.prog X.w) X.A (call (.builtin id) (v::us)) (EP X pins σ Q) X.xe s
theorem Vals.one:∀{x:V} {us:List Value},Vals [x] us→∃u,us=[u]∧RelV x u
 |_,_,.cons r .nil=>⟨_,rfl,r⟩
section
variable {X:Cx} {pins:List (Addr×Obj)} {σ:St} {H:Hp} {s:Shared} {l b:Addr} {xs ys zs:List V}
theorem Inv.SG {bI its':List Value} {n:Nat} {f:Array Value→Array Value} {t':Nat} (I:Inv X pins σ H s) (hH:H l=some (.lst xs))
  (e:s.heap.get? l=some { cls:= .type "list",data:= .seq bI.toArray n }) (hf:f bI.toArray=its'.toArray) (hv:Vals ys its') (hz:ys.length≤sizeLine) :
  Inv X pins σ (upd H l (.lst ys)) { s with heap:=s.heap.update l (Obj.mapSeq f),toks:=t' }:=by
 have q:=PySem.IsL.update e f;rw [hf] at q;refine I.write (x:=l) (e:=l) (by rw [hH];exact trivial) (.inl rfl) (fun b' u hb hu=>(Heap.get?_update_other s.heap (Obj.mapSeq f) (Ne.symm hb)).trans hu) ⟨_,q⟩ ?_;exact ⟨hz,its',_,hv,q⟩
theorem Inv.Xp {bI:List Value} {t':Nat} (I:Inv X pins σ H s) (hv:Vals ys bI) (hz:ys.length≤sizeLine) :
  Inv X pins σ (upd H s.heap.objs.size (.lst ys)) { s with heap:=s.heap.push { cls:= .type "list",data:= .seq bI.toArray },toks:=t' } :=
 I.laid (fun _ _ q=>Heap.get?_push_of_some _ q) (Nat.le_refl _) ⟨hz,bI,0,hv,Heap.get?_push_size _ rfl⟩
theorem Inv.fresh (I:Inv X pins σ H s):H s.heap.objs.size=none:=I.cZ.fresh (Nat.le_refl _)
theorem Inv.Mr (I:Inv X pins σ H s) (hH:H l=some (.lst xs)):xs.length≤sizeLine∧∃(bI:List Value) (n:Nat),Vals xs bI∧xs.length=bI.length∧s.heap.get? l=some { cls:= .type "list",data:= .seq bI.toArray n }:=by
 obtain ⟨z,bI,n,r,e⟩:=I.cZ l _ hH;exact ⟨z,bI,n,r,r.length,e⟩
theorem HF {n:Nat} (h:n≤sizeLine):Builtin.List.listTooLong n=false:=by
 unfold Builtin.List.listTooLong;exact decide_eq_false (by omega)
end
section
variable {X:Cx}
def LA:V→List V→Hp→VK→Prop:=fun x vs H Q=>∃l xs y,x=.ref l∧vs=[y]∧H l=some (.lst xs)∧xs.length<sizeLine∧Q .de (upd H l (.lst (xs++[y])))
theorem dw:YF X "list.append" LA:=by
 intro pins s σ H x vs v us Q I rx rv h;obtain ⟨l,xs,y,rfl,rfl,hH,hz,q⟩:=h
 cases rx;obtain ⟨u,rfl,ru⟩:=rv.one;obtain ⟨z,bI,n,r,hl,e⟩:=I.Mr hH;refine call_meets F.slot_list_append ⟨_,e,rfl⟩ F.entry_list_append (F.args_list_append_2 _ _) (PySem.list_append l bI.toArray n u (by rw [List.size_toArray];omega)) ⟨e,?_⟩;refine ⟨.de,_,I.SG (its':=bI++[u]) hH e (by simp) (r.append (.cons ru .nil)) ?_,rfl,q⟩;rw [List.length_append,List.length_singleton];omega
def K3:V→List V→Hp→VK→Prop:=fun x vs H Q=>∃l b xs zs,x=.ref l∧vs=[.ref b]∧H l=some (.lst xs)∧H b=some (.lst zs)∧xs.length+zs.length≤sizeLine∧Q .de (upd H l (.lst (xs++zs)))
theorem uj:YF X "list.extend" K3:=by
 intro pins s σ H x vs v us Q I rx rv h;obtain ⟨l,b,xs,zs,rfl,rfl,hH,hB,hz,q⟩:=h
 cases rx;obtain ⟨u,rfl,ru⟩:=rv.one
 cases ru;obtain ⟨z,bI,n,r,hl,e⟩:=I.Mr hH;obtain ⟨z2,uI,n2,r2,WJ,e2⟩:=I.Mr hB;have hsz:bI.toArray.size+uI.toArray.size≤sizeLine:=by rw [List.size_toArray,List.size_toArray];omega
 have Oo:¬(!bI.toArray.isEmpty&&Builtin.List.listTooLong (bI.toArray.size+uI.toArray.size))=true:=by
  rw [HF hsz,Bool.and_false];exact Bool.false_ne_true
 refine call_meets F.slot_list_extend ⟨_,e,rfl⟩ F.entry_list_extend (F.args_list_extend_2 _ _)
  (AutoSeq1.list_extend_list_list_0 l bI.toArray n b uI.toArray n2 Oo (by rw [List.size_toArray];omega) (by omega)) ⟨e,e2,?_⟩
 refine ⟨.de,_,I.SG (its':=bI++uI) hH e (by simp) (r.append r2) ?_,rfl,q⟩;rw [List.length_append];omega
def Wl:R2:=fun x y H Q=>∃l b xs zs,x=.ref l∧y=.ref b∧H l=some (.lst xs)∧H b=some (.lst zs)∧xs.length+zs.length≤sizeLine∧∀p,H p=none→Q (.ref p) (upd H p (.lst (xs++zs)))
theorem jt:ve X (binaryOp .Add) Wl:=by
 intro pins s σ H x y v u Q I rx ry h;obtain ⟨l,b,xs,zs,rfl,rfl,hH,hB,hz,q⟩:=h
 cases rx
 cases ry;obtain ⟨z,bI,n,r,hl,e⟩:=I.Mr hH;obtain ⟨z2,uI,n2,r2,WJ,e2⟩:=I.Mr hB;refine PySem.P.add_list e e2 ?_ (by rw [List.size_toArray,List.size_toArray];omega);have ea:bI.toArray++uI.toArray=(bI++uI).toArray:=by simp
 rw [ea];exact ⟨.ref _,_,I.Xp (t':=s.toks) (r.append r2) (by rw [List.length_append];omega),rfl,q _ I.fresh⟩
end
end L2
namespace L2
open PySem PySem.Spec PyProof.Rows
theorem yM:∀{us:List Value} {ns:List Int},IntsAre us ns→Vals (ns.map V.int) us
 |_,_,.nil=>by rw [List.map_nil];exact Paired.nil
 |_,_,.cons n t h=>by rw [List.map_cons];exact Paired.cons (show RelV (V.int n) (Value.int n t) from ⟨t,rfl⟩) (yM h)
theorem Vals.Xd:∀{bs:List Bool} {us:List Value},Vals (bs.map V.bl) us→us=bs.map Value.bool
 |[],us,h=>by
  rw [List.map_nil] at h
  cases h;rfl
 |b::bs,us,h=>by
  rw [List.map_cons] at h
  cases h with
  |cons r t =>
   cases r;rw [Vals.Xd t,List.map_cons]
theorem Vals.U1 {a:Addr} {us:List Value} (r:Vals [V.ref a] us):us=[Value.ref a]:=by
 cases r with
 |cons r t =>
  cases t
  cases r;rfl
theorem Jm {prog:Program} {w:World} {A:Around} {E:Value→Shared→Prop} {s:Shared} {l:Addr} {items:Array Value} {Q:Value→Shared→Prop} (hl:s.heap.IsList l items)
  (h:∀s₂ :Shared,s₂ ={ s with heap:=s.heap.push { cls:= .type "list_iterator",data:= .fields #[.ref l,.int 0 0] } } →
   (s₂.heap.IsListIter s.heap.objs.size l 0∧s₂.heap.IsList l items)→l≠s.heap.objs.size→Q (.ref s.heap.objs.size) s₂):wpAny (model prog w) A (pyIter (.ref l)) Q E s:=by
 have AK:l<s.heap.objs.size:=by obtain ⟨_,e,_⟩:=hl;exact Heap.lt_size e
 exact wpAny_pyIter_list hl (h _ rfl ⟨⟨_,Heap.get?_push_size _ rfl,rfl,rfl⟩,hl.push _⟩ (Nat.ne_of_lt AK))
theorem zW {prog:Program} {w:World} {A:Around} {bs:List Bool} {bI:List Value} (e:bI=bs.map Value.bool) :
  TruthOf prog w A (fun i v=>bI.toArray[i]?=some v) (fun i=>bs.getD i false):=fun i v s Q E hv hq=>by
 have Wz:bI[i]?=some v:=by simpa using hv
 rw [e,List.getElem?_map] at Wz;obtain ⟨b,hb,rfl⟩:=Option.map_eq_some_iff.mp Wz;have hg:bs.getD i false=b:=by rw [List.getD_eq_getElem?_getD,hb]<;>rfl
 have GR:Q (bs.getD i false) s:=hq;rw [hg] at GR;exact wpAny_truthy_bool GR
theorem any_range:∀bs:List Bool,(List.range bs.length).any (fun i=>bs.getD i false)=bs.any id
 |[]=>rfl
 |b::bs=>by
  rw [List.length_cons,List.range_succ_eq_map,List.any_cons,List.any_map,List.any_cons, ←any_range bs]
  all_goals rfl
theorem all_range:∀bs:List Bool,(List.range bs.length).all (fun i=>bs.getD i false)=bs.all id
 |[]=>rfl
 |b::bs=>by
  rw [List.length_cons,List.range_succ_eq_map,List.all_cons,List.all_map,List.all_cons, ←all_range bs]
  all_goals rfl
section
variable {X:Cx}
def Yr (K:PySem.W.Frag):List V→Hp→VK→Prop:=fun vs H Q=>∃(a:Addr) (bs:List Bool),vs=[V.ref a]∧kd K H a (bs.map V.bl)∧Q (.bl (bs.any id)) H
def YA (K:PySem.W.Frag):List V→Hp→VK→Prop:=fun vs H Q=>∃(a:Addr) (bs:List Bool),vs=[V.ref a]∧kd K H a (bs.map V.bl)∧Q (.bl (bs.all id)) H
theorem RX (hc:X.calm=true):jI X (.builtin "any") (Yr X.K):=by
 intro pins s σ H vs us Q I r h;obtain ⟨a,bs,rfl,hs,q⟩:=h;obtain ⟨bI,rv,hl,_⟩:=I.list hs;rw [Vals.U1 r];have hb:=rv.Xd;refine call_any_walk (Jm hl.isList fun s₂ e2 st lP=>?_);subst e2;refine ⟨_,_,_,_,_,_,_,rfl,Walks.list (A:=X.A.in1) (I.ok.hd hc) _ a lP bI.toArray,st,zW hb,fun h' tk hk=>?_⟩;refine ⟨.bl _,H,I.kept fun b o eo=>hk b o (fun Kh=>?_) (Heap.get?_push_of_some _ eo),?_,q⟩
 ·rcases List.mem_cons.mp Kh with e1|Kh
  ·exact absurd (e1 ▸ Heap.lt_size eo) (Nat.lt_irrefl _)
  ·cases Kh
 ·show Value.bool _=Value.bool _;rw [←any_range,hb,List.size_toArray,List.length_map]
theorem S1 (hc:X.calm=true):jI X (.builtin "all") (YA X.K):=by
 intro pins s σ H vs us Q I r h;obtain ⟨a,bs,rfl,hs,q⟩:=h;obtain ⟨bI,rv,hl,_⟩:=I.list hs;rw [Vals.U1 r];have hb:=rv.Xd;refine call_all_walk (Jm hl.isList fun s₂ e2 st lP=>?_);subst e2;refine ⟨_,_,_,_,_,_,_,rfl,Walks.list (A:=X.A.in1) (I.ok.hd hc) _ a lP bI.toArray,st,zW hb,fun h' tk hk=>?_⟩;refine ⟨.bl _,H,I.kept fun b o eo=>hk b o (fun Kh=>?_) (Heap.get?_push_of_some _ eo),?_,q⟩
 ·rcases List.mem_cons.mp Kh with e1|Kh
  ·exact absurd (e1 ▸ Heap.lt_size eo) (Nat.lt_irrefl _)
  ·cases Kh
 ·show Value.bool _=Value.bool _;rw [←all_range,hb,List.size_toArray,List.length_map]
end
mutual
inductive Dp (K:PySem.W.Frag) (H:Hp):V→PyData→Prop
 |de:Dp K H .de .none
 |bl (b:Bool):Dp K H (.bl b) (.bool b)
 |int (i:Int):Dp K H (.int i) (.int i)
 |str (x:Str):Dp K H (.str x) (.str x)
 |lst {a:Addr} {xs:List V} {ds:List PyData}:kd K H a xs→tL K H xs ds→Dp K H (.ref a) (.list ds)
 |tup {a:Addr} {xs:List V} {ds:List PyData}:n6 K H a xs→tL K H xs ds→Dp K H (.ref a) (.tuple ds)
inductive tL (K:PySem.W.Frag) (H:Hp):List V→List PyData→Prop
 |nil:tL K H [] []
 |cons {v:V} {vs:List V} {d:PyData} {ds:List PyData}:Dp K H v d→tL K H vs ds→tL K H (v::vs) (d::ds)
end
section
variable {X:Cx} {pins:List (Addr×Obj)} {σ:St} {H:Hp} {s:Shared}
mutual
theorem Dp.reads (I:Inv X pins σ H s):∀(d:PyData) (v:V) (u:Value),Dp X.K H v d→RelV v u→∃as,Reads s.heap u d as
 | .none,_,_,h,r=>by
  cases h
  cases r;exact ⟨_,Reads.none⟩
 | .bool b,_,_,h,r=>by
  cases h
  cases r;exact ⟨_,Reads.bool b⟩
 | .int i,_,_,h,r=>by
  cases h;obtain ⟨t,rfl⟩:=r;exact ⟨_,Reads.int i t⟩
 | .str x,_,_,h,r=>by
  cases h;obtain ⟨t,rfl⟩:=r;exact ⟨_,Reads.str x t⟩
 | .list ds,_,_,h,r=>by
  cases h with
  |lst hs ha =>
   cases r;obtain ⟨bI,rv,⟨o,n,ho,hc,_,hd⟩,_⟩:=I.list hs;obtain ⟨as,hr⟩:=Dp.readsAll I ds _ bI ha rv;exact ⟨_,Reads.list ho hc hd hr⟩
 | .tuple ds,_,_,h,r=>by
  cases h with
  |tup hs ha =>
   cases r;obtain ⟨bI,rv,⟨o,ho,hc,n,hd⟩,_⟩:=I.tuple hs;obtain ⟨as,hr⟩:=Dp.readsAll I ds _ bI ha rv;exact ⟨_,Reads.tuple ho hc hd hr⟩
 | .dict _,_,_,h,_=>by cases h
theorem Dp.readsAll (I:Inv X pins σ H s):∀(ds:List PyData) (vs:List V) (us:List Value),tL X.K H vs ds→Vals vs us→∃as,ReadsAll s.heap us ds as
 |[],_,_,h,r=>by
  cases h
  cases r;exact ⟨_,ReadsAll.nil⟩
 |d::ds,_,_,h,r=>by
  cases h with
  |cons h1 h2 =>
   cases r with
   |cons r1 r2 =>
    obtain ⟨as,q1⟩:=Dp.reads I d _ _ h1 r1;obtain ⟨bs,q2⟩:=Dp.readsAll I ds _ _ h2 r2;exact ⟨_,ReadsAll.cons q1 q2⟩
end
end
section
variable {X:Cx}
def XJ (K:PySem.W.Frag):R2:=fun x y H Q=>∃d e,Dp K H x d∧Dp K H y e∧SeqAt.shaped d=true∧SeqAt.shaped e=true∧Q (.bl (PyData.eqv d e)) H
theorem y9 (hu:X.A.units+64<cLine):ve X (compareOp .Eq) (XJ X.K):=by
 intro pins s σ H x y v u Q I rx ry h;obtain ⟨d,e,hd,he,sd,se,q⟩:=h;obtain ⟨as,r1⟩:=Dp.reads I d x v hd rx;obtain ⟨bs,r2⟩:=Dp.reads I e y u he ry;exact SeqAt.compareEq_shaped r1 r2 sd se hu ⟨.bl _,H,I,rfl,q⟩
end
end L2
namespace L2
open PySem PySem.Spec PyProof.Rows
abbrev Ni (h:Heap) (c:Addr) (v:Option Value):Prop:=h.IsCell c v
def Yx (scope sc:Scope):Scope :=
 { scope with names:=scope.names.map fun (n,k)=>if (k== .free&&sc.kind== .function&&sc.names.lookup n==some .cell) then (n,.cell) else (n,k) }
def dY (cells:List (Str×Addr)):List (Str×NameKind)→List (Str×Addr)→List (Str×Addr)
 |[],acc=>acc
 |(n,k)::r,acc=>if k== .free then dY cells r ((n,(cells.lookup n).getD 0)::acc) else dY cells r acc
theorem xC (env:Env) (f:Str×NameKind→List (Str×Addr)→Sem (ForInStep (List (Str×Addr))))
  (hf:∀n k c,f (n,k) c=if k== .free then (do let a←cellOf env n;pure (.yield ((n,a)::c))) else pure (.yield c)) :
  ∀(names:List (Str×NameKind)) (acc:List (Str×Addr)),(∀y∈names,y.2=.free→∃c,env.cells.lookup y.1=some c)→forIn names acc f=pure (dY env.cells names acc)
 |[],acc,_=>by rw [List.forIn_nil];rfl
 |(n,k)::r,acc,h=>by
  rw [List.forIn_cons,hf];have ih:=fun acc=>xC env f hf r acc fun y hy=>h y (List.mem_cons_of_mem _ hy);unfold dY;by_cases hk:(k==NameKind.free)=true
  ·rw [if_pos hk,if_pos hk];obtain ⟨c,hc⟩:=h (n,k) List.mem_cons_self (by simpa using hk);have e:cellOf env n=pure c:=by unfold cellOf;rw [hc]
   rw [e];have e2:(env.cells.lookup n).getD 0=c:=by rw [hc];rfl
   rw [e2];exact ih _
  ·rw [if_neg hk,if_neg hk];exact ih _
theorem JA {scope:Scope} {env:Env} (h:∀y∈scope.names,y.2=.free→∃c,env.cells.lookup y.1=some c):closureFor scope env=pure (dY env.cells scope.names []):=by
 simp only [closureFor];rw [xC env _ (fun n k c=>rfl) scope.names [] h];rfl
theorem mem_lookup {α:Type}:∀{l:List (Str×α)} {n:Str} {c:α},(n,c)∈l→∃c',l.lookup n=some c'
 |(k,v)::r,n,c,h=>by
  rw [List.lookup_cons]
  cases hb:n==k with
  |true=>exact ⟨_,rfl⟩
  |false =>
   rcases List.mem_cons.mp h with e|h
   ·cases e;simp at hb
   ·exact mem_lookup h
theorem oj {cells:List (Str×Addr)}:∀{names:List (Str×NameKind)} {acc:List (Str×Addr)} {n:Str} {c:Addr},(n,c)∈dY cells names acc→(n,c)∈acc∨((n,.free)∈names∧c=(cells.lookup n).getD 0)
 |[],_,_,_,h=>.inl h
 |(m,k)::r,acc,n,c,h=>by
  unfold dY at h;split at h
  ·rename_i hk;have hk:k=.free:=by simpa using hk
   rcases oj h with h|⟨h1,h2⟩
   ·rcases List.mem_cons.mp h with e|h
    ·cases e;exact .inr ⟨hk ▸ List.mem_cons_self,rfl⟩
    ·exact .inl h
   ·exact .inr ⟨List.mem_cons_of_mem _ h1,h2⟩
  ·rcases oj h with h|⟨h1,h2⟩
   ·exact .inl h
   ·exact .inr ⟨List.mem_cons_of_mem _ h1,h2⟩
theorem tj {cells:List (Str×Addr)}:∀{names:List (Str×NameKind)} {acc:List (Str×Addr)} {p:Str×Addr},p∈acc→p∈dY cells names acc
 |[],_,_,h=>h
 |(m,k)::r,acc,p,h=>by
  unfold dY;split
  ·exact tj (List.mem_cons_of_mem _ h)
  ·exact tj h
theorem sU {cells:List (Str×Addr)}:∀{names:List (Str×NameKind)} {acc:List (Str×Addr)} {n:Str},(n,.free)∈names→(n,(cells.lookup n).getD 0)∈dY cells names acc
 |(m,k)::r,acc,n,h=>by
  unfold dY;rcases List.mem_cons.mp h with e|h
  ·cases e;exact tj List.mem_cons_self
  ·split
   ·exact sU h
   ·exact sU h
theorem pJ:∀{names:List (Str×NameKind)} {h:Heap} {acc:List (Str×Addr)} {x:Str} {c:Addr},(x,c)∈cellsFrom h.objs.size names acc →
  (x,c)∈acc∨((x,.cell)∈names∧h.objs.size≤c∧Ni (pushCells h names) c none)
 |[],_,_,_,_,h=>.inl h
 |(n,k)::r,h,acc,x,c,hm=>by
  unfold cellsFrom at hm;unfold pushCells;split at hm
  ·rename_i hk;rw [if_pos hk];have hk:k=.cell:=by simpa using hk
   rw [←Heap.size_push h { cls:= .type "cell",data:= .cell none }] at hm;rcases pJ hm with hm|⟨h1,h2,h3⟩
   ·rcases List.mem_cons.mp hm with e|hm
    ·cases e;exact .inr ⟨hk ▸ List.mem_cons_self,Nat.le_refl _,_,pushCells_keeps r _ _ _ (Heap.get?_push_size _ rfl),rfl⟩
    ·exact .inl hm
   ·rw [Heap.size_push] at h2;exact .inr ⟨List.mem_cons_of_mem _ h1,Nat.le_of_succ_le h2,h3⟩
  ·rename_i hk;rw [if_neg hk];rcases pJ hm with hm|⟨h1,h2,h3⟩
   ·exact .inl hm
   ·exact .inr ⟨List.mem_cons_of_mem _ h1,h2,h3⟩
theorem uD:∀{names:List (Str×NameKind)} {n:Nat} {acc:List (Str×Addr)} {p:Str×Addr},p∈acc→p∈cellsFrom n names acc
 |[],_,_,_,h=>h
 |(m,k)::r,n,acc,p,h=>by
  unfold cellsFrom;split
  ·exact uD (List.mem_cons_of_mem _ h)
  ·exact uD h
theorem yR:∀{names:List (Str×NameKind)} {n:Nat} {acc:List (Str×Addr)} {x:Str},(x,.cell)∈names→∃c,(x,c)∈cellsFrom n names acc
 |(m,k)::r,n,acc,x,h=>by
  unfold cellsFrom;rcases List.mem_cons.mp h with e|h
  ·cases e;exact ⟨n,uD List.mem_cons_self⟩
  ·split
   ·exact yR h
   ·exact yR h
theorem yS:∀{names:List (Str×NameKind)} {h:Heap} {acc:List (Str×Addr)} {x y:Str} {c:Addr},(∀p∈acc,p.2<h.objs.size)→(∀x y c,(x,c)∈acc→(y,c)∈acc→x=y) →
  (x,c)∈cellsFrom h.objs.size names acc→(y,c)∈cellsFrom h.objs.size names acc→x=y
 |[],_,_,_,_,_,_,hi,h1,h2=>hi _ _ _ h1 h2
 |(n,k)::r,h,acc,x,y,c,hl,hi,h1,h2=>by
  unfold cellsFrom at h1 h2;split at h1
  ·rename_i hk;rw [if_pos hk] at h2;rw [←Heap.size_push h { cls:= .type "cell",data:= .cell none }] at h1 h2;refine yS (h:=h.push _) (fun p hp=>?_) (fun x y c a b=>?_) h1 h2
   ·rw [Heap.size_push];rcases List.mem_cons.mp hp with rfl|hp
    ·exact Nat.lt_succ_self _
    ·exact Nat.lt_succ_of_lt (hl p hp)
   ·rcases List.mem_cons.mp a with e|a<;>rcases List.mem_cons.mp b with e'|b
    ·cases e;cases e';rfl
    ·cases e;exact absurd (hl _ b) (Nat.lt_irrefl _)
    ·cases e';exact absurd (hl _ a) (Nat.lt_irrefl _)
    ·exact hi _ _ _ a b
  ·rename_i hk;rw [if_neg hk] at h2;exact yS hl hi h1 h2
theorem Ip {M:Model} {A:Around} {E:Value→Shared→Prop} {s:Shared} {scope:Scope} {globals:Addr} {closure:List (Str×Addr)} {qual:Str} {func:Option Addr} {code:Value} {around:Env} {builtins:Addr} {Q:Env→Shared→Prop}
  (h:Q (newEnv scope s.heap.objs.size globals (cellsFrom (s.heap.objs.size+1) scope.names closure) qual func code (some around) builtins)
   { s with heap:=pushCells (s.heap.push { cls:= .type "dict",data:= .dict #[] }) scope.names }) :
  wpAny M A (newFunctionEnv scope globals closure [] qual func code (some around) builtins) Q E s:=by
 simp only [newFunctionEnv,Option.isSome_some,if_true];refine wpAny_bind (wpAny_alloc ?_);refine wpAny_bind (wpAny_layCells _ (fun n k c=>rfl) scope.names closure _ _ ?_);rw [show ({ s with heap:=s.heap.push { cls:= .type "dict",data:= .dict #[] } }:Shared).heap.objs.size=s.heap.objs.size+1 from Heap.size_push ..]
 rw [List.forIn_nil];exact wpAny_bind (wpAny_pure (wpAny_pure h))
theorem sQ {sc:Scope}:∀{names:List (Str×NameKind)} {x:Str} {k:NameKind},
  (names.map fun (n,k)=>if (k==NameKind.free&&sc.kind== .function&&sc.names.lookup n==some .cell) then (n,NameKind.cell) else (n,k)).lookup x=some k →
  ∃k',names.lookup x=some k'∧(k=k'∨(k'=.free∧k=.cell))
 |[],_,_,h=>by simp at h
 |(n,k₀)::r,x,k,h=>by
  have ih:=@sQ sc r x k;have h':List.lookup x ((if (k₀ ==NameKind.free&&sc.kind== .function&&sc.names.lookup n==some .cell)=true then (n,NameKind.cell) else (n,k₀))::(r.map _))=some k:=h
  cases hx:x==n with
  |true =>
   simp only [List.lookup_cons,hx];by_cases hc:(k₀ ==NameKind.free&&sc.kind== .function&&sc.names.lookup n==some .cell)=true
   ·rw [if_pos hc] at h';simp only [List.lookup_cons,hx] at h'
    cases h';simp only [Bool.and_eq_true,beq_iff_eq] at hc;exact ⟨k₀, rfl,.inr ⟨hc.1.1,rfl⟩⟩
   ·rw [if_neg hc] at h';simp only [List.lookup_cons,hx] at h'
    cases h';exact ⟨_,rfl,.inl rfl⟩
  |false =>
   simp only [List.lookup_cons,hx];by_cases hc:(k₀ ==NameKind.free&&sc.kind== .function&&sc.names.lookup n==some .cell)=true
   ·rw [if_pos hc] at h';simp only [List.lookup_cons,hx] at h';exact ih h'
   ·rw [if_neg hc] at h';simp only [List.lookup_cons,hx] at h';exact ih h'
structure Jk (N:List Str) (sc scope:Scope) (own:List (Str×Nat)):Prop where
 kind:scope.kind=.function
 uniq:∀y∈scope.names,scope.names.lookup y.1=some y.2
 ix:∀p∈own,N[p.2]?=some p.1
 free:∀y∈scope.names,y.2=.free→sc.names.lookup y.1=some .cell∨sc.names.lookup y.1=some .free
 own:∀y∈scope.names,y.2=.local∨y.2=.cell→y.1∈own.map (·.1)∨y.1∉N
def wipe (σ:St):List Nat→St
 |[]=>σ
 |v::vs=>(wipe σ vs).set v none
theorem tp (σ:St):∀vs:List Nat,(wipe σ vs).length=σ.length
 |[]=>rfl
 |v::vs=>by unfold wipe;rw [List.length_set,tp σ vs]
theorem zo {σ:St} {i:Nat} {x:V}:∀{vs:List Nat},(wipe σ vs)[i]?=some (some x)→σ[i]?=some (some x)∧i∉vs
 |[],h=>⟨h,by simp⟩
 |v::vs,h=>by
  unfold wipe at h;by_cases hi:v=i
  ·subst hi;by_cases hv:v<(wipe σ vs).length
   ·rw [List.getElem?_set_self hv] at h;cases h
   ·rw [List.getElem?_eq_none (by simpa using hv)] at h;cases h
  ·rw [List.getElem?_set_ne hi] at h;obtain ⟨h1,h2⟩:=zo h;exact ⟨h1,by simp only [List.mem_cons,not_or];exact ⟨fun e=>hi e.symm,h2⟩⟩
abbrev Cx.Gq (X:Cx) (s:Shared) (H:Hp) (scope:Scope) (jL:Env) (fp:List Addr):Cx:={ X with Fb:=s,SU:=H,env:=jL,outer:=X.stack,ex:=fp,fn:=fun x=>scope.names.lookup x==some .cell,pn:=[],xe:=fun _ _=>False }
section
variable {X:Cx} {pins:List (Addr×Obj)} {σ:St} {H:Hp} {s:Shared}
theorem IU {scope:Scope} {own:List (Str×Nat)} {fp:List Addr} (I:Inv X pins σ H s) (ok:Jk X.N X.env.scope scope own) (hN:X.N.Nodup) (T3:∀b∈fp,zD X pins H b∧b<s.heap.objs.size) :
  Inv (X.Gq s H scope (compEnvC scope (cellsFrom (s.heap.objs.size+1) scope.names (dY X.env.cells scope.names [])) s.heap.objs.size X.env) fp) [] (wipe σ (own.map (·.2))) H { s with heap:=pushCells (s.heap.push { cls:= .type "dict",data:= .dict #[] }) scope.names }:=by
 have ED:∀y∈scope.names,y.2=.free→∃c,X.env.cells.lookup y.1=some c:=fun y hy e=>by
  rcases ok.free y hy e with k|k
  ·exact I.ok.has _ (.inl k)
  ·exact I.ok.has _ (.inr k)
 generalize HG:compEnvC scope (cellsFrom (s.heap.objs.size+1) scope.names (dY X.env.cells scope.names [])) s.heap.objs.size X.env=jL;have kp:∀b o,s.heap.get? b=some o→(pushCells (s.heap.push { cls:= .type "dict",data:= .dict #[] }) scope.names).get? b=some o:=fun b o e=>pushCells_keeps _ _ _ _ (Heap.get?_push_of_some _ e);have hL:jL.locals=s.heap.objs.size:=by rw [←HG];rfl
 have Sr:jL.cells=cellsFrom (s.heap.objs.size+1) scope.names (dY X.env.cells scope.names []):=by rw [←HG];rfl
 have X2:jL.scope=Yx scope X.env.scope:=by rw [←HG];rfl
 rw [←Heap.size_push s.heap { cls:= .type "dict",data:= .dict #[] }] at Sr;have cm:∀{y c},(y,c)∈dY X.env.cells scope.names []→X.env.cells.lookup y=some c∧c<s.heap.objs.size:=fun {y c} hm=>by
  rcases oj hm with hm|⟨h1,rfl⟩
  ·cases hm
  ·obtain ⟨c,hc⟩:=ED _ h1 rfl;rw [hc];obtain ⟨w,z⟩:=I.cell _ _ hc;exact ⟨rfl,z.lt⟩
 have mem:∀{y c},jL.cells.lookup y=some c→(X.env.cells.lookup y=some c∧c<s.heap.objs.size)∨(s.heap.objs.size+1≤c∧Ni (pushCells (s.heap.push { cls:= .type "dict",data:= .dict #[] }) scope.names) c none):=fun {y c} e=>by
  rw [Sr] at e;rcases pJ (PySem.mem_of_lookup e) with hm|⟨_,h2,h3⟩
  ·exact .inl (cm hm)
  ·rw [Heap.size_push] at h2;exact .inr ⟨h2,h3⟩
 have look:∀{y},scope.names.lookup y=some .free→∃c,jL.cells.lookup y=some c∧X.env.cells.lookup y=some c:=fun {y} hl=>by
  have hy:(y,NameKind.free)∈scope.names:=PySem.mem_of_lookup hl;obtain ⟨c',e'⟩:=mem_lookup (uD (names:=scope.names) (n:=(s.heap.push { cls:= .type "dict",data:= .dict #[] }).objs.size) (sU (cells:=X.env.cells) (acc:=[]) hy));rw [←Sr] at e';refine ⟨c',e',?_⟩;rw [Sr] at e';rcases pJ (PySem.mem_of_lookup e') with hm|⟨h1,_,_⟩
  ·exact (cm hm).1
  ·have:=ok.uniq _ h1;rw [hl] at this;cases this
 have okB:(X.Gq s H scope jL fp).Ok:=by
  refine ⟨I.ok.mod,by show jL.scope.kind=_;rw [X2];exact ok.kind,by show jL.globals=_;rw [←HG];exact I.ok.glob,by show jL.builtins=_;rw [←HG];exact I.ok.blt,by show s.heap.objs.size≤jL.locals;rw [hL];exact Nat.le_refl _,
   fun y z c e1 e2=>?_,fun y hy=>?_,fun y c z e=>?_,I.ok.hd,I.ok.frames,.inl rfl,fun b hb=>⟨?_,fun y c e z=>?_⟩,I.bs,Nat.le_trans I.ok.O4 I.sz,fun b o e hb=>?_,fun b hb z=>?_,I.stack,I.Lz⟩
  ·have e1:jL.cells.lookup y=some c:=e1;have e2:jL.cells.lookup z=some c:=e2;rw [Sr] at e1 e2;refine yS (fun p hp=>?_) (fun y z c a b=>I.ok.inj y z c (cm a).1 (cm b).1) (PySem.mem_of_lookup e1) (PySem.mem_of_lookup e2);rw [Heap.size_push];exact Nat.lt_succ_of_lt (cm (y:=p.1) (c:=p.2) hp).2
  ·show ∃c,jL.cells.lookup y=some c;have key:∀k,jL.kindOf y=some k→(k=.cell∨k=.free)→∃c,jL.cells.lookup y=some c:=fun k hk MB=>by
    unfold Env.kindOf at hk;rw [X2] at hk;obtain ⟨k',e,r⟩:=sQ hk;have:k'=.cell∨k'=.free:=by
     rcases r with rfl|⟨rfl,_⟩
     ·exact MB
     ·exact .inr rfl
    rcases this with rfl|rfl
    ·obtain ⟨c,hm⟩:=yR (n:=(s.heap.push { cls:= .type "dict",data:= .dict #[] }).objs.size) (acc:=dY X.env.cells scope.names []) (PySem.mem_of_lookup e);obtain ⟨c',e'⟩:=mem_lookup hm;exact ⟨c',by rw [Sr];exact e'⟩
    ·obtain ⟨c,h1,_⟩:=look e;exact ⟨c,h1⟩
   rcases hy with hy|hy
   ·exact key _ hy (.inl rfl)
   ·exact key _ hy (.inr rfl)
  ·have z:(scope.names.lookup y==some NameKind.cell)=true:=z;have z:scope.names.lookup y=some .cell:=by simpa using z
   have e:jL.cells.lookup y=some c:=e;rw [Sr] at e;rcases pJ (PySem.mem_of_lookup e) with hm|⟨_,h2,_⟩
   ·rcases oj hm with hm|⟨h1,_⟩
    ·cases hm
    ·have q:=ok.uniq _ h1;rw [z] at q;cases q
   ·rw [Heap.size_push] at h2;exact Nat.le_of_succ_le h2
  ·show b≠jL.locals;rw [hL];exact Nat.ne_of_lt (T3 b hb).2
  ·have e:jL.cells.lookup y=some c:=e;rcases mem e with ⟨h1,_⟩|⟨h1,_⟩
   ·exact (T3 b hb).1.2.2.2.2.1 y c h1 z
   ·have h2:s.heap.objs.size+1≤b:=by rw [←z];exact h1
    exact absurd (Nat.lt_of_lt_of_le (T3 b hb).2 (Nat.le_of_succ_le h2)) (Nat.lt_irrefl _)
  ·rcases (T3 b hb).1.2.2.2.1 with z|z
   ·exact I.ok.Nb b o e z
   ·exact absurd (Nat.lt_of_lt_of_le (Heap.lt_size e) (Nat.le_trans I.ok.O4 z)) (Nat.lt_irrefl _)
  ·rcases List.mem_cons.mp (I.KD b z) with z|z
   ·exact (T3 b hb).1.2.1 z
   ·exact (T3 b hb).1.2.2.1 z
 refine ⟨okB,rfl,I.bare,Un.kept kp,⟨fun _=>none,?_,fun i y av e1 e2 e3=>?_⟩,fun y c e=>?_,?_,fun y c e=>?_,fun p hp=>?_,I.cZ.kept kp,by rw [tp];exact I.len⟩
 ·show Heap.Ns _ jL.locals _;rw [hL];exact Heap.Ns.keeps (Heap.Ns.new ..) fun b o e=>pushCells_keeps _ _ _ _ e
 ·obtain ⟨e2,lP⟩:=zo e2;have Wu:scope.names.lookup y=some .free∧(jL.kindOf y=some .cell∨jL.kindOf y=some .free):=by
   have key:∀k,jL.scope.names.lookup y=some k→k=.local∨k=.cell∨k=.free→scope.names.lookup y=some .free∧(jL.kindOf y=some .cell∨jL.kindOf y=some .free):=fun k hk MB=>by
    have Y2:=hk;rw [X2] at hk;obtain ⟨k',e,r⟩:=sQ hk;have no:¬(k'=.local∨k'=.cell):=fun hh=>by
     rcases ok.own _ (PySem.mem_of_lookup e) hh with e'|e'
     ·obtain ⟨p,hp,hpy⟩:=List.mem_map.mp e';have e3:=ok.ix p hp;have:p.1=y:=hpy;rw [this] at e3;exact lP (List.mem_map.mpr ⟨p,hp,Cu hN e3 e1⟩)
     ·exact e' (List.mem_of_getElem? e1)
    rcases r with rfl|⟨rfl,rfl⟩
    ·rcases MB with rfl|rfl|rfl
     ·exact absurd (.inl rfl) no
     ·exact absurd (.inr rfl) no
     ·exact ⟨e,.inr Y2⟩
    ·exact ⟨e,.inl Y2⟩
   have e3:T9 jL.scope y:=e3;rcases e3 with e3|e3|e3
   ·exact key _ e3 (.inl rfl)
   ·exact key _ e3 (.inr (.inl rfl))
   ·exact key _ e3 (.inr (.inr rfl))
  obtain ⟨m,hn,hl⟩:=I.loc;have XI:T9 X.env.scope y:=(ok.free _ (PySem.mem_of_lookup Wu.1) rfl).elim (fun k=>.inr (.inl k)) (fun k=>.inr (.inr k));obtain ⟨w,r,q⟩:=hl i y av e1 e2 XI;refine ⟨w,r,.inr ⟨Wu.2,?_⟩⟩;obtain ⟨c,h1,h2⟩:=look Wu.1;rcases q with ⟨k,_⟩|⟨_,c',e',z⟩
  ·have k:X.env.scope.names.lookup y=some .local:=k;rcases ok.free _ (PySem.mem_of_lookup Wu.1) rfl with k'|k'<;>rw [show X.env.scope.names.lookup y=_ from k'] at k<;>cases k
  ·rw [h2] at e';cases e';exact ⟨c,h1,z.keeps kp⟩
 ·have e:jL.cells.lookup y=some c:=e;rcases mem e with ⟨h1,_⟩|⟨_,z⟩
  ·obtain ⟨w,z⟩:=I.cell y c h1;exact ⟨w,z.keeps kp⟩
  ·exact ⟨_,z⟩
 ·show H jL.locals=none;rw [hL];exact I.cZ.fresh (Nat.le_refl _)
 ·have e:jL.cells.lookup y=some c:=e;rcases mem e with ⟨h1,_⟩|⟨h1,_⟩
  ·exact I.pH y c h1
  ·exact I.cZ.fresh (Nat.le_of_succ_le h1)
 ·exact absurd (show p∈([]:List (Addr×Obj))++[] from hp) (by simp)
theorem SF {E:Value→Shared→Prop} {D:Addr} {xs:List V} {y:V} {v:Value} {Q:Value→Shared→Prop} (I:Inv X pins σ H s) (hD:H D=some (.lst xs)) (hz:xs.length<sizeLine) (r:RelV y v)
  (h:∀s',Inv X pins σ (upd H D (.lst (xs++[y]))) s'→Q .none s'):wpAny (model X.prog X.w) X.A (call (.builtin "list.append") [.ref D,v]) Q E s:=by
 obtain ⟨Wo,bI,n,ri,e⟩:=I.cZ D _ hD;have hl:=ri.length;refine append_at (hsz:=by rw [List.size_toArray];omega) e fun h' sb K4=>?_;refine h { s with heap:=h' } (I.write (t':=s.toks) (by rw [hD];trivial) (.inl rfl) (fun b u hb q=>(sb.2 b hb).trans q) ⟨_,K4⟩ ⟨by rw [List.length_append];exact hz,bI++[v],n+1,ri.append (.cons r .nil),?_⟩);rw [K4];simp
def VJ (X:Cx) (ifs:List Expr) (t:TT):Prop :=
 ∀(pins:List (Addr×Obj)) (s:Shared) (σ:St) (H:Hp) (Q:Bool→Hp→Prop),Inv X pins σ H s→t σ H Q →
  wpAny (model X.prog X.w) X.A (forIn ifs true fun c r=>if r=true then do let ok←isTrue c X.env (eval c X.env);pure (ForInStep.yield ok) else pure (ForInStep.yield r)) (TP X pins σ Q) X.xe s
def SJ:TT:=fun _ H Q=>Q true H
theorem eY:VJ X [] SJ:=fun _ _ _ H _ I h=>wpAny_tests_nil ⟨H,I,h⟩
theorem lF {c:Expr} {t:TT} (h:PT X c t):VJ X [c] t:=fun pins s σ H Q I hw=>wpAny_tests_one (h pins s σ H Q I hw)
end
theorem Mi {α:Type} {t:Sem α} {Q Q':α→Shared→Prop} {M:Model} {A:Around} {E:Value→Shared→Prop} {s:Shared} (h:wpAny M A t Q (fun _ _=>False) s) (hQ:∀a s,Q a s→Q' a s):wpAny M A t Q' E s:=wpAny_mono h hQ fun _ _ z=>False.elim z
theorem FW {prog:Program} {w:World} {A:Around} {R:Result→Shared→Prop} {s:Shared} {elt target iter:Expr} {ifs:List Expr} {scope:Scope} {pos:Pos} {it acc:Value} {env:Env} (I:Nat→Shared→Prop)
  (turn:∀n s,I n s→wpAny (model prog w) A (pyNext it) (fun r s₁ =>match r with
   |none=>R (.ok .next) s₁
   |some v=>wpAny (model prog w) A (letOwnedTupleGo target it v) (fun _ s₁'=>wpAny (model prog w) A (assign target env v) (fun _ s₂ =>
     wpAny (model prog w) A (forIn ifs true fun c r=>if r=true then do let ok←isTrue c env (eval c env);pure (ForInStep.yield ok) else pure (ForInStep.yield r)) (fun ok s₃ =>
      if ok=true then wpAny (model prog w) A (eval elt env) (fun x s₄ =>
       wpAny (model prog w) A (call (.builtin "list.append") [acc,x]) (fun _ s₅ =>∃m,m<n∧I m s₅) (notedBy (model prog w) A env fun e s'=>R (.error e) s') s₄) (notedBy (model prog w) A env fun e s'=>R (.error e) s') s₃
      else ∃m,m<n∧I m s₃) (notedBy (model prog w) A env fun e s'=>R (.error e) s') s₂) (notedBy (model prog w) A env fun e s'=>R (.error e) s') s₁') (notedBy (model prog w) A env fun e s'=>R (.error e) s') s₁) (notedBy (model prog w) A env fun e s'=>R (.error e) s') s)
  (n:Nat) (h:I n s) :
  codeAny (model prog w) A (.compLoop (.ListComp elt [⟨target,iter,ifs,0⟩] scope pos) 0 it acc env) R s:=by
 refine codeAny_loop rfl I (fun n s hI=>?_) n h;show wpAny _ A ((compTurn (.ListComp elt [⟨target,iter,ifs,0⟩] scope pos) 0 it acc env).onRaise (fun x=>do noteFrame x env;theTreesLotGoes x)) _ _ s
 refine wpAny_noted ?_;rw [compTurn_list];refine wpAny_bind (wpAny_standAt (wpAny_bind (wpAny_mono (turn n s hI) (fun r s₁ h₁ =>?_) fun _ _ h'=>h')))
 cases r with
 |none=>exact wpAny_pure h₁
 |some v =>
  refine wpAny_bind (wpAny_mono h₁ (fun _ s₁' h₁'=>?_) fun _ _ h'=>h');refine wpAny_bind (wpAny_mono h₁' (fun _ s₂ h₂ =>wpAny_bind (wpAny_mono h₂ (fun ok s₃ h₃ =>?_) fun _ _ h'=>h')) fun _ _ h'=>h')
  cases ok with
  |false=>exact wpAny_pure ⟨rfl,h₃⟩
  |true =>
   exact wpAny_bind (wpAny_bind (wpAny_mono h₃ (fun x s₄ h₄ =>wpAny_bind (wpAny_mono h₄ (fun _ s₅ h₅ =>wpAny_pure (wpAny_pure ⟨rfl,h₅⟩)) fun _ _ h'=>h')) fun _ _ h'=>h'))
section
variable {X:Cx}
def T4 (wi:TI) (g:TG) (tt:TT) (te:TE) (vs:List Nat):TE:=fun σ H Q=>wi σ H fun J H1=>∀D,H1 D=none→∃W:Nat→Nat→Hp→Prop,(∃m,W 0 m (upd H1 D (.lst [])))∧∀i m H,W i m H →
 (J.stop i H∧Q (.ref D) H)∨(J.go i H∧∃Nx:Hp→Prop,(∀H',Nx H'→∃m',m'<m∧W (i+1) m' H')∧∀x H',J.JL i H x H'→g x (wipe σ vs) H' fun σ2 H2=>wipe σ2 vs=wipe σ vs∧tt σ2 H2 fun b H3 =>
  if b=true then te σ2 H3 fun y H4=>∃acc,H4 D=some (.lst acc)∧acc.length<sizeLine∧Nx (upd H4 D (.lst (acc++[y]))) else Nx H3)
theorem LB {pins:List (Addr×Obj)} {s:Shared} {σ:St} {H:Hp} {Q:VK} {elt tg iter:Expr} {ifs:List Expr} {scope:Scope} {own:List (Str×Nat)} {pos pos':Pos} {wi:TI} {g:TG} {tt:TT} {te:TE} {use:Option (Value→Sem Unit)} {Qf:Value→Shared→Prop}
  (hc:X.calm=true) (hN:X.N.Nodup) (I:Inv X pins σ H s) (hi:PI X tg iter wi) (ok:Jk X.N X.env.scope scope own)
  (hg:∀(s:Shared) (H:Hp) (C:Addr) (cl:List (Str×Addr)) (fp:List Addr),PG (X.Gq s H scope (compEnvC scope cl C X.env) fp) tg g) (ht:∀(s:Shared) (H:Hp) (C:Addr) (cl:List (Str×Addr)) (fp:List Addr),VJ (X.Gq s H scope (compEnvC scope cl C X.env) fp) ifs tt)
  (he:∀(s:Shared) (H:Hp) (C:Addr) (cl:List (Str×Addr)) (fp:List Addr),PE (X.Gq s H scope (compEnvC scope cl C X.env) fp) elt te) (hs:∀x,foldedSetIterable iter X.env x=pure x)
  (h:T4 wi g tt te (own.map (·.2)) σ H Q)
  (hRR:∀D C s' m H',Inv X pins σ H' s'→Q (.ref D) H'→s'.heap.Ns C m→zD X pins H' C→compPost (model X.prog X.w) X.A X.xe use Qf (.ref D) C (.ok .next) s') :
  wpAny (model X.prog X.w) X.A (comprehension (.ListComp elt [⟨tg,iter,ifs,0⟩] scope pos) scope X.env pos' (newList []) false (eval iter X.env) use) Qf X.xe s:=by
 have ED:∀y∈scope.names,y.2=.free→∃c,X.env.cells.lookup y.1=some c:=fun y hy e=>by
  rcases ok.free y hy e with k|k
  ·exact I.ok.has _ (.inl k)
  ·exact I.ok.has _ (.inr k)
 refine wpAny_comprehension_free (use:=use) rfl hs (JA ED) ok.kind (fun y hy e=>by rw [ok.uniq y hy,e])
  (fm (hi pins s σ H _ I h) fun xv s1 hx=>fm hx fun Xt s2 h2=>?_)
 obtain ⟨it,fp,tn,J,H2,e,I2,T,MW,f2,q⟩:=h2;subst e;refine wpAny_newObj_type (Ip ?_) (by show 0≤sizeLine;decide);generalize hD:s2.heap.objs.size=D;have hDn:H2 D=none:=I2.cZ.fresh (Nat.le_of_eq hD);obtain ⟨W,⟨m0,w0⟩,turn⟩:=q D hDn;generalize Zt:({ s2 with heap:=s2.heap.push { cls:= .type "list",data:= .seq ([]:List Value).toArray } }:Shared)=s3;have I3:Inv X pins σ (upd H2 D (.lst [])) s3:=by
  rw [←Zt];refine I2.laid (t':=s2.toks) (fun b o e=>Heap.get?_push_of_some _ e) (Nat.le_of_eq hD) ⟨Nat.zero_le _,[],0,.nil,?_⟩;rw [←hD];exact Heap.get?_push_size _ rfl
 have h3:s3.heap=s2.heap.push { cls:= .type "list",data:= .seq ([]:List Value).toArray }:=by rw [←Zt]
 have sz:∀b∈fp,b<s2.heap.objs.size:=fun b hb=>by
  obtain ⟨o,e,_⟩:=T.obj _ _ MW b hb;exact Heap.lt_size e
 have f3:∀b∈fp,zD X pins (upd H2 D (.lst [])) b∧b<s3.heap.objs.size:=fun b hb=>by
  have AK:=sz b hb;refine ⟨⟨?_,(f2 b hb).2⟩,by rw [h3,Heap.size_push];exact Nat.lt_succ_of_lt AK⟩;rw [aF (by rw [←hD];exact Nat.ne_of_lt AK)];exact (f2 b hb).1
 have Wq:tn 0 s3.heap:=T.keep _ _ _ MW fun b _ o e=>by rw [h3];exact Heap.get?_push_of_some _ e
 have I4:=IU I3 ok hN f3;have pg:=hg s3 (upd H2 D (.lst [])) s3.heap.objs.size (cellsFrom (s3.heap.objs.size+1) scope.names (dY X.env.cells scope.names [])) fp;have pt:=ht s3 (upd H2 D (.lst [])) s3.heap.objs.size (cellsFrom (s3.heap.objs.size+1) scope.names (dY X.env.cells scope.names [])) fp;have pe:=he s3 (upd H2 D (.lst [])) s3.heap.objs.size (cellsFrom (s3.heap.objs.size+1) scope.names (dY X.env.cells scope.names [])) fp;show codeAny _ _ (.compStart (.ListComp elt [⟨tg,iter,ifs,0⟩] scope pos) 0 (.ref it) (.ref D) (compEnvC scope (cellsFrom (s3.heap.objs.size+1) scope.names (dY X.env.cells scope.names [])) s3.heap.objs.size X.env)) (compPost (model X.prog X.w) X.A X.xe use Qf (.ref D) s3.heap.objs.size) { s3 with heap:=pushCells (s3.heap.push { cls:= .type "dict",data:= .dict #[] }) scope.names };have YX:∀b∈fp,(upd H2 D (.lst [])) b=none:=fun b hb=>(f3 b hb).1.1;generalize hce:compEnvC scope (cellsFrom (s3.heap.objs.size+1) scope.names (dY X.env.cells scope.names [])) s3.heap.objs.size X.env=ce at I4 pg pt pe ⊢;have cL:ce.locals=s3.heap.objs.size:=by subst hce;rfl
 generalize hH3:upd H2 D (.lst [])=H3 at I3 I4 pg pt pe w0 YX f3;generalize hs4:({ s3 with heap:=pushCells (s3.heap.push { cls:= .type "dict",data:= .dict #[] }) scope.names }:Shared)=s4 at I4 ⊢;have ZT:tn 0 s4.heap:=T.keep _ _ _ Wq fun b _ o e=>by rw [←hs4];exact pushCells_keeps _ _ _ _ (Heap.get?_push_of_some _ e)
 have KW:∀{σ':St} {H':Hp} {s':Shared},Inv (X.Gq s3 H3 scope ce fp) [] σ' H' s'→(∀b∈fp,H' b=none)→∀b∈fp,zD (X.Gq s3 H3 scope ce fp) [] H' b:=fun {σ' H' s'} I' hn b hb =>
  ⟨hn b hb,(I'.ok.WI b hb).1,I'.ok.NC b hb,.inl hb,fun x c e=>(I'.ok.WI b hb).2 x c e,fun p hp=>absurd (show p∈([]:List (Addr×Obj))++[] from hp) (by simp)⟩
 have loop:codeAny (model X.prog X.w) X.A (.compLoop (.ListComp elt [⟨tg,iter,ifs,0⟩] scope pos) 0 (.ref it) (.ref D) ce) (compPost (model X.prog X.w) X.A X.xe use Qf (.ref D) s3.heap.objs.size) s4:=by
  refine FW (fun n s'=>∃i H',Inv (X.Gq s3 H3 scope ce fp) [] (wipe σ (own.map (·.2))) H' s'∧tn i s'.heap∧(∀b∈fp,H' b=none)∧W i n H') ?_ m0 ⟨0,H3,I4,ZT,YX,w0⟩;rintro n s5 ⟨i,H5,I5,T5,n5,w5⟩;rcases turn i n H5 w5 with ⟨stop,qq⟩|⟨go,Nx,hNx,step⟩
  ·have td:=T.done (X.Gq s3 H3 scope ce fp) rfl rfl rfl hc i [] s5 _ H5 (fun _ _=>False) I5 (KW I5 n5) T5 stop;refine Mi td fun r s6 ⟨hr,I6⟩=>?_;subst hr;have I7:Inv X pins σ H5 s6:=I3.VX (ch:=fp) I6.os I6.base I6.cZ I6.bare fun b hb=>⟨(f3 b hb).1.2.2.2.1,(f3 b hb).1.2.1,(f3 b hb).1.2.2.2.2.1,(f3 b hb).1.2.2.2.2.2⟩;have nC:H5 s3.heap.objs.size=none:=by
    have z:H5 ce.locals=none:=I6.free;rw [cL] at z;exact z
   obtain ⟨m,hn,_⟩:=I6.loc;have hn:s6.heap.Ns ce.locals m:=hn;rw [cL] at hn;exact hRR D s3.heap.objs.size s6 m H5 I7 qq hn (I3.Fw (Nat.le_refl _) nC)
  ·have ti:=T.item (X.Gq s3 H3 scope ce fp) rfl rfl rfl hc i [] s5 _ H5 (fun _ _=>False) I5 (KW I5 n5) T5 go;refine Mi ti fun r s6 z1=>?_;obtain ⟨u,hr,h6⟩:=z1;subst hr;refine Mi h6 fun _ s7 z1=>?_;obtain ⟨x,H7,I7,r7,y7,XN,n7⟩:=z1;have I7':=I7.pinned (KW I7 n7) (T.obj _ _ XN);refine Mi (pg _ s7 _ H7 x u _ I7' r7 (step x H7 y7)) fun _ s8 z1=>?_;obtain ⟨σ8,H8,I8,Zy,q8⟩:=z1;refine Mi (pt _ s8 σ8 H8 _ I8 q8) fun b s9 z1=>?_;obtain ⟨H9,I9,q9⟩:=z1;have fin:∀{s':Shared} {H':Hp},Inv (X.Gq s3 H3 scope ce fp) ([]++C6 fp s7.heap) σ8 H' s'→Nx H'→∃m,m<n∧∃i H',Inv (X.Gq s3 H3 scope ce fp) [] (wipe σ (own.map (·.2))) H' s'∧tn i s'.heap∧(∀b∈fp,H' b=none)∧W i m H':=fun {s' H'} I' nx=>by
    obtain ⟨m',hm,w'⟩:=hNx H' nx;have Wf:∀b∈fp,∀o,s7.heap.get? b=some o→s'.heap.get? b=some o∧H' b=none:=fun b hb o e =>
     let z:=I'.pin (b,o) (List.mem_append_right _ (List.mem_append_right _ (vk hb e)))
     ⟨z.1,z.2.1⟩
    have hl:(wipe σ (own.map (·.2))).length=σ8.length:=by rw [←Zy,tp]
    refine ⟨m',hm,i+1,H',(I'.wX (pins:=[])).weak hl (fun j v e=>?_),T.keep _ _ _ XN fun b hb o e=>(Wf b hb o e).1,fun b hb=>?_,w'⟩
    ·rw [←Zy] at e;exact (zo e).1
    ·obtain ⟨o,e,_⟩:=T.obj _ _ XN b hb;exact (Wf b hb o e).2
   cases b with
   |false =>
    simp only [Bool.false_eq_true,if_false] at q9 ⊢;exact fin I9 q9
   |true =>
    simp only [if_true] at q9 ⊢;refine Mi (pe _ s9 σ8 H9 _ I9 q9) fun z s10 z1=>?_;obtain ⟨yv,H10,I10,r10,acc,Yf,Ye,nx⟩:=z1;exact SF (X:=X.Gq s3 H3 scope ce fp) I10 Yf Ye r10 fun s11 I11=>fin I11 nx
 exact codeAny_compStart_list loop (T.self X.A 0 _ _ _ ZT loop)
theorem i7 {elt tg iter:Expr} {ifs:List Expr} {scope:Scope} {own:List (Str×Nat)} {pos:Pos} {wi:TI} {g:TG} {tt:TT} {te:TE} (hc:X.calm=true) (hN:X.N.Nodup) (hi:PI X tg iter wi) (ok:Jk X.N X.env.scope scope own)
  (hg:∀(s:Shared) (H:Hp) (C:Addr) (cl:List (Str×Addr)) (fp:List Addr),PG (X.Gq s H scope (compEnvC scope cl C X.env) fp) tg g) (ht:∀(s:Shared) (H:Hp) (C:Addr) (cl:List (Str×Addr)) (fp:List Addr),VJ (X.Gq s H scope (compEnvC scope cl C X.env) fp) ifs tt)
  (he:∀(s:Shared) (H:Hp) (C:Addr) (cl:List (Str×Addr)) (fp:List Addr),PE (X.Gq s H scope (compEnvC scope cl C X.env) fp) elt te) (hs:∀x,foldedSetIterable iter X.env x=pure x:=by intro _;rfl) :
  PE X (.ListComp elt [⟨tg,iter,ifs,0⟩] scope pos) (T4 wi g tt te (own.map (·.2))):=by
 intro pins s σ H Q I h;rw [eval_ListComp];refine LB hc hN I hi ok hg ht he hs h fun D C s' m H' I' q hn f=>⟨m,hn,fun MV sb=>?_⟩;obtain ⟨f0,f1,f2,f3,f4,f5⟩:=f;exact ⟨.ref D,H',I'.turned (t':=s'.toks) (fun b o hb e=>(sb.2 b hb).trans e) f0 f1 f3 f4 f5,rfl,q⟩
theorem nL {i:Nat} {y:Str} {py:Pos} {elt tg iter:Expr} {ifs:List Expr} {scope:Scope} {own:List (Str×Nat)} {pos UI:Pos} {wi:TI} {g:TG} {tt:TT} {te:TE} (hc:X.calm=true) (hN:X.N.Nodup) (hy:X.N[i]?=some y) (ZL:X.env.scope.names.lookup y=some .local)
  (hsw:swapsWith (.ListComp elt [⟨tg,iter,ifs,0⟩] scope pos) (some (.Name y py)) UI.line X.env=pure true) (hi:PI X tg iter wi) (ok:Jk X.N X.env.scope scope own)
  (hg:∀(s:Shared) (H:Hp) (C:Addr) (cl:List (Str×Addr)) (fp:List Addr),PG (X.Gq s H scope (compEnvC scope cl C X.env) fp) tg g) (ht:∀(s:Shared) (H:Hp) (C:Addr) (cl:List (Str×Addr)) (fp:List Addr),VJ (X.Gq s H scope (compEnvC scope cl C X.env) fp) ifs tt)
  (he:∀(s:Shared) (H:Hp) (C:Addr) (cl:List (Str×Addr)) (fp:List Addr),PE (X.Gq s H scope (compEnvC scope cl C X.env) fp) elt te) (hs:∀x,foldedSetIterable iter X.env x=pure x:=by intro _;rfl) :
  PS X (.Assign [.Name y py] (.ListComp elt [⟨tg,iter,ifs,0⟩] scope pos) UI) (Pt (T4 wi g tt te (own.map (·.2))) (Em i)):=by
 intro pins s σ H D I h;rw [exec_Assign_Name_used _ _ _ _ hsw];refine wpAny_bind (wpAny_standAt (wpAny_bind ?_));show wpAny _ X.A (do let _←comprehension (.ListComp elt [⟨tg,iter,ifs,0⟩] scope pos) scope X.env (firstIterPos [⟨tg,iter,ifs,0⟩] pos) (newList []) false (eval iter X.env) (some (assign (.Name y py) X.env))) _ _ s
 have h:T4 wi g tt te (own.map (·.2)) σ H (fun x H1=>Em i x σ H1 D.nx):=h;refine wpAny_bind (fm (LB (Qf:=fun _ s'=>SP X pins D .next s') hc hN I hi ok hg ht he hs h fun L C s' m H' I' q hn f=>?_) fun _ s' hq=>wpAny_pure (wpAny_pure hq));show wpAny _ _ (assign (.Name y py) X.env (.ref L)) _ _ _;refine wpAny_assign_Name (Eo (v:=V.ref L) I' hN hy (.inl ZL) rfl (fun s2 I2 z1=>?_) (.inr ZL));obtain ⟨a,sb,ha⟩:=z1;obtain ⟨f0,f1,f2,f3,f4,f5⟩:=f;have haC:C≠a:=by
  rcases ha with z|z
  ·rw [z];exact f1
  ·exact fun e=>f4 y a z e.symm
 refine ⟨m,hn.sameBut sb haC,fun h3 sb3=>?_⟩;exact ⟨_,H',I2.turned (t':=s2.toks) (fun b o hb e=>(sb3.2 b hb).trans e) f0 f1 f3 f4 f5,q⟩
theorem ql {elt:Expr} {gs:List Comprehension} {scope:Scope} {pos py:Pos} {y:Str} {l:Nat} {env:Env} (hk:env.scope.kind=.function) (hy:env.scope.names.lookup y=some .local) (hl:(py.line==pos.line)=true)
  (ha:(scope.names.any fun (n,k)=>n==y&&(k== .local||k== .cell))=false):swapsWith (.ListComp elt gs scope pos) (some (.Name y py)) l env=pure true:=by
 have ky:env.kindOf y=some .local:=hy;have hb:env.blockKind=.function:=by unfold Env.blockKind;rw [hk];rfl
 unfold swapsWith;simp only [hb,ky,ha,Expr.pos,hl];rfl
end
def jq (N:List Str) (sc scope:Scope) (own:List (Str×Nat)):Bool :=
 (match scope.kind with| .function=>true|_=>false)&&(scope.names.all fun y=>decide (scope.names.lookup y.1=some y.2))&&(own.all fun p=>decide (N[p.2]?=some p.1)) &&
  (scope.names.all fun y=>match y.2 with
   | .free=>(match sc.names.lookup y.1 with|some .cell=>true|some .free=>true|_=>false)
   | .local=>decide (y.1∈own.map (·.1))||decide (y.1∉N)
   | .cell=>decide (y.1∈own.map (·.1))||decide (y.1∉N)
   |_=>true)
theorem bL {N:List Str} {sc scope:Scope} {own:List (Str×Nat)} (h:jq N sc scope own=true):Jk N sc scope own:=by
 unfold jq at h;simp only [Bool.and_eq_true,List.all_eq_true,decide_eq_true_eq] at h;obtain ⟨⟨⟨h1,h2⟩,h3⟩,h4⟩:=h;refine ⟨?_,h2,h3,fun y hy e=>?_,fun y hy e=>?_⟩
 ·split at h1
  ·assumption
  ·cases h1
 ·have q:=h4 y hy;simp only [e] at q;split at q<;>first|exact .inl (by assumption)|exact .inr (by assumption)|cases q
 ·have q:=h4 y hy;rcases e with e|e<;>(simp only [e,Bool.or_eq_true,decide_eq_true_eq] at q;exact q)
end L2
namespace L2
open PySem PySem.Spec PyProof.Rows
section
variable {X:Cx} {pins:List (Addr×Obj)} {σ:St} {H:Hp} {s:Shared} {a:Addr} {y v:V} {u r:Value} {o:Option V} {A:Around} {E:Value→Shared→Prop}
theorem Inv.big (I:Inv X pins σ H s):sysModules<s.heap.objs.size:=by
 have h:mainGlobals<s.heap.objs.size:=(I.mod.glob.keeps I.bk).lt;exact Nat.lt_trans (by decide) h
theorem Pp {h':Heap} {t':Nat} {ob:HO} (I:Inv X pins σ H s) (mu:Rz (H a)) (hs:Heap.SameBut a s.heap h') (he:∃q,h'.get? a=some q) (new:gY X.prog X.w (upd H a ob) h' a ob) :
  Inv X pins σ (upd H a ob) { s with heap:=h',toks:=t' } :=
 I.write (x:=a) (e:=a) mu (.inl rfl) (fun b q hb z=>(hs.2 b hb).trans z) he new
end
def Uw (i:Expr):Prop:=∀ov iv,subscripted i false ov iv=operate [ov,iv] (getItem ov iv)
theorem QA {prog:Program} {w:World} {A:Around} {E:Value→Shared→Prop} {s:Shared} {env:Env} {value slice:Expr} {pos:Pos} {T id:String} {Q:Value→Shared→Prop}
  (hl:typeLookup (.type T) "__getitem__"=pure (some (.builtin id))) (hs:Uw slice)
  (h:wpAny (model prog w) A (eval value env) (fun o s₁ =>wpAny (model prog w) A (eval slice env) (fun i s₂ =>s₂.TypeIs o T∧wpAny (model prog w) A (getItem o i) Q E s₂) E s₁) E s) :
  wpAny (model prog w) A (eval (.Subscript value slice pos) env) Q E s:=by
 refine Subscript_ (wpAny_mono h (fun o s₁ h₁ =>wpAny_mono h₁ (fun i s₂ h₂ =>?_) fun _ _ x=>x) fun _ _ x=>x);obtain ⟨hT,h₂⟩:=h₂;unfold subscriptTail;refine wpAny_bind ?_;rw [getitemInPython_of_ne hT.not_modules];refine wpAny_bind (wpAny_specialOf hT hl ?_);have fin:wpAny (model prog w) A (subscripted slice false o i) (fun r s₃ =>wpAny (model prog w) A (letTemporaryGo value o r >>= fun _=>pure r) Q E s₃) E s₂ :=by
  rw [hs o i];exact wpAny_operating (wpAny_mono h₂ (fun r s₃ h₃ =>wpAny_bind (wpAny_letTemporaryGo (wpAny_pure h₃))) fun _ _ x=>x)
 first
  |exact wpAny_pure (wpAny_bind fin)
  |exact wpAny_bind (wpAny_pure (wpAny_bind fin))
  |exact wpAny_bind fin
structure M1 (X:Cx) (o:Expr) (m:Str) (apos:Pos) (e:Expr) (oT:Pos):Prop where
 base:attributeBase o m X.env (eval o X.env)=eval o X.env
 few:((backTo oT (starEach [e] X.env)).all (fun x=> !x.1)&&(backToKw oT (keywordEach [] X.env)).all (fun x=>x.1.isSome)
  &&decide (([e]:List Expr).length+([]:List Keyword).length+(if ([]:List Keyword).isEmpty then 0 else 1)<30))=true
 line:(apos.endLine==oT.line)=true
 trees:backTo oT (starEach [e] X.env)=[(false,eval e X.env)]
structure M2 (X:Cx) (o:Expr) (m:Str) (apos:Pos) (e f:Expr) (oT:Pos):Prop where
 base:attributeBase o m X.env (eval o X.env)=eval o X.env
 few:((backTo oT (starEach [e,f] X.env)).all (fun x=> !x.1)&&(backToKw oT (keywordEach [] X.env)).all (fun x=>x.1.isSome)
  &&decide (([e,f]:List Expr).length+([]:List Keyword).length+(if ([]:List Keyword).isEmpty then 0 else 1)<30))=true
 line:(apos.endLine==oT.line)=true
 trees:backTo oT (starEach [e,f] X.env)=[(false,eval e X.env),(false,eval f X.env)]
end L2
namespace L2
open PySem PySem.Spec PyProof.Rows
section
variable {X:Cx} {pins:List (Addr×Obj)} {σ:St} {H:Hp} {s:Shared} {h':Heap}
theorem Inv.PJ {t':Nat} {ch:List Addr} (I:Inv X pins σ H s) (k:∀b o,b∉ch→s.heap.get? b=some o→h'.get? b=some o) (hf:∀b∈ch,zD X pins H b):Inv X pins σ H { s with heap:=h',toks:=t' }:=by
 have Q6:∀b u,H b=some u→b∉ch:=fun b u e z=>by
  have q:=(hf b z).1;rw [q] at e;cases e
 refine I.step (g':=s.gens) (d':=s.drawn) (ch:=ch) (fun b hb=>⟨(hf b hb).2.2.2.1,(hf b hb).2.1,(hf b hb).2.2.2.2.1,(hf b hb).2.2.2.2.2⟩) (fun b o _ _ hc e _=>k b o hc e) (fun b o _ _ hc e _=>⟨o.slots,k b o hc e⟩)
  (fun _ _ _ _ n=>n) (fun b o hc e=>⟨o,k b o hc e⟩) (fun _ _ e=>e) (fun _ _ _ e=>e) (fun b ps e=>⟨#[],by rw [e];simp⟩) (fun m hm=>?_) (fun b u e=>?_) I.bare
 ·obtain ⟨o,es,ep,ho,r⟩:=hm;exact ⟨o,es,ep,k _ o (fun z=>(hf _ z).2.1 rfl) ho,r⟩
 ·refine (I.cZ b u e).DX (fun c v hc q=>k c v ?_ q) (fun _ q=>q) fun _ _ q=>q;rcases hc with z|z
  ·rw [z];exact Q6 b u e
  ·exact Q6 c _ z
theorem Inv.zi {t':Nat} {ch:List Addr} {T:Addr} {ob:HO} (I:Inv X pins σ H s) (k:∀b o,b∉ch→s.heap.get? b=some o→h'.get? b=some o) (hf:∀b∈ch,zD X pins H b) (hT:s.heap.objs.size≤T)
  (new:gY X.prog X.w (upd H T ob) h' T ob):Inv X pins σ (upd H T ob) { s with heap:=h',toks:=t' }:=by
 have hn:H T=none:=I.cZ.fresh hT;have Q6:∀b u,H b=some u→b∉ch:=fun b u e z=>by
  have q:=(hf b z).1;rw [q] at e;cases e
 refine I.step (g':=s.gens) (d':=s.drawn) (ch:=ch) (fun b hb=>⟨(hf b hb).2.2.2.1,(hf b hb).2.1,(hf b hb).2.2.2.2.1,(hf b hb).2.2.2.2.2⟩) (fun b o _ _ hc e _=>k b o hc e) (fun b o _ _ hc e _=>⟨o.slots,k b o hc e⟩)
  (fun b o _ e n=>?_) (fun b o hc e=>⟨o,k b o hc e⟩) (fun b xs e=>?_) (fun b o u e=>?_) (fun b ps e=>⟨#[],?_⟩) (fun m hm=>?_) (fun b u e=>?_) I.bare
 ·rw [aF (Nat.ne_of_lt (Nat.lt_of_lt_of_le (Heap.lt_size e) hT))];exact n
 ·rw [aF (aC e hn)];exact e
 ·rw [aF (aC e hn)];exact e
 ·rw [aF (aC e hn),e];simp
 ·obtain ⟨o,es,ep,ho,r⟩:=hm;exact ⟨o,es,ep,k _ o (fun z=>(hf _ z).2.1 rfl) ho,r⟩
 ·by_cases hb:b=T
  ·subst hb;rw [aA] at e
   cases e;exact new
  ·rw [aF hb] at e;refine (I.cZ b u e).DX (fun c v hc q=>k c v ?_ q) (fun c q=>by rw [aF (aC q hn)];exact q) fun c xs q=>by rw [aF (aC q hn)];exact q
   rcases hc with z|z
   ·rw [z];exact Q6 b u e
   ·exact Q6 c _ z
theorem Inv.lock {d:Addr} {u:HO} (I:Inv X pins σ H s) (h:H d=some u) (mu:Rz (some u)):∃od,Inv X pins σ (upd H d (.sg od u)) s:=by
 have x:=I.cZ d u h;have ex:∃od,s.heap.get? d=some od:=by
  cases u with
  |lst xs=>obtain ⟨_,_,_,_,e⟩:=x;exact ⟨_,e⟩
  |dK FJ=>obtain ⟨_,_,_,_,o,_,_,e,_⟩:=x;exact ⟨o,e⟩
  |dT FJ=>obtain ⟨_,_,_,_,o,_,_,e,_⟩:=x;exact ⟨o,e⟩
  |set S n=>obtain ⟨o,_,_,_,e,_⟩:=x;exact ⟨o,e⟩
  |ins C dx fs=>obtain ⟨_,_,_,e,_⟩:=x;exact ⟨_,e⟩
  |ext φ=>obtain ⟨_,⟨_,e⟩,_⟩:=x;exact ⟨_,e⟩
  |_=>exact False.elim mu
 obtain ⟨od,e⟩:=ex;have new:gY X.prog X.w (upd H d (.sg od u)) s.heap d (.sg od u):=by
  refine ⟨e,x.DX (fun b v _ q=>q) (fun b q=>?_) fun b xs q=>?_⟩
  ·rw [aF (fun z=>by rw [z,h] at q;cases q;exact mu)];exact q
  ·rw [aF (fun z=>by rw [z,h] at q;cases q;exact mu)];exact q
 exact ⟨od,I.write (x:=d) (e:=d) (t':=s.toks) (h':=s.heap) (by rw [h];exact mu) (.inl rfl) (fun b v _ q=>q) ⟨od,e⟩ new⟩
theorem Inv.Vn {d:Addr} {u:HO} (I:Inv X pins σ H s) (h:H d=some u) (mu:Rz (some u)):∀o' u',X.SU d≠some (.sg o' u'):=fun o' u' e=>by
 have q:=I.base.C7 d o' u' e;rw [h] at q
 cases q;exact mu
theorem Inv.unlock {d:Addr} {od:Obj} {u:HO} (I:Inv X pins σ H s) (h:H d=some (.sg od u)) (hn:∀o' u',X.SU d≠some (.sg o' u')):Inv X pins σ (upd H d u) s:=by
 have Ul:∀b o,H b=some o→(∀o' u',o≠ .sg o' u')→b≠d:=fun b o e lP z=>by
  rw [z,h] at e
  cases e;exact lP _ _ rfl
 have neN:∀b,H b=none→b≠d:=fun b e z=>by rw [z,h] at e;cases e
 refine ⟨I.ok,I.os,I.bare,⟨I.base.keep,I.base.slot,fun b o e n hx=>?_,I.base.there,fun b xs e=>?_,fun b o x e=>?_,fun b ps e=>?_⟩,I.loc,I.cell,?_,fun x c e=>?_,fun p hp=>?_,fun b o e=>?_,I.len⟩
 ·rw [aF (neN b (I.base.free b o e n hx))];exact I.base.free b o e n hx
 ·have q:=I.base.Fu b xs e;rw [aF (Ul b _ q (fun _ _ z=>nomatch z))];exact q
 ·have q:=I.base.C7 b o x e;rw [aF (fun z=>by rw [z] at e;exact hn _ _ e)];exact q
 ·obtain ⟨m,q⟩:=I.base.GD b ps e;exact ⟨m,by rw [aF (Ul b _ q (fun _ _ z=>nomatch z))];exact q⟩
 ·rw [aF (neN _ I.free)];exact I.free
 ·rw [aF (neN c (I.pH x c e))];exact I.pH x c e
 ·obtain ⟨e,n,r⟩:=I.pin p hp;exact ⟨e,by rw [aF (neN _ n)];exact n,r⟩
 ·by_cases hb:b=d
  ·rw [hb,aA] at e
   cases e;rw [hb];obtain ⟨_,x⟩:=I.cZ d _ h;exact x.DX (fun c v _ q=>q) (fun c q=>by rw [aF (Ul c _ q (fun _ _ z=>nomatch z))];exact q) fun c xs q=>by rw [aF (Ul c _ q (fun _ _ z=>nomatch z))];exact q
  ·rw [aF hb] at e;exact (I.cZ b o e).DX (fun c v _ q=>q) (fun c q=>by rw [aF (Ul c _ q (fun _ _ z=>nomatch z))];exact q) fun c xs q=>by rw [aF (Ul c _ q (fun _ _ z=>nomatch z))];exact q
end
def O1 (t:TE):TE:=fun σ H Q=>∃d u,H d=some u∧Rz (some u)∧∀od,t σ (upd H d (.sg od u)) fun v H'=>H' d=some (.sg od u)∧Q v (upd H' d u)
section
variable {X:Cx}
theorem Qy {e:Expr} {t:TE} (h:PE X e t):PE X e (O1 t):=by
 intro pins s σ H Q I hw;obtain ⟨d,u,hd,mu,hw⟩:=hw;obtain ⟨od,I1⟩:=I.lock hd mu;refine fm (h pins s σ _ _ I1 (hw od)) fun v s1 z1=>?_;obtain ⟨x,H1,I2,r,e2,q⟩:=z1;exact ⟨x,_,I2.unlock e2 (I.Vn hd mu),r,q⟩
theorem OR {tg:Expr} {pins:List (Addr×Obj)} {σ:St} {H:Hp} {s:Shared} {R:It→Hp→Prop} {J:It} {tn:Nat→Heap→Prop} {tk:Nat} (I:Inv X pins σ H s) (o:Obj)
  (T:Turn X.prog X.w X.K tg J [s.heap.objs.size] s.heap.objs.size tn) (st:tn 0 (s.heap.push o)) (q:R J H):Xi X pins σ tg R (.ref s.heap.objs.size) { s with heap:=s.heap.push o,toks:=tk }:=by
 refine ⟨s.heap.objs.size,[s.heap.objs.size],tn,J,H,rfl,I.kept fun b ob e=>Heap.get?_push_of_some _ e,T,st,fun b hb=>?_,q⟩;have e:b=s.heap.objs.size:=by simpa using hb
 subst e;exact I.Fw (Nat.le_refl _) (I.cZ.fresh (Nat.le_refl _))
end
def Ww (x:Str):It:=⟨fun i _=>i<x.cps.size,fun i H v H'=>H'=H∧∃c,x.cps[i]?=some c∧v=.str ⟨#[c]⟩,fun i _=>x.cps.size≤i⟩
theorem Il {P:Program} {w:World} {K:PySem.W.Frag} {tg:Expr} (it:Addr) (x:Str) (t:Tok) (ty:String) (Uj:ty="str_ascii_iterator"∨ty="str_iterator") :
  Turn P w K tg (Ww x) [it] it (fun i h=>h.IsStrIter it ty x t i) where
 mem:=by simp
 obj:=fun i h st b hb=>by
  have e:b=it:=by simpa using hb
  subst e;obtain ⟨o,e,c,d⟩:=st;exact ⟨o,e,fun v z=>by rw [d] at z;cases z⟩
 keep:=fun i h h' st k=>let ⟨o,ho,r⟩:=st;⟨o,k it (by simp) o ho,r⟩
 item:=by
  intro X hP hw hK hc i pins s σ H E I hf st hg;subst hP hw hK;obtain ⟨f0,f1,f2,f3,f4,f5⟩:=hf it (by simp);have W:Walks X.prog X.w X.A it [it] [it] x.cps.size (SignAt x) (fun i h=>h.IsStrIter it ty x t i):=by
   rcases Uj with e|e
   ·rw [e];exact Walks.strAscii (I.ok.hd hc) it x t
   ·rw [e];exact Walks.strWide (I.ok.hd hc) it x t
  have M8:["enumerate","zip","dict_itemiterator","dict_reverseitemiterator","odict_iterator","itertools.zip_longest","itertools.pairwise"].contains ty=false:=by
   rcases Uj with e|e
   ·rw [e];decide
   ·rw [e];decide
  refine W.item i s _ _ hg st fun v h' tk hv uK kk=>?_;obtain ⟨c,u,hcx,rfl⟩:=hv;have I1:Inv X pins σ H { s with heap:=h',toks:=tk }:=I.turned (fun b o hb e=>kk b o (by simpa using hb) e) f0 f1 f3 f4 f5;obtain ⟨oi,e,cc,dd⟩:=id uK;exact ⟨_,rfl,Lm (s:={ s with heap:=h',toks:=tk }) e cc dd M8 ⟨.str ⟨#[c]⟩,H,I1,⟨u,rfl⟩,⟨rfl,c,hcx,rfl⟩,uK,fun b hb=>(hf b hb).1⟩⟩
 done:=by
  intro X hP hw hK hc i pins s σ H E I hf st hg;subst hP hw hK;obtain ⟨f0,f1,f2,f3,f4,f5⟩:=hf it (by simp);have hx:x.cps[i]?=none:=Array.getElem?_eq_none hg;rcases Uj with e|e
  ·rw [e] at st;exact wpAny_pyNext_ascii_end (I.ok.hd hc) st hx fun h' eb=>⟨rfl,I.turned (t':=s.toks) (fun b o hb e=>eb b o hb e) f0 f1 f3 f4 f5⟩
  ·rw [e] at st;exact wpAny_pyNext_wide_end (I.ok.hd hc) st hx fun h' eb=>⟨rfl,I.turned (t':=s.toks) (fun b o hb e=>eb b o hb e) f0 f1 f3 f4 f5⟩
 self:=fun A i s Q E st h=>by
  rcases Uj with e|e
  ·rw [e] at st;exact wpAny_pyIter_striter_ascii st h
  ·rw [e] at st;exact wpAny_pyIter_striter_wide st h
def U9 (te:TE):TI:=fun σ H R=>te σ H fun v H1=>∃x,v=.str x∧R (Ww x) H1
theorem Tx {X:Cx} {tg e:Expr} {te:TE} (he:PE X e te):PI X tg e (U9 te):=by
 intro pins s σ H R I h;refine fm (he pins s σ H _ I h) fun v s1 z1=>?_;obtain ⟨y,H1,I1,r1,x,ex,q⟩:=z1;subst ex;obtain ⟨t,rfl⟩:=r1
 cases ha:x.cps.all (· <128)
 ·exact wpAny_pyIter_wide ha (OR (tk:=s1.toks) I1 _ (Il _ x t "str_iterator" (.inr rfl)) ⟨_,Heap.get?_push_size _ rfl,rfl,rfl⟩ q)
 ·exact wpAny_pyIter_ascii ha (OR (tk:=s1.toks) I1 _ (Il _ x t "str_ascii_iterator" (.inl rfl)) ⟨_,Heap.get?_push_size _ rfl,rfl,rfl⟩ q)
def WZ (K:PySem.W.Frag) (a:Addr):It :=
 ⟨fun i H=>∃(xs:List V) (x:V),kd K H a xs∧xs[i]?=some x,fun i H v H'=>∃T x,v=.ref T∧H T=none∧H'=upd H T (.tup [.int (i:Nat),x])∧∀xs,kd K H a xs→xs[i]?=some x,fun i H=>∃xs:List V,kd K H a xs∧xs.length≤i⟩
theorem MT {P:Program} {w:World} {K:PySem.W.Frag} {elts:List Expr} {kk:Nat} {wx:Pos} (a e it:Addr) :
  Turn P w K (.Tuple elts kk wx) (WZ K a) [e,it] e (fun i h=>(∃old,IsEnum h e it ((i:Nat):Int) old)∧h.IsListIter it a i∧e≠it) where
 mem:=by simp
 obj:=fun i h st b hb=>by
  obtain ⟨⟨old,he⟩,⟨o,ho,hc,hd⟩,_⟩:=st;have e':b=e∨b=it:=by simpa using hb
  rcases e' with z|z
  ·rw [z];exact ⟨_,he,fun v q=>nomatch q⟩
  ·rw [z];exact ⟨o,ho,fun v q=>by rw [hd] at q;cases q⟩
 keep:=fun i h h' st k=>let ⟨⟨old,he⟩,hi,lP⟩:=st;⟨⟨old,k e (by simp) _ he⟩,hi.at fun o q=>k it (by simp) o q,lP⟩
 item:=by
  intro X hP hw hK hc i pins s σ H E I hf st hg;subst hP hw hK;obtain ⟨⟨old,he⟩,hit,lP⟩:=st;obtain ⟨xs,x,hq,hx⟩:=hg;obtain ⟨bI,rv,p,hz⟩:=I.list hq;obtain ⟨u,hu,ru⟩:=rv.get hx;have Wi:e<s.heap.objs.size:=Heap.lt_size he;have WB:it<s.heap.objs.size:=by obtain ⟨_,q,_⟩:=hit;exact Heap.lt_size q
  refine wpAny_pyNext_enum_item he hit p.isList (x:=u) (by simpa using hu) lP fun h' ho RF hT hsz hk=>?_;refine ⟨_,rfl,wpAny_letOwnedTupleGo_enum (s:={ s with heap:=h',toks:=s.toks+1 }) ho fun MV Yp sb=>?_⟩;have Wg:MV.get? s.heap.objs.size=some { cls:= .type "tuple",data:= .seq #[.int i s.toks,u] }:=(sb.2 _ (Nat.ne_of_gt Wi)).trans hT;have new:gY X.prog X.w (upd H s.heap.objs.size (.tup [.int (i:Nat),x])) MV s.heap.objs.size (.tup [.int (i:Nat),x]) :=
   ⟨by show 2≤sizeLine;decide,[.int i s.toks,u],.cons ⟨_,rfl⟩ (.cons ru .nil),⟨_,Wg,rfl,_,rfl⟩⟩
  have I1:Inv X pins σ (upd H s.heap.objs.size (.tup [.int (i:Nat),x])) { s with heap:=MV,toks:=s.toks+1 } :=
   I.zi (ch:=[e,it]) (fun b ob hb q=>(sb.2 b (fun z=>hb (by simp [z]))).trans (hk b ob (fun z=>hb (by simp [z])) (fun z=>hb (by simp [z])) q)) hf (Nat.le_refl _) new
  refine ⟨.ref s.heap.objs.size,_,I1,rfl,⟨_,x,rfl,I.cZ.fresh (Nat.le_refl _),rfl,fun ys hy=>by rw [I.t7 hy hq];exact hx⟩,⟨⟨u,?_⟩,RF.at fun o q=>(sb.2 it (Ne.symm lP)).trans q,lP⟩,fun b hb=>?_⟩
  ·have e1:((i+1:Nat):Int)=(i:Int)+1:=by omega
   rw [e1];exact Yp
  ·have QQ:b<s.heap.objs.size:=by
    have e':b=e∨b=it:=by simpa using hb
    rcases e' with z|z
    ·rw [z];exact Wi
    ·rw [z];exact WB
   rw [aF (Nat.ne_of_lt QQ)];exact (hf b hb).1
 done:=by
  intro X hP hw hK hc i pins s σ H E I hf st hg;subst hP hw hK;obtain ⟨⟨old,he⟩,hit,lP⟩:=st;obtain ⟨xs,hq,hx⟩:=hg;obtain ⟨bI,rv,p,hz⟩:=I.list hq;obtain ⟨f0,f1,f2,f3,f4,f5⟩:=hf it (by simp);have hl:=rv.length;exact wpAny_pyNext_enum_end (I.ok.hd hc) he hit p.isList (by simp;omega) fun h' eb=>⟨rfl,I.turned (t':=s.toks) (fun b o hb q=>eb b o hb q) f0 f1 f3 f4 f5⟩
 self:=fun A i s Q E st h=>let ⟨⟨_,he⟩,_⟩:=st;wpAny_pyIter_enum he h
def Rn (K:PySem.W.Frag) (ta:TA):TI:=fun σ H R=>ta σ H fun vs H1=>∃a xs,vs=[.ref a]∧kd K H1 a xs∧R (WZ K a) H1
theorem gS {X:Cx} {e:Expr} {ta:TA} {p pos wx:Pos} {elts:List Expr} {kk:Nat} (hg:Gl X "enumerate") (hm:X.mg "enumerate"=none) (ha:PA X [e] ta) (hs:starEach [e] X.env=[(false,eval e X.env)]:=by rfl) :
  PI X (.Tuple elts kk wx) (.Call (.Name "enumerate" p) [e] [] pos) (Rn X.K ta):=by
 intro pins s σ H R I h;refine Call_ (vZ I hg hm boot_enumerate (PyProof.Rows.callWith_type1 (fm (ha pos pins s σ H _ I h) fun us s1 z1=>?_) hs rfl));obtain ⟨vs,H1,I1,r1,q1⟩:=z1;obtain ⟨a,xs,ex,hq,q⟩:=q1;subst ex
 cases r1 with
 |cons r rr =>
  cases rr
  cases r;obtain ⟨bI,rv,p',hz⟩:=I1.list hq;refine call_enumerate_list p'.isList fun h' he hit hsz hk=>wpAny_pyIter_enum he ?_;have I2:Inv X pins σ H1 { s1 with heap:=h' }:=I1.kept (t':=s1.toks) hk;refine ⟨s1.heap.objs.size+1,[s1.heap.objs.size+1,s1.heap.objs.size],_,_,H1,rfl,I2,MT a (s1.heap.objs.size+1) s1.heap.objs.size,⟨⟨.none,he⟩,hit,Nat.succ_ne_self _⟩,fun b hb=>?_,q⟩;have e':b=s1.heap.objs.size+1∨b=s1.heap.objs.size:=by simpa using hb
  have hle:s1.heap.objs.size≤b:=by
   rcases e' with z|z
   ·rw [z];exact Nat.le_add_right _ _
   ·rw [z];exact Nat.le_refl _
  exact I1.Fw hle (I1.cZ.fresh hle)
theorem Me:bootBuiltins "zip"=some (.type "zip"):=by decide+kernel
def WV (K:PySem.W.Frag) (a b:Addr):It :=
 ⟨fun i H=>∃(xs ys:List V) (x y:V),kd K H a xs∧kd K H b ys∧xs[i]?=some x∧ys[i]?=some y,
  fun i H v H'=>∃T x y,v=.ref T∧H T=none∧H'=upd H T (.tup [x,y])∧(∀xs,kd K H a xs→xs[i]?=some x)∧∀ys,kd K H b ys→ys[i]?=some y,
  fun i H=>∃xs ys:List V,kd K H a xs∧kd K H b ys∧(xs.length≤i∨ys.length≤i)⟩
theorem OX {P:Program} {w:World} {K:PySem.W.Frag} {elts:List Expr} {kk:Nat} {wx:Pos} {a b z TI TO i1 i2:Addr} (D:ZipApart z TI TO i1 i2 a b) :
  Turn P w K (.Tuple elts kk wx) (WV K a b) [z,TI,TO,i1,i2] z (fun i h=>IsZip h z TI TO .none∧IsPair h TI (.ref i1) (.ref i2)∧(∃x y,IsPair h TO x y)∧h.IsListIter i1 a i∧h.IsListIter i2 b i) where
 mem:=by simp
 obj:=fun i h st c hc=>by
  obtain ⟨hz,Np,⟨x,y,O6⟩,⟨o1,e1,_,d1⟩,⟨o2,e2,_,d2⟩⟩:=st;have e':c=z∨c=TI∨c=TO∨c=i1∨c=i2:=by simpa using hc
  rcases e' with q|q|q|q|q
  ·rw [q];exact ⟨_,hz,fun v q=>nomatch q⟩
  ·rw [q];exact ⟨_,Np,fun v q=>nomatch q⟩
  ·rw [q];exact ⟨_,O6,fun v q=>nomatch q⟩
  ·rw [q];exact ⟨o1,e1,fun v q=>by rw [d1] at q;cases q⟩
  ·rw [q];exact ⟨o2,e2,fun v q=>by rw [d2] at q;cases q⟩
 keep:=fun i h h' st k=>by
  obtain ⟨hz,Np,⟨x,y,O6⟩,h1,h2⟩:=st;exact ⟨k z (by simp) _ hz,k TI (by simp) _ Np,⟨x,y,k TO (by simp) _ O6⟩,h1.at fun o q=>k i1 (by simp) o q,h2.at fun o q=>k i2 (by simp) o q⟩
 item:=by
  intro X hP hw hK hc i pins s σ H E I hf st hg;subst hP hw hK;obtain ⟨hz,Np,⟨x0,y0,O6⟩,h1,h2⟩:=st;obtain ⟨xs,ys,x,y,Ud,TN,hx,hy⟩:=hg;obtain ⟨bI,rv,p,_⟩:=I.list Ud;obtain ⟨uI,WO,p2,_⟩:=I.list TN;obtain ⟨u,hu,ru⟩:=rv.get hx;obtain ⟨u2,hu2,ru2⟩:=WO.get hy;have Y7:z<s.heap.objs.size:=Heap.lt_size hz;refine wpAny_pyNext_zip_item D hz Np O6 h1 h2 p.isList p2.isList (x:=u) (y:=u2) (by simpa using hu) (by simpa using hu2) fun h' z' TO' Ts Pa hT hsz hk=>?_;refine ⟨_,rfl,wpAny_letOwnedTupleGo_zip (s:={ s with heap:=h' }) z' fun MV z'' sb=>?_⟩;have Wg:MV.get? s.heap.objs.size=some { cls:= .type "tuple",data:= .seq #[u,u2] }:=(sb.2 _ (Nat.ne_of_gt Y7)).trans hT;have new:gY X.prog X.w (upd H s.heap.objs.size (.tup [x,y])) MV s.heap.objs.size (.tup [x,y]) :=
   ⟨by show 2≤sizeLine;decide,[u,u2],.cons ru (.cons ru2 .nil),⟨_,Wg,rfl,_,rfl⟩⟩
  have I1:Inv X pins σ (upd H s.heap.objs.size (.tup [x,y])) { s with heap:=MV } :=
   I.zi (t':=s.toks) (ch:=[z,TI,TO,i1,i2]) (fun c o hb q=>(sb.2 c (fun q'=>hb (by simp [q']))).trans (hk c o (fun q'=>hb (by simp [q'])) (fun q'=>hb (by simp [q'])) (fun q'=>hb (by simp [q'])) (fun q'=>hb (by simp [q'])) q)) hf (Nat.le_refl _) new
  refine ⟨.ref s.heap.objs.size,_,I1,rfl,⟨_,x,y,rfl,I.cZ.fresh (Nat.le_refl _),rfl,fun l hl=>by rw [I.t7 hl Ud];exact hx,fun l hl=>by rw [I.t7 hl TN];exact hy⟩,⟨z'',?_,⟨u,u2,?_⟩,?_,?_⟩,fun c Wt=>?_⟩
  ·exact (sb.2 _ D.TIz).trans (hk _ _ D.TIz D.TITO D.TIi1 D.TIi2 Np)
  ·exact (sb.2 _ D.TOz).trans TO'
  ·exact Ts.at fun o q=>(sb.2 _ D.i1z).trans q
  ·exact Pa.at fun o q=>(sb.2 _ D.i2z).trans q
  ·have AK:c<s.heap.objs.size:=by
    have e':c=z∨c=TI∨c=TO∨c=i1∨c=i2:=by simpa using Wt
    rcases e' with q|q|q|q|q
    ·rw [q];exact Y7
    ·rw [q];exact Heap.lt_size Np
    ·rw [q];exact Heap.lt_size O6
    ·rw [q];obtain ⟨_,e1,_⟩:=h1;exact Heap.lt_size e1
    ·rw [q];obtain ⟨_,e2,_⟩:=h2;exact Heap.lt_size e2
   rw [aF (Nat.ne_of_lt AK)];exact (hf c Wt).1
 done:=by
  intro X hP hw hK hc i pins s σ H E I hf st hg;subst hP hw hK;obtain ⟨hz,Np,⟨x0,y0,O6⟩,h1,h2⟩:=st;obtain ⟨xs,ys,Ud,TN,XF⟩:=hg;obtain ⟨bI,rv,p,_⟩:=I.list Ud;obtain ⟨uI,WO,p2,_⟩:=I.list TN;have l1:=rv.length;have l2:=WO.length;have he:bI.toArray[i]?=none∨uI.toArray[i]?=none:=by
   rcases XF with q|q
   ·exact .inl (by simp;omega)
   ·exact .inr (by simp;omega)
  exact wpAny_pyNext_zip_end (I.ok.hd hc) D hz Np O6 h1 h2 p.isList p2.isList he fun h' hk=>⟨rfl,I.PJ (t':=s.toks) (ch:=[z,TI,TO,i1,i2]) (fun c o hb q =>
   hk c o (fun q'=>hb (by simp [q'])) (fun q'=>hb (by simp [q'])) (fun q'=>hb (by simp [q'])) (fun q'=>hb (by simp [q'])) q) hf⟩
 self:=fun A i s Q E st h=>wpAny_pyIter_zip st.1 h
def VU (K:PySem.W.Frag) (ta:TA):TI:=fun σ H R=>ta σ H fun vs H1=>∃a b xs ys,vs=[.ref a,.ref b]∧kd K H1 a xs∧kd K H1 b ys∧R (WV K a b) H1
theorem Nh {X:Cx} {e e2:Expr} {ta:TA} {p pos wx:Pos} {elts:List Expr} {kk:Nat} (hg:Gl X "zip") (hm:X.mg "zip"=none) (ha:PA X [e,e2] ta)
  (hs:starEach [e,e2] X.env=(false,eval e X.env)::starEach [e2] X.env:=by rfl) (Js:(backTo pos (starEach [e2] X.env)).any (·.1)=false:=by rfl) :
  PI X (.Tuple elts kk wx) (.Call (.Name "zip" p) [e,e2] [] pos) (VU X.K ta):=by
 intro pins s σ H R I h;refine Call_ (vZ I hg hm Me (PyProof.Rows.callWith_type1 (fm (ha pos pins s σ H _ I h) fun us s1 z1=>?_) hs Js));obtain ⟨vs,H1,I1,r1,q1⟩:=z1;obtain ⟨a,b,xs,ys,ex,Ud,TN,q⟩:=q1;subst ex
 cases r1 with
 |cons r rr =>
  cases rr with
  |cons r' rr =>
   cases rr
   cases r
   cases r';obtain ⟨bI,rv,p1,_⟩:=I1.list Ud;obtain ⟨uI,WO,p2,_⟩:=I1.list TN;have la:a<s1.heap.objs.size:=p1.lt;have lb:b<s1.heap.objs.size:=p2.lt;refine call_zip_2 p1.isList p2.isList fun h' hz Np O6 h1 h2 hsz hk=>wpAny_pyIter_zip hz ?_;have I2:Inv X pins σ H1 { s1 with heap:=h' }:=I1.kept (t':=s1.toks) hk;refine ⟨s1.heap.objs.size+4,[s1.heap.objs.size+4,s1.heap.objs.size+2,s1.heap.objs.size+3,s1.heap.objs.size,s1.heap.objs.size+1],_,_,H1,rfl,I2,OX (PySem.W.ktu_apart s1.heap.objs.size a b la lb),⟨hz,Np,⟨_,_,O6⟩,h1,h2⟩,fun c Wt=>?_,q⟩;have e':c=s1.heap.objs.size+4∨c=s1.heap.objs.size+2∨c=s1.heap.objs.size+3∨c=s1.heap.objs.size∨c=s1.heap.objs.size+1:=by simpa using Wt
   have hle:s1.heap.objs.size≤c:=by
    rcases e' with z|z|z|z|z
    ·rw [z];exact Nat.le_add_right _ _
    ·rw [z];exact Nat.le_add_right _ _
    ·rw [z];exact Nat.le_add_right _ _
    ·rw [z];exact Nat.le_refl _
    ·rw [z];exact Nat.le_add_right _ _
   exact I1.Fw hle (I1.cZ.fresh hle)
end L2
section
set_option maxHeartbeats 2000000
namespace L2
open PySem PySem.Spec PyProof.Rows
open PySem.W (WData Codec OpenSpec Well WellAll ReadsW ReadsAllW)
mutual
inductive Dw (K:PySem.W.Frag) (H:Hp):V→WData→Prop
 |de:Dw K H .de .none
 |bl (b:Bool):Dw K H (.bl b) (.bool b)
 |int (i:Int):Dw K H (.int i) (.int i)
 |str (x:Str):Dw K H (.str x) (.str x)
 |Jq (b:Array UInt8):Dw K H (.Jq b) (.bytes b.toList)
 |lst {a:Addr} {xs:List V} {ds:List WData}:kd K H a xs→rH K H xs ds→Dw K H (.ref a) (.list ds)
 |tup {a:Addr} {xs:List V} {ds:List WData}:n6 K H a xs→rH K H xs ds→Dw K H (.ref a) (.tuple ds)
inductive rH (K:PySem.W.Frag) (H:Hp):List V→List WData→Prop
 |nil:rH K H [] []
 |cons {v:V} {vs:List V} {d:WData} {ds:List WData}:Dw K H v d→rH K H vs ds→rH K H (v::vs) (d::ds)
end
theorem LF {K:PySem.W.Frag} {H:Hp}:∀ns:List Int,rH K H (ns.map V.int) (ns.map WData.int)
 |[]=>.nil
 |n::r=>.cons (.int n) (LF r)
theorem Lp {K:PySem.W.Frag} {H:Hp}:∀(ns:List Int) (xs:List V),rH K H xs (ns.map WData.int)→xs=ns.map V.int
 |[],xs,h=>by
  cases h;rfl
 |n::r,xs,h=>by
  cases h with
  |cons h1 h2 =>
   cases h1;rw [Lp r _ h2]<;>rfl
section
variable {P:Program} {w:World} {K:PySem.W.Frag} {H:Hp} {h:Heap} {R:PySem.W.WRecords} {cl:Str→Option Addr}
theorem SD {a:Addr} {xs:List V} (cZ:wy P w H h) (KX:K.In h) (q:kd K H a xs):∃(bI:List Value) (o:Obj) (n:Nat),Vals xs bI∧h.get? a=some o∧o.cls=.type "list"∧o.data=.seq bI.toArray n:=by
 rcases q with q|⟨o,bI,n,e,hc,_,hd,_,hv⟩
 ·obtain ⟨_,bI,n,hv,e⟩:=(show gY P w H h a (.lst xs) from q.ok cZ)
  exact ⟨bI,_,n,hv,e,rfl,rfl⟩
 ·exact ⟨bI.toList,o,n,hv,KX _ _ e,hc,by simp [hd]⟩
theorem SX {a:Addr} {xs:List V} (cZ:wy P w H h) (KX:K.In h) (q:n6 K H a xs):∃(bI:List Value) (o:Obj) (n:Nat),Vals xs bI∧h.get? a=some o∧o.cls=.type "tuple"∧o.data=.seq bI.toArray n:=by
 rcases q with q|⟨o,bI,n,e,hc,hd,_,hv⟩
 ·obtain ⟨_,bI,hv,o,e,hc,n,hd⟩:=(show gY P w H h a (.tup xs) from q.ok cZ)
  exact ⟨bI,o,n,hv,e,hc,hd⟩
 ·exact ⟨bI.toList,o,n,hv,KX _ _ e,hc,by simp [hd]⟩
mutual
theorem Dw.reads (cZ:wy P w H h) (KX:K.In h):∀(d:WData) (v:V) (u:Value),Dw K H v d→RelV v u→∃as,ReadsW R cl h u d as
 | .none,_,_,x,r=>by
  cases x
  cases r;exact ⟨_,ReadsW.none⟩
 | .bool b,_,_,x,r=>by
  cases x
  cases r;exact ⟨_,ReadsW.bool b⟩
 | .int i,_,_,x,r=>by
  cases x;obtain ⟨t,rfl⟩:=r;exact ⟨_,ReadsW.int i t⟩
 | .str s,_,_,x,r=>by
  cases x;obtain ⟨t,rfl⟩:=r;exact ⟨_,ReadsW.str s t⟩
 | .bytes b,_,_,x,r=>by
  cases x;obtain ⟨t,rfl⟩:=r;exact ⟨_,ReadsW.bytes _ t⟩
 | .list ds,_,_,x,r=>by
  cases x with
  |lst hs ha =>
   cases r;obtain ⟨bI,o,n,rv,ho,hc,hd⟩:=SD cZ KX hs;obtain ⟨as,hr⟩:=Dw.readsAll cZ KX ds _ bI ha rv;exact ⟨_,ReadsW.list ho hc hd hr⟩
 | .tuple ds,_,_,x,r=>by
  cases x with
  |tup hs ha =>
   cases r;obtain ⟨bI,o,n,rv,ho,hc,hd⟩:=SX cZ KX hs;obtain ⟨as,hr⟩:=Dw.readsAll cZ KX ds _ bI ha rv;exact ⟨_,ReadsW.tuple ho hc hd hr⟩
 | .float _,_,_,x,_=>by cases x
 | .dict _,_,_,x,_=>by cases x
 | .bytearray _,_,_,x,_=>by cases x
 | .set _,_,_,x,_=>by cases x
 | .frozenset _,_,_,x,_=>by cases x
 | .obj _ _,_,_,x,_=>by cases x
theorem Dw.readsAll (cZ:wy P w H h) (KX:K.In h):∀(ds:List WData) (vs:List V) (us:List Value),rH K H vs ds→Vals vs us→∃as,ReadsAllW R cl h us ds as
 |[],_,_,x,r=>by
  cases x
  cases r;exact ⟨_,ReadsAllW.nil⟩
 |d::ds,_,_,x,r=>by
  cases x with
  |cons h1 h2 =>
   cases r with
   |cons r1 r2 =>
    obtain ⟨as,q1⟩:=Dw.reads cZ KX d _ _ h1 r1;obtain ⟨bs,q2⟩:=Dw.readsAll cZ KX ds _ _ h2 r2;exact ⟨_,ReadsAllW.cons q1 q2⟩
end
end
mutual
def LL:WData→Bool
 | .none=>true
 | .bool _=>true
 | .int _=>true
 | .str _=>true
 | .bytes _=>true
 | .list xs=>AQ xs
 | .tuple xs=>AQ xs
 |_=>false
def AQ:List WData→Bool
 |[]=>true
 |x::r=>LL x&&AQ r
end
theorem IZ {α:Type} {f:α→WData} (h:∀a,LL (f a)=true):∀l:List α, AQ (l.map f)=true
 |[]=>rfl
 |x::r=>by
  show (LL (f x)&&AQ (r.map f))=true;rw [h x,IZ h r]<;>rfl
theorem sN:∀(c:Codec) (a:c.denote),LL (c.enc a)=true
 | .unit,_=>rfl
 | .bool,_=>rfl
 | .int _ _,_=>rfl
 | .nat _ _,_=>rfl
 | .u8,_=>rfl
 | .bytes _ _,_=>rfl
 | .text _ _ _ _,_=>rfl
 | .list _ _ c,a=>IZ (fun x=>sN c x) a
 | .pair c d,a=>by
  show (LL (c.enc a.1)&&(LL (d.enc a.2)&&true))=true;rw [sN c a.1,sN d a.2]<;>rfl
 | .triple c d e,a=>by
  show (LL (c.enc a.1)&&(LL (d.enc a.2.1)&&(LL (e.enc a.2.2)&&true)))=true;rw [sN c a.1,sN d a.2.1,sN e a.2.2]<;>rfl
 | .option c,none=>rfl
 | .option c,some x=>sN c x
theorem El:∀(cs:List Codec) (a:Codec.denoteAll cs),AQ (Codec.encAll cs a)=true
 |[],_=>rfl
 |c::cs,a=>by
  show (LL (c.enc a.1)&&AQ (Codec.encAll cs a.2))=true;rw [sN c a.1,El cs a.2]<;>rfl
theorem vT:∀{xs:List WData} {d:WData},d∈xs→d.weight≤WData.weightAll xs
 |[],d,h=>absurd h (by simp)
 |x::r,d,h=>by
  show d.weight≤x.weight+1+WData.weightAll r;rcases List.mem_cons.mp h with e|m
  ·rw [e];omega
  ·have z:=vT m;omega
def toV:Value→V
 | .none=>.de
 | .bool b=>.bl b
 | .int i _=>.int i
 | .str x _=>.str x
 | .bytes b _=>.Jq b
 | .ref a=>.ref a
 |_=>.de
def Mp (A:List Addr):Value→Prop
 | .none=>True
 | .bool _=>True
 | .int _ _=>True
 | .str _ _=>True
 | .bytes _ _=>True
 | .ref a=>a∈A
 |_=>False
theorem Mp.mono {A B:List Addr} (h:∀a∈A,a∈B):∀{u:Value},Mp A u→Mp B u:=fun {u} x=>by
 cases u with
 |ref a=>exact h a x
 |none=>trivial
 |bool b=>trivial
 |int i t=>trivial
 |str s t=>trivial
 |bytes b t=>trivial
 |_=>exact False.elim x
theorem NV {A:List Addr} {u:Value} (x:Mp A u):RelV (toV u) u:=by
 cases u with
 |ref a=>rfl
 |none=>rfl
 |bool b=>rfl
 |int i t=>exact ⟨t,rfl⟩
 |str s t=>exact ⟨t,rfl⟩
 |bytes b t=>exact ⟨t,rfl⟩
 |_=>exact False.elim x
theorem p6 {A:List Addr}:∀{vs:List Value},(∀u∈vs,Mp A u)→Vals (vs.map toV) vs
 |[],_=>.nil
 |u::r,h=>.cons (NV (h u (List.mem_cons_self ..))) (p6 fun x hx=>h x (List.mem_cons_of_mem _ hx))
def rg (h:Heap) (A:List Addr) (a:Addr):Prop:=∃vs:List Value,vs.length≤sizeLine∧(∀u∈vs,Mp A u) ∧
 (h.get? a=some { cls:= .type "list",data:= .seq vs.toArray }∨h.get? a=some { cls:= .type "tuple",data:= .seq vs.toArray })
theorem rg.mono {h:Heap} {A B:List Addr} {a:Addr} (k:∀a∈A,a∈B) (x:rg h A a):rg h B a:=by
 obtain ⟨vs,h1,h2,h3⟩:=x;exact ⟨vs,h1,fun u hu=>(h2 u hu).mono k,h3⟩
theorem oS {P:Params} {h:Heap}:∀{vs:List Value} {ds:List WData},WellAll P h vs ds→vs.length=ds.length
 |_,_,.nil=>rfl
 |_,_,.cons _ b=>by
  show _+1=_+1;rw [oS b]
theorem E1 {P:Params} {h:Heap} {v:Value} {ds:List WData} (x:Well P h v (.list ds)):∃(a:Addr) (vs:List Value),v=.ref a∧h.get? a=some { cls:= .type "list",data:= .seq vs.toArray }∧WellAll P h vs ds:=by
 cases x with
 |list ho mH=>exact ⟨_,_,rfl,ho,mH⟩
theorem BX {P:Params} {h:Heap} {v:Value} {ds:List WData} (x:Well P h v (.tuple ds)):∃(a:Addr) (vs:List Value),v=.ref a∧h.get? a=some { cls:= .type "tuple",data:= .seq vs.toArray }∧WellAll P h vs ds:=by
 cases x with
 |tuple ho mH=>exact ⟨_,_,rfl,ho,mH⟩
theorem EY {P:Params} {h:Heap} {us:List Value} {d:WData} {ds:List WData} (x:WellAll P h us (d::ds)):∃(v:Value) (vs:List Value),us=v::vs∧Well P h v d∧WellAll P h vs ds:=by
 cases x with
 |cons a b=>exact ⟨_,_,rfl,a,b⟩
theorem Lo {n:Nat} (h:n≤1048576):n≤sizeLine:=Nat.le_trans h (by decide)
section
variable {P:Params} {h:Heap}
mutual
theorem Ot:∀(d:WData) (v:Value),Well P h v d→LL d=true→d.weight≤1048576→∃A:List Addr,Mp A v∧∀a∈A,rg h A a
 | .none,_,x,_,_=>by
  cases x;exact ⟨[],trivial,fun a m=>absurd m (by simp)⟩
 | .bool b,_,x,_,_=>by
  cases x;exact ⟨[],trivial,fun a m=>absurd m (by simp)⟩
 | .int i,_,x,_,_=>by
  cases x;exact ⟨[],trivial,fun a m=>absurd m (by simp)⟩
 | .str s,_,x,_,_=>by
  cases x;exact ⟨[],trivial,fun a m=>absurd m (by simp)⟩
 | .bytes b,_,x,_,_=>by
  cases x;exact ⟨[],trivial,fun a m=>absurd m (by simp)⟩
 | .list ds,_,x,p,z=>by
  obtain ⟨a,vs,rfl,ho,mH⟩:=E1 x;have z2:WData.weightAll ds≤1048576:=z;obtain ⟨A,h1,h2⟩:=yy ds _ mH p fun d hd=>Nat.le_trans (vT hd) z2;have k:∀b∈A,b∈a::A:=fun b hb=>List.mem_cons_of_mem _ hb;refine ⟨a::A,List.mem_cons_self .., fun b hb=>?_⟩;rcases List.mem_cons.mp hb with e|m
  ·rw [e];exact ⟨vs,Lo (by rw [oS mH];exact Nat.le_trans (PySem.W.length_le_weightAllW ds) z2),fun u hu=>(h1 u hu).mono k,.inl ho⟩
  ·exact (h2 b m).mono k
 | .tuple ds,_,x,p,z=>by
  obtain ⟨a,vs,rfl,ho,mH⟩:=BX x;have z2:WData.weightAll ds≤1048576:=z;obtain ⟨A,h1,h2⟩:=yy ds _ mH p fun d hd=>Nat.le_trans (vT hd) z2;have k:∀b∈A,b∈a::A:=fun b hb=>List.mem_cons_of_mem _ hb;refine ⟨a::A,List.mem_cons_self .., fun b hb=>?_⟩;rcases List.mem_cons.mp hb with e|m
  ·rw [e];exact ⟨vs,Lo (by rw [oS mH];exact Nat.le_trans (PySem.W.length_le_weightAllW ds) z2),fun u hu=>(h1 u hu).mono k,.inr ho⟩
  ·exact (h2 b m).mono k
 | .float _,_,_,p,_=>Bool.noConfusion (show false=true from p)
 | .dict _,_,_,p,_=>Bool.noConfusion (show false=true from p)
 | .bytearray _,_,_,p,_=>Bool.noConfusion (show false=true from p)
 | .set _,_,_,p,_=>Bool.noConfusion (show false=true from p)
 | .frozenset _,_,_,p,_=>Bool.noConfusion (show false=true from p)
 | .obj _ _,_,_,p,_=>Bool.noConfusion (show false=true from p)
theorem yy:∀(ds:List WData) (vs:List Value),WellAll P h vs ds→AQ ds=true→(∀d∈ds,d.weight≤1048576)→∃A:List Addr,(∀u∈vs,Mp A u)∧∀a∈A,rg h A a
 |[],_,x,_,_=>by
  cases x;exact ⟨[],fun u m=>absurd m (by simp),fun a m=>absurd m (by simp)⟩
 |d::ds,_,x,p,z=>by
  obtain ⟨v,vs,rfl,x1,x2⟩:=EY x;have q:LL d=true∧AQ ds=true:=Bool.and_eq_true_iff.mp p;obtain ⟨A,a1,a2⟩:=Ot d v x1 q.1 (z d (List.mem_cons_self ..));obtain ⟨B,b1,b2⟩:=yy ds vs x2 q.2 fun e he=>z e (List.mem_cons_of_mem _ he);have kA:∀b∈A,b∈A++B:=fun b hb=>List.mem_append.mpr (.inl hb);have kB:∀b∈B,b∈A++B:=fun b hb=>List.mem_append.mpr (.inr hb);refine ⟨A++B,fun u hu=>?_,fun b hb=>?_⟩
  ·rcases List.mem_cons.mp hu with e|m
   ·rw [e];exact a1.mono kA
   ·exact (b1 u m).mono kB
  ·rcases List.mem_append.mp hb with m|m
   ·exact (a2 b m).mono kA
   ·exact (b2 b m).mono kB
end
end
def Po (o:Obj):Option HO:=match o.data with
 | .seq vs _=>if (o.cls==Value.type "list")=true then some (.sg o (.lst (vs.toList.map toV))) else some (.sg o (.tup (vs.toList.map toV)))
 |_=>none
def qc (K:PySem.W.Frag) (h:Heap) (A:List Addr):Hp:=fun b=>if b∈A then (if (K.lookup b).isNone=true then (h.get? b).bind Po else none) else none
def Hm (H:Hp):Prop:=∀b,H b=none∨∃o u,H b=some (.sg o u)
theorem Jl (vs:List Value):Po { cls:= .type "list",data:= .seq vs.toArray }=some (.sg { cls:= .type "list",data:= .seq vs.toArray } (.lst (vs.map toV))):=by
 show (if (Value.type "list"==Value.type "list")=true then some (HO.sg { cls:= .type "list",data:= .seq vs.toArray } (.lst (vs.toArray.toList.map toV))) else some (HO.sg { cls:= .type "list",data:= .seq vs.toArray } (.tup (vs.toArray.toList.map toV))))=_
 rw [if_pos (beq_self_eq_true _)]
theorem Im (vs:List Value):Po { cls:= .type "tuple",data:= .seq vs.toArray }=some (.sg { cls:= .type "tuple",data:= .seq vs.toArray } (.tup (vs.map toV))):=by
 show (if (Value.type "tuple"==Value.type "list")=true then some (HO.sg { cls:= .type "tuple",data:= .seq vs.toArray } (.lst (vs.toArray.toList.map toV))) else some (HO.sg { cls:= .type "tuple",data:= .seq vs.toArray } (.tup (vs.toArray.toList.map toV))))=_
 rw [if_neg (by decide)]
section
variable {P:Program} {w:World} {K:PySem.W.Frag} {h:Heap} {A:List Addr}
theorem Bg {b:Addr} {o:Obj} (hb:b∈A) (hk:K.lookup b=none) (e:h.get? b=some o):qc K h A b=Po o:=by
 unfold qc;rw [if_pos hb,hk,if_pos (show (none:Option Obj).isNone=true from rfl),e]<;>rfl
theorem Pr {b:Addr} {u:HO} (q:qc K h A b=some u):b∈A∧K.lookup b=none:=by
 unfold qc at q;by_cases hb:b∈A
 ·rw [if_pos hb] at q
  cases hk:K.lookup b with
  |none=>exact ⟨hb,rfl⟩
  |some o =>
   rw [hk,if_neg (by simp)] at q
   cases q
 ·rw [if_neg hb] at q
  cases q
theorem Bm (ar : ∀ a ∈ A, rg h A a) {b : Addr} {u : HO} (q : qc K h A b = some u) : K.lookup b = none ∧ ∃ vs : List Value, vs.length ≤ sizeLine ∧ (∀ u ∈ vs, Mp A u) ∧
    ((h.get? b = some { cls := .type "list", data := .seq vs.toArray } ∧ u = .sg { cls := .type "list", data := .seq vs.toArray } (.lst (vs.map toV))) ∨
     (h.get? b = some { cls := .type "tuple", data := .seq vs.toArray } ∧ u = .sg { cls := .type "tuple", data := .seq vs.toArray } (.tup (vs.map toV)))) := by
  obtain ⟨hb, hk⟩ := Pr q;obtain ⟨vs, h1, h2, h3⟩ := ar b hb;refine ⟨hk, vs, h1, h2,?_⟩;rcases h3 with e | e
  · rw [Bg hb hk e, Jl] at q
    exact .inl ⟨e, (Option.some.inj q).symm⟩
  · rw [Bg hb hk e, Im] at q
    exact .inr ⟨e, (Option.some.inj q).symm⟩
theorem LR (ar:∀a∈A,rg h A a):Hm (qc K h A):=fun b=>by
 cases q:qc K h A b with
 |none=>exact .inl rfl
 |some u =>
  obtain ⟨_,vs,_,_,⟨_,e⟩|⟨_,e⟩⟩:=Bm ar q
  ·exact .inr ⟨_,_,by rw [e]⟩
  ·exact .inr ⟨_,_,by rw [e]⟩
theorem PZ (ar:∀a∈A,rg h A a):wy P w (qc K h A) h:=fun b u q=>by
 obtain ⟨_,vs,h1,h2,⟨e,rfl⟩|⟨e,rfl⟩⟩:=Bm ar q
 ·exact ⟨e,by rw [List.length_map];exact h1,vs,_,p6 h2,e⟩
 ·exact ⟨e,by rw [List.length_map];exact h1,vs,p6 h2,_,e,rfl,_,rfl⟩
theorem Bj {c c':Value} {vs us:List Value} (e:(some { cls:=c,data:= .seq vs.toArray }:Option Obj)=some { cls:=c',data:= .seq us.toArray }):c=c'∧vs=us:=by
 have e1:=Option.some.inj e;have e2:c=c':=congrArg Obj.cls e1;have e3:Data.seq vs.toArray=Data.seq us.toArray:=congrArg Obj.data e1
 injection e3 with e4
 refine ⟨e2,?_⟩;have e5:=congrArg Array.toList e4;simpa using e5
theorem XH (KX:K.In h) (ar:∀a∈A,rg h A a) {a:Addr} {vs:List Value} (ha:a∈A) (e:h.get? a=some { cls:= .type "list",data:= .seq vs.toArray }):(∀u∈vs,Mp A u)∧kd K (qc K h A) a (vs.map toV):=by
 obtain ⟨us,h1,h2,h3⟩:=ar a ha;have hu:us=vs:=by
  rcases h3 with q|q
  ·rw [e] at q;exact (Bj q).2.symm
  ·rw [e] at q;exact absurd (Value.type.inj (Bj q).1) (by decide)
 subst hu;refine ⟨h2,?_⟩
 cases hk:K.lookup a with
 |none=>exact .inl (.inr ⟨_,by rw [Bg ha hk e,Jl]⟩)
 |some o =>
  have e2:=KX a o hk;rw [e] at e2;obtain rfl:=Option.some.inj e2;exact .inr ⟨_,us.toArray,_,hk,rfl,rfl,rfl,by rw [List.size_toArray];exact h1,by simpa using p6 h2⟩
theorem Yd (KX:K.In h) (ar:∀a∈A,rg h A a) {a:Addr} {vs:List Value} (ha:a∈A) (e:h.get? a=some { cls:= .type "tuple",data:= .seq vs.toArray }):(∀u∈vs,Mp A u)∧n6 K (qc K h A) a (vs.map toV):=by
 obtain ⟨us,h1,h2,h3⟩:=ar a ha;have hu:us=vs:=by
  rcases h3 with q|q
  ·rw [e] at q;exact absurd (Value.type.inj (Bj q).1) (by decide)
  ·rw [e] at q;exact (Bj q).2.symm
 subst hu;refine ⟨h2,?_⟩
 cases hk:K.lookup a with
 |none=>exact .inl (.inr ⟨_,by rw [Bg ha hk e,Im]⟩)
 |some o =>
  have e2:=KX a o hk;rw [e] at e2;obtain rfl:=Option.some.inj e2;exact .inr ⟨_,us.toArray,_,hk,rfl,rfl,by rw [List.size_toArray];exact h1,by simpa using p6 h2⟩
mutual
theorem S4 {Pm:Params} (KX:K.In h) (ar:∀a∈A,rg h A a):∀(d:WData) (v:Value),Well Pm h v d→LL d=true→Mp A v→Dw K (qc K h A) (toV v) d
 | .none,_,x,_,_=>by
  cases x;exact .de
 | .bool b,_,x,_,_=>by
  cases x;exact .bl b
 | .int i,_,x,_,_=>by
  cases x;exact .int i
 | .str s,_,x,_,_=>by
  cases x;exact .str s
 | .bytes b,_,x,_,_=>by
  cases x;have z:=Dw.Jq (K:=K) (H:=qc K h A) b.toArray;exact z
 | .list ds,_,x,p,hu=>by
  obtain ⟨a,vs,rfl,ho,mH⟩:=E1 x;obtain ⟨h2,hs⟩:=XH KX ar hu ho;exact .lst hs (Gk KX ar ds _ mH p h2)
 | .tuple ds,_,x,p,hu=>by
  obtain ⟨a,vs,rfl,ho,mH⟩:=BX x;obtain ⟨h2,hs⟩:=Yd KX ar hu ho;exact .tup hs (Gk KX ar ds _ mH p h2)
 | .float _,_,_,p,_=>Bool.noConfusion (show false=true from p)
 | .dict _,_,_,p,_=>Bool.noConfusion (show false=true from p)
 | .bytearray _,_,_,p,_=>Bool.noConfusion (show false=true from p)
 | .set _,_,_,p,_=>Bool.noConfusion (show false=true from p)
 | .frozenset _,_,_,p,_=>Bool.noConfusion (show false=true from p)
 | .obj _ _,_,_,p,_=>Bool.noConfusion (show false=true from p)
theorem Gk {Pm:Params} (KX:K.In h) (ar:∀a∈A,rg h A a):∀(ds:List WData) (vs:List Value),WellAll Pm h vs ds→AQ ds=true→(∀u∈vs,Mp A u)→rH K (qc K h A) (vs.map toV) ds
 |[],_,x,_,_=>by
  cases x;exact .nil
 |d::ds,_,x,p,hu=>by
  obtain ⟨v,vs,rfl,x1,x2⟩:=EY x;have q:LL d=true∧AQ ds=true:=Bool.and_eq_true_iff.mp p;exact .cons (S4 KX ar d v x1 q.1 (hu _ (List.mem_cons_self ..))) (Gk KX ar ds vs x2 q.2 fun u m=>hu u (List.mem_cons_of_mem _ m))
end
end
theorem Mu {P:Program} {w:World} {K:PySem.W.Frag} {mg mb:Str→Option Value} {CX:L8} {k:Nat} {fa:Addr} {fd:FuncData} {ps:List Str} {sp:Sp} {s₁ :Shared} {vals:List Value} {ds:List WData} {R:PySem.W.WRecords} {cl:Str→Option Addr} {d0:WData}
  (KX:K.In s₁.heap) (WA:s₁.heap.Ns mainGlobals mg) (hb:s₁.heap.Ns builtinsNs mb) (hbb:∀x:Str,x≠"__name__"→mb x=bootBuiltins x) (XM:s₁.heap.NoLimit) (hg:s₁.gens= #[])
  (V2:WellAll w.params s₁.heap vals ds) (Js:AQ ds=true) (hwt:∀d∈ds,d.weight≤1048576) (hr:je k callerA)
  (F:∀base:Heap,K.In base→base.Ns mainGlobals mg→aU P w K mg base CX k fa fd ps sp) (V7:∀(s:Shared) (us:List Value),us.length=ps.length→BindsTo s fd ⟨us,[]⟩ (ps.zip us)) (hlen:ds.length=ps.length)
  (O9:∀(H:Hp) (xs:List V),Hm H→rH K H xs ds→sp xs H (fun v H'=>Dw K H' v d0) fun _ _ _=>False)
  (VB:∀H e s',CX [] H s₁ (fun _ _ _=>False) e s'→False) :
  codeAny (model P w) callerA (.call (.ref fa) ⟨vals,[]⟩) (fun r s'=>∃u as,r=.ok (.ret u)∧ReadsW R cl s'.heap u d0 as∧OldK s₁.heap s'.heap∧s'.os=s₁.os∧AllBare s'.gens) s₁ :=by
 obtain ⟨A,ho,ar⟩:=yy ds vals V2 Js hwt;have hO:Hm (qc K s₁.heap A):=LR ar;have cZ:wy P w (qc K s₁.heap A) s₁.heap:=PZ ar;have hS:=Gk KX ar ds vals V2 Js ho;have hV:=p6 ho;have hK:∀b u,qc K s₁.heap A b=some u→K.lookup b=none:=fun b u q=>(Bm ar q).1;have T8:∀{b:Addr} {o:Obj} {es:Array DictEntry} {ep:Nat},s₁.heap.get? b=some o→o.data=.dict es ep→qc K s₁.heap A b=none:=fun {b o es ep} e d=>by
  cases q:qc K s₁.heap A b with
  |none=>rfl
  |some u =>
   obtain ⟨_,vs,_,_,⟨e2,_⟩|⟨e2,_⟩⟩:=Bm ar q
   ·rw [e2] at e
    cases e;have d':Data.seq vs.toArray _=Data.dict es ep:=d
    cases d'
   ·rw [e2] at e
    cases e;have d':Data.seq vs.toArray _=Data.dict es ep:=d
    cases d'
 generalize qc K s₁.heap A=H at hO cZ hS hK T8;have Ls:∀{b:Addr} {o:Obj},s₁.heap.get? b=some o→H b=none→(GJ s₁.heap H).get? b=some o:=fun e n=>Nk e n;have W4:∀{b:Addr} {m:Str→Option Value},s₁.heap.Ns b m→(GJ s₁.heap H).Ns b m:=fun {b m} ⟨o,es,ep,e,d,r⟩=>⟨o,es,ep,Ls e (T8 e d),d,r⟩;have nK:∀b o,K.lookup b=some o→H b=none:=fun b o e=>by
  cases q:H b with
  |none=>rfl
  |some u =>
   rw [hK b u q] at e
   cases e
 have ZK:K.In (GJ s₁.heap H):=fun b o e=>Ls (KX b o e) (nK b o e);have hM:Mod K mg (GJ s₁.heap H):=⟨ZK,W4 WA,⟨mb,W4 hb,hbb⟩,let ⟨mc,h1,h2⟩:=XM;⟨mc,W4 h1,h2⟩⟩
 have e0:Kq P w K mg (GJ s₁.heap H) callerA [] s₁ H:=⟨rfl,hM,fun b o e=>PU e,Nat.le_of_eq (My _ _),trivial,fun b hb=>absurd (show b∈([]:List Addr) from hb) (by simp),cZ,.of_eq hg⟩
 have hl:vals.length=ps.length:=by rw [oS V2];exact hlen
 refine codeAny_mono ((F _ ZK (W4 WA)).run callerA [] s₁ H ⟨vals,[]⟩ vals (vals.map toV) _ _ hr e0 (V7 s₁ vals hl) hV (O9 H _ hO hS)) fun r s' x=>?_
 cases r with
 |error e=>exact (VB H e s' x).elim
 |ok fl =>
  cases fl with
  |next=>exact False.elim x
  |brk=>exact False.elim x
  |cont=>exact False.elim x
  |ret u =>
   obtain ⟨v,H',os,bare,un,VO,r',q⟩:=x;have kept:∀b o,s₁.heap.get? b=some o→s'.heap.get? b=some o:=fun b o e=>by
    cases q2:H b with
    |none=>exact un.keep b o e q2 (by intro z;exact absurd (show b∈([]:List Addr) from z) (by simp)) (by simp)
    |some u2 =>
     rcases hO b with z|⟨ob,u3,z⟩
     ·rw [q2] at z
      cases z
     ·have z2:=un.C7 b ob _ z;obtain ⟨e1,_⟩:=cZ b _ z;obtain ⟨e2,_⟩:=VO b _ z2;rw [e] at e1
      cases e1;exact e2
   have KX':K.In s'.heap:=fun b o e=>kept b o (KX b o e);obtain ⟨as,YQ⟩:=Dw.reads (R:=R) (cl:=cl) VO KX' d0 v u q r';exact ⟨u,as,rfl,YQ,OldK.of_keep kept,os,bare⟩
theorem CM {ds:List WData} (h:WData.layableAll ds=true):∀d∈ds,d.weight≤1048576:=fun d hd =>
 (PySem.W.layableW_iff.mp (List.all_eq_true.mp h d hd)).2.2
theorem CT:∀(cs:List Codec) (a:Codec.denoteAll cs),(Codec.encAll cs a).length=cs.length
 |[],_=>rfl
 |c::cs,a=>by
  show (Codec.encAll cs a.2).length+1=cs.length+1;rw [CT cs a.2]
theorem Mc {r:OpenSpec} {k:Nat} {q:Program} {loose:List Str} {XP:(Str→Option Value)→Heap→Prop} {YP:World→Heap→Prop} {d:DefRec} {K:Params→PySem.W.Frag} {CX:World→L8} {ps:List Str} {sp:World→Sp}
  (Nq:r.wellSaid=true) (Zk:d.params.defaults=[]) (hlen:r.args.length=ps.length) (hr:je k callerA)
  (hY:∀(w:World) (h:Heap),YP w h→(K w.params).In h)
  (F:∀(w:World) (mg:Str→Option Value) (fa:Addr) (h:Heap),YP w h→(K w.params).In h→h.Ns mainGlobals mg→mg d.name=some (.ref fa) →
   ∃fd:FuncData,(∀(s:Shared) (us:List Value),us.length=ps.length→BindsTo s fd ⟨us,[]⟩ (ps.zip us)) ∧
    ∀base:Heap,(K w.params).In base→base.Ns mainGlobals mg→aU r.prog w (K w.params) mg base (CX w) k fa fd ps (sp w))
  (O9:∀(w:World) (H:Hp) (xs:List V) (a:Codec.denoteAll r.args),Hm H→Codec.withinAll r.args a=true→Codec.app r.args r.asked a=true→rH (K w.params) H xs (Codec.encAll r.args a) →
   sp w xs H (fun v H'=>Dw (K w.params) H' v (r.ret.enc (Codec.app r.args r.f a))) fun _ _ _=>False)
  (VB:∀(w:World) (H:Hp) (s:Shared) (e:Value) (s':Shared),CX w [] H s (fun _ _ _=>False) e s'→False) :
  PySem.W.WalkOS q loose XP YP r d [] (fun f vs=>PySem.call f vs):=by
 intro w Fb s₁ mg mb G Y fa o pm cd doc dV kV ho hd Qn hD hmg hg args vals as Yv YC YQ V2 XW;obtain ⟨a,e1,e2⟩:=PySem.W.os_pre_some Yv;obtain ⟨e3,hwi⟩:=Codec.encAll_of_decAll r.args args a e1;subst e3;have KX:=hY w _ Y;obtain ⟨fd,hb,hF⟩:=F w mg fa _ Y KX G.T.g hmg;refine PySem.W.enter_call (codeAny_mono (Mu (R:=[]) (cl:=classAt Fb.heap) (d0:=r.ret.enc (Codec.app r.args r.f a)) KX G.T.g G.T.b G.T.builtins G.T.nolimit hg V2 (El _ _) (CM YC) hr hF hb (by rw [CT];exact hlen)
  (fun H xs hO hS=>O9 w H xs a hO hwi e2 hS) fun H e s'=>VB w H s₁ e s') fun r' s' hq=>?_)
 obtain ⟨u,Y8,rfl,h1,h2,h3,h4⟩:=hq;exact ⟨.inl ⟨u,_,Y8,rfl,fun _=>rfl,h1,(OpenSpec.post_iff Nq hwi _ _).mpr rfl,fun z=>Bool.noConfusion (show false=true from z)⟩,h2,h3,h4⟩
theorem J5 {r:OpenSpec} {k:Nat} {q:Program} {loose:List Str} {XP:(Str→Option Value)→Heap→Prop} {YP:World→Heap→Prop} {d:DefRec} {K:Params→PySem.W.Frag} {CX:L8} {ps:List Str} {sp:PySem.W.Frag→Sp}
  (Nq:r.wellSaid=true) (Zk:d.params.defaults=[]) (hlen:r.args.length=ps.length) (hr:je k callerA)
  (hY:∀(w:World) (h:Heap),YP w h→(K w.params).In h)
  (F:∀(w:World) (mg:Str→Option Value) (fa:Addr) (h:Heap),YP w h→(K w.params).In h→h.Ns mainGlobals mg→mg d.name=some (.ref fa) →
   ∃fd:FuncData,(∀(s:Shared) (us:List Value),us.length=ps.length→BindsTo s fd ⟨us,[]⟩ (ps.zip us)) ∧
    ∀base:Heap,(K w.params).In base→base.Ns mainGlobals mg→aU r.prog w (K w.params) mg base CX k fa fd ps (sp (K w.params)))
  (O9:∀(K:PySem.W.Frag) (H:Hp) (xs:List V) (a:Codec.denoteAll r.args),Hm H→Codec.withinAll r.args a=true→Codec.app r.args r.asked a=true→rH K H xs (Codec.encAll r.args a) →
   sp K xs H (fun v H'=>Dw K H' v (r.ret.enc (Codec.app r.args r.f a))) fun _ _ _=>False)
  (VB:∀(H:Hp) (s:Shared) (e:Value) (s':Shared),CX [] H s (fun _ _ _=>False) e s'→False) :
  PySem.W.WalkOS q loose XP YP r d [] (fun f vs=>PySem.call f vs) :=
 Mc (K:=K) (CX:=fun _=>CX) (sp:=fun w=>sp (K w.params)) Nq Zk hlen hr hY F (fun w H xs a h1 h2 h3 h4=>O9 (K w.params) H xs a h1 h2 h3 h4) fun _ H s e s'=>VB H s e s'
end L2
end
namespace L2
open PySem PySem.Spec PyProof.Rows
def inClass (s:Stmt) (j:Nat):Stmt:=match s with
 | .ClassDef _ _ _ body _ _ _ _ _ _ _=>body.getD j (.Pass ⟨0,0,0,0⟩)
 |_=>.Pass ⟨0,0,0,0⟩
def lp (s:Stmt):Arguments:=match s with
 | .FunctionDef _ a _ _ _ _ _ _ _ _=>a
 |_=>{ posonlyargs:=[],args:=[],vararg:=none,kwonlyargs:=[],kw_defaults:=[],kwarg:=none,defaults:=[] }
def gj (s:Stmt):List Stmt:=match s with
 | .FunctionDef _ _ b _ _ _ _ _ _ _=>b
 |_=>[]
def aq (s:Stmt):Scope:=match s with
 | .FunctionDef _ _ _ _ _ _ sc _ _ _=>sc
 |_=>{ kind:= .function,names:=[],isGenerator:=false,isCoroutine:=false }
abbrev cI:L8:=fun _ _ _ _ _ _=>False
abbrev E0:XK:=fun _ _ _=>False
theorem aB {X:Cx}:Passes cI X E0:=fun _ _ _ _ _ _ _ h=>h.elim
structure G5 (K:PySem.W.Frag) (x qual:Str) (st:Stmt) (f:Addr) (fd:FuncData):Prop where
 ex:∃(oc:Value) (od:Option Addr) (kV doc pm:Value) (an:Option Addr) (bJ ct:Value) (Ho:Array (Option Value)),
  fd=PySem.W.fnOf x qual (lp st) (gj st) (aq st) .none kV doc pm an bJ ct∧K.lookup f=some ⟨oc,od,.func fd,Ho⟩∧PySem.W.codeIn K bJ qual=true
 kp:PySem.W.keepIn K (.ref f)=true
section
variable {P:Program} {w:World} {K:PySem.W.Frag} {mg:Str→Option Value} {base:Heap}
theorem G5.ok {x qual:Str} {st:Stmt} {f:Addr} {fd:FuncData} {N ps:List Str} {k:Nat} {sp:Sp} (F:G5 K x qual st f fd) (S:az N ps (aq st)) (len:∀vs H Q E,sp vs H Q E→vs.length=ps.length)
  (pF:∀(bJ:Value) (A:Around) (outer:List Env) (s:Shared) (H:Hp) (vs:List V) (Q:VK) (E:XK),je k (A.deeper (envOfC qual (aq st) s.heap.objs.size f bJ))→sp vs H Q E →
   ∃t,G7 (CW cI P w K mg base N qual (aq st) f bJ A outer s H E).Pj (gj st) t∧t { nx:=fun _ H'=>Q .de H',rt:=Q } (start N vs) H):aU P w K mg base cI (k+1) f fd ps sp:=by
 obtain ⟨oc,od,kV,doc,pm,an,bJ,ct,Ho,rfl,lk,Qn⟩:=F.ex;refine VF lk Qn S len fun A outer s H vs Q E hr O9=>?_;obtain ⟨t,h,q⟩:=pF bJ A outer s H vs Q E hr O9;exact ⟨t,h.Pj,q⟩
theorem G5.binds {x qual:Str} {st:Stmt} {f:Addr} {fd:FuncData} {ps:List Str} (F:G5 K x qual st f fd)
  (h:∀(kV doc pm:Value) (an:Option Addr) (bJ ct:Value) (us:List Value),us.length=ps.length→bindArgs (PySem.W.fnOf x qual (lp st) (gj st) (aq st) .none kV doc pm an bJ ct) ⟨us,[]⟩=pure (ps.zip us)):Binds K fd ps []:=by
 obtain ⟨oc,od,kV,doc,pm,an,bJ,ct,Ho,rfl,lk,Qn⟩:=F.ex;exact .all (h kV doc pm an bJ ct)
theorem zE {x qual:Str} {st:Stmt} {f:Addr} {oc:Value} {od an:Option Addr} {Ho:Array (Option Value)} {kV doc pm bJ ct:Value} (l:K.lookup f=some ⟨oc,od,.func (PySem.W.fnOf x qual (lp st) (gj st) (aq st) .none kV doc pm an bJ ct),Ho⟩)
  (c:PySem.W.codeIn K bJ qual=true) (k:PySem.W.keepIn K (.ref f)=true):G5 K x qual st f (PySem.W.fnOf x qual (lp st) (gj st) (aq st) .none kV doc pm an bJ ct):=⟨⟨oc,od,kV,doc,pm,an,bJ,ct,Ho,rfl,l,c⟩,k⟩
end
section
variable {X:Cx}
theorem pv (i:Nat) {x:Str} {pos:Pos} (hN:X.N[i]?=some x:=by rfl) (hv:T9 X.env.scope x:=by first|exact Or.inl rfl|exact Or.inr (Or.inl rfl)|exact Or.inr (Or.inr rfl)) (hd:(x==("__debug__":Str))=false:=by decide)
  (Qn:(x==("__classdict__":Str))=false:=by decide):PE X (.Name x pos) (yC i):=RM hN hv hd Qn
end
def ax (H H':Hp):Prop:=∀b o,H b=some o→H' b=some o
theorem ax.refl (H:Hp):ax H H:=fun _ _ h=>h
theorem ax.trans {H H1 H2:Hp} (a:ax H H1) (b:ax H1 H2):ax H H2:=fun c o h=>b c o (a c o h)
theorem ax.free {H H':Hp} (e:ax H H') {l:Addr} (h:H' l=Option.none):H l=Option.none:=by
 cases q:H l with
 |none=>rfl
 |some o =>
  rw [e l o q] at h
  cases h
theorem ax.seq {K:PySem.W.Frag} {H H':Hp} {a:Addr} {xs:List V} (e:ax H H') (h:kd K H a xs):kd K H' a xs:=by
 rcases h with (h|⟨o,h⟩)|h
 ·exact .inl (.inl (e _ _ h))
 ·exact .inl (.inr ⟨o,e _ _ h⟩)
 ·exact .inr h
theorem at_of {xs:List V} {z:Int} {j:Nat} {v:V} (e:z=(j:Int)) (h:xs[j]?=some v):iz xs z=some v:=by
 rw [e];exact cV h
theorem Um {α:Type} {l:List α} (hN:l.Nodup) {i j:Nat} {x:α} (a:l[i]?=some x) (b:l[j]?=some x):i=j:=by
 obtain ⟨h1,e1⟩:=List.getElem?_eq_some_iff.mp a;obtain ⟨h2,e2⟩:=List.getElem?_eq_some_iff.mp b;exact (List.getElem_inj hN).mp (e1.trans e2.symm)
end L2
end
section
namespace Pg
open PySem PySem.Spec PyProof.Rows L2
def top (i:Nat):Stmt:=PySem.Challenge.pw_steptimes_s01_answers.main.body.getD i (.Pass ⟨0,0,0,0⟩)
abbrev HP:Stmt:=top 1
abbrev EX:Stmt:=top 2
abbrev LH:Stmt:=top 3
abbrev Eg:Stmt:=top 4
abbrev Co:Stmt:=top 5
abbrev yI:Stmt:=top 6
abbrev vM:Stmt:=top 7
abbrev nO:Stmt:=top 8
abbrev u4:Stmt:=top 9
abbrev Ij:Stmt:=top 10
abbrev tM:Stmt:=top 11
abbrev uV:Stmt:=top 12
abbrev B9:Stmt:=top 13
abbrev qM:Stmt:=top 14
abbrev uQ:Stmt:=top 15
abbrev Al:Stmt:=inClass (top 18) 0
abbrev pZ:Stmt:=inClass (top 19) 0
abbrev Ld:Stmt:=top 20
abbrev EB:Stmt:=top 21
abbrev qx:Stmt:=top 22
abbrev pq:Stmt:=top 23
abbrev zQ:Stmt:=top 24
abbrev qG:Stmt:=top 25
abbrev xl:Stmt:=top 26
abbrev E7:Stmt:=top 27
abbrev rB:Stmt:=top 28
abbrev IV:Stmt:=top 29
abbrev wN:Stmt:=top 31
abbrev ze:Stmt:=top 32
abbrev qj:Stmt:=top 33
abbrev AH:Stmt:=inClass (top 34) 0
abbrev lh:Stmt:=inClass (top 34) 1
abbrev jC:Stmt:=inClass (top 34) 2
abbrev d8:Stmt:=inClass (top 34) 3
abbrev oP:Stmt:=inClass (top 34) 4
abbrev nV:Stmt:=inClass (top 34) 5
abbrev mr:Stmt:=inClass (top 34) 6
abbrev lU:Stmt:=inClass (top 34) 7
abbrev xS:Stmt:=inClass (top 40) 0
abbrev rA:Stmt:=inClass (top 40) 1
abbrev va:Stmt:=inClass (top 41) 0
abbrev kn:Stmt:=inClass (top 41) 1
abbrev oh:Stmt:=inClass (top 41) 2
abbrev nQ:Stmt:=inClass (top 41) 3
abbrev BK:Stmt:=inClass (top 42) 0
abbrev tx:Stmt:=inClass (top 42) 1
abbrev pE:Stmt:=inClass (top 42) 2
abbrev qw:Stmt:=inClass (top 42) 3
abbrev md:Stmt:=inClass (top 42) 4
abbrev jR:Stmt:=inClass (top 42) 5
abbrev iq:Stmt:=inClass (top 42) 6
abbrev pM:Stmt:=inClass (top 42) 7
abbrev z9:Stmt:=inClass (top 44) 0
abbrev ck:Stmt:=inClass (top 44) 1
abbrev pV:Stmt:=inClass (top 44) 2
abbrev pU:Stmt:=inClass (top 44) 3
abbrev p5:Stmt:=inClass (top 44) 4
abbrev eQ:Stmt:=inClass (top 44) 5
abbrev nc:Stmt:=inClass (top 44) 6
abbrev mq:Stmt:=inClass (top 44) 7
abbrev mi:Stmt:=inClass (top 44) 8
abbrev j0:Stmt:=inClass (top 44) 9
abbrev rF:Stmt:=inClass (top 44) 10
abbrev kg:Stmt:=inClass (top 44) 11
abbrev BW:Stmt:=top 58
abbrev Av:Stmt:=top 59
abbrev BA:Stmt:=top 60
abbrev zk:Stmt:=top 61
abbrev vP:Stmt:=top 62
abbrev kl:Stmt:=top 63
abbrev C0:Stmt:=top 64
abbrev zM:Stmt:=top 65
abbrev tI:Stmt:=inClass (top 73) 0
abbrev BJ:Stmt:=top 74
abbrev Ak:Stmt:=top 75
abbrev sr:Stmt:=top 76
abbrev rq:Stmt:=top 77
abbrev p7:Stmt:=top 78
abbrev t5:Stmt:=top 79
abbrev Au:Stmt:=top 80
abbrev xY:Stmt:=top 81
abbrev u6:Stmt:=top 82
abbrev An:Stmt:=top 83
abbrev lK:Stmt:=top 84
abbrev ke:Stmt:=top 85
abbrev BV:Stmt:=top 87
abbrev AB:Stmt:=top 88
abbrev Ex:Stmt:=top 89
abbrev zZ:Stmt:=top 90
abbrev C8:Stmt:=top 94
abbrev tY:Stmt:=top 95
abbrev B1:Stmt:=top 96
abbrev E3:Stmt:=top 126
abbrev wH:Stmt:=top 127
abbrev As:Stmt:=top 128
abbrev yo:Stmt:=top 129
abbrev Ar:Stmt:=inClass (top 130) 0
abbrev vd:Stmt:=inClass (top 130) 1
abbrev ki:Stmt:=inClass (top 130) 2
abbrev rf:Stmt:=inClass (top 130) 3
abbrev pG:Stmt:=inClass (top 130) 4
abbrev uW:Stmt:=inClass (top 130) 5
abbrev pD:Stmt:=inClass (top 130) 6
abbrev mn:Stmt:=inClass (top 130) 7
abbrev ou:Stmt:=inClass (top 130) 8
abbrev pf:Stmt:=inClass (top 130) 9
abbrev rh:Stmt:=inClass (top 130) 10
abbrev lW:Stmt:=inClass (top 130) 11
abbrev l0:Stmt:=inClass (top 130) 12
abbrev px:Stmt:=inClass (top 130) 13
abbrev oN:Stmt:=inClass (top 130) 14
abbrev ir:Stmt:=inClass (top 130) 15
abbrev sx:Stmt:=inClass (top 130) 16
abbrev oQ:Stmt:=inClass (top 130) 17
abbrev pI:Stmt:=inClass (top 130) 18
structure Def (K:PySem.W.Frag) (mg:Str→Option Value) (x qual:Str) (st:Stmt) (ps:List Str) where
 f:Addr
 fd:FuncData
 fn:G5 K x qual st f fd
 b:Binds K fd ps []
 g:mg x=some (.ref f)
structure fh (K:PySem.W.Frag) (C:Addr) (x qual:Str) (st:Stmt) (ps:List Str) where
 f:Addr
 fd:FuncData
 fn:G5 K x qual st f fd
 b:Binds K fd ps []
 m:Meth K C x f
structure Di (K:PySem.W.Frag) (mg:Str→Option Value) (x qual:Str) (st:Stmt) (ps:List Str) where
 C:Addr
 cl:Na K C
 g:mg x=some (.ref C)
 f:Addr
 fd:FuncData
 fn:G5 K "__init__" qual st f fd
 b:Binds K fd ps []
 Fy:Mk K C f
structure CS (K:PySem.W.Frag) (mg:Str→Option Value) (x:Str) (ns:List Int) where
 a:Addr
 g:mg x=some (.ref a)
 o:Obj
 bI:Array Value
 n:Nat
 lk:K.lookup a=some o
 c:o.cls=.type "tuple"
 d:o.data=.seq bI n
 v:IntsAre bI.toList ns
theorem CS.sq {K:PySem.W.Frag} {mg:Str→Option Value} {x:Str} {ns:List Int} (t:CS K mg x ns) (hz:ns.length≤sizeLine) {H:Hp}:n6 K H t.a (ns.map V.int):=by
 have e:=t.v.length;simp only [Array.length_toList] at e;exact .inr ⟨t.o,t.bI,t.n,t.lk,t.c,t.d,by omega,yM t.v⟩
set_option genInjectivity false in
set_option genCtorIdx false in
structure Txt (K:PySem.W.Frag) (mg:Str→Option Value) where
 zp:mg "all"=none
 Ny:mg "any"=none
 bP:mg "enumerate"=none
 eM:mg "len"=none
 wK:mg "list"=none
 Fp:mg "max"=none
 OK:mg "min"=none
 RI:mg "ord"=none
 ny:mg "range"=none
 S3:mg "str"=none
 xF:mg "tuple"=none
 Nj:mg "zip"=none
 GK:∃t,mg "MOST_FORMS"=some (.int 60 t)
 j6:CS K mg "START_NAME" [115,116,97,114,116]
 Fz:∃t,mg "MOST_STEPS"=some (.int 12 t)
 DP:∃t,mg "MOST_LIMITS"=some (.int 40 t)
 Bv:∃t,mg "MOST_NATURES"=some (.int 5 t)
 Ca:∃t,mg "LINE_END"=some (.int 10 t)
 Lh:∃t,mg "BLANK"=some (.int 32 t)
 RT:∃t,mg "HASH"=some (.int 35 t)
 KN:∃t,mg "ZERO"=some (.int 48 t)
 TB:∃t,mg "NINE"=some (.int 57 t)
 lR:CS K mg "STEP_WORD" [115,116,101,112]
 mI:CS K mg "LIMIT_WORD" [108,105,109,105,116]
 lz:CS K mg "NATURE_WORD" [110,97,116,117,114,101]
 iG:CS K mg "MISSING_WORD" [45]
 Ct:∃t,mg "LONGEST_NAME"=some (.int 8 t)
 GI:∃t,mg "MOST_TICKS"=some (.int 1000 t)
 DS:∃t,mg "MOST_DIGITS"=some (.int 4 t)
 uu:∃t,mg "RIGHT"=some (.int 0 t)
 B3:∃t,mg "NO_SUCH_LINE"=some (.int 1 t)
 BY:∃t,mg "TOLD_ALREADY"=some (.int 2 t)
 Ad:∃t,mg "NOT_KNOWN"=some (.int 3 t)
 wu:∃t,mg "TOO_MANY"=some (.int 4 t)
 zR:∃t,mg "SENSELESS"=some (.int 5 t)
 xp:∃t,mg "LEAST_MORE"=some (.int (-12000) t)
 sW:∃t,mg "MOST_MORE"=some (.int 12000 t)
 Ve:∃t,mg "NET"=some (.int 0 t)
 QF:∃t,mg "PRINT"=some (.int 1 t)
 Px:∃t,mg "STEPS"=some (.int 2 t)
 RY:∃t,mg "WEAK"=some (.int 3 t)
 S8:∃t,mg "SURE"=some (.int 4 t)
 Pk:∃t,mg "BOUND"=some (.int 5 t)
 Tq:∃t,mg "WAIT"=some (.int 6 t)
 Vb:∃t,mg "FAR"=some (.int 7 t)
 JH:∃t,mg "TIGHTEST"=some (.int 8 t)
 R0:∃t,mg "GAME"=some (.int 9 t)
 PY:∃t,mg "BEGIN"=some (.int 10 t)
 R7:∃t,mg "TICK"=some (.int 11 t)
 RC:∃t,mg "IDLE"=some (.int 12 t)
 Pw:∃t,mg "STATE"=some (.int 13 t)
 SY:∃t,mg "KEPT"=some (.int 14 t)
 nN:CS K mg "HOW_MANY_NUMBERS" [0,0,0,0,0,2,2,2,2,1,0,0,1,0,0,3]
 rE:CS K mg "HOW_MANY_ROWS" [1,0,0,0,0,0,0,0,0,0,0,1,0,0,0,0]
 fH:∃t,mg "DONE"=some (.int 0 t)
 GB:∃t,mg "WRONG_LINE"=some (.int 1 t)
 mZ:∃t,mg "NO_SUCH"=some (.int (-1) t)
 Sv:∃t,mg "SAME"=some (.int (-2) t)
 nS:∃t,mg "NOT_KEPT"=some (.int (-3) t)
 ug:∃t,mg "NO_PLAY"=some (.int (-4) t)
 Hu:∃t,mg "TOO_LARGE"=some (.int (-5) t)
 Ds:∃t,mg "NOT_ALLOWED"=some (.int (-6) t)
 CV:∃t,mg "MOST_HORIZON"=some (.int 8 t)
 xO:∃t,mg "MOST_GAME_STEPS"=some (.int 6 t)
 yg:∃t,mg "MOST_IDLE_TICKS"=some (.int 300 t)
 bR:Di K mg "Form" "Form.__init__" Al ["self","bounds","waits"]
 cX:b7 K bR.C "bounds"
 du:b7 K bR.C "waits"
 bf:Di K mg "Judgement" "Judgement.__init__" pZ ["self","form","earlier"]
 dR:b7 K bf.C "form"
 mx:b7 K bf.C "earlier"
 bA:Di K mg "Game" "Game.__init__" AH ["self","net","horizon"]
 qX:b7 K bA.C "net"
 t6:b7 K bA.C "horizon"
 zP:b7 K bA.C "ours"
 jP:b7 K bA.C "limit_rows"
 mK:b7 K bA.C "known"
 ba:Di K mg "Limit" "Limit.__init__" xS ["self","first","second","least","most"]
 gf:b7 K ba.C "first"
 fA:b7 K ba.C "second"
 gh:b7 K ba.C "least"
 gO:b7 K ba.C "most"
 aH:Di K mg "Nature" "Nature.__init__" va ["self","cause","own","lo","hi"]
 bu:b7 K aH.C "cause"
 bt:b7 K aH.C "own"
 ff:b7 K aH.C "lo"
 gL:b7 K aH.C "hi"
 aT:Di K mg "Net" "Net.__init__" BK ["self"]
 bj:b7 K aT.C "names"
 fS:b7 K aT.C "limits"
 bo:b7 K aT.C "natures"
 aQ:Di K mg "Play" "Play.__init__" z9 ["self","net","form"]
 kZ:b7 K aQ.C "net"
 t9:b7 K aQ.C "form"
 fb:b7 K aQ.C "tick"
 cx:b7 K aQ.C "times"
 bX:Di K mg "Reading" "Reading.__init__" tI ["self","net","wrong_line","reason"]
 o7:b7 K bX.C "net"
 lY:b7 K bX.C "wrong_line"
 pP:b7 K bX.C "reason"
 aL:Di K mg "Desk" "Desk.__init__" Ar ["self"]
 cq:b7 K aL.C "net"
 gn:b7 K aL.C "judgement"
 bW:b7 K aL.C "play"
 kb:Def K mg "lesser" "lesser" HP ["one","other"]
 m6:Def K mg "greater" "greater" EX ["one","other"]
 uE:Def K mg "added" "added" LH ["one","other"]
 mV:Def K mg "negated" "negated" Eg ["number"]
 dI:Def K mg "copied" "copied" Co ["rows"]
 aV:Def K mg "put_lesser" "put_lesser" yI ["rows","i","j","bound"]
 kX:Def K mg "bare_row" "bare_row" vM ["i","size"]
 c8:Def K mg "limit_bounds" "limit_bounds" nO ["net"]
 dZ:Def K mg "told_bounds" "told_bounds" u4 ["net"]
 ie:Def K mg "closed" "closed" Ij ["bounds"]
 jD:Def K mg "closed_by" "closed_by" tM ["bounds","m"]
 il:Def K mg "lowered_row" "lowered_row" uV ["row","ahead","behind"]
 kL:Def K mg "has_ring" "has_ring" B9 ["bounds"]
 eV:Def K mg "goes_below" "goes_below" qM ["closed_bounds"]
 d5:Def K mg "weak_bounds" "weak_bounds" uQ ["net"]
 mz:Def K mg "judge" "judge" Ld ["net"]
 mP:Def K mg "is_same" "is_same" EB ["form","other"]
 iP:Def K mg "first_form" "first_form" qx ["net"]
 fj:Def K mg "longest_bounds" "longest_bounds" pq ["net","form"]
 jG:Def K mg "next_form" "next_form" zQ ["net","form"]
 iN:Def K mg "close_form" "close_form" qG ["net","form"]
 iS:Def K mg "least_wait" "least_wait" xl ["bounds_row","waits_row"]
 mT:Def K mg "pass_on" "pass_on" E7 ["net","form"]
 cP:Def K mg "is_below_zero" "is_below_zero" rB ["number"]
 pd:Def K mg "shield" "shield" IV ["net","form"]
 iW:Def K mg "can_be_won" "can_be_won" wN ["net","horizon"]
 iT:Def K mg "choices" "choices" ze ["steps"]
 eW:Def K mg "times_with" "times_with" qj ["times","steps","tick"]
 bB:fh K bA.C "do_we_win" "Game.do_we_win" lh ["self","tick","times"]
 bT:fh K bA.C "does_nature_lose" "Game.does_nature_lose" jC ["self","tick","times"]
 cD:fh K bA.C "do_moves_lose" "Game.do_moves_lose" d8 ["self","tick","times"]
 fU:fh K bA.C "look_ahead" "Game.look_ahead" oP ["self","tick","times"]
 cR:fh K bA.C "kept_window" "Game.kept_window" nV ["self","step","times"]
 eP:fh K bA.C "keeps_limits" "Game.keeps_limits" mr ["self","step","tick","times"]
 eA:fh K bA.C "coming_window" "Game.coming_window" lU ["self","step","kept","tick","times"]
 gX:fh K ba.C "is_kept" "Limit.is_kept" rA ["self","times"]
 bD:fh K aH.C "is_under_way" "Nature.is_under_way" kn ["self","times"]
 c7:fh K aH.C "may_move" "Nature.may_move" oh ["self","times","tick"]
 cQ:fh K aH.C "must_move" "Nature.must_move" nQ ["self","times","tick"]
 cz:fh K aT.C "has_step" "Net.has_step" tx ["self","step"]
 gJ:fh K aT.C "has_nature" "Net.has_nature" pE ["self","nature"]
 eX:fh K aT.C "is_own" "Net.is_own" qw ["self","step"]
 eL:fh K aT.C "our_steps" "Net.our_steps" md ["self"]
 dk:fh K aT.C "first_times" "Net.first_times" jR ["self"]
 dE:fh K aT.C "are_limits_kept" "Net.are_limits_kept" iq ["self","times"]
 gz:fh K aT.C "with_limit" "Net.with_limit" pM ["self","limit"]
 bN:fh K aQ.C "is_nature_allowed" "Play.is_nature_allowed" ck ["self","steps"]
 dM:fh K aQ.C "pass_tick" "Play.pass_tick" pV ["self","steps"]
 gG:fh K aQ.C "pass_idly" "Play.pass_idly" pU ["self","most_ticks"]
 dP:fh K aQ.C "move_desk" "Play.move_desk" p5 ["self"]
 eS:fh K aQ.C "doable_steps" "Play.doable_steps" eQ ["self"]
 cS:fh K aQ.C "can_be_done" "Play.can_be_done" nc ["self","step","left"]
 eT:fh K aQ.C "allows_bound" "Play.allows_bound" mq ["self","other","bound","left"]
 eO:fh K aQ.C "is_wait_over" "Play.is_wait_over" mi ["self","nature","wait"]
 fN:fh K aQ.C "told_times" "Play.told_times" j0 ["self"]
 ic:fh K aQ.C "is_ended" "Play.is_ended" rF ["self"]
 dG:fh K aQ.C "is_kept_so_far" "Play.is_kept_so_far" kg ["self"]
 gP:Def K mg "split_at" "split_at" BW ["row","mark"]
 fR:Def K mg "is_letter" "is_letter" Av ["byte"]
 gU:Def K mg "is_digit" "is_digit" BA ["byte"]
 fK:Def K mg "is_name" "is_name" zk ["word"]
 eK:Def K mg "is_ticks" "is_ticks" vP ["word"]
 bE:Def K mg "is_ticks_or_missing" "is_ticks_or_missing" kl ["word"]
 cp:Def K mg "ticks_of" "ticks_of" C0 ["word"]
 iV:Def K mg "word_of" "word_of" zM ["ticks"]
 lg:Def K mg "read_net" "read_net" BJ ["text"]
 jJ:Def K mg "take_line" "take_line" Ak ["net","line"]
 gy:Def K mg "is_step_line" "is_step_line" sr ["words"]
 fJ:Def K mg "is_limit_line" "is_limit_line" rq ["words"]
 fq:Def K mg "is_nature_line" "is_nature_line" p7 ["words"]
 dg:Def K mg "is_pair_line" "is_pair_line" t5 ["words","first_word"]
 jE:Def K mg "take_step" "take_step" Au ["net","name"]
 iM:Def K mg "take_limit" "take_limit" xY ["net","words"]
 ij:Def K mg "take_nature" "take_nature" u6 ["net","words"]
 fT:Def K mg "are_known" "are_known" An ["net","words"]
 cT:Def K mg "is_senseless_limit" "is_senseless_limit" lK ["limit"]
 cM:Def K mg "is_senseless_nature" "is_senseless_nature" ke ["net","nature"]
 kW:Def K mg "net_text" "net_text" BV ["net"]
 fQ:Def K mg "pair_line" "pair_line" AB ["first_word","first_name","second_name","low","high"]
 iZ:Def K mg "line_of" "line_of" Ex ["words"]
 jB:Def K mg "step_rows" "step_rows" zZ ["net"]
 kC:Def K mg "one_more" "one_more" C8 ["i","j","w"]
 b6:Def K mg "is_sure_with" "is_sure_with" tY ["net","i","j","w"]
 kq:Def K mg "tightest" "tightest" B1 ["net","i","j"]
 m8:Def K mg "answers" "answers" E3 ["calls"]
 bY:Def K mg "told_bound" "told_bound" wH ["bound"]
 cA:Def K mg "told_list" "told_list" As ["row"]
 bG:Def K mg "told_truth" "told_truth" yo ["truth"]
 jd:fh K aL.C "answer" "Desk.answer" vd ["self","call","numbers","row"]
 dH:fh K aL.C "answer_further" "Desk.answer_further" ki ["self","call","numbers","row"]
 ib:fh K aL.C "take_net" "Desk.take_net" rf ["self","text"]
 gp:fh K aL.C "show_text" "Desk.show_text" pG ["self"]
 cg:fh K aL.C "judged" "Desk.judged" uW ["self"]
 gH:fh K aL.C "tell_sure" "Desk.tell_sure" pD ["self"]
 bz:fh K aL.C "refuse_steps" "Desk.refuse_steps" mn ["self","i","j"]
 fX:fh K aL.C "tell_bound" "Desk.tell_bound" ou ["self","i","j"]
 gE:fh K aL.C "tell_wait" "Desk.tell_wait" pf ["self","k","i"]
 g6:fh K aL.C "tell_far" "Desk.tell_far" rh ["self","i","j"]
 en:fh K aL.C "tell_tightest" "Desk.tell_tightest" lW ["self","i","j"]
 eB:fh K aL.C "tell_if_limit" "Desk.tell_if_limit" l0 ["self","i","j","w"]
 gq:fh K aL.C "tell_game" "Desk.tell_game" px ["self","horizon"]
 fV:fh K aL.C "begin_play" "Desk.begin_play" oN ["self"]
 dF:fh K aL.C "pass_tick_with" "Desk.pass_tick_with" ir ["self","steps"]
 iE:fh K aL.C "idle_on" "Desk.idle_on" sx ["self","most_ticks"]
 fW:fh K aL.C "tell_state" "Desk.tell_state" oQ ["self"]
 gD:fh K aL.C "tell_kept" "Desk.tell_kept" pI ["self"]
section
variable {X:Cx}
theorem kI {n:Str} {z:Int} {pos:Pos} (h:∃t,X.mg n=some (.int z t)) (hg:Gl X n:=by rfl) (hd:(n==("__debug__":Str))=false:=by decide):PE X (.Name n pos) (tC (.int z)):=by
 obtain ⟨t,h⟩:=h;exact Lc hg h ⟨t,rfl⟩ hd
theorem kT {n:Str} {ns:List Int} {pos:Pos} (t:CS X.K X.mg n ns) (hg:Gl X n:=by rfl) (hd:(n==("__debug__":Str))=false:=by decide):PE X (.Name n pos) (tC (.ref t.a)):=Lc hg t.g rfl hd
end
theorem za:bootBuiltins "all"=some (.builtin "all"):=by decide+kernel
theorem NG:bootBuiltins "any"=some (.builtin "any"):=by decide+kernel
theorem eJ:bootBuiltins "len"=some (.builtin "len"):=by decide+kernel
theorem wC:bootBuiltins "list"=some (.type "list"):=by decide+kernel
theorem Ft:bootBuiltins "max"=some (.builtin "max"):=by decide+kernel
theorem Nl:bootBuiltins "min"=some (.builtin "min"):=by decide+kernel
theorem SI:bootBuiltins "ord"=some (.builtin "ord"):=by decide+kernel
theorem SH:bootBuiltins "str"=some (.type "str"):=by decide+kernel
theorem yk:bootBuiltins "tuple"=some (.type "tuple"):=by decide+kernel
local macro_rules | `(tactic| walk_at "sc") => `(tactic| exact ⟨rfl, rfl, rfl, by decide +kernel, rfl, by decide +kernel, by decide +kernel⟩)
theorem Mm:az ["one","other"] ["one","other"] (aq HP):=by walk_at "sc"
theorem JR:az ["one","other"] ["one","other"] (aq EX):=by walk_at "sc"
theorem NA:az ["one","other"] ["one","other"] (aq LH):=by walk_at "sc"
theorem Kg:az ["number"] ["number"] (aq Eg):=by walk_at "sc"
theorem zj:az ["rows","row"] ["rows"] (aq Co):=by walk_at "sc"
theorem DE:az ["rows","i","j","bound"] ["rows","i","j","bound"] (aq yI):=by walk_at "sc"
theorem tF:az ["i","size","j"] ["i","size"] (aq vM):=by walk_at "sc"
theorem g7:az ["net","size","bounds","limit","i"] ["net"] (aq nO):=by walk_at "sc"
theorem nZ:az ["net","bounds","nature"] ["net"] (aq u4):=by walk_at "sc"
theorem uB:az ["bounds","result","m"] ["bounds"] (aq Ij):=by walk_at "sc"
theorem qN:az ["bounds","m","row"] ["bounds","m"] (aq tM):=by walk_at "sc"
theorem jQ:az ["row","ahead","behind","result","bound","rest"] ["row","ahead","behind"] (aq uV):=by walk_at "sc"
theorem HZ:az ["bounds"] ["bounds"] (aq B9):=by walk_at "sc"
theorem lj:az ["closed_bounds","step","row"] ["closed_bounds"] (aq qM):=by walk_at "sc"
theorem tX:az ["net","bounds"] ["net"] (aq uQ):=by walk_at "sc"
theorem Gm:az ["self","bounds","waits"] ["self","bounds","waits"] (aq Al):=by walk_at "sc"
theorem wM:az ["self","form","earlier"] ["self","form","earlier"] (aq pZ):=by walk_at "sc"
theorem tD:az ["net","form","earlier","following"] ["net"] (aq Ld):=by walk_at "sc"
theorem KA:az ["form","other"] ["form","other"] (aq EB):=by walk_at "sc"
theorem jf:az ["net","waits","nature","step"] ["net"] (aq qx):=by walk_at "sc"
theorem eC:az ["net","form","bounds","k","nature","i","wait"] ["net","form"] (aq pq):=by walk_at "sc"
theorem GS:az ["net","form"] ["net","form"] (aq zQ):=by walk_at "sc"
theorem fZ:az ["net","form","bounds","waits","k","nature","row","bounds_row"] ["net","form"] (aq qG):=by walk_at "sc"
theorem ji:az ["bounds_row","waits_row","least","bound","wait"] ["bounds_row","waits_row"] (aq xl):=by walk_at "sc"
theorem gR:az ["net","form","bounds","waits","x","nature","j","bound","k","row"] ["net","form"] (aq E7):=by walk_at "sc"
theorem y3:az ["number"] ["number"] (aq rB):=by walk_at "sc"
theorem m5:az ["net","form","bounds","k","nature","i","wait"] ["net","form"] (aq IV):=by walk_at "sc"
theorem DF:az ["net","horizon"] ["net","horizon"] (aq wN):=by walk_at "sc"
theorem kM:az ["steps","found","step","some"] ["steps"] (aq ze):=by walk_at "sc"
theorem lC:az ["times","steps","tick","step","time"] ["times","steps","tick"] (aq qj):=by walk_at "sc"
theorem FQ:az ["self","net","horizon"] ["self","net","horizon"] (aq AH):=by walk_at "sc"
theorem iy:az ["self","tick","times","left","steps","step"] ["self","tick","times"] (aq lh):=by walk_at "sc"
theorem gd:az ["self","tick","times","prospect","key"] ["self","tick","times"] (aq jC):=by walk_at "sc"
theorem bF:az ["self","tick","times","must","may","steps","nature","step"] ["self","tick","times"] (aq d8):=by walk_at "sc"
theorem dO:az ["self","tick","times","windows","step","time","kept","coming"] ["self","tick","times"] (aq oP):=by walk_at "sc"
theorem bQ:az ["self","step","times","first","last","other","time","behind","ahead"] ["self","step","times"] (aq nV):=by walk_at "sc"
theorem lS:az ["self","step","tick","times","kept"] ["self","step","tick","times"] (aq mr):=by walk_at "sc"
theorem ip:az ["self","step","kept","tick","times","nature","since"] ["self","step","kept","tick","times"] (aq lU):=by walk_at "sc"
theorem Dq:az ["self","first","second","least","most"] ["self","first","second","least","most"] (aq xS):=by walk_at "sc"
theorem pL:az ["self","times","ticks"] ["self","times"] (aq rA):=by walk_at "sc"
theorem Bs:az ["self","cause","own","lo","hi"] ["self","cause","own","lo","hi"] (aq va):=by walk_at "sc"
theorem qf:az ["self","times"] ["self","times"] (aq kn):=by walk_at "sc"
theorem vD:az ["self","times","tick"] ["self","times","tick"] (aq oh):=by walk_at "sc"
theorem uL:az ["self","times","tick"] ["self","times","tick"] (aq nQ):=by walk_at "sc"
theorem Jn:az ["self"] ["self"] (aq BK):=by walk_at "sc"
theorem A6:az ["self","step"] ["self","step"] (aq tx):=by walk_at "sc"
theorem yL:az ["self","nature"] ["self","nature"] (aq pE):=by walk_at "sc"
theorem oY:az ["self","step","nature"] ["self","step"] (aq qw):=by walk_at "sc"
theorem kU:az ["self","step"] ["self"] (aq md):=by walk_at "sc"
theorem jz:az ["self","step"] ["self"] (aq jR):=by walk_at "sc"
theorem gN:az ["self","times","limit"] ["self","times"] (aq iq):=by walk_at "sc"
theorem oO:az ["self","limit","net"] ["self","limit"] (aq pM):=by walk_at "sc"
theorem Fg:az ["self","net","form"] ["self","net","form"] (aq z9):=by walk_at "sc"
theorem aW:az ["self","steps","coming","may","must","nature","step"] ["self","steps"] (aq ck):=by walk_at "sc"
theorem oa:az ["self","steps","step"] ["self","steps"] (aq pV):=by walk_at "sc"
theorem fO:az ["self","most_ticks","done","passed"] ["self","most_ticks"] (aq pU):=by walk_at "sc"
theorem jY:az ["self","done","step"] ["self"] (aq p5):=by walk_at "sc"
theorem bM:az ["self","left","stay","step"] ["self"] (aq eQ):=by walk_at "sc"
theorem dv:az ["self","step","left","other","bound","k","nature","wait"] ["self","step","left"] (aq nc):=by walk_at "sc"
theorem sv:az ["self","other","bound","left"] ["self","other","bound","left"] (aq mq):=by walk_at "sc"
theorem sV:az ["self","nature","wait"] ["self","nature","wait"] (aq mi):=by walk_at "sc"
theorem js:az ["self","time"] ["self"] (aq j0):=by walk_at "sc"
theorem zd:az ["self"] ["self"] (aq rF):=by walk_at "sc"
theorem qF:az ["self"] ["self"] (aq kg):=by walk_at "sc"
theorem lI:az ["row","mark","parts","part","byte"] ["row","mark"] (aq BW):=by walk_at "sc"
theorem GU:az ["byte"] ["byte"] (aq Av):=by walk_at "sc"
theorem Iw:az ["byte"] ["byte"] (aq BA):=by walk_at "sc"
theorem vF:az ["word","byte"] ["word"] (aq zk):=by walk_at "sc"
theorem tW:az ["word","byte"] ["word"] (aq vP):=by walk_at "sc"
theorem qQ:az ["word"] ["word"] (aq kl):=by walk_at "sc"
theorem oz:az ["word","ticks","byte"] ["word"] (aq C0):=by walk_at "sc"
theorem vB:az ["ticks","digit"] ["ticks"] (aq zM):=by walk_at "sc"
theorem AN:az ["self","net","wrong_line","reason"] ["self","net","wrong_line","reason"] (aq tI):=by walk_at "sc"
theorem lQ:az ["text","net","number","line","reason"] ["text"] (aq BJ):=by walk_at "sc"
theorem wG:az ["net","line","words"] ["net","line"] (aq Ak):=by walk_at "sc"
theorem AO:az ["words"] ["words"] (aq sr):=by walk_at "sc"
theorem zr:az ["words"] ["words"] (aq rq):=by walk_at "sc"
theorem xx:az ["words"] ["words"] (aq p7):=by walk_at "sc"
theorem AL:az ["words","first_word"] ["words","first_word"] (aq t5):=by walk_at "sc"
theorem Fv:az ["net","name"] ["net","name"] (aq Au):=by walk_at "sc"
theorem vb:az ["net","words","limit"] ["net","words"] (aq xY):=by walk_at "sc"
theorem sZ:az ["net","words","nature"] ["net","words"] (aq u6):=by walk_at "sc"
theorem Ff:az ["net","words"] ["net","words"] (aq An):=by walk_at "sc"
theorem rM:az ["limit"] ["limit"] (aq lK):=by walk_at "sc"
theorem qA:az ["net","nature"] ["net","nature"] (aq ke):=by walk_at "sc"
theorem lM:az ["net","text","name","limit","nature"] ["net"] (aq BV):=by walk_at "sc"
theorem FY:az ["first_word","first_name","second_name","low","high"] ["first_word","first_name","second_name","low","high"] (aq AB):=by walk_at "sc"
theorem vS:az ["words","line","word"] ["words"] (aq Ex):=by walk_at "sc"
theorem mF:az ["net","row","step","name"] ["net"] (aq zZ):=by walk_at "sc"
theorem Jg:az ["i","j","w"] ["i","j","w"] (aq C8):=by walk_at "sc"
theorem A1:az ["net","i","j","w"] ["net","i","j","w"] (aq tY):=by walk_at "sc"
theorem jH:az ["net","i","j","low","high","middle"] ["net","i","j"] (aq B1):=by walk_at "sc"
theorem dJ:az ["calls","desk","told","place","call","behind","numbers","row","answer"] ["calls"] (aq E3):=by walk_at "sc"
theorem DZ:az ["bound"] ["bound"] (aq wH):=by walk_at "sc"
theorem Fh:az ["row"] ["row"] (aq As):=by walk_at "sc"
theorem Dn:az ["truth"] ["truth"] (aq yo):=by walk_at "sc"
theorem Fc:az ["self"] ["self"] (aq Ar):=by walk_at "sc"
theorem B5:az ["self","call","numbers","row"] ["self","call","numbers","row"] (aq vd):=by walk_at "sc"
theorem qY:az ["self","call","numbers","row"] ["self","call","numbers","row"] (aq ki):=by walk_at "sc"
theorem pA:az ["self","text","reading"] ["self","text"] (aq rf):=by walk_at "sc"
theorem yE:az ["self"] ["self"] (aq pG):=by walk_at "sc"
theorem CK:az ["self"] ["self"] (aq uW):=by walk_at "sc"
theorem oy:az ["self","judgement"] ["self"] (aq pD):=by walk_at "sc"
theorem sM:az ["self","i","j"] ["self","i","j"] (aq mn):=by walk_at "sc"
theorem jA:az ["self","i","j","refusal","form"] ["self","i","j"] (aq ou):=by walk_at "sc"
theorem oB:az ["self","k","i","form"] ["self","k","i"] (aq pf):=by walk_at "sc"
theorem kK:az ["self","i","j","refusal","bounds"] ["self","i","j"] (aq rh):=by walk_at "sc"
theorem kj:az ["self","i","j","refusal"] ["self","i","j"] (aq lW):=by walk_at "sc"
theorem km:az ["self","i","j","w","refusal"] ["self","i","j","w"] (aq l0):=by walk_at "sc"
theorem xf:az ["self","horizon"] ["self","horizon"] (aq px):=by walk_at "sc"
theorem nD:az ["self","form"] ["self"] (aq oN):=by walk_at "sc"
theorem eZ:az ["self","steps","done","step"] ["self","steps"] (aq ir):=by walk_at "sc"
theorem rK:az ["self","most_ticks","done"] ["self","most_ticks"] (aq sx):=by walk_at "sc"
theorem vm:az ["self"] ["self"] (aq oQ):=by walk_at "sc"
theorem xV:az ["self"] ["self"] (aq pI):=by walk_at "sc"
end Pg
end
section
namespace L2
open PySem PySem.Spec PyProof.Rows
theorem zK {v:V} {Kc H Q}:tC v Kc H Q=(Q v H):=rfl
theorem jk  {D σ H}:Rl  D σ H=(D.nx σ H):=rfl
theorem kE {t u:TS} {D σ H}:Vo t u D σ H=(t { D with nx:=u D } σ H):=rfl
theorem ko {te:TE} {D σ H}:SW te D σ H=(te σ H D.rt):=rfl
theorem iX {i:Nat} {v σ H Q}:Em i v σ H Q=(Q (σ.set i (some v)) H):=rfl
theorem CI  {vs σ H Q}:VW  vs σ H Q=(vs=[]∧Q σ H):=rfl
theorem Kk {to ti:TE} {t:PB} {v σ H Q}:Uz to ti t v σ H Q=(to σ H fun o H1=>ti σ H1 fun i H2=>t o i v H2 fun H3=>Q σ H3):=rfl
theorem uY  {x y H Q}:Zn  x y H Q=(Oy x y=true∧Q (.bl (decide (x=y))) H):=rfl
theorem Iy  {x y H Q}:ZR  x y H Q=(Oy x y=true∧Q (.bl (!decide (x=y))) H):=rfl
theorem kP  {Kc H Q}:KP  Kc H Q=(Q [] H):=rfl
theorem Mz  {Kc H Q}:Lg  Kc H Q=(Q none H):=rfl
theorem Ry {r:V→Option Int→Option Int→Hp→VK→Prop} {te:TE} {tl th:TO} {σ H Q}:Zx r te tl th σ H Q=(te σ H fun x H1=>tl σ H1 fun l H2=>th σ H2 fun u H3=>r x l u H3 Q):=rfl
theorem vQ  {Kc H Q}:SJ  Kc H Q=(Q true H):=rfl
theorem RW {te:TE} {σ H R}:U9 te σ H R=(te σ H fun v H1=>∃x,v=.str x∧R (Ww x) H1):=rfl
theorem nI {i j:Int}:Oy (.int i) (.int j)=true:=rfl
end L2
end
section
namespace Rp
open PySem PySem.Spec PyProof.Rows L2 Pg
open Vblaai (W Table minW addW at_ least lessW maxW)
def wV:W→V
 |none=>.de
 |some x=>.int x
theorem Qq:wV none=.de:=rfl
def ME:V→Prop
 | .de=>True
 | .int _=>True
 |_=>False
def Jp:V→W
 | .int x=>some x
 |_=>none
theorem o9 (a:W):ME (wV a):=by cases a<;>trivial
theorem oX (a:W):Jp (wV a)=a:=by cases a<;>rfl
theorem xm (i:Int):ME (.int i):=trivial
theorem FP (i:Int):Jp (.int i)=some i:=rfl
def dU (r:List W):List V:=r.map wV
abbrev aM (n:Nat):V:= .int (n:Int)
def bg (w:List Nat):List V:=w.map aM
def oV (o:Option Nat):V:=wV (o.map fun (q:Nat)=>(q:Int))
theorem Nz (o:Option Nat):ME (oV o):=o9 _
theorem OV (o:Option Nat):Jp (oV o)=o.map fun (q:Nat)=>(q:Int):=oX _
theorem nF {r:List W} {j:Nat} {x:W} (h:r[j]?=some x):(dU r)[j]?=some (wV x):=by
 unfold dU;rw [List.getElem?_map,h];rfl
theorem fM (r:List W):(dU r).length=r.length:=List.length_map _
theorem ax.upd {H:Hp} {p:Addr} {o:HO} (h:H p=none):ax H (upd H p o):=fun b u e=>by rw [aF (aC e h)];exact e
theorem ax.iA {H H1:Hp} {p:Addr} {o:HO} (s:ax H H1) (h:H p=none):ax H (L2.upd H1 p o):=fun b u e=>by rw [aF (aC e h)];exact s b u e
def aO (as:List Addr) (H H':Hp):Prop:=∀b o,H b=some o→b∉as→H' b=some o
theorem aO.refl (as:List Addr) (H:Hp):aO as H H:=fun _ _ e _=>e
theorem aO.trans {as:List Addr} {H H1 H2:Hp} (a:aO as H H1) (b:aO as H1 H2):aO as H H2:=fun c o e n=>b c o (a c o e n) n
theorem aO.mono {as bs:List Addr} {H H1:Hp} (a:aO as H H1) (h:∀x∈as,x∈bs):aO bs H H1:=fun c o e n=>a c o e fun m=>n (h c m)
theorem aO.of_same {as:List Addr} {H H1:Hp} (a:ax H H1):aO as H H1:=fun c o e _=>a c o e
theorem aO.same {as:List Addr} {H H1 H2:Hp} (a:ax H H1) (b:aO as H1 H2) (h:∀x∈as,H x=none):ax H H2:=fun c o e=>b c o (a c o e) fun m=>by rw [h c m] at e;cases e
theorem aO.upd {as:List Addr} {H:Hp} {p:Addr} {o:HO} (h:p∈as):aO as H (L2.upd H p o):=fun b u e n=>by rw [aF (fun z=>n (by rw [z];exact h))];exact e
theorem alloc {H:Hp} {o:HO} {Q:V→Hp→Prop} (h:∀p H',H p=none→ax H H'→H' p=some o→Q (.ref p) H'):∀p,H p=none→Q (.ref p) (upd H p o) :=
 fun p hp=>h p _ hp (ax.upd hp) aA
structure Rows (H:Hp) (a:Addr) (as:List Addr) (rs:List (List V)):Prop where
 lst:H a=some (.lst (as.map V.ref))
 len:as.length=rs.length
 row:∀(i:Nat) (b:Addr) (r:List V),as[i]?=some b→rs[i]?=some r→H b=some (.lst r)
 na:a∉as
 nd:as.Nodup
theorem Rows.same {H H':Hp} {a:Addr} {as:List Addr} {t:List (List V)} (h:Rows H a as t) (s:ax H H'):Rows H' a as t :=
 ⟨s _ _ h.lst,h.len,fun i b r e1 e2=>s _ _ (h.row i b r e1 e2),h.na,h.nd⟩
theorem Rows.get {H:Hp} {a:Addr} {as:List Addr} {t:List (List V)} (h:Rows H a as t) {i:Nat} {r:List V} (e:t[i]?=some r):∃b,as[i]?=some b∧H b=some (.lst r):=by
 have hi:=(List.getElem?_eq_some_iff.mp e).1;have hl:i<as.length:=by rw [h.len];exact hi
 exact ⟨as[i],List.getElem?_eq_getElem hl,h.row i _ r (List.getElem?_eq_getElem hl) e⟩
theorem Rows.nil {H:Hp} {a:Addr} (h:H a=some (.lst [])):Rows H a [] []:=⟨h,rfl,fun i b r e=>by simp at e,by simp,by simp⟩
theorem Rows.set {H H':Hp} {a:Addr} {as:List Addr} {t:List (List V)} {i:Nat} {b:Addr} {r:List V} (h:Rows H a as t) (e:as[i]?=some b) (k:aO [b] H H') (hr:H' b=some (.lst r)):Rows H' a as (t.set i r):=by
 have Wr:a∉[b]:=fun m=>h.na (by rw [show a=b by simpa using m];exact List.mem_of_getElem? e);refine ⟨k _ _ h.lst Wr,by rw [List.length_set];exact h.len,fun j c q e1 e2=>?_,h.na,h.nd⟩;by_cases Ml:i=j
 ·subst Ml;rw [e] at e1
  cases e1;have hl:i<t.length:=by
   have:=(List.getElem?_eq_some_iff.mp e2).1
   rwa [List.length_set] at this
  rw [List.getElem?_set_self hl] at e2
  cases e2;exact hr
 ·rw [List.getElem?_set_ne Ml] at e2;refine k _ _ (h.row j c q e1 e2) fun m=>Ml ?_;have:c=b:=by simpa using m
  rw [this] at e1;exact Um h.nd e e1
abbrev Tab (H:Hp) (a:Addr) (as:List Addr) (t:Table):Prop:=Rows H a as (t.map dU)
theorem Tab.get {H:Hp} {a:Addr} {as:List Addr} {t:Table} (h:Tab H a as t) {i:Nat} {r:List W} (e:t[i]?=some r):∃b,as[i]?=some b∧H b=some (.lst (dU r)) :=
 Rows.get h (by rw [List.getElem?_map,e];rfl)
theorem Tab.len {H:Hp} {a:Addr} {as:List Addr} {t:Table} (h:Tab H a as t):as.length=t.length:=by rw [Rows.len h,List.length_map]
def Ws (H:Hp) (a:Addr) (as:List Addr):Prop:=H a=none∧∀b∈as,H b=none
theorem Rows.snoc {H H':Hp} {a b:Addr} {as:List Addr} {t:List (List V)} {r:List V} (h:Rows H a as t) (s:ax H H') (hb:H b=none) (hr:H' b=some (.lst r)) :
  Rows (L2.upd H' a (.lst (as.map V.ref++[.ref b]))) a (as++[b]) (t++[r]):=by
 have Wr:a≠b:=aC h.lst hb;have hm:b∉as:=fun m=>by
  obtain ⟨i,hi,e⟩:=List.getElem_of_mem m;have e1:as[i]?=some b:=by rw [List.getElem?_eq_getElem hi,e]
  have o4:i<t.length:=by rw [←h.len];exact hi
  have e2:t[i]?=some t[i]:=List.getElem?_eq_getElem o4;have:=h.row i b _ e1 e2;rw [hb] at this
  cases this
 refine ⟨by rw [aA,List.map_append];rfl,by rw [List.length_append,List.length_append,h.len];rfl,fun i c q e1 e2=>?_,?_,?_⟩
 ·rw [List.getElem?_append] at e1 e2;by_cases hi:i<as.length
  ·rw [if_pos hi] at e1;rw [if_pos (by rw [←h.len];exact hi)] at e2;have ca:c≠a:=fun z=>h.na (by rw [←z];exact List.mem_of_getElem? e1);rw [aF ca];exact s _ _ (h.row i c q e1 e2)
  ·rw [if_neg hi] at e1;rw [if_neg (by rw [←h.len];exact hi)] at e2;have z1:i - as.length=0:=by
    have:=(List.getElem?_eq_some_iff.mp e1).1;simpa using this
   have z2:i - t.length=0:=by rw [←h.len];exact z1
   rw [z1] at e1;rw [z2] at e2
   cases e1
   cases e2;rw [aF (Ne.symm Wr)];exact hr
 ·intro m;rcases List.mem_append.mp m with m|m
  ·exact h.na m
  ·exact Wr (by simpa using m)
 ·rw [List.nodup_append];exact ⟨h.nd,by simp,fun x hx y hy=>by
   have:y=b:=by simpa using hy
   rw [this];exact fun z=>hm (by rw [←z];exact hx)⟩
def NS (J:It) (g:TG) (tb:TS) (D:Ends) (σ:L2.St) (H:Hp):Prop:=Sw (fun _ H R=>R J H) g tb D σ H
theorem vz {wi:TI} {g:TG} {tb:TS} {D:Ends} {σ:L2.St} {H:Hp}:Sw wi g tb D σ H=wi σ H fun J H1=>NS J g tb D σ H1:=rfl
def WE (J:It) (g:TG) (tt:TT) (te:TE) (vs:List Nat) (σ:L2.St) (H:Hp) (Q:VK):Prop:=T4 (fun _ H R=>R J H) g tt te vs σ H Q
theorem Ay {wi:TI} {g:TG} {tt:TT} {te:TE} {vs:List Nat} {σ:L2.St} {H:Hp} {Q:VK}:T4 wi g tt te vs σ H Q=wi σ H fun J H1=>WE J g tt te vs σ H1 Q:=rfl
structure Wk (J:It) (Ok:Hp→Prop) (n:Nat) (P:Nat→V→Hp→Prop):Prop where
 go:∀i H,Ok H→i<n→J.go i H
 JL:∀i H x H',Ok H→i<n→J.JL i H x H'→ax H H'∧P i x H'
 stop:∀H,Ok H→J.stop n H
theorem bp {K:PySem.W.Frag} {a:Addr} (xs:List V):Wk (Tn K a) (fun H=>kd K H a xs) xs.length (fun i x _=>xs[i]?=some x) where
 go:=fun i H q h=>⟨xs,xs[i],q,by simp [h]⟩
 JL:=fun i H x H' q h y=>by
  obtain ⟨e,y⟩:=y;subst e;exact ⟨ax.refl _,y xs q⟩
 stop:=fun H q=>⟨xs,q,Nat.le_refl _⟩
theorem yH {K:PySem.W.Frag} {a:Addr} (xs:List V):Wk (Ug K a) (fun H=>n6 K H a xs) xs.length (fun i x _=>xs[i]?=some x) where
 go:=fun i H q h=>⟨xs,xs[i],q,by simp [h]⟩
 JL:=fun i H x H' q h y=>by
  obtain ⟨e,y⟩:=y;subst e;exact ⟨ax.refl _,y xs q⟩
 stop:=fun H q=>⟨xs,q,Nat.le_refl _⟩
theorem ju (lo:Int) (n:Nat):Wk (RZ lo n) (fun _=>True) n (fun i x _=>x=.int (lo+i)) where
 go:=fun i H q h=>h
 JL:=fun i H x H' q h y=>by
  obtain ⟨e,y⟩:=y;subst e;exact ⟨ax.refl _,y⟩
 stop:=fun H q=>Nat.le_refl _
theorem dN {K:PySem.W.Frag} {a:Addr} (xs:List V):Wk (WZ K a) (fun H=>kd K H a xs) xs.length (fun i x H=>∃T y,x=.ref T∧H T=some (.tup [.int (i:Nat),y])∧xs[i]?=some y) where
 go:=fun i H q h=>⟨xs,xs[i],q,by simp [h]⟩
 JL:=fun i H x H' q h y=>by
  obtain ⟨T,z,e,n,e2,y⟩:=y;subst e2;exact ⟨ax.upd n,T,z,e,aA,y xs q⟩
 stop:=fun H q=>⟨xs,q,Nat.le_refl _⟩
theorem Iv {K:PySem.W.Frag} {a b:Addr} (xs ys:List V):Wk (WV K a b) (fun H=>kd K H a xs∧kd K H b ys) (min xs.length ys.length) (fun i v H=>∃T x y,v=.ref T∧H T=some (.tup [x,y])∧xs[i]?=some x∧ys[i]?=some y) where
 go:=fun i H q h=>by
  have h1:i<xs.length:=by omega
  have h2:i<ys.length:=by omega
  exact ⟨xs,ys,xs[i],ys[i],q.1,q.2,by simp [h1],by simp [h2]⟩
 JL:=fun i H x H' q h y=>by
  obtain ⟨T,z,u,e,n,e2,y1,y2⟩:=y;subst e2;exact ⟨ax.upd n,T,z,u,e,aA,y1 xs q.1,y2 ys q.2⟩
 stop:=fun H q=>⟨xs,ys,q.1,q.2,by omega⟩
theorem OY (x:Str):Wk (Ww x) (fun _=>True) x.cps.size (fun i v _=>∃c,x.cps[i]?=some c∧v=.str ⟨#[c]⟩) where
 go:=fun i H q h=>h
 JL:=fun i H v H' q h y=>by
  obtain ⟨e,y⟩:=y;subst e;exact ⟨ax.refl _,y⟩
 stop:=fun H q=>Nat.le_refl _
theorem loop {J:It} {Ok:Hp→Prop} {n:Nat} {P:Nat→V→Hp→Prop} (wk:Wk J Ok n P) {g:TG} {tb:TS} {D:Ends} {σ:L2.St} {H:Hp} (Pv:Nat→L2.St→Hp→Prop) (h0:Pv 0 σ H) (ok:∀i σ H,Pv i σ H→Ok H)
  (turn:∀i x σ H H' (N:L2.St→Hp→Prop),i<n→Pv i σ H→ax H H'→P i x H'→(∀σ2 H2,Pv (i+1) σ2 H2→N σ2 H2)→g x σ H' fun σ2 H2=>tb { D with nx:=N,ct:=N,bk:=D.nx } σ2 H2) (fin:∀σ H,Pv n σ H→D.nx σ H):NS J g tb D σ H:=by
 refine ⟨fun i m σ H=>m=n - i∧i≤n∧Pv i σ H,⟨n,by simp,Nat.zero_le _,h0⟩,?_⟩;rintro i m σ H ⟨rfl,hi,p⟩;by_cases AK:i<n
 ·refine .inr ⟨wk.go i H (ok i σ H p) AK,Pv (i+1),fun σ' H' p'=>⟨n - (i+1),by omega,rfl,AK,p'⟩,fun x H' y=>?_⟩;obtain ⟨s,q⟩:=wk.JL i H x H' (ok i σ H p) AK y;exact turn i x σ H H' _ AK p s q fun _ _ z=>z
 ·have e:i=n:=by omega
  subst e;exact .inl ⟨wk.stop H (ok i σ H p),fin σ H p⟩
theorem cW {J:It} {Ok:Hp→Prop} {n:Nat} {P:Nat→V→Hp→Prop} (wk:Wk J Ok n P) {g:TG} {tt:TT} {te:TE} {vs:List Nat} {σ:L2.St} {H:Hp} {Q:VK} (f:Nat→Option V) (ok:∀H',ax H H'→Ok H')
  (turn:∀i x H' (k:Option V→Hp→Prop),i<n→ax H H'→P i x H'→(∀H4,ax H' H4→k (f i) H4)→g x (wipe σ vs) H' fun σ2 H2=>wipe σ2 vs=wipe σ vs∧tt σ2 H2 fun b H3=>if b=true then te σ2 H3 (fun y H4=>k (some y) H4) else k none H3)
  (sz:n≤sizeLine) (fin:∀D H',H D=none→ax H H'→H' D=some (.lst ((List.range n).filterMap f))→Q (.ref D) H'):WE J g tt te vs σ H Q:=by
 intro D hD;refine ⟨fun i m H'=>m=n - i∧i≤n∧ax H H'∧H' D=some (.lst ((List.range i).filterMap f)),⟨n,by simp,Nat.zero_le _,ax.upd hD,aA⟩,?_⟩;rintro i m H' ⟨rfl,hi,s,hd⟩;by_cases AK:i<n
 ·refine .inr ⟨wk.go i H' (ok H' s) AK,fun H5=>ax H H5∧H5 D=some (.lst ((List.range (i+1)).filterMap f)),fun H5 p'=>⟨n - (i+1),by omega,rfl,AK,p'.1,p'.2⟩,fun x H2 y=>?_⟩;obtain ⟨s2,q⟩:=wk.JL i H' x H2 (ok H' s) AK y;have hl:((List.range i).filterMap f).length<sizeLine:=by
   have h1:=List.length_filterMap_le f (List.range i);rw [List.length_range] at h1;omega
  have t:=turn i x H2 (fun o H4=>match o with
   |some y=>∃acc,H4 D=some (.lst acc)∧acc.length<sizeLine∧(ax H (upd H4 D (.lst (acc++[y])))∧(upd H4 D (.lst (acc++[y]))) D=some (.lst ((List.range (i+1)).filterMap f)))
   |none=>ax H H4∧H4 D=some (.lst ((List.range (i+1)).filterMap f))) AK (s.trans s2) q (fun H4 s4=>by
    have NM:=s4 _ _ (s2 _ _ hd)
    cases e:f i with
    |none =>
     refine ⟨(s.trans s2).trans s4,?_⟩;rw [NM,List.range_succ,List.filterMap_append,List.filterMap_cons,e];simp
    |some y =>
     refine ⟨_,NM,hl,ax.iA ((s.trans s2).trans s4) hD,?_⟩;rw [aA,List.range_succ,List.filterMap_append,List.filterMap_cons,e]
     simp)
  exact t
 ·have e:i=n:=by omega
  subst e;exact .inl ⟨wk.stop H' (ok H' s),fin D H' hD s hd⟩
theorem Bk {J:It} {Ok:Hp→Prop} {n:Nat} {P:Nat→V→Hp→Prop} (wk:Wk J Ok n P) {g:TG} {te:TE} {vs:List Nat} {σ:L2.St} {H:Hp} {Q:VK} (f:Nat→List V) (ok:∀H',ax H H'→Ok H')
  (turn:∀i x H' (k:V→Hp→Prop),i<n→ax H H'→P i x H'→(∀b H4,H' b=none→ax H' H4→H4 b=some (.lst (f i))→k (.ref b) H4)→g x (wipe σ vs) H' fun σ2 H2=>wipe σ2 vs=wipe σ vs∧te σ2 H2 k)
  (sz:n≤sizeLine) (fin:∀D bs H',H D=none→(∀b∈bs,H b=none)→ax H H'→Rows H' D bs ((List.range n).map f)→Q (.ref D) H'):WE J g SJ te vs σ H Q:=by
 intro D hD;refine ⟨fun i m H'=>m=n - i∧i≤n∧ax H H'∧∃bs,(∀b∈bs,H b=none)∧Rows H' D bs ((List.range i).map f),⟨n,by simp,Nat.zero_le _,ax.upd hD,[],by simp,.nil aA⟩,?_⟩;rintro i m H' ⟨rfl,hi,s,bs,FK,hd⟩;by_cases AK:i<n
 ·refine .inr ⟨wk.go i H' (ok H' s) AK,fun H5=>ax H H5∧∃bs,(∀b∈bs,H b=none)∧Rows H5 D bs ((List.range (i+1)).map f),fun H5 p'=>⟨n - (i+1),by omega,rfl,AK,p'.1,p'.2⟩,fun x H2 y=>?_⟩;obtain ⟨s2,q⟩:=wk.JL i H' x H2 (ok H' s) AK y;have hl:bs.length<sizeLine:=by
   have h1:=hd.len;rw [List.length_map,List.length_range] at h1;omega
  have t:=turn i x H2 (fun y H4=>∃acc,H4 D=some (.lst acc)∧acc.length<sizeLine∧(ax H (upd H4 D (.lst (acc++[y])))∧∃bs,(∀b∈bs,H b=none)∧Rows (upd H4 D (.lst (acc++[y]))) D bs ((List.range (i+1)).map f))) AK (s.trans s2) q (fun b H4 hb s4 h4=>by
    have NM:=s4 _ _ (s2 _ _ hd.lst);refine ⟨_,NM,by rw [List.length_map];exact hl,ax.iA ((s.trans s2).trans s4) hD,bs++[b],fun c hc=>?_,?_⟩
    ·rcases List.mem_append.mp hc with hc|hc
     ·exact FK c hc
     ·have:c=b:=by simpa using hc
      rw [this];exact (s.trans s2).free hb
    ·rw [List.range_succ,List.map_append];exact (hd.same s2).snoc s4 hb h4)
  exact t
 ·have e:i=n:=by omega
  subst e;exact .inl ⟨wk.stop H' (ok H' s),fin D bs H' hD FK s hd⟩
def sp0 (f:Hp→VK→Prop):Sp:=fun vs H Q _=>match vs with
 |[]=>f H Q
 |_=>False
def m7 (f:V→Hp→VK→Prop):Sp:=fun vs H Q _=>match vs with
 |[a]=>f a H Q
 |_=>False
def rX (f:V→V→Hp→VK→Prop):Sp:=fun vs H Q _=>match vs with
 |[a,b]=>f a b H Q
 |_=>False
def Cs (f:V→V→V→Hp→VK→Prop):Sp:=fun vs H Q _=>match vs with
 |[a,b,c]=>f a b c H Q
 |_=>False
def Qx (f:V→V→V→V→Hp→VK→Prop):Sp:=fun vs H Q _=>match vs with
 |[a,b,c,d]=>f a b c d H Q
 |_=>False
def V5 (f:V→V→V→V→V→Hp→VK→Prop):Sp:=fun vs H Q _=>match vs with
 |[a,b,c,d,e]=>f a b c d e H Q
 |_=>False
theorem Rm {f:V→Hp→VK→Prop} {a:V} {H:Hp} {Q:VK} {E:XK}:m7 f [a] H Q E=f a H Q:=rfl
theorem Q3 {f:V→V→Hp→VK→Prop} {a b:V} {H:Hp} {Q:VK} {E:XK}:rX f [a,b] H Q E=f a b H Q:=rfl
section
variable {P:Program} {w:World} {K:PySem.W.Frag} {mg:Str→Option Value} {base:Heap}
theorem _root_.L2.G5.n4 {x qual p0:Str} {st:Stmt} {f:Addr} {fd:FuncData} {N:List Str} {k:Nat} {sp:V→Hp→VK→Prop} (F:G5 K x qual st f fd) (S:az N [p0] (aq st))
  (pF:∀(bJ:Value) (A:Around) (outer:List Env) (s:Shared) (H:Hp) (a:V) (Q:VK) (E:XK),je k (A.deeper (envOfC qual (aq st) s.heap.objs.size f bJ))→sp a H Q →
   ∃t,G7 (CW cI P w K mg base N qual (aq st) f bJ A outer s H E).Pj (gj st) t∧t { nx:=fun _ H'=>Q .de H',rt:=Q } (L2.start N [a]) H):aU P w K mg base cI (k+1) f fd [p0] (m7 sp) :=
 F.ok S (fun vs H Q E h=>match vs,h with
  |[_],_=>rfl) fun bJ A outer s H vs Q E hr h=>match vs,h with
  |[a],h=>pF bJ A outer s H a Q E hr h
theorem _root_.L2.G5.sE {x qual p0 p1:Str} {st:Stmt} {f:Addr} {fd:FuncData} {N:List Str} {k:Nat} {sp:V→V→Hp→VK→Prop} (F:G5 K x qual st f fd) (S:az N [p0,p1] (aq st))
  (pF:∀(bJ:Value) (A:Around) (outer:List Env) (s:Shared) (H:Hp) (a b:V) (Q:VK) (E:XK),je k (A.deeper (envOfC qual (aq st) s.heap.objs.size f bJ))→sp a b H Q →
   ∃t,G7 (CW cI P w K mg base N qual (aq st) f bJ A outer s H E).Pj (gj st) t∧t { nx:=fun _ H'=>Q .de H',rt:=Q } (L2.start N [a,b]) H):aU P w K mg base cI (k+1) f fd [p0,p1] (rX sp) :=
 F.ok S (fun vs H Q E h=>match vs,h with
  |[_,_],_=>rfl) fun bJ A outer s H vs Q E hr h=>match vs,h with
  |[a,b],h=>pF bJ A outer s H a b Q E hr h
theorem _root_.L2.G5.Bi {x qual p0 p1 p2:Str} {st:Stmt} {f:Addr} {fd:FuncData} {N:List Str} {k:Nat} {sp:V→V→V→Hp→VK→Prop} (F:G5 K x qual st f fd) (S:az N [p0,p1,p2] (aq st))
  (pF:∀(bJ:Value) (A:Around) (outer:List Env) (s:Shared) (H:Hp) (a b c:V) (Q:VK) (E:XK),je k (A.deeper (envOfC qual (aq st) s.heap.objs.size f bJ))→sp a b c H Q →
   ∃t,G7 (CW cI P w K mg base N qual (aq st) f bJ A outer s H E).Pj (gj st) t∧t { nx:=fun _ H'=>Q .de H',rt:=Q } (L2.start N [a,b,c]) H):aU P w K mg base cI (k+1) f fd [p0,p1,p2] (Cs sp) :=
 F.ok S (fun vs H Q E h=>match vs,h with
  |[_,_,_],_=>rfl) fun bJ A outer s H vs Q E hr h=>match vs,h with
  |[a,b,c],h=>pF bJ A outer s H a b c Q E hr h
theorem _root_.L2.G5.Ro {x qual p0 p1 p2 p3:Str} {st:Stmt} {f:Addr} {fd:FuncData} {N:List Str} {k:Nat} {sp:V→V→V→V→Hp→VK→Prop} (F:G5 K x qual st f fd) (S:az N [p0,p1,p2,p3] (aq st))
  (pF:∀(bJ:Value) (A:Around) (outer:List Env) (s:Shared) (H:Hp) (a b c d:V) (Q:VK) (E:XK),je k (A.deeper (envOfC qual (aq st) s.heap.objs.size f bJ))→sp a b c d H Q →
   ∃t,G7 (CW cI P w K mg base N qual (aq st) f bJ A outer s H E).Pj (gj st) t∧t { nx:=fun _ H'=>Q .de H',rt:=Q } (L2.start N [a,b,c,d]) H):aU P w K mg base cI (k+1) f fd [p0,p1,p2,p3] (Qx sp) :=
 F.ok S (fun vs H Q E h=>match vs,h with
  |[_,_,_,_],_=>rfl) fun bJ A outer s H vs Q E hr h=>match vs,h with
  |[a,b,c,d],h=>pF bJ A outer s H a b c d Q E hr h
theorem _root_.L2.G5.WC {x qual p0 p1 p2 p3 p4:Str} {st:Stmt} {f:Addr} {fd:FuncData} {N:List Str} {k:Nat} {sp:V→V→V→V→V→Hp→VK→Prop} (F:G5 K x qual st f fd) (S:az N [p0,p1,p2,p3,p4] (aq st))
  (pF:∀(bJ:Value) (A:Around) (outer:List Env) (s:Shared) (H:Hp) (a b c d e:V) (Q:VK) (E:XK),je k (A.deeper (envOfC qual (aq st) s.heap.objs.size f bJ))→sp a b c d e H Q →
   ∃t,G7 (CW cI P w K mg base N qual (aq st) f bJ A outer s H E).Pj (gj st) t∧t { nx:=fun _ H'=>Q .de H',rt:=Q } (L2.start N [a,b,c,d,e]) H):aU P w K mg base cI (k+1) f fd [p0,p1,p2,p3,p4] (V5 sp) :=
 F.ok S (fun vs H Q E h=>match vs,h with
  |[_,_,_,_,_],_=>rfl) fun bJ A outer s H vs Q E hr h=>match vs,h with
  |[a,b,c,d,e],h=>pF bJ A outer s H a b c d e Q E hr h
end
end Rp
end
section
namespace Rp
open PySem PySem.Spec PyProof.Rows L2 Pg
def uz (x0 x1:V):List (Str×V):=[("bounds",x0),("waits",x1)]
theorem nP {x0 x1:V}:(uz x0 x1).lookup ("bounds":Str)=some x0:=rfl
theorem o8 {x0 x1:V}:(uz x0 x1).lookup ("waits":Str)=some x1:=rfl
def iR (x0 x1:V):List (Str×V):=[("form",x0),("earlier",x1)]
theorem iu {x0 x1:V}:(iR x0 x1).lookup ("form":Str)=some x0:=rfl
theorem tf {x0 x1:V}:(iR x0 x1).lookup ("earlier":Str)=some x1:=rfl
def iJ (x0 x1 x2 x3 x4:V):List (Str×V):=[("net",x0),("horizon",x1),("ours",x2),("limit_rows",x3),("known",x4)]
theorem zT {x0 x1 x2 x3 x4:V}:(iJ x0 x1 x2 x3 x4).lookup ("net":Str)=some x0:=rfl
theorem Ba {x0 x1 x2 x3 x4:V}:(iJ x0 x1 x2 x3 x4).lookup ("horizon":Str)=some x1:=rfl
theorem FG {x0 x1 x2 x3 x4:V}:(iJ x0 x1 x2 x3 x4).lookup ("ours":Str)=some x2:=rfl
theorem vx {x0 x1 x2 x3 x4:V}:(iJ x0 x1 x2 x3 x4).lookup ("limit_rows":Str)=some x3:=rfl
theorem Dt {x0 x1 x2 x3 x4:V}:(iJ x0 x1 x2 x3 x4).lookup ("known":Str)=some x4:=rfl
theorem wW {x0 x1 x2 x3 x4:V}:(iJ x0 x1 x2 x3 x4).lookup ("do_we_win":Str)=none:=rfl
theorem o5 {x0 x1 x2 x3 x4:V}:(iJ x0 x1 x2 x3 x4).lookup ("does_nature_lose":Str)=none:=rfl
theorem rV {x0 x1 x2 x3 x4:V}:(iJ x0 x1 x2 x3 x4).lookup ("do_moves_lose":Str)=none:=rfl
theorem vO {x0 x1 x2 x3 x4:V}:(iJ x0 x1 x2 x3 x4).lookup ("look_ahead":Str)=none:=rfl
theorem uM {x0 x1 x2 x3 x4:V}:(iJ x0 x1 x2 x3 x4).lookup ("kept_window":Str)=none:=rfl
theorem ub {x0 x1 x2 x3 x4:V}:(iJ x0 x1 x2 x3 x4).lookup ("keeps_limits":Str)=none:=rfl
theorem rZ {x0 x1 x2 x3 x4:V}:(iJ x0 x1 x2 x3 x4).lookup ("coming_window":Str)=none:=rfl
def j2 (x0 x1 x2 x3:V):List (Str×V):=[("first",x0),("second",x1),("least",x2),("most",x3)]
theorem jU {x0 x1 x2 x3:V}:(j2 x0 x1 x2 x3).lookup ("first":Str)=some x0:=rfl
theorem jo {x0 x1 x2 x3:V}:(j2 x0 x1 x2 x3).lookup ("second":Str)=some x1:=rfl
theorem jT {x0 x1 x2 x3:V}:(j2 x0 x1 x2 x3).lookup ("least":Str)=some x2:=rfl
theorem lD {x0 x1 x2 x3:V}:(j2 x0 x1 x2 x3).lookup ("most":Str)=some x3:=rfl
theorem yY {x0 x1 x2 x3:V}:(j2 x0 x1 x2 x3).lookup ("is_kept":Str)=none:=rfl
def gI (x0 x1 x2 x3:V):List (Str×V):=[("cause",x0),("own",x1),("lo",x2),("hi",x3)]
theorem eN {x0 x1 x2 x3:V}:(gI x0 x1 x2 x3).lookup ("cause":Str)=some x0:=rfl
theorem dX {x0 x1 x2 x3:V}:(gI x0 x1 x2 x3).lookup ("own":Str)=some x1:=rfl
theorem iQ {x0 x1 x2 x3:V}:(gI x0 x1 x2 x3).lookup ("lo":Str)=some x2:=rfl
theorem j4 {x0 x1 x2 x3:V}:(gI x0 x1 x2 x3).lookup ("hi":Str)=some x3:=rfl
theorem jV {x0 x1 x2 x3:V}:(gI x0 x1 x2 x3).lookup ("is_under_way":Str)=none:=rfl
theorem nW {x0 x1 x2 x3:V}:(gI x0 x1 x2 x3).lookup ("may_move":Str)=none:=rfl
theorem mw {x0 x1 x2 x3:V}:(gI x0 x1 x2 x3).lookup ("must_move":Str)=none:=rfl
def fu (x0 x1 x2:V):List (Str×V):=[("names",x0),("limits",x1),("natures",x2)]
theorem iK {x0 x1 x2:V}:(fu x0 x1 x2).lookup ("names":Str)=some x0:=rfl
theorem GP {x0 x1 x2:V} {y:V}:g9 "names" y (fu x0 x1 x2)=fu y x1 x2:=rfl
theorem lE {x0 x1 x2:V}:(fu x0 x1 x2).lookup ("limits":Str)=some x1:=rfl
theorem DK {x0 x1 x2:V} {y:V}:g9 "limits" y (fu x0 x1 x2)=fu x0 y x2:=rfl
theorem di {x0 x1 x2:V}:(fu x0 x1 x2).lookup ("natures":Str)=some x2:=rfl
theorem Cc {x0 x1 x2:V} {y:V}:g9 "natures" y (fu x0 x1 x2)=fu x0 x1 y:=rfl
theorem me {x0 x1 x2:V}:(fu x0 x1 x2).lookup ("has_step":Str)=none:=rfl
theorem yz {x0 x1 x2:V}:(fu x0 x1 x2).lookup ("has_nature":Str)=none:=rfl
theorem o6 {x0 x1 x2:V}:(fu x0 x1 x2).lookup ("is_own":Str)=none:=rfl
theorem pT {x0 x1 x2:V}:(fu x0 x1 x2).lookup ("our_steps":Str)=none:=rfl
theorem nz {x0 x1 x2:V}:(fu x0 x1 x2).lookup ("first_times":Str)=none:=rfl
theorem qB {x0 x1 x2:V}:(fu x0 x1 x2).lookup ("are_limits_kept":Str)=none:=rfl
theorem wz {x0 x1 x2:V}:(fu x0 x1 x2).lookup ("with_limit":Str)=none:=rfl
theorem RV {x0 x1 x2:V}:(fu x0 x1 x2).length=3:=rfl
def dS (x0 x1 x2 x3:V):List (Str×V):=[("net",x0),("form",x1),("tick",x2),("times",x3)]
theorem Ao {x0 x1 x2 x3:V}:(dS x0 x1 x2 x3).lookup ("net":Str)=some x0:=rfl
theorem GA {x0 x1 x2 x3:V}:(dS x0 x1 x2 x3).lookup ("form":Str)=some x1:=rfl
theorem qL {x0 x1 x2 x3:V}:(dS x0 x1 x2 x3).lookup ("tick":Str)=some x2:=rfl
theorem GZ {x0 x1 x2 x3:V} {y:V}:g9 "tick" y (dS x0 x1 x2 x3)=dS x0 x1 y x3:=rfl
theorem uZ {x0 x1 x2 x3:V}:(dS x0 x1 x2 x3).lookup ("times":Str)=some x3:=rfl
theorem ja {x0 x1 x2 x3:V}:(dS x0 x1 x2 x3).lookup ("is_nature_allowed":Str)=none:=rfl
theorem oR {x0 x1 x2 x3:V}:(dS x0 x1 x2 x3).lookup ("pass_tick":Str)=none:=rfl
theorem wJ {x0 x1 x2 x3:V}:(dS x0 x1 x2 x3).lookup ("pass_idly":Str)=none:=rfl
theorem oC {x0 x1 x2 x3:V}:(dS x0 x1 x2 x3).lookup ("move_desk":Str)=none:=rfl
theorem sG {x0 x1 x2 x3:V}:(dS x0 x1 x2 x3).lookup ("doable_steps":Str)=none:=rfl
theorem uO {x0 x1 x2 x3:V}:(dS x0 x1 x2 x3).lookup ("can_be_done":Str)=none:=rfl
theorem sY {x0 x1 x2 x3:V}:(dS x0 x1 x2 x3).lookup ("allows_bound":Str)=none:=rfl
theorem tP {x0 x1 x2 x3:V}:(dS x0 x1 x2 x3).lookup ("is_wait_over":Str)=none:=rfl
theorem vI {x0 x1 x2 x3:V}:(dS x0 x1 x2 x3).lookup ("told_times":Str)=none:=rfl
theorem yZ {x0 x1 x2 x3:V}:(dS x0 x1 x2 x3).lookup ("is_ended":Str)=none:=rfl
theorem qR {x0 x1 x2 x3:V}:(dS x0 x1 x2 x3).lookup ("is_kept_so_far":Str)=none:=rfl
theorem Qv {x0 x1 x2 x3:V}:(dS x0 x1 x2 x3).length=4:=rfl
def kr (x0 x1 x2:V):List (Str×V):=[("net",x0),("wrong_line",x1),("reason",x2)]
theorem Dc {x0 x1 x2:V}:(kr x0 x1 x2).lookup ("net":Str)=some x0:=rfl
theorem rS {x0 x1 x2:V}:(kr x0 x1 x2).lookup ("wrong_line":Str)=some x1:=rfl
theorem x6 {x0 x1 x2:V}:(kr x0 x1 x2).lookup ("reason":Str)=some x2:=rfl
def bx (x0 x1 x2:V):List (Str×V):=[("net",x0),("judgement",x1),("play",x2)]
theorem sO {x0 x1 x2:V}:(bx x0 x1 x2).lookup ("net":Str)=some x0:=rfl
theorem HV {x0 x1 x2:V} {y:V}:g9 "net" y (bx x0 x1 x2)=bx y x1 x2:=rfl
theorem yj {x0 x1 x2:V}:(bx x0 x1 x2).lookup ("judgement":Str)=some x1:=rfl
theorem oq {x0 x1 x2:V} {y:V}:g9 "judgement" y (bx x0 x1 x2)=bx x0 y x2:=rfl
theorem Fj {x0 x1 x2:V}:(bx x0 x1 x2).lookup ("play":Str)=some x2:=rfl
theorem yK {x0 x1 x2:V} {y:V}:g9 "play" y (bx x0 x1 x2)=bx x0 x1 y:=rfl
theorem Cn {x0 x1 x2:V}:(bx x0 x1 x2).lookup ("answer":Str)=none:=rfl
theorem qU {x0 x1 x2:V}:(bx x0 x1 x2).lookup ("answer_further":Str)=none:=rfl
theorem yV {x0 x1 x2:V}:(bx x0 x1 x2).lookup ("take_net":Str)=none:=rfl
theorem xQ {x0 x1 x2:V}:(bx x0 x1 x2).lookup ("show_text":Str)=none:=rfl
theorem nR {x0 x1 x2:V}:(bx x0 x1 x2).lookup ("judged":Str)=none:=rfl
theorem wQ {x0 x1 x2:V}:(bx x0 x1 x2).lookup ("tell_sure":Str)=none:=rfl
theorem lT {x0 x1 x2:V}:(bx x0 x1 x2).lookup ("refuse_steps":Str)=none:=rfl
theorem wb {x0 x1 x2:V}:(bx x0 x1 x2).lookup ("tell_bound":Str)=none:=rfl
theorem xi {x0 x1 x2:V}:(bx x0 x1 x2).lookup ("tell_wait":Str)=none:=rfl
theorem zG {x0 x1 x2:V}:(bx x0 x1 x2).lookup ("tell_far":Str)=none:=rfl
theorem rO {x0 x1 x2:V}:(bx x0 x1 x2).lookup ("tell_tightest":Str)=none:=rfl
theorem r6 {x0 x1 x2:V}:(bx x0 x1 x2).lookup ("tell_if_limit":Str)=none:=rfl
theorem yf {x0 x1 x2:V}:(bx x0 x1 x2).lookup ("tell_game":Str)=none:=rfl
theorem vK {x0 x1 x2:V}:(bx x0 x1 x2).lookup ("begin_play":Str)=none:=rfl
theorem qu {x0 x1 x2:V}:(bx x0 x1 x2).lookup ("pass_tick_with":Str)=none:=rfl
theorem AM {x0 x1 x2:V}:(bx x0 x1 x2).lookup ("idle_on":Str)=none:=rfl
theorem wc {x0 x1 x2:V}:(bx x0 x1 x2).lookup ("tell_state":Str)=none:=rfl
theorem yr {x0 x1 x2:V}:(bx x0 x1 x2).lookup ("tell_kept":Str)=none:=rfl
theorem FU {x0 x1 x2:V}:(bx x0 x1 x2).length=3:=rfl
end Rp
end
section
namespace L2
open PySem PySem.Spec PyProof.Rows
section
variable {X:Cx}
theorem ve.imp {f:Value→Value→Sem Value} {r r':R2} (h:ve X f r) (i:∀x y H Q,r' x y H Q→r x y H Q):ve X f r':=fun pins s σ H x y v u Q I rx ry q=>h pins s σ H x y v u Q I rx ry (i _ _ _ _ q)
theorem jI.imp {f:Value} {r r':List V→Hp→VK→Prop} (h:jI X f r) (i:∀xs H Q,r' xs H Q→r xs H Q):jI X f r':=fun pins s σ H xs us Q I rx q=>h pins s σ H xs us Q I rx (i _ _ _ q)
theorem Ln.imp {r r':R2} (h:Ln X r) (i:∀x y H Q,r' x y H Q→r x y H Q):Ln X r':=fun value slice pins s σ H x y v u Q I rx ry q hs=>h value slice pins s σ H x y v u Q I rx ry (i _ _ _ _ q) hs
theorem T2.imp {r r':V→Option Int→Option Int→Hp→VK→Prop} (h:T2 X r) (i:∀x lo hi H Q,r' x lo hi H Q→r x lo hi H Q):T2 X r':=fun pins s σ H x v vl vu lo hi sl Q I rx a b c q=>h pins s σ H x v vl vu lo hi sl Q I rx a b c (i _ _ _ _ _ q)
def f3 (Q:VK) (H:Hp) (o:Option V):Prop:=match o with|some v=>Q v H|_=>False
theorem f3_e {Q H o} (h:f3 Q H o):∃v,o=some v∧Q v H:=by
 cases o with
 |none=>exact h.elim
 |some v=>exact ⟨v,rfl,h⟩
def f2 (i:Int) (Q:VK) (H:Hp) (o:Option HO):Prop:=match o with|some (.lst xs)=>f3 Q H (iz xs i)|some (.tup xs)=>f3 Q H (iz xs i)|_=>False
def UQ:R2:=fun x y H Q=>match x,y with|.ref p,.int i=>f2 i Q H (H p)|_,_=>False
theorem UQ_e {x y H Q} (h:UQ x y H Q):∃p i xs,x=.ref p∧y=.int i∧(H p=some (.lst xs)∨H p=some (.tup xs))∧∃v,iz xs i=some v∧Q v H:=by
 cases x with
 |ref p=>
  cases y with
  |int i=>
   have h:f2 i Q H (H p):=h
   cases e:H p with
   |none=>rw [e] at h;exact h.elim
   |some o=>
    rw [e] at h
    cases o with
    |lst xs=>exact ⟨p,i,xs,rfl,rfl,.inl e,f3_e h⟩
    |tup xs=>exact ⟨p,i,xs,rfl,rfl,.inr e,f3_e h⟩
    |_=>exact h.elim
  |_=>exact h.elim
 |_=>exact (show False from by cases y<;>exact h).elim
theorem fz:Ln X UQ:=N4.imp fun x y H Q z=>have ⟨p,i,xs,e1,e2,h,v,e,q⟩:=UQ_e z;h.elim (fun h=>.inl ⟨p,xs,i,v,e1,e2,.of h,e,q⟩) fun h=>.inr (.inl ⟨p,xs,i,v,e1,e2,.of h,e,q⟩)
def Rh:List V→Hp→VK→Prop:=fun vs H Q=>∃p ys,vs=[.ref p]∧(H p=some (.lst ys)∨H p=some (.tup ys))∧Q (.int ys.length) H
theorem nY:jI X (.builtin "len") Rh:=qO.imp fun vs H Q z1=>(by obtain ⟨p,ys,e,h,q⟩:=z1;exact ⟨p,ys,e,h.elim (fun h=>.inl (.of h)) fun h=>.inr (.of h),q⟩)
def Oz:List V→Hp→VK→Prop:=fun vs H Q=>∃p ys,vs=[.ref p]∧(H p=some (.lst ys)∨H p=some (.tup ys))∧∀l,H l=none→Q (.ref l) (upd H l (.lst ys))
theorem Lf:jI X (.type "list") Oz:=yA.imp fun vs H Q z1=>(by obtain ⟨p,ys,e,h,q⟩:=z1;exact ⟨p,ys,e,h.elim (fun h=>.inl (.of h)) fun h=>.inr (.of h),q⟩)
def K2:List V→Hp→VK→Prop:=fun vs H Q=>∃p ys,vs=[.ref p]∧H p=some (.lst ys)∧∀l,H l=none→Q (.ref l) (upd H l (.tup ys))
theorem Fi:jI X (.type "tuple") K2:=DG.imp fun vs H Q z1=>(by obtain ⟨p,ys,e,h,q⟩:=z1;exact ⟨p,ys,e,.inl ⟨.of h,q⟩⟩)
def Si (neg:Bool):R2:=fun x y H Q=>∃p xs,y=.ref p∧(H p=some (.lst xs)∨H p=some (.tup xs))∧oG x=true∧xs.all oG=true∧Q (.bl (if neg then !LI x xs else LI x xs)) H
theorem Vc:ve X (compareOp .In) (Si false):=Ma.imp fun x y H Q z1=>(by obtain ⟨p,xs,e,h,q⟩:=z1;exact ⟨p,xs,e,h.elim (fun h=>.inl (.of h)) fun h=>.inr (.of h),q⟩)
theorem Ks:ve X (compareOp .NotIn) (Si true):=Ga.imp fun x y H Q z1=>(by obtain ⟨p,xs,e,h,q⟩:=z1;exact ⟨p,xs,e,h.elim (fun h=>.inl (.of h)) fun h=>.inr (.of h),q⟩)
def Rt:List V→Hp→VK→Prop:=fun vs H Q=>∃(a:Addr) (bs:List Bool),vs=[V.ref a]∧H a=some (.lst (bs.map V.bl))∧Q (.bl (bs.any id)) H
def Ra:List V→Hp→VK→Prop:=fun vs H Q=>∃(a:Addr) (bs:List Bool),vs=[V.ref a]∧H a=some (.lst (bs.map V.bl))∧Q (.bl (bs.all id)) H
theorem VA (hc:X.calm=true):jI X (.builtin "any") Rt:=(RX hc).imp fun vs H Q z1=>(by obtain ⟨a,bs,e,h,q⟩:=z1;exact ⟨a,bs,e,.of h,q⟩)
theorem all2 (hc:X.calm=true):jI X (.builtin "all") Ra:=(S1 hc).imp fun vs H Q z1=>(by obtain ⟨a,bs,e,h,q⟩:=z1;exact ⟨a,bs,e,.of h,q⟩)
theorem Hy {a:Addr} {H:Hp} {Q:VK} (bs:List Bool) {ys:List V} (h:H a=some (.lst ys)) (e:ys=bs.map V.bl) (q:Q (.bl (bs.any id)) H):Rt [.ref a] H Q:=⟨a,bs,rfl,by rw [h,e],q⟩
theorem ph {a:Addr} {H:Hp} {Q:VK} (bs:List Bool) {ys:List V} (h:H a=some (.lst ys)) (e:ys=bs.map V.bl) (q:Q (.bl (bs.all id)) H):Ra [.ref a] H Q:=⟨a,bs,rfl,by rw [h,e],q⟩
def VZ:V→Option Int→Option Int→Hp→VK→Prop:=fun x lo hi H Q=>∃a xs,x=.ref a∧H a=some (.lst xs)∧∀p,H p=none→Q (.ref p) (upd H p (.lst (xG xs lo hi)))
theorem TX:T2 X VZ:=Gn.imp fun x lo hi H Q z1=>(by obtain ⟨a,xs,e,h,q⟩:=z1;exact ⟨a,xs,e,.of h,q⟩)
def f5 (C:Addr) (f:Str) (Q:VK) (H1:Hp) (o:Option HO):Prop:=∃dx fs,o=some (.ins C dx fs)∧f3 Q H1 (fs.lookup f)
def f4 (C:Addr) (f:Str) (Q:VK) (x:V) (H1:Hp):Prop:=match x with|.ref a=>f5 C f Q H1 (H1 a)|_=>False
theorem f4_e {C f Q x H} (h:f4 C f Q x H):∃a dx fs v,x=.ref a∧H a=some (.ins C dx fs)∧fs.lookup f=some v∧Q v H:=by
 cases x with
 |ref a=>
  obtain ⟨dx,fs,e,h⟩:=(h:f5 C f Q H (H a));obtain ⟨v,l,q⟩:=f3_e h;exact ⟨a,dx,fs,v,rfl,e,l,q⟩
 |_=>exact h.elim
def N3 (C:Addr) (ta:TE) (f:Str):TE:=fun σ H Q=>ta σ H (f4 C f Q)
theorem ai {e:Expr} {f:Str} {pos:Pos} {ta:TE} {C:Addr} (c:Na X.K C) (n:b7 X.K C f) (he:PE X e ta) (hb:attributeBase e f X.env (eval e X.env)=eval e X.env:=by rfl):PE X (.Attribute e f pos) (N3 C ta f):=by
 intro pins s σ H Q I h;refine Qp hb (fm (he pins s σ H _ I h) fun u s1 z1=>?_);obtain ⟨x,H1,I1,rx,z⟩:=z1;obtain ⟨a,dx,fs,v,ex,ea,l,q⟩:=f4_e z;subst ex;obtain rfl:u=Value.ref a:=rx;exact BQ I1 ea c n l fun u' s2 I2 ru=>⟨v,H1,I2,ru,q⟩
def Rq (C:Addr) (ta tv:TE) (f:Str):TS:=fun D σ H=>tv σ H fun y H1=>ta σ H1 fun x H2=>∃a dx fs,x=.ref a∧H2 a=some (.ins C dx fs)∧fs.length<1000∧D.nx σ (upd H2 a (.ins C dx (g9 f y fs)))
theorem bC {o value:Expr} {f:Str} {pos pos':Pos} {ta tv:TE} {C:Addr} (c:Na X.K C) (n:b7 X.K C f) (ha:PE X o ta) (hv:PE X value tv) (hs:swapsWith value (some (.Attribute o f pos')) pos.line X.env=pure false:=by rfl):PS X (.Assign [.Attribute o f pos'] value pos) (Rq C ta tv f):=by
 intro pins s σ H D I h;refine plainObj_wpAny_Assign_Attribute (fm (hv pins s σ H _ I h) fun u s1 ⟨y,H1,I1,ry,q⟩=>fm (ha pins s1 σ H1 _ I1 q) fun ov s2 z1=>?_) hs;obtain ⟨x,H2,I2,rx,a,dx,fs,ex,ea,l,q2⟩:=z1;subst ex;obtain rfl:ov=Value.ref a:=rx;exact BN I2 ea c n l ry fun s3 I3=>⟨σ, _,I3,q2⟩
def Hk (C:Addr) (ta tv:TE) (f:Str):TS:=fun D σ H=>ta σ H fun x H1=>∃a dx fs i,x=.ref a∧H1 a=some (.ins C dx fs)∧fs.lookup f=some (.int i)∧fs.length<1000∧tv σ H1 fun y H2=>∃j,y=.int j∧H2=H1∧D.nx σ (upd H1 a (.ins C dx (g9 f (.int (i+j)) fs)))
theorem Ku {C:Addr} {ta tv:TE} {f:Str} {D:Ends} {σ:L2.St} {H:Hp}:Hk C ta tv f D σ H=(ta σ H fun x H1=>∃a dx fs i,x=.ref a∧H1 a=some (.ins C dx fs)∧fs.lookup f=some (.int i)∧fs.length<1000∧tv σ H1 fun y H2=>∃j,y=.int j∧H2=H1∧D.nx σ (upd H1 a (.ins C dx (g9 f (.int (i+j)) fs)))):=rfl
theorem K1 {o value:Expr} {f:Str} {pos wx:Pos} {ta tv:TE} {C:Addr} (c:Na X.K C) (n:b7 X.K C f) (ha:PE X o ta) (hv:PE X value tv):PS X (.AugAssign (.Attribute o f wx) .Add value pos) (Hk C ta tv f):=by
 intro pins s σ H D I h;refine wpAny_AugAssign_AttributeAny (fm (ha pins s σ H _ I h) fun ov s1 z1=>?_);obtain ⟨x,H1,I1,rx,a,dx,fs,i,ex,ea,l,hl,q⟩:=z1;subst ex;obtain rfl:ov=Value.ref a:=rx;refine BQ I1 ea c n l fun u s2 I2 ru=>fm (hv pins s2 σ H1 _ I2 q) fun w3 s3 z1=>?_;obtain ⟨y,H2,I3,ry,j,ey,eH,q3⟩:=z1;subst ey eH;obtain ⟨t,rfl⟩:=ru;obtain ⟨t',rfl⟩:=ry;refine iadd_int ?_;exact BN (I3.tok _) ea c n hl (show RelV (.int (i+j)) _ from ⟨_,rfl⟩) fun s5 I5=>⟨σ, _,I5,q3⟩
def Q8 (n:Nat) (t:NR):TG:=fun v σ H Q=>∃a xs,v=.ref a∧H a=some (.tup xs)∧xs.length=n∧t xs σ H Q
theorem fB {es:List Expr} {k:Nat} {t:NR} {n:Nat} {pos:Pos} (hc:X.calm=true) (h:UA X es t)
  (hn:(assignEach es X.env).length=n:=by rfl) (VG:(assignEach es X.env).findIdx? (·.1)=none:=by rfl):PG X (.Tuple es k pos) (Q8 n t):=by
 intro pins s σ H v u Q I r hw;obtain ⟨a,xs,e1,hq,hl,hw⟩:=hw;exact Sh hc h hn VG pins s σ H v u Q I r ⟨a,xs,e1,.of hq,hl,hw⟩
def UE (r:V→List V→Hp→VK→Prop) (to:TE) (t:TA):TE:=fun σ H Q=>to σ H fun x H1=>∃p,x=.ref p∧(∃ys,H1 p=some (.lst ys))∧t σ H1 fun xs H2=>r x xs H2 Q
theorem d6 {o e:Expr} {es:List Expr} {to:TE} {t:TA} {name:Str} {apos oT:Pos} {id:String} {r:V→List V→Hp→VK→Prop} (slot:Slot "list" name id) (Uj:typeOf (.builtin id)=pure (.type "method_descriptor")) (hm:YZ X id r) (ho:PE X o to) (ha:PA X (e::es) t)
  (Wc:attributeBase o name X.env (eval o X.env)=eval o X.env:=by rfl)
  (Xf:((backTo oT (starEach (e::es) X.env)).all (fun x=> !x.1)&&(backToKw oT (keywordEach [] X.env)).all (fun x=>x.1.isSome)
   &&decide ((e::es).length+([]:List Keyword).length+(if ([]:List Keyword).isEmpty then 0 else 1)<30))=true:=by rfl)
  (Ut:(apos.endLine==oT.line)=true:=by rfl) (hs:starEach (e::es) X.env=(false,eval e X.env)::starEach es X.env:=by rfl) (Sx:(backTo oT (starEach es X.env)).any (·.1)=false:=by rfl) :
  PE X (.Call (.Attribute o name apos) (e::es) [] oT) (UE r to t):=by
 intro pins s σ H Q I h;refine wpAny_Call_method_late Wc Xf Ut rfl (fm (ho pins s σ H _ I h) fun v s1 z1=>?_);obtain ⟨x,H1,I1,r1,p,ex,⟨ys,hp⟩,q1⟩:=z1;subst ex;obtain ⟨h1,h2⟩:=RH (T:="list") I1 r1 (.inl ⟨rfl,ys,.of hp⟩);refine ⟨"list",id,PySem.F.plainAttrs_list,slot,Uj,h1,h2,?_⟩;have hA:=ha oT pins s1 σ H1 _ I1 q1;rw [hs] at hA ⊢;refine Calls.callWith_builtin (by show (false||(backTo oT (starEach es X.env)).any (·.1))=false;rw [Sx]<;>rfl) (Calls.evalArgs_plain ?_);exact fm hA fun us s2 z1=>(by obtain ⟨vs,H2,I2,r2,q2⟩:=z1;exact hm pins s2 σ H2 _ vs v us Q I2 r1 r2 q2)
def Ze (K:PySem.W.Frag) (tl:TE):TI:=fun σ H R=>tl σ H fun x H1=>∃a,x=.ref a∧(∃xs,H1 a=some (.lst xs))∧R (Tn K a) H1
theorem fg {tg l:Expr} {tl:TE} (hl:PE X l tl):PI X tg l (Ze X.K tl):=by
 intro pins s σ H R I h;refine fm (hl pins s σ H _ I h) fun v s1 z1=>?_;obtain ⟨x,H1,I1,r1,q1⟩:=z1;obtain ⟨a,e,⟨xs,hq⟩,q⟩:=q1;subst e
 cases r1;obtain ⟨bI,rv,p,hz⟩:=I1.list (.of hq);refine wpAny_pyIter_list p.isList ?_;refine ⟨s1.heap.objs.size,[s1.heap.objs.size],_,_,H1,rfl,I1.kept (t':=s1.toks) fun b o e=>Heap.get?_push_of_some _ e,EZ a _,⟨_,Heap.get?_push_size _ rfl,rfl,rfl⟩,fun b hb=>?_,q⟩;have e:b=s1.heap.objs.size:=by simpa using hb
 subst e;exact I1.Fw (Nat.le_refl _) (I1.cZ.fresh (Nat.le_refl _))
end
end L2
end
section
namespace L2
open PySem PySem.Spec PyProof.Rows
structure Dn {α:Type} (k:α):Type where
def gR_ {k:Addr→Prop} (u:Dn k) (x:V):Prop:=match x with|.ref a=>k a|_=>False
theorem gR_e {k:Addr→Prop} {u x}:@gR_ k u x=∃a,x=.ref a∧k a:=by cases x<;>simp [gR_]
theorem gR_s {k:Addr→Prop} {u a}:@gR_ k u (.ref a)=k a:=rfl
def gI_ {k:Int→Prop} (u:Dn k) (x:V):Prop:=match x with|.int a=>k a|_=>False
theorem gI_e {k:Int→Prop} {u x}:@gI_ k u x=∃a,x=.int a∧k a:=by cases x<;>simp [gI_]
theorem gI_s {k:Int→Prop} {u a}:@gI_ k u (.int a)=k a:=rfl
def gB_ {k:Bool→Prop} (u:Dn k) (x:V):Prop:=match x with|.bl a=>k a|_=>False
theorem gB_e {k:Bool→Prop} {u x}:@gB_ k u x=∃a,x=.bl a∧k a:=by cases x<;>simp [gB_]
theorem gB_s {k:Bool→Prop} {u a}:@gB_ k u (.bl a)=k a:=rfl
def gL_ {k:List V→Prop} (u:Dn k) (x:HO):Prop:=match x with|.lst a=>k a|_=>False
theorem gL_e {k:List V→Prop} {u x}:@gL_ k u x=∃a,x=.lst a∧k a:=by cases x<;>simp [gL_]
theorem gL_s {k:List V→Prop} {u a}:@gL_ k u (.lst a)=k a:=rfl
def gT_ {k:List V→Prop} (u:Dn k) (x:HO):Prop:=match x with|.tup a=>k a|_=>False
theorem gT_e {k:List V→Prop} {u x}:@gT_ k u x=∃a,x=.tup a∧k a:=by cases x<;>simp [gT_]
theorem gT_s {k:List V→Prop} {u a}:@gT_ k u (.tup a)=k a:=rfl
def gO_ {α:Type} {k:α→Prop} (u:Dn k) (x:Option α):Prop:=match x with|some a=>k a|none=>False
theorem gO_e {α:Type} {k:α→Prop} {u x}:@gO_ α k u x=∃a,x=some a∧k a:=by cases x<;>simp [gO_]
theorem gO_s {α:Type} {k:α→Prop} {u a}:@gO_ α k u (some a)=k a:=rfl
def gN_ (C:Addr) {k:Addr→List (Str×V)→Prop} (u:Dn k) (x:HO):Prop:=∃d f,x=.ins C d f∧k d f
theorem gN_e {C:Addr} {k:Addr→List (Str×V)→Prop} {u x}:@gN_ C k u x=∃d f,x=.ins C d f∧k d f:=rfl
theorem gN_s {C:Addr} {k:Addr→List (Str×V)→Prop} {u d f}:@gN_ C k u (.ins C d f)=k d f:=propext ⟨fun z1=>(by obtain ⟨_,_,e,h⟩:=z1;cases e;exact h),fun h=>⟨d,f,rfl,h⟩⟩
def gQ_ {k:List V→Prop} (u:Dn k) (x:HO):Prop:=match x with|.lst a=>k a|.tup a=>k a|_=>False
theorem gQ_e {k:List V→Prop} {u x}:@gQ_ k u x=∃a,(x=.lst a∨x=.tup a)∧k a:=by cases x<;>simp [gQ_]
theorem gQ_s {k:List V→Prop} {u a}:@gQ_ k u (.lst a)=k a:=rfl
theorem gQ_t {k:List V→Prop} {u a}:@gQ_ k u (.tup a)=k a:=rfl
def g1_ {k:V→Prop} (u:Dn k) (x:List V):Prop:=match x with|[a]=>k a|_=>False
theorem g1_e {k:V→Prop} {u x}:@g1_ k u x=∃a,x=[a]∧k a:=by rcases x with _|⟨a,_|⟨b,x⟩⟩<;>simp [g1_]
theorem g1_s {k:V→Prop} {u a}:@g1_ k u [a]=k a:=rfl
def g2_ {k:V→V→Prop} (u:Dn k) (x:List V):Prop:=match x with|[a,b]=>k a b|_=>False
theorem g2_e {k:V→V→Prop} {u x}:@g2_ k u x=∃a b,x=[a,b]∧k a b:=by
 rcases x with _|⟨a,_|⟨b,_|⟨c,x⟩⟩⟩<;>simp [g2_]
 exact ⟨fun h=>⟨_,_,⟨rfl,rfl⟩,h⟩,fun z1=>(by obtain ⟨_,_,⟨e,e'⟩,h⟩:=z1;exact e▸e'▸h)⟩
theorem g2_s {k:V→V→Prop} {u a b}:@g2_ k u [a,b]=k a b:=rfl
def gC_ {k:V→List V→Prop} (u:Dn k) (x:List V):Prop:=match x with|a::b=>k a b|_=>False
theorem gC_e {k:V→List V→Prop} {u x}:@gC_ k u x=∃a b,x=a::b∧k a b:=by
 rcases x with _|⟨a,x⟩<;>simp [gC_]
 exact ⟨fun h=>⟨_,_,⟨rfl,rfl⟩,h⟩,fun z1=>(by obtain ⟨_,_,⟨e,e'⟩,h⟩:=z1;exact e▸e'▸h)⟩
theorem gC_s {k:V→List V→Prop} {u a b}:@gC_ k u (a::b)=k a b:=rfl
theorem ge0 {α:Type} {a:α} {r}:(a::r)[0]?=some a:=rfl
theorem se0 {α:Type} {a x:α} {r}:(a::r).set 0 x=x::r:=rfl
theorem ge1 {α:Type} {a b:α} {r}:(a::b::r)[1]?=some b:=rfl
theorem se1 {α:Type} {a b x:α} {r}:(a::b::r).set 1 x=a::x::r:=rfl
theorem ge2 {α:Type} {a b c:α} {r}:(a::b::c::r)[2]?=some c:=rfl
theorem se2 {α:Type} {a b c x:α} {r}:(a::b::c::r).set 2 x=a::b::x::r:=rfl
theorem ge3 {α:Type} {a b c d:α} {r}:(a::b::c::d::r)[3]?=some d:=rfl
theorem se3 {α:Type} {a b c d x:α} {r}:(a::b::c::d::r).set 3 x=a::b::c::x::r:=rfl
theorem ge4 {α:Type} {a b c d e:α} {r}:(a::b::c::d::e::r)[4]?=some e:=rfl
theorem se4 {α:Type} {a b c d e x:α} {r}:(a::b::c::d::e::r).set 4 x=a::b::c::d::x::r:=rfl
theorem ge5 {α:Type} {a b c d e f:α} {r}:(a::b::c::d::e::f::r)[5]?=some f:=rfl
theorem se5 {α:Type} {a b c d e f x:α} {r}:(a::b::c::d::e::f::r).set 5 x=a::b::c::d::e::x::r:=rfl
theorem ge6 {α:Type} {a b c d e f g:α} {r}:(a::b::c::d::e::f::g::r)[6]?=some g:=rfl
theorem se6 {α:Type} {a b c d e f g x:α} {r}:(a::b::c::d::e::f::g::r).set 6 x=a::b::c::d::e::f::x::r:=rfl
theorem ge7 {α:Type} {a b c d e f g h:α} {r}:(a::b::c::d::e::f::g::h::r)[7]?=some h:=rfl
theorem se7 {α:Type} {a b c d e f g h x:α} {r}:(a::b::c::d::e::f::g::h::r).set 7 x=a::b::c::d::e::f::g::x::r:=rfl
theorem ge8 {α:Type} {a b c d e f g h i:α} {r}:(a::b::c::d::e::f::g::h::i::r)[8]?=some i:=rfl
theorem se8 {α:Type} {a b c d e f g h i x:α} {r}:(a::b::c::d::e::f::g::h::i::r).set 8 x=a::b::c::d::e::f::g::h::x::r:=rfl
theorem ge9 {α:Type} {a b c d e f g h i j:α} {r}:(a::b::c::d::e::f::g::h::i::j::r)[9]?=some j:=rfl
theorem se9 {α:Type} {a b c d e f g h i j x:α} {r}:(a::b::c::d::e::f::g::h::i::j::r).set 9 x=a::b::c::d::e::f::g::h::i::x::r:=rfl
theorem xw' {t:TG} {u:NR} {vs σ H Q}:QU t u vs σ H Q=@gC_ (fun v r=>t v σ H fun σ' H'=>u r σ' H' Q) ⟨⟩ vs:=by simp only [gC_e];rfl
theorem Fd' {ta:TA} {σ H R}:Rx ta σ H R=(ta σ H fun vs H1=>@g1_ (fun v=>@gI_ (fun j=> -(2 ^ 62)≤j∧j<2 ^ 62∧R (RZ 0 j.toNat) H1) ⟨⟩ v) ⟨⟩ vs):=by simp only [gI_e,g1_e];exact congrArg (ta σ H) (funext fun vs=>funext fun H1=>propext ⟨fun z1=>(by obtain ⟨j,e,h⟩:=z1;exact ⟨_,e,j,rfl,h⟩),fun z1=>(by obtain ⟨_,e,j,e',h⟩:=z1;exact ⟨j,e'▸e,h⟩)⟩)
theorem Gd' {o i v H Q}:Q7 o i v H Q=@gR_ (fun p=>@gI_ (fun k=>@gO_ _ (fun z=>@gL_ (fun xs=>∃j,Pc xs.length k=some j∧Q (upd H p (.lst (xs.set j v)))) ⟨⟩ z) ⟨⟩ (H p)) ⟨⟩ i) ⟨⟩ o:=by simp only [gR_e,gI_e,gL_e,gO_e];exact propext ⟨fun z1=>(by obtain ⟨p,xs,k,j,e1,e2,e3,h⟩:=z1;exact ⟨p,e1,k,e2,_,e3,xs,rfl,j,h⟩),fun z1=>(by obtain ⟨p,e1,k,e2,_,e3,xs,e,j,h⟩:=z1;exact ⟨p,xs,k,j,e1,e2,e▸e3,h⟩)⟩
theorem mY' {x vs H Q}:LA x vs H Q=@gR_ (fun l=>@g1_ (fun y=>@gO_ _ (fun z=>@gL_ (fun xs=>xs.length<sizeLine∧Q .de (upd H l (.lst (xs++[y])))) ⟨⟩ z) ⟨⟩ (H l)) ⟨⟩ vs) ⟨⟩ x:=by simp only [gR_e,gL_e,gO_e,g1_e];exact propext ⟨fun z1=>(by obtain ⟨l,xs,y,e1,e2,e3,h⟩:=z1;exact ⟨l,e1,y,e2,_,e3,xs,rfl,h⟩),fun z1=>(by obtain ⟨l,e1,y,e2,_,e3,xs,e,h⟩:=z1;exact ⟨l,xs,y,e1,e2,e▸e3,h⟩)⟩
theorem Tu' {K:PySem.W.Frag} {ta:TA} {σ H R}:VU K ta σ H R=(ta σ H fun vs H1=>@g2_ (fun x y=>@gR_ (fun a=>@gR_ (fun b=>∃xs ys,kd K H1 a xs∧kd K H1 b ys∧R (WV K a b) H1) ⟨⟩ y) ⟨⟩ x) ⟨⟩ vs):=by simp only [gR_e,g2_e];exact congrArg (ta σ H) (funext fun vs=>funext fun H1=>propext ⟨fun z1=>(by obtain ⟨a,b,xs,ys,e,h⟩:=z1;exact ⟨_,_,e,a,rfl,b,rfl,xs,ys,h⟩),fun z1=>(by obtain ⟨_,_,e,a,e1,b,e2,xs,ys,h⟩:=z1;exact ⟨a,b,xs,ys,e1▸e2▸e,h⟩)⟩)
theorem Ic' {vs:List V} {H:Hp} {Q:VK}:Oz vs H Q=@g1_ (fun x=>@gR_ (fun p=>@gO_ _ (fun z=>@gQ_ (fun ys=>∀l,H l=none→Q (.ref l) (upd H l (.lst ys))) ⟨⟩ z) ⟨⟩ (H p)) ⟨⟩ x) ⟨⟩ vs:=by simp only [gR_e,gO_e,gQ_e,g1_e];exact propext ⟨fun z1=>(by obtain ⟨p,xs,e1,e3,h⟩:=z1;exact ⟨_,e1,p,rfl,e3.elim (fun e=>⟨_,e,xs,.inl rfl,h⟩) fun e=>⟨_,e,xs,.inr rfl,h⟩⟩),fun z1=>(by obtain ⟨_,e1,p,e2,_,e3,xs,e,h⟩:=z1;exact ⟨p,xs,e2▸e1,e.elim (fun e=>.inl (e▸e3)) fun e=>.inr (e▸e3),h⟩)⟩
theorem CU' {neg:Bool} {x y:V} {H:Hp} {Q:VK}:Si neg x y H Q=@gR_ (fun p=>@gO_ _ (fun z=>@gQ_ (fun xs=>oG x=true∧xs.all oG=true∧Q (.bl (if neg then !LI x xs else LI x xs)) H) ⟨⟩ z) ⟨⟩ (H p)) ⟨⟩ y:=by simp only [gR_e,gO_e,gQ_e];exact propext ⟨fun z1=>(by obtain ⟨p,xs,e1,e3,h⟩:=z1;exact ⟨p,e1,e3.elim (fun e=>⟨_,e,xs,.inl rfl,h⟩) fun e=>⟨_,e,xs,.inr rfl,h⟩⟩),fun z1=>(by obtain ⟨p,e1,_,e3,xs,e,h⟩:=z1;exact ⟨p,xs,e1,e.elim (fun e=>.inl (e▸e3)) fun e=>.inr (e▸e3),h⟩)⟩
theorem xk' {n:Nat} {t:NR} {v:V} {σ:L2.St} {H:Hp} {Q:L2.St→Hp→Prop}:Q8 n t v σ H Q=@gR_ (fun a=>@gO_ _ (fun z=>@gT_ (fun xs=>xs.length=n∧t xs σ H Q) ⟨⟩ z) ⟨⟩ (H a)) ⟨⟩ v:=by simp only [gR_e,gT_e,gO_e];exact propext ⟨fun z1=>(by obtain ⟨a,xs,e1,e2,h⟩:=z1;exact ⟨a,e1,_,e2,xs,rfl,h⟩),fun z1=>(by obtain ⟨a,e1,_,e2,xs,e,h⟩:=z1;exact ⟨a,xs,e1,e▸e2,h⟩)⟩
theorem zA' {r:V→List V→Hp→VK→Prop} {to:TE} {t:TA} {σ:L2.St} {H:Hp} {Q:VK}:UE r to t σ H Q=(to σ H fun x H1=>@gR_ (fun p=>(∃ys,H1 p=some (.lst ys))∧t σ H1 fun xs H2=>r x xs H2 Q) ⟨⟩ x):=by simp only [gR_e];rfl
theorem Ax' {K:PySem.W.Frag} {tl:TE} {σ:L2.St} {H:Hp} {R:It→Hp→Prop}:Ze K tl σ H R=(tl σ H fun x H1=>@gR_ (fun a=>(∃xs,H1 a=some (.lst xs))∧R (Tn K a) H1) ⟨⟩ x):=by simp only [gR_e];rfl
theorem yF' {K:PySem.W.Frag} {ta:TA} {σ H R}:Rn K ta σ H R=(ta σ H fun vs H1=>@g1_ (fun x=>@gR_ (fun a=>∃xs,kd K H1 a xs∧R (WZ K a) H1) ⟨⟩ x) ⟨⟩ vs):=by simp only [gR_e,g1_e];exact congrArg (ta σ H) (funext fun vs=>funext fun H1=>propext ⟨fun z1=>(by obtain ⟨a,xs,e,h⟩:=z1;exact ⟨_,e,a,rfl,xs,h⟩),fun z1=>(by obtain ⟨_,e,a,e1,xs,h⟩:=z1;exact ⟨a,xs,e1▸e,h⟩)⟩)
theorem lx' {vs:List V} {H:Hp} {Q:VK}:Rh vs H Q=@g1_ (fun x=>@gR_ (fun p=>@gO_ _ (fun z=>@gQ_ (fun ys=>Q (.int ys.length) H) ⟨⟩ z) ⟨⟩ (H p)) ⟨⟩ x) ⟨⟩ vs:=by simp only [gR_e,gO_e,gQ_e,g1_e];exact propext ⟨fun z1=>(by obtain ⟨p,xs,e1,e3,h⟩:=z1;exact ⟨_,e1,p,rfl,e3.elim (fun e=>⟨_,e,xs,.inl rfl,h⟩) fun e=>⟨_,e,xs,.inr rfl,h⟩⟩),fun z1=>(by obtain ⟨_,e1,p,e2,_,e3,xs,e,h⟩:=z1;exact ⟨p,xs,e2▸e1,e.elim (fun e=>.inl (e▸e3)) fun e=>.inr (e▸e3),h⟩)⟩
theorem QN' {ta:TA} {σ H R}:Rb ta σ H R=(ta σ H fun vs H1=>@g2_ (fun x y=>@gI_ (fun i=>@gI_ (fun j=>(-(2 ^ 62)≤i∧i<2 ^ 62∧ -(2 ^ 62)≤j∧j<2 ^ 62)∧R (RZ i (j - i).toNat) H1) ⟨⟩ y) ⟨⟩ x) ⟨⟩ vs):=by simp only [gI_e,g2_e];exact congrArg (ta σ H) (funext fun vs=>funext fun H1=>propext ⟨fun z1=>(by obtain ⟨i,j,e,h⟩:=z1;exact ⟨_,_,e,i,rfl,j,rfl,h⟩),fun z1=>(by obtain ⟨_,_,e,i,e1,j,e2,h⟩:=z1;exact ⟨i,j,e1▸e2▸e,h⟩)⟩)
theorem yT' {x y H Q}:Wl x y H Q=@gR_ (fun l=>@gR_ (fun b=>@gO_ _ (fun z=>@gL_ (fun xs=>@gO_ _ (fun z'=>@gL_ (fun zs=>xs.length+zs.length≤sizeLine∧∀p,H p=none→Q (.ref p) (upd H p (.lst (xs++zs)))) ⟨⟩ z') ⟨⟩ (H b)) ⟨⟩ z) ⟨⟩ (H l)) ⟨⟩ y) ⟨⟩ x:=by simp only [gR_e,gL_e,gO_e];exact propext ⟨fun z1=>(by obtain ⟨l,b,xs,zs,e1,e2,e3,e4,h⟩:=z1;exact ⟨l,e1,b,e2,_,e3,xs,rfl,_,e4,zs,rfl,h⟩),fun z1=>(by obtain ⟨l,e1,b,e2,_,e3,xs,e,_,e4,zs,e',h⟩:=z1;exact ⟨l,b,xs,zs,e1,e2,e▸e3,e'▸e4,h⟩)⟩
theorem EL' {vs:List V} {H:Hp} {Q:VK}:K2 vs H Q=@g1_ (fun x=>@gR_ (fun p=>@gO_ _ (fun z=>@gL_ (fun ys=>∀l,H l=none→Q (.ref l) (upd H l (.tup ys))) ⟨⟩ z) ⟨⟩ (H p)) ⟨⟩ x) ⟨⟩ vs:=by simp only [gR_e,gL_e,gO_e,g1_e];exact propext ⟨fun z1=>(by obtain ⟨p,xs,e1,e3,h⟩:=z1;exact ⟨_,e1,p,rfl,_,e3,xs,rfl,h⟩),fun z1=>(by obtain ⟨_,e1,p,e2,_,e3,xs,e,h⟩:=z1;exact ⟨p,xs,e2▸e1,e▸e3,h⟩)⟩
theorem RN' {x:V} {lo hi:Option Int} {H:Hp} {Q:VK}:VZ x lo hi H Q=@gR_ (fun a=>@gO_ _ (fun z=>@gL_ (fun xs=>∀p,H p=none→Q (.ref p) (upd H p (.lst (xG xs lo hi)))) ⟨⟩ z) ⟨⟩ (H a)) ⟨⟩ x:=by simp only [gR_e,gL_e,gO_e];exact propext ⟨fun z1=>(by obtain ⟨a,xs,e1,e2,h⟩:=z1;exact ⟨a,e1,_,e2,xs,rfl,h⟩),fun z1=>(by obtain ⟨a,e1,_,e2,xs,e,h⟩:=z1;exact ⟨a,xs,e1,e▸e2,h⟩)⟩
theorem Ep' {x vs H Q}:K3 x vs H Q=@gR_ (fun l=>@g1_ (fun y=>@gR_ (fun b=>@gO_ _ (fun z=>@gL_ (fun xs=>@gO_ _ (fun z'=>@gL_ (fun zs=>xs.length+zs.length≤sizeLine∧Q .de (upd H l (.lst (xs++zs)))) ⟨⟩ z') ⟨⟩ (H b)) ⟨⟩ z) ⟨⟩ (H l)) ⟨⟩ y) ⟨⟩ vs) ⟨⟩ x:=by simp only [gR_e,gL_e,gO_e,g1_e];exact propext ⟨fun z1=>(by obtain ⟨l,b,xs,zs,e1,e2,e3,e4,h⟩:=z1;exact ⟨l,e1,_,e2,b,rfl,_,e3,xs,rfl,_,e4,zs,rfl,h⟩),fun z1=>(by obtain ⟨l,e1,_,e2,b,e5,_,e3,xs,e,_,e4,zs,e',h⟩:=z1;exact ⟨l,b,xs,zs,e1,e5▸e2,e▸e3,e'▸e4,h⟩)⟩
theorem Tw' {i:Nat} {te:TE} {ti:VD} {D σ H}:Vz i te ti D σ H=@gO_ _ (fun w=>@gO_ _ (fun x=>te σ H fun y H1=>ti x y H1 fun z H2=>D.nx (σ.set i (some z)) H2) ⟨⟩ w) ⟨⟩ (σ[i]?):=by simp only [gO_e];exact propext ⟨fun z1=>(by obtain ⟨v,e,h⟩:=z1;exact ⟨_,e,v,rfl,h⟩),fun z1=>(by obtain ⟨_,e,v,e',h⟩:=z1;exact ⟨v,e'▸e,h⟩)⟩
theorem U8' {f:Int→Int→Int} {x y H Q}:Zl f x y H Q=@gI_ (fun i=>@gI_ (fun j=>Q (.int (f i j)) H) ⟨⟩ y) ⟨⟩ x:=by simp only [gI_e];exact propext ⟨fun z1=>(by obtain ⟨i,j,e,e',h⟩:=z1;exact ⟨i,e,j,e',h⟩),fun z1=>(by obtain ⟨i,e,j,e',h⟩:=z1;exact ⟨i,j,e,e',h⟩)⟩
theorem Su' {K:PySem.W.Frag} {x lo hi H Q}:VI K x lo hi H Q=@gR_ (fun a=>∃xs,kd K H a xs∧∀p,H p=none→Q (.ref p) (upd H p (.lst (xG xs lo hi)))) ⟨⟩ x:=by simp only [gR_e];exact propext ⟨fun z1=>(by obtain ⟨a,xs,e,h⟩:=z1;exact ⟨a,e,xs,h⟩),fun z1=>(by obtain ⟨a,e,xs,h⟩:=z1;exact ⟨a,xs,e,h⟩)⟩
end L2
namespace L2
end L2
namespace L2
open PySem PySem.Spec PyProof.Rows
def c1 (u:TT) (σ:St) (Q:Bool→Hp→Prop) (c:Bool) (H1:Hp):Prop:=if c=true then u σ H1 Q else Q false H1
def c2 (u:TT) (σ:St) (Q:Bool→Hp→Prop) (c:Bool) (H1:Hp):Prop:=if c=true then Q true H1 else u σ H1 Q
def c3 (ta tb:TE) (σ:St) (Q:VK) (c:Bool) (H1:Hp):Prop:=if c=true then ta σ H1 Q else tb σ H1 Q
def c4 (t u:TS) (D:Ends) (σ:St) (c:Bool) (H1:Hp):Prop:=if c=true then t D σ H1 else u D σ H1
theorem sL'' {t u:TT} {σ H Q}:U0 t u σ H Q=t σ H (c1 u σ Q):=rfl
theorem Af'' {t u:TT} {σ H Q}:Zq t u σ H Q=t σ H (c2 u σ Q):=rfl
theorem Dd'' {t:TT} {ta tb:TE} {σ H Q}:YM t ta tb σ H Q=t σ H (c3 ta tb σ Q):=rfl
theorem l6'' {c:TT} {t u:TS} {D σ H}:VN c t u D σ H=c σ H (c4 t u D σ):=rfl
theorem c1_s {u:TT} {σ Q c H}:c1 u σ Q c H=if c=true then u σ H Q else Q false H:=rfl
theorem c2_s {u:TT} {σ Q c H}:c2 u σ Q c H=if c=true then Q true H else u σ H Q:=rfl
theorem c3_s {ta tb:TE} {σ Q c H}:c3 ta tb σ Q c H=if c=true then ta σ H Q else tb σ H Q:=rfl
theorem c4_s {t u:TS} {D σ c H}:c4 t u D σ c H=if c=true then t D σ H else u D σ H:=rfl
def c5 (g:TG) (k:St→Hp→Prop) (σ:St) (x:V) (H1:Hp):Prop:=g x σ H1 k
def c6 (k:St→Hp→Prop) (σ:St) (_:V) (H1:Hp):Prop:=k σ H1
def c8 (r:R2) (x:V) (Q:VK) (y:V) (H2:Hp):Prop:=r x y H2 Q
def c7 (r:R2) (tb:TE) (σ:St) (Q:VK) (x:V) (H1:Hp):Prop:=tb σ H1 (c8 r x Q)
def c9 (r:V→Hp→VK→Prop) (Q:VK) (x:V) (H1:Hp):Prop:=r x H1 Q
theorem kz'' {te:TE} {g:TG} {D σ H}:Pt te g D σ H=te σ H (c5 g D.nx σ):=rfl
theorem uc'' {te:TE} {D σ H}:Q2 te D σ H=te σ H (c6 D.nx σ):=rfl
theorem pz'' {r:R2} {ta tb:TE} {σ H Q}:UP r ta tb σ H Q=ta σ H (c7 r tb σ Q):=rfl
theorem LK'' {r:V→Hp→VK→Prop} {ta:TE} {σ H Q}:Zp r ta σ H Q=ta σ H (c9 r Q):=rfl
theorem c5_s {g:TG} {k σ x H}:c5 g k σ x H=g x σ H k:=rfl
theorem c6_s {k σ x H}:c6 k σ x H=k σ H:=rfl
theorem c7_s {r:R2} {tb:TE} {σ Q x H}:c7 r tb σ Q x H=tb σ H (c8 r x Q):=rfl
theorem c8_s {r:R2} {Q x y H}:c8 r x Q y H=r x y H Q:=rfl
theorem c9_s {r:V→Hp→VK→Prop} {Q x H}:c9 r Q x H=r x H Q:=rfl
def d2 (x:V) (Q:List V→Hp→Prop) (xs:List V) (H2:Hp):Prop:=Q (x::xs) H2
def d1 (tr:TA) (σ:St) (Q:List V→Hp→Prop) (x:V) (H1:Hp):Prop:=tr σ H1 (d2 x Q)
def d3 (Q:VK) (xs:List V) (H1:Hp):Prop:=xs.length≤sizeLine∧∀p,H1 p=none→Q (.ref p) (upd H1 p (.tup xs))
def d4_ (Q:VK) (xs:List V) (H1:Hp):Prop:=xs.length≤sizeLine∧∀p,H1 p=none→Q (.ref p) (upd H1 p (.lst xs))
def d5 (sp:Sp) (u5:List V) (E:XK) (Q:VK) (vs:List V) (H1:Hp):Prop:=sp (vs++u5) H1 Q E
def d6_ (r:List V→Hp→VK→Prop) (Q:VK) (vs:List V) (H1:Hp):Prop:=r vs H1 Q
def d8 (x:Addr) (Q:VK) (v:V) (H2:Hp):Prop:=v=.de∧Q (.ref x) H2
def d7 (C:Addr) (sp:Sp) (u5:List V) (E:XK) (Q:VK) (vs:List V) (H1:Hp):Prop:=∀x dx,H1 x=none→H1 dx=none→dx≠x→sp (.ref x::(vs++u5)) (upd (upd H1 dx (.own x)) x (.ins C dx [])) (d8 x Q) E
def d9 (Q:Bool→Hp→Prop) (c:Bool) (H1:Hp):Prop:=Q (!c) H1
theorem iL'' {ta:TE} {tr:TA} {σ H Q}:Ap ta tr σ H Q=ta σ H (d1 tr σ Q):=rfl
theorem J3'' {t:TA} {σ H Q}:UO t σ H Q=t σ H (d3 Q):=rfl
theorem oW'' {t:TA} {σ H Q}:Vk t σ H Q=t σ H (d4_ Q):=rfl
theorem jZ'' {sp:Sp} {u5:List V} {E:XK} {t:TA} {σ H Q}:Rg sp u5 E t σ H Q=t σ H (d5 sp u5 E Q):=rfl
theorem rL'' {r:List V→Hp→VK→Prop} {t:TA} {σ H Q}:XR r t σ H Q=t σ H (d6_ r Q):=rfl
theorem mG'' {C:Addr} {sp:Sp} {u5:List V} {E:XK} {t:TA} {σ H Q}:NZ C sp u5 E t σ H Q=t σ H (d7 C sp u5 E Q):=rfl
theorem tw'' {t:TT} {σ H Q}:US t σ H Q=t σ H (d9 Q):=rfl
theorem d1_s {tr:TA} {σ Q x H}:d1 tr σ Q x H=tr σ H (d2 x Q):=rfl
theorem d2_s {x Q xs H}:d2 x Q xs H=Q (x::xs) H:=rfl
theorem d3_s {Q xs H}:d3 Q xs H=(xs.length≤sizeLine∧∀p,H p=none→Q (.ref p) (upd H p (.tup xs))):=rfl
theorem d4_s {Q xs H}:d4_ Q xs H=(xs.length≤sizeLine∧∀p,H p=none→Q (.ref p) (upd H p (.lst xs))):=rfl
theorem d5_s {sp:Sp} {u5 E Q vs H}:d5 sp u5 E Q vs H=sp (vs++u5) H Q E:=rfl
theorem d6_s {r:List V→Hp→VK→Prop} {Q vs H}:d6_ r Q vs H=r vs H Q:=rfl
theorem d7_s {C} {sp:Sp} {u5 E Q vs H}:d7 C sp u5 E Q vs H=∀x dx,H x=none→H dx=none→dx≠x→sp (.ref x::(vs++u5)) (upd (upd H dx (.own x)) x (.ins C dx [])) (d8 x Q) E:=rfl
theorem d8_s {x Q v H}:d8 x Q v H=(v=.de∧Q (.ref x) H):=rfl
theorem d9_s {Q c H}:d9 Q c H=Q (!c) H:=rfl
def e3 (Q:Option Int→Hp→Prop) (x:V) (H1:Hp):Prop:=∃i,x=.int i∧Q (some i) H1
def e4 (tb:TE) (σ:St) (Q:VK) (x:V) (H1:Hp):Prop:=∃c,x=.bl c∧if c=true then tb σ H1 Q else Q (.bl false) H1
def e5 (tb:TE) (σ:St) (Q:VK) (x:V) (H1:Hp):Prop:=∃c,x=.bl c∧if c=true then Q (.bl true) H1 else tb σ H1 Q
theorem i6'' {t:TE} {σ H Q}:N5 t σ H Q=t σ H (e1 Q):=rfl
theorem AY'' {t:TE} {σ H Q}:tB t σ H Q=t σ H (e1 Q):=rfl
theorem K6'' {t:TE} {σ H Q}:QP t σ H Q=t σ H (e3 Q):=rfl
theorem qD'' {ta tb:TE} {σ H Q}:Rw ta tb σ H Q=ta σ H (e4 tb σ Q):=rfl
theorem J8'' {ta tb:TE} {σ H Q}:VH ta tb σ H Q=ta σ H (e5 tb σ Q):=rfl
theorem e1_s {Q k H}:e1 Q (.bl k) H=Q k H:=rfl
theorem e3_s {Q k H}:e3 Q (.int k) H=Q (some k) H:=propext ⟨fun z1=>(by obtain ⟨_,e,h⟩:=z1;cases e;exact h),fun h=>⟨_,rfl,h⟩⟩
theorem e4_s {tb:TE} {σ Q k H}:e4 tb σ Q (.bl k) H=if k=true then tb σ H Q else Q (.bl false) H:=propext ⟨fun z1=>(by obtain ⟨_,e,h⟩:=z1;cases e;exact h),fun h=>⟨_,rfl,h⟩⟩
theorem e5_s {tb:TE} {σ Q k H}:e5 tb σ Q (.bl k) H=if k=true then Q (.bl true) H else tb σ H Q:=propext ⟨fun z1=>(by obtain ⟨_,e,h⟩:=z1;cases e;exact h),fun h=>⟨_,rfl,h⟩⟩
def e8 (r':R2) (tc:TE) (σ:St) (Q:VK) (y z:V) (H3:Hp):Prop:=∃k,z=.bl k∧(if k=true then tc σ H3 (c8 r' y Q) else Q (.bl false) H3)
def e7 (r r':R2) (tc:TE) (σ:St) (Q:VK) (x y:V) (H2:Hp):Prop:=r x y H2 (e8 r' tc σ Q y)
def e6 (r r':R2) (tb tc:TE) (σ:St) (Q:VK) (x:V) (H1:Hp):Prop:=tb σ H1 (e7 r r' tc σ Q x)
theorem sP'' {r r':R2} {ta tb tc:TE} {σ H Q}:Kn r r' ta tb tc σ H Q=ta σ H (e6 r r' tb tc σ Q):=rfl
theorem e6_s {r r':R2} {tb tc:TE} {σ Q x H}:e6 r r' tb tc σ Q x H=tb σ H (e7 r r' tc σ Q x):=rfl
theorem e7_s {r r':R2} {tc:TE} {σ Q x y H}:e7 r r' tc σ Q x y H=r x y H (e8 r' tc σ Q y):=rfl
theorem e8_s {r':R2} {tc:TE} {σ Q y k H}:e8 r' tc σ Q y (.bl k) H=if k=true then tc σ H (c8 r' y Q) else Q (.bl false) H:=propext ⟨fun z1=>(by obtain ⟨_,e,h⟩:=z1;cases e;exact h),fun h=>⟨_,rfl,h⟩⟩
theorem kv'' {i:Nat} {σ H Q}:yC i σ H Q=f0 Q H (σ[i]?):=rfl
theorem f0_s {Q H v}:f0 Q H (some (some v))=Q v H:=rfl
theorem rG'' {g:Int→Int→V} {i j H Q}:QI g (.int i) (.int j) H Q=Q (g i j) H:=propext ⟨fun z1=>(by obtain ⟨_,_,e,e',h⟩:=z1;cases e;cases e';exact h),fun h=>⟨_,_,rfl,rfl,h⟩⟩
theorem Qs'' {g:Int→V} {i H Q}:rU g (.int i) H Q=Q (g i) H:=propext ⟨fun z1=>(by obtain ⟨_,e,h⟩:=z1;cases e;exact h),fun h=>⟨_,rfl,h⟩⟩
theorem U5'' {C:Int→Int→Prop} {g:Int→Int→V} {i j H Q}:rI C g (.int i) (.int j) H Q=(C i j∧Q (g i j) H):=propext ⟨fun z1=>(by obtain ⟨_,_,e,e',h⟩:=z1;cases e;cases e';exact h),fun h=>⟨_,_,rfl,rfl,h⟩⟩
theorem f3_s {Q H v}:f3 Q H (some v)=Q v H:=rfl
theorem l9'' {p i H Q}:UQ (.ref p) (.int i) H Q=f2 i Q H (H p):=rfl
theorem f2_s {i Q H xs}:f2 i Q H (some (.lst xs))=f3 Q H (iz xs i):=rfl
theorem f2_t {i Q H xs}:f2 i Q H (some (.tup xs))=f3 Q H (iz xs i):=rfl
theorem jn'' {C:Addr} {ta:TE} {f:Str} {σ:L2.St} {H:Hp} {Q:VK}:N3 C ta f σ H Q=ta σ H (f4 C f Q):=rfl
theorem f4_s {C f Q a H}:f4 C f Q (.ref a) H=f5 C f Q H (H a):=rfl
theorem f5_s {C f Q H dx fs}:f5 C f Q H (some (.ins C dx fs))=f3 Q H (fs.lookup f):=propext ⟨fun z1=>(by obtain ⟨_,_,e,h⟩:=z1;cases e;exact h),fun h=>⟨dx,fs,rfl,h⟩⟩
theorem j8'' {C:Addr} {m:Str} {sp:Sp} {u5:List V} {E:XK} {ta:TE} {t:TA} {σ H Q}:IH C m sp u5 E ta t σ H Q=ta σ H (f6 C m sp u5 E t σ Q):=rfl
theorem f6_s {C m} {sp:Sp} {u5 E} {t:TA} {σ Q a H}:f6 C m sp u5 E t σ Q (.ref a) H=f7 C m t σ (f8 sp u5 E Q (.ref a)) H (H a):=rfl
theorem f7_s {C m} {t:TA} {σ k H dx fs}:f7 C m t σ k H (some (.ins C dx fs))=f9 t σ k H (fs.lookup m):=propext ⟨fun z1=>(by obtain ⟨_,_,e,h⟩:=z1;cases e;exact h),fun h=>⟨dx,fs,rfl,h⟩⟩
theorem f9_s {t:TA} {σ k H}:f9 t σ k H none=t σ H k:=rfl
theorem f8_s {sp:Sp} {u5 E Q x vs H}:f8 sp u5 E Q x vs H=sp (x::(vs++u5)) H Q E:=rfl
def h2_ (C:Addr) (f:Str) (k:St→Hp→Prop) (σ:St) (y x:V) (H2:Hp):Prop:=∃a dx fs,x=.ref a∧H2 a=some (.ins C dx fs)∧fs.length<1000∧k σ (upd H2 a (.ins C dx (g9 f y fs)))
def h1_ (C:Addr) (ta:TE) (f:Str) (k:St→Hp→Prop) (σ:St) (y:V) (H1:Hp):Prop:=ta σ H1 (h2_ C f k σ y)
def h3_ (C:Addr) (f:Str) (k:St→Hp→Prop) (σ:St) (y:V) (a:Addr) (H2:Hp) (o:Option HO):Prop:=∃dx fs,o=some (.ins C dx fs)∧fs.length<1000∧k σ (upd H2 a (.ins C dx (g9 f y fs)))
theorem oA'' {C:Addr} {ta tv:TE} {f:Str} {D:Ends} {σ:L2.St} {H:Hp}:Rq C ta tv f D σ H=tv σ H (h1_ C ta f D.nx σ):=rfl
theorem h1_s {C} {ta:TE} {f k σ y H}:h1_ C ta f k σ y H=ta σ H (h2_ C f k σ y):=rfl
theorem h2_s {C f k σ y a H}:h2_ C f k σ y (.ref a) H=h3_ C f k σ y a H (H a):=propext ⟨fun z1=>(by obtain ⟨_,dx,fs,e,h⟩:=z1;cases e;exact ⟨dx,fs,h⟩),fun z1=>(by obtain ⟨dx,fs,h⟩:=z1;exact ⟨a,dx,fs,rfl,h⟩)⟩
theorem h3_s {C f k σ y a H dx fs}:h3_ C f k σ y a H (some (.ins C dx fs))=(fs.length<1000∧k σ (upd H a (.ins C dx (g9 f y fs)))):=propext ⟨fun z1=>(by obtain ⟨_,_,e,h⟩:=z1;cases e;exact h),fun h=>⟨dx,fs,rfl,h⟩⟩
end L2
end
local macro_rules | `(tactic| wp_walk using trivial, $ts,*) => `(tactic| simp -dsimp only [↓reduceIte, ↓L2.gR_s, ↓L2.gI_s, ↓L2.gB_s, ↓L2.gL_s, ↓L2.gT_s, ↓L2.gO_s, ↓L2.gN_s, ↓L2.gQ_s, ↓L2.gQ_t, ↓L2.g1_s, ↓L2.g2_s, ↓L2.gC_s, ↓L2.ge0, ↓L2.se0, ↓L2.ge1, ↓L2.se1, ↓L2.ge2, ↓L2.se2, ↓L2.ge3, ↓L2.se3, ↓L2.ge4, ↓L2.se4, ↓L2.ge5, ↓L2.se5, ↓L2.ge6, ↓L2.se6, ↓L2.ge7, ↓L2.se7, ↓L2.ge8, ↓L2.se8, ↓L2.ge9, ↓L2.se9, ↓L2.c1_s, ↓L2.c2_s, ↓L2.c3_s, ↓L2.c4_s, ↓L2.c5_s, ↓L2.c6_s, ↓L2.c7_s, ↓L2.c8_s, ↓L2.c9_s, ↓L2.d1_s, ↓L2.d2_s, ↓L2.d3_s, ↓L2.d4_s, ↓L2.d5_s, ↓L2.d6_s, ↓L2.d7_s, ↓L2.d8_s, ↓L2.d9_s, ↓L2.e1_s, ↓L2.e3_s, ↓L2.e4_s, ↓L2.e5_s, ↓L2.e6_s, ↓L2.e7_s, ↓L2.e8_s, ↓L2.f0_s, ↓L2.f3_s, ↓L2.f2_s, ↓L2.f2_t, ↓L2.f4_s, ↓L2.f5_s, ↓L2.f6_s, ↓L2.f7_s, ↓L2.f9_s, ↓L2.f8_s, ↓L2.h1_s, ↓L2.h2_s, ↓L2.h3_s, ↓L2.kv'', ↓L2.zK, ↓L2.sL'', ↓L2.Af'', ↓L2.qD'', ↓L2.Dd'', ↓L2.jk, ↓L2.kE, ↓L2.uc'', ↓L2.ko, ↓L2.l6'', ↓L2.iX, ↓L2.CI, ↓L2.xw', ↓L2.Kk, ↓L2.kz'', ↓L2.Fd', ↓L2.pz'', ↓L2.LK'', ↓L2.rG'', ↓L2.Qs'', ↓L2.i6'', ↓L2.kP, ↓L2.iL'', ↓L2.J3'', ↓L2.oW'', ↓L2.jZ'', ↓L2.rL'', ↓L2.Gd', ↓L2.mY', ↓L2.vQ, ↓L2.Tu', ↓Rp.vz, ↓Rp.Ay, ↓Rp.Q3, ↓L2.l9'', ↓L2.Ic', ↓L2.CU', ↓L2.xk', ↓L2.zA', ↓L2.Ax', L2.start, List.map_cons, List.map_nil, List.length_cons, List.length_nil, Nat.reduceAdd, Nat.reduceSub, Nat.sub_self, List.replicate_succ, List.replicate_zero, List.cons_append, List.nil_append, List.getElem?_cons_zero, List.getElem?_cons_succ, List.set_cons_succ, L2.wipe, Option.some.injEq, L2.V.ref.injEq, L2.V.int.injEq, L2.V.bl.injEq, L2.HO.ins.injEq, L2.HO.lst.injEq, L2.HO.tup.injEq, List.cons.injEq, ↓and_true, ↓true_and, ↓and_assoc, ↓exists_eq_left', ↓exists_eq', ↓exists_and_left, ↓exists_and_right, ↓or_false, ↓false_or, L2.aA, Bool.false_eq_true, if_true, if_false, reduceCtorEq, decide_true, decide_false, ↓and_false, ne_eq, eq_self, decide_eq_true_eq, Bool.not_eq_true', decide_eq_false_iff_not, ite_not, ↓L2.yF', ↓Rp.Rm, ↓L2.lx', ↓L2.jn'', ↓Rp.jU, ↓Rp.jo, ↓Rp.jT, ↓Rp.lD, ↓Rp.iK, ↓Rp.lE, not_false_eq_true, ↓L2.AY'', ↓L2.uY, ↓L2.mG'', ↓L2.nI, ↓L2.oA'', ↓Rp.eN, ↓Rp.dX, ↓Rp.iQ, ↓Rp.j4, ↓Rp.di, ↓Rp.nP, ↓Rp.o8, ↓L2.Iy, ↓L2.J8'', ↓L2.sP'', ↓L2.j8'', ↓Rp.jV, ↓L2.tw'', ↓L2.QN', ↓L2.yT', ↓Rp.yY, ↓Rp.GP, ↓Rp.DK, ↓Rp.Cc, ↓Rp.o6, ↓Rp.RV, ↓L2.U5'', ↓Rp.iu, ↓Rp.wz, ↓L2.EL', Bool.not_true, ↓L2.Mz, ↓L2.K6'', ↓L2.Ry, ↓L2.RW, ↓L2.RN', ↓L2.Ep', ↓Rp.Ao, ↓Rp.GA, ↓Rp.qL, ↓Rp.uZ, ↓Rp.sY, ↓Rp.tP, ↓Rp.pT, ↓Rp.uO, ↓Rp.nW, ↓Rp.mw, ↓Rp.sG, ↓L2.Tw', ↓L2.U8', ↓L2.Ku, ↓Rp.nz, ↓Rp.qB, ↓Rp.GZ, ↓Rp.ja, ↓Rp.oR, ↓Rp.oC, ↓Rp.Qv, ↓Rp.zT, ↓Rp.Ba, ↓Rp.vx, ↓Rp.uM, ↓Rp.rZ, ↓Rp.Dt, ↓Rp.rV, ↓Rp.vO, ↓Rp.FG, ↓Rp.wW, ↓Rp.o5, ↓Rp.ub, ↓Rp.sO, ↓Rp.yj, ↓Rp.oq, ↓Rp.FU, ↓Rp.tf, ↓Rp.me, ↓Rp.nR, ↓Rp.lT, ↓Rp.yz, ↓Rp.Dc, ↓Rp.rS, ↓Rp.x6, ↓Rp.HV, ↓Rp.yK, ↓Rp.vI, ↓Rp.yZ, ↓Rp.qR, ↓Rp.Fj, ↓Rp.wJ, ↓Rp.qU, ↓Rp.yV, ↓Rp.xQ, ↓Rp.wQ, ↓Rp.wb, ↓Rp.xi, ↓Rp.zG, ↓Rp.rO, ↓Rp.r6, ↓Rp.yf, ↓Rp.vK, ↓Rp.qu, ↓Rp.AM, ↓Rp.wc, ↓Rp.yr, Bool.not_false, ↓L2.Su', ↓Rp.Cn, $[$ts:term],*])
namespace Rp
open PySem PySem.Spec PyProof.Rows L2 Pg
open Vblaai (W Table minW addW at_ least lessW maxW Net timeOf Form Times isStep isName within boundText doneAt Nature size bit Desk isDigit idleFrom onSure reduced isNature Play wRow MOST withLimit searchFrom nums listRow isLetter onPlay Limit onTwo ringed keepsOne ours takeLines allDone)
variable {P:Program} {w:World} {K:PySem.W.Frag} {mg:Str→Option Value} {base:Heap}
local macro_rules | `(‹$x›) => `(($x).mono (by decide))
local macro_rules | `(tactic| right) => `(tactic| exists and_true)
local macro_rules | `(tactic| exists $ts,*) => `(tactic| wp_walk using trivial, $ts,*)
theorem Sn (i j:Int):(if j<i then j else i)=min i j:=by split<;>omega
theorem RG (i j:Int):(if j>i then j else i)=max i j:=by split<;>omega
def gW (a b:W):W:=match a,b with
 |some x,some y=>some (max x y)
 |_,_=>none
theorem QO (a:W) (b:Int):gW a (some b)=maxW a b:=by cases a<;>rfl
theorem Rows.item {H:Hp} {a:Addr} {as:List Addr} {t:List (List V)} (h:Rows H a as t) {i:Nat} {x:V} (e:(as.map V.ref)[i]?=some x):∃b r,x=.ref b∧as[i]?=some b∧t[i]?=some r∧H b=some (.lst r):=by
 rw [List.getElem?_map] at e
 cases q:as[i]? with
 |none=>rw [q] at e;cases e
 |some b =>
  rw [q] at e
  cases e;have hi:=(List.getElem?_eq_some_iff.mp q).1;have hl:i<t.length:=by rw [←h.len];exact hi
  exact ⟨b,t[i],rfl,rfl,List.getElem?_eq_getElem hl,h.row i b _ q (List.getElem?_eq_getElem hl)⟩
theorem b9 {α:Type} {l:List α} {i:Nat} {x d:α} (h:l[i]?=some x):l.getD i d=x:=by rw [List.getD_eq_getElem?_getD,h];rfl
theorem range_getD {α:Type} (l:List (List α)):(List.range l.length).map (fun i=>l.getD i [])=l:=by
 apply List.ext_getElem?;intro i;rw [List.getElem?_map];by_cases h:i<l.length
 ·rw [List.getElem?_range h,List.getElem?_eq_getElem h];show some (l.getD i [])=_;rw [b9 (List.getElem?_eq_getElem h)]
 ·rw [List.getElem?_eq_none (by simp;omega),List.getElem?_eq_none (by omega)];rfl
theorem FA {n j:Nat} (h:j<n):Pc n (j:Int)=some j:=by
 unfold Pc;rw [if_pos (by omega),if_pos (by omega),Int.toNat_natCast]
theorem Jc (r:List W) (j:Nat) (x:W):(dU r).set j (wV x)=dU (r.set j x):=by unfold dU;rw [List.map_set]
theorem dQ {H:Hp} {p:Addr} (hp:H p=none) (o:HO):∃H1,upd H p o=H1∧ax H H1∧H1 p=some o:=⟨_,rfl,ax.upd hp,aA⟩
theorem filterMap_some {α β:Type} (f:α→β) (l:List α):l.filterMap (fun x=>some (f x))=l.map f:=by
 induction l with
 |nil=>rfl
 |cons x l ih=>rw [List.filterMap_cons,List.map_cons,ih]
theorem HN (i:Int) (ns:List Int):LI (.int i) (ns.map V.int)=decide (i∈ns):=by
 unfold LI
 induction ns with
 |nil=>rfl
 |cons n ns ih =>
  rw [List.map_cons,List.any_cons,ih];show (decide (n=i)||_)=_;by_cases h:n=i
  ·simp [h]
  ·simp [h,Ne.symm h]
theorem xa {α β:Type}:∀(l:List α) (m:List β),l.length=m.length→List.zipWith (fun a _=>a) l m=l
 |[],_,_=>rfl
 |a::l,[],h=>by cases h
 |a::l,b::m,h=>by rw [List.zipWith_cons_cons,xa l m (by simpa using h)]
theorem og {r:List W} {i:Nat} {x:V} (h:(dU r)[i]?=some x):∃u,r[i]?=some u∧x=wV u:=by
 unfold dU at h;rw [List.getElem?_map] at h
 cases q:r[i]? with
 |none=>rw [q] at h;cases h
 |some u=>rw [q] at h;cases h;exact ⟨u,rfl,rfl⟩
theorem jN {α β:Type} {f:α→β} {l:List α} {i:Nat} {y:β} (h:(l.map f)[i]?=some y):∃x,l[i]?=some x∧y=f x:=by
 rw [List.getElem?_map] at h
 cases q:l[i]? with
 |none=>rw [q] at h;cases h
 |some u=>rw [q] at h;cases h;exact ⟨u,rfl,rfl⟩
theorem take_snoc {α:Type} {l:List α} {i:Nat} {x:α} (h:l[i]?=some x):l.take (i+1)=l.take i++[x]:=by
 rw [List.take_succ,h];rfl
def zl (_:Txt K mg):Sp:=rX fun x y H Q=>ME x∧ME y∧Q (wV (minW (Jp x) (Jp y))) H
theorem EN (T:Txt K mg):aU P w K mg base cI 1 T.kb.f T.kb.fd ["one","other"] (zl T):=by
 refine T.kb.fn.sE Mm fun bJ A outer s H a b Q E hr h=>?_;obtain ⟨ha,hb,k⟩:=h;refine ⟨_,(ae (aY (aE cC (pv 0) aS (aG _)) (ah (au (pv 1))) aJ) (ae (aY (aE cC (pv 1) aS (aG _)) (ah (au (pv 0))) aJ) (ah (au (bc (Ei rfl) rfl T.OK Nl (aa (pv 0) (aa (pv 1) ag))))))),?_⟩
 cases a<;>first|exact ha.elim|(cases b<;>first|exact hb.elim|(right;first|exact k|(rw [Sn];exact k)))
def BI (_:Txt K mg):Sp:=rX fun x y H Q=>ME x∧ME y∧Q (wV (gW (Jp x) (Jp y))) H
theorem Kb (T:Txt K mg):aU P w K mg base cI 1 T.m6.f T.m6.fd ["one","other"] (BI T):=by
 refine T.m6.fn.sE JR fun bJ A outer s H a b Q E hr h=>?_;obtain ⟨ha,hb,k⟩:=h;refine ⟨_,(ae (aY (PW.pt (rC (aE cC (pv 0) aS (aG _)) (oZ (aE cC (pv 1) aS (aG _))))) (ah (au aS)) aJ) (ah (au (bc (ux rfl) rfl T.Fp Ft (aa (pv 0) (aa (pv 1) ag)))))),?_⟩
 cases a<;>first|exact ha.elim|(cases b<;>first|exact hb.elim|(right;first|exact k|(rw [RG];exact k)))
def Je (_:Txt K mg):Sp:=rX fun x y H Q=>ME x∧ME y∧Q (wV (addW (Jp x) (Jp y))) H
theorem OL (T:Txt K mg):aU P w K mg base cI 1 T.uE.f T.uE.fd ["one","other"] (Je T):=by
 refine T.uE.fn.sE NA fun bJ A outer s H a b Q E hr h=>?_;obtain ⟨ha,hb,k⟩:=h;refine ⟨_,(ae (aY (PW.pt (rC (aE cC (pv 0) aS (aG _)) (oZ (aE cC (pv 1) aS (aG _))))) (ah (au aS)) aJ) (ah (au (cG fY (pv 0) (pv 1))))),?_⟩
 cases a<;>first|exact ha.elim|(cases b<;>first|exact hb.elim|(right;exact k))
def B8 (_:Txt K mg):Sp:=m7 fun x H Q=>ME x∧Q (wV ((Jp x).map fun q=> -q)) H
theorem KZ (T:Txt K mg):aU P w K mg base cI 1 T.mV.f T.mV.fd ["number"] (B8 T):=by
 refine T.mV.fn.n4 Kg fun bJ A outer s H a Q E hr h=>?_;obtain ⟨ha,k⟩:=h;refine ⟨_,(ah (au (dh (aE cC (pv 0) aS (aG _)) aS (EF zh (pv 0))))),?_⟩
 cases a<;>first|exact ha.elim|(right;exact k)
def kx (_:Txt K mg):Sp:=m7 fun x H Q=>ME x∧Q (.bl (Mt.fE (Jp x))) H
theorem pB (T:Txt K mg):aU P w K mg base cI 1 T.cP.f T.cP.fd ["number"] (kx T):=by
 refine T.cP.fn.n4 y3 fun bJ A outer s H a Q E hr h=>?_;obtain ⟨ha,k⟩:=h;refine ⟨_,(ah (au (gB (bO iw (pv 0) aS (aG _)) (gA (bO oo (pv 0) aI (aG _)))))),?_⟩
 cases a<;>first|exact ha.elim|(right;exact k)
inductive MnI (T:Txt K mg) (x:V) (H:Hp) (Q:VK):Prop
 |mk:∀a as t,x=.ref a→Rows H a as t→t.length≤1000→(∀b bs H',Ws H b bs→ax H H'→Rows H' b bs t→Q (.ref b) H')→MnI T x H Q
def Mn (T:Txt K mg):Sp:=m7 fun x H Q=>MnI T x H Q
theorem pK (T:Txt K mg):aU P w K mg base cI 1 T.dI.f T.dI.fd ["rows"] (Mn T):=by
 refine T.dI.fn.n4 zj fun bJ A outer s H x Q E hr h=>?_;obtain ⟨a,as,t,rfl,UZ,hz,k⟩:=h;refine ⟨_,(ah (au (i7 rfl zj.nd (fg (pv 0)) (bL (show jq ["rows","row"] (aq Co) _ [("row",1)]=true from by decide+kernel)) (fun _ _ _ _ _=>(aK (i:=1) zj.nd rfl (Or.inl rfl))) (fun _ _ _ _ _=>eY) (fun _ _ _ _ _=>(ik Lf rfl T.wK wC (aa (pv 1) ag)))))),?_⟩
 right;refine ⟨⟨_,UZ.lst⟩,Bk (bp (as.map V.ref)) (fun i=>t.getD i []) (fun H' s=>.of (s _ _ UZ.lst)) (fun i x H' kk hi s hx kf=>?_) (by rw [List.length_map,UZ.len];exact Nat.le_trans hz (by decide)) (fun D bs H' hD FK s hR=>?_)⟩
 ·obtain ⟨b,r,rfl,e1,e2,e3⟩:=UZ.item hx;have e4:=s _ _ e3;exists e4;refine alloc fun p H4 hp s4 h4=>kf p H4 hp s4 ?_;rw [h4,b9 e2]
 ·rw [List.length_map,UZ.len,range_getD] at hR;exact k D bs H' ⟨hD,FK⟩ s hR
inductive DJI (T:Txt K mg) (x i j y:V) (H:Hp) (Q:VK):Prop
 |mk:∀a as t m n ni nj,x=.ref a→i=aM ni→j=aM nj→Tab H a as t→Mt.Rc m n t→ni<m→nj<n→ME y→(∀H',aO as H H'→Tab H' a as (Mt.put t ni nj (Jp y))→Q .de H')→DJI T x i j y H Q
def DJ (T:Txt K mg):Sp:=Qx fun x i j y H Q=>DJI T x i j y H Q
theorem fc (T:Txt K mg):aU P w K mg base cI 2 T.aV.f T.aV.fd ["rows","i","j","bound"] (DJ T):=by
 refine T.aV.fn.Ro DE fun bJ A outer s H x i j y Q E hr h=>?_;obtain ⟨a,as,t,m,n,ni,nj,rfl,rfl,rfl,ht,hc,hi,hj,hy,k⟩:=h;refine ⟨_,(ah (Gi (aD (EN T) ‹hr› rfl T.kb.g T.kb.fn.kp T.kb.b .nil aB (aa (aR fz (aR fz (pv 0) (pv 1) (fun _ _=>rfl)) (pv 2) (fun _ _=>rfl)) (aa (pv 3) ag))) (GQ (aR fz (pv 0) (pv 1) (fun _ _=>rfl)) (pv 2) set_list))),?_⟩;obtain ⟨r,e1,e2⟩:=hc.cell hi hj;obtain ⟨b,e3,e4⟩:=ht.get e1;have e5:=ht.lst;have e6:iz (as.map V.ref) (ni:Int)=some (.ref b):=cV (by rw [List.getElem?_map,e3];rfl);have e7:iz (dU r) (nj:Int)=some (wV (at_ t ni nj)):=cV (nF e2);exists e5,e6,e4,e7,zl,o9,oX;refine ⟨hy,nj,FA (by rw [fM];exact (List.getElem?_eq_some_iff.mp e2).1),k _ (aO.upd (List.mem_of_getElem? e3)) ?_⟩;have q:=Rows.set ht e3 (r:=dU (r.set nj (minW (at_ t ni nj) (Jp y)))) (H':=upd H b (.lst (dU (r.set nj (minW (at_ t ni nj) (Jp y)))))) (aO.upd (List.mem_singleton.mpr rfl)) aA;rw [Jc];unfold Mt.put;rw [b9 e1];show Rows _ _ _ (List.map dU _);rw [List.map_set];exact q
inductive IEI (T:Txt K mg) (x y:V) (H:Hp) (Q:VK):Prop
 |mk:∀ni nk:Nat,x=aM ni→y=aM nk→nk≤1000→(∀b H',H b=none→ax H H'→H' b=some (.lst (dU ((List.range nk).map fun j=>if j=0∨j=ni then some 0 else none)))→Q (.ref b) H')→IEI T x y H Q
def IE (T:Txt K mg):Sp:=rX fun x y H Q=>IEI T x y H Q
theorem IP (T:Txt K mg):aU P w K mg base cI 1 T.kX.f T.kX.fd ["i","size"] (IE T):=by
 refine T.kX.fn.sE tF fun bJ A outer s H x y Q E hr h=>?_;obtain ⟨ni,nk,rfl,rfl,hz,k⟩:=h;refine ⟨_,(ah (au (i7 rfl tF.nd (mQ rfl T.ny (aa (pv 1) ag)) (bL (show jq ["i","size","j"] (aq vM) _ [("j",2)]=true from by decide+kernel)) (fun _ _ _ _ _=>(aK (i:=2) tF.nd rfl (Or.inl rfl))) (fun _ _ _ _ _=>eY) (fun _ _ _ _ _=>(dh (aE Vc (pv 2) (vv (aa aI (aa (pv 0) ag))) (by with_unfolding_all rfl)) aI aS))))),?_⟩
 right;refine ⟨by omega,by omega,?_⟩;rw [Int.toNat_natCast];refine cW (ju 0 nk) (fun i=>some (if i=0∨i=ni then .int 0 else .de)) (fun _ _=>trivial) (fun i x H' kk hi s hx kf=>?_) (Nat.le_trans hz (by decide)) (fun D H' hD s hd=>k D H' hD s ?_)
 ·subst hx;right;refine ⟨by decide,fun p hp=>?_⟩;have q:=kf (upd H' p (.tup [.int 0,aM ni])) (ax.upd hp);have e:LI (V.int (0+(i:Int))) [V.int 0,aM ni]=decide (i=0∨i=ni):=by
   rw [show ([V.int 0,aM ni]:List V)=[(0:Int),(ni:Int)].map V.int from rfl,HN]
   simp only [List.mem_cons,List.not_mem_nil,or_false]
   congr 1
   exact propext ⟨fun h=>by omega,fun h=>by omega⟩
  rw [e];refine ⟨rfl,rfl,?_⟩;by_cases c:i=0∨i=ni
  ·rw [if_pos (decide_eq_true c)];rw [if_pos c] at q;exact q
  ·rw [if_neg (by rw [decide_eq_false c];exact Bool.false_ne_true)];rw [if_neg c] at q;exact q
 ·rw [hd,filterMap_some];unfold dU;rw [List.map_map]
  congr 2
  refine List.map_congr_left fun i hi=>?_;show _=wV (if i=0∨i=ni then some 0 else none)
  by_cases c:i=0∨i=ni
  ·rw [if_pos c,if_pos c];rfl
  ·rw [if_neg c,if_neg c];rfl
inductive CvI (T:Txt K mg) (x y z:V) (H:Hp) (Q:VK):Prop
 |mk:∀a r b r2,x=.ref a→z=.ref b→H a=some (.lst (dU r))→H b=some (.lst (dU r2))→ME y→r.length=r2.length→r.length≤1000→(∀c H',H c=none→ax H H'→H' c=some (.lst (dU (Mt.j7 (Jp y) r r2)))→Q (.ref c) H')→CvI T x y z H Q
def Cv (T:Txt K mg):Sp:=Cs fun x y z H Q=>CvI T x y z H Q
theorem Cp (T:Txt K mg):aU P w K mg base cI 1 T.il.f T.il.fd ["row","ahead","behind"] (Cv T):=by
 refine T.il.fn.Bi jQ fun bJ A outer s H x y z Q E hr h=>?_;obtain ⟨a,r,b,r2,rfl,rfl,ha,hb,hy,hlen,hz,k⟩:=h;refine ⟨_,(ae (aY (aE cC (pv 1) aS (aG _)) (ah (au (ik Lf rfl T.wK wC (aa (pv 0) ag)))) aJ) (ae (aN (i:=3) jQ.nd rfl (Or.inl rfl) (a9 ag)) (ae (cJ PassesOwn.never rfl (Nh rfl T.Nj (aa (pv 0) (aa (pv 2) ag))) (fB (n:=2) rfl (bq (aK (i:=4) jQ.nd rfl (Or.inl rfl)) (bq (aK (i:=5) jQ.nd rfl (Or.inl rfl)) fD))) (ah (aY (PW.pt (jb (aE iw (pv 5) aS (aG _)) (jm (PW.pt (rC (aE cC (pv 4) aS (aG _)) (oZ (aE oo (cG fY (pv 1) (pv 5)) (pv 4) (aG _)))))))) (ah (b8 (d6 PySem.F.slot_list_append PySem.F.type_list_append dw (pv 3) (aa (cG fY (pv 1) (pv 5)) ag)))) (ah (b8 (d6 PySem.F.slot_list_append PySem.F.type_list_append dw (pv 3) (aa (pv 4) ag))))))) (ah (au (pv 3)))))),?_⟩;exists ha,hb;by_cases hn:y=.de
 ·rw [if_pos hn];subst hn;intro l hl;refine k l _ hl (ax.upd hl) ?_;rw [aA]
  congr 2
  unfold Mt.j7;rw [show (fun b r=>minW b (addW (Jp V.de) r))=(fun (b:W) (_:W)=>b) from funext fun b=>funext fun r=>Mt.eI b,xa _ _ hlen]
 ·rw [if_neg hn];obtain ⟨q,rfl⟩:∃q,y=.int q:=by
   cases y<;>first|exact hy.elim|exact ⟨_,rfl⟩|exact absurd rfl hn
  refine ⟨by decide,fun p hp=>?_⟩;obtain ⟨H1,eH,s1,h1⟩:=dQ hp (.lst []);rw [eH];refine ⟨⟨_,.of (s1 _ _ ha)⟩,⟨_,.of (s1 _ _ hb)⟩,loop (Iv (dU r) (dU r2)) (fun i σ H'=>∃v4 v5,σ=[some (.ref a),some (.int q),some (.ref b),some (.ref p),v4,v5]∧ax H H'∧H' p=some (.lst (dU ((Mt.j7 (some q) r r2).take i))))
   ⟨none,none,rfl,s1,h1⟩ (fun i σ H' z1=>by obtain ⟨_,_,_,s2,_⟩:=z1;exact ⟨.of (s2 _ _ ha),.of (s2 _ _ hb)⟩) ?_ ?_⟩
  ·intro i x σ H2 H3 N hi z1 s3 z2 kN;obtain ⟨v4,v5,rfl,s2,h2⟩:=z1;obtain ⟨T0,x1,x2,rfl,hT,e1,e2⟩:=z2;have h3:=s3 _ _ h2;obtain ⟨u1,XC,rfl⟩:=og e1;obtain ⟨u2,Xv,rfl⟩:=og e2;have hsz:(dU (List.take i (Mt.j7 (some q) r r2))).length<sizeLine:=by
    rw [fM,List.length_take];have:i<1000:=by rw [fM,fM] at hi;omega
    exact Nat.lt_of_le_of_lt (Nat.min_le_left _ _) (Nat.lt_of_lt_of_le this (by decide))
   have step:∀v:V,v=wV (minW u1 (addW (some q) u2))→∀x4 x5,N [some (V.ref a),some (V.int q),some (V.ref b),some (V.ref p),x4,x5] (upd H3 p (HO.lst (dU (List.take i (Mt.j7 (some q) r r2))++[v]))):=fun v hv x4 x5=>by
    have e:(Mt.j7 (some q) r r2)[i]?=some (minW u1 (addW (some q) u2)):=by
     unfold Mt.j7;rw [List.getElem?_zipWith,XC,Xv]
    refine kN _ _ ⟨x4,x5,rfl,ax.iA (s2.trans s3) hp,?_⟩;rw [aA,take_snoc e,hv];unfold dU;rw [List.map_append];rfl
   cases u1<;>cases u2<;>exists hT,h3,wV,hsz
   ·exact step _ rfl _ _
   ·exact step _ rfl _ _
   ·exact step _ rfl _ _
   ·rename_i x y;split
    ·exact step _ (by show V.int _=V.int (min x (q+y));congr 1;omega) _ _
    ·exact step _ (by show V.int _=V.int (min x (q+y));congr 1;omega) _ _
  ·intro σ H2 z1;obtain ⟨v4,v5,rfl,s2,h2⟩:=z1;right;refine k p H2 hp s2 ?_;rw [h2,fM,fM,hlen,Nat.min_self,List.take_of_length_le]
   ·rfl
   ·unfold Mt.j7;rw [List.length_zipWith];omega
inductive GWI (T:Txt K mg) (x y:V) (H:Hp) (Q:VK):Prop
 |mk:∀a as t k m,x=.ref a→y=aM m→Tab H a as t→Mt.Sq k t→m<k→k≤1000→(∀b bs H',ax H H'→Tab H' b bs (Mt.hZ t m)→Q (.ref b) H')→GWI T x y H Q
def GW (T:Txt K mg):Sp:=rX fun x y H Q=>GWI T x y H Q
theorem Gb (T:Txt K mg):aU P w K mg base cI 2 T.jD.f T.jD.fd ["bounds","m"] (GW T):=by
 refine T.jD.fn.sE qN fun bJ A outer s H x y Q E hr h=>?_;obtain ⟨a,as,t,n,m,rfl,rfl,ht,hs,hm,hz,k⟩:=h;refine ⟨_,(ah (au (i7 rfl qN.nd (fg (pv 0)) (bL (show jq ["bounds","m","row"] (aq tM) _ [("row",2)]=true from by decide+kernel)) (fun _ _ _ _ _=>(aK (i:=2) qN.nd rfl (Or.inl rfl))) (fun _ _ _ _ _=>eY) (fun _ _ _ _ _=>(aD (Cp T) ‹hr› rfl T.il.g T.il.fn.kp T.il.b .nil aB (aa (pv 2) (aa (aR fz (pv 2) (pv 1) (fun _ _=>rfl)) (aa (aR fz (pv 0) (pv 1) (fun _ _=>rfl)) ag)))))))),?_⟩
 right;have hl:as.length=n:=by rw [ht.len,hs.len]
 obtain ⟨rm,Y0,em2⟩:=hs.get hm;obtain ⟨bm,em3,em4⟩:=ht.get Y0;refine ⟨⟨_,ht.lst⟩,Bk (bp (as.map V.ref)) (fun i=>dU (Mt.j7 ((t.getD i []).getD m none) (t.getD i []) (t.getD m []))) (fun H' s=>.of (s _ _ ht.lst)) (fun i x H' kk hi s hx kf=>?_) (by rw [List.length_map,hl];exact Nat.le_trans hz (by decide)) (fun D bs H' hD FK s hR=>?_)⟩
 ·obtain ⟨b,r',rfl,e1,e0,e3⟩:=Rows.item ht hx;obtain ⟨r,e2,rfl⟩:=jN e0;have e4:=s _ _ e3;have e5:=s _ _ em4;have e6:=s _ _ ht.lst;have e7:iz (dU r) (m:Int)=some (wV (at_ t i m)):=cV (nF (hs.ma e2 hm));have e8:iz (as.map V.ref) (m:Int)=some (.ref bm):=cV (by rw [List.getElem?_map,em3];rfl);exists e4,e5,e6,e7,e8;have lr:=hs.row i r e2;refine ⟨_,r,_,rm,rfl,rfl,e4,e5,o9 _,by omega,by omega,fun c H4 hc s4 h4=>kf c H4 hc s4 ?_⟩;rw [h4,oX,b9 e2,b9 Y0,Mt.Am e2,List.getD_eq_getElem?_getD]
 ·refine k D bs H' s ?_;have e:(List.range (as.map V.ref).length).map (fun i=>dU (Mt.j7 ((t.getD i []).getD m none) (t.getD i []) (t.getD m [])))=(Mt.hZ t m).map dU:=by
   rw [List.length_map,ht.len];unfold Mt.hZ
   conv=>rhs;rw [←range_getD t]
   rw [List.map_map,List.map_map,range_getD];rfl
  rw [e] at hR;exact hR
inductive MQI (T:Txt K mg) (x:V) (H:Hp) (Q:VK):Prop
 |mk:∀a as t k,x=.ref a→Tab H a as t→Mt.Sq k t→k≤1000→(∀b bs H',ax H H'→Tab H' b bs (Vblaai.closed k t)→Q (.ref b) H')→MQI T x H Q
def MQ (T:Txt K mg):Sp:=m7 fun x H Q=>MQI T x H Q
theorem zI (T:Txt K mg):aU P w K mg base cI 3 T.ie.f T.ie.fd ["bounds"] (MQ T):=by
 refine T.ie.fn.n4 uB fun bJ A outer s H x Q E hr h=>?_;obtain ⟨a,as,t,n,rfl,ht,hs,hz,k⟩:=h;refine ⟨_,(ae (aN (i:=1) uB.nd rfl (Or.inl rfl) (pv 0)) (ae (cJ PassesOwn.never rfl (mQ rfl T.ny (aa (bc nY rfl T.eM eJ (aa (pv 0) ag)) ag)) (aK (i:=2) uB.nd rfl (Or.inl rfl)) (ah (aN (i:=1) uB.nd rfl (Or.inl rfl) (aD (Gb T) ‹hr› rfl T.jD.g T.jD.fn.kp T.jD.b .nil aB (aa (pv 1) (aa (pv 2) ag)))))) (ah (au (pv 1))))),?_⟩;have h0:=ht.lst;exists h0;have hl:as.length=n:=by rw [ht.len,hs.len]
 rw [List.length_map,hl,Int.toNat_natCast];refine ⟨by omega,by omega,loop (ju 0 n) (fun i σ H'=>∃b bs v,σ=[some (.ref a),some (.ref b),v]∧ax H H'∧Tab H' b bs (Mt.nE t i)) ⟨a,as,none,rfl,ax.refl H,ht⟩ (fun _ _ _ _=>trivial) ?_ ?_⟩
 ·intro i x σ H2 H3 N hi z1 s3 z2 kN;obtain ⟨b,bs,v,rfl,s2,h2⟩:=z1;obtain rfl:=z2;right;have q:=Mt.oK hs (m:=i) (by omega);rw [Int.zero_add];refine ⟨b,bs,_,n,i,rfl,rfl,Rows.same h2 s3,q.1,hi,hz,fun c cs H4 s4 h4=>?_⟩;rw [←Mt.uS] at h4;exact kN _ _ ⟨c,cs,_,rfl,s2.trans (s3.trans s4),h4⟩
 ·intro σ H2 z1;obtain ⟨b,bs,v,rfl,s2,h2⟩:=z1;right;rw [Mt.yD hs] at h2;exact k b bs H2 s2 h2
inductive DvI (T:Txt K mg) (x:V) (H:Hp) (Q:VK):Prop
 |mk:∀a as t k,x=.ref a→Tab H a as t→Mt.Sq k t→Mt.zy k t→k≤1000→(∀H',ax H H'→Q (.bl (ringed k t)) H')→DvI T x H Q
def Dv (T:Txt K mg):Sp:=m7 fun x H Q=>DvI T x H Q
theorem uX (T:Txt K mg):aU P w K mg base cI 1 T.eV.f T.eV.fd ["closed_bounds"] (Dv T):=by
 refine T.eV.fn.n4 lj fun bJ A outer s H x Q E hr h=>?_;obtain ⟨a,as,t,n,rfl,ht,hs,hd,hz,k⟩:=h;refine ⟨_,(ah (au (bc (VA rfl) rfl T.Ny NG (aa (i7 rfl lj.nd (gS rfl T.bP (aa (pv 0) ag)) (bL (show jq ["closed_bounds","step","row"] (aq qM) _ [("step",1),("row",2)]=true from by decide+kernel)) (fun _ _ _ _ _=>(fB (n:=2) rfl (bq (aK (i:=1) lj.nd rfl (Or.inl rfl)) (bq (aK (i:=2) lj.nd rfl (Or.inl rfl)) fD)))) (fun _ _ _ _ _=>eY) (fun _ _ _ _ _=>(bO oo (aR fz (pv 2) (pv 1) (fun _ _=>rfl)) aI (aG _)))) ag)))),?_⟩
 right;have hl:as.length=n:=by rw [ht.len,hs.len]
 refine ⟨⟨_,.of ht.lst⟩,cW (dN (as.map V.ref)) (fun i=>some (.bl (lessW (at_ t i i) (some 0)))) (fun H' s=>.of (s _ _ ht.lst)) (fun i x H' kk hi s hx kf=>?_) (by rw [List.length_map,hl];exact Nat.le_trans hz (by decide)) (fun D H' hD s hR=>?_)⟩
 ·obtain ⟨T0,y,rfl,hT,hy⟩:=hx;obtain ⟨b,r',rfl,e1,e0,e3⟩:=Rows.item ht hy;obtain ⟨r,e2,rfl⟩:=jN e0;have o4:i<n:=by rw [List.length_map,hl] at hi;exact hi
  have e4:=s _ _ e3;have e5:iz (dU r) (i:Int)=some (wV (at_ t i i)):=cV (nF (hs.ma e2 o4));have e6:=hd i o4
  cases e7:at_ t i i with
  |none=>rw [e7] at e6;cases e6
  |some z =>
   rw [e7] at e5 kf;exists hT,e4,e5,wV;exact kf H' (ax.refl _)
 ·refine Hy ((List.range n).map fun i=>lessW (at_ t i i) (some 0)) hR ?_ ?_
  ·rw [filterMap_some,List.length_map,hl,List.map_map];rfl
  ·rw [List.any_map];exact k H' s
inductive IDI (T:Txt K mg) (x:V) (H:Hp) (Q:VK):Prop
 |mk:∀a as t k,x=.ref a→Tab H a as t→Mt.Sq k t→Mt.zy k t→k≤1000→(∀H',ax H H'→Q (.bl (ringed k (Vblaai.closed k t))) H')→IDI T x H Q
def ID (T:Txt K mg):Sp:=m7 fun x H Q=>IDI T x H Q
theorem Hd (T:Txt K mg):aU P w K mg base cI 4 T.kL.f T.kL.fd ["bounds"] (ID T):=by
 refine T.kL.fn.n4 HZ fun bJ A outer s H x Q E hr h=>?_;obtain ⟨a,as,t,n,rfl,ht,hs,hd,hz,k⟩:=h;refine ⟨_,(ah (au (aD (uX T) ‹hr› rfl T.eV.g T.eV.fn.kp T.eV.b .nil aB (aa (aD (zI T) ‹hr› rfl T.ie.g T.ie.fn.kp T.ie.b .nil aB (aa (pv 0) ag)) ag)))),?_⟩;right;refine ⟨a,as,t,n,rfl,ht,hs,hz,fun b bs H' s h'=>⟨b,bs,_,n,rfl,h',Mt.mU hs,Mt.tN hd,hz,fun H2 s2=>k H2 (s.trans s2)⟩⟩
section
variable {K:PySem.W.Frag} {mg:Str→Option Value}
def ig {α:Type} (R:V→α→Prop) (xs:List V) (ys:List α):Prop:=xs.length=ys.length∧∀(i:Nat) (x:V) (y:α),xs[i]?=some x→ys[i]?=some y→R x y
theorem ig.at_ {α:Type} {R:V→α→Prop} {xs:List V} {ys:List α} (h:ig R xs ys) {i:Nat} {x:V} (e:xs[i]?=some x):∃y,ys[i]?=some y∧R x y:=by
 have hi:=(List.getElem?_eq_some_iff.mp e).1;have hl:i<ys.length:=by rw [←h.1];exact hi
 exact ⟨ys[i],List.getElem?_eq_getElem hl,h.2 i x _ e (List.getElem?_eq_getElem hl)⟩
theorem ig.at' {α:Type} {R:V→α→Prop} {xs:List V} {ys:List α} (h:ig R xs ys) {i:Nat} {y:α} (e:ys[i]?=some y):∃x,xs[i]?=some x∧R x y:=by
 have hi:=(List.getElem?_eq_some_iff.mp e).1;have hl:i<xs.length:=by rw [h.1];exact hi
 exact ⟨xs[i],List.getElem?_eq_getElem hl,h.2 i _ y (List.getElem?_eq_getElem hl) e⟩
theorem ig.mono {α:Type} {R S:V→α→Prop} {xs:List V} {ys:List α} (h:ig R xs ys) (f:∀x y,R x y→S x y):ig S xs ys:=⟨h.1,fun i x y e1 e2=>f x y (h.2 i x y e1 e2)⟩
theorem ig.nil {α:Type} {R:V→α→Prop}:ig R [] []:=⟨rfl,fun i x y e=>by simp at e⟩
theorem ig.snoc {α:Type} {R:V→α→Prop} {xs:List V} {ys:List α} {x:V} {y:α} (h:ig R xs ys) (r:R x y):ig R (xs++[x]) (ys++[y]):=by
 refine ⟨by simp [h.1],fun i x' y' e1 e2=>?_⟩;rw [List.getElem?_append] at e1 e2;by_cases hi:i<xs.length
 ·rw [if_pos hi] at e1;rw [if_pos (by rw [←h.1];exact hi)] at e2;exact h.2 i x' y' e1 e2
 ·rw [if_neg hi] at e1;rw [if_neg (by rw [←h.1];exact hi)] at e2;have z1:i - xs.length=0:=by
   have:=(List.getElem?_eq_some_iff.mp e1).1;simpa using this
  have z2:i - ys.length=0:=by rw [←h.1];exact z1
  rw [z1] at e1;rw [z2] at e2
  cases e1
  cases e2;exact r
def p9 (T:Txt K mg) (H:Hp) (v:V) (x:Limit):Prop:=∃a dx,v=.ref a∧H a=some (.ins T.ba.C dx (j2 (aM x.a) (aM x.b) (oV x.least) (oV x.most)))
def ox (T:Txt K mg) (H:Hp) (v:V) (x:Nature):Prop:=∃a dx,v=.ref a∧H a=some (.ins T.aH.C dx (gI (aM x.a) (aM x.c) (aM x.lo) (aM x.hi)))
def fI (K:PySem.W.Frag) (H:Hp) (v:V) (w:List Nat):Prop:=∃a,v=.ref a∧n6 K H a (bg w)
theorem n6.same {H H':Hp} {a:Addr} {xs:List V} (e:ax H H') (h:n6 K H a xs):n6 K H' a xs:=by
 rcases h with (h|⟨o,h⟩)|h
 ·exact .inl (.inl (e _ _ h))
 ·exact .inl (.inr ⟨o,e _ _ h⟩)
 ·exact .inr h
theorem p9.same {T:Txt K mg} {H H':Hp} {v:V} {x:Limit} (h:p9 T H v x) (s:ax H H'):p9 T H' v x:=by
 obtain ⟨a,dx,e,h⟩:=h;exact ⟨a,dx,e,s _ _ h⟩
theorem ox.same {T:Txt K mg} {H H':Hp} {v:V} {x:Nature} (h:ox T H v x) (s:ax H H'):ox T H' v x:=by
 obtain ⟨a,dx,e,h⟩:=h;exact ⟨a,dx,e,s _ _ h⟩
theorem fI.same {H H':Hp} {v:V} {x:List Nat} (h:fI K H v x) (s:ax H H'):fI K H' v x:=by
 obtain ⟨a,e,h⟩:=h;exact ⟨a,e,n6.same s h⟩
structure Nv (T:Txt K mg) (H:Hp) (a dx an al at':Addr) (ns ls ts:List V) (n:Net):Prop where
 obj:H a=some (.ins T.aT.C dx (fu (.ref an) (.ref al) (.ref at')))
 AW:H an=some (.lst ns)
 Jt:H al=some (.lst ls)
 vA:H at'=some (.lst ts)
 pn:ig (fI K H) ns n.names
 pl:ig (p9 T H) ls n.limits
 pt:ig (ox T H) ts n.natures
def dr (T:Txt K mg) (H:Hp) (a:Addr) (n:Net):Prop:=∃dx an al at' ns ls ts,Nv T H a dx an al at' ns ls ts n
theorem Nv.same {T:Txt K mg} {H H':Hp} {a dx an al at':Addr} {ns ls ts:List V} {n:Net} (h:Nv T H a dx an al at' ns ls ts n) (s:ax H H'):Nv T H' a dx an al at' ns ls ts n :=
 ⟨s _ _ h.obj,s _ _ h.AW,s _ _ h.Jt,s _ _ h.vA,h.pn.mono fun _ _ r=>r.same s,h.pl.mono fun _ _ r=>r.same s,h.pt.mono fun _ _ r=>r.same s⟩
theorem dr.same {T:Txt K mg} {H H':Hp} {a:Addr} {n:Net} (h:dr T H a n) (s:ax H H'):dr T H' a n:=by
 obtain ⟨dx,an,al,at',ns,ls,ts,h⟩:=h;exact ⟨dx,an,al,at',ns,ls,ts,h.same s⟩
end
section
variable {P:Program} {w:World} {K:PySem.W.Frag} {mg:Str→Option Value} {base:Heap}
theorem OC {n:Net} {x:Limit} (h:x.a<size n∧x.b<size n∧x.a≠x.b):Mt.FZ (size n) (size n) (Mt.jc x):=by
 intro u hu;unfold Mt.jc at hu;rcases List.mem_cons.mp hu with rfl|hu
 ·exact ⟨h.1,h.2.1⟩
 ·rcases List.mem_cons.mp hu with rfl|hu
  ·exact ⟨h.2.1,h.1⟩
  ·cases hu
def zc (n:Net):Table:=Mt.dC (Mt.bare (size n)) (n.limits.flatMap Mt.jc)
inductive AUI (T:Txt K mg) (x:V) (H:Hp) (Q:VK):Prop
 |mk:∀a n,x=.ref a→dr T H a n→Mt.cH n→size n≤1000→(∀b bs H',Ws H b bs→ax H H'→Tab H' b bs (zc n)→Q (.ref b) H')→AUI T x H Q
def AU (T:Txt K mg):Sp:=m7 fun x H Q=>AUI T x H Q
theorem rj (T:Txt K mg):aU P w K mg base cI 3 T.c8.f T.c8.fd ["net"] (AU T):=by
 refine T.c8.fn.n4 g7 fun bJ A outer s H x Q E hr h=>?_;obtain ⟨a,n,rfl,⟨dx,an,al,at',ns,ls,ts,N0⟩,cZ,hz,k⟩:=h;refine ⟨_,(ae (aN (i:=1) g7.nd rfl (Or.inr rfl) (bc nY rfl T.eM eJ (aa (ai T.aT.cl T.bj (pv 0)) ag))) (ae (nL (i:=2) rfl g7.nd rfl rfl (ql rfl rfl rfl rfl) (mQ rfl T.ny (aa (pv 1) ag)) (bL (show jq ["net","size","bounds","limit","i"] (aq nO) _ [("i",4)]=true from by decide+kernel)) (fun _ _ _ _ _=>(aK (i:=4) g7.nd rfl (Or.inl rfl))) (fun _ _ _ _ _=>eY) (fun _ _ _ _ _=>(aD (IP T) ‹hr› rfl T.kX.g T.kX.fn.kp T.kX.b .nil aB (aa (pv 4) (aa (pv 1) ag))))) (ae (cJ PassesOwn.never rfl (fg (ai T.aT.cl T.fS (pv 0))) (aK (i:=3) g7.nd rfl (Or.inl rfl)) (ae (b8 (aD (fc T) ‹hr› rfl T.aV.g T.aV.fn.kp T.aV.b .nil aB (aa (pv 2) (aa (ai T.ba.cl T.gf (pv 3)) (aa (ai T.ba.cl T.fA (pv 3)) (aa (ai T.ba.cl T.gO (pv 3)) ag)))))) (ah (b8 (aD (fc T) ‹hr› rfl T.aV.g T.aV.fn.kp T.aV.b .nil aB (aa (pv 2) (aa (ai T.ba.cl T.fA (pv 3)) (aa (ai T.ba.cl T.gf (pv 3)) (aa (aD (KZ T) ‹hr› rfl T.mV.g T.mV.fn.kp T.mV.b .nil aB (aa (ai T.ba.cl T.gh (pv 3)) ag)) ag))))))))) (ah (au (pv 2)))))),?_⟩
 have h0:=N0.obj;have h1:=N0.AW;have h2:=N0.Jt;have hl:ns.length=size n:=N0.pn.1;exists h0,h1,hl;refine ⟨by omega,by omega,?_⟩;rw [Int.toNat_natCast];refine Bk (ju 0 (size n)) (fun i=>dU ((List.range (size n)).map fun j=>if j=0∨j=i then some 0 else none)) (fun _ _=>trivial) (fun i x H' kk hi s hx kf=>?_) (Nat.le_trans hz (by decide)) (fun D bs H' hD FK s hR=>?_)
 ·subst hx;right;rw [Int.zero_add];exact ⟨i,_,rfl,rfl,hz,fun b H4 hb s4 h4=>kf b H4 hb s4 h4⟩
 ·have Qo:=s _ _ h0;have Pa:=s _ _ h2;exists Qo,Pa,hl;refine loop (bp ls) (fun i σ H1=>∃v,σ=[some (.ref a),some (aM (size n)),some (.ref D),v,none]∧ax H H1∧Tab H1 D bs (Mt.dC (Mt.bare (size n)) ((n.limits.take i).flatMap Mt.jc))) ⟨none,rfl,s,?_⟩ (fun i σ H1 z1=>by obtain ⟨_,_,s1,_⟩:=z1;exact  .of (s1 _ _ h2)) ?_ ?_
  ·have e:(List.range (size n)).map (fun i=>dU ((List.range (size n)).map fun j=>if j=0∨j=i then some 0 else none))=(Mt.bare (size n)).map dU:=by
    unfold Mt.bare Mt.Cw;rw [List.map_map];rfl
   rw [e] at hR;exact hR
  ·intro i x σ H2 H3 N hi z1 s3 hx kN;obtain ⟨v,rfl,s2,h3⟩:=z1;obtain ⟨y,ey,Kr,dl,rfl,hy⟩:=N0.pl.at_ hx;have s4:=s2.trans s3;have UY:=s4 _ _ hy;exists UY;have gc:=cZ.lim y (List.mem_of_getElem? ey);have Jr:Mt.Rc (size n) (size n) (Mt.dC (Mt.bare (size n)) ((n.limits.take i).flatMap Mt.jc)):=by
    refine (Mt.gm _ _ _).dC fun u hu=>?_;obtain ⟨z,hz,hu⟩:=List.mem_flatMap.mp hu;exact OC (cZ.lim z (List.mem_of_mem_take hz)) u hu
   refine ⟨D,bs,_,_,_,y.a,y.b,rfl,rfl,rfl,Rows.same h3 s3,Jr,gc.1,gc.2.1,Nz _,fun H4 k4 h4=>?_⟩;have s5:ax H H4:=aO.same s4 k4 FK;have UK:=s5 _ _ hy;exists UK,B8,Nz,OV;refine ⟨D,bs,_,_,_,y.b,y.a,rfl,rfl,rfl,h4,Jr.put gc.1 _,gc.2.1,gc.1,o9 _,fun H5 k5 h5=>kN _ _ ⟨_,rfl,aO.same s5 k5 FK,?_⟩⟩;rw [take_snoc ey,List.flatMap_append,Mt.iB];rw [OV,oX] at h5;have e:(y.least.map fun (q:Nat)=>(q:Int)).map (fun q=> -q)=y.least.map fun (q:Nat)=> -(q:Int):=by cases y.least<;>rfl
   rw [e] at h5;simpa [Mt.jc,Mt.dC] using h5
  ·intro σ H2 z1;obtain ⟨v,rfl,s2,h3⟩:=z1;right;refine k D bs H2 ⟨hD,FK⟩ s2 ?_;rw [N0.pl.1,List.take_length] at h3;exact h3
end
theorem S7 {n:Net} {x:Nature} (h:x.a<size n∧x.c<size n∧x.a≠x.c):Mt.FZ (size n) (size n) (Mt.qI x):=by
 intro u hu;unfold Mt.qI at hu;rcases List.mem_cons.mp hu with rfl|hu
 ·exact ⟨h.1,h.2.1⟩
 ·rcases List.mem_cons.mp hu with rfl|hu
  ·exact ⟨h.2.1,h.1⟩
  ·cases hu
theorem Mv {n:Net} (cZ:Mt.cH n):Mt.Rc (size n) (size n) (zc n):=by
 refine (Mt.gm _ _ _).dC fun u hu=>?_;obtain ⟨z,hz,hu⟩:=List.mem_flatMap.mp hu;exact OC (cZ.lim z hz) u hu
inductive CyI (T:Txt K mg) (x:V) (H:Hp) (Q:VK):Prop
 |mk:∀a n,x=.ref a→dr T H a n→Mt.cH n→size n≤1000→(∀b bs H',Ws H b bs→ax H H'→Tab H' b bs (Vblaai.base n)→Q (.ref b) H')→CyI T x H Q
def Cy (T:Txt K mg):Sp:=m7 fun x H Q=>CyI T x H Q
theorem tR (T:Txt K mg):aU P w K mg base cI 4 T.dZ.f T.dZ.fd ["net"] (Cy T):=by
 refine T.dZ.fn.n4 nZ fun bJ A outer s H x Q E hr h=>?_;obtain ⟨a,n,rfl,⟨dx,an,al,at',ns,ls,ts,N0⟩,cZ,hz,k⟩:=h;refine ⟨_,(ae (aN (i:=1) nZ.nd rfl (Or.inl rfl) (aD (rj T) ‹hr› rfl T.c8.g T.c8.fn.kp T.c8.b .nil aB (aa (pv 0) ag))) (ae (cJ PassesOwn.never rfl (fg (ai T.aT.cl T.bo (pv 0))) (aK (i:=2) nZ.nd rfl (Or.inl rfl)) (ae (b8 (aD (fc T) ‹hr› rfl T.aV.g T.aV.fn.kp T.aV.b .nil aB (aa (pv 1) (aa (ai T.aH.cl T.bu (pv 2)) (aa (ai T.aH.cl T.bt (pv 2)) (aa (ai T.aH.cl T.gL (pv 2)) ag)))))) (ah (b8 (aD (fc T) ‹hr› rfl T.aV.g T.aV.fn.kp T.aV.b .nil aB (aa (pv 1) (aa (ai T.aH.cl T.bt (pv 2)) (aa (ai T.aH.cl T.bu (pv 2)) (aa (EF zh (ai T.aH.cl T.ff (pv 2))) ag))))))))) (ah (au (pv 1))))),?_⟩;right;refine ⟨a,n,rfl,⟨dx,an,al,at',ns,ls,ts,N0⟩,cZ,hz,fun D bs H1 JK s1 hR=>?_⟩;obtain ⟨hD,FK⟩:=JK;have h0:=s1 _ _ N0.obj;have h2:=s1 _ _ N0.vA;exists h0,h2;refine loop (bp ts) (fun i σ H1=>∃v,σ=[some (.ref a),some (.ref D),v]∧ax H H1∧Tab H1 D bs (Mt.dC (zc n) ((n.natures.take i).flatMap Mt.qI))) ⟨none,rfl,s1,hR⟩ (fun i σ H1 z1=>by obtain ⟨_,_,s1,_⟩:=z1;exact  .of (s1 _ _ N0.vA)) ?_ ?_
 ·intro i x σ H2 H3 N hi z1 s3 hx kN;obtain ⟨v,rfl,s2,h3⟩:=z1;obtain ⟨y,ey,Kr,dl,rfl,hy⟩:=N0.pt.at_ hx;have s4:=s2.trans s3;have UY:=s4 _ _ hy;exists UY;have gc:=cZ.nat y (List.mem_of_getElem? ey);have Jr:Mt.Rc (size n) (size n) (Mt.dC (zc n) ((n.natures.take i).flatMap Mt.qI)):=by
   refine (Mv cZ).dC fun u hu=>?_;obtain ⟨z,hz,hu⟩:=List.mem_flatMap.mp hu;exact S7 (cZ.nat z (List.mem_of_mem_take hz)) u hu
  refine ⟨D,bs,_,_,_,y.a,y.c,rfl,rfl,rfl,Rows.same h3 s3,Jr,gc.1,gc.2.1,xm _,fun H4 k4 h4=>?_⟩;have s5:ax H H4:=aO.same s4 k4 FK;have UK:=s5 _ _ hy;exists UK;refine ⟨D,bs,_,_,_,y.c,y.a,rfl,rfl,rfl,h4,Jr.put gc.1 _,gc.2.1,gc.1,xm _,fun H5 k5 h5=>kN _ _ ⟨_,rfl,aO.same s5 k5 FK,?_⟩⟩;rw [take_snoc ey,List.flatMap_append,Mt.iB];rw [FP,FP] at h5;simpa [Mt.qI,Mt.dC] using h5
 ·intro σ H2 z1;obtain ⟨v,rfl,s2,h3⟩:=z1;right;refine k D bs H2 ⟨hD,FK⟩ s2 ?_;rw [N0.pt.1,List.take_length] at h3;rw [←Mt.Ql cZ];unfold Mt.wZ;rw [Mt.iB];exact h3
inductive CNI (T:Txt K mg) (x:V) (H:Hp) (Q:VK):Prop
 |mk:∀a n,x=.ref a→dr T H a n→Mt.cH n→size n≤1000→(∀v H',ax H H'→(if Vblaai.weak n=true then ∃b bs,v=.ref b∧Tab H' b bs (Vblaai.closed (size n) (Vblaai.base n)) else v=.de)→Q v H')→CNI T x H Q
def CN (T:Txt K mg):Sp:=m7 fun x H Q=>CNI T x H Q
theorem t8 (T:Txt K mg):aU P w K mg base cI 5 T.d5.f T.d5.fd ["net"] (CN T):=by
 refine T.d5.fn.n4 tX fun bJ A outer s H x Q E hr h=>?_;obtain ⟨a,n,rfl,hN,cZ,hz,k⟩:=h;refine ⟨_,(ae (aN (i:=1) tX.nd rfl (Or.inl rfl) (aD (zI T) ‹hr› rfl T.ie.g T.ie.fn.kp T.ie.b .nil aB (aa (aD (tR T) ‹hr› rfl T.dZ.g T.dZ.fn.kp T.dZ.b .nil aB (aa (pv 0) ag)) ag))) (ah (au (dh (bZ (aD (uX T) ‹hr› rfl T.eV.g T.eV.fn.kp T.eV.b .nil aB (aa (pv 1) ag))) aS (pv 1))))),?_⟩;right;refine ⟨a,n,rfl,hN,cZ,hz,fun D bs H1 JK s1 hR=>?_⟩;refine ⟨D,bs,_,_,rfl,hR,Mt.Be n,hz,fun E Zj H2 s2 h2=>?_⟩;right;refine ⟨E,Zj,_,_,rfl,h2,Mt.mU (Mt.Be n),Mt.tN (Mt.EJ cZ),hz,fun H3 s3=>?_⟩;right;have e:Vblaai.weak n= !ringed (size n) (Vblaai.closed (size n) (Vblaai.base n)):=rfl
 cases q:ringed (size n) (Vblaai.closed (size n) (Vblaai.base n)) with
 |true =>
  refine k _ H3 ((s1.trans s2).trans s3) ?_;rw [e,q,if_neg (by decide)]
 |false =>
  refine k _ H3 ((s1.trans s2).trans s3) ?_;rw [e,q,if_pos (by decide)];exact ⟨E,Zj,rfl,Rows.same h2 s3⟩
theorem cF {H H':Hp} {p dx:Addr} {o:HO} (hp:H p=none) (hd:H dx=none) (k:aO [p] (upd (upd H dx (.own p)) p o) H'):ax H H':=fun b u e=>by
 have b1:b≠p:=aC e hp;have b2:b≠dx:=aC e hd;exact k b u (by rw [aF b1,aF b2];exact e) (by simpa using b1)
inductive FmI (T:Txt K mg) (x y z:V) (H:Hp) (Q:VK):Prop
 |mk:∀p dx,x=.ref p→H p=some (.ins T.bR.C dx [])→(∀H',H' p=some (.ins T.bR.C dx (uz y z))→aO [p] H H'→Q .de H')→FmI T x y z H Q
def Fm (T:Txt K mg):Sp:=Cs fun x y z H Q=>FmI T x y z H Q
theorem mL (T:Txt K mg):aU P w K mg base cI 1 T.bR.f T.bR.fd ["self","bounds","waits"] (Fm T):=by
 refine T.bR.fn.Bi Gm fun bJ A outer s H x y z Q E hr h=>?_;obtain ⟨p,dx,rfl,hp,k⟩:=h;refine ⟨_,(ae (bC T.bR.cl T.cX (pv 0) (pv 1)) (ah (bC T.bR.cl T.du (pv 0) (pv 2)))),?_⟩;exists hp;refine ⟨by decide,by show 1<1000;decide,k _ ?_ ?_⟩
 ·rw [aA];rfl
 ·rw [fC];exact aO.upd (by simp)
inductive yeI (T:Txt K mg) (x y z:V) (H:Hp) (Q:VK):Prop
 |mk:∀p dx,x=.ref p→H p=some (.ins T.bf.C dx [])→(∀H',H' p=some (.ins T.bf.C dx (iR y z))→aO [p] H H'→Q .de H')→yeI T x y z H Q
def ye (T:Txt K mg):Sp:=Cs fun x y z H Q=>yeI T x y z H Q
theorem j1 (T:Txt K mg):aU P w K mg base cI 1 T.bf.f T.bf.fd ["self","form","earlier"] (ye T):=by
 refine T.bf.fn.Bi wM fun bJ A outer s H x y z Q E hr h=>?_;obtain ⟨p,dx,rfl,hp,k⟩:=h;refine ⟨_,(ae (bC T.bf.cl T.dR (pv 0) (pv 1)) (ah (bC T.bf.cl T.mx (pv 0) (pv 2)))),?_⟩;exists hp;refine ⟨by decide,by show 1<1000;decide,k _ ?_ ?_⟩
 ·rw [aA];rfl
 ·rw [fC];exact aO.upd (by simp)
def fw (T:Txt K mg) (H:Hp) (v:V) (f:Form):Prop:=∃a dx ab abs aw Aj,v=.ref a∧H a=some (.ins T.bR.C dx (uz (.ref ab) (.ref aw)))∧Tab H ab abs f.ord∧Tab H aw Aj f.wait
theorem fw.same {T:Txt K mg} {H H':Hp} {v:V} {f:Form} (h:fw T H v f) (s:ax H H'):fw T H' v f:=by
 obtain ⟨a,dx,ab,abs,aw,Aj,e,h1,h2,h3⟩:=h;exact ⟨a,dx,ab,abs,aw,Aj,e,s _ _ h1,Rows.same h2 s,Rows.same h3 s⟩
inductive DVI (T:Txt K mg) (x:V) (H:Hp) (Q:VK):Prop
 |mk:∀a n,x=.ref a→dr T H a n→Mt.cH n→size n≤1000→n.natures.length≤1000→(∀v H',ax H H'→fw T H' v (Vblaai.first n)→Q v H')→DVI T x H Q
def DV (T:Txt K mg):Sp:=m7 fun x H Q=>DVI T x H Q
theorem DM (T:Txt K mg):aU P w K mg base cI 5 T.iP.f T.iP.fd ["net"] (DV T):=by
 refine T.iP.fn.n4 jf fun bJ A outer s H x Q E hr h=>?_;obtain ⟨a,n,rfl,hN,cZ,hz,Hc,k⟩:=h;obtain ⟨dx,an,al,at',ns,ls,ts,N0⟩:=id hN;refine ⟨_,(ae (aN (i:=1) jf.nd rfl (Or.inl rfl) (a9 ag)) (ae (cJ PassesOwn.never rfl (fg (ai T.aT.cl T.bo (pv 0))) (aK (i:=2) jf.nd rfl (Or.inr rfl)) (ah (b8 (d6 PySem.F.slot_list_append PySem.F.type_list_append dw (pv 1) (aa (i7 rfl jf.nd (mQ rfl T.ny (aa (bc nY rfl T.eM eJ (aa (ai T.aT.cl T.bj (pv 0)) ag)) ag)) (bL (show jq ["net","waits","nature","step"] (aq qx) _ [("step",3)]=true from by decide+kernel)) (fun _ _ _ _ _=>(aK (i:=3) jf.nd rfl (Or.inl rfl))) (fun _ _ _ _ _=>eY) (fun _ _ _ _ _=>(dh (aE eF (pv 3) (ai T.aH.cl T.bt (pv 2)) (aG _)) (EF zh (ai T.aH.cl T.gL (pv 2))) aS))) ag))))) (ah (au (gQ T.bR.Fy (mL T) ‹hr› rfl T.bR.g T.bR.b .nil aB (aa (aD (tR T) ‹hr› rfl T.dZ.g T.dZ.fn.kp T.dZ.b .nil aB (aa (pv 0) ag)) (aa (pv 1) ag))))))),?_⟩
 right;refine ⟨by decide,fun p hp=>?_⟩;obtain ⟨H1,eH,s1,h1⟩:=dQ hp (.lst []);rw [eH];have h0:=s1 _ _ N0.obj;have h2:=s1 _ _ N0.vA;exists h0,h2;have hl:ns.length=size n:=N0.pn.1;refine loop (bp ts) (fun i σ H1=>∃v ws,σ=[some (.ref a),some (.ref p),v,none]∧ax H H1∧(∀b∈ws,H b=none)∧Tab H1 p ws ((Vblaai.first n).wait.take i)) ⟨none,[],rfl,s1,by simp,.nil h1⟩ (fun i σ H1 z1=>by obtain ⟨_,_,_,s1,_⟩:=z1;exact  .of (s1 _ _ N0.vA)) ?_ ?_
 ·intro i x σ H2 H3 N hi z1 s3 hx kN;obtain ⟨v,ws,rfl,s2,ZI,h3⟩:=z1;obtain ⟨y,ey,Kr,dl,rfl,hy⟩:=N0.pt.at_ hx;have s4:=s2.trans s3;have UY:=s4 _ _ hy;have Dh:=s4 _ _ N0.obj;have O7:=s4 _ _ N0.AW;have ZQ:=s3 _ _ h3.lst;exists Dh,O7,hl,ZQ;refine ⟨by omega,by omega,?_⟩;rw [Int.toNat_natCast];refine cW (ju 0 (size n)) (fun j=>some (wV (if j=y.c then some (-(y.hi:Int)) else none))) (fun _ _=>trivial) (fun j x H' kk hj s5 hx kf=>?_) (Nat.le_trans hz (by decide)) (fun D H' hD s5 hd=>?_)
  ·subst hx;have Vs:=s5 _ _ UY;exists Vs;rw [Int.zero_add];by_cases c:j=y.c
   ·rw [if_pos (by rw [c])];rw [if_pos c] at kf
    first|exact kf H' (ax.refl _)|exact ⟨rfl,kf H' (ax.refl _)⟩
   ·rw [if_neg (by omega)];rw [if_neg c] at kf
    first|exact kf H' (ax.refl _)|exact ⟨rfl,kf H' (ax.refl _)⟩
  ·have WX:=s5 _ _ ZQ;have e0:(Vblaai.first n).wait[i]?=some ((List.range (size n)).map fun j=>if j=y.c then some (-(y.hi:Int)) else none):=by
    show (n.natures.map _)[i]?=_;rw [List.getElem?_map,ey];rfl
   exists WX;refine ⟨?_,kN _ _ ⟨_,ws++[D],rfl,ax.iA (s4.trans s5) hp,fun b hb=>?_,?_⟩⟩
   ·rw [List.length_map,h3.len,List.length_take];exact Nat.lt_of_le_of_lt (Nat.min_le_right _ _) (by show (n.natures.map _).length<_;rw [List.length_map];exact Nat.lt_of_le_of_lt Hc (by decide))
   ·rcases List.mem_append.mp hb with hb|hb
    ·exact ZI b hb
    ·have:b=D:=by simpa using hb
     rw [this];exact s4.free hD
   ·rw [take_snoc e0];show Rows _ _ _ (List.map dU _);rw [List.map_append];refine Rows.snoc (Rows.same h3 s3) s5 hD ?_;rw [hd,filterMap_some];unfold dU;rw [List.map_map];rfl
 ·intro σ H2 z1;obtain ⟨v,ws,rfl,s2,ZI,h3⟩:=z1;right;refine ⟨a,n,rfl,hN.same s2,cZ,hz,fun b bs H3 JK s3 h4=>?_⟩;right;intro q dq hq uG lP;refine ⟨q,dq,rfl,aA,fun H4 h5 k4=>⟨rfl,?_⟩⟩;have s4:=cF hq uG k4;refine k _ H4 (s2.trans (s3.trans s4)) ⟨q,dq,b,bs,p,ws,rfl,h5,Rows.same h4 s4,?_⟩;have e:(Vblaai.first n).wait.take ts.length=(Vblaai.first n).wait:=by
   rw [List.take_of_length_le];show (n.natures.map _).length≤_;rw [List.length_map,N0.pt.1];exact Nat.le_refl _
  rw [e] at h3;exact Rows.same h3 (s3.trans s4)
inductive DjI (T:Txt K mg) (x y:V) (H:Hp) (Q:VK):Prop
 |mk:∀a r b r2,x=.ref a→y=.ref b→H a=some (.lst (dU r))→H b=some (.lst (dU r2))→r.length=r2.length→(∀H',ax H H'→Q (wV (Mt.mW r r2)) H')→DjI T x y H Q
def Dj (T:Txt K mg):Sp:=rX fun x y H Q=>DjI T x y H Q
theorem DB (T:Txt K mg):aU P w K mg base cI 2 T.iS.f T.iS.fd ["bounds_row","waits_row"] (Dj T):=by
 refine T.iS.fn.sE ji fun bJ A outer s H x y Q E hr h=>?_;obtain ⟨a,r,b,r2,rfl,rfl,ha,hb,hlen,k⟩:=h;refine ⟨_,(ae (aN (i:=2) ji.nd rfl (Or.inl rfl) aS) (ae (cJ PassesOwn.never rfl (Nh rfl T.Nj (aa (pv 0) (aa (pv 1) ag))) (fB (n:=2) rfl (bq (aK (i:=3) ji.nd rfl (Or.inl rfl)) (bq (aK (i:=4) ji.nd rfl (Or.inl rfl)) fD))) (ah (aN (i:=2) ji.nd rfl (Or.inl rfl) (aD (EN T) ‹hr› rfl T.kb.g T.kb.fn.kp T.kb.b .nil aB (aa (pv 2) (aa (aD (OL T) ‹hr› rfl T.uE.g T.uE.fn.kp T.uE.b .nil aB (aa (pv 3) (aa (pv 4) ag))) ag)))))) (ah (au (pv 2))))),?_⟩;right;refine ⟨⟨_,.of ha⟩,⟨_,.of hb⟩,loop (Iv (dU r) (dU r2)) (fun i σ H'=>∃v4 v5,σ=[some (.ref a),some (.ref b),some (wV (least ((List.zipWith addW r r2).take i))),v4,v5]∧ax H H')
   ⟨none,none,rfl,ax.refl H⟩ (fun i σ H' z1=>by obtain ⟨_,_,_,s2⟩:=z1;exact ⟨.of (s2 _ _ ha),.of (s2 _ _ hb)⟩) ?_ ?_⟩
 ·intro i x σ H2 H3 N hi z1 s3 z2 kN;obtain ⟨v4,v5,rfl,s2⟩:=z1;obtain ⟨T0,x1,x2,rfl,hT,e1,e2⟩:=z2;obtain ⟨u1,XC,rfl⟩:=og e1;obtain ⟨u2,Xv,rfl⟩:=og e2;exists hT,zl,Je,o9,oX;refine kN _ _ ⟨some (wV u1),some (wV u2),?_,s2.trans s3⟩;have e:(List.zipWith addW r r2)[i]?=some (addW u1 u2):=by rw [List.getElem?_zipWith,XC,Xv]
  rw [take_snoc e,Mt.j5,Mt.b5,Mt.iU,Mt.eI]
 ·intro σ H2 z1;obtain ⟨v4,v5,rfl,s2⟩:=z1;right;rw [fM,fM,hlen,Nat.min_self,List.take_of_length_le (by rw [List.length_zipWith];omega)];exact k H2 s2
def dW:W→PyData
 |none=>.none
 |some i=>.int i
def DW (r:List W):PyData:= .list (r.map dW)
def Oj (t:Table):PyData:= .list (t.map DW)
theorem RD (a b:W):PyData.eqv (dW a) (dW b)=decide (a=b):=by
 cases a<;>cases b<;>simp [dW,PyData.eqv];exact Bool.beq_eq_decide_eq _ _
theorem qJ {α:Type} [DecidableEq α] {f:α→PyData} (h:∀a b,PyData.eqv (f a) (f b)=decide (a=b)):∀l m:List α, PyData.eqvAll (l.map f) (m.map f)=decide (l=m)
 |[],[]=>by simp [PyData.eqvAll]
 |[],_::_=>by simp [PyData.eqvAll]
 |_::_,[]=>by simp [PyData.eqvAll]
 |a::l,b::m=>by
  rw [List.map_cons,List.map_cons];show (PyData.eqv (f a) (f b)&&PyData.eqvAll (l.map f) (m.map f))=_;rw [h,qJ h l m];by_cases e1:a=b<;>by_cases e2:l=m<;>simp [e1,e2]
theorem Ox (a b:List W):PyData.eqv (DW a) (DW b)=decide (a=b):=qJ RD a b
theorem Ih (a b:Table):PyData.eqv (Oj a) (Oj b)=decide (a=b):=qJ Ox a b
theorem nG {α:Type} {f:α→PyData} (h:∀a,PyData.canLay0 (f a)=true):∀l:List α, PyData.canLayAll0 (l.map f)=true
 |[]=>by simp [PyData.canLayAll0]
 |a::l=>by
  rw [List.map_cons];show (PyData.canLay0 (f a)&&PyData.canLayAll0 (l.map f))=true;rw [h,nG h l];rfl
theorem uw {α:Type} {f:α→PyData} {d:Nat} (h:∀a,PyData.depth (f a)≤d):∀l:List α, PyData.depthAll (l.map f)≤d
 |[]=>by simp [PyData.depthAll]
 |a::l=>by
  rw [List.map_cons];show max (PyData.depth (f a)) (PyData.depthAll (l.map f))≤d;have h1:=h a;have h2:=uw h l;omega
theorem MM (a:W):PyData.canLay0 (dW a)=true:=by cases a<;>simp [dW,PyData.canLay0]
theorem NT (a:W):PyData.depth (dW a)≤0:=by cases a<;>simp [dW,PyData.depth]
theorem Ji (a:List W):PyData.canLay0 (DW a)=true:=by
 unfold DW;rw [PyData.canLay0];exact nG MM a
theorem J0 (a:List W):PyData.depth (DW a)≤1:=by
 unfold DW;rw [PyData.depth];have:=uw NT a;omega
theorem oJ (t:Table):SeqAt.shaped (Oj t)=true:=by
 unfold SeqAt.shaped Oj;have h1:PyData.canLay0 (.list (t.map DW))=true:=by rw [PyData.canLay0];exact nG Ji t
 have h2:PyData.depth (.list (t.map DW))≤64:=by
  rw [PyData.depth];have:=uw J0 t;omega
 rw [h1,decide_eq_true h2];rfl
theorem JG {H:Hp}:∀r:List W,tL K H (dU r) (r.map dW)
 |[]=>.nil
 |none::r=>.cons .de (JG r)
 |some i::r=>.cons (.int i) (JG r)
theorem K7 {H:Hp}:∀{as:List Addr} {t:Table},as.length=t.length→(∀(i:Nat) (b:Addr) (r:List W),as[i]?=some b→t[i]?=some r→H b=some (.lst (dU r)))→tL K H (as.map V.ref) (t.map DW)
 |[],[],_,_=>.nil
 |[],_::_,h,_=>by cases h
 |_::_,[],h,_=>by cases h
 |b::as,r::t,h,f=>.cons (.lst (.of (f 0 b r rfl rfl)) (JG r)) (K7 (by simpa using h) fun i b r e1 e2=>f (i+1) b r e1 e2)
theorem Gv {H:Hp} {a:Addr} {as:List Addr} {t:Table} (h:Tab H a as t):Dp K H (.ref a) (Oj t) :=
 .lst (.of h.lst) (K7 h.len fun i b r e1 e2=>h.row i b _ e1 (by rw [List.getElem?_map,e2];rfl))
inductive KjI (T:Txt K mg) (x y:V) (H:Hp) (Q:VK):Prop
 |mk:∀f g,fw T H x f→fw T H y g→Q (.bl (decide (f=g))) H→KjI T x y H Q
def Kj (T:Txt K mg):Sp:=rX fun x y H Q=>KjI T x y H Q
theorem Jv (T:Txt K mg):aU P w K mg base cI 1 T.mP.f T.mP.fd ["form","other"] (Kj T):=by
 refine T.mP.fn.sE KA fun bJ A outer s H x y Q E hr h=>?_;obtain ⟨f,g,⟨a,dx,ab,abs,aw,Aj,rfl,h1,h2,h3⟩,⟨a',dx',ab',aaz,aw',acr,rfl,Ts,Pa,Uo⟩,k⟩:=h;refine ⟨_,(ah (au (gB (bO (y9 hr.units) (ai T.bR.cl T.cX (pv 0)) (ai T.bR.cl T.cX (pv 1)) (aG _)) (gA (bO (y9 hr.units) (ai T.bR.cl T.du (pv 0)) (ai T.bR.cl T.du (pv 1)) (aG _)))))),?_⟩;exists h1,Ts;refine ⟨_,_,Gv h2,Gv Pa,oJ _,oJ _,?_⟩;rw [Ih];exists h1,Ts;obtain ⟨o,w⟩:=f;obtain ⟨o',w'⟩:=g;by_cases e1:o=o'
 ·subst e1;rw [if_pos rfl];refine ⟨_,_,Gv h3,Gv Uo,oJ _,oJ _,?_⟩;rw [Ih];have e:decide ((⟨o,w⟩:Form)=⟨o,w'⟩)=decide (w=w'):=by
   congr 1
   simp
  rw [e] at k;exact k
 ·rw [if_neg e1];have e:decide ((⟨o,w⟩:Form)=⟨o',w'⟩)=false:=by
   apply decide_eq_false;intro z
   injection z with z1 _
   exact e1 z1
  rw [e] at k;exact k
theorem gK {α:Type} (l:List α):l.zipIdx.take l.length=l.zipIdx:=List.take_of_length_le (by rw [List.length_zipIdx];exact Nat.le_refl _)
structure NF (T:Txt K mg) (H:Hp) (a:Addr) (y:V) (n:Net) (f:Form):Prop where
 net:dr T H a n
 Gw:fw T H y f
 ok:Mt.cH n
 n8:Mt.yN n f
 z1:size n≤1000
 z2:n.natures.length≤1000
theorem FZ.sub {m k:Nat} {us vs:List Mt.Up} (h:Mt.FZ m k us) (hs:∀u∈vs,u∈us):Mt.FZ m k vs:=fun u hu=>h u (hs u hu)
theorem yP {α β:Type} {l:List α} {k:Nat} {F:α→List β} {u:β} (h:u∈(l.take k).flatMap F):u∈l.flatMap F:=by
 obtain ⟨x,hx,hu⟩:=List.mem_flatMap.mp h;exact List.mem_flatMap.mpr ⟨x,List.mem_of_mem_take hx,hu⟩
theorem xM {α β γ:Type} {l:List α} {k i:Nat} {x:α} {R:List γ} {g:γ→β} {F:α→List β} (hx:l[k]?=some x) (hF:F x=R.map g) {u:β} (h:u∈(l.take k).flatMap F++(R.take i).map g):u∈l.flatMap F:=by
 rcases List.mem_append.mp h with h|h
 ·exact yP h
 ·obtain ⟨z,hz,rfl⟩:=List.mem_map.mp h;exact List.mem_flatMap.mpr ⟨x,List.mem_of_getElem? hx,by rw [hF];exact List.mem_map.mpr ⟨z,List.mem_of_mem_take hz,rfl⟩⟩
inductive xBI (T:Txt K mg) (x y:V) (H:Hp) (Q:VK):Prop
 |mk:∀a n f,x=.ref a→NF T H a y n f→(∀b bs H',Ws H b bs→ax H H'→Tab H' b bs (Vblaai.longest n f)→Q (.ref b) H')→xBI T x y H Q
def xB (T:Txt K mg):Sp:=rX fun x y H Q=>xBI T x y H Q
theorem wO (T:Txt K mg):aU P w K mg base cI 3 T.fj.f T.fj.fd ["net","form"] (xB T):=by
 refine T.fj.fn.sE eC fun bJ A outer s H x y Q E hr h=>?_;obtain ⟨a,n,f,rfl,nf,k⟩:=h;obtain ⟨dx,an,al,at',ns,ls,ts,N0⟩:=id nf.net;obtain ⟨af,df,ab,abs,aw,Aj,rfl,g1,g2,g3⟩:=id nf.Gw;refine ⟨_,(ae (aN (i:=2) eC.nd rfl (Or.inl rfl) (aD (pK T) ‹hr› rfl T.dI.g T.dI.fn.kp T.dI.b .nil aB (aa (ai T.bR.cl T.cX (pv 1)) ag))) (ae (cJ PassesOwn.never rfl (gS rfl T.bP (aa (ai T.aT.cl T.bo (pv 0)) ag)) (fB (n:=2) rfl (bq (aK (i:=3) eC.nd rfl (Or.inl rfl)) (bq (aK (i:=4) eC.nd rfl (Or.inl rfl)) fD))) (ah (cJ PassesOwn.never rfl (gS rfl T.bP (aa (aR fz (ai T.bR.cl T.du (pv 1)) (pv 3) (fun _ _=>rfl)) ag)) (fB (n:=2) rfl (bq (aK (i:=5) eC.nd rfl (Or.inl rfl)) (bq (aK (i:=6) eC.nd rfl (Or.inl rfl)) fD))) (ah (b8 (aD (fc T) ‹hr› rfl T.aV.g T.aV.fn.kp T.aV.b .nil aB (aa (pv 2) (aa (pv 5) (aa (ai T.aH.cl T.bu (pv 4)) (aa (pv 6) ag)))))))))) (ah (au (pv 2))))),?_⟩;exists g1;refine ⟨ab,abs,_,rfl,g2,by rw [List.length_map,nf.n8.ord.len];exact nf.z1,fun D bs H1 JK s1 hR=>?_⟩;obtain ⟨hD,FK⟩:=JK;have h0:=s1 _ _ N0.obj;have h2:=s1 _ _ N0.vA;exists h0;refine ⟨⟨_,.of h2⟩,loop (dN ts) (fun i σ H1=>∃v3 v4 v5 v6,σ=[some (.ref a),some (.ref af),some (.ref D),v3,v4,v5,v6]∧ax H H1∧Tab H1 D bs (Mt.dC f.ord ((n.natures.zipIdx.take i).flatMap fun x=>(f.wait.getD x.2 []).zipIdx.map fun w=>(w.2,x.1.a,w.1))))
  ⟨none,none,none,none,rfl,s1,hR⟩ (fun i σ H1 z1=>by obtain ⟨_,_,_,_,_,s1,_⟩:=z1;exact  .of (s1 _ _ N0.vA)) ?_ ?_⟩
 ·intro i x σ H2 H3 N hi z1 s3 z2 kN;obtain ⟨v3,v4,v5,v6,rfl,s2,h3⟩:=z1;obtain ⟨T0,v,rfl,hT,hx⟩:=z2;obtain ⟨y,ey,Kr,dl,rfl,hy⟩:=N0.pt.at_ hx;have s4:=s2.trans s3;have o4:i<n.natures.length:=(List.getElem?_eq_some_iff.mp ey).1;obtain ⟨row,er,Ri⟩:=nf.n8.wait.get o4;obtain ⟨bw,e3,e4⟩:=Tab.get g3 er;have XS:=s4 _ _ g1;have XZ:=s4 _ _ g3.lst;have e5:iz (Aj.map V.ref) (i:Int)=some (.ref bw):=cV (by rw [List.getElem?_map,e3];rfl);have YD:=s4 _ _ e4;exists hT,XS,XZ,e5;refine ⟨⟨_,.of YD⟩,loop (dN (dU row)) (fun j σ H1=>∃v5 v6,σ=[some (.ref a),some (.ref af),some (.ref D),some (aM i),some (.ref Kr),v5,v6]∧ax H H1∧Tab H1 D bs (Mt.dC f.ord (((n.natures.zipIdx.take i).flatMap fun x=>(f.wait.getD x.2 []).zipIdx.map fun w=>(w.2,x.1.a,w.1))++(row.zipIdx.take j).map fun w=>(w.2,y.a,w.1))))
   ⟨_,_,rfl,s4,by rw [List.take_zero,List.map_nil,List.append_nil];exact Rows.same h3 s3⟩ (fun j σ H1 z1=>by obtain ⟨_,_,_,s1,_⟩:=z1;exact  .of (s1 _ _ e4)) ?_ ?_⟩
  ·intro j x σ H4 H5 N' hj z1 s6 z2 TK;obtain ⟨v5,v6,rfl,s5,h5⟩:=z1;obtain ⟨T1,v,rfl,RK,To⟩:=z2;obtain ⟨u,eu,rfl⟩:=og To;have s7:=s5.trans s6;have TR:=s7 _ _ hy;exists RK,TR;have gc:=nf.ok.nat y (List.mem_of_getElem? ey);have MI:j<size n:=by
    have:=(List.getElem?_eq_some_iff.mp eu).1;omega
   have Jr:=nf.n8.ord.dC (FZ.sub (Mt.um nf.ok nf.n8) fun u hu=>xM (i:=j) (Mt.zipIdx_get ey) (R:=row.zipIdx) (g:=fun w=>((w.2,y.a,w.1):Mt.Up)) (by simp only [b9 er]) hu);refine ⟨D,bs,_,_,_,j,y.a,rfl,rfl,rfl,Rows.same h5 s6,Jr,MI,gc.1,o9 _,fun H6 k6 h6=>TK _ _ ⟨_,_,rfl,aO.same s7 k6 FK,?_⟩⟩;rw [take_snoc (Mt.zipIdx_get eu),List.map_append, ←List.append_assoc,Mt.iB];rw [oX] at h6;exact h6
  ·intro σ H4 z1;obtain ⟨v5,v6,rfl,s5,h5⟩:=z1;refine kN _ _ ⟨_,_,_,_,rfl,s5,?_⟩;rw [take_snoc (Mt.zipIdx_get ey),List.flatMap_append];rw [fM,gK] at h5;simp only [List.flatMap_cons,List.flatMap_nil,List.append_nil,b9 er];exact h5
 ·intro σ H2 z1;obtain ⟨v3,v4,v5,v6,rfl,s2,h3⟩:=z1;right;refine k D bs H2 ⟨hD,FK⟩ s2 ?_;rw [N0.pt.1,gK] at h3;rw [←Mt.BP nf.ok nf.n8];exact h3
theorem VV {O:Table} {m:Nat} (row:List W) (hm:O.length=m):((List.range m).filterMap fun j=>some (wV (Mt.mW (O.getD j []) row)))=dU (O.map fun br=>Mt.mW br row):=by
 subst hm;rw [filterMap_some];unfold dU
 conv=>rhs;rw [←range_getD O]
 rw [List.map_map,List.map_map];rfl
inductive DlI (T:Txt K mg) (x y:V) (H:Hp) (Q:VK):Prop
 |mk:∀a n f,x=.ref a→NF T H a y n f→(∀v H',ax H H'→fw T H' v (Vblaai.carried n f)→Q v H')→DlI T x y H Q
def Dl (T:Txt K mg):Sp:=rX fun x y H Q=>DlI T x y H Q
theorem Dk (T:Txt K mg):aU P w K mg base cI 4 T.iN.f T.iN.fd ["net","form"] (Dl T):=by
 refine T.iN.fn.sE fZ fun bJ A outer s H x y Q E hr h=>?_;obtain ⟨a,n,f,rfl,nf,k⟩:=h;obtain ⟨dx,an,al,at',ns,ls,ts,N0⟩:=id nf.net;obtain ⟨af,df,ab,abs,aw,Aj,rfl,g1,g2,g3⟩:=id nf.Gw;refine ⟨_,(ae (aN (i:=2) fZ.nd rfl (Or.inl rfl) (aD (zI T) ‹hr› rfl T.ie.g T.ie.fn.kp T.ie.b .nil aB (aa (ai T.bR.cl T.cX (pv 1)) ag))) (ae (aN (i:=3) fZ.nd rfl (Or.inl rfl) (a9 ag)) (ae (cJ PassesOwn.never rfl (gS rfl T.bP (aa (ai T.aT.cl T.bo (pv 0)) ag)) (fB (n:=2) rfl (bq (aK (i:=4) fZ.nd rfl (Or.inr rfl)) (bq (aK (i:=5) fZ.nd rfl (Or.inl rfl)) fD))) (ae (nL (i:=6) rfl fZ.nd rfl rfl (ql rfl rfl rfl rfl) (fg (pv 2)) (bL (show jq ["net","form","bounds","waits","k","nature","row","bounds_row"] (aq qG) _ [("bounds_row",7)]=true from by decide+kernel)) (fun _ _ _ _ _=>(aK (i:=7) fZ.nd rfl (Or.inl rfl))) (fun _ _ _ _ _=>eY) (fun _ _ _ _ _=>(aD (DB T) ‹hr› rfl T.iS.g T.iS.fn.kp T.iS.b .nil aB (aa (pv 7) (aa (aR fz (ai T.bR.cl T.du (pv 1)) (pv 4) (fun _ _=>rfl)) ag))))) (ae (Gi aS (GQ (pv 6) (ai T.aH.cl T.bu (pv 5)) set_list)) (ah (b8 (d6 PySem.F.slot_list_append PySem.F.type_list_append dw (pv 3) (aa (pv 6) ag))))))) (ah (au (gQ T.bR.Fy (mL T) ‹hr› rfl T.bR.g T.bR.b .nil aB (aa (pv 2) (aa (pv 3) ag)))))))),?_⟩
 exists g1;refine ⟨ab,abs,_,_,rfl,g2,nf.n8.ord,nf.z1,fun B bs H1 s1 hB=>?_⟩;right;refine ⟨by decide,fun p hp=>?_⟩;obtain ⟨H2,eH,s2,h2⟩:=dQ hp (.lst []);rw [eH];have N1:=N0.same s1;have Xo:=s1 _ _ g1;have ZH:Tab H1 aw Aj f.wait:=Rows.same g3 s1;have h0:=s2 _ _ N1.obj;exists h0;have WR:=Mt.mU nf.n8.ord;have lB:bs.length=size n:=by rw [hB.len,WR.len]
 refine ⟨⟨_,.of (s2 _ _ N1.vA)⟩,loop (dN ts) (fun i σ H'=>∃v4 v5 v6 ws,σ=[some (.ref a),some (.ref af),some (.ref B),some (.ref p),v4,v5,v6,none]∧ax H1 H'∧Tab H' p ws ((Mt.pC n f).wait.take i))
  ⟨none,none,none,[],rfl,s2,.nil h2⟩ (fun i σ H1 z1=>by obtain ⟨_,_,_,_,_,s1,_⟩:=z1;exact  .of (s1 _ _ N1.vA)) ?_ ?_⟩
 ·intro i x σ H3 H4 N hi z1 s4 z2 kN;obtain ⟨v4,v5,v6,ws,rfl,s3,h3⟩:=z1;obtain ⟨T0,v,rfl,hT,hx⟩:=z2;obtain ⟨y,ey,ay,dy,rfl,hy⟩:=N1.pt.at_ hx;have r9:=s3.trans s4;have o4:i<n.natures.length:=(List.getElem?_eq_some_iff.mp ey).1;obtain ⟨row,er,Ri⟩:=nf.n8.wait.get o4;obtain ⟨bw,e3,e4⟩:=Tab.get ZH er;have e5:iz (Aj.map V.ref) (i:Int)=some (.ref bw):=cV (by rw [List.getElem?_map,e3];rfl);have WH:Tab H4 B bs _:=Rows.same hB r9;exists hT;have gc:=nf.ok.nat y (List.mem_of_getElem? ey);refine ⟨⟨_,WH.lst⟩,cW (bp (bs.map V.ref)) (fun j=>some (wV (Mt.mW ((Vblaai.closed (size n) f.ord).getD j []) row))) (fun H' s=>.of (s _ _ WH.lst)) (fun j x H' kk hj s5 hx kf=>?_) (by rw [List.length_map,lB];exact Nat.le_trans nf.z1 (by decide)) (fun D H5 hD s5 hd=>?_)⟩
  ·obtain ⟨b,r',rfl,q1,q0,q3⟩:=Rows.item WH hx;obtain ⟨r,q2,rfl⟩:=jN q0;have s6:=r9.trans s5;have g16:=s6 _ _ Xo;have g36:=s6 _ _ ZH.lst;exists g16,g36,e5;have lr:=WR.row j r q2;refine ⟨b,r,bw,row,rfl,rfl,s5 _ _ q3,s6 _ _ e4,by omega,fun H7 s7=>?_⟩;rw [b9 q2] at kf;exact kf H7 s7
  ·have TC:=r9.trans s5;have Vs:=TC _ _ hy;have Vx:=(s4.trans s5) _ _ h3.lst;have npD:p≠D:=aC (s4 _ _ h3.lst) hD;have Ym:∀o,upd H5 D o p=some (.lst (ws.map V.ref)):=fun o=>by rw [aF npD];exact Vx
   rw [List.length_map,lB,VV row WR.len] at hd;exists Vs,hd,Ym;have e0:(Mt.pC n f).wait[i]?=some (Mt.FR (Vblaai.closed (size n) f.ord) row y.a):=by
    show (n.natures.zipIdx.map _)[i]?=_;rw [List.getElem?_map,Mt.zipIdx_get ey];simp only [Option.map_some,b9 er]
   refine ⟨y.a,FA (by rw [fM,List.length_map,WR.len];exact gc.1),?_,kN _ _ ⟨_,_,_,ws++[D],rfl,?_,?_⟩⟩
   ·rw [List.length_map,h3.len,List.length_take];exact Nat.lt_of_le_of_lt (Nat.min_le_left _ _) (Nat.lt_of_lt_of_le o4 (Nat.le_trans nf.z2 (by decide)))
   ·exact ax.iA (ax.iA TC (r9.free hD)) hp
   ·rw [take_snoc e0];show Rows _ _ _ (List.map dU _);rw [List.map_append];refine Rows.snoc (Rows.same h3 s4) (ax.iA s5 hD) hD ?_;rw [aA, ←Qq,Jc];rfl
 ·intro σ H3 z1;obtain ⟨v4,v5,v6,ws,rfl,s3,h3⟩:=z1;right;intro q dq hq uG lP;refine ⟨q,dq,rfl,aA,fun H4 h5 k4=>⟨rfl,?_⟩⟩;have s4:=cF hq uG k4;refine k _ H4 (s1.trans (s3.trans s4)) ⟨q,dq,B,bs,p,ws,rfl,h5,Rows.same hB (s3.trans s4),?_⟩;rw [←Mt.JX nf.ok nf.n8];have e:(Mt.pC n f).wait.take ts.length=(Mt.pC n f).wait:=by
   rw [List.take_of_length_le];show (n.natures.zipIdx.map _).length≤_;rw [List.length_map,List.length_zipIdx,N0.pt.1];exact Nat.le_refl _
  rw [e] at h3;exact Rows.same h3 s4
theorem Rows.keep {H H':Hp} {a:Addr} {as bs:List Addr} {t:List (List V)} (h:Rows H a as t) (k:aO bs H H') (ha:a∉bs) (hs:∀b∈as,b∉bs):Rows H' a as t :=
 ⟨k _ _ h.lst ha,h.len,fun i b r e1 e2=>k _ _ (h.row i b r e1 e2) (hs b (List.mem_of_getElem? e1)),h.na,h.nd⟩
theorem Rows.tracked {H:Hp} {a:Addr} {as:List Addr} {t:List (List V)} (h:Rows H a as t) {b:Addr} (hb:b∈as):∃o,H b=some o:=by
 obtain ⟨i,hi,e⟩:=List.getElem_of_mem hb;have e1:as[i]?=some b:=by rw [List.getElem?_eq_getElem hi,e]
 have o4:i<t.length:=by rw [←h.len];exact hi
 exact ⟨_,h.row i b t[i] e1 (List.getElem?_eq_getElem o4)⟩
theorem Kf {m k:Nat} {t:Table} (h:Mt.Rc m k t) {i j:Nat} (hi:i<m) (hj:j<k) {c:Prop} [Decidable c] (w:W):Mt.put t i j (if c then w else none)=if c then Mt.put t i j w else t:=by
 by_cases hc:c
 ·rw [if_pos hc,if_pos hc]
 ·rw [if_neg hc,if_neg hc,Mt.O0 h hi hj]
theorem Cf {u:W} (h:Mt.fE u=true):∃z,u=some z:=by
 cases u with
 |none=>cases h
 |some z=>exact ⟨z,rfl⟩
def oI (y:Nature) (b:W×Nat):Mt.Up:=(y.a,b.2,if b.2≠y.c∧Mt.fE b.1=true then addW b.1 (some (y.lo:Int)) else none)
def oU (f:Form) (x:Nature):List Mt.Up:=(f.ord.getD x.c []).zipIdx.map (oI x)
def wI (y:Nature) (i:Nat) (r:List W×Nat):Mt.Up:=(r.2,y.a,if r.2≠i∧Mt.fE (r.1.getD y.c none)=true then addW (r.1.getD y.c none) (some (y.lo:Int)) else none)
def wU (f:Form) (x:Nature×Nat):List Mt.Up:=f.wait.zipIdx.map (wI x.1 x.2)
inductive KUI (T:Txt K mg) (x y:V) (H:Hp) (Q:VK):Prop
 |mk:∀a n f,x=.ref a→NF T H a y n f→(∀v H',ax H H'→fw T H' v (Vblaai.early n f)→Q v H')→KUI T x y H Q
def KU (T:Txt K mg):Sp:=rX fun x y H Q=>KUI T x y H Q
theorem K0 (T:Txt K mg):aU P w K mg base cI 3 T.mT.f T.mT.fd ["net","form"] (KU T):=by
 refine T.mT.fn.sE gR fun bJ A outer s H x y Q E hr h=>?_;obtain ⟨a,n,f,rfl,nf,k⟩:=h;obtain ⟨dx,an,al,at',ns,ls,ts,N0⟩:=id nf.net;obtain ⟨af,df,ab,abs,aw,Aj,rfl,g1,g2,g3⟩:=id nf.Gw;refine ⟨_,(ae (aN (i:=2) gR.nd rfl (Or.inl rfl) (aD (pK T) ‹hr› rfl T.dI.g T.dI.fn.kp T.dI.b .nil aB (aa (ai T.bR.cl T.cX (pv 1)) ag))) (ae (aN (i:=3) gR.nd rfl (Or.inl rfl) (aD (pK T) ‹hr› rfl T.dI.g T.dI.fn.kp T.dI.b .nil aB (aa (ai T.bR.cl T.du (pv 1)) ag))) (ae (cJ PassesOwn.never rfl (gS rfl T.bP (aa (ai T.aT.cl T.bo (pv 0)) ag)) (fB (n:=2) rfl (bq (aK (i:=4) gR.nd rfl (Or.inl rfl)) (bq (aK (i:=5) gR.nd rfl (Or.inl rfl)) fD))) (ae (cJ PassesOwn.never rfl (gS rfl T.bP (aa (aR fz (ai T.bR.cl T.cX (pv 1)) (ai T.aH.cl T.bt (pv 5)) (fun _ _=>rfl)) ag)) (fB (n:=2) rfl (bq (aK (i:=6) gR.nd rfl (Or.inl rfl)) (bq (aK (i:=7) gR.nd rfl (Or.inl rfl)) fD))) (ah (aY (PW.pt (jb (aE tQ (pv 6) (ai T.aH.cl T.bt (pv 5)) (aG _)) (jm (bZ (aD (pB T) ‹hr› rfl T.cP.g T.cP.fn.kp T.cP.b .nil aB (aa (pv 7) ag)))))) (ah (b8 (aD (fc T) ‹hr› rfl T.aV.g T.aV.fn.kp T.aV.b .nil aB (aa (pv 2) (aa (ai T.aH.cl T.bu (pv 5)) (aa (pv 6) (aa (cG fY (pv 7) (ai T.aH.cl T.ff (pv 5))) ag))))))) aJ))) (ah (cJ PassesOwn.never rfl (gS rfl T.bP (aa (ai T.bR.cl T.du (pv 1)) ag)) (fB (n:=2) rfl (bq (aK (i:=8) gR.nd rfl (Or.inl rfl)) (bq (aK (i:=9) gR.nd rfl (Or.inl rfl)) fD))) (ah (aY (PW.pt (jb (aE tQ (pv 8) (pv 4) (aG _)) (jm (bZ (aD (pB T) ‹hr› rfl T.cP.g T.cP.fn.kp T.cP.b .nil aB (aa (aR fz (pv 9) (ai T.aH.cl T.bt (pv 5)) (fun _ _=>rfl)) ag)))))) (ah (b8 (aD (fc T) ‹hr› rfl T.aV.g T.aV.fn.kp T.aV.b .nil aB (aa (pv 3) (aa (pv 8) (aa (ai T.aH.cl T.bu (pv 5)) (aa (cG fY (aR fz (pv 9) (ai T.aH.cl T.bt (pv 5)) (fun _ _=>rfl)) (ai T.aH.cl T.ff (pv 5))) ag))))))) aJ)))))) (ah (au (gQ T.bR.Fy (mL T) ‹hr› rfl T.bR.g T.bR.b .nil aB (aa (pv 2) (aa (pv 3) ag)))))))),?_⟩;exists g1;refine ⟨ab,abs,_,rfl,g2,by rw [List.length_map,nf.n8.ord.len];exact nf.z1,fun B bs H1 We s1 hB=>?_⟩;have Xo:=s1 _ _ g1;exists Xo;refine ⟨aw,Aj,_,rfl,Rows.same g3 s1,by rw [List.length_map,nf.n8.wait.len];exact nf.z2,fun C cs H2 LJ s2 hC=>?_⟩;have G6:=s1.trans s2;have h0:=G6 _ _ N0.obj;exists h0;have dBC:C∉bs:=fun m=>by
  obtain ⟨o,e⟩:=Rows.tracked hB m;rw [LJ.1] at e
  cases e
 have YR:∀b∈cs,b∉bs:=fun b hb m=>by
  obtain ⟨o,e⟩:=Rows.tracked hB m;rw [LJ.2 b hb] at e
  cases e
 have dCB:B∉cs:=fun m=>by
  have e:=LJ.2 B m;rw [hB.lst] at e
  cases e
 have dcs:∀b∈bs,b∉cs:=fun b hb m=>YR b m hb;have Q0:∀b∈cs,H b=none:=fun b hb=>s1.free (LJ.2 b hb);refine ⟨⟨_,.of (G6 _ _ N0.vA)⟩,loop (dN ts) (fun i σ H'=>∃v4 v5 v6 v7 v8 v9,σ=[some (.ref a),some (.ref af),some (.ref B),some (.ref C),v4,v5,v6,v7,v8,v9]∧ax H H' ∧
   Tab H' B bs (Mt.dC f.ord ((n.natures.take i).flatMap (oU f))) ∧
   Tab H' C cs (Mt.dC f.wait ((n.natures.zipIdx.take i).flatMap (wU f))))
  ⟨none,none,none,none,none,none,rfl,G6,Rows.same hB s2,hC⟩ (fun i σ H1 z1=>by obtain ⟨_,_,_,_,_,_,_,s1,_⟩:=z1;exact  .of (s1 _ _ N0.vA)) ?_ ?_⟩
 ·intro i x σ H3 H4 N hi z1 s4 z2 kN;obtain ⟨v4,v5,v6,v7,v8,v9,rfl,s3,T6,WM⟩:=z1;obtain ⟨T0,v,rfl,hT,hx⟩:=z2;obtain ⟨y,ey,ay,dy,rfl,hy⟩:=N0.pt.at_ hx;have r9:=s3.trans s4;have o4:i<n.natures.length:=(List.getElem?_eq_some_iff.mp ey).1;have gc:=nf.ok.nat y (List.mem_of_getElem? ey);obtain ⟨row,er,Ri⟩:=nf.n8.ord.get gc.2.1;obtain ⟨bw,e3,e4⟩:=Tab.get g2 er;have e5:iz (abs.map V.ref) (y.c:Int)=some (.ref bw):=cV (by rw [List.getElem?_map,e3];rfl);have X3:=r9 _ _ g1;have g24:=r9 _ _ g2.lst;have UK:=r9 _ _ hy;exists hT,X3,g24,UK,e5;have YV:oU f y=row.zipIdx.map (oI y):=by unfold oU;rw [b9 er]
  refine ⟨⟨_,.of (r9 _ _ e4)⟩,loop (dN (dU row)) (fun j σ H'=>∃v6 v7,σ=[some (.ref a),some (.ref af),some (.ref B),some (.ref C),some (aM i),some (.ref ay),v6,v7,v8,v9]∧ax H H' ∧
   Tab H' B bs (Mt.dC f.ord (((n.natures.take i).flatMap (oU f)) ++
    (row.zipIdx.take j).map (oI y))) ∧
   Tab H' C cs (Mt.dC f.wait ((n.natures.zipIdx.take i).flatMap (wU f))))
   ⟨_,_,rfl,r9,by rw [List.take_zero,List.map_nil,List.append_nil];exact Rows.same T6 s4,Rows.same WM s4⟩ (fun j σ H1 z1=>by obtain ⟨_,_,_,s1,_⟩:=z1;exact  .of (s1 _ _ e4)) ?_ ?_⟩
  ·intro j x σ H5 H6 N' hj z1 s6 z2 TK;obtain ⟨v6,v7,rfl,s5,TV,Va⟩:=z1;obtain ⟨T1,v,rfl,RK,To⟩:=z2;obtain ⟨u,eu,rfl⟩:=og To;have s7:=s5.trans s6;have TR:=s7 _ _ hy;have MI:j<size n:=by
    have:=(List.getElem?_eq_some_iff.mp eu).1;omega
   have Jr:=nf.n8.ord.dC (FZ.sub (Mt.ur nf.ok nf.n8) fun u hu=>xM (i:=j) ey YV hu);have fin:∀H7 v6 v7,ax H H7→Tab H7 B bs (if j≠y.c∧Mt.fE u=true then Mt.put (Mt.dC f.ord (((n.natures.take i).flatMap (oU f)) ++
    (row.zipIdx.take j).map (oI y))) y.a j (addW u (some (y.lo:Int))) else (Mt.dC f.ord (((n.natures.take i).flatMap (oU f)) ++
    (row.zipIdx.take j).map (oI y)))) →
     Tab H7 C cs (Mt.dC f.wait ((n.natures.zipIdx.take i).flatMap (wU f))) →
     N' [some (.ref a),some (.ref af),some (.ref B),some (.ref C),some (aM i),some (.ref ay),v6,v7,v8,v9] H7:=fun H7 v6 v7 s8 h8 h9=>by
    refine TK _ _ ⟨v6,v7,rfl,s8,?_,h9⟩;rw [←Kf Jr gc.1 MI] at h8;rw [take_snoc (Mt.zipIdx_get eu),List.map_append, ←List.append_assoc,Mt.iB];exact h8
   exists RK,TR,kx,o9,oX;by_cases c1:j=y.c
   ·rw [if_pos (by rw [c1])];refine fin H6 _ _ s7 ?_ (Rows.same Va s6);rw [if_neg (fun z=>z.1 c1)];exact Rows.same TV s6
   ·rw [if_neg (by omega)]
    cases c2:Mt.fE u with
    |false =>
     right;refine fin H6 _ _ s7 ?_ (Rows.same Va s6);rw [if_neg (fun z=>by rw [c2] at z;exact Bool.false_ne_true z.2)];exact Rows.same TV s6
    |true =>
     obtain ⟨z,rfl⟩:=Cf c2;exists wV,TR;refine ⟨B,bs,_,_,_,y.a,j,rfl,rfl,rfl,Rows.same TV s6,Jr,gc.1,MI,xm _,fun H7 k7 h7=>?_⟩;refine fin H7 _ _ (aO.same s7 k7 We.2) ?_ (Rows.keep (Rows.same Va s6) k7 dBC YR);rw [if_pos ⟨c1,c2⟩];exact h7
  ·intro σ H5 z1;obtain ⟨v6,v7,rfl,s5,TV,Va⟩:=z1;rw [fM,gK] at TV;have Yn:=s5 _ _ g1;exists Yn;refine ⟨⟨_,.of (s5 _ _ g3.lst)⟩,loop (dN (Aj.map V.ref)) (fun j σ H'=>∃v8 v9,σ=[some (.ref a),some (.ref af),some (.ref B),some (.ref C),some (aM i),some (.ref ay),v6,v7,v8,v9]∧ax H H' ∧
    Tab H' B bs (Mt.dC f.ord ((n.natures.take (i+1)).flatMap (oU f))) ∧
    Tab H' C cs (Mt.dC f.wait (((n.natures.zipIdx.take i).flatMap (wU f)) ++
     (f.wait.zipIdx.take j).map (wI y i))))
    ⟨_,_,rfl,s5,?_,by rw [List.take_zero,List.map_nil,List.append_nil];exact Va⟩ (fun j σ H1 z1=>by obtain ⟨_,_,_,s1,_⟩:=z1;exact  .of (s1 _ _ g3.lst)) ?_ ?_⟩
   ·rw [take_snoc ey,List.flatMap_append];simp only [List.flatMap_cons,List.flatMap_nil,List.append_nil,YV];exact TV
   ·intro j x σ H6 H7 N' hj z1 s7 z2 TK;obtain ⟨v8,v9,rfl,s6,Wd,Uh⟩:=z1;obtain ⟨T1,v,rfl,RK,To⟩:=z2;obtain ⟨b,r',rfl,q1,q0,q3⟩:=Rows.item g3 To;obtain ⟨r,q2,rfl⟩:=jN q0;have s8:=s6.trans s7;have Z6:=s8 _ _ hy;have q8:=s8 _ _ q3;have lr:=nf.n8.wait.row j r q2;have MI:j<n.natures.length:=by
     have:=(List.getElem?_eq_some_iff.mp q2).1;rw [nf.n8.wait.len] at this;exact this
    have er2:iz (dU r) (y.c:Int)=some (wV (r.getD y.c none)):=by
     refine cV (nF ?_);rw [List.getD_eq_getElem?_getD,List.getElem?_eq_getElem (show y.c<r.length by omega)];rfl
    have Jr:=nf.n8.wait.dC (FZ.sub (Mt.vj nf.ok nf.n8) fun u hu=>xM (i:=j) (Mt.zipIdx_get ey) (R:=f.wait.zipIdx) (g:=wI y i) (F:=wU f) rfl hu);have fin:∀H9 v8 v9,ax H H9→Tab H9 B bs (Mt.dC f.ord ((n.natures.take (i+1)).flatMap (oU f))) →
      Tab H9 C cs (if j≠i∧Mt.fE (r.getD y.c none)=true then Mt.put (Mt.dC f.wait (((n.natures.zipIdx.take i).flatMap (wU f)) ++
     (f.wait.zipIdx.take j).map (wI y i))) j y.a (addW (r.getD y.c none) (some (y.lo:Int))) else (Mt.dC f.wait (((n.natures.zipIdx.take i).flatMap (wU f)) ++
     (f.wait.zipIdx.take j).map (wI y i)))) →
      N' [some (.ref a),some (.ref af),some (.ref B),some (.ref C),some (aM i),some (.ref ay),v6,v7,v8,v9] H9:=fun H9 v8 v9 s9 h8 h9=>by
     refine TK _ _ ⟨v8,v9,rfl,s9,h8,?_⟩;rw [←Kf Jr MI gc.1] at h9;rw [take_snoc (Mt.zipIdx_get q2),List.map_append, ←List.append_assoc,Mt.iB];exact h9
    exists RK,Z6,q8,er2,kx,o9,oX;by_cases c1:j=i
    ·rw [if_pos (by rw [c1])];refine fin H7 _ _ s8 (Rows.same Wd s7) ?_;rw [if_neg (fun z=>z.1 c1)];exact Rows.same Uh s7
    ·rw [if_neg (by omega)]
     cases c2:Mt.fE (r.getD y.c none) with
     |false =>
      right;refine fin H7 _ _ s8 (Rows.same Wd s7) ?_;rw [if_neg (fun z=>by rw [c2] at z;exact Bool.false_ne_true z.2)];exact Rows.same Uh s7
     |true =>
      obtain ⟨z,ez⟩:=Cf c2;exists ez,wV;refine ⟨C,cs,_,_,_,j,y.a,rfl,rfl,rfl,Rows.same Uh s7,Jr,MI,gc.1,xm _,fun H9 k9 h9=>?_⟩;refine fin H9 _ _ (aO.same s8 k9 Q0) (Rows.keep (Rows.same Wd s7) k9 dCB dcs) ?_;rw [if_pos ⟨c1,c2⟩,ez];exact h9
   ·intro σ H6 z1;obtain ⟨v8,v9,rfl,s6,Wd,Uh⟩:=z1;refine kN _ _ ⟨_,_,_,_,_,_,rfl,s6,Wd,?_⟩;rw [List.length_map,g3.len,gK] at Uh;rw [take_snoc (Mt.zipIdx_get ey),List.flatMap_append];simp only [List.flatMap_cons,List.flatMap_nil,List.append_nil];exact Uh
 ·intro σ H3 z1;obtain ⟨v4,v5,v6,v7,v8,v9,rfl,s3,T6,WM⟩:=z1;right;intro q dq hq uG lP;refine ⟨q,dq,rfl,aA,fun H4 h5 k4=>⟨rfl,?_⟩⟩;have s4:=cF hq uG k4;rw [N0.pt.1,List.take_length] at T6;rw [N0.pt.1,gK] at WM;refine k _ H4 (s3.trans s4) ⟨q,dq,B,bs,C,cs,rfl,h5,?_,?_⟩
  ·rw [←Mt.B7 nf.ok nf.n8];exact Rows.same T6 s4
  ·rw [←Mt.B7 nf.ok nf.n8];exact Rows.same WM s4
def hI (y:Nature) (w:W×Nat):Mt.Up:=(w.2,y.a,if w.2≠y.c∧w.2≠y.a then maxW w.1 (-(y.lo:Int)) else none)
def hU (f:Form) (x:Nature×Nat):List Mt.Up:=(f.wait.getD x.2 []).zipIdx.map (hI x.1)
inductive MPI (T:Txt K mg) (x y:V) (H:Hp) (Q:VK):Prop
 |mk:∀a n f,x=.ref a→NF T H a y n f→(∀v H',ax H H'→fw T H' v (Vblaai.plainer n f)→Q v H')→MPI T x y H Q
def MP (T:Txt K mg):Sp:=rX fun x y H Q=>MPI T x y H Q
theorem Mf (T:Txt K mg):aU P w K mg base cI 3 T.pd.f T.pd.fd ["net","form"] (MP T):=by
 refine T.pd.fn.sE m5 fun bJ A outer s H x y Q E hr h=>?_;obtain ⟨a,n,f,rfl,nf,k⟩:=h;obtain ⟨dx,an,al,at',ns,ls,ts,N0⟩:=id nf.net;obtain ⟨af,df,ab,abs,aw,Aj,rfl,g1,g2,g3⟩:=id nf.Gw;refine ⟨_,(ae (aN (i:=2) m5.nd rfl (Or.inl rfl) (aD (pK T) ‹hr› rfl T.dI.g T.dI.fn.kp T.dI.b .nil aB (aa (ai T.bR.cl T.cX (pv 1)) ag))) (ae (cJ PassesOwn.never rfl (gS rfl T.bP (aa (ai T.aT.cl T.bo (pv 0)) ag)) (fB (n:=2) rfl (bq (aK (i:=3) m5.nd rfl (Or.inl rfl)) (bq (aK (i:=4) m5.nd rfl (Or.inl rfl)) fD))) (ah (cJ PassesOwn.never rfl (gS rfl T.bP (aa (aR fz (ai T.bR.cl T.du (pv 1)) (pv 3) (fun _ _=>rfl)) ag)) (fB (n:=2) rfl (bq (aK (i:=5) m5.nd rfl (Or.inl rfl)) (bq (aK (i:=6) m5.nd rfl (Or.inl rfl)) fD))) (ah (aY (PW.pt (jb (aE tQ (pv 5) (ai T.aH.cl T.bt (pv 4)) (aG _)) (jm (aE tQ (pv 5) (ai T.aH.cl T.bu (pv 4)) (aG _))))) (ah (b8 (aD (fc T) ‹hr› rfl T.aV.g T.aV.fn.kp T.aV.b .nil aB (aa (pv 2) (aa (pv 5) (aa (ai T.aH.cl T.bu (pv 4)) (aa (aD (Kb T) ‹hr› rfl T.m6.g T.m6.fn.kp T.m6.b .nil aB (aa (pv 6) (aa (EF zh (ai T.aH.cl T.ff (pv 4))) ag))) ag))))))) aJ))))) (ah (au (gQ T.bR.Fy (mL T) ‹hr› rfl T.bR.g T.bR.b .nil aB (aa (pv 2) (aa (aD (pK T) ‹hr› rfl T.dI.g T.dI.fn.kp T.dI.b .nil aB (aa (ai T.bR.cl T.du (pv 1)) ag)) ag))))))),?_⟩;exists g1;refine ⟨ab,abs,_,rfl,g2,by rw [List.length_map,nf.n8.ord.len];exact nf.z1,fun D bs H1 JK s1 hR=>?_⟩;obtain ⟨hD,FK⟩:=JK;have h0:=s1 _ _ N0.obj;have h2:=s1 _ _ N0.vA;exists h0;refine ⟨⟨_,.of h2⟩,loop (dN ts) (fun i σ H1=>∃v3 v4 v5 v6,σ=[some (.ref a),some (.ref af),some (.ref D),v3,v4,v5,v6]∧ax H H1∧Tab H1 D bs (Mt.dC f.ord ((n.natures.zipIdx.take i).flatMap (hU f))))
  ⟨none,none,none,none,rfl,s1,hR⟩ (fun i σ H1 z1=>by obtain ⟨_,_,_,_,_,s1,_⟩:=z1;exact  .of (s1 _ _ N0.vA)) ?_ ?_⟩
 ·intro i x σ H2 H3 N hi z1 s3 z2 kN;obtain ⟨v3,v4,v5,v6,rfl,s2,h3⟩:=z1;obtain ⟨T0,v,rfl,hT,hx⟩:=z2;obtain ⟨y,ey,Kr,dl,rfl,hy⟩:=N0.pt.at_ hx;have s4:=s2.trans s3;have o4:i<n.natures.length:=(List.getElem?_eq_some_iff.mp ey).1;obtain ⟨row,er,Ri⟩:=nf.n8.wait.get o4;obtain ⟨bw,e3,e4⟩:=Tab.get g3 er;have XS:=s4 _ _ g1;have XZ:=s4 _ _ g3.lst;have e5:iz (Aj.map V.ref) (i:Int)=some (.ref bw):=cV (by rw [List.getElem?_map,e3];rfl);have YD:=s4 _ _ e4;have He:hU f (y,i)=row.zipIdx.map (hI y):=by unfold hU;rw [b9 er]
  exists hT,XS,XZ,e5;refine ⟨⟨_,.of YD⟩,loop (dN (dU row)) (fun j σ H1=>∃v5 v6,σ=[some (.ref a),some (.ref af),some (.ref D),some (aM i),some (.ref Kr),v5,v6]∧ax H H1∧Tab H1 D bs (Mt.dC f.ord (((n.natures.zipIdx.take i).flatMap (hU f))++(row.zipIdx.take j).map (hI y))))
   ⟨_,_,rfl,s4,by rw [List.take_zero,List.map_nil,List.append_nil];exact Rows.same h3 s3⟩ (fun j σ H1 z1=>by obtain ⟨_,_,_,s1,_⟩:=z1;exact  .of (s1 _ _ e4)) ?_ ?_⟩
  ·intro j x σ H4 H5 N' hj z1 s6 z2 TK;obtain ⟨v5,v6,rfl,s5,h5⟩:=z1;obtain ⟨T1,v,rfl,RK,To⟩:=z2;obtain ⟨u,eu,rfl⟩:=og To;have s7:=s5.trans s6;have TR:=s7 _ _ hy;have gc:=nf.ok.nat y (List.mem_of_getElem? ey);have MI:j<size n:=by
    have:=(List.getElem?_eq_some_iff.mp eu).1;omega
   have Jr:=nf.n8.ord.dC (FZ.sub (Mt.xR nf.ok nf.n8) fun u hu=>xM (i:=j) (Mt.zipIdx_get ey) (F:=hU f) He hu);have fin:∀H7 v5 v6,ax H H7→Tab H7 D bs (if j≠y.c∧j≠y.a then Mt.put (Mt.dC f.ord (((n.natures.zipIdx.take i).flatMap (hU f))++(row.zipIdx.take j).map (hI y))) j y.a (maxW u (-(y.lo:Int))) else Mt.dC f.ord (((n.natures.zipIdx.take i).flatMap (hU f))++(row.zipIdx.take j).map (hI y))) →
     N' [some (.ref a),some (.ref af),some (.ref D),some (aM i),some (.ref Kr),v5,v6] H7:=fun H7 v5 v6 s8 h8=>by
    refine TK _ _ ⟨v5,v6,rfl,s8,?_⟩;rw [←Kf Jr MI gc.1] at h8;rw [take_snoc (Mt.zipIdx_get eu),List.map_append, ←List.append_assoc,Mt.iB];exact h8
   exists RK,TR;by_cases c1:j=y.c
   ·rw [if_pos (by rw [c1])];refine fin H5 _ _ s7 ?_;rw [if_neg (fun z=>z.1 c1)];exact Rows.same h5 s6
   ·rw [if_neg (by omega)];by_cases c2:j=y.a
    ·rw [if_pos (by rw [c2])];refine fin H5 _ _ s7 ?_;rw [if_neg (fun z=>z.2 c2)];exact Rows.same h5 s6
    ·rw [if_neg (by omega)];exists BI,o9,xm,oX,FP,QO;refine ⟨D,bs,_,_,_,j,y.a,rfl,rfl,rfl,Rows.same h5 s6,Jr,MI,gc.1,o9 _,fun H6 k6 h6=>fin H6 _ _ (aO.same s7 k6 FK) ?_⟩;rw [if_pos ⟨c1,c2⟩];rw [oX] at h6;exact h6
  ·intro σ H4 z1;obtain ⟨v5,v6,rfl,s5,h5⟩:=z1;refine kN _ _ ⟨_,_,_,_,rfl,s5,?_⟩;rw [take_snoc (Mt.zipIdx_get ey),List.flatMap_append];rw [fM,gK] at h5;simp only [List.flatMap_cons,List.flatMap_nil,List.append_nil,He];exact h5
 ·intro σ H2 z1;obtain ⟨v3,v4,v5,v6,rfl,s2,h3⟩:=z1;have Vh:=s2 _ _ g1;exists Vh;rw [N0.pt.1,gK] at h3;refine ⟨aw,Aj,_,rfl,Rows.same g3 s2,by rw [List.length_map,nf.n8.wait.len];exact nf.z2,fun C cs H3 YK s3 hC=>?_⟩;intro q dq hq uG lP;refine ⟨q,dq,rfl,aA,fun H4 h5 k4=>⟨rfl,?_⟩⟩;have s4:=cF hq uG k4;refine k _ H4 (s2.trans (s3.trans s4)) ⟨q,dq,D,bs,C,cs,rfl,h5,?_,?_⟩
  ·rw [←Mt.wm nf.ok nf.n8];exact Rows.same h3 (s3.trans s4)
  ·rw [←Mt.wm nf.ok nf.n8];exact Rows.same hC s4
inductive FeI (T:Txt K mg) (x y:V) (H:Hp) (Q:VK):Prop
 |mk:∀a n f,x=.ref a→NF T H a y n f→(∀v H',ax H H'→fw T H' v (Vblaai.round n f)→Q v H')→FeI T x y H Q
def Fe (T:Txt K mg):Sp:=rX fun x y H Q=>FeI T x y H Q
theorem GX (T:Txt K mg):aU P w K mg base cI 5 T.jG.f T.jG.fd ["net","form"] (Fe T):=by
 refine T.jG.fn.sE GS fun bJ A outer s H x y Q E hr h=>?_;obtain ⟨a,n,f,rfl,nf,k⟩:=h;refine ⟨_,(ah (au (aD (Mf T) ‹hr› rfl T.pd.g T.pd.fn.kp T.pd.b .nil aB (aa (pv 0) (aa (aD (K0 T) ‹hr› rfl T.mT.g T.mT.fn.kp T.mT.b .nil aB (aa (pv 0) (aa (aD (Dk T) ‹hr› rfl T.iN.g T.iN.fn.kp T.iN.b .nil aB (aa (pv 0) (aa (pv 1) ag))) ag))) ag))))),?_⟩;right;refine ⟨a,n,f,rfl,nf,fun v1 H1 s1 f1=>?_⟩;have o1:=Mt.Cd nf.ok nf.n8;have Zc:NF T H1 a v1 n (Vblaai.carried n f):=⟨nf.net.same s1,f1,nf.ok,o1,nf.z1,nf.z2⟩;refine ⟨a,n,_,rfl,Zc,fun v2 H2 s2 f2=>?_⟩;have o2:=Mt.Jb nf.ok o1;have nf2:NF T H2 a v2 n (Vblaai.early n (Vblaai.carried n f)):=⟨Zc.net.same s2,f2,nf.ok,o2,nf.z1,nf.z2⟩;exact ⟨a,n,_,rfl,nf2,fun v3 H3 s3 f3=>k v3 H3 ((s1.trans s2).trans s3) f3⟩
def iO (T:Txt K mg) (H:Hp) (v:V) (r:Option (Nat×Form)):Prop:=∃a dx fv e,v=.ref a∧H a=some (.ins T.bf.C dx (iR fv (aM e)))∧(match r with
 |none=>fv=.de
 |some x=>fw T H fv x.2∧e=x.1)
theorem iO.same {T:Txt K mg} {H H':Hp} {v:V} {r:Option (Nat×Form)} (h:iO T H v r) (s:ax H H'):iO T H' v r:=by
 obtain ⟨a,dx,fv,e,e1,h1,h2⟩:=h;refine ⟨a,dx,fv,e,e1,s _ _ h1,?_⟩
 cases r with
 |none=>exact h2
 |some x=>exact ⟨h2.1.same s,h2.2⟩
inductive NBI (T:Txt K mg) (x:V) (H:Hp) (Q:VK):Prop
 |mk:∀a n,x=.ref a→dr T H a n→Mt.cH n→size n≤1000→n.natures.length≤1000→(∀v H',ax H H'→iO T H' v (reduced n)→Q v H')→NBI T x H Q
def NB (T:Txt K mg):Sp:=m7 fun x H Q=>NBI T x H Q
theorem AV (n:Net) (k i:Nat) (f:Form):Vblaai.reduceFrom n (k+1) i f=if ringed (size n) (Vblaai.closed (size n) (Vblaai.longest n f))=true then none else if Vblaai.round n f=f then some (i,f) else Vblaai.reduceFrom n k (i+1) (Vblaai.round n f):=rfl
theorem IS (T:Txt K mg):aU P w K mg base cI 6 T.mz.f T.mz.fd ["net"] (NB T):=by
 refine T.mz.fn.n4 tD fun bJ A outer s H x Q E hr h=>?_;obtain ⟨a,n,rfl,hN,cZ,hz,Hc,k⟩:=h;refine ⟨_,(ae (aN (i:=1) tD.nd rfl (Or.inl rfl) (aD (DM T) ‹hr› rfl T.iP.g T.iP.fn.kp T.iP.b .nil aB (aa (pv 0) ag))) (ae (cJ PassesOwn.never rfl (mQ rfl T.ny (aa (kI T.GK) ag)) (aK (i:=2) tD.nd rfl (Or.inl rfl)) (ae (aY (bZ (aD (Hd T) ‹hr› rfl T.kL.g T.kL.fn.kp T.kL.b .nil aB (aa (aD (wO T) ‹hr› rfl T.fj.g T.fj.fn.kp T.fj.b .nil aB (aa (pv 0) (aa (pv 1) ag))) ag))) (ah (au (gQ T.bf.Fy (j1 T) ‹hr› rfl T.bf.g T.bf.b .nil aB (aa aS (aa aI ag))))) aJ) (ae (aN (i:=3) tD.nd rfl (Or.inl rfl) (aD (GX T) ‹hr› rfl T.jG.g T.jG.fn.kp T.jG.b .nil aB (aa (pv 0) (aa (pv 1) ag)))) (ae (aY (bZ (aD (Jv T) ‹hr› rfl T.mP.g T.mP.fn.kp T.mP.b .nil aB (aa (pv 1) (aa (pv 3) ag)))) (ah (au (gQ T.bf.Fy (j1 T) ‹hr› rfl T.bf.g T.bf.b .nil aB (aa (pv 1) (aa (pv 2) ag))))) aJ) (ah (aN (i:=1) tD.nd rfl (Or.inl rfl) (pv 3))))))) (ah (au (gQ T.bf.Fy (j1 T) ‹hr› rfl T.bf.g T.bf.b .nil aB (aa aS (aa aI ag))))))),?_⟩;right;refine ⟨a,n,rfl,hN,cZ,hz,Hc,fun v1 H1 s1 f1=>?_⟩;right;refine ⟨by decide,by decide,loop (ju 0 60) (fun i σ H'=>∃f fv v2 v3,σ=[some (.ref a),some fv,v2,v3]∧ax H H'∧fw T H' fv f∧Mt.yN n f∧reduced n=Vblaai.reduceFrom n (60 - i) i f)
  ⟨_,_,none,none,rfl,s1,f1,Mt.pj cZ,rfl⟩ (fun _ _ _ _=>trivial) ?_ ?_⟩
 ·intro i x σ H2 H3 N hi z1 s3 z2 kN;obtain ⟨f,fv,v2,v3,rfl,s2,f2,fo,e⟩:=z1;obtain rfl:=z2;right;have Aq:=s2.trans s3;have nf:NF T H3 a fv n f:=⟨hN.same Aq,f2.same s3,cZ,fo,hz,Hc⟩;obtain ⟨m,em⟩:∃m,60 - i=m+1:=⟨59 - i,by omega⟩;rw [em,AV] at e;refine ⟨a,n,f,rfl,nf,fun B bs H4 _ s4 hB=>?_⟩;have lo:=Mt.KH cZ fo;refine ⟨B,bs,_,_,rfl,hB,lo.1,lo.2,hz,fun H5 s5=>?_⟩;right
  cases c:ringed (size n) (Vblaai.closed (size n) (Vblaai.longest n f)) with
  |true =>
   rw [c,if_pos rfl] at e;right;intro q dq hq uG lP;refine ⟨q,dq,rfl,aA,fun H6 h6 k6=>⟨rfl,?_⟩⟩;have s6:=cF hq uG k6;refine k _ H6 (((Aq.trans s4).trans s5).trans s6) ?_;rw [e];exact ⟨q,dq,.de,0,rfl,h6,rfl⟩
  |false =>
   rw [c,if_neg Bool.false_ne_true] at e;right;have TC:=s4.trans s5;have XO:NF T H5 a fv n f:=⟨nf.net.same TC,nf.Gw.same TC,cZ,fo,hz,Hc⟩;refine ⟨a,n,f,rfl,XO,fun v6 H6 s6 f6=>?_⟩;right;refine ⟨f,_,XO.Gw.same s6,f6,?_⟩;right;by_cases c2:Vblaai.round n f=f
   ·rw [if_pos c2] at e;rw [if_pos c2.symm];intro q dq hq uG lP;refine ⟨q,dq,rfl,aA,fun H7 h7 k7=>⟨rfl,?_⟩⟩;have s7:=cF hq uG k7;refine k _ H7 (((Aq.trans TC).trans s6).trans s7) ?_;rw [e];refine ⟨q,dq,fv,i,rfl,?_,(XO.Gw.same s6).same s7,rfl⟩;rw [h7,Int.zero_add]
   ·rw [if_neg c2] at e;rw [if_neg (Ne.symm c2)];refine kN _ _ ⟨_,v6,_,_,rfl,(Aq.trans TC).trans s6,f6,Mt.I0 cZ fo,?_⟩;rw [e]
    congr 1
    omega
 ·intro σ H2 z1;obtain ⟨f,fv,v2,v3,rfl,s2,f2,fo,e⟩:=z1;right;intro q dq hq uG lP;refine ⟨q,dq,rfl,aA,fun H6 h6 k6=>⟨rfl,?_⟩⟩;have s6:=cF hq uG k6;refine k _ H6 (s2.trans s6) ?_;rw [e];exact ⟨q,dq,.de,0,rfl,h6,rfl⟩
inductive DRI (T:Txt K mg) (x a b c d:V) (H:Hp) (Q:VK):Prop
 |mk:∀p dx,x=.ref p→H p=some (.ins T.ba.C dx [])→(∀H',H' p=some (.ins T.ba.C dx (j2 a b c d))→aO [p] H H'→Q .de H')→DRI T x a b c d H Q
def DR (T:Txt K mg):Sp:=V5 fun x a b c d H Q=>DRI T x a b c d H Q
theorem o3 (T:Txt K mg):aU P w K mg base cI 1 T.ba.f T.ba.fd ["self","first","second","least","most"] (DR T):=by
 refine T.ba.fn.WC Dq fun bJ A outer s H x a b c d Q E hr h=>?_;obtain ⟨p,dx,rfl,hp,k⟩:=h;refine ⟨_,(ae (bC T.ba.cl T.gf (pv 0) (pv 1)) (ae (bC T.ba.cl T.fA (pv 0) (pv 2)) (ae (bC T.ba.cl T.gh (pv 0) (pv 3)) (ah (bC T.ba.cl T.gO (pv 0) (pv 4)))))),?_⟩;exists hp;refine ⟨by decide,by show 1<1000;decide,by show 2<1000;decide,by show 3<1000;decide,k _ ?_ ?_⟩
 ·rw [aA];rfl
 ·rw [fC,fC,fC];exact aO.upd (by simp)
inductive BqI (T:Txt K mg) (x a b c d:V) (H:Hp) (Q:VK):Prop
 |mk:∀p dx,x=.ref p→H p=some (.ins T.aH.C dx [])→(∀H',H' p=some (.ins T.aH.C dx (gI a b c d))→aO [p] H H'→Q .de H')→BqI T x a b c d H Q
def Bq (T:Txt K mg):Sp:=V5 fun x a b c d H Q=>BqI T x a b c d H Q
theorem Bt (T:Txt K mg):aU P w K mg base cI 1 T.aH.f T.aH.fd ["self","cause","own","lo","hi"] (Bq T):=by
 refine T.aH.fn.WC Bs fun bJ A outer s H x a b c d Q E hr h=>?_;obtain ⟨p,dx,rfl,hp,k⟩:=h;refine ⟨_,(ae (bC T.aH.cl T.bu (pv 0) (pv 1)) (ae (bC T.aH.cl T.bt (pv 0) (pv 2)) (ae (bC T.aH.cl T.ff (pv 0) (pv 3)) (ah (bC T.aH.cl T.gL (pv 0) (pv 4)))))),?_⟩;exists hp;refine ⟨by decide,by show 1<1000;decide,by show 2<1000;decide,by show 3<1000;decide,k _ ?_ ?_⟩
 ·rw [aA];rfl
 ·rw [fC,fC,fC];exact aO.upd (by simp)
def bH (ts:Times):List V:=ts.map oV
theorem eE {ts:Times} {p:Nat} (h:p<ts.length):iz (bH ts) (p:Int)=some (oV (timeOf ts p)):=by
 refine cV ?_;unfold bH timeOf;rw [List.getElem?_map,List.getD_eq_getElem?_getD,List.getElem?_eq_getElem h];rfl
theorem eU:oV none=.de:=rfl
theorem d4 (q:Nat):oV (some q)=aM q:=rfl
inductive zwI (T:Txt K mg) (x y:V) (H:Hp) (Q:VK):Prop
 |mk:∀l ts a,p9 T H x l→y=.ref a→H a=some (.lst (bH ts))→l.a<ts.length→l.b<ts.length→Q (.bl (keepsOne ts l)) H→zwI T x y H Q
def zw (T:Txt K mg):Sp:=rX fun x y H Q=>zwI T x y H Q
theorem zB (T:Txt K mg):aU P w K mg base cI 1 T.gX.f T.gX.fd ["self","times"] (zw T):=by
 refine T.gX.fn.sE pL fun bJ A outer s H x y Q E hr h=>?_;obtain ⟨l,ts,a,⟨p,dx,rfl,hp⟩,rfl,ha,h1,h2,k⟩:=h;refine ⟨_,(ae (aY (PW.pt (rC (aE cC (aR fz (pv 1) (ai T.ba.cl T.gf (pv 0)) (fun _ _=>rfl)) aS (aG _)) (oZ (aE cC (aR fz (pv 1) (ai T.ba.cl T.fA (pv 0)) (fun _ _=>rfl)) aS (aG _))))) (ah (au kh)) aJ) (ae (aN (i:=2) pL.nd rfl (Or.inl rfl) (cG vt (aR fz (pv 1) (ai T.ba.cl T.fA (pv 0)) (fun _ _=>rfl)) (aR fz (pv 1) (ai T.ba.cl T.gf (pv 0)) (fun _ _=>rfl)))) (ae (aY (PW.pt (jb (aE iw (ai T.ba.cl T.gh (pv 0)) aS (aG _)) (jm (aE oo (pv 2) (ai T.ba.cl T.gh (pv 0)) (aG _))))) (ah (au kh)) aJ) (ah (au (IX (bO cC (ai T.ba.cl T.gO (pv 0)) aS (aG _)) (gA (bO ia (pv 2) (ai T.ba.cl T.gO (pv 0)) (aG _))))))))),?_⟩;have e1:=eE h1;have e2:=eE h2;unfold keepsOne at k
 cases c1:timeOf ts l.a with
 |none =>
  rw [c1] at e1 k;exists hp,ha,e1,e2,eU;exact k
 |some s1 =>
  cases c2:timeOf ts l.b with
  |none =>
   rw [c1] at e1 k;rw [c2] at e2 k;exists hp,ha,e1,e2,eU,d4;exact k
  |some s2 =>
   rw [c1] at e1 k;rw [c2] at e2 k
   cases c3:l.least with
   |none =>
    rw [c3] at hp k
    cases c4:l.most with
    |none =>
     rw [c4] at hp k;exists hp,ha,e1,e2,eU,d4;exact k
    |some q =>
     rw [c4] at hp k;exists hp,ha,e1,e2,eU,d4;have e:decide ((s2:Int) - (s1:Int)≤(q:Int))=decide (s2≤s1+q):=by congr 1;exact propext ⟨fun h=>by omega,fun h=>by omega⟩
     rw [e];exact k
   |some q3 =>
    rw [c3] at hp k
    cases c4:l.most with
    |none =>
     rw [c4] at hp k;exists hp,ha,e1,e2,eU,d4;by_cases c:s1+q3≤s2
     ·rw [if_neg (by omega)];simp only [Option.all_some,Option.all_none,decide_eq_true c,Bool.and_true] at k;exact k
     ·rw [if_pos (by omega)];simp only [Option.all_some,Option.all_none,decide_eq_false c,Bool.and_true] at k;exact k
    |some q =>
     rw [c4] at hp k;exists hp,ha,e1,e2,eU,d4;have e:decide ((s2:Int) - (s1:Int)≤(q:Int))=decide (s2≤s1+q):=by congr 1;exact propext ⟨fun h=>by omega,fun h=>by omega⟩
     rw [e];by_cases c:s1+q3≤s2
     ·rw [if_neg (by omega)];simp only [Option.all_some,decide_eq_true c,Bool.true_and] at k;exact k
     ·rw [if_pos (by omega)];simp only [Option.all_some,decide_eq_false c,Bool.false_and] at k;exact k
def tT (ts:Times) (x:Nature):Bool:=(timeOf ts x.a).isSome&&(timeOf ts x.c).isNone
inductive qHI (T:Txt K mg) (x y:V) (H:Hp) (Q:VK):Prop
 |mk:∀l ts a,ox T H x l→y=.ref a→H a=some (.lst (bH ts))→l.a<ts.length→l.c<ts.length→Q (.bl (tT ts l)) H→qHI T x y H Q
def qH (T:Txt K mg):Sp:=rX fun x y H Q=>qHI T x y H Q
theorem gM (T:Txt K mg):aU P w K mg base cI 1 T.bD.f T.bD.fd ["self","times"] (qH T):=by
 refine T.bD.fn.sE qf fun bJ A outer s H x y Q E hr h=>?_;obtain ⟨l,ts,a,⟨p,dx,rfl,hp⟩,rfl,ha,h1,h2,k⟩:=h;refine ⟨_,(ah (au (gB (bO iw (aR fz (pv 1) (ai T.aH.cl T.bu (pv 0)) (fun _ _=>rfl)) aS (aG _)) (gA (bO cC (aR fz (pv 1) (ai T.aH.cl T.bt (pv 0)) (fun _ _=>rfl)) aS (aG _)))))),?_⟩;have e1:=eE h1;have e2:=eE h2;unfold tT at k
 cases c1:timeOf ts l.a<;>cases c2:timeOf ts l.c<;>(rw [c1] at e1 k;rw [c2] at e2 k;exists hp,ha,e1,e2,eU,d4;exact k)
def Fs (ts:Times) (t:Nat) (x:Nature):Bool:=(timeOf ts x.c).isNone&&(timeOf ts x.a).any fun s=>decide (s+x.lo≤t∧t≤s+x.hi)
def Bl (ts:Times) (t:Nat) (x:Nature):Bool:=(timeOf ts x.c).isNone&&(timeOf ts x.a).any fun s=>decide (t=s+x.hi)
inductive wgI (T:Txt K mg) (x y z:V) (H:Hp) (Q:VK):Prop
 |mk:∀l ts a t,ox T H x l→y=.ref a→z=aM t→H a=some (.lst (bH ts))→l.a<ts.length→l.c<ts.length→Q (.bl (Fs ts t l)) H→wgI T x y z H Q
def wg (T:Txt K mg):Sp:=Cs fun x y z H Q=>wgI T x y z H Q
theorem nh (T:Txt K mg):aU P w K mg base cI 2 T.c7.f T.c7.fd ["self","times","tick"] (wg T):=by
 refine T.c7.fn.Bi vD fun bJ A outer s H x y z Q E hr h=>?_;obtain ⟨l,ts,a,t,⟨p,dx,rfl,hp⟩,rfl,rfl,ha,h1,h2,k⟩:=h;refine ⟨_,(ah (au (gB (a8 (pv 0) T.aH.cl T.bD.m (gM T) ‹hr› T.bD.b .nil aB (aa (pv 1) ag)) (gA (nU ia ia (ai T.aH.cl T.ff (pv 0)) (cG vt (pv 2) (aR fz (pv 1) (ai T.aH.cl T.bu (pv 0)) (fun _ _=>rfl))) (ai T.aH.cl T.gL (pv 0))))))),?_⟩;have e1:=eE h1;have e2:=eE h2;exists hp;refine ⟨l,ts,a,⟨p,dx,rfl,hp⟩,rfl,ha,h1,h2,?_⟩;unfold tT;unfold Fs at k
 cases c1:timeOf ts l.a with
 |none =>
  rw [c1] at k;exists hp,ha,Option.isSome_none,Bool.false_and;simpa using k
 |some s1 =>
  rw [c1] at e1 k
  cases c2:timeOf ts l.c with
  |some s2 =>
   rw [c2] at k;exists hp,ha,Option.isSome_some,Option.isNone_some,Bool.and_false;exact k
  |none =>
   rw [c2] at k;exists hp,ha,e1,d4,Option.isSome_some,Option.isNone_none,Bool.and_self;simp only [Option.isNone_none,Option.any_some,Bool.true_and] at k;by_cases c3:s1+l.lo≤t
   ·rw [if_pos (by omega)];have e:decide ((t:Int) - (s1:Int)≤(l.hi:Int))=decide (s1+l.lo≤t∧t≤s1+l.hi):=by congr 1;exact propext ⟨fun h=>by omega,fun h=>by omega⟩
    rw [e];exact k
   ·rw [if_neg (by omega)];rw [decide_eq_false (fun z=>c3 z.1)] at k;exact k
inductive uJI (T:Txt K mg) (x y z:V) (H:Hp) (Q:VK):Prop
 |mk:∀l ts a t,ox T H x l→y=.ref a→z=aM t→H a=some (.lst (bH ts))→l.a<ts.length→l.c<ts.length→Q (.bl (Bl ts t l)) H→uJI T x y z H Q
def uJ (T:Txt K mg):Sp:=Cs fun x y z H Q=>uJI T x y z H Q
theorem mf (T:Txt K mg):aU P w K mg base cI 2 T.cQ.f T.cQ.fd ["self","times","tick"] (uJ T):=by
 refine T.cQ.fn.Bi uL fun bJ A outer s H x y z Q E hr h=>?_;obtain ⟨l,ts,a,t,⟨p,dx,rfl,hp⟩,rfl,rfl,ha,h1,h2,k⟩:=h;refine ⟨_,(ah (au (gB (a8 (pv 0) T.aH.cl T.bD.m (gM T) ‹hr› T.bD.b .nil aB (aa (pv 1) ag)) (gA (bO eF (cG vt (pv 2) (aR fz (pv 1) (ai T.aH.cl T.bu (pv 0)) (fun _ _=>rfl))) (ai T.aH.cl T.gL (pv 0)) (aG _)))))),?_⟩;have e1:=eE h1;exists hp;refine ⟨l,ts,a,⟨p,dx,rfl,hp⟩,rfl,ha,h1,h2,?_⟩;unfold tT;unfold Bl at k
 cases c1:timeOf ts l.a with
 |none =>
  rw [c1] at k;exists hp,ha,Option.isSome_none,Bool.false_and;simpa using k
 |some s1 =>
  rw [c1] at e1 k
  cases c2:timeOf ts l.c with
  |some s2 =>
   rw [c2] at k;exists hp,ha,Option.isSome_some,Option.isNone_some,Bool.and_false;exact k
  |none =>
   rw [c2] at k;exists hp,ha,e1,d4,Option.isSome_some,Option.isNone_none,Bool.and_self;simp only [Option.isNone_none,Option.any_some,Bool.true_and] at k;have e:decide ((t:Int) - (s1:Int)=(l.hi:Int))=decide (t=s1+l.hi):=by congr 1;exact propext ⟨fun h=>by omega,fun h=>by omega⟩
   rw [e];exact k
theorem Ki {H:Hp} {p q:Addr} {o:HO} (h:upd H p o q=none):p≠q:=fun z=>by
 rw [z,aA] at h
 cases h
theorem cB {α β:Type} (l:List α) (d:α) (g:α→β):(List.range l.length).map (fun j=>g (l.getD j d))=l.map g:=by
 apply List.ext_getElem?;intro i;rw [List.getElem?_map,List.getElem?_map];by_cases h:i<l.length
 ·rw [List.getElem?_range h,List.getElem?_eq_getElem h];show some (g (l.getD i d))=_;rw [b9 (List.getElem?_eq_getElem h)];rfl
 ·rw [List.getElem?_eq_none (by simp;omega),List.getElem?_eq_none (by omega)];rfl
theorem Io {H H2:Hp} {q:Addr} (s:ax H H2) (hq:H q=none) (o:HO):∃H3,upd H2 q o=H3∧ax H H3∧H3 q=some o∧aO [q] H2 H3:=⟨_,rfl,ax.iA s hq,aA,aO.upd (by simp)⟩
theorem Ov (T:Txt K mg) {H:Hp}:n6 K H T.j6.a (bg Mt.MN):=T.j6.sq (by decide)
structure qK (T:Txt K mg) (H:Hp) (a dx an al at':Addr) (ns ls ts:List V) (n:Net):Prop extends Nv T H a dx an al at' ns ls ts n where
 d1:an≠al
 d2:an≠at'
 d3:al≠at'
inductive G8I (T:Txt K mg) (x:V) (H:Hp) (Q:VK):Prop
 |mk:∀p dx,x=.ref p→H p=some (.ins T.aT.C dx [])→(∀H' an al at',H an=none→H al=none→H at'=none→qK T H' p dx an al at' [.ref T.j6.a] [] [] {}→aO [p] H H'→Q .de H')→G8I T x H Q
def G8 (T:Txt K mg):Sp:=m7 fun x H Q=>G8I T x H Q
theorem sk (T:Txt K mg):aU P w K mg base cI 1 T.aT.f T.aT.fd ["self"] (G8 T):=by
 refine T.aT.fn.n4 Jn fun bJ A outer s H x Q E hr h=>?_;obtain ⟨p,dx,rfl,hp,k⟩:=h;refine ⟨_,(ae (bC T.aT.cl T.bj (pv 0) (a9 (aa (kT T.j6) ag))) (ae (bC T.aT.cl T.fS (pv 0) (a9 ag)) (ah (bC T.aT.cl T.bo (pv 0) (a9 ag))))),?_⟩;right;refine ⟨by decide,fun an Xm=>?_⟩;obtain ⟨H1,uT,s1,h1⟩:=dQ Xm (.lst [.ref T.j6.a]);rw [uT];have Ow:=s1 _ _ hp;exists Ow;refine ⟨by decide,by decide,fun al Vi=>?_⟩;have PR:p≠al:=Ki Vi;rw [aF (Ne.symm PR)] at Vi;exists aF PR;refine ⟨by show 1<1000;decide,by decide,fun at' Ms=>?_⟩;have Wy:p≠at':=Ki Ms;rw [aF (Ne.symm Wy)] at Ms;have Xh:al≠at':=Ki Ms;rw [aF (Ne.symm Xh),aF (Ne.symm Wy)] at Ms;exists aF Wy;have Xy:an≠p:=(aC hp Xm).symm;have ZA:an≠al:=aC h1 Vi;have Zh:an≠at':=aC h1 Ms;refine ⟨by show 2<1000;decide,k _ an al at' Xm (s1.free Vi) (s1.free Ms) ⟨⟨aA,?_,?_,?_,?_,ig.nil,ig.nil⟩,ZA,Zh,Xh⟩ fun b o e hb=>?_⟩
 ·rw [aF Xy,aF Zh,aF Xy,aF ZA,aF Xy];exact h1
 ·rw [aF (Ne.symm PR),aF Xh,aF (Ne.symm PR),aA]
 ·rw [aF (Ne.symm Wy),aA]
 ·exact ig.snoc (xs:=[]) (ys:=[]) ig.nil ⟨_,rfl,Ov T⟩
 ·have b1:b≠p:=by simpa using hb
  have b2:b≠al:=aC (s1 _ _ e) Vi;have b3:b≠at':=aC (s1 _ _ e) Ms;rw [aF b1,aF b3,aF b1,aF b2,aF b1];exact s1 _ _ e
inductive AZI (T:Txt K mg) (x y:V) (H:Hp) (Q:VK):Prop
 |mk:∀a n i,x=.ref a→dr T H a n→y=.int i→Q (.bl (isStep n i)) H→AZI T x y H Q
def AZ (T:Txt K mg):Sp:=rX fun x y H Q=>AZI T x y H Q
theorem jl (T:Txt K mg):aU P w K mg base cI 1 T.cz.f T.cz.fd ["self","step"] (AZ T):=by
 refine T.cz.fn.sE A6 fun bJ A outer s H x y Q E hr h=>?_;obtain ⟨a,n,i,rfl,⟨dx,an,al,at',ns,ls,ts,N0⟩,rfl,k⟩:=h;refine ⟨_,(ah (au (nU ia oo aI (pv 1) (bc nY rfl T.eM eJ (aa (ai T.aT.cl T.bj (pv 0)) ag))))),?_⟩;have h0:=N0.obj;have h1:=N0.AW;have hl:ns.length=size n:=N0.pn.1;exists h0,h1,hl;have e:isStep n i=(decide (0≤i)&&decide (i<(size n:Int))):=by
  unfold isStep within
  congr 2
  exact propext ⟨fun h=>by omega,fun h=>by omega⟩
 rw [e] at k;by_cases c:0≤i
 ·rw [if_pos c];rw [decide_eq_true c,Bool.true_and] at k;exact k
 ·rw [if_neg c];rw [decide_eq_false c,Bool.false_and] at k;exact k
inductive xKI (T:Txt K mg) (x y:V) (H:Hp) (Q:VK):Prop
 |mk:∀a n i,x=.ref a→dr T H a n→y=.int i→Q (.bl (within i 0 ((n.natures.length:Int) - 1))) H→xKI T x y H Q
def xK (T:Txt K mg):Sp:=rX fun x y H Q=>xKI T x y H Q
theorem yq (T:Txt K mg):aU P w K mg base cI 1 T.gJ.f T.gJ.fd ["self","nature"] (xK T):=by
 refine T.gJ.fn.sE yL fun bJ A outer s H x y Q E hr h=>?_;obtain ⟨a,n,i,rfl,⟨dx,an,al,at',ns,ls,ts,N0⟩,rfl,k⟩:=h;refine ⟨_,(ah (au (nU ia oo aI (pv 1) (bc nY rfl T.eM eJ (aa (ai T.aT.cl T.bo (pv 0)) ag))))),?_⟩;have h0:=N0.obj;have h1:=N0.vA;have hl:ts.length=n.natures.length:=N0.pt.1;exists h0,h1,hl;have e:within i 0 ((n.natures.length:Int) - 1)=(decide (0≤i)&&decide (i<(n.natures.length:Int))):=by
  unfold within
  congr 2
  exact propext ⟨fun h=>by omega,fun h=>by omega⟩
 rw [e] at k;by_cases c:0≤i
 ·rw [if_pos c];rw [decide_eq_true c,Bool.true_and] at k;exact k
 ·rw [if_neg c];rw [decide_eq_false c,Bool.false_and] at k;exact k
inductive DuI (T:Txt K mg) (x y:V) (H:Hp) (Q:VK):Prop
 |mk:∀a n i,x=.ref a→dr T H a n→n.natures.length≤1000→y=aM i→(∀H',ax H H'→Q (.bl (isNature n i)) H')→DuI T x y H Q
def Du (T:Txt K mg):Sp:=rX fun x y H Q=>DuI T x y H Q
theorem pa (T:Txt K mg):aU P w K mg base cI 1 T.eX.f T.eX.fd ["self","step"] (Du T):=by
 refine T.eX.fn.sE oY fun bJ A outer s H x y Q E hr h=>?_;obtain ⟨a,n,i,rfl,⟨dx,an,al,at',ns,ls,ts,N0⟩,hz,rfl,k⟩:=h;refine ⟨_,(ah (au (bc (VA rfl) rfl T.Ny NG (aa (i7 rfl oY.nd (fg (ai T.aT.cl T.bo (pv 0))) (bL (show jq ["self","step","nature"] (aq qw) _ [("nature",2)]=true from by decide+kernel)) (fun _ _ _ _ _=>(aK (i:=2) oY.nd rfl (Or.inl rfl))) (fun _ _ _ _ _=>eY) (fun _ _ _ _ _=>(bO eF (ai T.aH.cl T.bt (pv 2)) (pv 1) (aG _)))) ag)))),?_⟩
 have h0:=N0.obj;have h1:=N0.vA;exists h0,h1;refine cW (bp ts) (fun j=>some (.bl (((n.natures.map fun x=>decide (x.c=i))).getD j false))) (fun H' s=>.of (s _ _ h1)) (fun j x H' kk hj s hx kf=>?_) (by rw [N0.pt.1];exact Nat.le_trans hz (by decide)) (fun D H' hD s hd=>?_)
 ·obtain ⟨y,ey,ay,dy,rfl,hy⟩:=N0.pt.at_ hx;have Xa:=s _ _ hy;exists Xa;have e:(n.natures.map fun x=>decide (x.c=i)).getD j false=decide ((y.c:Int)=(i:Int)):=by
   rw [b9 (x:=decide (y.c=i)) (by rw [List.getElem?_map,ey];rfl)]
   congr 1
   exact propext ⟨fun h=>by rw [h],fun h=>by omega⟩
  rw [e] at kf;exact kf H' (ax.refl _)
 ·refine Hy (n.natures.map fun x=>decide (x.c=i)) hd ?_ ?_
  ·rw [filterMap_some,N0.pt.1, ←List.length_map (f:=fun x:Nature=>decide (x.c=i)),cB]
  ·have e:(n.natures.map fun x=>decide (x.c=i)).any id=isNature n i:=by
    rw [Mt.qz,List.any_map]
    congr 1
   rw [e];exact k H' s
def Ru (n:Net):List Nat:=(List.range (size n - 1)).filterMap fun i=>if isNature n (i+1)=true then none else some (i+1)
inductive zCI (T:Txt K mg) (x:V) (H:Hp) (Q:VK):Prop
 |mk:∀a n,x=.ref a→dr T H a n→size n≤1000→1≤size n→n.natures.length≤1000→(∀b H',H b=none→ax H H'→H' b=some (.lst ((Ru n).map aM))→Q (.ref b) H')→zCI T x H Q
def zC (T:Txt K mg):Sp:=m7 fun x H Q=>zCI T x H Q
theorem pW (T:Txt K mg):aU P w K mg base cI 2 T.eL.f T.eL.fd ["self"] (zC T):=by
 refine T.eL.fn.n4 kU fun bJ A outer s H x Q E hr h=>?_;obtain ⟨a,n,rfl,hN,hz,h1z,Hc,k⟩:=h;obtain ⟨dx,an,al,at',ns,ls,ts,N0⟩:=id hN;refine ⟨_,(ah (au (i7 rfl kU.nd (MR rfl T.ny (aa aI (aa (bc nY rfl T.eM eJ (aa (ai T.aT.cl T.bj (pv 0)) ag)) ag))) (bL (show jq ["self","step"] (aq md) _ [("step",1)]=true from by decide+kernel)) (fun _ _ _ _ _=>(aK (i:=1) kU.nd rfl (Or.inl rfl))) (fun _ _ _ _ _=>(lF (gu (bZ (a8 (pv 0) T.aT.cl T.eX.m (pa T) ‹hr› T.eX.b .nil aB (aa (pv 1) ag)))))) (fun _ _ _ _ _=>(pv 1))))),?_⟩
 have h0:=N0.obj;have h1:=N0.AW;have hl:ns.length=size n:=N0.pn.1;exists h0,h1,hl;refine ⟨by decide,by decide,by omega,by omega,?_⟩;have e:((size n:Int) - 1).toNat=size n - 1:=by omega
 rw [e];refine cW (ju 1 (size n - 1)) (fun i=>(if isNature n (i+1)=true then none else some (i+1)).map aM) (fun _ _=>trivial) (fun i x H' kk hi s hx kf=>?_) (by exact Nat.le_trans (Nat.sub_le _ _) (Nat.le_trans hz (by decide))) (fun D H' hD s hd=>k D H' hD s ?_)
 ·subst hx;have e:(1+(i:Int))=((i+1:Nat):Int):=by omega
  have Qo:=s _ _ h0;exists e,Qo;refine ⟨a,n,i+1,rfl,hN.same s,Hc,rfl,fun H4 s4=>?_⟩;exists e
  cases c:isNature n (i+1) with
  |true =>
   rw [c,if_pos rfl] at kf;exact kf H4 s4
  |false =>
   rw [c,if_neg Bool.false_ne_true] at kf;exact kf H4 s4
 ·rw [hd];unfold Ru;rw [List.map_filterMap]
inductive vUI (T:Txt K mg) (x:V) (H:Hp) (Q:VK):Prop
 |mk:∀a n,x=.ref a→dr T H a n→size n≤1000→(∀b H',H b=none→ax H H'→H' b=some (.lst (bH (Vblaai.fresh n)))→Q (.ref b) H')→vUI T x H Q
def vU (T:Txt K mg):Sp:=m7 fun x H Q=>vUI T x H Q
theorem nX (T:Txt K mg):aU P w K mg base cI 1 T.dk.f T.dk.fd ["self"] (vU T):=by
 refine T.dk.fn.n4 jz fun bJ A outer s H x Q E hr h=>?_;obtain ⟨a,n,rfl,hN,hz,k⟩:=h;obtain ⟨dx,an,al,at',ns,ls,ts,N0⟩:=id hN;refine ⟨_,(ah (au (i7 rfl jz.nd (mQ rfl T.ny (aa (bc nY rfl T.eM eJ (aa (ai T.aT.cl T.bj (pv 0)) ag)) ag)) (bL (show jq ["self","step"] (aq jR) _ [("step",1)]=true from by decide+kernel)) (fun _ _ _ _ _=>(aK (i:=1) jz.nd rfl (Or.inl rfl))) (fun _ _ _ _ _=>eY) (fun _ _ _ _ _=>(dh (aE eF (pv 1) aI (aG _)) aI aS))))),?_⟩
 have h0:=N0.obj;have h1:=N0.AW;have hl:ns.length=size n:=N0.pn.1;exists h0,h1,hl;refine ⟨by omega,by omega,?_⟩;rw [Int.toNat_natCast];refine cW (ju 0 (size n)) (fun i=>some (oV (if i=0 then some 0 else none))) (fun _ _=>trivial) (fun i x H' kk hi s hx kf=>?_) (Nat.le_trans hz (by decide)) (fun D H' hD s hd=>k D H' hD s ?_)
 ·subst hx;right;rw [Int.zero_add];by_cases c:i=0
  ·rw [if_pos (by omega)];rw [if_pos c] at kf;exact kf H' (ax.refl _)
  ·rw [if_neg (by omega)];rw [if_neg c] at kf;exact kf H' (ax.refl _)
 ·rw [hd,filterMap_some];unfold bH Vblaai.fresh;rw [List.map_map];rfl
inductive qTI (T:Txt K mg) (x y:V) (H:Hp) (Q:VK):Prop
 |mk:∀a n ts b,x=.ref a→dr T H a n→Mt.cH n→n.limits.length≤1000→y=.ref b→H b=some (.lst (bH ts))→ts.length=size n→(∀H',ax H H'→Q (.bl (Vblaai.keeps n ts)) H')→qTI T x y H Q
def qT (T:Txt K mg):Sp:=rX fun x y H Q=>qTI T x y H Q
theorem qp (T:Txt K mg):aU P w K mg base cI 2 T.dE.f T.dE.fd ["self","times"] (qT T):=by
 refine T.dE.fn.sE gN fun bJ A outer s H x y Q E hr h=>?_;obtain ⟨a,n,tm,b,rfl,hN,cZ,hz,rfl,hb,Y6,k⟩:=h;obtain ⟨dx,an,al,at',ns,ls,ts,N0⟩:=id hN;refine ⟨_,(ah (au (bc (all2 rfl) rfl T.zp za (aa (i7 rfl gN.nd (fg (ai T.aT.cl T.fS (pv 0))) (bL (show jq ["self","times","limit"] (aq iq) _ [("limit",2)]=true from by decide+kernel)) (fun _ _ _ _ _=>(aK (i:=2) gN.nd rfl (Or.inl rfl))) (fun _ _ _ _ _=>eY) (fun _ _ _ _ _=>(a8 (pv 2) T.ba.cl T.gX.m (zB T) ‹hr› T.gX.b .nil aB (aa (pv 1) ag)))) ag)))),?_⟩
 have h0:=N0.obj;have h1:=N0.Jt;exists h0,h1;refine cW (bp ls) (fun j=>some (.bl ((n.limits.map (keepsOne tm)).getD j false))) (fun H' s=>.of (s _ _ h1)) (fun j x H' kk hj s hx kf=>?_) (by rw [N0.pl.1];exact Nat.le_trans hz (by decide)) (fun D H' hD s hd=>?_)
 ·obtain ⟨y,ey,ry⟩:=N0.pl.at_ hx;obtain ⟨ay,dy,rfl,hy⟩:=id ry;have Xa:=s _ _ hy;exists Xa;have gc:=cZ.lim y (List.mem_of_getElem? ey);refine ⟨y,tm,b,ry.same s,rfl,s _ _ hb,by rw [Y6];exact gc.1,by rw [Y6];exact gc.2.1,?_⟩;rw [b9 (x:=keepsOne tm y) (by rw [List.getElem?_map,ey];rfl)] at kf;exact kf H' (ax.refl _)
 ·refine ph (n.limits.map (keepsOne tm)) hd ?_ ?_
  ·rw [filterMap_some,N0.pl.1, ←List.length_map (f:=keepsOne tm),cB]
  ·rw [List.all_map];exact k H' s
inductive ycI (T:Txt K mg) (x y:V) (H:Hp) (Q:VK):Prop
 |mk:∀a n l,x=.ref a→dr T H a n→p9 T H y l→n.limits.length≤1000→(∀b H',ax H H'→dr T H' b { n with limits:=n.limits++[l] }→Q (.ref b) H')→ycI T x y H Q
def yc (T:Txt K mg):Sp:=rX fun x y H Q=>ycI T x y H Q
theorem xg (T:Txt K mg):aU P w K mg base cI 3 T.gz.f T.gz.fd ["self","limit"] (yc T):=by
 refine T.gz.fn.sE oO fun bJ A outer s H x y Q E hr h=>?_;obtain ⟨a,n,l,rfl,hN,hy,hz,k⟩:=h;obtain ⟨dx,an,al,at',ns,ls,ts,N0⟩:=id hN;refine ⟨_,(ae (aN (i:=2) oO.nd rfl (Or.inl rfl) (wL T.aT.Fy (sk T) ‹hr› rfl T.aT.g T.aT.b .nil aB)) (ae (bC T.aT.cl T.bj (pv 2) (ik Lf rfl T.wK wC (aa (ai T.aT.cl T.bj (pv 0)) ag))) (ae (bC T.aT.cl T.fS (pv 2) (cG jt (ai T.aT.cl T.fS (pv 0)) (a9 (aa (pv 1) ag)))) (ae (bC T.aT.cl T.bo (pv 2) (ik Lf rfl T.wK wC (aa (ai T.aT.cl T.bo (pv 0)) ag))) (ah (au (pv 2))))))),?_⟩;right;intro q dq hq uG lP;refine ⟨q,dq,rfl,aA,fun H1 an1 al1 Ju _ _ _ M1 k1=>⟨rfl,?_⟩⟩;have s1:=cF hq uG k1;have h0:=s1 _ _ N0.obj;have h1:=s1 _ _ N0.AW;exists h0,h1;intro b1 EU;obtain ⟨H2,Aw,s2,h2⟩:=dQ EU (.lst ns);rw [Aw];have Dg:=s2 _ _ M1.obj;have ZP:a≠q:=aC N0.obj hq;have nql:al≠q:=aC N0.Jt hq;have G4:=s2 _ _ h0;have WJ:=s2 _ _ (s1 _ _ N0.Jt);exists Dg,aF ZP,G4;obtain ⟨H3,Ka,s3,Mx,k3⟩:=Io (s1.trans s2) hq (.ins T.aT.C dq (fu (V.ref b1) (V.ref al1) (V.ref Ju)));rw [Ka];have XG:b1∉[q]:=by
  have:=aC M1.obj EU;simpa using Ne.symm this
 have TQ:=k3 _ _ h2 XG;refine ⟨by decide,by decide,fun p hp=>?_⟩;obtain ⟨H4,Qr,s4,h4⟩:=dQ hp (.lst [y]);rw [Qr];have hl4:=(s3.trans s4) _ _ N0.Jt;exists hl4,h4;refine ⟨by rw [N0.pl.1];exact Nat.le_trans (Nat.succ_le_succ hz) (by decide),fun p1 Ow=>?_⟩;obtain ⟨H5,Hb,s5,h5⟩:=dQ Ow (.lst (ls++[y]));rw [Hb];have hq5:=(s4.trans s5) _ _ Mx;have ha5:=(s3.trans (s4.trans s5)) _ _ N0.obj;exists hq5,ha5,aF ZP;obtain ⟨H6,QH,s6,YU,k6⟩:=Io (s3.trans (s4.trans s5)) hq (.ins T.aT.C dq (fu (V.ref b1) (V.ref p1) (V.ref Ju)));rw [QH];have YL:p1∉[q]:=by
  have:=aC (s4 _ _ Mx) Ow;simpa using Ne.symm this
 have hp6:=k6 _ _ h5 YL;have Ys:=k6 _ _ ((s4.trans s5) _ _ TQ) XG;have ht6:=s6 _ _ N0.vA;exists ht6;refine ⟨by decide,fun p2 Qh=>?_⟩;obtain ⟨H7,S9,s7,h7⟩:=dQ Qh (.lst ts);rw [S9];have hq7:=s7 _ _ YU;exists hq7;obtain ⟨H8,eH8,s8,h8q,k8⟩:=Io (s6.trans s7) hq (.ins T.aT.C dq (fu (V.ref b1) (V.ref p1) (V.ref p2)));rw [eH8];have np2:p2∉[q]:=by
  have:=aC YU Qh;simpa using Ne.symm this
 have N8:=N0.same s8;exact ⟨by decide,k q H8 s8 ⟨dq,b1,p1,p2,ns,ls++[y],ts,h8q,k8 _ _ (s7 _ _ Ys) XG,k8 _ _ (s7 _ _ hp6) YL,k8 _ _ h7 np2,N8.pn,N8.pl.snoc (hy.same s8),N8.pt⟩⟩
theorem Fq {c:TT} {tb:TS} {D:Ends} {σ:L2.St} {H:Hp} (Pv:Nat→L2.St→Hp→Prop) {m0:Nat} (h0:Pv m0 σ H)
  (turn:∀m σ H (N:L2.St→Hp→Prop) (k:Bool→Hp→Prop),Pv m σ H→(∀m' σ' H',m'<m→Pv m' σ' H'→N σ' H')→(∀b H1,(if b=true then tb { D with nx:=N,ct:=N,bk:=D.nx } σ H1 else D.nx σ H1)→k b H1)→c σ H k):OM c tb D σ H:=by
 refine ⟨Pv,⟨m0,h0⟩,fun m σ H p=>turn m σ H (fun σ' H'=>∃m',m'<m∧Pv m' σ' H') _ p (fun m' σ' H' l q=>⟨m',l,q⟩) fun b H1 h=>?_⟩
 cases b with
 |true=>exact ⟨_,fun _ _ z=>z,h⟩
 |false=>exact h
def ud (i j:Nat) (w:Int):Limit:=if 0≤w then { a:=i,b:=j,least:=none,most:=some w.toNat } else { a:=j,b:=i,least:=some (-w).toNat,most:=none }
theorem yp (n:Net) (i j:Nat) (w:Int):withLimit n i j w={ n with limits:=n.limits++[ud i j w] }:=rfl
theorem FX {n:Net} (h:Mt.cH n) {i j:Nat} (hi:i<size n) (hj:j<size n) (Ml:i≠j) (w:Int):Mt.cH (withLimit n i j w):=by
 refine ⟨h.pos,fun x hx=>?_,h.nat,h.own⟩;rw [yp] at hx;rcases List.mem_append.mp hx with hx|hx
 ·exact h.lim x hx
 ·have:x=ud i j w:=by simpa using hx
  subst this;unfold ud;split
  ·exact ⟨hi,hj,Ml⟩
  ·exact ⟨hj,hi,Ne.symm Ml⟩
inductive HCI (T:Txt K mg) (x y z:V) (H:Hp) (Q:VK):Prop
 |mk:∀i j:Nat,∀w:Int,x=aM i→y=aM j→z=.int w→(∀v H',ax H H'→p9 T H' v (ud i j w)→Q v H')→HCI T x y z H Q
def HC (T:Txt K mg):Sp:=Cs fun x y z H Q=>HCI T x y z H Q
theorem IY (T:Txt K mg):aU P w K mg base cI 3 T.kC.f T.kC.fd ["i","j","w"] (HC T):=by
 refine T.kC.fn.Bi Jg fun bJ A outer s H x y z Q E hr h=>?_;obtain ⟨i,j,w,rfl,rfl,rfl,k⟩:=h;refine ⟨_,(ah (au (dh (aE Es (pv 2) aI (aG _)) (gQ T.ba.Fy (o3 T) ‹hr› rfl T.ba.g T.ba.b .nil aB (aa (pv 0) (aa (pv 1) (aa aS (aa (pv 2) ag))))) (gQ T.ba.Fy (o3 T) ‹hr› rfl T.ba.g T.ba.b .nil aB (aa (pv 1) (aa (pv 0) (aa (EF zh (pv 2)) (aa aS ag)))))))),?_⟩;right;by_cases c:0≤w
 ·rw [if_pos (by omega)];intro q dq hq uG lP;refine ⟨q,dq,rfl,aA,fun H1 h1 k1=>⟨rfl,k _ H1 (cF hq uG k1) ⟨q,dq,rfl,?_⟩⟩⟩;unfold ud;rw [if_pos c,h1];simp only [oV,Option.map_some,Option.map_none,wV,Int.toNat_of_nonneg c]
 ·rw [if_neg (by omega)];intro q dq hq uG lP;refine ⟨q,dq,rfl,aA,fun H1 h1 k1=>⟨rfl,k _ H1 (cF hq uG k1) ⟨q,dq,rfl,?_⟩⟩⟩;unfold ud;rw [if_neg c,h1];simp only [oV,Option.map_some,Option.map_none,wV,Int.toNat_of_nonneg (show 0≤ -w by omega)]
structure L9 (T:Txt K mg) (H:Hp) (a:Addr) (n:Net):Prop where
 net:dr T H a n
 ok:Mt.cH n
 z1:size n≤1000
 z2:n.natures.length≤1000
 z3:n.limits.length≤1000
theorem L9.same {T:Txt K mg} {H H':Hp} {a:Addr} {n:Net} (h:L9 T H a n) (s:ax H H'):L9 T H' a n:=⟨h.net.same s,h.ok,h.z1,h.z2,h.z3⟩
inductive rlI (T:Txt K mg) (x y z u:V) (H:Hp) (Q:VK):Prop
 |mk:∀a n,∀i j:Nat,∀w:Int,x=.ref a→y=aM i→z=aM j→u=.int w→L9 T H a n→i<size n→j<size n→i≠j→(∀H',ax H H'→Q (.bl (Vblaai.sure (withLimit n i j w))) H')→rlI T x y z u H Q
def rl (T:Txt K mg):Sp:=Qx fun x y z u H Q=>rlI T x y z u H Q
theorem l7 (T:Txt K mg):aU P w K mg base cI 7 T.b6.f T.b6.fd ["net","i","j","w"] (rl T):=by
 refine T.b6.fn.Ro A1 fun bJ A outer s H x y z u Q E hr h=>?_;obtain ⟨a,n,i,j,w,rfl,rfl,rfl,rfl,hn,hi,hj,Ml,k⟩:=h;refine ⟨_,(ah (au (bO iw (ai T.bf.cl T.dR (aD (IS T) ‹hr› rfl T.mz.g T.mz.fn.kp T.mz.b .nil aB (aa (a8 (pv 0) T.aT.cl T.gz.m (xg T) ‹hr› T.gz.b .nil aB (aa (aD (IY T) ‹hr› rfl T.kC.g T.kC.fn.kp T.kC.b .nil aB (aa (pv 1) (aa (pv 2) (aa (pv 3) ag)))) ag)) ag))) aS (aG _)))),?_⟩;obtain ⟨dx,an,al,at',ns,ls,ts,N0⟩:=id hn.net;have h0:=N0.obj;exists h0;refine ⟨i,j,w,rfl,rfl,rfl,fun v1 H1 s1 l1=>?_⟩;refine ⟨a,n,_,rfl,hn.net.same s1,l1,hn.z3,fun b H2 s2 n2=>?_⟩;rw [←yp] at n2;refine ⟨b,_,rfl,n2,FX hn.ok hi hj Ml w,hn.z1,hn.z2,fun v3 H3 s3 j3=>?_⟩;obtain ⟨aj,dj,fv,e,rfl,hJ,hm⟩:=j3;exists hJ;have kk:=k H3 ((s1.trans s2).trans s3);unfold Vblaai.sure at kk
 cases c:reduced (withLimit n i j w) with
 |none =>
  rw [c] at hm kk;have hm:fv=.de:=hm;subst hm;exact kk
 |some r =>
  rw [c] at hm kk;obtain ⟨⟨af,df,_,_,_,_,rfl,_⟩,_⟩:=hm;exact kk
def wj (n:Net) (i j:Nat):W:=if Vblaai.sure (withLimit n i j 12000)=true then some (searchFrom n i j 20 (-12000) 12000) else none
theorem Hh (n:Net) (i j f:Nat) (x:Int):searchFrom n i j f x x=x:=by
 cases f with
 |zero=>rfl
 |succ f =>
  unfold searchFrom;rw [if_pos (Int.le_refl x)]
theorem Ig (n:Net) (i j f:Nat) {lo hi:Int} (h:lo<hi):searchFrom n i j (f+1) lo hi=if Vblaai.sure (withLimit n i j ((lo+hi) / 2))=true then searchFrom n i j f lo ((lo+hi) / 2) else searchFrom n i j f ((lo+hi) / 2+1) hi:=by
 conv=>lhs;unfold searchFrom
 rw [if_neg (by omega)]
inductive HEI (T:Txt K mg) (x y z:V) (H:Hp) (Q:VK):Prop
 |mk:∀a n,∀i j:Nat,x=.ref a→y=aM i→z=aM j→L9 T H a n→i<size n→j<size n→i≠j→(∀H',ax H H'→Q (wV (wj n i j)) H')→HEI T x y z H Q
def HE (T:Txt K mg):Sp:=Cs fun x y z H Q=>HEI T x y z H Q
theorem Hq (T:Txt K mg):aU P w K mg base cI 8 T.kq.f T.kq.fd ["net","i","j"] (HE T):=by
 refine T.kq.fn.Bi jH fun bJ A outer s H x y z Q E hr h=>?_;obtain ⟨a,n,i,j,rfl,rfl,rfl,hn,o4,hj,Ml,k⟩:=h;refine ⟨_,(ae (aY (gu (bZ (aD (l7 T) ‹hr› rfl T.b6.g T.b6.fn.kp T.b6.b .nil aB (aa (pv 0) (aa (pv 1) (aa (pv 2) (aa (kI T.sW) ag))))))) (ah (au aS)) aJ) (ae (aN (i:=3) jH.nd rfl (Or.inl rfl) (kI T.xp)) (ae (aN (i:=4) jH.nd rfl (Or.inl rfl) (kI T.sW)) (ae (xu PassesOwn.never (aE oo (pv 3) (pv 4) (aG _)) (ae (aN (i:=5) jH.nd rfl (Or.inl rfl) (cG PH (cG fY (pv 3) (pv 4)) aI)) (ah (aY (bZ (aD (l7 T) ‹hr› rfl T.b6.g T.b6.fn.kp T.b6.b .nil aB (aa (pv 0) (aa (pv 1) (aa (pv 2) (aa (pv 5) ag)))))) (ah (aN (i:=4) jH.nd rfl (Or.inl rfl) (pv 5))) (ah (aN (i:=3) jH.nd rfl (Or.inl rfl) (cG fY (pv 5) aI))))))) (ah (au (pv 3))))))),?_⟩;right;refine ⟨a,n,i,j,12000,rfl,rfl,rfl,rfl,hn,o4,hj,Ml,fun H1 s1=>?_⟩;unfold wj at k;right
 cases c:Vblaai.sure (withLimit n i j 12000) with
 |false =>
  rw [c,if_neg Bool.false_ne_true] at k;exact k H1 s1
 |true =>
  rw [c,if_pos rfl] at k;right;refine Fq (fun m σ H'=>∃lo hi v,σ=[some (.ref a),some (aM i),some (aM j),some (.int lo),some (.int hi),v]∧ax H H'∧m=(hi - lo).toNat∧lo≤hi∧∃f:Nat,searchFrom n i j 20 (-12000) 12000=searchFrom n i j f lo hi∧hi - lo<2 ^ f)
   ⟨-12000,12000,none,rfl,s1,rfl,by decide,20,rfl,by decide⟩ ?_
  intro m σ H2 N kk z1 kN hk;obtain ⟨lo,hi,v,rfl,s2,rfl,hle,f,ef,hf⟩:=z1;right;refine hk _ _ ?_;by_cases cl:lo<hi
  ·rw [decide_eq_true cl,if_pos rfl];right;refine ⟨⟨by decide,by decide⟩,?_⟩;obtain ⟨g,rfl⟩:∃g,f=g+1:=by
    cases f with
    |zero=>have:hi - lo<1:=hf;omega
    |succ g=>exact ⟨g,rfl⟩
   have e2:(2:Int) ^ (g+1)=2 ^ g*2:=Int.pow_succ 2 g;rw [Ig n i j g cl] at ef;refine ⟨a,n,i,j,(lo+hi) / 2,rfl,rfl,rfl,rfl,hn.same s2,o4,hj,Ml,fun H3 s3=>?_⟩;right
   cases c2:Vblaai.sure (withLimit n i j ((lo+hi) / 2)) with
   |true =>
    rw [c2,if_pos rfl] at ef;right;exact kN ((lo+hi) / 2 - lo).toNat _ _ (by omega) ⟨lo,(lo+hi) / 2,_,rfl,s2.trans s3,rfl,by omega,g,ef,by omega⟩
   |false =>
    rw [c2,if_neg Bool.false_ne_true] at ef;right;exact kN (hi - ((lo+hi) / 2+1)).toNat _ _ (by omega) ⟨(lo+hi) / 2+1,hi,_,rfl,s2.trans s3,rfl,by omega,g,ef,by omega⟩
  ·rw [decide_eq_false cl,if_neg Bool.false_ne_true];right;have e:lo=hi:=by omega
   subst e;rw [Hh] at ef;rw [ef] at k;exact k H2 s2
end Rp
section
namespace L2
open PySem PySem.Spec PyProof.Rows
section
variable {X:Cx}
def Vt (K:PySem.W.Frag):R2:=fun x y H Q=>∃d xs,Dp K H x d∧Dp K H y (.list xs)∧SeqAt.shaped d=true∧PyData.canLayAll0 xs=true∧Q (.bl (xs.any fun z=>PyData.eqv z d)) H
theorem depth_of_shaped {d:PyData} (h:SeqAt.shaped d=true):d.depth≤64:=of_decide_eq_true (Bool.and_eq_true_iff.mp h).2
theorem JZ (hu:X.A.units+70<cLine):ve X (compareOp .In) (Vt X.K):=by
 intro pins s σ H x y v u Q I rx ry h;obtain ⟨d,xs,hd,he,sd,se,q⟩:=h;obtain ⟨as,r1⟩:=Dp.reads I d x v hd rx;obtain ⟨bs,r2⟩:=Dp.reads I _ y u he ry;have:=depth_of_shaped sd;exact SeqAt.in_list_reads r2 r1 se (SeqAt.canLay_of_shaped sd) (by omega) ⟨.bl _,H,I,rfl,q⟩
def LC (K:PySem.W.Frag):V→List V→Hp→VK→Prop:=fun x xs H Q=>∃(y:V) (d:PyData) (ds:List PyData) (j:Nat) (dj:PyData),xs=[y]∧Dp K H x (.list ds)∧Dp K H y d∧SeqAt.shaped d=true∧PyData.canLayAll0 ds=true∧ds[j]?=some dj∧PyData.eqv dj d=true ∧
 (∀(m:Nat) (dm:PyData),m<j→ds[m]?=some dm→PyData.eqv dm d=false)∧j<1000∧Q (.int (j:Nat)) H
theorem ue (hu:X.A.units+70<cLine):YZ X "list.index" (LC X.K):=by
 intro pins s σ H x xs v us Q I rx rxs h;obtain ⟨y,d,ds,j,dj,rfl,hx,hy,sd,cd,hj,hje,M8,hz,q⟩:=h
 cases rxs with
 |cons ry rt =>
  rename_i uy ut
  cases rt;obtain ⟨as,r1⟩:=Dp.reads I _ x v hx rx;obtain ⟨bs,r2⟩:=Dp.reads I d y uy hy ry
  cases r1 with
  |list h1 h2 h3 h4 =>
   rename_i a o vs n Y8;obtain ⟨cls,dd,data,sl⟩:=o;simp only at h2 h3;subst h2 h3;have abg:=depth_of_shaped sd;have key:=SeqAt.readsAll_map ds _ _ cd h4;have hl:vs.size=ds.length:=by
    have:=congrArg List.length key;simpa using this
   have Zw:j<vs.size:=by rw [hl];exact (List.getElem?_eq_some_iff.mp hj).1
   have at_:∀(m:Nat) (hm:m<vs.size) (dm:PyData),ds[m]?=some dm→SeqAt.readOf s.heap vs[m]=dm:=fun m hm dm e=>by
    rw [←key,List.getElem?_map] at e;have e2:vs.toList[m]?=some vs[m]:=by simp [hm]
    rw [e2] at e;exact Option.some.inj e
   refine call_meets PySem.F.slot_list_index ⟨_,h1,rfl⟩ PySem.F.entry_list_index (PySem.F.args_list_index_2 _ _)
    (SeqAt.list_indexAt a vs n dd sl uy (fun z=>PyData.eqv (SeqAt.readOf s.heap z) d) j Zw (by omega) ?_ ?_) ⟨h1,SeqAt.items_eqAt h4 r2 cd (SeqAt.canLay_of_shaped sd) (by omega),?_⟩
   ·show PyData.eqv (SeqAt.readOf s.heap vs[j]) d=true;rw [at_ j Zw dj hj];exact hje
   ·intro m hm hmj;have YN:m<ds.length:=by rw [←hl];exact hm
    show PyData.eqv (SeqAt.readOf s.heap vs[m]) d=false;rw [at_ m hm _ (List.getElem?_eq_getElem YN)];exact M8 m _ hmj (List.getElem?_eq_getElem YN)
   ·exact ⟨.int (j:Nat),H,I.tok _,⟨_,rfl⟩,q⟩
theorem DT (l b:Addr) (xs ys:Array Value) (n n2:Nat) (d2:Option Addr) (TX:Array (Option Value)) (q0:¬(!xs.isEmpty&&Builtin.List.listTooLong (xs.size+ys.size))=true) (q1:xs.size≤sizeLine) (q2:xs.size+ys.size≤sizeLine+1) :
  Meets (Builtin.«list.extend» ⟨[.ref l,.ref b],[]⟩) (fun _ R s=>s.heap.get? l=some { cls:= .type "list",dict:=none,data:= .seq xs n,slots:= #[] }∧s.heap.get? b=some { cls:= .type "tuple",dict:=d2,data:= .seq ys n2,slots:=TX }∧R (.ok (.ret Value.none)) { s with heap:=s.heap.update l (Obj.mapSeq fun z=>z++ys),toks:=s.toks }) :=
 .of_wp fun P w A R s h=>by
  obtain ⟨hp,g,d,tk,os⟩:=s;obtain ⟨h1,h2,h3⟩:=h;have k1:=AutoSeq1.idx_int;have k2:=AutoSeq1.sub_tuple_tuple;have k3:=AutoSeq1.sub_list_list;have k4:=AutoSeq1.sub_tuple_list;have k5:=AutoSeq1.sub_list_tuple;have k6:(xs++ys).size≤sizeLine+1:=by
   rw [Array.size_append];exact q2
  wp_walk using (wpAny_updateSeq h1 rfl (hz:=q1) (_hz':=k6)),AutoSeq1.wpAny_loadPart' h1,AutoSeq1.wpAny_loadPart' h2;exact ⟨_,rfl,h3⟩
def Hg (K:PySem.W.Frag):V→List V→Hp→VK→Prop:=fun x vs H Q=>∃l b xs zs,x=.ref l∧vs=[.ref b]∧H l=some (.lst xs)∧n6 K H b zs∧xs.length+zs.length≤sizeLine∧Q .de (upd H l (.lst (xs++zs)))
theorem CQ:YF X "list.extend" (Hg X.K):=by
 intro pins s σ H x vs v us Q I rx rv h;obtain ⟨l,b,xs,zs,rfl,rfl,hH,hB,hz,q⟩:=h
 cases rx;obtain ⟨u,rfl,ru⟩:=rv.one
 cases ru;obtain ⟨z,bI,n,r,hl,e⟩:=I.Mr hH;obtain ⟨uI,r2,⟨⟨c2,d2,t2,TX⟩,e2,YY,n2,hd2⟩,Hc⟩:=I.tuple hB;simp only at YY hd2;subst YY hd2;have WJ:=r2.length;have hsz:bI.toArray.size+uI.toArray.size≤sizeLine:=by rw [List.size_toArray,List.size_toArray];omega
 have Oo:¬(!bI.toArray.isEmpty&&Builtin.List.listTooLong (bI.toArray.size+uI.toArray.size))=true:=by
  rw [HF hsz,Bool.and_false];exact Bool.false_ne_true
 refine call_meets F.slot_list_extend ⟨_,e,rfl⟩ F.entry_list_extend (F.args_list_extend_2 _ _)
  (DT l b bI.toArray uI.toArray n n2 d2 TX Oo (by rw [List.size_toArray];omega) (by omega)) ⟨e,e2,?_⟩
 refine ⟨.de,_,I.SG (its':=bI++uI) hH e (by simp) (r.append r2) ?_,rfl,q⟩;rw [List.length_append];omega
def ZS (K:PySem.W.Frag) (tl:TE):TI:=fun σ H R=>tl σ H fun x H1=>∃a,x=.ref a∧(∃xs,H1 a=some (.tup xs))∧R (Ug K a) H1
theorem Ux {K:PySem.W.Frag} {tl:TE} {σ:L2.St} {H:Hp} {R:It→Hp→Prop}:ZS K tl σ H R=(tl σ H fun x H1=>∃a,x=.ref a∧(∃xs,H1 a=some (.tup xs))∧R (Ug K a) H1):=rfl
def YG (K:PySem.W.Frag) (tl:TE):TI:=fun σ H R=>tl σ H fun x H1=>∃a,x=.ref a∧(((∃xs,H1 a=some (.lst xs))∧R (Tn K a) H1)∨((∃xs,H1 a=some (.tup xs))∧R (Ug K a) H1))
theorem Us {K:PySem.W.Frag} {tl:TE} {σ:L2.St} {H:Hp} {R:It→Hp→Prop}:YG K tl σ H R=(tl σ H fun x H1=>∃a,x=.ref a∧(((∃xs,H1 a=some (.lst xs))∧R (Tn K a) H1)∨((∃xs,H1 a=some (.tup xs))∧R (Ug K a) H1))):=rfl
theorem Oa {tg l:Expr} {tl:TE} (hl:PE X l tl):PI X tg l (ZS X.K tl):=by
 intro pins s σ H R I h;refine fm (hl pins s σ H _ I h) fun v s1 z1=>?_;obtain ⟨x,H1,I1,r1,q1⟩:=z1;obtain ⟨a,e,⟨xs,Ya⟩,q⟩:=q1;subst e;have hq:n6 X.K H1 a xs:= .of Ya
 cases r1;obtain ⟨bI,rv,p,hz⟩:=I1.tuple hq;refine wpAny_pyIter_tuple (show s1.heap.IsTuple a bI.toArray from p) ?_
 refine ⟨s1.heap.objs.size,[s1.heap.objs.size],_,_,H1,rfl,I1.kept (t':=s1.toks) fun b o e=>Heap.get?_push_of_some _ e,Cg a _,⟨_,Heap.get?_push_size _ rfl,rfl,rfl⟩,fun b hb=>?_,q⟩;have e:b=s1.heap.objs.size:=by simpa using hb
 subst e;exact I1.Fw (Nat.le_refl _) (I1.cZ.fresh (Nat.le_refl _))
theorem Vg {tg l:Expr} {tl:TE} (hl:PE X l tl):PI X tg l (YG X.K tl):=by
 intro pins s σ H R I h;refine fm (hl pins s σ H _ I h) fun v s1 z1=>?_;obtain ⟨x,H1,I1,r1,q1⟩:=z1;obtain ⟨a,e,q1⟩:=q1;subst e
 cases r1;have fp:∀b∈[s1.heap.objs.size],zD X pins H1 b:=fun b hb=>by
  have e:b=s1.heap.objs.size:=by simpa using hb
  subst e;exact I1.Fw (Nat.le_refl _) (I1.cZ.fresh (Nat.le_refl _))
 rcases q1 with ⟨⟨xs,hq⟩,q⟩|⟨⟨xs,hq⟩,q⟩
 ·obtain ⟨bI,rv,p,hz⟩:=I1.list (.of hq);refine wpAny_pyIter_list p.isList ?_;exact ⟨_,_,_,_,H1,rfl,I1.kept (t':=s1.toks) fun b o e=>Heap.get?_push_of_some _ e,EZ a _,⟨_,Heap.get?_push_size _ rfl,rfl,rfl⟩,fp,q⟩
 ·obtain ⟨bI,rv,p,hz⟩:=I1.tuple (.of hq);refine wpAny_pyIter_tuple (show s1.heap.IsTuple a bI.toArray from p) ?_
  exact ⟨_,_,_,_,H1,rfl,I1.kept (t':=s1.toks) fun b o e=>Heap.get?_push_of_some _ e,Cg a _,⟨_,Heap.get?_push_size _ rfl,rfl,rfl⟩,fp,q⟩
end
end L2
end
namespace Rp
open PySem PySem.Spec PyProof.Rows L2 Pg
open Vblaai (W Table minW addW at_ least lessW maxW Net timeOf Form Times isStep isName within boundText doneAt Nature size bit Desk isDigit idleFrom onSure reduced isNature Play wRow MOST withLimit searchFrom nums listRow isLetter onPlay Limit onTwo ringed keepsOne ours takeLines allDone)
variable {P:Program} {w:World} {K:PySem.W.Frag} {mg:Str→Option Value} {base:Heap}
local macro_rules | `(‹$x›) => `(($x).mono (by decide))
local macro_rules | `(tactic| right) => `(tactic| exists and_true)
local macro_rules | `(tactic| exists $ts,*) => `(tactic| wp_walk using trivial, L2.Ux, L2.Us, $ts,*)
theorem QT {p:Prop} [Decidable p] {Q:VK} {a b:Bool} {H:Hp}:(if p then Q (.bl a) H else Q (.bl b) H)=Q (.bl (if p then a else b)) H:=by split<;>rfl
theorem QR {Q:VK} {a b:Bool} {H:Hp} (e:a=b) (h:Q (.bl b) H):Q (.bl a) H:=by rw [e];exact h
def ee (H:Hp) (v:V) (w:List Nat):Prop:=∃a,v=.ref a∧H a=some (.tup (bg w))
theorem ee.same {H H':Hp} {v:V} {w:List Nat} (h:ee H v w) (s:ax H H'):ee H' v w:=by
 obtain ⟨a,e,h⟩:=h;exact ⟨a,e,s _ _ h⟩
theorem ee.upd {H:Hp} {v:V} {w:List Nat} {p:Addr} {xs:List V} {o:HO} (h:ee H v w) (hp:H p=some (.lst xs)):ee (L2.upd H p o) v w:=by
 obtain ⟨a,e,h⟩:=h;refine ⟨a,e,?_⟩;rw [aF (pO h hp (by intro z;cases z))];exact h
theorem bb (w:List Nat):(bg w).length=w.length:=List.length_map _
theorem pk {w:List Nat} {i:Nat} {x:V} (h:(bg w)[i]?=some x):∃c,w[i]?=some c∧x=aM c:=jN h
def cy (H:Hp) (b:Addr) (ws:List (List Nat)):Prop:=∃ps,H b=some (.lst ps)∧ig (ee H) ps ws
theorem cy.same {H H':Hp} {b:Addr} {ws:List (List Nat)} (h:cy H b ws) (s:ax H H'):cy H' b ws:=by
 obtain ⟨ps,h1,h2⟩:=h;exact ⟨ps,s _ _ h1,h2.mono fun _ _ r=>r.same s⟩
def F2 (_:Txt K mg):Sp:=m7 fun x H Q=>∃c:Nat,x=aM c∧Q (.bl (isLetter c)) H
theorem xP (T:Txt K mg):aU P w K mg base cI 1 T.fR.f T.fR.fd ["byte"] (F2 T):=by
 refine T.fR.fn.n4 GU fun bJ A outer s H x Q E hr h=>?_;obtain ⟨c,rfl,k⟩:=h;refine ⟨_,(ah (au (IX (nU ia ia aI (pv 0) aI) (gA (nU ia ia aI (pv 0) aI))))),?_⟩;right;simp only [QT];refine QR ?_ k;unfold isLetter
 (repeat' split)<;>(rw [Bool.eq_iff_iff];simp only [Bool.or_eq_true,Bool.and_eq_true,decide_eq_true_eq,true_iff,false_iff,Bool.false_eq_true];omega)
def HX (_:Txt K mg):Sp:=m7 fun x H Q=>∃c:Nat,x=aM c∧Q (.bl (isDigit c)) H
theorem Az (T:Txt K mg):aU P w K mg base cI 1 T.gU.f T.gU.fd ["byte"] (HX T):=by
 refine T.gU.fn.n4 Iw fun bJ A outer s H x Q E hr h=>?_;obtain ⟨c,rfl,k⟩:=h;refine ⟨_,(ah (au (nU ia ia (kI T.KN) (pv 0) (kI T.TB)))),?_⟩;right;simp only [QT];refine QR ?_ k;unfold isDigit
 (repeat' split)<;>(rw [Bool.eq_iff_iff];simp only [Bool.or_eq_true,Bool.and_eq_true,decide_eq_true_eq,true_iff,false_iff,Bool.false_eq_true];omega)
inductive J4I (T:Txt K mg) (x:V) (H:Hp) (Q:VK):Prop
 |mk:∀w,ee H x w→w.length≤2000→(∀H',ax H H'→Q (.bl (isName w)) H')→J4I T x H Q
def J4 (T:Txt K mg):Sp:=m7 fun x H Q=>J4I T x H Q
theorem we (T:Txt K mg):aU P w K mg base cI 2 T.fK.f T.fK.fd ["word"] (J4 T):=by
 refine T.fK.fn.n4 vF fun bJ A outer s H x Q E hr h=>?_;obtain ⟨w,⟨a,rfl,ha⟩,hz,k⟩:=h;refine ⟨_,(ae (aY (gu (sR ia ia aI (bc nY rfl T.eM eJ (aa (pv 0) ag)) (kI T.Ct))) (ah (au kh)) aJ) (ah (au (gB (aD (xP T) ‹hr› rfl T.fR.g T.fR.fn.kp T.fR.b .nil aB (aa (aR fz (pv 0) aI (fun _ _=>rfl)) ag)) (gA (bc (all2 rfl) rfl T.zp za (aa (i7 rfl vF.nd (Oa (pv 0)) (bL (show jq ["word","byte"] (aq zk) _ [("byte",1)]=true from by decide+kernel)) (fun _ _ _ _ _=>(aK (i:=1) vF.nd rfl (Or.inl rfl))) (fun _ _ _ _ _=>eY) (fun _ _ _ _ _=>(IX (aD (xP T) ‹hr› rfl T.fR.g T.fR.fn.kp T.fR.b .nil aB (aa (pv 1) ag)) (gA (aD (Az T) ‹hr› rfl T.gU.g T.gU.fn.kp T.gU.b .nil aB (aa (pv 1) ag)))))) ag))))))),?_⟩
 exists ha;rw [bb];unfold isName at k;by_cases c1:1≤w.length
 ·rw [if_pos (by omega)];by_cases c2:w.length≤8
  ·rw [if_pos (by omega)]
   cases w with
   |nil=>simp at c1
   |cons c0 w0 =>
    exists (at_of (j:=0) rfl rfl:iz (bg (c0::w0)) 0=some (aM c0));refine ⟨c0,rfl,?_⟩;right;simp only [c1,c2,decide_true,Bool.true_and,List.head?_cons,Option.any_some] at k
    cases c3:isLetter c0 with
    |false =>
     rw [c3] at k;exact k H (ax.refl _)
    |true =>
     rw [c3] at k;rw [if_pos rfl];refine ⟨⟨_,ha⟩,cW (yH (bg (c0::w0))) (fun i=>some (.bl (((c0::w0).map fun c=>isLetter c||isDigit c).getD i false))) (fun H' s=>.of (s _ _ ha)) (fun i x H' kk hi s hx kf=>?_) (by rw [bb];exact Nat.le_trans c2 (by decide)) (fun D H' hD s hd=>?_)⟩
     ·obtain ⟨c,ec,rfl⟩:=pk hx;rw [b9 (x:=isLetter c||isDigit c) (by rw [List.getElem?_map,ec];rfl)] at kf;right;refine ⟨c,rfl,?_⟩;right
      cases c4:isLetter c with
      |true =>
       rw [c4] at kf;exact kf H' (ax.refl _)
      |false =>
       rw [c4] at kf;exact ⟨c,rfl,kf H' (ax.refl _)⟩
     ·refine ph ((c0::w0).map fun c=>isLetter c||isDigit c) hd ?_ ?_
      ·rw [filterMap_some,bb, ←List.length_map (f:=fun c=>isLetter c||isDigit c),cB]
      ·rw [List.all_map];exact k H' s
  ·rw [if_neg (by omega)];rw [decide_eq_false c2,Bool.false_and,Bool.and_false] at k;exact k H (ax.refl _)
 ·rw [if_neg (by omega)];rw [decide_eq_false c1,Bool.false_and] at k;exact k H (ax.refl _)
def jO (w:List Nat):PyData:= .tuple (w.map fun (n:Nat)=>.int (n:Int))
theorem Py (a b:Nat):PyData.eqv (.int (a:Int)) (.int (b:Int))=decide (a=b):=by
 show ((a:Int)==(b:Int))=_;rw [Bool.beq_eq_decide_eq]
 congr 1
 exact propext ⟨fun h=>by omega,fun h=>by omega⟩
theorem jx (a b:List Nat):PyData.eqv (jO a) (jO b)=decide (a=b):=qJ Py a b
theorem cO (w:List Nat):SeqAt.shaped (jO w)=true:=by
 unfold SeqAt.shaped jO;have h1:PyData.canLay0 (.tuple (w.map fun (n:Nat)=>.int (n:Int)))=true:=by rw [PyData.canLay0];exact nG (fun _=>by simp [PyData.canLay0]) w
 have h2:PyData.depth (.tuple (w.map fun (n:Nat)=>.int (n:Int)))≤64:=by
  rw [PyData.depth];have:=uw (f:=fun n:Nat=>PyData.int (n:Int)) (d:=0) (fun _=>by simp [PyData.depth]) w;omega
 rw [h1,decide_eq_true h2];rfl
theorem IW {H:Hp}:∀w:List Nat,tL K H (bg w) (w.map fun (n:Nat)=>.int (n:Int))
 |[]=>.nil
 |c::w=>.cons (.int c) (IW w)
theorem jX {H:Hp} {a:Addr} {w:List Nat} (h:n6 K H a (bg w)):Dp K H (.ref a) (jO w):= .tup h (IW w)
theorem vp (T:Txt K mg) {H:Hp}:n6 K H T.iG.a (bg [45]):=T.iG.sq (by decide)
theorem JM (w:List Nat) (c:Nat):Mt.fe (w++[c])=10*Mt.fe w+(c - 48):=by
 unfold Mt.fe;rw [List.foldl_append];rfl
inductive AbI (T:Txt K mg) (x:V) (H:Hp) (Q:VK):Prop
 |mk:∀w,ee H x w→(w=[45]∨w.all isDigit=true)→(∀H',ax H H'→Q (oV (Mt.dA w)) H')→AbI T x H Q
def Ab (T:Txt K mg):Sp:=m7 fun x H Q=>AbI T x H Q
theorem lV (T:Txt K mg):aU P w K mg base cI 1 T.cp.f T.cp.fd ["word"] (Ab T):=by
 refine T.cp.fn.n4 oz fun bJ A outer s H x Q E hr h=>?_;obtain ⟨w,⟨a,rfl,ha⟩,hw,k⟩:=h;refine ⟨_,(ae (aY (aE (y9 hr.units) (pv 0) (kT T.iG) (aG _)) (ah (au aS)) aJ) (ae (aN (i:=1) oz.nd rfl (Or.inl rfl) aI) (ae (cJ PassesOwn.never rfl (Oa (pv 0)) (aK (i:=2) oz.nd rfl (Or.inl rfl)) (ah (aN (i:=1) oz.nd rfl (Or.inl rfl) (cG vt (cG fY (cG RB aI (pv 1)) (pv 2)) (kI T.KN))))) (ah (au (pv 1)))))),?_⟩;right;refine ⟨_,_,jX (.of ha),jX (vp T),cO _,cO _,?_⟩;rw [jx];exists ha;unfold Mt.dA at k;by_cases c:w=[45]
 ·rw [if_pos c];rw [if_pos c] at k;exact k H (ax.refl _)
 ·rw [if_neg c];rw [if_neg c] at k;have hd:=hw.resolve_left c;refine loop (yH (bg w)) (fun i σ H'=>∃v,σ=[some (.ref a),some (aM (Mt.fe (w.take i))),v]∧ax H H') ⟨none,rfl,ax.refl H⟩ (fun i σ H' z1=>by obtain ⟨_,_,s⟩:=z1;exact  .of (s _ _ ha)) ?_ ?_
  ·intro i x σ H1 H2 N hi z1 s2 hx kN;obtain ⟨v,rfl,s1⟩:=z1;obtain ⟨c,ec,rfl⟩:=pk hx;have hc:48≤c:=by
    have:=List.all_eq_true.mp hd c (List.mem_of_getElem? ec);unfold isDigit at this;simp only [Bool.and_eq_true,decide_eq_true_eq] at this;exact this.1
   right;refine ⟨.inl ⟨by decide,by decide⟩,kN _ _ ⟨some (aM c),?_,s1.trans s2⟩⟩;have e:10*(Mt.fe (w.take i):Int)+(c:Int) - 48=((10*Mt.fe (w.take i)+(c - 48):Nat):Int):=by omega
   rw [take_snoc ec,JM,e]
  ·intro σ H1 z1;obtain ⟨v,rfl,s1⟩:=z1;right;rw [bb,List.take_length];exact k H1 s1
def Hf (_:Txt K mg):Sp:=m7 fun x H Q=>∃w,ee H x w∧∀H',ax H H'→Q (.bl (Mt.bV w)) H'
theorem sF (T:Txt K mg):aU P w K mg base cI 2 T.eK.f T.eK.fd ["word"] (Hf T):=by
 refine T.eK.fn.n4 tW fun bJ A outer s H x Q E hr h=>?_;obtain ⟨w,hw,k⟩:=h;obtain ⟨a,rfl,ha⟩:=id hw;refine ⟨_,(ae (aY (PW.pt (rC (gu (sR ia ia aI (bc nY rfl T.eM eJ (aa (pv 0) ag)) (kI T.DS))) (oZ (gu (bZ (bc (all2 rfl) rfl T.zp za (aa (i7 rfl tW.nd (Oa (pv 0)) (bL (show jq ["word","byte"] (aq vP) _ [("byte",1)]=true from by decide+kernel)) (fun _ _ _ _ _=>(aK (i:=1) tW.nd rfl (Or.inl rfl))) (fun _ _ _ _ _=>eY) (fun _ _ _ _ _=>(aD (Az T) ‹hr› rfl T.gU.g T.gU.fn.kp T.gU.b .nil aB (aa (pv 1) ag)))) ag))))))) (ah (au kh)) aJ) (ae (aY (PW.pt (jb (aE K5 (bc nY rfl T.eM eJ (aa (pv 0) ag)) aI (aG _)) (jm (aE eF (aR fz (pv 0) aI (fun _ _=>rfl)) (kI T.KN) (aG _))))) (ah (au kh)) aJ) (ah (au (bO ia (aD (lV T) ‹hr› rfl T.cp.g T.cp.fn.kp T.cp.b .nil aB (aa (pv 0) ag)) (kI T.GI) (aG _)))))),?_⟩
 exists ha;rw [bb];unfold Mt.bV at k;by_cases c1:1≤w.length
 ·rw [if_pos (by omega)];by_cases c2:w.length≤4
  ·rw [if_pos (by omega)];simp only [c1,c2,decide_true,Bool.true_and] at k;refine cW (yH (bg w)) (fun i=>some (.bl ((w.map isDigit).getD i false))) (fun H' s=>.of (s _ _ ha)) (fun i x H' kk hi s hx kf=>?_) (by rw [bb];exact Nat.le_trans c2 (by decide)) (fun D H' hD s hd=>?_)
   ·obtain ⟨c,ec,rfl⟩:=pk hx;rw [b9 (x:=isDigit c) (by rw [List.getElem?_map,ec];rfl)] at kf;right;exact ⟨c,rfl,kf H' (ax.refl _)⟩
   ·refine ph (w.map isDigit) hd ?_ ?_
    ·rw [filterMap_some,bb, ←List.length_map (f:=isDigit),cB]
    ·rw [List.all_map];have Ms:=s _ _ ha;rw [show (w.all (id ∘ isDigit))=w.all isDigit from rfl]
     cases c3:w.all isDigit with
     |false =>
      rw [c3] at k;right;exact k H' s
     |true =>
      rw [c3] at k;exists Ms;rw [bb]
      cases w with
      |nil=>simp at c1
      |cons c0 w0 =>
       have e0:iz (bg (c0::w0)) 0=some (aM c0):=at_of (j:=0) rfl rfl;have nw:(c0::w0)≠[45]:=fun z=>by
        rw [z] at c3;exact absurd c3 (by decide)
       have tk:Mt.dA (c0::w0)=some (Mt.fe (c0::w0)):=by
        unfold Mt.dA;rw [if_neg nw]
       have go:(decide (1<(c0::w0).length)&&decide ((c0::w0).head?=some 48))=false→Ab T [V.ref a] H' (c7 (QI fun i j=>V.bl (decide (i≤j))) (tC (V.int 1000)) [some (V.ref a),none] Q) E0:=fun hn=>by
        rw [hn] at k;refine ⟨_,⟨a,rfl,Ms⟩,.inr c3,fun H2 s2=>?_⟩;rw [tk];refine ⟨_,_,rfl,rfl,?_⟩;show Q (V.bl (decide ((Mt.fe (c0::w0):Int)≤1000))) H2;have e:decide ((Mt.fe (c0::w0):Int)≤1000)=decide (Mt.fe (c0::w0)≤1000):=by congr 1;exact propext ⟨fun h=>by omega,fun h=>by omega⟩
        rw [e];exact k H2 (s.trans s2)
       by_cases c5:1<(c0::w0).length
       ·rw [if_pos (by omega)];exists e0;by_cases c6:c0=48
        ·rw [if_pos (by omega)];rw [decide_eq_true c5,List.head?_cons,c6] at k;simpa using k H' s
        ·rw [if_neg (by omega)];refine go ?_;rw [List.head?_cons,decide_eq_false (p:=some c0=some 48) (fun z=>c6 (Option.some.inj z)),Bool.and_false]
       ·rw [if_neg (by omega)];refine go ?_;rw [decide_eq_false c5,Bool.false_and]
  ·rw [if_neg (by omega)];rw [decide_eq_false c2] at k;simpa using k H (ax.refl _)
 ·rw [if_neg (by omega)];rw [decide_eq_false c1] at k;simpa using k H (ax.refl _)
def qg (_:Txt K mg):Sp:=m7 fun x H Q=>∃w,ee H x w∧∀H',ax H H'→Q (.bl (Mt.aX w)) H'
theorem ka (T:Txt K mg):aU P w K mg base cI 3 T.bE.f T.bE.fd ["word"] (qg T):=by
 refine T.bE.fn.n4 qQ fun bJ A outer s H x Q E hr h=>?_;obtain ⟨w,hw,k⟩:=h;obtain ⟨a,rfl,ha⟩:=id hw;refine ⟨_,(ah (au (IX (bO (y9 hr.units) (pv 0) (kT T.iG) (aG _)) (gA (aD (sF T) ‹hr› rfl T.eK.g T.eK.fn.kp T.eK.b .nil aB (aa (pv 0) ag)))))),?_⟩;right;refine ⟨_,_,jX (.of ha),jX (vp T),cO _,cO _,?_⟩;rw [jx];right;unfold Mt.aX at k;by_cases c:w=[45]
 ·rw [if_pos c];rw [decide_eq_true c,Bool.true_or] at k;exact k H (ax.refl _)
 ·rw [if_neg c];rw [decide_eq_false c,Bool.false_or] at k;exact ⟨w,hw,k⟩
inductive HnI (T:Txt K mg) (x y:V) (H:Hp) (Q:VK):Prop
 |mk:∀a w m,x=.ref a→(H a=some (.lst (bg w))∨H a=some (.tup (bg w)))→y=aM m→w.length≤100000→(∀b H',H b=none→ax H H'→cy H' b (Mt.fG m w)→Q (.ref b) H')→HnI T x y H Q
def Hn (T:Txt K mg):Sp:=rX fun x y H Q=>HnI T x y H Q
theorem AG (T:Txt K mg):aU P w K mg base cI 1 T.gP.f T.gP.fd ["row","mark"] (Hn T):=by
 refine T.gP.fn.sE lI fun bJ A outer s H x y Q E hr h=>?_;obtain ⟨a,w,m,rfl,ha,rfl,hz,k⟩:=h;refine ⟨_,(ae (aN (i:=2) lI.nd rfl (Or.inl rfl) (a9 ag)) (ae (aN (i:=3) lI.nd rfl (Or.inl rfl) (a9 ag)) (ae (cJ PassesOwn.never rfl (Vg (pv 0)) (aK (i:=4) lI.nd rfl (Or.inl rfl)) (ah (aY (aE eF (pv 4) (pv 1) (aG _)) (ae (b8 (d6 PySem.F.slot_list_append PySem.F.type_list_append dw (pv 2) (aa (ik Fi rfl T.xF yk (aa (pv 3) ag)) ag))) (ah (aN (i:=3) lI.nd rfl (Or.inl rfl) (a9 ag)))) (ah (b8 (d6 PySem.F.slot_list_append PySem.F.type_list_append dw (pv 3) (aa (pv 4) ag))))))) (ae (b8 (d6 PySem.F.slot_list_append PySem.F.type_list_append dw (pv 2) (aa (ik Fi rfl T.xF yk (aa (pv 3) ag)) ag))) (ah (au (pv 2))))))),?_⟩;right;refine ⟨by decide,fun p hp=>?_⟩;obtain ⟨H1,uT,s1,h1⟩:=dQ hp (.lst []);rw [uT];refine ⟨by decide,fun q hq=>?_⟩;obtain ⟨H2,Aw,s2,h2⟩:=dQ hq (.lst []);rw [Aw];have M7:p≠q:=aC h1 hq;have QV:=s2 _ _ h1;have MX:=s1.trans s2;rcases ha with ha|ha
 ·refine .inl ⟨⟨_,MX _ _ ha⟩,loop (bp (bg w)) (fun i σ H'=>∃v q pv,σ=[some (.ref a),some (aM m),some (.ref p),some (.ref q),v]∧ax H H'∧H q=none∧p≠q∧H' p=some (.lst pv)∧ig (ee H') pv (Mt.dz m (w.take i)).1∧H' q=some (.lst (bg (Mt.dz m (w.take i)).2))∧pv.length≤i∧(Mt.dz m (w.take i)).2.length≤i)
   ⟨none,q,[],rfl,MX,s1.free hq,M7,QV,ig.nil,h2,Nat.le_refl _,Nat.le_refl _⟩ (fun i σ H' z1=>by obtain ⟨_,_,_,_,s,_⟩:=z1;exact  .of (s _ _ ha)) ?_ ?_⟩
  ·intro i x σ H3 H4 N hi z1 s4 hx kN;obtain ⟨v,q,pv,rfl,s3,hq,M7,G2,pw,Mx,l1,l2⟩:=z1;obtain ⟨c,ec,rfl⟩:=pk hx;rw [bb] at hi;have r9:=s3.trans s4;have IM:=s4 _ _ G2;have Vq:=s4 _ _ Mx;have X0:pv.length<sizeLine:=Nat.lt_of_le_of_lt l1 (Nat.lt_of_lt_of_le hi (Nat.le_trans hz (by decide)));have Hc:(bg (Mt.dz m (w.take i)).2).length<sizeLine:=by
    rw [bb];exact Nat.lt_of_le_of_lt l2 (Nat.lt_of_lt_of_le hi (Nat.le_trans hz (by decide)))
   have st:Mt.dz m (w.take (i+1))=Mt.cf m (Mt.dz m (w.take i)) c:=by rw [take_snoc ec,Mt.wD]
   exists IM,Vq;by_cases cm:c=m
   ·rw [if_pos (by omega)];intro t ht;obtain ⟨H5,Hb,s5,h5⟩:=dQ ht (.tup (bg (Mt.dz m (w.take i)).2));rw [Hb];have Bh:=s5 _ _ IM;exists Bh;refine ⟨X0,by decide,fun r hr=>kN _ _ ⟨_,r,pv++[.ref t],rfl,?_,?_,?_,?_,?_,?_,?_,?_⟩⟩
    ·exact ax.iA (ax.iA (r9.trans s5) hp) ((ax.iA (r9.trans s5) hp).free hr)
    ·exact (ax.iA (r9.trans s5) hp).free hr
    ·exact fun z=>by rw [←z,aA] at hr;cases hr
    ·rw [aF (fun z=>by rw [←z,aA] at hr;cases hr),aA]
    ·rw [st];unfold Mt.cf;rw [if_pos cm];refine ig.snoc (pw.mono fun v w hw=>(((hw.same s4).same s5).upd Bh).same (ax.upd hr)) ?_;exact (ee.upd ⟨t,rfl,h5⟩ Bh).same (ax.upd hr)
    ·rw [aA,st];unfold Mt.cf;rw [if_pos cm];rfl
    ·rw [List.length_append];exact Nat.succ_le_succ l1
    ·rw [st];unfold Mt.cf;rw [if_pos cm];exact Nat.zero_le _
   ·rw [if_neg (by omega)];refine ⟨Hc,kN _ _ ⟨_,q,pv,rfl,ax.iA r9 hq,hq,M7,?_,?_,?_,Nat.le_succ_of_le l1,?_⟩⟩
    ·rw [aF M7];exact IM
    ·rw [st];unfold Mt.cf;rw [if_neg cm];exact pw.mono fun v w hw=>(hw.same s4).upd Vq
    ·rw [aA,st];unfold Mt.cf bg;rw [if_neg cm,List.map_append];rfl
    ·rw [st];unfold Mt.cf;rw [if_neg cm,List.length_append];exact Nat.succ_le_succ l2
  ·intro σ H3 z1;obtain ⟨v,q,pv,rfl,s3,hq,M7,G2,pw,Mx,l1,l2⟩:=z1;exists G2,Mx;intro t ht;obtain ⟨H5,Hb,s5,h5⟩:=dQ ht (.tup (bg (Mt.dz m (w.take (bg w).length)).2));rw [Hb];have Bh:=s5 _ _ G2;exists Bh;rw [bb] at l1;refine ⟨Nat.lt_of_le_of_lt l1 (Nat.lt_of_le_of_lt hz (by decide)),k p _ hp (ax.iA (s3.trans s5) hp) ⟨_,aA,?_⟩⟩;rw [←Mt.z8];rw [bb,List.take_length] at pw h5;exact ig.snoc (pw.mono fun v w hw=>(hw.same s5).upd Bh) (ee.upd ⟨t,rfl,h5⟩ Bh)
 ·refine .inr ⟨⟨_,MX _ _ ha⟩,loop (yH (bg w)) (fun i σ H'=>∃v q pv,σ=[some (.ref a),some (aM m),some (.ref p),some (.ref q),v]∧ax H H'∧H q=none∧p≠q∧H' p=some (.lst pv)∧ig (ee H') pv (Mt.dz m (w.take i)).1∧H' q=some (.lst (bg (Mt.dz m (w.take i)).2))∧pv.length≤i∧(Mt.dz m (w.take i)).2.length≤i)
   ⟨none,q,[],rfl,MX,s1.free hq,M7,QV,ig.nil,h2,Nat.le_refl _,Nat.le_refl _⟩ (fun i σ H' z1=>by obtain ⟨_,_,_,_,s,_⟩:=z1;exact  .of (s _ _ ha)) ?_ ?_⟩
  ·intro i x σ H3 H4 N hi z1 s4 hx kN;obtain ⟨v,q,pv,rfl,s3,hq,M7,G2,pw,Mx,l1,l2⟩:=z1;obtain ⟨c,ec,rfl⟩:=pk hx;rw [bb] at hi;have r9:=s3.trans s4;have IM:=s4 _ _ G2;have Vq:=s4 _ _ Mx;have X0:pv.length<sizeLine:=Nat.lt_of_le_of_lt l1 (Nat.lt_of_lt_of_le hi (Nat.le_trans hz (by decide)));have Hc:(bg (Mt.dz m (w.take i)).2).length<sizeLine:=by
    rw [bb];exact Nat.lt_of_le_of_lt l2 (Nat.lt_of_lt_of_le hi (Nat.le_trans hz (by decide)))
   have st:Mt.dz m (w.take (i+1))=Mt.cf m (Mt.dz m (w.take i)) c:=by rw [take_snoc ec,Mt.wD]
   exists IM,Vq;by_cases cm:c=m
   ·rw [if_pos (by omega)];intro t ht;obtain ⟨H5,Hb,s5,h5⟩:=dQ ht (.tup (bg (Mt.dz m (w.take i)).2));rw [Hb];have Bh:=s5 _ _ IM;exists Bh;refine ⟨X0,by decide,fun r hr=>kN _ _ ⟨_,r,pv++[.ref t],rfl,?_,?_,?_,?_,?_,?_,?_,?_⟩⟩
    ·exact ax.iA (ax.iA (r9.trans s5) hp) ((ax.iA (r9.trans s5) hp).free hr)
    ·exact (ax.iA (r9.trans s5) hp).free hr
    ·exact fun z=>by rw [←z,aA] at hr;cases hr
    ·rw [aF (fun z=>by rw [←z,aA] at hr;cases hr),aA]
    ·rw [st];unfold Mt.cf;rw [if_pos cm];refine ig.snoc (pw.mono fun v w hw=>(((hw.same s4).same s5).upd Bh).same (ax.upd hr)) ?_;exact (ee.upd ⟨t,rfl,h5⟩ Bh).same (ax.upd hr)
    ·rw [aA,st];unfold Mt.cf;rw [if_pos cm];rfl
    ·rw [List.length_append];exact Nat.succ_le_succ l1
    ·rw [st];unfold Mt.cf;rw [if_pos cm];exact Nat.zero_le _
   ·rw [if_neg (by omega)];refine ⟨Hc,kN _ _ ⟨_,q,pv,rfl,ax.iA r9 hq,hq,M7,?_,?_,?_,Nat.le_succ_of_le l1,?_⟩⟩
    ·rw [aF M7];exact IM
    ·rw [st];unfold Mt.cf;rw [if_neg cm];exact pw.mono fun v w hw=>(hw.same s4).upd Vq
    ·rw [aA,st];unfold Mt.cf bg;rw [if_neg cm,List.map_append];rfl
    ·rw [st];unfold Mt.cf;rw [if_neg cm,List.length_append];exact Nat.succ_le_succ l2
  ·intro σ H3 z1;obtain ⟨v,q,pv,rfl,s3,hq,M7,G2,pw,Mx,l1,l2⟩:=z1;exists G2,Mx;intro t ht;obtain ⟨H5,Hb,s5,h5⟩:=dQ ht (.tup (bg (Mt.dz m (w.take (bg w).length)).2));rw [Hb];have Bh:=s5 _ _ G2;exists Bh;rw [bb] at l1;refine ⟨Nat.lt_of_le_of_lt l1 (Nat.lt_of_le_of_lt hz (by decide)),k p _ hp (ax.iA (s3.trans s5) hp) ⟨_,aA,?_⟩⟩;rw [←Mt.z8];rw [bb,List.take_length] at pw h5;exact ig.snoc (pw.mono fun v w hw=>(hw.same s5).upd Bh) (ee.upd ⟨t,rfl,h5⟩ Bh)
theorem yn (x:String):(Str.ofString x).cps.toList=x.toList.map fun c=>c.toNat:=by
 unfold Str.ofString;simp only [List.toList_toArray];exact cpsOfBytes_string x
inductive JyI (T:Txt K mg) (x:V) (H:Hp) (Q:VK):Prop
 |mk:∀o:Option Nat,x=oV o→(∀q∈o,q≤1000)→(∀v H',ax H H'→fI K H' v (boundText o)→Q v H')→JyI T x H Q
def Jy (T:Txt K mg):Sp:=m7 fun x H Q=>JyI T x H Q
theorem BD (T:Txt K mg):aU P w K mg base cI 1 T.iV.f T.iV.fd ["ticks"] (Jy T):=by
 refine T.iV.fn.n4 vB fun bJ A outer s H x Q E hr h=>?_;obtain ⟨o,rfl,hq,k⟩:=h;refine ⟨_,(ae (aY (aE cC (pv 0) aS (aG _)) (ah (au (kT T.iG))) aJ) (ah (au (ik Fi rfl T.xF yk (aa (i7 rfl vB.nd (Tx (ik Gr rfl T.S3 SH (aa (pv 0) ag))) (bL (show jq ["ticks","digit"] (aq zM) _ [("digit",1)]=true from by decide+kernel)) (fun _ _ _ _ _=>(aK (i:=1) vB.nd rfl (Or.inl rfl))) (fun _ _ _ _ _=>eY) (fun _ _ _ _ _=>(bc OE rfl T.RI SI (aa (pv 1) ag)))) ag))))),?_⟩
 cases o with
 |none =>
  exists eU;exact k _ H (ax.refl _) ⟨_,rfl,vp T⟩
 |some q =>
  exists d4;have GR:=hq q rfl;have hl:(Str.ofString (toString (q:Int))).cps.size≤4:=PyProof.Rows.toString_length_le (v:=(q:Int)) (by omega) (by decide) (by omega);refine ⟨Nat.lt_of_le_of_lt (Nat.log2_le_self _) (by omega),_,rfl,cW (OY _) (fun i=>some (aM ((Str.ofString (toString (q:Int))).cps.toList.getD i 0))) (fun _ _=>trivial) (fun i x H' kk hi s hx kf=>?_) (Nat.le_trans hl (by decide)) (fun D H' hD s hd=>?_)⟩
  ·obtain ⟨c,ec,rfl⟩:=hx;rw [b9 (x:=c) (by rw [Array.getElem?_toList];exact ec)] at kf;right;exact ⟨_,rfl,rfl,kf H' (ax.refl _)⟩
  ·exists hd;intro l KL;refine k _ _ (s.trans (ax.upd KL)) ⟨l,rfl,.of ?_⟩;rw [aA,filterMap_some]
   congr 2
   show _=bg (Vblaai.digits q);rw [←Array.length_toList,cB,yn];rfl
theorem Qd (xs:List V) {i j:Nat} (Ml:i≤j) (hj:j≤xs.length):xG xs (some (i:Int)) (some (j:Int))=(xs.drop i).take (j - i):=by
 unfold xG;rw [HT.GO,HT.GO,Nat.min_eq_left hj,Nat.min_eq_left (Nat.le_trans Ml hj)]
theorem IT (xs:List V) (i:Nat):xG xs (some (i:Int)) none=xs.drop i:=by
 unfold xG;rw [HT.GO,HT.OU];by_cases h:i≤xs.length
 ·rw [Nat.min_eq_left h,List.take_of_length_le (by rw [List.length_drop];exact Nat.le_refl _)]
 ·rw [Nat.min_eq_right (by omega),List.drop_of_length_le (Nat.le_refl _),List.drop_of_length_le (by omega),List.take_nil]
def Pd (K:PySem.W.Frag) (H:Hp) (b:Addr) (ws:List (List Nat)):Prop:=∃ps,H b=some (.lst ps)∧ig (fI K H) ps ws
inductive KzI (T:Txt K mg) (x:V) (H:Hp) (Q:VK):Prop
 |mk:∀a w ws,x=.ref a→Pd K H a (w::ws)→(Mt.d7 (w::ws)).length≤100000→(∀b H',H b=none→ax H H'→H' b=some (.lst (bg (Mt.d7 (w::ws))))→Q (.ref b) H')→KzI T x H Q
def Kz (T:Txt K mg):Sp:=m7 fun x H Q=>KzI T x H Q
theorem CG (T:Txt K mg):aU P w K mg base cI 1 T.iZ.f T.iZ.fd ["words"] (Kz T):=by
 refine T.iZ.fn.n4 vS fun bJ A outer s H x Q E hr h=>?_;obtain ⟨a,w,ws,rfl,⟨ps,ha,pw⟩,hz,k⟩:=h;refine ⟨_,(ae (aN (i:=1) vS.nd rfl (Or.inl rfl) (ik yA rfl T.wK wC (aa (aR fz (pv 0) aI (fun _ _=>rfl)) ag))) (ae (cJ PassesOwn.never rfl (fg (xr TX (pv 0) (uC aI) Lq)) (aK (i:=2) vS.nd rfl (Or.inl rfl)) (ae (b8 (d6 PySem.F.slot_list_append PySem.F.type_list_append dw (pv 1) (aa (kI T.Lh) ag))) (ah (b8 (d6 PySem.F.slot_list_extend PySem.F.type_list_extend CQ (pv 1) (aa (pv 2) ag)))))) (ae (b8 (d6 PySem.F.slot_list_append PySem.F.type_list_append dw (pv 1) (aa (kI T.Ca) ag))) (ah (au (pv 1)))))),?_⟩;exists ha;obtain ⟨x0,e0,a0,rfl,h0⟩:=pw.at' (i:=0) (y:=w) rfl;obtain ⟨pr,rfl⟩:∃pr,ps=.ref a0::pr:=by
  cases ps with
  |nil=>cases e0
  |cons z pr=>cases e0;exact ⟨pr,rfl⟩
 have ZY:ig (fI K H) pr ws:=⟨by have:=pw.1;simpa using this,fun i x y e1 e2=>pw.2 (i+1) x y e1 e2⟩;exists (at_of (j:=0) rfl rfl:iz (V.ref a0::pr) 0=some (.ref a0));refine ⟨bg w,.inr h0,fun l hl=>?_⟩;obtain ⟨H1,uT,s1,h1⟩:=dQ hl (.lst (bg w));rw [uT];exists s1 _ _ ha;refine fun p hp=>?_;have e1:xG (V.ref a0::pr) (some 1) none=pr:=IT _ 1;rw [e1];show NS _ _ _ _ _ (upd H1 p (.lst pr));obtain ⟨H2,Aw,s2,h2⟩:=dQ hp (.lst pr);rw [Aw];have ZU:l≠p:=aC h1 hp;have Zz:Mt.d7 (w::ws)=w++ws.flatMap (fun v=>32::v)++[10]:=rfl;rw [Zz,List.length_append] at hz;have part:∀i,(w++(ws.take i).flatMap fun v=>32::v).length≤(w++ws.flatMap fun v=>32::v).length:=fun i=>by
  conv=>rhs;rw [←List.take_append_drop i ws,List.flatMap_append, ←List.append_assoc,List.length_append]
  exact Nat.le_add_right _ _
 refine loop (bp pr) (fun i σ H'=>∃v,σ=[some (.ref a),some (.ref l),v]∧ax H H'∧H' p=some (.lst pr)∧H' l=some (.lst (bg (w++(ws.take i).flatMap fun v=>32::v)))) ⟨none,rfl,s1.trans s2,h2,by rw [List.take_zero,List.flatMap_nil,List.append_nil];exact s2 _ _ h1⟩ (fun i σ H' z1=>by obtain ⟨_,_,_,h,_⟩:=z1;exact  .of h) ?_ ?_
 ·intro i x σ H3 H4 N hi z1 s4 hx kN;obtain ⟨v,rfl,s3,G2,Vx⟩:=z1;obtain ⟨w1,Y3,a1,rfl,hw1⟩:=ZY.at_ hx;have h4l:=s4 _ _ Vx;have r9:=s3.trans s4;exists h4l;have Ow:=part i;have Qh:=part (i+1);rw [take_snoc Y3,List.flatMap_append, ←List.append_assoc,List.length_append] at Qh;simp only [List.flatMap_cons,List.flatMap_nil,List.append_nil,List.length_cons] at Qh;refine ⟨by rw [bb];exact Nat.lt_of_le_of_lt (Nat.le_trans Ow (Nat.le_trans (Nat.le_add_right _ _) hz)) (by decide),?_⟩;refine ⟨l,a1,_,bg w1,rfl,rfl,aA,n6.same (ax.iA r9 hl) hw1,?_,?_⟩
  ·rw [List.length_append,bb,bb,List.length_singleton];exact Nat.le_trans (by omega) (Nat.le_trans (Nat.le_trans (Nat.le_add_right _ _) hz) (by decide))
  ·refine kN _ _ ⟨_,rfl,ax.iA (ax.iA r9 hl) hl,?_,?_⟩
   ·rw [aF (Ne.symm ZU),aF (Ne.symm ZU)];exact s4 _ _ G2
   ·rw [aA,take_snoc Y3,List.flatMap_append];unfold bg;simp only [List.map_append,List.flatMap_cons,List.flatMap_nil,List.append_nil,List.map_cons,List.append_assoc];rfl
 ·intro σ H3 z1;obtain ⟨v,rfl,s3,G2,Vx⟩:=z1;exists Vx;rw [ZY.1,List.take_length,bb];refine ⟨Nat.lt_of_le_of_lt (Nat.le_trans (Nat.le_add_right _ _) hz) (by decide),k l _ hl (ax.iA s3 hl) ?_⟩;rw [aA,Zz];unfold bg;simp only [List.map_append,List.map_cons,List.map_nil];rfl
theorem JD {q:Nat} (h:q≤1000):(Vblaai.digits q).length≤4:=by
 have hl:(Str.ofString (toString (q:Int))).cps.size≤4:=PyProof.Rows.toString_length_le (v:=(q:Int)) (by omega) (by decide) (by omega);rw [←Array.length_toList,yn] at hl;exact hl
theorem cY {o:Option Nat} (h:∀q∈o,q≤1000):(boundText o).length≤4:=by
 cases o with
 |none=>decide
 |some q=>exact JD (h q rfl)
theorem LD (T:Txt K mg) {H:Hp}:n6 K H T.lR.a (bg Mt.d9):=T.lR.sq (by decide)
theorem Jo (T:Txt K mg) {H:Hp}:n6 K H T.mI.a (bg Mt.cE):=T.mI.sq (by decide)
theorem EO (T:Txt K mg) {H:Hp}:n6 K H T.lz.a (bg Mt.bU):=T.lz.sq (by decide)
theorem lZ {a b c d e:List Nat} (ha:a.length≤10) (hb:b.length≤8) (hc:c.length≤8) (hd:d.length≤4) (he:e.length≤4):(Mt.d7 [a,b,c,d,e]).length≤100:=by
 simp only [Mt.d7,List.flatMap_cons,List.flatMap_nil,List.append_nil,List.length_append,List.length_cons,List.length_nil];omega
inductive GLI (T:Txt K mg) (x y z u v:V) (H:Hp) (Q:VK):Prop
 |mk:∀a b c lo hi,fI K H x a→fI K H y b→fI K H z c→u=oV lo→v=oV hi→a.length≤10→b.length≤8→c.length≤8→(∀q∈lo,q≤1000)→(∀q∈hi,q≤1000)→(∀p H',H p=none→ax H H'→H' p=some (.lst (bg (Mt.d7 [a,b,c,boundText lo,boundText hi])))→Q (.ref p) H')→GLI T x y z u v H Q
def GL (T:Txt K mg):Sp:=V5 fun x y z u v H Q=>GLI T x y z u v H Q
theorem xZ (T:Txt K mg):aU P w K mg base cI 2 T.fQ.f T.fQ.fd ["first_word","first_name","second_name","low","high"] (GL T):=by
 refine T.fQ.fn.WC FY fun bJ A outer s H x y z u v Q E hr h=>?_;obtain ⟨a,b,c,lo,hi,ha,hb,hc,rfl,rfl,la,lb,lc,XW,ZD,k⟩:=h;refine ⟨_,(ah (au (aD (CG T) ‹hr› rfl T.iZ.g T.iZ.fn.kp T.iZ.b .nil aB (aa (a9 (aa (pv 0) (aa (pv 1) (aa (pv 2) (aa (aD (BD T) ‹hr› rfl T.iV.g T.iV.fn.kp T.iV.b .nil aB (aa (pv 3) ag)) (aa (aD (BD T) ‹hr› rfl T.iV.g T.iV.fn.kp T.iV.b .nil aB (aa (pv 4) ag)) ag)))))) ag)))),?_⟩;right;refine ⟨lo,rfl,XW,fun v1 H1 s1 h1=>?_⟩;right;refine ⟨hi,rfl,ZD,fun v2 H2 s2 h2=>?_⟩;right;refine ⟨by decide,fun p hp=>?_⟩;obtain ⟨H3,Ka,s3,h3⟩:=dQ hp (.lst [x,y,z,v1,v2]);rw [Ka];have Eu:=(s1.trans s2).trans s3;refine ⟨p,a,[b,c,boundText lo,boundText hi],rfl,⟨_,h3,?_⟩,Nat.le_trans (lZ la lb lc (cY XW) (cY ZD)) (by decide),fun q H4 hq s4 h4=>k q H4 (Eu.free hq) (Eu.trans s4) h4⟩;have e0:ig (fI K H3) [] []:=ig.nil;exact ((((e0.snoc (ha.same Eu)).snoc (hb.same Eu)).snoc (hc.same Eu)).snoc (h1.same (s2.trans s3))).snoc (h2.same s3)
structure Ur (T:Txt K mg) (H:Hp) (a:Addr) (n:Net):Prop where
 net:dr T H a n
 full:Mt.aP n
inductive JjI (T:Txt K mg) (x:V) (H:Hp) (Q:VK):Prop
 |mk:∀a n,x=.ref a→Ur T H a n→(∀b H',H b=none→ax H H'→H' b=some (.lst (bg (Mt.iY n)))→(Mt.iY n).length≤100000→Q (.ref b) H')→JjI T x H Q
def Jj (T:Txt K mg):Sp:=m7 fun x H Q=>JjI T x H Q
theorem eD {n:Net} {i:Nat} (h:i<n.names.length):n.names[i]?=some (Vblaai.nameAt n i):=by
 unfold Vblaai.nameAt;rw [List.getElem?_eq_getElem h,b9 (List.getElem?_eq_getElem h)]
theorem Hx (T:Txt K mg):aU P w K mg base cI 3 T.kW.f T.kW.fd ["net"] (Jj T):=by
 refine T.kW.fn.n4 lM fun bJ A outer s H x Q E hr h=>?_;obtain ⟨a,n,rfl,⟨hN,full⟩,k⟩:=h;obtain ⟨dx,an,al,at',ns,ls,ts,N0⟩:=id hN;refine ⟨_,(ae (aN (i:=1) lM.nd rfl (Or.inl rfl) (a9 ag)) (ae (cJ PassesOwn.never rfl (fg (xr TX (ai T.aT.cl T.bj (pv 0)) (uC aI) Lq)) (aK (i:=2) lM.nd rfl (Or.inl rfl)) (ah (b8 (d6 PySem.F.slot_list_extend PySem.F.type_list_extend uj (pv 1) (aa (aD (CG T) ‹hr› rfl T.iZ.g T.iZ.fn.kp T.iZ.b .nil aB (aa (a9 (aa (kT T.lR) (aa (pv 2) ag))) ag)) ag))))) (ae (cJ PassesOwn.never rfl (fg (ai T.aT.cl T.fS (pv 0))) (aK (i:=3) lM.nd rfl (Or.inl rfl)) (ah (b8 (d6 PySem.F.slot_list_extend PySem.F.type_list_extend uj (pv 1) (aa (aD (xZ T) ‹hr› rfl T.fQ.g T.fQ.fn.kp T.fQ.b .nil aB (aa (kT T.mI) (aa (aR fz (ai T.aT.cl T.bj (pv 0)) (ai T.ba.cl T.gf (pv 3)) (fun _ _=>rfl)) (aa (aR fz (ai T.aT.cl T.bj (pv 0)) (ai T.ba.cl T.fA (pv 3)) (fun _ _=>rfl)) (aa (ai T.ba.cl T.gh (pv 3)) (aa (ai T.ba.cl T.gO (pv 3)) ag)))))) ag))))) (ae (cJ PassesOwn.never rfl (fg (ai T.aT.cl T.bo (pv 0))) (aK (i:=4) lM.nd rfl (Or.inl rfl)) (ah (b8 (d6 PySem.F.slot_list_extend PySem.F.type_list_extend uj (pv 1) (aa (aD (xZ T) ‹hr› rfl T.fQ.g T.fQ.fn.kp T.fQ.b .nil aB (aa (kT T.lz) (aa (aR fz (ai T.aT.cl T.bj (pv 0)) (ai T.aH.cl T.bu (pv 4)) (fun _ _=>rfl)) (aa (aR fz (ai T.aT.cl T.bj (pv 0)) (ai T.aH.cl T.bt (pv 4)) (fun _ _=>rfl)) (aa (ai T.aH.cl T.ff (pv 4)) (aa (ai T.aH.cl T.gL (pv 4)) ag)))))) ag))))) (ah (au (pv 1))))))),?_⟩;right;refine ⟨by decide,fun p hp=>?_⟩;obtain ⟨H1,uT,s1,h1⟩:=dQ hp (.lst []);rw [uT];have h0:=s1 _ _ N0.obj;have h2:=s1 _ _ N0.AW;exists h0,h2;intro q hq;have e1:xG ns (some 1) none=ns.drop 1:=IT _ 1;rw [e1];obtain ⟨H2,Aw,s2,h2q⟩:=dQ hq (.lst (ns.drop 1));rw [Aw];have M7:p≠q:=aC h1 hq;have nm:n.names.length≤12:=full.nm;have nl:n.limits.length≤40:=full.nl;have nt:n.natures.length≤5:=full.nn;refine loop (bp (ns.drop 1)) (fun i σ H'=>∃v,σ=[some (.ref a),some (.ref p),v,none,none]∧ax H H'∧H' q=some (.lst (ns.drop 1))∧H' p=some (.lst (bg (((n.names.drop 1).take i).flatMap fun w=>Mt.d7 [Mt.d9,w])))∧(((n.names.drop 1).take i).flatMap fun w=>Mt.d7 [Mt.d9,w]).length≤100*i)
  ⟨none,rfl,s1.trans s2,h2q,s2 _ _ h1,Nat.le_refl _⟩ (fun i σ H' z1=>by obtain ⟨_,_,_,h,_⟩:=z1;exact  .of h) ?_ ?_
 ·intro i x σ H3 H4 N hi z1 s4 hx kN;obtain ⟨v,rfl,s3,Mx,G2,l3⟩:=z1;have r9:=s3.trans s4;have IM:=s4 _ _ G2;rw [List.getElem?_drop] at hx;obtain ⟨w,ew,U7⟩:=N0.pn.at_ hx;have lw:=full.names w (List.mem_of_getElem? ew);have o4:i<12:=by
   rw [List.length_drop,N0.pn.1] at hi;omega
  exists IM;refine ⟨by decide,fun r hr=>?_⟩;obtain ⟨H5,Hb,s5,h5⟩:=dQ hr (.lst [V.ref T.lR.a,x]);rw [Hb];have ll:(Mt.d7 [Mt.d9,w]).length≤100:=by
   simp only [Mt.d7,Mt.d9,List.flatMap_cons,List.flatMap_nil,List.append_nil,List.length_append,List.length_cons,List.length_nil];omega
  have e0:ig (fI K H5) [] []:=ig.nil;refine ⟨r,Mt.d9,[w],rfl,⟨_,h5,(e0.snoc ⟨_,rfl,LD T⟩).snoc ((U7.same r9).same s5)⟩,Nat.le_trans ll (by decide),fun t H6 ht s6 h6=>?_⟩;have TL:=s6 _ _ (s5 _ _ IM);have npt:p≠t:=aC (s5 _ _ IM) ht;exists TL,h6;have ed:(n.names.drop 1)[i]?=some w:=by rw [List.getElem?_drop];exact ew
  refine ⟨?_,kN _ _ ⟨_,rfl,ax.iA (r9.trans (s5.trans s6)) hp,?_,?_,?_⟩⟩
  ·rw [bb,bb];exact Nat.le_trans (by omega) (show 2000≤sizeLine by decide)
  ·rw [aF (Ne.symm M7)];exact (s4.trans (s5.trans s6)) _ _ Mx
  ·rw [aA,take_snoc ed,List.flatMap_append];unfold bg;simp only [List.map_append,List.flatMap_cons,List.flatMap_nil,List.append_nil]
  ·rw [take_snoc ed,List.flatMap_append,List.length_append];simp only [List.flatMap_cons,List.flatMap_nil,List.append_nil];omega
 ·intro σ H3 z1;obtain ⟨v,rfl,s3,Mx,G2,l3⟩:=z1;rw [List.length_drop,N0.pn.1, ←List.length_drop,List.take_length] at G2 l3;have Y1:((n.names.drop 1).flatMap fun w=>Mt.d7 [Mt.d9,w]).length≤1200:=by
   refine Nat.le_trans l3 ?_;rw [List.length_drop];omega
  have Dh:=s3 _ _ N0.obj;have SS:=s3 _ _ N0.Jt;exists Dh,SS;obtain ⟨A0,YS⟩:∃A0,A0=((n.names.drop 1).flatMap fun w=>Mt.d7 [Mt.d9,w]):=⟨_,rfl⟩;rw [←YS] at G2 Y1;refine loop (bp ls) (fun i σ H'=>∃v2 v3,σ=[some (.ref a),some (.ref p),v2,v3,none]∧ax H H'∧H' p=some (.lst (bg (A0++(n.limits.take i).flatMap fun x=>Mt.d7 [Mt.cE,Vblaai.nameAt n x.a,Vblaai.nameAt n x.b,boundText x.least,boundText x.most])))∧(A0++(n.limits.take i).flatMap fun x=>Mt.d7 [Mt.cE,Vblaai.nameAt n x.a,Vblaai.nameAt n x.b,boundText x.least,boundText x.most]).length≤1200+100*i)
   ⟨v,none,rfl,s3,by rw [List.take_zero,List.flatMap_nil,List.append_nil];exact G2,by rw [List.take_zero,List.flatMap_nil,List.append_nil];exact Y1⟩ (fun i σ H' z1=>by obtain ⟨_,_,_,s,_⟩:=z1;exact  .of (s _ _ N0.Jt)) ?_ ?_
  ·intro i x σ H4 H5 N hi z1 s5 hx kN;obtain ⟨v2,v3,rfl,s4,IM,l4⟩:=z1;obtain ⟨y,ey,ay,dy,rfl,hy⟩:=N0.pl.at_ hx;have Ua:=s4.trans s5;have Bh:=s5 _ _ IM;have gc:=full.lim y (List.mem_of_getElem? ey);have Qb:=full.J1 y (List.mem_of_getElem? ey);obtain ⟨x1,X7,Yy⟩:=N0.pn.at' (eD gc.1);obtain ⟨x2,X5,Xn⟩:=N0.pn.at' (eD gc.2.1);have e1:iz ns (y.a:Int)=some x1:=cV X7;have e2:iz ns (y.b:Int)=some x2:=cV X5;have Vs:=Ua _ _ hy;have h05:=Ua _ _ N0.obj;have hn5:=Ua _ _ N0.AW;exists Bh,Vs,h05,hn5,e1,e2;have l1:=full.names _ (List.mem_of_getElem? (eD gc.1));have l2:=full.names _ (List.mem_of_getElem? (eD gc.2.1));have o4:i<40:=by rw [N0.pl.1] at hi;omega
   refine ⟨_,_,_,y.least,y.most,⟨_,rfl,Jo T⟩,Yy.same Ua,Xn.same Ua,rfl,rfl,by decide,l1,l2,Qb.1,Qb.2,fun t H6 ht s6 h6=>?_⟩;have TL:=s6 _ _ Bh;exists TL,h6;have ll:=lZ (a:=Mt.cE) (by decide) l1 l2 (cY Qb.1) (cY Qb.2);refine ⟨?_,kN _ _ ⟨_,_,rfl,ax.iA (Ua.trans s6) hp,?_,?_⟩⟩
   ·rw [bb,bb];exact Nat.le_trans (by omega) (show 10000≤sizeLine by decide)
   ·rw [aA,take_snoc ey,List.flatMap_append, ←List.append_assoc];unfold bg;rw [List.map_append (l₁ :=A0++_)];simp only [List.flatMap_cons,List.flatMap_nil,List.append_nil]
   ·rw [take_snoc ey,List.flatMap_append, ←List.append_assoc,List.length_append];simp only [List.flatMap_cons,List.flatMap_nil,List.append_nil];omega
  ·intro σ H4 z1;obtain ⟨v2,v3,rfl,s4,IM,l4⟩:=z1;have JE:=s4 _ _ N0.obj;have VS:=s4 _ _ N0.vA;exists JE,VS;rw [N0.pl.1,List.take_length] at IM l4;obtain ⟨B0,ZM⟩:∃B0,B0=(A0++n.limits.flatMap fun x=>Mt.d7 [Mt.cE,Vblaai.nameAt n x.a,Vblaai.nameAt n x.b,boundText x.least,boundText x.most]):=⟨_,rfl⟩;rw [←ZM] at IM l4;refine loop (bp ts) (fun i σ H'=>∃v4,σ=[some (.ref a),some (.ref p),v2,v3,v4]∧ax H H'∧H' p=some (.lst (bg (B0++(n.natures.take i).flatMap fun x=>Mt.d7 [Mt.bU,Vblaai.nameAt n x.a,Vblaai.nameAt n x.c,boundText (some x.lo),boundText (some x.hi)])))∧(B0++(n.natures.take i).flatMap fun x=>Mt.d7 [Mt.bU,Vblaai.nameAt n x.a,Vblaai.nameAt n x.c,boundText (some x.lo),boundText (some x.hi)]).length≤5200+100*i)
    ⟨none,rfl,s4,by rw [List.take_zero,List.flatMap_nil,List.append_nil];exact IM,by rw [List.take_zero,List.flatMap_nil,List.append_nil];omega⟩ (fun i σ H' z1=>by obtain ⟨_,_,s,_⟩:=z1;exact  .of (s _ _ N0.vA)) ?_ ?_
   ·intro i x σ H5 H6 N hi z1 s6 hx kN;obtain ⟨v4,rfl,s5,Bh,l5⟩:=z1;obtain ⟨y,ey,ay,dy,rfl,hy⟩:=N0.pt.at_ hx;have TZ:=s5.trans s6;have TL:=s6 _ _ Bh;have gc:=full.nat y (List.mem_of_getElem? ey);have Qb:=full.vw y (List.mem_of_getElem? ey);obtain ⟨x1,X7,Yy⟩:=N0.pn.at' (eD gc.1);obtain ⟨x2,X5,Xn⟩:=N0.pn.at' (eD gc.2.1);have e1:iz ns (y.a:Int)=some x1:=cV X7;have e2:iz ns (y.c:Int)=some x2:=cV X5;have hy6:=TZ _ _ hy;have Xs:=TZ _ _ N0.obj;have hn6:=TZ _ _ N0.AW;exists TL,hy6,Xs,hn6,e1,e2;have l1:=full.names _ (List.mem_of_getElem? (eD gc.1));have l2:=full.names _ (List.mem_of_getElem? (eD gc.2.1));have o4:i<5:=by rw [N0.pt.1] at hi;omega
    have q1:∀q∈some y.lo,q≤1000:=fun q hq=>by cases hq;omega
    have q2:∀q∈some y.hi,q≤1000:=fun q hq=>by cases hq;omega
    refine ⟨_,_,_,some y.lo,some y.hi,⟨_,rfl,EO T⟩,Yy.same TZ,Xn.same TZ,rfl,rfl,by decide,l1,l2,q1,q2,fun t H7 ht s7 h7=>?_⟩;have h7p:=s7 _ _ TL;exists h7p,h7;have ll:=lZ (a:=Mt.bU) (by decide) l1 l2 (cY q1) (cY q2);refine ⟨?_,kN _ _ ⟨_,rfl,ax.iA (TZ.trans s7) hp,?_,?_⟩⟩
    ·rw [bb,bb];exact Nat.le_trans (by omega) (show 10000≤sizeLine by decide)
    ·rw [aA,take_snoc ey,List.flatMap_append, ←List.append_assoc];unfold bg;rw [List.map_append (l₁ :=B0++_)];simp only [List.flatMap_cons,List.flatMap_nil,List.append_nil]
    ·rw [take_snoc ey,List.flatMap_append, ←List.append_assoc,List.length_append];simp only [List.flatMap_cons,List.flatMap_nil,List.append_nil];omega
   ·intro σ H5 z1;obtain ⟨v4,rfl,s5,Bh,l5⟩:=z1;right;rw [N0.pt.1,List.take_length] at Bh l5;have e:Mt.iY n=B0++n.natures.flatMap fun x=>Mt.d7 [Mt.bU,Vblaai.nameAt n x.a,Vblaai.nameAt n x.c,boundText (some x.lo),boundText (some x.hi)]:=by
     rw [ZM,YS];rfl
    rw [←e] at Bh l5;exact k p H5 hp s5 Bh (by omega)
def pS (n:Net):List Int:=(List.range (size n)).flatMap fun p=>bit (isNature n p)::Vblaai.row (Vblaai.nameAt n p)
def bh (l:List Int):List V:=l.map V.int
theorem vY (w:List Nat):bh (nums w)=bg w:=by
 unfold bh nums bg;rw [List.map_map];rfl
inductive FDI (T:Txt K mg) (x:V) (H:Hp) (Q:VK):Prop
 |mk:∀a n,x=.ref a→Ur T H a n→(∀b H',H b=none→ax H H'→H' b=some (.lst (bh (pS n)))→(pS n).length≤1000→Q (.ref b) H')→FDI T x H Q
def FD (T:Txt K mg):Sp:=m7 fun x H Q=>FDI T x H Q
theorem FN (T:Txt K mg):aU P w K mg base cI 2 T.jB.f T.jB.fd ["net"] (FD T):=by
 refine T.jB.fn.n4 mF fun bJ A outer s H x Q E hr h=>?_;obtain ⟨a,n,rfl,⟨hN,full⟩,k⟩:=h;obtain ⟨dx,an,al,at',ns,ls,ts,N0⟩:=id hN;refine ⟨_,(ae (aN (i:=1) mF.nd rfl (Or.inl rfl) (a9 ag)) (ae (cJ PassesOwn.never rfl (gS rfl T.bP (aa (ai T.aT.cl T.bj (pv 0)) ag)) (fB (n:=2) rfl (bq (aK (i:=2) mF.nd rfl (Or.inl rfl)) (bq (aK (i:=3) mF.nd rfl (Or.inl rfl)) fD))) (ae (b8 (d6 PySem.F.slot_list_append PySem.F.type_list_append dw (pv 1) (aa (dh (bZ (a8 (pv 0) T.aT.cl T.eX.m (pa T) ‹hr› T.eX.b .nil aB (aa (pv 2) ag))) aI aI) ag))) (ae (b8 (d6 PySem.F.slot_list_append PySem.F.type_list_append dw (pv 1) (aa (bc qO rfl T.eM eJ (aa (pv 3) ag)) ag))) (ah (b8 (d6 PySem.F.slot_list_extend PySem.F.type_list_extend CQ (pv 1) (aa (pv 3) ag))))))) (ah (au (pv 1))))),?_⟩;right;refine ⟨by decide,fun p hp=>?_⟩;obtain ⟨H1,uT,s1,h1⟩:=dQ hp (.lst []);rw [uT];have h0:=s1 _ _ N0.obj;exists h0;have nm:n.names.length≤12:=full.nm;refine ⟨⟨_,.of (s1 _ _ N0.AW)⟩,loop (dN ns) (fun i σ H'=>∃v2 v3,σ=[some (.ref a),some (.ref p),v2,v3]∧ax H H'∧H' p=some (.lst (bh ((List.range i).flatMap fun p=>bit (isNature n p)::Vblaai.row (Vblaai.nameAt n p))))∧((List.range i).flatMap fun p=>bit (isNature n p)::Vblaai.row (Vblaai.nameAt n p)).length≤20*i)
  ⟨none,none,rfl,s1,h1,Nat.le_refl _⟩ (fun i σ H' z1=>by obtain ⟨_,_,_,s,_⟩:=z1;exact  .of (s _ _ N0.AW)) ?_ ?_⟩
 ·intro i x σ H2 H3 N hi z1 s3 z2 kN;obtain ⟨v2,v3,rfl,s2,h2,l2⟩:=z1;obtain ⟨T0,v,rfl,hT,hx⟩:=z2;obtain ⟨w,ew,aw,rfl,hw⟩:=N0.pn.at_ hx;have o4:i<12:=by rw [N0.pn.1] at hi;omega
  have YO:Vblaai.nameAt n i=w:=by
   have:=eD (n:=n) (i:=i) (by rw [N0.pn.1] at hi;exact hi);rw [ew] at this;exact (Option.some.inj this).symm
  have lw:=full.names w (List.mem_of_getElem? ew);have Aq:=s2.trans s3;have h3:=s3 _ _ h2;have Dh:=Aq _ _ N0.obj;exists hT,h3,Dh;refine ⟨a,n,i,rfl,hN.same Aq,Nat.le_trans full.nn (by decide),rfl,fun H4 s4=>?_⟩;have h4:=s4 _ _ h3;have RA:=Aq.trans s4;exists h4;obtain ⟨R,eR⟩:∃R,R=((List.range i).flatMap fun p=>bit (isNature n p)::Vblaai.row (Vblaai.nameAt n p)):=⟨_,rfl⟩;rw [←eR] at h4 l2 ⊢;have sz:(bh R).length<sizeLine:=by
   unfold bh;rw [List.length_map];exact Nat.lt_of_le_of_lt l2 (Nat.lt_of_lt_of_le (show 20*i<2000 by omega) (by decide))
  have go:∀(b:Bool),isNature n i=b→∀H5,H5=upd H4 p (.lst (bh R++[V.int (bit b)]))→∀σ, σ=[some (V.ref a),some (V.ref p),some (aM i),some (V.ref aw)] →
    Hg K (V.ref p) [V.ref aw] (upd H5 p (.lst (bh R++[V.int (bit b)]++[V.int (w.length:Int)]))) (fun _ H1=>N σ H1):=fun b hb H5 e5 σ eσ=>by
   subst e5 eσ;refine ⟨p,aw,_,_,rfl,rfl,aA,n6.same (ax.iA (ax.iA RA hp) hp) hw,?_,kN _ _ ⟨_,_,rfl,ax.iA (ax.iA (ax.iA RA hp) hp) hp,?_,?_⟩⟩
   ·simp only [List.length_append,List.length_cons,List.length_nil,bb];have hR:(bh R).length≤20*i:=by (unfold bh;rw [List.length_map];exact l2)
    exact Nat.le_trans (by omega) (show 1000≤sizeLine by decide)
   ·rw [aA,List.range_succ,List.flatMap_append, ←eR];unfold bh;simp only [List.map_append,List.flatMap_cons,List.flatMap_nil,List.append_nil,List.map_cons,hb,YO,Vblaai.row];rw [show List.map V.int (nums w)=bg w from vY w]
    simp
   ·rw [List.range_succ,List.flatMap_append, ←eR,List.length_append];simp only [List.flatMap_cons,List.flatMap_nil,List.append_nil,List.length_cons,YO,Vblaai.row,nums,List.length_map];omega
  have ZJ:∀z,(bh R++[z]).length<sizeLine:=fun z=>by
   rw [List.length_append,List.length_singleton];have:(bh R).length≤20*i:=by
    unfold bh;rw [List.length_map];exact l2
   exact Nat.lt_of_le_of_lt (Nat.succ_le_succ this) (Nat.lt_of_lt_of_le (show 20*i+1<2000 by omega) (by decide))
  cases cn:isNature n i with
  |true =>
   rw [if_pos rfl];refine ⟨sz,bg w,.inr (n6.same (ax.iA RA hp) hw),ZJ _,?_⟩;have q:=go true cn _ rfl _ rfl;rw [←bb w] at q;exact q
  |false =>
   rw [if_neg Bool.false_ne_true];refine ⟨sz,bg w,.inr (n6.same (ax.iA RA hp) hw),ZJ _,?_⟩;have q:=go false cn _ rfl _ rfl;rw [←bb w] at q;exact q
 ·intro σ H2 z1;obtain ⟨v2,v3,rfl,s2,h2,l2⟩:=z1;right;rw [N0.pn.1] at h2 l2;exact k p H2 hp s2 h2 (Nat.le_trans l2 (by omega))
def om (H:Hp) (a:Addr) (ws:List (List Nat)):Prop:=cy H a ws∧∀w∈ws,w.length≤2000
theorem om.same {H H':Hp} {a:Addr} {ws:List (List Nat)} (h:om H a ws) (s:ax H H'):om H' a ws:=⟨h.1.same s,h.2⟩
theorem cy.item {H:Hp} {a:Addr} {ws:List (List Nat)} {ps:List V} (h:ig (ee H) ps ws) {i:Nat} {w:List Nat} (e:ws[i]?=some w):∃b,iz ps (i:Int)=some (.ref b)∧H b=some (.tup (bg w)):=by
 obtain ⟨x,ex,b,rfl,hb⟩:=h.at' e;exact ⟨b,cV ex,hb⟩
inductive A8I (T:Txt K mg) (x:V) (H:Hp) (Q:VK):Prop
 |mk:∀a ws,x=.ref a→om H a ws→(∀H',ax H H'→Q (.bl (Mt.qh ws)) H')→A8I T x H Q
def A8 (T:Txt K mg):Sp:=m7 fun x H Q=>A8I T x H Q
theorem AX (T:Txt K mg):aU P w K mg base cI 3 T.gy.f T.gy.fd ["words"] (A8 T):=by
 refine T.gy.fn.n4 AO fun bJ A outer s H x Q E hr h=>?_;obtain ⟨a,ws,rfl,⟨⟨ps,ha,pw⟩,hz⟩,k⟩:=h;refine ⟨_,(ah (au (gB (bO eF (bc nY rfl T.eM eJ (aa (pv 0) ag)) aI (aG _)) (gB (bO (y9 hr.units) (aR fz (pv 0) aI (fun _ _=>rfl)) (kT T.lR) (aG _)) (gA (aD (we T) ‹hr› rfl T.fK.g T.fK.fn.kp T.fK.b .nil aB (aa (aR fz (pv 0) aI (fun _ _=>rfl)) ag))))))),?_⟩;exists ha;rw [pw.1];by_cases c:ws.length=2
 ·rw [if_pos (by omega)]
  match ws,c,pw,hz,k with
  |[k0,w1],_,pw,hz,k =>
   obtain ⟨b0,e0,h0⟩:=cy.item (a:=a) pw (i:=0) rfl;obtain ⟨b1,e1,h1⟩:=cy.item (a:=a) pw (i:=1) rfl;have Xr:iz ps 0=some (.ref b0):=e0;have HI:iz ps 1=some (.ref b1):=e1;exists Xr,HI;refine ⟨_,_,jX (.of h0),jX (LD T),cO _,cO _,?_⟩;rw [jx];exists ha,HI;have kk:∀H',ax H H'→Q (.bl (decide (k0=Mt.d9)&&isName w1)) H':=k;by_cases c2:k0=Mt.d9
   ·rw [if_pos c2];rw [decide_eq_true c2,Bool.true_and] at kk;exact ⟨w1,⟨b1,rfl,h1⟩,hz w1 (by simp),kk⟩
   ·rw [if_neg c2];rw [decide_eq_false c2,Bool.false_and] at kk;exact kk H (ax.refl _)
 ·rw [if_neg (by omega)];have e:Mt.qh ws=false:=by
   match ws,c with
   |[],_=>rfl
   |[_],_=>rfl
   |[_,_],c=>exact absurd rfl c
   |_::_::_::_,_=>rfl
  rw [e] at k;exact k H (ax.refl _)
inductive A7I (T:Txt K mg) (x y:V) (H:Hp) (Q:VK):Prop
 |mk:∀a ws b f,x=.ref a→om H a ws→y=.ref b→n6 K H b (bg f)→(∀H',ax H H'→Q (.bl (Mt.jw ws f)) H')→A7I T x y H Q
def A7 (T:Txt K mg):Sp:=rX fun x y H Q=>A7I T x y H Q
theorem rD (T:Txt K mg):aU P w K mg base cI 3 T.dg.f T.dg.fd ["words","first_word"] (A7 T):=by
 refine T.dg.fn.sE AL fun bJ A outer s H x y Q E hr h=>?_;obtain ⟨a,ws,b,f,rfl,⟨⟨ps,ha,pw⟩,hz⟩,rfl,hb,k⟩:=h;refine ⟨_,(ah (au (gB (bO eF (bc nY rfl T.eM eJ (aa (pv 0) ag)) aI (aG _)) (gB (bO (y9 hr.units) (aR fz (pv 0) aI (fun _ _=>rfl)) (pv 1) (aG _)) (gB (aD (we T) ‹hr› rfl T.fK.g T.fK.fn.kp T.fK.b .nil aB (aa (aR fz (pv 0) aI (fun _ _=>rfl)) ag)) (gA (aD (we T) ‹hr› rfl T.fK.g T.fK.fn.kp T.fK.b .nil aB (aa (aR fz (pv 0) aI (fun _ _=>rfl)) ag)))))))),?_⟩;exists ha;rw [pw.1];by_cases c:ws.length=5
 ·rw [if_pos (by omega)]
  match ws,c,pw,hz,k with
  |[k0,w1,w2,w3,w4],_,pw,hz,k =>
   obtain ⟨b0,e0,h0⟩:=cy.item (a:=a) pw (i:=0) rfl;obtain ⟨b1,e1,h1⟩:=cy.item (a:=a) pw (i:=1) rfl;obtain ⟨b2,e2,h2⟩:=cy.item (a:=a) pw (i:=2) rfl;have Xr:iz ps 0=some (.ref b0):=e0;have HI:iz ps 1=some (.ref b1):=e1;have L5:iz ps 2=some (.ref b2):=e2;exists Xr,HI,L5;refine ⟨_,_,jX (.of h0),jX hb,cO _,cO _,?_⟩;rw [jx];exists ha,HI;have kk:∀H',ax H H'→Q (.bl (decide (k0=f)&&isName w1&&isName w2)) H':=k;by_cases c2:k0=f
   ·rw [if_pos c2];rw [decide_eq_true c2,Bool.true_and] at kk;refine ⟨w1,⟨b1,rfl,h1⟩,hz w1 (by simp),fun H1 s1=>?_⟩;have LS:=s1 _ _ ha;exists LS,L5
    cases c3:isName w1 with
    |false =>
     rw [c3,Bool.false_and] at kk;exact kk H1 s1
    |true =>
     rw [c3,Bool.true_and] at kk;exact ⟨w2,⟨b2,rfl,s1 _ _ h2⟩,hz w2 (by simp),fun H2 s2=>kk H2 (s1.trans s2)⟩
   ·rw [if_neg c2];rw [decide_eq_false c2,Bool.false_and,Bool.false_and] at kk;exact kk H (ax.refl _)
 ·rw [if_neg (by omega)];have e:Mt.jw ws f=false:=by
   match ws,c with
   |[],_=>rfl
   |[_],_=>rfl
   |[_,_],_=>rfl
   |[_,_,_],_=>rfl
   |[_,_,_,_],_=>rfl
   |[_,_,_,_,_],c=>exact absurd rfl c
   |_::_::_::_::_::_::_,_=>rfl
  rw [e] at k;exact k H (ax.refl _)
def yd (l:List (List Nat)):Bool:=match l with
 |[k,w,v,x,y]=>decide (k=Mt.cE)&&isName w&&isName v&&Mt.aX x&&Mt.aX y
 |_=>false
def wA (l:List (List Nat)):Bool:=match l with
 |[k,w,v,x,y]=>decide (k=Mt.bU)&&isName w&&isName v&&Mt.bV x&&Mt.bV y
 |_=>false
theorem ER {l:List (List Nat)} {k:List Nat} (h:Mt.jw l k=true):∃k0 w v x y,l=[k0,w,v,x,y]∧(decide (k0=k)&&isName w&&isName v)=true:=by
 match l,h with
 |[k0,w,v,x,y],h=>exact ⟨k0,w,v,x,y,rfl,h⟩
theorem Gj {l:List (List Nat)} (h:Mt.jw l Mt.cE=false):yd l=false:=by
 match l,h with
 |[k0,w,v,x,y],h =>
  have h':(decide (k0=Mt.cE)&&isName w&&isName v)=false:=h;show (decide (k0=Mt.cE)&&isName w&&isName v&&Mt.aX x&&Mt.aX y)=false;rw [h'];rfl
 |[],_=>rfl
 |[_],_=>rfl
 |[_,_],_=>rfl
 |[_,_,_],_=>rfl
 |[_,_,_,_],_=>rfl
 |_::_::_::_::_::_::_,_=>rfl
theorem Gu {l:List (List Nat)} (h:Mt.jw l Mt.bU=false):wA l=false:=by
 match l,h with
 |[k0,w,v,x,y],h =>
  have h':(decide (k0=Mt.bU)&&isName w&&isName v)=false:=h;show (decide (k0=Mt.bU)&&isName w&&isName v&&Mt.bV x&&Mt.bV y)=false;rw [h'];rfl
 |[],_=>rfl
 |[_],_=>rfl
 |[_,_],_=>rfl
 |[_,_,_],_=>rfl
 |[_,_,_,_],_=>rfl
 |_::_::_::_::_::_::_,_=>rfl
inductive yUI (T:Txt K mg) (x:V) (H:Hp) (Q:VK):Prop
 |mk:∀a ws,x=.ref a→om H a ws→(∀H',ax H H'→Q (.bl (yd ws)) H')→yUI T x H Q
def yU (T:Txt K mg):Sp:=m7 fun x H Q=>yUI T x H Q
theorem y6 (T:Txt K mg):aU P w K mg base cI 4 T.fJ.f T.fJ.fd ["words"] (yU T):=by
 refine T.fJ.fn.n4 zr fun bJ A outer s H x Q E hr h=>?_;obtain ⟨a,ws,rfl,hw,k⟩:=h;obtain ⟨⟨ps,ha,pw⟩,hz⟩:=id hw;refine ⟨_,(ae (aY (gu (bZ (aD (rD T) ‹hr› rfl T.dg.g T.dg.fn.kp T.dg.b .nil aB (aa (pv 0) (aa (kT T.mI) ag))))) (ah (au kh)) aJ) (ah (au (gB (aD (ka T) ‹hr› rfl T.bE.g T.bE.fn.kp T.bE.b .nil aB (aa (aR fz (pv 0) aI (fun _ _=>rfl)) ag)) (gA (aD (ka T) ‹hr› rfl T.bE.g T.bE.fn.kp T.bE.b .nil aB (aa (aR fz (pv 0) aI (fun _ _=>rfl)) ag))))))),?_⟩;right;refine ⟨a,ws,_,Mt.cE,rfl,hw,rfl,Jo T,fun H1 s1=>?_⟩;have LS:=s1 _ _ ha;exists LS
 cases c:Mt.jw ws Mt.cE with
 |false =>
  rw [Gj c] at k;exact k H1 s1
 |true =>
  obtain ⟨k0,w1,w2,w3,w4,rfl,hh⟩:=ER c;have UN:=pw.mono fun v w h=>ee.same h s1;obtain ⟨b3,e3,h3⟩:=cy.item (a:=a) UN (i:=3) rfl;obtain ⟨b4,e4,h4⟩:=cy.item (a:=a) UN (i:=4) rfl;have NL:iz ps 3=some (.ref b3):=e3;have L0:iz ps 4=some (.ref b4):=e4;have kk:∀H',ax H H'→Q (.bl (Mt.aX w3&&Mt.aX w4)) H':=fun H' s=>by
   have q:=k H' s;have e:yd [k0,w1,w2,w3,w4]=(Mt.aX w3&&Mt.aX w4):=by
    show (decide (k0=Mt.cE)&&isName w1&&isName w2&&Mt.aX w3&&Mt.aX w4)=_;rw [hh,Bool.true_and]
   rw [e] at q;exact q
  exists NL;refine ⟨w3,⟨b3,rfl,h3⟩,fun H2 s2=>?_⟩;have RR:=s2 _ _ LS;exists RR,L0
  cases c3:Mt.aX w3 with
  |false =>
   rw [c3,Bool.false_and] at kk;exact kk H2 (s1.trans s2)
  |true =>
   rw [c3,Bool.true_and] at kk;exact ⟨w4,⟨b4,rfl,s2 _ _ h4⟩,fun H3 s3=>kk H3 ((s1.trans s2).trans s3)⟩
inductive xtI (T:Txt K mg) (x:V) (H:Hp) (Q:VK):Prop
 |mk:∀a ws,x=.ref a→om H a ws→(∀H',ax H H'→Q (.bl (wA ws)) H')→xtI T x H Q
def xt (T:Txt K mg):Sp:=m7 fun x H Q=>xtI T x H Q
theorem yx (T:Txt K mg):aU P w K mg base cI 4 T.fq.f T.fq.fd ["words"] (xt T):=by
 refine T.fq.fn.n4 xx fun bJ A outer s H x Q E hr h=>?_;obtain ⟨a,ws,rfl,hw,k⟩:=h;obtain ⟨⟨ps,ha,pw⟩,hz⟩:=id hw;refine ⟨_,(ah (au (gB (aD (rD T) ‹hr› rfl T.dg.g T.dg.fn.kp T.dg.b .nil aB (aa (pv 0) (aa (kT T.lz) ag))) (gB (aD (sF T) ‹hr› rfl T.eK.g T.eK.fn.kp T.eK.b .nil aB (aa (aR fz (pv 0) aI (fun _ _=>rfl)) ag)) (gA (aD (sF T) ‹hr› rfl T.eK.g T.eK.fn.kp T.eK.b .nil aB (aa (aR fz (pv 0) aI (fun _ _=>rfl)) ag))))))),?_⟩;right;refine ⟨a,ws,_,Mt.bU,rfl,hw,rfl,EO T,fun H1 s1=>?_⟩;have LS:=s1 _ _ ha;exists LS
 cases c:Mt.jw ws Mt.bU with
 |false =>
  rw [Gu c] at k;exact k H1 s1
 |true =>
  obtain ⟨k0,w1,w2,w3,w4,rfl,hh⟩:=ER c;have UN:=pw.mono fun v w h=>ee.same h s1;obtain ⟨b3,e3,h3⟩:=cy.item (a:=a) UN (i:=3) rfl;obtain ⟨b4,e4,h4⟩:=cy.item (a:=a) UN (i:=4) rfl;have NL:iz ps 3=some (.ref b3):=e3;have L0:iz ps 4=some (.ref b4):=e4;have kk:∀H',ax H H'→Q (.bl (Mt.bV w3&&Mt.bV w4)) H':=fun H' s=>by
   have q:=k H' s;have e:wA [k0,w1,w2,w3,w4]=(Mt.bV w3&&Mt.bV w4):=by
    show (decide (k0=Mt.bU)&&isName w1&&isName w2&&Mt.bV w3&&Mt.bV w4)=_;rw [hh,Bool.true_and]
   rw [e] at q;exact q
  exists NL;refine ⟨w3,⟨b3,rfl,h3⟩,fun H2 s2=>?_⟩;have RR:=s2 _ _ LS;exists RR,L0
  cases c3:Mt.bV w3 with
  |false =>
   rw [c3,Bool.false_and] at kk;exact kk H2 (s1.trans s2)
  |true =>
   rw [c3,Bool.true_and] at kk;exact ⟨w4,⟨b4,rfl,s2 _ _ h4⟩,fun H3 s3=>kk H3 ((s1.trans s2).trans s3)⟩
theorem Kv {A:Around} {k:Nat} (hr:je k A):A.units+70<cLine:=by have:=hr.un;omega
theorem n6.uH {H:Hp} {a p:Addr} {xs ys:List V} {o:HO} (h:n6 K H a ys) (hp:H p=some (.lst xs)):n6 K (upd H p o) a ys:=by
 rcases h with (h|⟨ob,h⟩)|h
 ·refine .inl (.inl ?_);rw [aF (pO h hp (by intro z;cases z))];exact h
 ·refine .inl (.inr ⟨ob,?_⟩);rw [aF (pO h hp (by intro z;cases z))];exact h
 ·exact .inr h
theorem fI.uH {H:Hp} {v:V} {w:List Nat} {p:Addr} {xs:List V} {o:HO} (h:fI K H v w) (hp:H p=some (.lst xs)):fI K (upd H p o) v w:=by
 obtain ⟨a,e,h⟩:=h;exact ⟨a,e,n6.uH h hp⟩
theorem p9.uH {T:Txt K mg} {H:Hp} {v:V} {x:Limit} {p:Addr} {xs:List V} {o:HO} (h:p9 T H v x) (hp:H p=some (.lst xs)):p9 T (upd H p o) v x:=by
 obtain ⟨a,dx,e,h⟩:=h;refine ⟨a,dx,e,?_⟩;rw [aF (pO h hp (by intro z;cases z))];exact h
theorem ox.uH {T:Txt K mg} {H:Hp} {v:V} {x:Nature} {p:Addr} {xs:List V} {o:HO} (h:ox T H v x) (hp:H p=some (.lst xs)):ox T (upd H p o) v x:=by
 obtain ⟨a,dx,e,h⟩:=h;refine ⟨a,dx,e,?_⟩;rw [aF (pO h hp (by intro z;cases z))];exact h
section
variable {T:Txt K mg} {H:Hp} {a dx an al at':Addr} {ns ls ts:List V} {n:Net}
theorem qK.same {H':Hp} (M:qK T H a dx an al at' ns ls ts n) (s:ax H H'):qK T H' a dx an al at' ns ls ts n:=⟨M.toNv.same s,M.d1,M.d2,M.d3⟩
theorem qK.name (M:qK T H a dx an al at' ns ls ts n) {x:V} {w:List Nat} (hx:fI K H x w):qK T (upd H an (.lst (ns++[x]))) a dx an al at' (ns++[x]) ls ts { n with names:=n.names++[w] }:=by
 have hp:=M.AW;refine ⟨⟨?_,aA,?_,?_,(M.pn.mono fun _ _ r=>r.uH hp).snoc (hx.uH hp),M.pl.mono fun _ _ r=>r.uH hp,M.pt.mono fun _ _ r=>r.uH hp⟩,M.d1,M.d2,M.d3⟩
 ·rw [aF (pO M.obj hp (by intro z;cases z))];exact M.obj
 ·rw [aF (Ne.symm M.d1)];exact M.Jt
 ·rw [aF (Ne.symm M.d2)];exact M.vA
theorem qK.limit (M:qK T H a dx an al at' ns ls ts n) {x:V} {l:Limit} (hx:p9 T H x l):qK T (upd H al (.lst (ls++[x]))) a dx an al at' ns (ls++[x]) ts { n with limits:=n.limits++[l] }:=by
 have hp:=M.Jt;refine ⟨⟨?_,?_,aA,?_,M.pn.mono fun _ _ r=>r.uH hp,(M.pl.mono fun _ _ r=>r.uH hp).snoc (hx.uH hp),M.pt.mono fun _ _ r=>r.uH hp⟩,M.d1,M.d2,M.d3⟩
 ·rw [aF (pO M.obj hp (by intro z;cases z))];exact M.obj
 ·rw [aF M.d1];exact M.AW
 ·rw [aF (Ne.symm M.d3)];exact M.vA
theorem qK.Sa (M:qK T H a dx an al at' ns ls ts n) {x:V} {l:Nature} (hx:ox T H x l):qK T (upd H at' (.lst (ts++[x]))) a dx an al at' ns ls (ts++[x]) { n with natures:=n.natures++[l] }:=by
 have hp:=M.vA;refine ⟨⟨?_,?_,?_,aA,M.pn.mono fun _ _ r=>r.uH hp,M.pl.mono fun _ _ r=>r.uH hp,(M.pt.mono fun _ _ r=>r.uH hp).snoc (hx.uH hp)⟩,M.d1,M.d2,M.d3⟩
 ·rw [aF (pO M.obj hp (by intro z;cases z))];exact M.obj
 ·rw [aF M.d2];exact M.AW
 ·rw [aF M.d3];exact M.Jt
end
def XE (n:Net):Except Nat Net→Net
 | .ok m=>m
 | .error _=>n
def Tf:Except Nat Net→Nat
 | .ok _=>0
 | .error e=>e
def vo (T:Txt K mg) (H:Hp) (a dx an al at':Addr) (n:Net) (r:Except Nat Net) (Q:VK):Prop :=
 ∀H' ns ls ts,aO [an,al,at'] H H'→qK T H' a dx an al at' ns ls ts (XE n r)→Q (aM (Tf r)) H'
theorem CD {H:Hp}:∀{ns:List V} {ws:List (List Nat)},ig (fI K H) ns ws→tL K H ns (ws.map jO)
 |[],[],_=>.nil
 |[],_::_,h=>by have:=h.1;cases this
 |_::_,[],h=>by have:=h.1;cases this
 |v::ns,w::ws,h=>by
  obtain ⟨a,e,hs⟩:=h.2 0 v w rfl rfl;subst e;exact .cons (jX hs) (CD ⟨by have:=h.1;simpa using this,fun i x y e1 e2=>h.2 (i+1) x y e1 e2⟩)
theorem xI (ws:List (List Nat)):PyData.canLayAll0 (ws.map jO)=true:=nG (fun w=>SeqAt.canLay_of_shaped (cO w)) ws
theorem MO (ws:List (List Nat)) (w:List Nat):((ws.map jO).any fun z=>PyData.eqv z (jO w))=ws.contains w:=by
 induction ws with
 |nil=>rfl
 |cons v ws ih =>
  rw [List.map_cons,List.any_cons,ih,jx,List.contains_cons]
  congr 1
  rw [Bool.beq_eq_decide_eq]
  congr 1
  exact propext ⟨Eq.symm,Eq.symm⟩
theorem HR:∀(l:List (List Nat)) (w:List Nat),l.contains w=true→l[l.idxOf w]?=some w∧∀m,m<l.idxOf w→∀v,l[m]?=some v→v≠w
 |[],w,h=>by simp at h
 |v::l,w,h=>by
  rw [List.idxOf_cons];by_cases e:v=w
  ·subst e;simp
  ·have hb:(v==w)=false:=by simpa using e
   rw [hb,cond_false];have h':l.contains w=true:=by
    rw [List.contains_cons] at h;have:(w==v)=false:=by simpa using fun z=>e z.symm
    rw [this,Bool.false_or] at h;exact h
   obtain ⟨h1,h2⟩:=HR l w h';refine ⟨by rw [List.getElem?_cons_succ];exact h1,fun m hm u hu=>?_⟩
   cases m with
   |zero=>cases hu;exact e
   |succ m=>exact h2 m (by omega) u hu
theorem oE {H:Hp} {an:Addr} {ns:List V} {ws:List (List Nat)} {y:V} {w:List Nat} {Q:VK} (hn:H an=some (.lst ns)) (hp:ig (fI K H) ns ws) (hy:fI K H y w) (hc:ws.contains w=true) (hz:ws.length≤1000) (q:Q (aM (ws.idxOf w)) H):LC K (.ref an) [y] H Q:=by
 obtain ⟨h1,h2⟩:=HR ws w hc;obtain ⟨b,rfl,hb⟩:=hy;refine ⟨_,jO w,ws.map jO,ws.idxOf w,jO w,rfl,.lst (.of hn) (CD hp),jX hb,cO w,xI ws,by rw [List.getElem?_map,h1];rfl,by rw [jx];exact decide_eq_true rfl,fun m dm hm e=>?_,?_,q⟩
 ·obtain ⟨v,ev,rfl⟩:=jN e;rw [jx];exact decide_eq_false (h2 m hm v ev)
 ·have:=(List.getElem?_eq_some_iff.mp h1).1;omega
theorem Df {H:Hp} {an:Addr} {ns:List V} {ws:List (List Nat)} {y:V} {w:List Nat} {Q:VK} (hn:H an=some (.lst ns)) (hp:ig (fI K H) ns ws) (hy:fI K H y w) (q:Q (.bl (ws.contains w)) H):Vt K y (.ref an) H Q:=by
 obtain ⟨b,rfl,hb⟩:=hy;refine ⟨jO w,ws.map jO,jX hb,.lst (.of hn) (CD hp),cO w,xI ws,?_⟩;rw [MO];exact q
theorem ee.name {H:Hp} {v:V} {w:List Nat} (h:ee H v w):fI K H v w:=by
 obtain ⟨a,e,h⟩:=h;exact ⟨a,e,.of h⟩
theorem qk {w:List Nat} (h:Mt.bV w=true):w.all isDigit=true:=by
 unfold Mt.bV at h;simp only [Bool.and_eq_true] at h;exact h.1.1.2
theorem w9 {w:List Nat} (h:Mt.bV w=true):Mt.dA w=some (Mt.fe w):=by
 unfold Mt.dA;rw [if_neg];intro z;rw [z] at h;exact absurd h (by decide)
theorem Ac {w:List Nat} (h:Mt.aX w=true):w=[45]∨w.all isDigit=true:=by
 unfold Mt.aX at h;simp only [Bool.or_eq_true,decide_eq_true_eq] at h;exact h.imp id qk
inductive FLI (T:Txt K mg) (x y:V) (H:Hp) (Q:VK):Prop
 |mk:∀a dx an al at' ns ls ts n w,x=.ref a→qK T H a dx an al at' ns ls ts n→ee H y w→n.names.length≤1000→vo T H a dx an al at' n (Mt.lL n w) Q→FLI T x y H Q
def FL (T:Txt K mg):Sp:=rX fun x y H Q=>FLI T x y H Q
theorem F6 (T:Txt K mg):aU P w K mg base cI 1 T.jE.f T.jE.fd ["net","name"] (FL T):=by
 refine T.jE.fn.sE Fv fun bJ A outer s H x y Q E hr h=>?_;obtain ⟨a,dx,an,al,at',ns,ls,ts,n,w,rfl,M,hy,hz,k⟩:=h;refine ⟨_,(ae (aY (aE (JZ (Kv hr)) (pv 1) (ai T.aT.cl T.bj (pv 0)) (by with_unfolding_all rfl)) (ah (au (kI T.BY))) aJ) (ae (aY (aE Es (bc nY rfl T.eM eJ (aa (ai T.aT.cl T.bj (pv 0)) ag)) (kI T.Fz) (aG _)) (ah (au (kI T.wu))) aJ) (ae (b8 (d6 PySem.F.slot_list_append PySem.F.type_list_append dw (ai T.aT.cl T.bj (pv 0)) (aa (pv 1) ag))) (ah (au (kI T.uu)))))),?_⟩
 have h0:=M.obj;have h1:=M.AW;exists h0;refine Df h1 M.pn hy.name ?_;unfold Mt.lL at k;exists h0,h1
 cases c:n.names.contains w with
 |true =>
  rw [c,if_pos rfl] at k;exact k H ns ls ts (aO.refl _ _) M
 |false =>
  rw [c,if_neg Bool.false_ne_true] at k;rw [if_neg Bool.false_ne_true,M.pn.1];by_cases c2:12≤n.names.length
  ·rw [if_pos (by omega)];rw [if_pos c2] at k;exact k H ns ls ts (aO.refl _ _) M
  ·rw [if_neg (by omega)];rw [if_neg c2] at k;refine ⟨Nat.lt_of_le_of_lt hz (by decide),?_⟩;exact k _ _ _ _ (aO.upd (by simp)) (M.name hy.name)
inductive FlI (T:Txt K mg) (x y:V) (H:Hp) (Q:VK):Prop
 |mk:∀a n b k0 w v x4 y4,x=.ref a→dr T H a n→y=.ref b→cy H b [k0,w,v,x4,y4]→Q (.bl (n.names.contains w&&n.names.contains v)) H→FlI T x y H Q
def Fl (T:Txt K mg):Sp:=rX fun x y H Q=>FlI T x y H Q
theorem xy (T:Txt K mg):aU P w K mg base cI 1 T.fT.f T.fT.fd ["net","words"] (Fl T):=by
 refine T.fT.fn.sE Ff fun bJ A outer s H x y Q E hr h=>?_;obtain ⟨a,n,b,k0,w,v,x4,y4,rfl,⟨dx,an,al,at',ns,ls,ts,N0⟩,rfl,⟨ps,hb,pw⟩,k⟩:=h;refine ⟨_,(ah (au (gB (bO (JZ (Kv hr)) (aR fz (pv 1) aI (fun _ _=>rfl)) (ai T.aT.cl T.bj (pv 0)) (by with_unfolding_all rfl)) (gA (bO (JZ (Kv hr)) (aR fz (pv 1) aI (fun _ _=>rfl)) (ai T.aT.cl T.bj (pv 0)) (by with_unfolding_all rfl)))))),?_⟩
 have h0:=N0.obj;have h1:=N0.AW;obtain ⟨b1,e1,g1⟩:=cy.item (a:=b) pw (i:=1) rfl;obtain ⟨b2,e2,g2⟩:=cy.item (a:=b) pw (i:=2) rfl;have HI:iz ps 1=some (.ref b1):=e1;have L5:iz ps 2=some (.ref b2):=e2;exists h0,hb,HI,L5;refine Df h1 N0.pn ⟨b1,rfl,.of g1⟩ ?_;exists h0,hb,L5
 cases c:n.names.contains w with
 |false =>
  rw [c,Bool.false_and] at k;exact k
 |true =>
  rw [c,Bool.true_and] at k;exact Df h1 N0.pn ⟨b2,rfl,.of g2⟩ k
def r8 (T:Txt K mg):Sp:=m7 fun x H Q=>∃l,p9 T H x l∧Q (.bl (Mt.pQ l)) H
theorem sf (T:Txt K mg):aU P w K mg base cI 1 T.cT.f T.cT.fd ["limit"] (r8 T):=by
 refine T.cT.fn.n4 rM fun bJ A outer s H x Q E hr h=>?_;obtain ⟨l,⟨p,dx,rfl,hp⟩,k⟩:=h;refine ⟨_,(ae (aY (aE eF (ai T.ba.cl T.gf (pv 0)) (ai T.ba.cl T.fA (pv 0)) (aG _)) (ah (au kh)) aJ) (ah (au (gB (bO iw (ai T.ba.cl T.gh (pv 0)) aS (aG _)) (gB (bO iw (ai T.ba.cl T.gO (pv 0)) aS (aG _)) (gA (bO oo (ai T.ba.cl T.gO (pv 0)) (ai T.ba.cl T.gh (pv 0)) (aG _)))))))),?_⟩;unfold Mt.pQ at k;by_cases c:l.a=l.b
 ·exists hp;rw [if_pos (by omega)];rw [decide_eq_true c,Bool.true_or] at k;exact k
 ·rw [decide_eq_false c,Bool.false_or] at k
  cases c1:l.least with
  |none =>
   rw [c1] at hp k;exists hp,eU;rw [if_neg (by omega)];exact k
  |some q1 =>
   cases c2:l.most with
   |none =>
    rw [c1,c2] at hp k;exists hp,eU,d4;rw [if_neg (by omega)];exact k
   |some q2 =>
    rw [c1,c2] at hp k;exists hp,d4;rw [if_neg (by omega)];have e:decide ((q2:Int)<(q1:Int))=decide (q2<q1):=by congr 1;exact propext ⟨fun h=>by omega,fun h=>by omega⟩
    rw [e];exact k
inductive qrI (T:Txt K mg) (x y:V) (H:Hp) (Q:VK):Prop
 |mk:∀a n l,x=.ref a→dr T H a n→n.natures.length≤1000→ox T H y l→(∀H',ax H H'→Q (.bl (Mt.mX n l)) H')→qrI T x y H Q
def qr (T:Txt K mg):Sp:=rX fun x y H Q=>qrI T x y H Q
theorem qb (T:Txt K mg):aU P w K mg base cI 2 T.cM.f T.cM.fd ["net","nature"] (qr T):=by
 refine T.cM.fn.sE qA fun bJ A outer s H x y Q E hr h=>?_;obtain ⟨a,n,l,rfl,hN,hz,⟨p,dx,rfl,hp⟩,k⟩:=h;refine ⟨_,(ae (aY (PW.pt (rC (aE eF (ai T.aH.cl T.bu (pv 1)) (ai T.aH.cl T.bt (pv 1)) (aG _)) (rC (aE eF (ai T.aH.cl T.bt (pv 1)) aI (aG _)) (oZ (bZ (a8 (pv 0) T.aT.cl T.eX.m (pa T) ‹hr› T.eX.b .nil aB (aa (ai T.aH.cl T.bt (pv 1)) ag))))))) (ah (au kh)) aJ) (ah (au (IX (bO eF (ai T.aH.cl T.ff (pv 1)) aI (aG _)) (gA (bO oo (ai T.aH.cl T.gL (pv 1)) (ai T.aH.cl T.ff (pv 1)) (aG _))))))),?_⟩;obtain ⟨dn,an,al,at',ns,ls,ts,N0⟩:=id hN;have h0:=N0.obj;unfold Mt.mX at k;exists hp,h0;by_cases c1:l.a=l.c
 ·rw [if_pos (by omega)];rw [decide_eq_true c1] at k;simpa using k H (ax.refl _)
 ·rw [if_neg (by omega)];rw [decide_eq_false c1,Bool.false_or] at k;by_cases c2:l.c=0
  ·rw [if_pos (by omega)];rw [decide_eq_true c2] at k;simpa using k H (ax.refl _)
  ·rw [if_neg (by omega)];rw [decide_eq_false c2,Bool.false_or] at k;refine ⟨a,n,l.c,rfl,hN,hz,rfl,fun H1 s1=>?_⟩;have Ow:=s1 _ _ hp;exists Ow
   cases c3:isNature n l.c with
   |true =>
    rw [c3] at k;simpa using k H1 s1
   |false =>
    rw [c3,Bool.false_or] at k;right;have kk:=k H1 s1;by_cases c4:l.lo=0
    ·rw [if_pos (by omega)];rw [decide_eq_true c4] at kk;simpa using kk
    ·rw [if_neg (by omega)];rw [decide_eq_false c4,Bool.false_or] at kk;have e:decide ((l.hi:Int)<(l.lo:Int))=decide (l.hi<l.lo):=by congr 1;exact propext ⟨fun h=>by omega,fun h=>by omega⟩
     rw [e];exact kk
inductive DQI (T:Txt K mg) (x y:V) (H:Hp) (Q:VK):Prop
 |mk:∀a dx an al at' ns ls ts n b k0 w v x4 y4,x=.ref a→qK T H a dx an al at' ns ls ts n→y=.ref b→cy H b [k0,w,v,x4,y4]→Mt.aX x4=true→Mt.aX y4=true→n.names.length≤1000→n.limits.length≤1000→vo T H a dx an al at' n (Mt.jK n w v x4 y4) Q→DQI T x y H Q
def DQ (T:Txt K mg):Sp:=rX fun x y H Q=>DQI T x y H Q
theorem DU (T:Txt K mg):aU P w K mg base cI 3 T.iM.f T.iM.fd ["net","words"] (DQ T):=by
 refine T.iM.fn.sE vb fun bJ A outer s H x y Q E hr h=>?_;obtain ⟨a,dx,an,al,at',ns,ls,ts,n,b,k0,w,v,x4,y4,rfl,M,rfl,hb,m3,m4,hz,Hc,k⟩:=h;refine ⟨_,(ae (aY (gu (bZ (aD (xy T) ‹hr› rfl T.fT.g T.fT.fn.kp T.fT.b .nil aB (aa (pv 0) (aa (pv 1) ag))))) (ah (au (kI T.Ad))) aJ) (ae (aN (i:=2) vb.nd rfl (Or.inl rfl) (gQ T.ba.Fy (o3 T) ‹hr› rfl T.ba.g T.ba.b .nil aB (aa (d6 PySem.F.slot_list_index PySem.F.type_list_index (ue (Kv hr)) (ai T.aT.cl T.bj (pv 0)) (aa (aR fz (pv 1) aI (fun _ _=>rfl)) ag)) (aa (d6 PySem.F.slot_list_index PySem.F.type_list_index (ue (Kv hr)) (ai T.aT.cl T.bj (pv 0)) (aa (aR fz (pv 1) aI (fun _ _=>rfl)) ag)) (aa (aD (lV T) ‹hr› rfl T.cp.g T.cp.fn.kp T.cp.b .nil aB (aa (aR fz (pv 1) aI (fun _ _=>rfl)) ag)) (aa (aD (lV T) ‹hr› rfl T.cp.g T.cp.fn.kp T.cp.b .nil aB (aa (aR fz (pv 1) aI (fun _ _=>rfl)) ag)) ag)))))) (ae (aY (bZ (aD (sf T) ‹hr› rfl T.cT.g T.cT.fn.kp T.cT.b .nil aB (aa (pv 2) ag))) (ah (au (kI T.zR))) aJ) (ae (aY (aE Es (bc nY rfl T.eM eJ (aa (ai T.aT.cl T.fS (pv 0)) ag)) (kI T.DP) (aG _)) (ah (au (kI T.wu))) aJ) (ae (b8 (d6 PySem.F.slot_list_append PySem.F.type_list_append dw (ai T.aT.cl T.fS (pv 0)) (aa (pv 2) ag))) (ah (au (kI T.uu)))))))),?_⟩;obtain ⟨ps,QC,pw⟩:=id hb;right;refine ⟨a,n,b,k0,w,v,x4,y4,rfl,⟨dx,an,al,at',ns,ls,ts,M.toNv⟩,rfl,hb,?_⟩;unfold Mt.jK at k;right
 cases c:(n.names.contains w&&n.names.contains v) with
 |false =>
  rw [c,if_pos rfl] at k;exact k H ns ls ts (aO.refl _ _) M
 |true =>
  rw [c,if_neg (by decide)] at k;have V3:=Bool.and_eq_true_iff.mp c;have h0:=M.obj;have h1:=M.AW;obtain ⟨b1,e1,g1⟩:=cy.item (a:=b) pw (i:=1) rfl;obtain ⟨b2,e2,g2⟩:=cy.item (a:=b) pw (i:=2) rfl;obtain ⟨b3,e3,g3⟩:=cy.item (a:=b) pw (i:=3) rfl;obtain ⟨b4,e4,g4⟩:=cy.item (a:=b) pw (i:=4) rfl;have HI:iz ps 1=some (.ref b1):=e1;have L5:iz ps 2=some (.ref b2):=e2;have NL:iz ps 3=some (.ref b3):=e3;have L0:iz ps 4=some (.ref b4):=e4;exists h0,h1,QC,HI,L5,NL,L0;refine oE h1 M.pn ⟨b1,rfl,.of g1⟩ V3.1 hz ?_;exists h0,h1,QC,HI,L5,NL,L0;refine oE h1 M.pn ⟨b2,rfl,.of g2⟩ V3.2 hz ?_;exists h0,h1,QC,HI,L5,NL,L0;refine ⟨x4,⟨b3,rfl,g3⟩,Ac m3,fun H1 s1=>?_⟩;have EU:=s1 _ _ QC;exists EU,L0;refine ⟨y4,⟨b4,rfl,s1 _ _ g4⟩,Ac m4,fun H2 s2=>?_⟩;intro q dq hq uG lP;refine ⟨q,dq,rfl,aA,fun H3 h3 k3=>⟨rfl,?_⟩⟩;have s3:=cF hq uG k3;have Eu:=(s1.trans s2).trans s3;have hL:p9 T H3 (.ref q) { a:=n.names.idxOf w,b:=n.names.idxOf v,least:=Mt.dA x4,most:=Mt.dA y4 }:=⟨q,dq,rfl,h3⟩;right;refine ⟨_,hL,?_⟩;have M3:=M.same Eu;have Dh:=M3.obj;have O7:=M3.Jt;exists Dh,O7;dsimp only at k
  cases c2:Mt.pQ { a:=n.names.idxOf w,b:=n.names.idxOf v,least:=Mt.dA x4,most:=Mt.dA y4 } with
  |true =>
   rw [c2,if_pos rfl] at k;exact k H3 ns ls ts (aO.of_same Eu) M3
  |false =>
   rw [c2,if_neg Bool.false_ne_true] at k;rw [if_neg Bool.false_ne_true,M.pl.1];by_cases c3:40≤n.limits.length
   ·rw [if_pos (by omega)];rw [if_pos c3] at k;exact k H3 ns ls ts (aO.of_same Eu) M3
   ·rw [if_neg (by omega)];rw [if_neg c3] at k;refine ⟨Nat.lt_of_le_of_lt Hc (by decide),?_⟩;exact k _ _ _ _ ((aO.of_same Eu).trans (aO.upd (by simp))) (M3.limit hL)
inductive BEI (T:Txt K mg) (x y:V) (H:Hp) (Q:VK):Prop
 |mk:∀a dx an al at' ns ls ts n b k0 w v x4 y4,x=.ref a→qK T H a dx an al at' ns ls ts n→y=.ref b→cy H b [k0,w,v,x4,y4]→Mt.bV x4=true→Mt.bV y4=true→n.names.length≤1000→n.natures.length≤1000→vo T H a dx an al at' n (Mt.iD n w v x4 y4) Q→BEI T x y H Q
def BE (T:Txt K mg):Sp:=rX fun x y H Q=>BEI T x y H Q
theorem Bu (T:Txt K mg):aU P w K mg base cI 3 T.ij.f T.ij.fd ["net","words"] (BE T):=by
 refine T.ij.fn.sE sZ fun bJ A outer s H x y Q E hr h=>?_;obtain ⟨a,dx,an,al,at',ns,ls,ts,n,b,k0,w,v,x4,y4,rfl,M,rfl,hb,m3,m4,hz,Hc,k⟩:=h;refine ⟨_,(ae (aY (gu (bZ (aD (xy T) ‹hr› rfl T.fT.g T.fT.fn.kp T.fT.b .nil aB (aa (pv 0) (aa (pv 1) ag))))) (ah (au (kI T.Ad))) aJ) (ae (aN (i:=2) sZ.nd rfl (Or.inl rfl) (gQ T.aH.Fy (Bt T) ‹hr› rfl T.aH.g T.aH.b .nil aB (aa (d6 PySem.F.slot_list_index PySem.F.type_list_index (ue (Kv hr)) (ai T.aT.cl T.bj (pv 0)) (aa (aR fz (pv 1) aI (fun _ _=>rfl)) ag)) (aa (d6 PySem.F.slot_list_index PySem.F.type_list_index (ue (Kv hr)) (ai T.aT.cl T.bj (pv 0)) (aa (aR fz (pv 1) aI (fun _ _=>rfl)) ag)) (aa (aD (lV T) ‹hr› rfl T.cp.g T.cp.fn.kp T.cp.b .nil aB (aa (aR fz (pv 1) aI (fun _ _=>rfl)) ag)) (aa (aD (lV T) ‹hr› rfl T.cp.g T.cp.fn.kp T.cp.b .nil aB (aa (aR fz (pv 1) aI (fun _ _=>rfl)) ag)) ag)))))) (ae (aY (bZ (aD (qb T) ‹hr› rfl T.cM.g T.cM.fn.kp T.cM.b .nil aB (aa (pv 0) (aa (pv 2) ag)))) (ah (au (kI T.zR))) aJ) (ae (aY (aE Es (bc nY rfl T.eM eJ (aa (ai T.aT.cl T.bo (pv 0)) ag)) (kI T.Bv) (aG _)) (ah (au (kI T.wu))) aJ) (ae (b8 (d6 PySem.F.slot_list_append PySem.F.type_list_append dw (ai T.aT.cl T.bo (pv 0)) (aa (pv 2) ag))) (ah (au (kI T.uu)))))))),?_⟩;obtain ⟨ps,QC,pw⟩:=id hb;right;refine ⟨a,n,b,k0,w,v,x4,y4,rfl,⟨dx,an,al,at',ns,ls,ts,M.toNv⟩,rfl,hb,?_⟩;unfold Mt.iD at k;right
 cases c:(n.names.contains w&&n.names.contains v) with
 |false =>
  rw [c,if_pos rfl] at k;exact k H ns ls ts (aO.refl _ _) M
 |true =>
  rw [c,if_neg (by decide)] at k;have V3:=Bool.and_eq_true_iff.mp c;have h0:=M.obj;have h1:=M.AW;obtain ⟨b1,e1,g1⟩:=cy.item (a:=b) pw (i:=1) rfl;obtain ⟨b2,e2,g2⟩:=cy.item (a:=b) pw (i:=2) rfl;obtain ⟨b3,e3,g3⟩:=cy.item (a:=b) pw (i:=3) rfl;obtain ⟨b4,e4,g4⟩:=cy.item (a:=b) pw (i:=4) rfl;have HI:iz ps 1=some (.ref b1):=e1;have L5:iz ps 2=some (.ref b2):=e2;have NL:iz ps 3=some (.ref b3):=e3;have L0:iz ps 4=some (.ref b4):=e4;exists h0,h1,QC,HI,L5,NL,L0;refine oE h1 M.pn ⟨b1,rfl,.of g1⟩ V3.1 hz ?_;exists h0,h1,QC,HI,L5,NL,L0;refine oE h1 M.pn ⟨b2,rfl,.of g2⟩ V3.2 hz ?_;exists h0,h1,QC,HI,L5,NL,L0;refine ⟨x4,⟨b3,rfl,g3⟩,.inr (qk m3),fun H1 s1=>?_⟩;have EU:=s1 _ _ QC;exists EU,L0;refine ⟨y4,⟨b4,rfl,s1 _ _ g4⟩,.inr (qk m4),fun H2 s2=>?_⟩;intro q dq hq uG lP;refine ⟨q,dq,rfl,aA,fun H3 h3 k3=>⟨rfl,?_⟩⟩;have s3:=cF hq uG k3;have Eu:=(s1.trans s2).trans s3;rw [w9 m3,w9 m4] at h3;have hL:ox T H3 (.ref q) { a:=n.names.idxOf w,c:=n.names.idxOf v,lo:=Mt.fe x4,hi:=Mt.fe y4 }:=⟨q,dq,rfl,h3⟩;have M3:=M.same Eu;right;refine ⟨a,n,_,rfl,⟨dx,an,al,at',ns,ls,ts,M3.toNv⟩,Hc,hL,fun H4 s4=>?_⟩;have M4:=M3.same s4;have Yq:=Eu.trans s4;have JE:=M4.obj;have Yw:=M4.vA;exists JE,Yw;dsimp only at k
  cases c2:Mt.mX n { a:=n.names.idxOf w,c:=n.names.idxOf v,lo:=Mt.fe x4,hi:=Mt.fe y4 } with
  |true =>
   rw [c2,if_pos rfl] at k;exact k H4 ns ls ts (aO.of_same Yq) M4
  |false =>
   rw [c2,if_neg Bool.false_ne_true] at k;rw [if_neg Bool.false_ne_true,M.pt.1];by_cases c3:5≤n.natures.length
   ·rw [if_pos (by omega)];rw [if_pos c3] at k;exact k H4 ns ls ts (aO.of_same Yq) M4
   ·rw [if_neg (by omega)];rw [if_neg c3] at k;refine ⟨Nat.lt_of_le_of_lt Hc (by decide),?_⟩;exact k _ _ _ _ ((aO.of_same Yq).trans (aO.upd (by simp))) (M4.Sa (hL.same s4))
end Rp
section
namespace Ui
open PySem PySem.Spec PyProof.Rows
def G9 (l:Addr):Obj:={ cls:= .type "list_iterator",data:= .fields #[.ref l,.int 0 0] }
def NW (it:Addr) (c:Int):Obj:={ cls:= .type "enumerate",data:= .fields #[.none,.bool false,.ref it,rawInt c,.none,.none] }
theorem V9 (l:Addr) (xs:Array Value) (n:Nat) (dc:Option Addr) (sl:Array (Option Value)) (t:Tok) :
  Meets (Builtin.«enumerate.__new__» ⟨[.type "enumerate",.ref l],[("start",.int 1 t)]⟩) (fun _ R s=>s.heap.get? l=some { cls:= .type "list",dict:=dc,data:= .seq xs n,slots:=sl } ∧
   R (.ok (.ret (.ref (s.heap.push (G9 l)).objs.size))) { s with heap:=(s.heap.push (G9 l)).push (NW s.heap.objs.size 1) }) :=
 .of_wp fun P w A R s h=>by
  obtain ⟨hp,g,d,tk,os⟩:=s;obtain ⟨h1,h2⟩:=h;have k0:=sub_enumerate;have k1:=AutoSeq1.idx_int;have k2:Heap.IsList (Shared.heap ⟨hp,g,d,tk,os⟩) l xs:=⟨_,h1,rfl,n,rfl⟩;wp_walk using AutoSeq1.wpAny_loadPart' h1;refine wpAny_stack_any fun st=>wpAny_pure ?_;split
  ·rename_i c _ _ _ _ _
   cases (c==Value.type "enumerate")
   ·wp_walk using AutoSeq1.wpAny_loadPart' h1,wpAny_pyIter_list k2;exact ⟨_,rfl,h2⟩
   ·wp_walk using AutoSeq1.wpAny_loadPart' h1,wpAny_pyIter_list k2;exact ⟨_,rfl,h2⟩
  ·wp_walk using AutoSeq1.wpAny_loadPart' h1,wpAny_pyIter_list k2;exact ⟨_,rfl,h2⟩
section
variable {P:Program} {w:World} {A:Around} {E:Value→Shared→Prop} {s:Shared}
theorem Tj {T id:String} {o:Value} {rs:List Value} {kw:List (Str×Value)} (h1:typeLookup (.type T) "__init__"=pure (some (.builtin "object.__init__")))
  (h2:Bind.madeBy (.type T)=pure (some id)) (h3:(some id !=some "object.__new__")=true) :
  Meets (Builtin.«object.__init__» ⟨o::rs,kw⟩) (fun _ R s=>s.TypeIs o T∧R (.ok (.ret .none)) s):=by
 refine Meets.of_wp fun P w A R s hs=>?_;obtain ⟨hT,hq⟩:=hs;by_cases e:rs=[]∧kw=[]
 ·obtain ⟨e1,e2⟩:=e;subst e1 e2;exact wpAny_pure ⟨_,rfl,hq⟩
 ·cases rs with
  |nil =>
   cases kw with
   |nil=>exact absurd ⟨rfl,rfl⟩ e
   |cons a b =>
    repeat (any_goals (first|assumption|wp_step))
    exact ⟨_,rfl,hq⟩
  |cons a b =>
   repeat (any_goals (first|assumption|wp_step))
   exact ⟨_,rfl,hq⟩
theorem QL {T id Xb:String} {B B2:Builtin} {xs:List Value} {kw:List (Str×Value)} {S:PySem.Spec} {Q Q1:Value→Shared→Prop} (ft:TypeCalled T id Xb)
  (h1:checkTypeCall T ⟨xs,kw⟩=pure ()) (h2:checkBuiltinCall id ⟨.type T::xs,kw⟩=pure ())
  (e1:entryFor table id=some B) (e2:entryFor table Xb=some B2) (g:Meets (B ⟨.type T::xs,kw⟩) S)
  (h:S A.in1 (wants Q1 E) s)
  (hn:∀o s1,Q1 o s1→s1.TypeIs o T∧argsOk Xb ⟨o::xs,kw⟩∧∃S2,Meets (B2 ⟨o::xs,kw⟩) S2∧S2 A.in1 (wants (fun r s2=>r=.none∧Q o s2) E) s1) :
  wpAny (model P w) A (call (.type T) xs kw) Q E s:=by
 obtain ⟨c,tl,aaX⟩:=ft.mro;have ZO:=ft.made;have Vf:=ft.sub;refine wpAny_call (codeAny_of_tree ?_);show wpAny _ _ (callAny (.type T) _) _ _ _;refine wpAny_pure ⟨Code.quiet_builtin _ (by decide+kernel),codeAny_builtin F.entry_type_call ?_⟩;rw [Around.under_plain (weight_type_call_type T xs kw) (units_type_call_type T xs kw)];have q1:=ft.notType;have q2:=ft.canCreate
 repeat (any_goals (first|assumption|wp_step))
 refine codeAny_mono (codeAny_call_builtin ft.plain e1 (wpAny_of_eq h2 (g P w A.in1 _ s h))) fun r s1 hr=>?_
 cases r with
 |error e=>exact hr
 |ok fl =>
  cases fl with
  |ret o =>
   obtain ⟨hT,cZ,S2,gi,hsi⟩:=hn _ _ hr;have q3:=ft.init.lookup;have q4:=ft.init.bind o
   repeat (any_goals (first|assumption|wp_step))
   refine codeAny_mono (codeAny_call_builtin ft.init.plain e2 (ft.init.check _ _ _ _ _ _ _ _ hT cZ (gi P w A.in1 _ s1 hsi))) fun r2 s2 Xk=>?_
   cases r2 with
   |error e=>exact Xk
   |ok fl2 =>
    cases fl2 with
    |ret r =>
     obtain ⟨e9,hq⟩:=Xk;subst e9
     repeat (any_goals (first|assumption|wp_step))
    |_=>exact Xk.elim
  |_=>exact hr.elim
theorem QG {l:Addr} {xs:Array Value} {t:Tok} {Q:Value→Shared→Prop} (hL:s.heap.IsList l xs)
  (h:∀h',IsEnum h' (s.heap.objs.size+1) s.heap.objs.size 1 .none→h'.IsListIter s.heap.objs.size l 0→h'.objs.size=s.heap.objs.size+2 →
   (∀b o,s.heap.get? b=some o→h'.get? b=some o)→Q (.ref (s.heap.objs.size+1)) { s with heap:=h' }) :
  wpAny (model P w) A (call (.type "enumerate") [.ref l] [("start",.int 1 t)]) Q E s:=by
 obtain ⟨⟨c,dc,dt,sl⟩,hl,hc,n,hd⟩:=hL
 replace hc:c=.type "list":=hc
 replace hd:dt=.seq xs n:=hd
 subst hc hd;refine QL F.called_enumerate (S0 _ _) (Vd _ _) F.entry_enumerate_new F.entry_object_init (V9 l xs n dc sl t) (Q1:=fun o s1=>s1.TypeIs o "enumerate"∧Q o s1) ⟨hl,?_⟩ fun o s1 hq=>⟨hq.1,Tb o _ _,_,Tj F.called_enumerate.init.lookup F.called_enumerate.made (by decide),hq.1,rfl,hq.2⟩;have hz:(s.heap.push (G9 l)).objs.size=s.heap.objs.size+1:=Heap.size_push ..;show _∧_;rw [hz];have he:IsEnum ((s.heap.push (G9 l)).push (NW s.heap.objs.size 1)) (s.heap.objs.size+1) s.heap.objs.size 1 .none:=by
  have:=Heap.get?_push_size (s.heap.push (G9 l)) (o:=NW s.heap.objs.size 1) rfl;rw [hz] at this;exact this
 refine ⟨⟨_,he,rfl⟩,h _ he ⟨_,Heap.get?_push_of_some _ (Heap.get?_push_size _ rfl),rfl,rfl⟩ (by rw [Heap.size_push,hz]) fun b o x=>Heap.get?_push_of_some _ (Heap.get?_push_of_some _ x)⟩
theorem PQ {e it l:Addr} {i:Nat} {c:Int} {xs:Array Value} {x old:Value} {Q:Value→Shared→Prop}
  (he:IsEnum s.heap e it c old) (hi:s.heap.IsListIter it l i) (hl:s.heap.IsList l xs) (hx:xs[i]?=some x) (ne:e≠it)
  (hQ:∀h',IsEnumOut h' e it (c+1) x s.heap.objs.size→h'.IsListIter it l (i+1)→h'.get? s.heap.objs.size=some { cls:= .type "tuple",data:= .seq #[.int c s.toks,x] }→h'.objs.size=s.heap.objs.size+1 →
   (∀b o,b≠e→b≠it→s.heap.get? b=some o→h'.get? b=some o)→Q (.ref s.heap.objs.size) { s with heap:=h',toks:=s.toks+1 }) :
  wpAny (model P w) A (Builtin.«enumerate.__next__» ⟨[.ref e],[]⟩) (fun fin s'=>∃v,fin=.done (.ret v)∧Q v s') E s:=by
 obtain ⟨hp,g,d,tk,os⟩:=s;show wpAny _ _ (field (.ref e) 2 >>= _) _ _ _;refine wpAny_bind (wpAny_field he rfl (x:= .ref it) rfl (wpAny_bind (wpAny_nextOf_list_item hi hl hx fun a1 i1 z1=>?_)))
 replace z1:Heap.SameBut it hp a1:=z1
 have w1:IsEnum a1 e it c old:=(z1.2 e ne).trans he;show wpAny _ _ (field (.ref e) 3 >>= _) _ _ ⟨a1,g,d,tk,os⟩;refine wpAny_bind (wpAny_field w1 rfl (x:=rawInt c) rfl ?_);show wpAny _ _ (field (.ref e) 4 >>= _) _ _ ⟨a1,g,d,tk,os⟩;refine wpAny_bind (wpAny_field w1 rfl (x:= .none) rfl ?_);show wpAny _ _ (mkInt c >>= _) _ _ ⟨a1,g,d,tk,os⟩;refine wpAny_bind (wpAny_mkInt ?_);show wpAny _ _ (setField (.ref e) 3 (rawInt (c+1)) >>= _) _ _ ⟨a1,g,d,tk+1,os⟩;refine wpAny_bind (wpAny_setField_rec w1 (by simp) fun a2 w2 z2=>?_)
 replace z2:Heap.SameBut e a1 a2:=z2
 replace w2:IsEnum a2 e it (c+1) old:=w2
 show wpAny _ _ (setField (.ref e) 4 .none >>= _) _ _ ⟨a2,g,d,tk+1,os⟩;refine wpAny_bind (wpAny_setField_rec w2 (by simp) fun a3 w3 z3=>?_)
 replace z3:Heap.SameBut e a2 a3:=z3
 replace w3:IsEnum a3 e it (c+1) old:=w3
 show wpAny _ _ (newTuple [.int c tk,x] >>= _) _ _ ⟨a3,g,d,tk+1,os⟩;refine wpAny_bind (wpAny_newTuple ?_);have w4:IsEnum (a3.push { cls:= .type "tuple",data:= .seq #[.int c tk,x] }) e it (c+1) old:=Heap.get?_push_of_some _ w3;generalize eh:a3.push { cls:= .type "tuple",data:= .seq #[.int c tk,x] }=a4 at w4;have sz:a3.objs.size=hp.objs.size:=by rw [z3.1,z2.1,z1.1]
 have el:e<hp.objs.size:=Heap.lt_size he;have t4:a4.get? hp.objs.size=some { cls:= .type "tuple",data:= .seq #[.int c tk,x] }:=by
  rw [←eh, ←sz];exact Heap.get?_push_size _ rfl
 have y4:a4.objs.size=hp.objs.size+1:=by rw [←eh,Heap.size_push,sz]
 have k4:∀b o,b≠e→b≠it→hp.get? b=some o→a4.get? b=some o:=fun b o n1 n2 hb=>by
  rw [←eh];exact Heap.get?_push_of_some _ (z3.extBut b o n1 (z2.extBut b o n1 (z1.extBut b o n2 hb)))
 have i4:a4.IsListIter it l (i+1):=by
  rw [←eh];obtain ⟨o,ho,r⟩:=(i1.extBut z2.extBut (Ne.symm ne)).extBut z3.extBut (Ne.symm ne);exact ⟨o,Heap.get?_push_of_some _ ho,r⟩
 show wpAny _ _ (Builtin.SmallTypes.ownedTupleIsFree (.ref e) >>= _) _ _ ⟨a4,g,d,tk+1,os⟩;rw [sz];refine wpAny_bind ?_;unfold Builtin.SmallTypes.ownedTupleIsFree;refine wpAny_bind (wpAny_field w4 rfl (x:= .none) rfl (wpAny_pure ?_));simp only [if_true];refine wpAny_bind (wpAny_rule (wpAny_bind (wpAny_field w4 rfl (x:=old) rfl (wpAny_bind (wpAny_setField_rec w4 (by simp) fun a5 w5 z5=>?_)))))
 replace z5:Heap.SameBut e a4 a5:=z5
 replace w5:IsEnum a5 e it (c+1) x:=w5
 show wpAny _ _ (Builtin.SmallTypes.ownedTupleHandOut (.ref e) (.ref hp.objs.size) >>= _) _ _ ⟨a5,g,d,tk+1,os⟩;refine wpAny_bind ?_;unfold Builtin.SmallTypes.ownedTupleHandOut;refine wpAny_bind (wpAny_setField_rec w5 (by simp) fun a6 w6 z6=>?_)
 replace z6:Heap.SameBut e a5 a6:=z6
 replace w6:IsEnumOut a6 e it (c+1) x hp.objs.size:=w6
 refine wpAny_setField_rec w6 (by simp) fun a7 w7 z7=>?_
 replace z7:Heap.SameBut e a6 a7:=z7
 replace w7:IsEnumOut a7 e it (c+1) x hp.objs.size:=w7
 refine wpAny_bind (wpAny_letGo (wpAny_pure ⟨_,rfl,hQ a7 w7 ?_ ?_ ?_ ?_⟩))
 ·exact ((i4.extBut z5.extBut (Ne.symm ne)).extBut z6.extBut (Ne.symm ne)).extBut z7.extBut (Ne.symm ne)
 ·exact z7.extBut _ _ (Nat.ne_of_gt el) (z6.extBut _ _ (Nat.ne_of_gt el) (z5.extBut _ _ (Nat.ne_of_gt el) t4))
 ·rw [z7.1,z6.1,z5.1,y4]
 ·exact fun b o n1 n2 hb=>z7.extBut b o n1 (z6.extBut b o n1 (z5.extBut b o n1 (k4 b o n1 n2 hb)))
theorem Qk {e it l:Addr} {i:Nat} {c:Int} {xs:Array Value} {x old:Value} {Q:Option Value→Shared→Prop}
  (he:IsEnum s.heap e it c old) (hi:s.heap.IsListIter it l i) (hl:s.heap.IsList l xs) (hx:xs[i]?=some x) (ne:e≠it)
  (hQ:∀h',IsEnumOut h' e it (c+1) x s.heap.objs.size→h'.IsListIter it l (i+1)→h'.get? s.heap.objs.size=some { cls:= .type "tuple",data:= .seq #[.int c s.toks,x] }→h'.objs.size=s.heap.objs.size+1 →
   (∀b o,b≠e→b≠it→s.heap.get? b=some o→h'.get? b=some o)→Q (some (.ref s.heap.objs.size)) { s with heap:=h',toks:=s.toks+1 }) :
  wpAny (model P w) A (pyNext (.ref e)) Q E s:=by
 have hT:s.TypeIs (.ref e) "enumerate":=⟨_,he,rfl⟩;unfold pyNext;exact wpAny_bind (wpAny_attempt (wpAny_callSpecial?_slot (name:=Str.ofString "__next__") hT F.slot_enumerate_next (wpAny_call_entry F.slot_enumerate_next hT F.entry_enumerate_next
  (PQ he hi hl hx ne fun h' q1 q2 q3 q4 q5=>wpAny_pure (hQ h' q1 q2 q3 q4 q5)) (F.args_enumerate_next_1 _))))
theorem Sb {e it l:Addr} {i:Nat} {c:Int} {xs:Array Value} {old:Value} {Q:Option Value→Shared→Prop} (hh:A.handled=none)
  (he:IsEnum s.heap e it c old) (hi:s.heap.IsListIter it l i) (hl:s.heap.IsList l xs) (hx:xs[i]?=none)
  (hQ:∀h',Heap.ExtBut it s.heap h'→Q none { s with heap:=h' }):wpAny (model P w) A (pyNext (.ref e)) Q E s:=by
 have hT:s.TypeIs (.ref e) "enumerate":=⟨_,he,rfl⟩;unfold pyNext;refine wpAny_bind (wpAny_attempt (wpAny_callSpecial?_slot (name:=Str.ofString "__next__") hT F.slot_enumerate_next (wpAny_call_entry F.slot_enumerate_next hT F.entry_enumerate_next ?_ (F.args_enumerate_next_1 _))));show wpAny _ _ (field (.ref e) 2 >>= _) _ _ _;refine wpAny_bind (wpAny_field he rfl (x:= .ref it) rfl (wpAny_bind (wpAny_nextOf_list_end hh hi hl hx fun h' x b1 b2=>?_)));obtain ⟨o,ho,hc⟩:=b2;exact wpAny_bind (wpAny_isInstance (T:="StopIteration") (b:=true) ⟨o,ho,hc⟩ isSubtype_stop (wpAny_pure (hQ _ b1)))
end
end Ui
namespace L2
open PySem PySem.Spec PyProof.Rows
def Pq (K:PySem.W.Frag) (a:Addr) (z:Int):It :=
 ⟨fun i H=>∃(xs:List V) (x:V),kd K H a xs∧xs[i]?=some x,fun i H v H'=>∃T x,v=.ref T∧H T=none∧H'=upd H T (.tup [.int (z+(i:Nat)),x])∧∀xs,kd K H a xs→xs[i]?=some x,fun i H=>∃xs:List V,kd K H a xs∧xs.length≤i⟩
theorem J9 {P:Program} {w:World} {K:PySem.W.Frag} {elts:List Expr} {kk:Nat} {wx:Pos} (a e it:Addr) (z:Int) :
  Turn P w K (.Tuple elts kk wx) (Pq K a z) [e,it] e (fun i h=>(∃old,IsEnum h e it (z+(i:Nat)) old)∧h.IsListIter it a i∧e≠it) where
 mem:=by simp
 obj:=fun i h st b hb=>by
  obtain ⟨⟨old,he⟩,⟨o,ho,hc,hd⟩,_⟩:=st;have e':b=e∨b=it:=by simpa using hb
  rcases e' with z|z
  ·rw [z];exact ⟨_,he,fun v q=>nomatch q⟩
  ·rw [z];exact ⟨o,ho,fun v q=>by rw [hd] at q;cases q⟩
 keep:=fun i h h' st k=>let ⟨⟨old,he⟩,hi,lP⟩:=st;⟨⟨old,k e (by simp) _ he⟩,hi.at fun o q=>k it (by simp) o q,lP⟩
 item:=by
  intro X hP hw hK hc i pins s σ H E I hf st hg;subst hP hw hK;obtain ⟨⟨old,he⟩,hit,lP⟩:=st;obtain ⟨xs,x,hq,hx⟩:=hg;obtain ⟨bI,rv,p,hz⟩:=I.list hq;obtain ⟨u,hu,ru⟩:=rv.get hx;have Wi:e<s.heap.objs.size:=Heap.lt_size he;have WB:it<s.heap.objs.size:=by obtain ⟨_,q,_⟩:=hit;exact Heap.lt_size q
  refine Ui.Qk he hit p.isList (x:=u) (by simpa using hu) lP fun h' ho RF hT hsz hk=>?_;refine ⟨_,rfl,wpAny_letOwnedTupleGo_enum (s:={ s with heap:=h',toks:=s.toks+1 }) ho fun MV Yp sb=>?_⟩;have Wg:MV.get? s.heap.objs.size=some { cls:= .type "tuple",data:= .seq #[.int (z+(i:Nat)) s.toks,u] }:=(sb.2 _ (Nat.ne_of_gt Wi)).trans hT;have new:gY X.prog X.w (upd H s.heap.objs.size (.tup [.int (z+(i:Nat)),x])) MV s.heap.objs.size (.tup [.int (z+(i:Nat)),x]) :=
   ⟨by show 2≤sizeLine;decide,[.int (z+(i:Nat)) s.toks,u],.cons ⟨_,rfl⟩ (.cons ru .nil),⟨_,Wg,rfl,_,rfl⟩⟩
  have I1:Inv X pins σ (upd H s.heap.objs.size (.tup [.int (z+(i:Nat)),x])) { s with heap:=MV,toks:=s.toks+1 } :=
   I.zi (ch:=[e,it]) (fun b ob hb q=>(sb.2 b (fun z=>hb (by simp [z]))).trans (hk b ob (fun z=>hb (by simp [z])) (fun z=>hb (by simp [z])) q)) hf (Nat.le_refl _) new
  refine ⟨.ref s.heap.objs.size,_,I1,rfl,⟨_,x,rfl,I.cZ.fresh (Nat.le_refl _),rfl,fun ys hy=>by rw [I.t7 hy hq];exact hx⟩,⟨⟨u,?_⟩,RF.at fun o q=>(sb.2 it (Ne.symm lP)).trans q,lP⟩,fun b hb=>?_⟩
  ·have e1:z+((i+1:Nat):Int)=z+(i:Int)+1:=by omega
   rw [e1];exact Yp
  ·have QQ:b<s.heap.objs.size:=by
    have e':b=e∨b=it:=by simpa using hb
    rcases e' with z|z
    ·rw [z];exact Wi
    ·rw [z];exact WB
   rw [aF (Nat.ne_of_lt QQ)];exact (hf b hb).1
 done:=by
  intro X hP hw hK hc i pins s σ H E I hf st hg;subst hP hw hK;obtain ⟨⟨old,he⟩,hit,lP⟩:=st;obtain ⟨xs,hq,hx⟩:=hg;obtain ⟨bI,rv,p,hz⟩:=I.list hq;obtain ⟨f0,f1,f2,f3,f4,f5⟩:=hf it (by simp);have hl:=rv.length;exact Ui.Sb (I.ok.hd hc) he hit p.isList (by simp;omega) fun h' eb=>⟨rfl,I.turned (t':=s.toks) (fun b o hb q=>eb b o hb q) f0 f1 f3 f4 f5⟩
 self:=fun A i s Q E st h=>let ⟨⟨_,he⟩,_⟩:=st;wpAny_pyIter_enum he h
def OP (K:PySem.W.Frag) (ta:TA):TI:=fun σ H R=>ta σ H fun vs H1=>∃a xs,vs=[.ref a]∧kd K H1 a xs∧R (Pq K a 1) H1
theorem OA {K:PySem.W.Frag} {ta:TA} {σ:L2.St} {H:Hp} {R:It→Hp→Prop}:OP K ta σ H R=(ta σ H fun vs H1=>∃a xs,vs=[.ref a]∧kd K H1 a xs∧R (Pq K a 1) H1):=rfl
theorem JF (M:Model) (T:String) (h:Heap):∃k,(k=Keeper.frame∨k=Keeper.machine∨k=Keeper.boundFrame)∧PySem.W.Looks M h (keeperOf (.type T)) k:=by
 exact ⟨.machine,.inr (.inl rfl),fun A Q E s _ q=>wpAny_pure q⟩
theorem Oc {X:Cx} {e:Expr} {ta:TA} {p pos wx PV oT:Pos} {j} {elts:List Expr} {kk:Nat} (hg:Gl X "enumerate") (hm:X.mg "enumerate"=none) (ha:PA X [e] ta) (hs:starEach [e] X.env=[(false,eval e X.env)]:=by rfl) :
  PI X (.Tuple elts kk wx) (.Call (.Name "enumerate" p) [e] [⟨some "start",.Constant (.int 1) j oT,PV⟩] pos) (OP X.K ta):=by
 intro pins s σ H R I h;refine wpAny_Call_Name_kw (vZ I hg hm boot_enumerate ?_);refine PySem.W.callWith_of (P:=fun _=>True) (by rw [hs];rfl) (fun h _=>JF _ _ h) (evalArgs_kw2 (kws:=[⟨some "start",.Constant (.int 1) j oT,PV⟩]) rfl (fm (ha pos pins s σ H _ I h) fun us s1 z1=>?_) hs);obtain ⟨vs,H1,I1,r1,q1⟩:=z1;obtain ⟨a,xs,ex,hq,q⟩:=q1;subst ex
 cases r1 with
 |cons r rr =>
  cases rr
  cases r;refine fm (QM aI Th pos pins s1 σ H1 (fun zs H2=>zs=[.int 1]∧H2=H1) I1 ⟨rfl,rfl⟩) fun ks s2 ⟨zs,H2,I2,rz,ez,eH⟩=>⟨trivial,?_⟩;subst ez eH
  cases rz with
  |cons rk rn =>
   cases rn;obtain ⟨t,rfl⟩:=rk;obtain ⟨bI,rv,p',hz⟩:=I2.list hq;refine Ui.QG p'.isList fun h' he hit hsz hk=>wpAny_pyIter_enum he ?_;have I3:Inv X pins σ H2 { s2 with heap:=h' }:=I2.kept (t':=s2.toks) hk;refine ⟨s2.heap.objs.size+1,[s2.heap.objs.size+1,s2.heap.objs.size],_,_,H2,rfl,I3,J9 a (s2.heap.objs.size+1) s2.heap.objs.size 1,⟨⟨.none,he⟩,hit,Nat.succ_ne_self _⟩,fun b hb=>?_,q⟩;have e':b=s2.heap.objs.size+1∨b=s2.heap.objs.size:=by simpa using hb
   have hle:s2.heap.objs.size≤b:=by
    rcases e' with z|z
    ·rw [z];exact Nat.le_add_right _ _
    ·rw [z];exact Nat.le_refl _
   exact I2.Fw hle (I2.cZ.fresh hle)
end L2
end
section
namespace L2
open PySem PySem.Spec PyProof.Rows
mutual
def uN:PyData→Bool
 | .int _=>true
 | .tuple xs=>lJ xs
 |_=>false
def lJ:List PyData→Bool
 |[]=>true
 |x::xs=>uN x&&lJ xs
end
mutual
def Ej:PyData→Int
 | .int i=>hashInt i
 | .tuple xs=>reduceHash (Builtin.Tuple.tupleHashOf (kY xs))
 |_=>0
def kY:List PyData→List Int
 |[]=>[]
 |x::xs=>Ej x::kY xs
end
mutual
def Ez:PyData→Nat
 | .tuple xs=>qy xs+1
 |_=>1
def qy:List PyData→Nat
 |[]=>0
 |x::xs=>Ez x+qy xs
end
mutual
def JN:PyData→Nat
 | .tuple xs=>xN xs+1
 |_=>0
def xN:List PyData→Nat
 |[]=>0
 |x::xs=>max (JN x) (xN xs)
end
section
variable {P:Program} {w:World}
def zu (P:Program) (w:World) (A:Around) (h:Heap) (d:PyData) (v:Value):Prop:=∀(E:Value→Shared→Prop) (s:Shared) (Q:Int→Shared→Prop),s.heap=h→Q (Ej d) { s with toks:=s.toks+Ez d }→wpAny (model P w) A (pyHash v) Q E s
def yu (P:Program) (w:World) (A:Around) (h:Heap) (n:Nat) (v:Value):Prop:=∀(E:Value→Shared→Prop) (s:Shared) (Q:Bool→Shared→Prop),s.heap=h→Q true s→wpAny (model P w) A (eqIsQuiet n v) Q E s
theorem OW {A:Around} {h:Heap} {a:Addr} {o:Obj} {vs:Array Value} {n:Nat} {xs:List PyData} (hu:A.units<cLine) (ho:h.get? a=some o) (hc:o.cls=.type "tuple") (hd:o.data=.seq vs n) (hp:Paired (zu P w A.in1 h) xs vs.toList):zu P w A h (.tuple xs) (.ref a):=by
 intro E s Q eh q;subst eh;have hT:s.TypeIs (.ref a) "tuple":=⟨o,ho,hc⟩;unfold pyHash
 first|unfold pyHashByItsType|skip
 first|refine wpAny_bind (wpAny_cRoomFor_or (Or.inr hu) ?_)|skip
 refine wpAny_bind (wpAny_specialOf hT PySem.F.slot_tuple_hash.lookup ?_);show wpAny _ _ (if (some (Value.builtin "tuple.__hash__")==some Value.none)=true then _ else _) _ _ _
 rw [if_neg (by rw [beq_builtin_none];decide)];refine wpAny_bind (wpAny_specialOf hT PySem.F.slot_tuple_hash.lookup ?_);show wpAny _ _ (callSpecialIfBoundUnlessNone? (.ref a) "__hash__" _ >>= _) _ _ _;refine wpAny_bind (wpAny_callSpecialIfBoundUnlessNone?_slot hT PySem.F.slot_tuple_hash (wpAny_call_entry PySem.F.slot_tuple_hash hT PySem.F.entry_tuple_hash ?_ (PySem.F.args_tuple_hash_1 _)));show wpAny _ _ (Builtin.Tuple.tupleItemsOf (.ref a) >>= _) _ _ _;refine wpAny_bind (wpAny_tupleItemsOf ho hd (wpAny_bind ?_));rw [←Array.forIn_toList];refine wpAny_forIn_list _
  (fun rest (b:Array Int) s'=>∃left t,Paired (zu P w A.in1 s.heap) left rest∧b.toList++kY left=kY xs∧t+qy left=s.toks+qy xs∧s'={ s with toks:=t })
  _ ?_ ?_ _ _ ⟨xs,s.toks,hp,rfl,rfl,rfl⟩
 ·intro x rest b s' z1;obtain ⟨left,t,hl,hb,ht,rfl⟩:=z1
  cases hl with
  |@cons d _ ds _ h1 KL =>
   have fin:∃left t',Paired (zu P w A.in1 s.heap) left rest∧(b.push (Ej d)).toList++kY left=kY xs∧t'+qy left=s.toks+qy xs∧({ s with toks:=t+Ez d }:Shared)={ s with toks:=t' } :=
    ⟨ds,t+Ez d,KL,by rw [←hb];simp [kY],by rw [←ht];simp [qy];omega,rfl⟩
   refine wpAny_bind (h1 _ _ _ rfl ?_)
   first
    |exact wpAny_pure fin
    |exact wpAny_bind (wpAny_pure (wpAny_pure fin))
 ·intro b s' z1;obtain ⟨left,t,hl,hb,ht,rfl⟩:=z1
  cases hl;have hb:b.toList=kY xs:=by rw [←hb];simp [kY]
  have ht:t=s.toks+qy xs:=by rw [←ht];simp [qy]
  subst ht;show wpAny _ _ (retInt (Builtin.Tuple.tupleHashOf b.toList)) _ _ _;rw [hb];refine wpAny_ret_mkInt ?_;show wpAny _ _ (if (decide (-(2:Int) ^ 63≤Builtin.Tuple.tupleHashOf (kY xs))&&decide (Builtin.Tuple.tupleHashOf (kY xs)<2 ^ 63))=true then _ else _) _ _ _
  rw [Ej,Ez] at q;unfold reduceHash at q;by_cases hr:(decide (-(2:Int) ^ 63≤Builtin.Tuple.tupleHashOf (kY xs))&&decide (Builtin.Tuple.tupleHashOf (kY xs)<2 ^ 63))=true
  ·rw [if_pos hr] at q ⊢;exact wpAny_pure (by simpa [Nat.add_assoc] using q)
  ·rw [if_neg hr] at q ⊢;exact wpAny_bind (wpAny_rule (wpAny_pure (by simpa [Nat.add_assoc] using q)))
theorem ML {A:Around} {h:Heap} {a:Addr} {o:Obj} {vs:Array Value} {n m:Nat} (ho:h.get? a=some o) (hc:o.cls=.type "tuple") (hd:o.data=.seq vs n) (hp:∀v∈vs.toList,yu P w A h m v):yu P w A h (m+1) (.ref a):=by
 intro E s Q eh q;subst eh;have hT:s.TypeIs (.ref a) "tuple":=⟨o,ho,hc⟩;unfold eqIsQuiet;refine wpAny_bind (wpAny_specialOf hT PySem.F.slot_tuple_eq.lookup ?_);show wpAny _ _ (isInstance (.ref a) (.type "tuple") >>= _) _ _ _;refine wpAny_bind (wpAny_isInstance hT isSubtype_tuple_tuple ?_);simp only [Bool.not_true,Bool.false_eq_true,if_false];refine wpAny_bind (wpAny_seqItems ho hd (wpAny_bind ?_));show wpAny _ _ (forIn vs _ _) _ _ _;rw [←Array.forIn_toList];refine wpAny_forIn_list _ (fun rest r s'=>r.1=none∧s'=s∧∀v∈rest,yu P w A s.heap m v) _ ?_ ?_ _ _ ⟨rfl,rfl,hp⟩
 ·intro v rest r s' z1;obtain ⟨hr,rfl,mH⟩:=z1;refine wpAny_bind (mH v List.mem_cons_self _ _ _ rfl ?_);simp only [Bool.not_true,Bool.false_eq_true,if_false];exact wpAny_pure ⟨rfl,rfl,fun u Rv=>mH u (List.mem_cons_of_mem v Rv)⟩
 ·intro z1 s' z2;obtain ⟨r1,r2⟩:=z1;obtain ⟨hr,rfl,_⟩:=z2
  cases (show r1=none from hr)
  exact wpAny_pure q
mutual
theorem Cq:∀(d:PyData) (A:Around) (h:Heap) (v:Value) (as:List Addr),Reads h v d as→uN d=true→A.units+d.depth<cLine→zu P w A h d v
 | .int i,A,h,v,as,r,_,_=>by
  cases r;intro E s Q eh q;exact wpAny_pyHash_int q
 | .tuple xs,A,h,v,as,r,hk,hu=>by
  cases r with
  |tuple h1 h2 h3 h4 =>
   have Rv:A.units+(PyData.depthAll xs+1)<cLine:=hu;exact OW (by omega) h1 h2 h3 (vf xs A.in1 h _ _ h4 hk (show A.units+1+_<_ by omega))
 | .none,_,_,_,_,_,hk,_=>nomatch hk
 | .bool _,_,_,_,_,_,hk,_=>nomatch hk
 | .str _,_,_,_,_,_,hk,_=>nomatch hk
 | .list _,_,_,_,_,_,hk,_=>nomatch hk
 | .dict _,_,_,_,_,_,hk,_=>nomatch hk
theorem vf:∀(xs:List PyData) (A:Around) (h:Heap) (vs:List Value) (as:List Addr),ReadsAll h vs xs as→lJ xs=true→A.units+PyData.depthAll xs<cLine→Paired (zu P w A h) xs vs
 |[],_,_,_,_,r,_,_=>by cases r;exact .nil
 |x::xs,A,h,_,_,r,hk,hu=>by
  have MB:=Bool.and_eq_true_iff.mp (show (uN x&&lJ xs)=true from hk)
  have Rv:A.units+max (PyData.depth x) (PyData.depthAll xs)<cLine:=hu
  cases r with
  |cons r1 r2=>exact .cons (Cq x A h _ _ r1 MB.1 (by omega)) (vf xs A h _ _ r2 MB.2 (by omega))
end
mutual
theorem zY:∀(d:PyData) (A:Around) (h:Heap) (v:Value) (as:List Addr) (m:Nat),Reads h v d as→uN d=true→JN d≤m→yu P w A h m v
 | .int i,A,h,v,as,m,r,_,_=>by
  cases r;intro E s Q eh q;rw [eqIsQuiet_byValue m rfl];exact wpAny_pure q
 | .tuple xs,A,h,v,as,m,r,hk,hu=>by
  cases r with
  |tuple h1 h2 h3 h4 =>
   have Rv:xN xs+1≤m:=hu
   cases m with
   |zero=>omega
   |succ m=>exact ML h1 h2 h3 (sA xs A h _ _ m h4 hk (by omega))
 | .none,_,_,_,_,_,_,hk,_=>nomatch hk
 | .bool _,_,_,_,_,_,_,hk,_=>nomatch hk
 | .str _,_,_,_,_,_,_,hk,_=>nomatch hk
 | .list _,_,_,_,_,_,_,hk,_=>nomatch hk
 | .dict _,_,_,_,_,_,_,hk,_=>nomatch hk
theorem sA:∀(xs:List PyData) (A:Around) (h:Heap) (vs:List Value) (as:List Addr) (m:Nat),ReadsAll h vs xs as→lJ xs=true→xN xs≤m→∀v∈vs,yu P w A h m v
 |[],_,_,_,_,_,r,_,_=>by
  cases r;intro v hv
  cases hv
 |x::xs,A,h,_,_,m,r,hk,hu=>by
  have MB:=Bool.and_eq_true_iff.mp (show (uN x&&lJ xs)=true from hk)
  have Rv:max (JN x) (xN xs)≤m:=hu
  cases r with
  |cons r1 r2 =>
   intro v hv;rcases List.mem_cons.mp hv with rfl|hv
   ·exact zY x A h _ _ m r1 MB.1 (by omega)
   ·exact sA xs A h _ _ m r2 MB.2 (by omega) v hv
end
mutual
theorem yG:∀d:PyData,uN d=true→d.canLay0=true
 | .int _,_=>rfl
 | .tuple xs,h=>Bz xs h
 | .none,h=>nomatch h
 | .bool _,h=>nomatch h
 | .str _,h=>nomatch h
 | .list _,h=>nomatch h
 | .dict _,h=>nomatch h
theorem Bz:∀xs:List PyData,lJ xs=true→PyData.canLayAll0 xs=true
 |[],_=>rfl
 |x::xs,h=>by
  have h':=Bool.and_eq_true_iff.mp (show (uN x&&lJ xs)=true from h)
  show (x.canLay0&&PyData.canLayAll0 xs)=true;rw [yG x h'.1,Bz xs h'.2];rfl
end
mutual
theorem Ee {h h':Heap} (k:∀(b:Addr) (ob:Obj),h.get? b=some ob→∀vs n,ob.data=.seq vs n→h'.get? b=some ob):∀(d:PyData) (v:Value) (as:List Addr),Reads h v d as→uN d=true→Reads h' v d as
 | .int i,v,as,r,_=>by
  cases r;exact Reads.int i _
 | .tuple xs,v,as,r,hk=>by
  cases r with
  |tuple h1 h2 h3 h4=>exact Reads.tuple (k _ _ h1 _ _ h3) h2 h3 (xq k xs _ _ h4 hk)
 | .none,_,_,_,h=>nomatch h
 | .bool _,_,_,_,h=>nomatch h
 | .str _,_,_,_,h=>nomatch h
 | .list _,_,_,_,h=>nomatch h
 | .dict _,_,_,_,h=>nomatch h
theorem xq {h h':Heap} (k:∀(b:Addr) (ob:Obj),h.get? b=some ob→∀vs n,ob.data=.seq vs n→h'.get? b=some ob):∀(xs:List PyData) (vs:List Value) (as:List Addr),ReadsAll h vs xs as→lJ xs=true→ReadsAll h' vs xs as
 |[],_,_,r,_=>by
  cases r;exact ReadsAll.nil
 |x::xs,_,_,r,h=>by
  have h':=Bool.and_eq_true_iff.mp (show (uN x&&lJ xs)=true from h)
  cases r with
  |cons r1 r2=>exact ReadsAll.cons (Ee k x _ _ r1 h'.1) (xq k xs _ _ r2 h'.2)
end
mutual
theorem LG:∀d e:PyData,uN d=true→uN e=true→PyData.eqv d e=true→d=e
 | .int i,.int j,_,_,h=>by
  have:i=j:=by simpa [PyData.eqv] using h
  rw [this]
 | .tuple xs,.tuple ys,h1,h2,h=>by
  rw [PyData.eqv] at h;rw [BG xs ys h1 h2 h]
 | .int _,.tuple _,_,_,h=>by simp [PyData.eqv] at h
 | .tuple _,.int _,_,_,h=>by simp [PyData.eqv] at h
 | .none,_,h,_,_=>nomatch h
 | .bool _,_,h,_,_=>nomatch h
 | .str _,_,h,_,_=>nomatch h
 | .list _,_,h,_,_=>nomatch h
 | .dict _,_,h,_,_=>nomatch h
 |_,.none,_,h,_=>nomatch h
 |_,.bool _,_,h,_=>nomatch h
 |_,.str _,_,h,_=>nomatch h
 |_,.list _,_,h,_=>nomatch h
 |_,.dict _,_,h,_=>nomatch h
theorem BG:∀xs ys:List PyData,lJ xs=true→lJ ys=true→PyData.eqvAll xs ys=true→xs=ys
 |[],[],_,_,_=>rfl
 |[],_::_,_,_,h=>by simp [PyData.eqvAll] at h
 |_::_,[],_,_,h=>by simp [PyData.eqvAll] at h
 |x::xs,y::ys,h1,h2,h=>by
  have Ts:=Bool.and_eq_true_iff.mp (show (uN x&&lJ xs)=true from h1)
  have Pa:=Bool.and_eq_true_iff.mp (show (uN y&&lJ ys)=true from h2)
  have h':=Bool.and_eq_true_iff.mp (show (PyData.eqv x y&&PyData.eqvAll xs ys)=true by simpa [PyData.eqvAll] using h);rw [LG x y Ts.1 Pa.1 h'.1,BG xs ys Ts.2 Pa.2 h'.2]
end
end
abbrev NK:=Int×List (Option (Int×Int))
def lX:Option (Int×Int)→PyData
 |none=>.tuple []
 |some x=>.tuple [.int x.1,.int x.2]
def G3 (k:NK):PyData:= .tuple [.int k.1,.tuple (k.2.map lX)]
theorem Nm {a b:Option (Int×Int)} (h:lX a=lX b):a=b:=by
 cases a with
 |none =>
  cases b with
  |none=>rfl
  |some y=>simp [lX] at h
 |some x =>
  cases b with
  |none=>simp [lX] at h
  |some y =>
   simp [lX] at h;exact congrArg some (Prod.ext h.1 h.2)
theorem Er:∀{l m:List (Option (Int×Int))},l.map lX=m.map lX→l=m
 |[],[],_=>rfl
 |[],_::_,h=>by simp at h
 |_::_,[],h=>by simp at h
 |x::l,y::m,h=>by
  rw [List.map_cons,List.map_cons] at h
  injection h with h1 h2
  rw [Nm h1,Er h2]
theorem K8 {a b:NK} (h:G3 a=G3 b):a=b:=by
 unfold G3 at h
 injection h with h
 injection h with h1 h2
 injection h1 with h1
 injection h2 with h2 _
 injection h2 with h2
 refine Prod.ext h1 ?_;exact Er h2
theorem xE:∀l:List (Option (Int×Int)),lJ (l.map lX)=true∧xN (l.map lX)≤1∧PyData.depthAll (l.map lX)≤2
 |[]=>⟨rfl,Nat.zero_le _,Nat.zero_le _⟩
 |x::l=>by
  obtain ⟨h1,h2,h3⟩:=xE l;have q:uN (lX x)=true∧JN (lX x)≤1∧(lX x).depth≤2:=by
   cases x with
   |none=>exact ⟨rfl,by decide,by decide⟩
   |some x=>exact ⟨rfl,by simp [lX,JN,xN],by simp [lX,PyData.depth,PyData.depthAll]⟩
  refine ⟨?_,?_,?_⟩
  ·show (uN (lX x)&&lJ (l.map lX))=true;rw [q.1,h1];rfl
  ·show max (JN (lX x)) (xN (l.map lX))≤1;omega
  ·show max (PyData.depth (lX x)) (PyData.depthAll (l.map lX))≤2;omega
theorem qo (k:NK):uN (G3 k)=true:=by
 show (true&&(lJ (k.2.map lX)&&true))=true;rw [(xE k.2).1];rfl
theorem Tt (k:NK):JN (G3 k)≤8:=by
 have:=(xE k.2).2.1;show max 0 (max (xN (k.2.map lX)+1) 0)+1≤8;omega
theorem Iu (k:NK):(G3 k).depth≤5:=by
 have:=(xE k.2).2.2;have e:(G3 k).depth=max (PyData.depth (.int k.1)) (max (PyData.depthAll (k.2.map lX)+1) 0)+1:=rfl;have e2:PyData.depth (.int k.1)≤1:=Nat.zero_le 1;omega
def JC (P:Program) (w:World):HeapKind P w NK where
 is:=fun h k a=>∃as,Reads h (.ref a) (G3 k) as
 hash:=fun k=>Ej (G3 k)
 draws:=fun k=>Ez (G3 k)
 room:=fun A=>A.units+5<cLine
 inj:=fun z1 z2=>(by obtain ⟨_,hx⟩:=z1;obtain ⟨_,hy⟩:=z2;exact K8 (SeqAt.Reads.unique _ _ _ _ _ (yG _ (qo _)) hx hy))
 keeps:=fun {h h' k a d o es ep} ⟨as,x⟩ ho hd hs=>⟨as,Ee (fun b ob hb vs n hq=>(hs.2 b fun e=>by
  subst e;rw [ho] at hb
  cases hb;rw [hd] at hq
  cases hq).trans hb) _ _ _ x (qo k)⟩
 pyHash:=fun {A E s k a Q} hu ⟨as,hk⟩ h=>Cq _ A s.heap _ as hk (qo k) (by have:=Iu k;omega) E s Q rfl h
 eqBool:=fun {A E s x y a b Q} hu ⟨as,hx⟩ ⟨bs,hy⟩ h=>SeqAt.eqAt_reads (G3 x) (G3 y) A s _ _ as bs hx hy (yG _ (qo x)) (yG _ (qo y)) (by have:=Iu x;omega) P w E Q (by
  have e:PyData.eqv (G3 x) (G3 y)=decide (x=y):=by
   by_cases c:x=y
   ·subst c;rw [decide_eq_true rfl];exact SeqAt.eqv_refl _ (yG _ (qo x))
   ·rw [decide_eq_false c]
    cases q:PyData.eqv (G3 x) (G3 y) with
    |false=>rfl
    |true=>exact absurd (K8 (LG _ _ (qo x) (qo y) q)) c
  rw [e];exact h)
 quiet:=fun {A E s k a Q} ⟨as,hk⟩ h=>zY _ A s.heap _ as 8 hk (qo k) (Tt k) E s Q rfl h
def jF (a:Addr) (xs:List (NK×Addr×Bool)):HO:= .ext fun h=>(a==sysModules)=false∧∃o es ep,h.get? a=some o∧o.ExactDict∧o.data=.dict es ep∧es.toList=xs.map (fun x=>(⟨Ej (G3 x.1),.ref x.2.1,.bool x.2.2⟩:DictEntry))∧(xs.map (·.1)).Nodup
def PM:Option (Int×Int)→List V
 |none=>[]
 |some x=>[.int x.1,.int x.2]
def fF (H:Hp) (k:NK) (b:Addr):Prop:=∃c bs,H b=some (.tup [.int k.1,.ref c])∧H c=some (.tup (bs.map V.ref))∧Paired (fun x y=>H y=some (.tup (PM x))) k.2 bs
theorem fF.mono {H H':Hp} {k:NK} {b:Addr} (h:fF H k b) (m:∀c ys,H c=some (.tup ys)→H' c=some (.tup ys)):fF H' k b:=by
 obtain ⟨c,bs,h1,h2,h3⟩:=h;exact ⟨c,bs,m _ _ h1,m _ _ h2,Paired.Qe h3 fun _ _ z=>m _ _ z⟩
theorem PD {K:PySem.W.Frag} {H:Hp} {l:List (Option (Int×Int))} {bs:List Addr} (h:Paired (fun x y=>H y=some (.tup (PM x))) l bs):tL K H (bs.map V.ref) (l.map lX):=by
 induction h with
 |nil=>exact .nil
 |@cons x b l bs h1 _ ih =>
  refine .cons ?_ ih
  cases x with
  |none=>exact .tup (.of h1) .nil
  |some x=>exact .tup (.of h1) (.cons (.int _) (.cons (.int _) .nil))
theorem fF.dp {K:PySem.W.Frag} {H:Hp} {k:NK} {b:Addr} (h:fF H k b):Dp K H (.ref b) (G3 k):=by
 obtain ⟨c,bs,h1,h2,h3⟩:=h;exact .tup (.of h1) (.cons (.int _) (.cons (.tup (.of h2) (PD h3)) .nil))
def memoGet (xs:List (NK×Addr×Bool)) (k:NK):Option Bool:=(xs.find? fun x=>decide (x.1=k)).map (·.2.2)
def memoPut (xs:List (NK×Addr×Bool)) (k:NK) (b:Addr) (v:Bool):List (NK×Addr×Bool):=if (memoGet xs k).isSome=true then xs.map (fun x=>if x.1=k then (x.1,x.2.1,v) else x) else xs++[(k,b,v)]
theorem FO (xs:List (NK×Addr×Bool)) (k:NK) (b:Addr) (v:Bool):memoGet (memoPut xs k b v) k=some v:=by
 unfold memoPut;by_cases c:(memoGet xs k).isSome=true
 ·rw [if_pos c];unfold memoGet at c ⊢
  induction xs with
  |nil=>simp at c
  |cons x xs ih =>
   by_cases e:x.1=k
   ·simp [List.find?_cons,e]
   ·simp only [List.map_cons,List.find?_cons,e,decide_false,if_false] at c ⊢;exact ih c
 ·rw [if_neg c];unfold memoGet at c ⊢;rw [List.find?_append]
  cases q:xs.find? (fun x=>decide (x.1=k)) with
  |none=>simp
  |some y =>
   rw [q] at c;simp at c
theorem Ht {xs:List (NK×Addr×Bool)} {k:NK} {v:Bool} (h:memoGet xs k=some v):∃x∈xs,x.1=k∧x.2.2=v:=by
 unfold memoGet at h;obtain ⟨x,hx,e⟩:=Option.map_eq_some_iff.mp h;exact ⟨x,List.mem_of_find?_eq_some hx,by simpa using List.find?_some hx,e⟩
theorem Iq {xs:List (NK×Addr×Bool)} {k:NK} (h:memoGet xs k=none):k∉xs.map (·.1):=by
 unfold memoGet at h;intro m;obtain ⟨x,hx,e⟩:=List.mem_map.mp m;have:=List.find?_eq_none.mp (Option.map_eq_none_iff.mp h) x hx;exact this (by simpa using e)
theorem Ai {xs:List (NK×Addr×Bool)} {k:NK} {b:Addr} {v:Bool} {y:NK×Addr×Bool} (h:y∈memoPut xs k b v):y∈xs∨(y.1=k∧y.2.2=v∧(y.2.1=b∨∃x∈xs,x.1=k∧x.2.1=y.2.1)):=by
 unfold memoPut at h;by_cases c:(memoGet xs k).isSome=true
 ·rw [if_pos c] at h;obtain ⟨x,hx,rfl⟩:=List.mem_map.mp h;by_cases e:x.1=k
  ·rw [if_pos e];exact .inr ⟨e,rfl,.inr ⟨x,hx,e,rfl⟩⟩
  ·rw [if_neg e];exact .inl hx
 ·rw [if_neg c] at h;rcases List.mem_append.mp h with h|h
  ·exact .inl h
  ·have:y=(k,b,v):=by simpa using h
   subst this;exact .inr ⟨rfl,rfl,.inl rfl⟩
theorem DH {xs:List (NK×Addr×Bool)} (k:NK) (b:Addr) (v:Bool) (h:(xs.map (·.1)).Nodup):((memoPut xs k b v).map (·.1)).Nodup:=by
 unfold memoPut;by_cases c:(memoGet xs k).isSome=true
 ·rw [if_pos c,List.map_map];have e:((fun x:NK×Addr×Bool=>x.1) ∘ fun x:NK×Addr×Bool=>if x.1=k then (x.1,x.2.1,v) else x)=fun x=>x.1:=by
   funext x
   show (if x.1=k then (x.1,x.2.1,v) else x).1=x.1
   by_cases z:x.1=k
   ·rw [if_pos z]
   ·rw [if_neg z]
  rw [e];exact h
 ·rw [if_neg c,List.map_append];have hn:memoGet xs k=none:=by
   cases q:memoGet xs k with
   |none=>rfl
   |some y =>
    rw [q] at c;simp at c
  rw [List.nodup_append];refine ⟨h,by simp,fun a ha b' QQ z=>?_⟩;have:b'=k:=by simpa using QQ
  subst this;subst z;exact Iq hn ha
def tO (xs:List (NK×Addr×Bool)):List (NK×Addr×Value):=xs.map fun x=>(x.1,x.2.1,Value.bool x.2.2)
theorem KO (xs:List (NK×Addr×Bool)) (k:NK):(atKey (tO xs) k).map (·.2)=(memoGet xs k).map Value.bool:=by
 unfold atKey memoGet tO
 induction xs with
 |nil=>rfl
 |cons x xs ih =>
  by_cases e:x.1=k
  ·simp [List.find?_cons,e]
  ·simp only [List.map_cons,List.find?_cons,e,decide_false];exact ih
section
variable {X:Cx} {pins:List (Addr×Obj)} {σ:St} {H:Hp} {s:Shared} {a b:Addr} {k:NK} {xs:List (NK×Addr×Bool)} {A:Around} {E:Value→Shared→Prop}
theorem fF.is (I:Inv X pins σ H s) (h:fF H k b):(JC X.prog X.w).is s.heap k b:=Dp.reads I _ _ _ h.dp rfl
theorem Gs (I:Inv X pins σ H s) (e:H a=some (jF a xs)) (hk:∀x∈xs,fF H x.1 x.2.1):(a==sysModules)=false∧s.heap.DictOfH (JC X.prog X.w) a (tO xs):=by
 obtain ⟨⟨h0,o,es,ep,h1,h2,h3,h4,h5⟩,_⟩:=(show gY X.prog X.w H s.heap a (jF a xs) from I.cZ a _ e)
 refine ⟨h0,o,es,ep,h1,h2,h3,?_,fun x hx=>?_,?_⟩
 ·rw [h4];unfold tO;rw [List.map_map];rfl
 ·unfold tO at hx;obtain ⟨y,hy,rfl⟩:=List.mem_map.mp hx;exact fF.is I (hk y hy)
 ·unfold tO;rw [List.map_map];exact h5
theorem Lk {P:Program} {w:World} {H':Hp} {h':Heap} (h0:(a==sysModules)=false) (dd:h'.DictOfH (JC P w) a (tO xs)):gY P w H' h' a (jF a xs):=by
 obtain ⟨o,es,ep,h1,h2,h3,h4,_,h5⟩:=dd;refine ⟨⟨h0,o,es,ep,h1,h2,h3,?_,?_⟩,⟨o,h1⟩,?_⟩
 ·rw [h4];unfold tO;rw [List.map_map];rfl
 ·unfold tO at h5;rw [List.map_map] at h5;exact h5
 ·intro g1 g2 z1 hg;obtain ⟨q0,o',SO,VP,q1,q2,q3,q4,q5⟩:=z1;exact ⟨q0,o',SO,VP,hg _ q1,q2,q3,q4,q5⟩
theorem Qj (xs:List (NK×Addr×Bool)) (k:NK) (v:Bool):(tO xs).map (putAt k (.bool v))=tO (xs.map fun x=>if x.1=k then (x.1,x.2.1,v) else x):=by
 unfold tO;rw [List.map_map,List.map_map];apply List.map_congr_left;intro x _;show putAt k (.bool v) (x.1,x.2.1,Value.bool x.2.2)=_;unfold putAt;by_cases c:x.1=k
 ·rw [if_pos c];simp only [Function.comp,if_pos c]
 ·rw [if_neg c];simp only [Function.comp,if_neg c]
theorem Ib (xs:List (NK×Addr×Bool)) (k:NK) (b:Addr) (v:Bool):storedH (tO xs) k b (.bool v)=tO (memoPut xs k b v):=by
 have q:=congrArg Option.isSome (KO xs k);rw [Option.isSome_map,Option.isSome_map] at q;unfold storedH memoPut;rw [q];by_cases c:(memoGet xs k).isSome=true
 ·rw [if_pos c,if_pos c,Qj]
 ·rw [if_neg c,if_neg c];unfold tO;rw [List.map_append];rfl
end
def NH (td ty:TE):TE:=fun σ H Q=>td σ H fun x H1=>ty σ H1 fun y H2=>∃a b xs k v,x=.ref a∧y=.ref b∧H2 a=some (jF a xs)∧(∀x∈xs,fF H2 x.1 x.2.1)∧fF H2 k b∧memoGet xs k=some v∧Q (.bl v) H2
def Lx (ty td:TE):TE:=fun σ H Q=>ty σ H fun y H1=>td σ H1 fun x H2=>∃a b xs k,x=.ref a∧y=.ref b∧H2 a=some (jF a xs)∧(∀x∈xs,fF H2 x.1 x.2.1)∧fF H2 k b∧Q (.bl (!(memoGet xs k).isSome)) H2
def QW (td ty tv:TE):TS:=fun D σ H=>tv σ H fun v H1=>td σ H1 fun x H2=>ty σ H2 fun y H3=>∃a b xs k q,v=.bl q∧x=.ref a∧y=.ref b∧H3 a=some (jF a xs)∧(∀x∈xs,fF H3 x.1 x.2.1)∧fF H3 k b∧xs.length<sizeLine ∧
 D.nx σ (upd H3 a (jF a (memoPut xs k b q)))
def UB:TE:=fun _ H Q=>∀p,H p=none→Q (.ref p) (upd H p (jF p []))
section
variable {X:Cx} {o i e value:Expr} {pos pos' wx:Pos} {td ty tv:TE}
theorem PN (hu:X.A.units+64<cLine) (ho:PE X o td) (hi:PE X i ty) (hs:Uw i):PE X (.Subscript o i pos) (NH td ty):=by
 intro pins s σ H Q I h;refine QA PySem.F.slot_dict_getitem.lookup hs (fm (ho pins s σ H _ I h) fun u s1 ⟨x,H1,I1,rx,q1⟩=>fm (hi pins s1 σ H1 _ I1 q1) fun iv s2 z1=>?_);obtain ⟨y,H2,I2,ry,a,b,xs,k,v,ex,ey,g,gk,gb,gv,q2⟩:=z1;subst ex ey;obtain rfl:u=Value.ref a:=rx;obtain rfl:iv=Value.ref b:=ry;obtain ⟨h0,dd⟩:=Gs I2 g gk;have q:=KO xs k;rw [gv] at q;obtain ⟨p,hp,Qh⟩:=Option.map_eq_some_iff.mp q;refine ⟨dd.typeIs,wpAny_getItem_heap (show X.A.units+1+5<cLine by omega) (fF.is I2 gb) dd hp ?_⟩;rw [Qh];exact ⟨.bl v,H2,I2.tok _,rfl,q2⟩
theorem LY (hu:X.A.units+64<cLine) (hi:PE X i ty) (ho:PE X o td):PC X .NotIn i o (Lx ty td):=by
 intro pins s σ H Q I h;refine fm (hi pins s σ H _ I h) fun iv s1 ⟨y,H1,I1,ry,q1⟩=>fm (ho pins s1 σ H1 _ I1 q1) fun u s2 z1=>?_;obtain ⟨x,H2,I2,rx,a,b,xs,k,ex,ey,g,gk,gb,q2⟩:=z1;subst ex ey;obtain rfl:u=Value.ref a:=rx;obtain rfl:iv=Value.ref b:=ry;obtain ⟨h0,dd⟩:=Gs I2 g gk;refine wpAny_notIn_heap (show X.A.units+1+5<cLine by omega) (fF.is I2 gb) h0 dd ?_;have q:=congrArg Option.isSome (KO xs k);rw [Option.isSome_map,Option.isSome_map] at q;rw [q];exact ⟨.bl (!(memoGet xs k).isSome),H2,I2.tok _,rfl,q2⟩
theorem Qm (hu:X.A.units+64<cLine) (ho:PE X o td) (hi:PE X i ty) (hv:PE X value tv) (hs:swapsWith value (some (.Subscript o i pos')) pos.line X.env=pure false) :
  PS X (.Assign [.Subscript o i pos'] value pos) (QW td ty tv):=by
 intro pins s σ H D I h;refine wpAny_Assign_Subscript (fm (hv pins s σ H _ I h) fun r s1 ⟨v,H1,I1,rv,q1⟩=>fm (ho pins s1 σ H1 _ I1 q1) fun u s2 ⟨x,H2,I2,rx,q2⟩=>fm (hi pins s2 σ H2 _ I2 q2) fun iv s3 z1=>?_) hs;obtain ⟨y,H3,I3,ry,a,b,xs,k,q,ev,ex,ey,g,gk,gb,hz,q3⟩:=z1;subst ex ey ev;obtain rfl:u=Value.ref a:=rx;obtain rfl:iv=Value.ref b:=ry;obtain rfl:r=Value.bool q:=rv;obtain ⟨h0,dd⟩:=Gs I3 g gk;have Wo:(tO xs).length≤sizeLine:=by
  unfold tO;rw [List.length_map];omega
 refine wpAny_setItem_heap (hsz:=Wo) (show X.A.units+1+5<cLine by omega) (fF.is I3 gb) dd fun h' Yc hs=>?_;rw [Ib xs k b q] at Yc;refine ⟨σ, _,?_,q3⟩;exact Pp I3 (by rw [g];exact True.intro) hs (let ⟨q,_,_,hq,_⟩:=Yc;⟨q,hq⟩) (Lk h0 Yc)
theorem Qz:PE X (.Dict [] [] pos) UB:=fun pins s σ H Q I h =>
 wpAny_Dict_empty ⟨.ref s.heap.objs.size,_,I.laid (a:=s.heap.objs.size) (o:=jF s.heap.objs.size []) (t':=s.toks) (fun _ _ q=>Heap.get?_push_of_some _ q) (Nat.le_refl _)
  (Lk (beq_eq_false_iff_ne.mpr (Ne.symm (Nat.ne_of_lt I.big))) (Heap.DictOfH.new s.heap)),rfl,h _ (I.cZ.fresh (Nat.le_refl _))⟩
end
end L2
end
namespace Rp
open PySem PySem.Spec PyProof.Rows L2 Pg
open Vblaai (W Table minW addW at_ least lessW maxW Net timeOf Form Times isStep isName within boundText doneAt Nature size bit Desk isDigit idleFrom onSure reduced isNature Play wRow MOST withLimit searchFrom nums listRow isLetter onPlay Limit onTwo ringed keepsOne ours takeLines allDone)
variable {P:Program} {w:World} {K:PySem.W.Frag} {mg:Str→Option Value} {base:Heap}
local macro_rules | `(‹$x›) => `(($x).mono (by decide))
local macro_rules | `(tactic| right) => `(tactic| exists and_true)
local macro_rules | `(tactic| exists $ts,*) => `(tactic| wp_walk using trivial, L2.OA, $ts,*)
theorem KC {a:Addr} (z:Int) (xs:List V):Wk (Pq K a z) (fun H=>kd K H a xs) xs.length (fun i x H=>∃T y,x=.ref T∧H T=some (.tup [.int (z+(i:Nat)),y])∧xs[i]?=some y) where
 go:=fun i H q h=>⟨xs,xs[i],q,by simp [h]⟩
 JL:=fun i H x H' q h y=>by
  obtain ⟨T,u,e,n,e2,y⟩:=y;subst e2;exact ⟨ax.upd n,T,u,e,aA,y xs q⟩
 stop:=fun H q=>⟨xs,q,Nat.le_refl _⟩
theorem vC (m:Nat):∀(w:List Nat),∀v∈Mt.fG m w,v.length≤w.length
 |[],v,hv=>by
  have:v=[]:=by simpa [Mt.fG] using hv
  subst this;exact Nat.le_refl _
 |c::w,v,hv=>by
  obtain ⟨x,r,h⟩:=Mt.pR m w;have ih:=vC m w;unfold Mt.fG at hv;rw [h] at hv ih;by_cases e:c=m
  ·simp only [e,if_true] at hv;rcases List.mem_cons.mp hv with rfl|hv
   ·exact Nat.zero_le _
   ·exact Nat.le_succ_of_le (ih v hv)
  ·simp only [e,if_false] at hv;rcases List.mem_cons.mp hv with rfl|hv
   ·exact Nat.succ_le_succ (ih x (by simp))
   ·exact Nat.le_succ_of_le (ih v (by simp [hv]))
def mN (n:Net) (w:List Nat):Except Nat Net:=if w.isEmpty=true∨w.head?=some 35 then .ok n else Mt.gF n (Mt.fG 32 w)
theorem vo.same {T:Txt K mg} {H H1:Hp} {a dx an al at':Addr} {n:Net} {r:Except Nat Net} {Q:VK} (h:vo T H a dx an al at' n r Q) (s:ax H H1):vo T H1 a dx an al at' n r Q :=
 fun H' ns ls ts k M=>h H' ns ls ts ((aO.of_same s).trans k) M
inductive FFI (T:Txt K mg) (x y:V) (H:Hp) (Q:VK):Prop
 |mk:∀a dx an al at' ns ls ts n w,x=.ref a→qK T H a dx an al at' ns ls ts n→ee H y w→w.length≤2000→Mt.aP n→vo T H a dx an al at' n (mN n w) Q→FFI T x y H Q
def FF (T:Txt K mg):Sp:=rX fun x y H Q=>FFI T x y H Q
theorem Cm (n:Net) (k w:List Nat):Mt.gF n [k,w]=if Mt.qh [k,w]=true then Mt.lL n w else .error 1:=rfl
theorem uA (n:Net) (k w v x y:List Nat):Mt.gF n [k,w,v,x,y]=if yd [k,w,v,x,y]=true then Mt.jK n w v x y else if wA [k,w,v,x,y]=true then Mt.iD n w v x y else .error 1:=rfl
theorem F5 (T:Txt K mg):aU P w K mg base cI 5 T.jJ.f T.jJ.fd ["net","line"] (FF T):=by
 refine T.jJ.fn.sE wG fun bJ A outer s H x y Q E hr h=>?_;obtain ⟨a,dx,an,al,at',ns,ls,ts,n,w,rfl,M,hy,hz,full,k⟩:=h;obtain ⟨b,rfl,hb⟩:=id hy;refine ⟨_,(ae (aY (PW.pt (rC (aE eF (bc nY rfl T.eM eJ (aa (pv 1) ag)) aI (aG _)) (oZ (aE eF (aR fz (pv 1) aI (fun _ _=>rfl)) (kI T.RT) (aG _))))) (ah (au (kI T.uu))) aJ) (ae (aN (i:=2) wG.nd rfl (Or.inl rfl) (aD (AG T) ‹hr› rfl T.gP.g T.gP.fn.kp T.gP.b .nil aB (aa (pv 1) (aa (kI T.Lh) ag)))) (ae (aY (bZ (aD (AX T) ‹hr› rfl T.gy.g T.gy.fn.kp T.gy.b .nil aB (aa (pv 2) ag))) (ah (au (aD (F6 T) ‹hr› rfl T.jE.g T.jE.fn.kp T.jE.b .nil aB (aa (pv 0) (aa (aR fz (pv 2) aI (fun _ _=>rfl)) ag))))) aJ) (ae (aY (bZ (aD (y6 T) ‹hr› rfl T.fJ.g T.fJ.fn.kp T.fJ.b .nil aB (aa (pv 2) ag))) (ah (au (aD (DU T) ‹hr› rfl T.iM.g T.iM.fn.kp T.iM.b .nil aB (aa (pv 0) (aa (pv 2) ag))))) aJ) (ae (aY (bZ (aD (yx T) ‹hr› rfl T.fq.g T.fq.fn.kp T.fq.b .nil aB (aa (pv 2) ag))) (ah (au (aD (Bu T) ‹hr› rfl T.ij.g T.ij.fn.kp T.ij.b .nil aB (aa (pv 0) (aa (pv 2) ag))))) aJ) (ah (au (kI T.B3)))))))),?_⟩;exists hb;rw [bb];unfold mN at k;have done:(w.isEmpty=true∨w.head?=some 35)→Q (V.int 0) H:=fun c=>by
  rw [if_pos c] at k;exact k H ns ls ts (aO.refl _ _) M
 by_cases c1:w.length=0
 ·rw [if_pos (by omega)];exact done (.inl (by cases w<;>simp_all))
 ·rw [if_neg (by omega)]
  cases w with
  |nil=>exact absurd rfl c1
  |cons c0 w0 =>
   have e0:iz (bg (c0::w0)) 0=some (aM c0):=at_of (j:=0) rfl rfl;exists e0;by_cases c2:c0=35
   ·rw [if_pos (by omega)];exact done (.inr (by rw [c2];rfl))
   ·rw [if_neg (by omega)];rw [if_neg (fun z=>z.elim (by simp) (fun z=>c2 (by simpa using z)))] at k;refine ⟨b,_,32,rfl,.inr hb,rfl,Nat.le_trans hz (by decide),fun d H1 hd s1 hW=>?_⟩;have cZ:om H1 d (Mt.fG 32 (c0::w0)):=⟨hW,fun v hv=>Nat.le_trans (vC 32 _ v hv) hz⟩;have M1:=M.same s1;have k1:=k.same s1;generalize Mt.fG 32 (c0::w0)=ws at cZ k1 hW;right;refine ⟨d,ws,rfl,cZ,fun H2 s2=>?_⟩;have SK:=cZ.same s2;have M2:=M1.same s2;have k2:=k1.same s2;obtain ⟨⟨ps,hd2,pw2⟩,_⟩:=id SK;right
    cases c3:Mt.qh ws with
    |true =>
     obtain ⟨kk,w1,rfl⟩:∃kk w1,ws=[kk,w1]:=by
      match ws,c3 with
      |[kk,w1],_=>exact ⟨kk,w1,rfl⟩
     rw [Cm,if_pos c3] at k2;obtain ⟨b1,e1,g1⟩:=cy.item (a:=d) pw2 (i:=1) rfl;have HI:iz ps 1=some (.ref b1):=e1;exists hd2,HI;exact ⟨a,dx,an,al,at',ns,ls,ts,n,w1,rfl,M2,⟨b1,rfl,g1⟩,Nat.le_trans full.nm (by decide),k2⟩
    |false =>
     right;refine ⟨d,ws,rfl,SK,fun H3 s3=>?_⟩;have Sg:=SK.same s3;have M3:=M2.same s3;have k3:=k2.same s3;right
     cases c4:yd ws with
     |true =>
      obtain ⟨kk,w1,w2,w3,w4,rfl⟩:∃kk w1 w2 w3 w4,ws=[kk,w1,w2,w3,w4]:=by
       match ws,c4 with
       |[kk,w1,w2,w3,w4],_=>exact ⟨kk,w1,w2,w3,w4,rfl⟩
      rw [uA,if_pos c4] at k3;have W6:(decide (kk=Mt.cE)&&isName w1&&isName w2&&Mt.aX w3&&Mt.aX w4)=true:=c4;simp only [Bool.and_eq_true] at W6;right;exact ⟨a,dx,an,al,at',ns,ls,ts,n,d,kk,w1,w2,w3,w4,rfl,M3,rfl,Sg.1,W6.1.2,W6.2,Nat.le_trans full.nm (by decide),Nat.le_trans full.nl (by decide),k3⟩
     |false =>
      right;refine ⟨d,ws,rfl,Sg,fun H4 s4=>?_⟩;have Yb:=Sg.same s4;have M4:=M3.same s4;have k4:=k3.same s4;right
      cases c5:wA ws with
      |true =>
       obtain ⟨kk,w1,w2,w3,w4,rfl⟩:∃kk w1 w2 w3 w4,ws=[kk,w1,w2,w3,w4]:=by
        match ws,c5 with
        |[kk,w1,w2,w3,w4],_=>exact ⟨kk,w1,w2,w3,w4,rfl⟩
       rw [uA,if_neg (by rw [c4];exact Bool.false_ne_true),if_pos c5] at k4;have XU:(decide (kk=Mt.bU)&&isName w1&&isName w2&&Mt.bV w3&&Mt.bV w4)=true:=c5;simp only [Bool.and_eq_true] at XU;right;exact ⟨a,dx,an,al,at',ns,ls,ts,n,d,kk,w1,w2,w3,w4,rfl,M4,rfl,Yb.1,XU.1.2,XU.2,Nat.le_trans full.nm (by decide),Nat.le_trans full.nn (by decide),k4⟩
      |false =>
       have e:Mt.gF n ws=.error 1:=by
        match ws,c3,c4,c5 with
        |[],_,_,_=>rfl
        |[_],_,_,_=>rfl
        |[kk,w1],c3,_,_=>rw [Cm,if_neg (by rw [c3];exact Bool.false_ne_true)]
        |[_,_,_],_,_,_=>rfl
        |[_,_,_,_],_,_,_=>rfl
        |[kk,w1,w2,w3,w4],_,c4,c5=>rw [uA,if_neg (by rw [c4];exact Bool.false_ne_true),if_neg (by rw [c5];exact Bool.false_ne_true)]
        |_::_::_::_::_::_::_,_,_,_=>rfl
       rw [e] at k4;right;exact k4 H4 ns ls ts (aO.refl _ _) M4
inductive A9I (T:Txt K mg) (x a b c:V) (H:Hp) (Q:VK):Prop
 |mk:∀p dx,x=.ref p→H p=some (.ins T.bX.C dx [])→(∀H',H' p=some (.ins T.bX.C dx (kr a b c))→aO [p] H H'→Q .de H')→A9I T x a b c H Q
def A9 (T:Txt K mg):Sp:=Qx fun x a b c H Q=>A9I T x a b c H Q
theorem rp (T:Txt K mg):aU P w K mg base cI 1 T.bX.f T.bX.fd ["self","net","wrong_line","reason"] (A9 T):=by
 refine T.bX.fn.Ro AN fun bJ A outer s H x a b c Q E hr h=>?_;obtain ⟨p,dx,rfl,hp,k⟩:=h;refine ⟨_,(ae (bC T.bX.cl T.o7 (pv 0) (pv 1)) (ae (bC T.bX.cl T.lY (pv 0) (pv 2)) (ah (bC T.bX.cl T.pP (pv 0) (pv 3))))),?_⟩;exists hp;refine ⟨by decide,by show 1<1000;decide,by show 2<1000;decide,k _ ?_ ?_⟩
 ·rw [aA];rfl
 ·rw [fC,fC];exact aO.upd (by simp)
theorem OO {n:Net}:∀{l:List (List Nat)} {e:Nat},Mt.gF n l=.error e→e≠0
 |[k,w],e,h=>by
  rw [Cm] at h;split at h
  ·unfold Mt.lL at h;split at h
   ·cases h;decide
   ·split at h
    ·cases h;decide
    ·cases h
  ·cases h;decide
 |[k,w,v,x,y],e,h=>by
  rw [uA] at h;split at h
  ·unfold Mt.jK at h;split at h
   ·cases h;decide
   ·dsimp only at h;split at h
    ·cases h;decide
    ·split at h
     ·cases h;decide
     ·cases h
  ·split at h
   ·unfold Mt.iD at h;split at h
    ·cases h;decide
    ·dsimp only at h;split at h
     ·cases h;decide
     ·split at h
      ·cases h;decide
      ·cases h
   ·cases h;decide
 |[],e,h=>by cases h;decide
 |[_],e,h=>by cases h;decide
 |[_,_,_],e,h=>by cases h;decide
 |[_,_,_,_],e,h=>by cases h;decide
 |_::_::_::_::_::_::_,e,h=>by cases h;decide
theorem IB {n:Net} {w:List Nat} {e:Nat} (h:mN n w=.error e):e≠0:=by
 unfold mN at h;split at h
 ·cases h
 ·exact OO h
theorem F7 {n m:Net} {w:List Nat} (hf:Mt.aP n) (h:mN n w=.ok m):Mt.aP m:=by
 unfold mN at h;split at h
 ·cases h;exact hf
 ·exact Mt.KY hf h
theorem CP (n:Net) (i:Nat) (l:List Nat) (r:List (List Nat)):takeLines n i (l::r)=match mN n l with
  | .error e=>.error (i,e)
  | .ok m=>takeLines m (i+1) r:=by
 conv=>lhs;unfold takeLines
 unfold mN;split
 ·rfl
 ·rw [Mt.Cj,Mt.Gx]
  split<;>rename_i h<;>rw [h]
def RO (T:Txt K mg) (H:Hp) (v:V) (r:Except (Nat×Nat) Net):Prop:=∃p dx nv ln rs,v=.ref p∧H p=some (.ins T.bX.C dx (kr nv (aM ln) (aM rs)))∧(match r with
 | .ok n=>∃a,nv=.ref a∧dr T H a n∧Mt.aP n
 | .error e=>nv=.de∧ln=e.1∧rs=e.2)
inductive IaI (T:Txt K mg) (x:V) (H:Hp) (Q:VK):Prop
 |mk:∀a w,x=.ref a→H a=some (.lst (bg w))→w.length≤2000→(∀v H',ax H H'→RO T H' v (Vblaai.readNet w)→Q v H')→IaI T x H Q
def Ia (T:Txt K mg):Sp:=m7 fun x H Q=>IaI T x H Q
theorem IG (T:Txt K mg):aU P w K mg base cI 6 T.lg.f T.lg.fd ["text"] (Ia T):=by
 refine T.lg.fn.n4 lQ fun bJ A outer s H x Q E hr h=>?_;obtain ⟨t,w,rfl,ht,hz,k⟩:=h;refine ⟨_,(ae (aN (i:=1) lQ.nd rfl (Or.inl rfl) (wL T.aT.Fy (sk T) ‹hr› rfl T.aT.g T.aT.b .nil aB)) (ae (cJ PassesOwn.never rfl (Oc rfl T.bP (aa (aD (AG T) ‹hr› rfl T.gP.g T.gP.fn.kp T.gP.b .nil aB (aa (pv 0) (aa (kI T.Ca) ag))) ag)) (fB (n:=2) rfl (bq (aK (i:=2) lQ.nd rfl (Or.inl rfl)) (bq (aK (i:=3) lQ.nd rfl (Or.inl rfl)) fD))) (ae (aN (i:=4) lQ.nd rfl (Or.inl rfl) (aD (F5 T) ‹hr› rfl T.jJ.g T.jJ.fn.kp T.jJ.b .nil aB (aa (pv 1) (aa (pv 3) ag)))) (ah (aY (aE tQ (pv 4) (kI T.uu) (aG _)) (ah (au (gQ T.bX.Fy (rp T) ‹hr› rfl T.bX.g T.bX.b .nil aB (aa aS (aa (pv 2) (aa (pv 4) ag)))))) aJ)))) (ah (au (gQ T.bX.Fy (rp T) ‹hr› rfl T.bX.g T.bX.b .nil aB (aa (pv 1) (aa aI (aa (kI T.uu) ag)))))))),?_⟩;right;intro a da ha WD lP;refine ⟨a,da,rfl,aA,fun H1 an al at' h1 h2 h3 M1 k1=>⟨rfl,?_⟩⟩;have s1:=cF ha WD k1;have nn:H an=none:=by
  cases q:H an with
  |none=>rfl
  |some o=>rw [aF (aC q ha),aF (aC q WD),q] at h1;cases h1
 have nl:H al=none:=by
  cases q:H al with
  |none=>rfl
  |some o=>rw [aF (aC q ha),aF (aC q WD),q] at h2;cases h2
 have nt:H at'=none:=by
  cases q:H at' with
  |none=>rfl
  |some o=>rw [aF (aC q ha),aF (aC q WD),q] at h3;cases h3
 right;refine ⟨t,w,10,rfl,.inl (s1 _ _ ht),rfl,Nat.le_trans hz (by decide),fun b H2 hb s2 hW=>?_⟩;obtain ⟨ps,OD,pw⟩:=id hW;have M2:=M1.same s2;have G6:=s1.trans s2;have nb:b∉[an,al,at']:=by
  have n1:=aC M1.AW hb;have n2:=aC M1.Jt hb;have n3:=aC M1.vA hb;simp [Ne.symm n1,Ne.symm n2,Ne.symm n3]
 have nx:∀x∈[an,al,at'],H x=none:=fun x hx=>by
  simp at hx;rcases hx with rfl|rfl|rfl
  ·exact nn
  ·exact nl
  ·exact nt
 rw [Mt.Kt] at k;have VC:∀v∈Mt.fG 10 w,v.length≤2000:=fun v hv=>Nat.le_trans (vC 10 _ v hv) hz;generalize Mt.fG 10 w=lines at k pw hW VC;have kw:∀H',aO [an,al,at'] H2 H'→∀v u,ee H2 v u→ee H' v u:=fun H' hk v u ⟨c,e,h⟩=>by
  refine ⟨c,e,hk _ _ h ?_⟩;have n1:=pO h M2.AW (by intro z;cases z);have n2:=pO h M2.Jt (by intro z;cases z);have n3:=pO h M2.vA (by intro z;cases z);simp [n1,n2,n3]
 refine ⟨b,rfl,⟨_,.of OD⟩,loop (KC 1 ps) (fun i σ H'=>∃n ns ls ts v2 v3 v4,σ=[some (.ref t),some (.ref a),v2,v3,v4]∧aO [an,al,at'] H2 H'∧qK T H' a da an al at' ns ls ts n∧Mt.aP n∧takeLines {} 1 lines=takeLines n (1+i) (lines.drop i))
  ⟨_,_,_,_,none,none,none,rfl,aO.refl _ _,M2,Mt.BR,rfl⟩ (fun i σ H' z1=>by obtain ⟨_,_,_,_,_,_,_,_,hk,_⟩:=z1;exact  .of (hk _ _ OD nb)) ?_ ?_⟩
 ·intro i x σ H3 H4 N hi z1 s4 z2 kN;obtain ⟨n,ns,ls,ts,v2,v3,v4,rfl,k3,M3,full,e⟩:=z1;obtain ⟨T0,y,rfl,hT,hx⟩:=z2;obtain ⟨u,eu,hu⟩:=pw.at_ hx;have M4:=M3.same s4;have Z5:=(kw H3 k3 _ _ hu).same s4;have lu:=VC u (List.mem_of_getElem? eu);have Vu:lines.drop i=u::lines.drop (i+1):=by
   obtain ⟨hl,e1⟩:=List.getElem?_eq_some_iff.mp eu;rw [List.drop_eq_getElem_cons hl,e1]
  rw [Vu,CP] at e;exists hT;refine ⟨a,da,an,al,at',ns,ls,ts,n,u,rfl,M4,Z5,lu,full,fun H5 ns5 ls5 ts5 k5 M5=>?_⟩;have U3:=(k3.trans (aO.of_same s4)).trans k5;right
  cases c:mN n u with
  |ok m =>
   rw [c] at e M5;rw [if_pos (show ((Tf (Except.ok m):Nat):Int)=0 from rfl)]
   refine kN _ _ ⟨m,ns5,ls5,ts5,_,_,_,rfl,U3,M5,F7 full c,?_⟩;rw [e]
   congr 1
  |error z =>
   rw [c] at e M5;have hz0:=IB c;rw [if_neg (show ¬((Tf (Except.error z):Nat):Int)=0 from by show ¬((z:Nat):Int)=0;omega)]
   intro q dq hq uG lP;refine ⟨q,dq,rfl,aA,fun H6 h6 k6=>⟨rfl,?_⟩⟩;have s6:=cF hq uG k6;refine k _ H6 ((aO.same G6 U3 nx).trans s6) ?_;rw [e];refine ⟨q,dq,.de,1+i,z,rfl,?_,rfl,rfl,rfl⟩;rw [h6]
   congr 3
 ·intro σ H3 z1;obtain ⟨n,ns,ls,ts,v2,v3,v4,rfl,k3,M3,full,e⟩:=z1;right;intro q dq hq uG lP;refine ⟨q,dq,rfl,aA,fun H6 h6 k6=>⟨rfl,?_⟩⟩;have s6:=cF hq uG k6;refine k _ H6 ((aO.same G6 k3 nx).trans s6) ?_;rw [pw.1,List.drop_length] at e;rw [e];exact ⟨q,dq,.ref a,0,0,rfl,h6,a,rfl,⟨da,an,al,at',ns,ls,ts,(M3.same s6).toNv⟩,full⟩
structure eG (T:Txt K mg) (H:Hp) (a dx an:Addr) (fv:V) (at':Addr) (n:Net) (f:Form) (t:Nat) (ts:Times):Prop where
 obj:H a=some (.ins T.aQ.C dx (dS (.ref an) fv (aM t) (.ref at')))
 tm:H at'=some (.lst (bH ts))
 full:Mt.aP n
 n8:Mt.yN n f
 len:ts.length=size n
 zero:(timeOf ts 0).isSome=true
 ex:∃H0,ax H0 H∧H0 a=none∧H0 at'=none∧dr T H0 an n∧fw T H0 fv f
section
variable {T:Txt K mg} {H H':Hp} {a dx an at':Addr} {fv:V} {n:Net} {f:Form} {t:Nat} {ts:Times}
theorem eG.net (h:eG T H a dx an fv at' n f t ts):dr T H an n:=by
 obtain ⟨H0,s,_,_,h1,_⟩:=h.ex;exact h1.same s
theorem eG.Gw (h:eG T H a dx an fv at' n f t ts):fw T H fv f:=by
 obtain ⟨H0,s,_,_,_,h1⟩:=h.ex;exact h1.same s
theorem eG.same (h:eG T H a dx an fv at' n f t ts) (s:ax H H'):eG T H' a dx an fv at' n f t ts:=by
 obtain ⟨H0,s0,h1,h2,h3,h4⟩:=h.ex;exact ⟨s _ _ h.obj,s _ _ h.tm,h.full,h.n8,h.len,h.zero,H0,s0.trans s,h1,h2,h3,h4⟩
theorem eG.ne (h:eG T H a dx an fv at' n f t ts):a≠at':=pO h.obj h.tm (by intro z;cases z)
theorem eG.QX (h:eG T H a dx an fv at' n f t ts) (k:aO [a,at'] H H'):∃H0,ax H0 H'∧H0 a=none∧H0 at'=none∧dr T H0 an n∧fw T H0 fv f:=by
 obtain ⟨H0,s0,h1,h2,h3,h4⟩:=h.ex;refine ⟨H0,aO.same s0 k fun x hx=>?_,h1,h2,h3,h4⟩;simp at hx;rcases hx with rfl|rfl
 ·exact h1
 ·exact h2
end
theorem Ge {n:Net} (h:Mt.aP n):size n≤12:=h.nm
def Gy (ts:Times) (t:Nat) (s:List Nat) (j:Nat) (w:Int):Bool:=match timeOf ts j with
 |some u=>decide ((u:Int) - w≤(t:Int))
 |none=>w==0&&s.contains j
theorem pN (s:List Nat):(s.map aM).all oG=true:=by
 rw [List.all_map];exact List.all_eq_true.mpr fun _ _=>rfl
theorem tE (i:Nat) (s:List Nat):LI (aM i) (s.map aM)=s.contains i:=by
 have e:s.map aM=(s.map fun (q:Nat)=>(q:Int)).map V.int:=by rw [List.map_map];rfl
 rw [e,HN];rw [←Bool.coe_iff_coe];simp only [decide_eq_true_eq,List.mem_map,List.contains_iff_mem]
 constructor
 ·intro z1;obtain ⟨b,hb,e⟩:=z1;have:b=i:=by omega
  rw [←this];exact hb
 ·exact fun h=>⟨i,h,rfl⟩
inductive sCI (T:Txt K mg) (x y z u:V) (H:Hp) (Q:VK):Prop
 |mk:∀a dx an fv at' n f t ts j w l s,x=.ref a→eG T H a dx an fv at' n f t ts→y=aM j→j<size n→z=.int w→u=.ref l→H l=some (.lst (s.map aM))→Q (.bl (Gy ts t s j w)) H→sCI T x y z u H Q
def sC (T:Txt K mg):Sp:=Qx fun x y z u H Q=>sCI T x y z u H Q
theorem sT (T:Txt K mg):aU P w K mg base cI 1 T.eT.f T.eT.fd ["self","other","bound","left"] (sC T):=by
 refine T.eT.fn.Ro sv fun bJ A outer s H x y z u Q E hr h=>?_;obtain ⟨a,dx,an,fv,at',n,f,t,ts,j,w,l,s,rfl,R,rfl,hj,rfl,rfl,hl,k⟩:=h;refine ⟨_,(ae (aY (aE cC (aR fz (ai T.aQ.cl T.cx (pv 0)) (pv 1) (fun _ _=>rfl)) aS (aG _)) (ah (au (gB (bO eF (pv 2) aI (aG _)) (gA (bO Vc (pv 1) (pv 3) (by with_unfolding_all rfl)))))) aJ) (ah (au (bO Es (ai T.aQ.cl T.fb (pv 0)) (cG vt (aR fz (ai T.aQ.cl T.cx (pv 0)) (pv 1) (fun _ _=>rfl)) (pv 2)) (aG _))))),?_⟩
 have h0:=R.obj;have h1:=R.tm;have e1:iz (bH ts) (j:Int)=some (oV (timeOf ts j)):=eE (by rw [R.len];exact hj);unfold Gy at k
 cases c:timeOf ts j with
 |none =>
  rw [c] at e1 k;have k:Q (.bl (w==0&&s.contains j)) H:=k;exists h0,h1,e1,eU,hl;by_cases c2:w=0
  ·rw [if_pos c2];refine ⟨rfl,pN s,?_⟩;rw [tE];subst c2;exact k
  ·rw [if_neg c2];have e:(w==0)=false:=by simpa using c2
   rw [e,Bool.false_and] at k;exact k
 |some u0 =>
  rw [c] at e1 k;exists h0,h1,e1,d4;exact k
def Bc (ts:Times) (t:Nat) (x:Nature) (w:Int):Bool:=(timeOf ts x.c).isSome||(timeOf ts x.a).any fun u=>decide ((u:Int) - w≤(t:Int))
inductive sDI (T:Txt K mg) (x y z:V) (H:Hp) (Q:VK):Prop
 |mk:∀a dx an fv at' n f t ts m w,x=.ref a→eG T H a dx an fv at' n f t ts→ox T H y m→m.a<size n→m.c<size n→z=.int w→Q (.bl (Bc ts t m w)) H→sDI T x y z H Q
def sD (T:Txt K mg):Sp:=Cs fun x y z H Q=>sDI T x y z H Q
theorem ua (T:Txt K mg):aU P w K mg base cI 1 T.eO.f T.eO.fd ["self","nature","wait"] (sD T):=by
 refine T.eO.fn.Bi sV fun bJ A outer s H x y z Q E hr h=>?_;obtain ⟨a,dx,an,fv,at',n,f,t,ts,m,w,rfl,R,⟨am,dm,rfl,hm⟩,ha,hc,rfl,k⟩:=h;refine ⟨_,(ae (aY (aE iw (aR fz (ai T.aQ.cl T.cx (pv 0)) (ai T.aH.cl T.bt (pv 1)) (fun _ _=>rfl)) aS (aG _)) (ah (au kh)) aJ) (ah (au (gB (bO iw (aR fz (ai T.aQ.cl T.cx (pv 0)) (ai T.aH.cl T.bu (pv 1)) (fun _ _=>rfl)) aS (aG _)) (gA (bO Es (ai T.aQ.cl T.fb (pv 0)) (cG vt (aR fz (ai T.aQ.cl T.cx (pv 0)) (ai T.aH.cl T.bu (pv 1)) (fun _ _=>rfl)) (pv 2)) (aG _))))))),?_⟩;have h0:=R.obj;have h1:=R.tm;have e1:iz (bH ts) (m.a:Int)=some (oV (timeOf ts m.a)):=eE (by rw [R.len];exact ha);have e2:iz (bH ts) (m.c:Int)=some (oV (timeOf ts m.c)):=eE (by rw [R.len];exact hc);unfold Bc at k
 cases c2:timeOf ts m.c with
 |some u =>
  rw [c2] at e2 k;exists h0,h1,hm,e2,d4;exact k
 |none =>
  rw [c2] at e2 k
  cases c1:timeOf ts m.a with
  |none =>
   rw [c1] at e1 k;exists h0,h1,hm,e1,e2,eU;exact k
  |some u =>
   rw [c1] at e1 k;exists h0,h1,hm,e1,e2,eU,d4;exact k
def Om (f:Form) (ts:Times) (t:Nat) (s:List Nat) (p j:Nat):Bool:=j==p||(match at_ f.ord p j with
 |some w=>decide (0<w)||Gy ts t s j w
 |none=>true)
theorem Ce (f:Form) (n:Net) (ts:Times) (t:Nat) (s:List Nat) (p:Nat):Vblaai.bounded f n ts t s p=(List.range (size n)).all (Om f ts t s p):=rfl
def V0 (f:Form) (ts:Times) (t p:Nat) (x:Nature×Nat):Bool:=match Vblaai.waitAt f x.2 p with
 |none=>true
 |some w=>decide (0≤w)||Bc ts t x.1 w
theorem Ey (f:Form) (n:Net) (ts:Times) (t p:Nat):Vblaai.waited f n ts t p=n.natures.zipIdx.all (V0 f ts t p):=rfl
theorem all_false {α:Type} {l:List α} {q:α→Bool} {i:Nat} {x:α} (h:l[i]?=some x) (e:q x=false):l.all q=false:=by
 rw [List.all_eq_false];exact ⟨x,List.mem_of_getElem? h,by rw [e];exact Bool.false_ne_true⟩
inductive mhI (T:Txt K mg) (x y z:V) (H:Hp) (Q:VK):Prop
 |mk:∀a dx an fv at' n f t ts p l s,x=.ref a→eG T H a dx an fv at' n f t ts→y=aM p→p<size n→z=.ref l→H l=some (.lst (s.map aM))→(∀H',ax H H'→Q (.bl (Mt.ow f n ts t s p)) H')→mhI T x y z H Q
def mh (T:Txt K mg):Sp:=Cs fun x y z H Q=>mhI T x y z H Q
theorem mj (T:Txt K mg):aU P w K mg base cI 2 T.cS.f T.cS.fd ["self","step","left"] (mh T):=by
 refine T.cS.fn.Bi dv fun bJ A outer s H x y z Q E hr h=>?_;obtain ⟨a,dx,an,fv,at',n,f,t,ts,p,l,s,rfl,R,rfl,hp,rfl,hl,k⟩:=h;refine ⟨_,(ae (cJ PassesOwn.never rfl (gS rfl T.bP (aa (aR fz (ai T.bR.cl T.cX (ai T.aQ.cl T.t9 (pv 0))) (pv 1) (fun _ _=>rfl)) ag)) (fB (n:=2) rfl (bq (aK (i:=3) dv.nd rfl (Or.inl rfl)) (bq (aK (i:=4) dv.nd rfl (Or.inl rfl)) fD))) (ah (aY (PW.pt (jb (aE tQ (pv 3) (pv 1) (aG _)) (jb (aE iw (pv 4) aS (aG _)) (jb (aE ia (pv 4) aI (aG _)) (jm (gu (bZ (a8 (pv 0) T.aQ.cl T.eT.m (sT T) ‹hr› T.eT.b .nil aB (aa (pv 3) (aa (pv 4) (aa (pv 2) ag))))))))))) (ah (au kh)) aJ))) (ae (cJ PassesOwn.never rfl (gS rfl T.bP (aa (ai T.aT.cl T.bo (ai T.aQ.cl T.kZ (pv 0))) ag)) (fB (n:=2) rfl (bq (aK (i:=5) dv.nd rfl (Or.inl rfl)) (bq (aK (i:=6) dv.nd rfl (Or.inl rfl)) fD))) (ae (aN (i:=7) dv.nd rfl (Or.inl rfl) (aR fz (aR fz (ai T.bR.cl T.du (ai T.aQ.cl T.t9 (pv 0))) (pv 5) (fun _ _=>rfl)) (pv 1) (fun _ _=>rfl))) (ah (aY (PW.pt (jb (aE iw (pv 7) aS (aG _)) (jb (aE oo (pv 7) aI (aG _)) (jm (gu (bZ (a8 (pv 0) T.aQ.cl T.eO.m (ua T) ‹hr› T.eO.b .nil aB (aa (pv 6) (aa (pv 7) ag))))))))) (ah (au kh)) aJ)))) (ah (au kh)))),?_⟩;obtain ⟨af,df,ab,abs,aw,Aj,rfl,g1,g2,g3⟩:=R.Gw;obtain ⟨dn,Mj,al,Ju,ns,ls,G0,N0⟩:=R.net;have h0:=R.obj;have h1:=R.tm;obtain ⟨row,er,Ri⟩:=R.n8.ord.get hp;obtain ⟨br,eb,hb⟩:=Tab.get g2 er;have g2l:=g2.lst;have e1:iz (abs.map V.ref) (p:Int)=some (.ref br):=cV (by rw [List.getElem?_map,eb];rfl);unfold Mt.ow at k;exists h0,g1,g2l,e1;refine ⟨⟨_,.of hb⟩,loop (dN (dU row)) (fun i σ H'=>∃v3 v4,σ=[some (.ref a),some (aM p),some (.ref l),v3,v4,none,none,none]∧ax H H'∧(List.range i).all (Om f ts t s p)=true)
  ⟨none,none,rfl,ax.refl H,rfl⟩ (fun i σ H' z1=>by obtain ⟨_,_,_,s1,_⟩:=z1;exact  .of (s1 _ _ hb)) ?_ ?_⟩
 ·intro i x σ H2 H3 N hi z1 s3 z2 kN;obtain ⟨v3,v4,rfl,s2,mH⟩:=z1;obtain ⟨T0,y,rfl,hT,hy⟩:=z2;obtain ⟨u,eu,rfl⟩:=og hy;have Aq:=s2.trans s3;have R3:=R.same Aq;have hl3:=Aq _ _ hl;have o4:i<size n:=by rw [fM,Ri] at hi;exact hi
  have eat:at_ f.ord p i=u:=by
   have:=R.n8.ord.ma er o4;rw [eu] at this;exact (Option.some.inj this).symm
  have go:Om f ts t s p i=true→∀H4 σ4,ax H3 H4→σ4=[some (.ref a),some (aM p),some (.ref l),some (aM i),some (wV u),none,none,none]→N σ4 H4:=fun Ss H4 σ4 s4 e4=>by
   subst e4;refine kN _ _ ⟨_,_,rfl,Aq.trans s4,?_⟩;rw [List.range_succ,List.all_append,mH,List.all_cons,Ss];rfl
  have stop:Om f ts t s p i=false→∀H4,ax H3 H4→Q (.bl false) H4:=fun Ss H4 s4=>by
   have e:Vblaai.bounded f n ts t s p=false:=by
    rw [Ce];exact all_false (i:=i) (List.getElem?_range o4) Ss
   rw [e,Bool.false_and] at k;exact k H4 (Aq.trans s4)
  unfold Om at go stop;rw [eat] at go stop;have Dh:=R3.obj;exists hT,Dh;by_cases c1:i=p
  ·rw [if_pos (by omega)];have e:(i==p)=true:=by simpa using c1
   rw [e,Bool.true_or] at go;exact go rfl H3 _ (ax.refl _) rfl
  ·rw [if_neg (by omega)];have e:(i==p)=false:=by simpa using c1
   rw [e] at go stop;simp only [Bool.false_or] at go stop
   cases u with
   |none =>
    exists wV;exact go rfl H3 _ (ax.refl _) rfl
   |some w0 =>
    exists wV;by_cases c2:w0≤0
    ·rw [if_pos c2];have e2:decide (0<w0)=false:=decide_eq_false (by omega);simp only [e2,Bool.false_or] at go stop;exists R3.obj;refine ⟨a,dx,an,_,at',n,f,t,ts,i,w0,l,s,rfl,R3,rfl,o4,rfl,rfl,hl3,?_⟩;right
     cases c3:Gy ts t s i w0 with
     |true=>exact go c3 H3 _ (ax.refl _) rfl
     |false=>exact stop c3 H3 (ax.refl _)
    ·rw [if_neg c2];have e2:decide (0<w0)=true:=decide_eq_true (by omega);simp only [e2,Bool.true_or] at go;exact go trivial H3 _ (ax.refl _) rfl
 ·intro σ H2 z1;obtain ⟨v3,v4,rfl,s2,mH⟩:=z1;rw [fM,Ri, ←Ce f n] at mH;rw [mH,Bool.true_and] at k;have R2:=R.same s2;have G4:=R2.obj;have Wx:=s2 _ _ N0.obj;exists G4,Wx;refine ⟨⟨_,.of (s2 _ _ N0.vA)⟩,loop (dN G0) (fun i σ H'=>∃v5 v6 v7,σ=[some (.ref a),some (aM p),some (.ref l),v3,v4,v5,v6,v7]∧ax H H'∧(n.natures.zipIdx.take i).all (V0 f ts t p)=true)
   ⟨none,none,none,rfl,s2,rfl⟩ (fun i σ H' z1=>by obtain ⟨_,_,_,_,s1,_⟩:=z1;exact  .of (s1 _ _ N0.vA)) ?_ ?_⟩
  ·intro i x σ H3 H4 N hi z1 s4 z2 kN;obtain ⟨v5,v6,v7,rfl,s3,Lr⟩:=z1;obtain ⟨T0,y,rfl,hT,hy⟩:=z2;obtain ⟨m,em,rm⟩:=N0.pt.at_ hy;obtain ⟨am,dm,rfl,hm⟩:=id rm;have r9:=s3.trans s4;have R4:=R.same r9;have JE:=R4.obj;have X3:=r9 _ _ g1;have g34:=r9 _ _ g3.lst;have o4:i<n.natures.length:=(List.getElem?_eq_some_iff.mp em).1;obtain ⟨wr,ZF,ewl⟩:=R.n8.wait.get o4;obtain ⟨bw,e3,e4⟩:=Tab.get g3 ZF;have e44:=r9 _ _ e4;have e5:iz (Aj.map V.ref) (i:Int)=some (.ref bw):=cV (by rw [List.getElem?_map,e3];rfl);have ewt:=R.n8.wait.ma ZF hp;have e6:iz (dU wr) (p:Int)=some (wV (at_ f.wait i p)):=cV (nF ewt);have gc:=R.full.nat m (List.mem_of_getElem? em);have go:V0 f ts t p (m,i)=true→∀H5 σ5,ax H4 H5→σ5=[some (.ref a),some (aM p),some (.ref l),v3,v4,some (aM i),some (.ref am),some (wV (at_ f.wait i p))]→N σ5 H5:=fun XT H5 σ5 s5 e5=>by
    subst e5;refine kN _ _ ⟨_,_,_,rfl,r9.trans s5,?_⟩;rw [take_snoc (Mt.zipIdx_get em),List.all_append,Lr,List.all_cons,XT];rfl
   have stop:V0 f ts t p (m,i)=false→∀H5,ax H4 H5→Q (.bl false) H5:=fun XT H5 s5=>by
    have e:Vblaai.waited f n ts t p=false:=by
     rw [Ey];exact all_false (i:=i) (Mt.zipIdx_get em) XT
    rw [e] at k;exact k H5 (r9.trans s5)
   unfold V0 at go stop;rw [show Vblaai.waitAt f (m,i).2 p=at_ f.wait i p from rfl] at go stop
   exists hT,JE,X3,g34,e5,e44,e6
   cases cu:at_ f.wait i p with
   |none =>
    rw [cu] at go;exists wV;exact go rfl H4 _ (ax.refl _) rfl
   |some w0 =>
    rw [cu] at go stop;exists wV;by_cases c2:w0<0
    ·rw [if_pos c2];have e2:decide (0≤w0)=false:=decide_eq_false (by omega);simp only [e2,Bool.false_or] at go stop;exists R4.obj;refine ⟨a,dx,an,_,at',n,f,t,ts,m,w0,rfl,R4,rm.same r9,gc.1,gc.2.1,rfl,?_⟩;right
     cases c3:Bc ts t m w0 with
     |true=>exact go c3 H4 _ (ax.refl _) rfl
     |false=>exact stop c3 H4 (ax.refl _)
    ·rw [if_neg c2];have e2:decide (0≤w0)=true:=decide_eq_true (by omega);simp only [e2,Bool.true_or] at go;exact go trivial H4 _ (ax.refl _) rfl
  ·intro σ H3 z1;obtain ⟨v5,v6,v7,rfl,s3,Lr⟩:=z1;right;rw [N0.pt.1,gK, ←Ey f n] at Lr;rw [Lr] at k;exact k H3 s3
theorem mC {β:Type} (l:List Nat) (q:Nat→Bool) (g:Nat→β):(List.range l.length).filterMap (fun i=>if q (l.getD i 0)=true then some (g (l.getD i 0)) else none)=(l.filter q).map g:=by
 have e:(List.range l.length).filterMap (fun i=>if q (l.getD i 0)=true then some (g (l.getD i 0)) else none)=((List.range l.length).map (fun i=>l.getD i 0)).filterMap (fun x=>if q x=true then some (g x) else none):=by
  rw [List.filterMap_map];rfl
 have e2:(List.range l.length).map (fun i=>l.getD i 0)=l:=by
  have:=cB l 0 id;simpa using this
 rw [e,e2]
 induction l with
 |nil=>rfl
 |cons x l ih =>
  rw [List.filterMap_cons,List.filter_cons];have ih':l.filterMap (fun x=>if q x=true then some (g x) else none)=(l.filter q).map g:=by
   clear ih e e2
   induction l with
   |nil=>rfl
   |cons y l ih2 =>
    rw [List.filterMap_cons,List.filter_cons]
    cases q y<;>simp [ih2]
  cases q x<;>simp [ih']
theorem mE {s:List Nat} {i:Nat} {x:V} (h:(s.map aM)[i]?=some x):∃c,s[i]?=some c∧x=aM c:=jN h
theorem II {n:Net} {p:Nat} (h:p∈Mt.j9 n):p<size n:=by
 unfold Mt.j9 at h;obtain ⟨i,hi,e⟩:=List.mem_filterMap.mp h;have:=List.mem_range.mp hi;split at e
 ·cases e
 ·cases e;omega
theorem Ed (n:Net):(Mt.j9 n).length≤size n:=by
 unfold Mt.j9;have:=List.length_filterMap_le (fun i=>if isNature n (i+1)=true then none else some (i+1)) (List.range (size n - 1))
 rw [List.length_range] at this;omega
inductive sII (T:Txt K mg) (x:V) (H:Hp) (Q:VK):Prop
 |mk:∀a dx an fv at' n f t ts,x=.ref a→eG T H a dx an fv at' n f t ts→(∀b H',H b=none→ax H H'→H' b=some (.lst ((Vblaai.steps f n ts t).map aM))→Q (.ref b) H')→sII T x H Q
def sI (T:Txt K mg):Sp:=m7 fun x H Q=>sII T x H Q
theorem sS (T:Txt K mg):aU P w K mg base cI 3 T.eS.f T.eS.fd ["self"] (sI T):=by
 refine T.eS.fn.n4 bM fun bJ A outer s H x Q E hr h=>?_;obtain ⟨a,dx,an,fv,at',n,f,t,ts,rfl,R,k⟩:=h;refine ⟨_,(ae (aN (i:=1) bM.nd rfl (Or.inr rfl) (i7 rfl bM.nd (fg (cU (ai T.aQ.cl T.kZ (pv 0)) T.aT.cl T.eL.m (pW T) ‹hr› T.eL.b .nil aB)) (bL (show jq ["self","left","stay","step"] (aq eQ) _ [("step",3)]=true from by decide+kernel)) (fun _ _ _ _ _=>(aK (i:=3) bM.nd rfl (Or.inl rfl))) (fun _ _ _ _ _=>(lF (aE cC (aR fz (ai T.aQ.cl T.cx (pv 0)) (pv 3) (fun _ _=>rfl)) aS (aG _)))) (fun _ _ _ _ _=>(pv 3)))) (ae (nL (i:=2) rfl bM.nd rfl rfl (ql rfl rfl rfl rfl) (fg (pv 1)) (bL (show jq ["self","left","stay","step"] (aq eQ) _ [("step",3)]=true from by decide+kernel)) (fun _ _ _ _ _=>(aK (i:=3) bM.nd rfl (Or.inl rfl))) (fun _ _ _ _ _=>(lF (bZ (a8 (pv 0) T.aQ.cl T.cS.m (mj T) ‹hr› T.cS.b .nil aB (aa (pv 3) (aa (pv 1) ag)))))) (fun _ _ _ _ _=>(pv 3))) (ae (xu PassesOwn.never (aE oo (bc nY rfl T.eM eJ (aa (pv 2) ag)) (bc nY rfl T.eM eJ (aa (pv 1) ag)) (aG _)) (ae (aN (i:=1) bM.nd rfl (Or.inr rfl) (pv 2)) (ah (nL (i:=2) rfl bM.nd rfl rfl (ql rfl rfl rfl rfl) (fg (pv 1)) (bL (show jq ["self","left","stay","step"] (aq eQ) _ [("step",3)]=true from by decide+kernel)) (fun _ _ _ _ _=>(aK (i:=3) bM.nd rfl (Or.inl rfl))) (fun _ _ _ _ _=>(lF (bZ (a8 (pv 0) T.aQ.cl T.cS.m (mj T) ‹hr› T.cS.b .nil aB (aa (pv 3) (aa (pv 1) ag)))))) (fun _ _ _ _ _=>(pv 3)))))) (ah (au (pv 2)))))),?_⟩
 have h0:=R.obj;obtain ⟨dn,Mj,al,Ju,ns,ls,G0,N0⟩:=id R.net;have hn:=N0.obj;have Rf:=Ge R.full;exists h0,hn;refine ⟨an,n,rfl,R.net,by omega,R.full.pos,Nat.le_trans R.full.nn (by decide),fun B H1 hB s1 WU=>?_⟩;have WU:H1 B=some (.lst ((Mt.j9 n).map aM)):=WU;refine ⟨⟨_,WU⟩,cW (bp ((Mt.j9 n).map aM)) (fun i=>if (fun p=>(timeOf ts p).isNone) ((Mt.j9 n).getD i 0)=true then some (aM ((Mt.j9 n).getD i 0)) else none) (fun H' s=>.of (s _ _ WU)) (fun i x H' kk hi s hx kf=>?_) (by rw [List.length_map];exact Nat.le_trans (Ed n) (Nat.le_trans Rf (by decide))) (fun L H2 hL s2 hd=>?_)⟩
 ·obtain ⟨p,ep,rfl⟩:=mE hx;have hp:=II (List.mem_of_getElem? ep);rw [b9 ep] at kf;have kf:∀H4,ax H' H4→kk (if (timeOf ts p).isNone=true then some (aM p) else none) H4:=kf
  have R1:=R.same (s1.trans s);have rN:=R1.obj;have X4:=R1.tm;have e1:iz (bH ts) (p:Int)=some (oV (timeOf ts p)):=eE (by rw [R.len];exact hp);exists rN,X4,e1
  cases c:timeOf ts p with
  |none =>
   rw [c] at kf;rw [if_pos eU];exact kf H' (ax.refl _)
  |some u =>
   rw [c] at kf;rw [if_neg (by rw [d4];intro z;cases z)];exact kf H' (ax.refl _)
 ·have hd:H2 L=some (.lst ((ours n ts).map aM)):=by
   rw [hd,List.length_map]
   congr 2
   exact (mC (Mt.j9 n) (fun p=>(timeOf ts p).isNone) aM).trans (by rw [Mt.Hw n ts R.full.pos R.zero])
  have G6:=s1.trans s2;have hL0:H L=none:=s1.free hL;have Q9:∀(H3:Hp) (L:Addr) (lf:List Nat) (v2 v3:Option V) (Q':VK),ax H H3→H3 L=some (.lst (lf.map aM))→(∀p∈lf,p<size n)→lf.length≤12→(∀S H4,H3 S=none→ax H3 H4→H4 S=some (.lst ((lf.filter (Mt.ow f n ts t lf)).map aM))→Q' (.ref S) H4) →
    WE (Tn K L) (Em 3) (tB (IH T.aQ.C "can_be_done" (mh T) [] E0 (yC 0) (Ap (yC 3) (Ap (yC 1) KP)))) (yC 3) [3] [some (.ref a),some (.ref L),v2,v3] H3 Q':=fun H3 L lf v2 v3 Q' s3 h3 AK hle fin=>by
   refine cW (bp (lf.map aM)) (fun i=>if Mt.ow f n ts t lf (lf.getD i 0)=true then some (aM (lf.getD i 0)) else none) (fun H' s=>.of (s _ _ h3)) (fun i x H' kk hi s hx kf=>?_) (by rw [List.length_map];exact Nat.le_trans hle (by decide)) (fun S H4 hS s4 NM=>?_)
   ·obtain ⟨p,ep,rfl⟩:=mE hx;rw [b9 ep] at kf;have R3:=R.same (s3.trans s);have Dh:=R3.obj;exists Dh;refine ⟨a,dx,an,fv,at',n,f,t,ts,p,L,lf,rfl,R3,rfl,AK p (List.mem_of_getElem? ep),rfl,s _ _ h3,fun H5 s5=>?_⟩;right
    cases c:Mt.ow f n ts t lf p with
    |true =>
     rw [c] at kf;exact kf H5 s5
    |false =>
     rw [c] at kf;exact kf H5 s5
   ·rw [List.length_map,mC] at NM;exact fin S H4 hS s4 NM
  have ho:∀p∈ours n ts,p<size n:=fun p hp=>(Mt.p8 hp).2.1;have UM:(ours n ts).length≤12:=Nat.le_trans (Mt.CZ n ts) Rf;right;refine ⟨⟨_,hd⟩,Q9 H2 L (ours n ts) none none _ G6 hd ho UM fun S H3 hS s3 h3=>?_⟩;have hdL:=s3 _ _ hd;refine Fq (fun m σ H'=>∃L S lf,σ=[some (.ref a),some (.ref L),some (.ref S),none]∧m=lf.length∧ax H H'∧H S=none∧H' L=some (.lst (lf.map aM))∧H' S=some (.lst ((lf.filter (Mt.ow f n ts t lf)).map aM))∧(∀p∈lf,p<size n)∧lf.length≤12∧Vblaai.steps f n ts t=Vblaai.ready f n ts t (lf.length+1) lf)
   ⟨L,S,ours n ts,rfl,rfl,G6.trans s3,G6.free hS,hdL,h3,ho,UM,?_⟩ ?_
  ·unfold Vblaai.steps;exact Mt.vX f n ts t _ _ _ (by have:=Mt.CZ n ts;omega) (by omega)
  ·intro m σ H4 N kk z1 kN hk;obtain ⟨L,S,lf,rfl,rfl,s4,hS,h4L,U6,AK,hle,UR⟩:=z1;exists h4L,U6;refine hk _ _ ?_;rw [Mt.m9] at UR;rw [List.length_map,List.length_map];have Zd:=List.length_filter_le (Mt.ow f n ts t lf) lf;by_cases c:(lf.filter (Mt.ow f n ts t lf)).length=lf.length
   ·rw [if_pos c] at UR;rw [decide_eq_false (by omega),if_neg Bool.false_ne_true];right;refine k S H4 hS s4 ?_;rw [U6,UR,Mt.Hj _ _ c]
   ·rw [if_neg c] at UR;rw [decide_eq_true (by omega),if_pos rfl];exists U6;refine Q9 H4 S _ _ _ _ s4 U6 (fun p hp=>AK p (List.mem_filter.mp hp).1) (Nat.le_trans Zd hle) fun S2 H5 hS2 s5 h5=>?_;refine kN (lf.filter (Mt.ow f n ts t lf)).length _ _ (by omega) ⟨S,S2,_,rfl,rfl,s4.trans s5,s4.free hS2,s5 _ _ U6,h5,fun p hp=>AK p (List.mem_filter.mp hp).1,Nat.le_trans Zd hle,?_⟩;rw [UR];exact Mt.vX f n ts t _ _ _ (by omega) (by omega)
theorem zX (t:Nat) (s:List Nat) (p:Nat) (ts:Times):Mt.jS t (s++[p]) ts=(Mt.jS t s ts).set p (some t):=by
 unfold Mt.jS;rw [List.foldl_append];rfl
theorem CF (ts:Times) (p t:Nat):(bH ts).set p (aM t)=bH (ts.set p (some t)):=by
 unfold bH;rw [List.map_set];rfl
theorem iH (ts:Times):(bH ts).length=ts.length:=List.length_map _
theorem Ie {t:Nat} {s:List Nat} {ts:Times} (h:(timeOf ts 0).isSome=true):(timeOf (Mt.jS t s ts) 0).isSome=true:=by
 rw [Mt.jy,Mt.qa];split
 ·rfl
 ·rw [←Mt.jy];exact h
section
variable {T:Txt K mg} {H H':Hp} {a dx an at':Addr} {fv:V} {n:Net} {f:Form} {t:Nat} {ts:Times}
theorem eG.times (R:eG T H a dx an fv at' n f t ts) (s:List Nat) (u:Nat):eG T (upd H at' (.lst (bH (Mt.jS u s ts)))) a dx an fv at' n f t (Mt.jS u s ts):=by
 refine ⟨?_,aA,R.full,R.n8,by rw [Mt.CY];exact R.len,Ie R.zero,R.QX (aO.upd (by simp))⟩;rw [aF R.ne];exact R.obj
theorem eG.fe (R:eG T H a dx an fv at' n f t ts) (u:Nat):eG T (upd H a (.ins T.aQ.C dx (dS (.ref an) fv (aM u) (.ref at')))) a dx an fv at' n f u ts:=by
 refine ⟨aA,?_,R.full,R.n8,R.len,R.zero,R.QX (aO.upd (by simp))⟩;rw [aF (Ne.symm R.ne)];exact R.tm
end
inductive xUI (T:Txt K mg) (x:V) (H:Hp) (Q:VK):Prop
 |mk:∀a dx an fv at' n f t ts,x=.ref a→eG T H a dx an fv at' n f t ts→(∀b H',H b=none→aO [a,at'] H H'→H' b=some (.lst ((Vblaai.steps f n ts t).map aM))→eG T H' a dx an fv at' n f t (doneAt t (Vblaai.steps f n ts t) ts)→Q (.ref b) H')→xUI T x H Q
def xU (T:Txt K mg):Sp:=m7 fun x H Q=>xUI T x H Q
theorem ot (T:Txt K mg):aU P w K mg base cI 4 T.dP.f T.dP.fd ["self"] (xU T):=by
 refine T.dP.fn.n4 jY fun bJ A outer s H x Q E hr h=>?_;obtain ⟨a,dx,an,fv,at',n,f,t,ts,rfl,R,k⟩:=h;refine ⟨_,(ae (aN (i:=1) jY.nd rfl (Or.inl rfl) (cU (pv 0) T.aQ.cl T.eS.m (sS T) ‹hr› T.eS.b .nil aB)) (ae (cJ PassesOwn.never rfl (fg (pv 1)) (aK (i:=2) jY.nd rfl (Or.inl rfl)) (ah (Gi (ai T.aQ.cl T.fb (pv 0)) (GQ (ai T.aQ.cl T.cx (pv 0)) (pv 2) set_list)))) (ah (au (pv 1))))),?_⟩;have h0:=R.obj;exists h0;refine ⟨a,dx,an,fv,at',n,f,t,ts,rfl,R,fun B H1 hB s1 h1=>?_⟩;have R1:=R.same s1;have nB:B∉[a,at']:=by
  have n1:=aC R.obj hB;have n2:=aC R.tm hB;simp [Ne.symm n1,Ne.symm n2]
 right;refine ⟨⟨_,h1⟩,loop (bp ((Vblaai.steps f n ts t).map aM)) (fun i σ H'=>∃v,σ=[some (.ref a),some (.ref B),v]∧aO [a,at'] H1 H'∧eG T H' a dx an fv at' n f t (Mt.jS t ((Vblaai.steps f n ts t).take i) ts))
  ⟨none,rfl,aO.refl _ _,R1⟩ (fun i σ H' z1=>by obtain ⟨_,_,hk,_⟩:=z1;exact  .of (hk _ _ h1 nB)) ?_ ?_⟩
 ·intro i x σ H2 H3 N hi z1 s3 hx kN;obtain ⟨v,rfl,k2,R2⟩:=z1;obtain ⟨p,ep,rfl⟩:=mE hx;have R3:=R2.same s3;have Dh:=R3.obj;have O7:=R3.tm;have hp:=(Mt.vR (List.mem_of_getElem? ep)).2.1;exists Dh,O7;refine ⟨p,FA (by rw [iH,R3.len];exact hp),kN _ _ ⟨_,rfl,(k2.trans (aO.of_same s3)).trans (aO.upd (by simp)),?_⟩⟩;rw [CF,take_snoc ep,zX];have q:=R3.times [p] t;exact q
 ·intro σ H2 z1;obtain ⟨v,rfl,k2,R2⟩:=z1;right;rw [List.length_map,List.take_length,Mt.zm fun p hp=>(Mt.vR hp).1] at R2;exact k B H2 hB ((aO.of_same s1).trans k2) (k2 _ _ h1 nB) R2
theorem lA {ns:List Nature} (q:Nature→Bool):(List.range ns.length).filterMap (fun i=>match ns[i]? with
  |some x=>if q x=true then some (aM x.c) else none
  |none=>none)=((ns.filter q).map fun x=>x.c).map aM:=by
 have e1:(List.range ns.length).map (fun i=>ns[i]?)=ns.map some:=by
  apply List.ext_getElem?;intro i;rw [List.getElem?_map,List.getElem?_map];by_cases h:i<ns.length
  ·rw [List.getElem?_range h,List.getElem?_eq_getElem h];simp [h]
  ·rw [List.getElem?_eq_none (by simp;omega),List.getElem?_eq_none (by omega)];rfl
 have e2:(List.range ns.length).filterMap (fun i=>match ns[i]? with
  |some x=>if q x=true then some (aM x.c) else none
  |none=>none)=((List.range ns.length).map (fun i=>ns[i]?)).filterMap (fun o=>match o with
  |some x=>if q x=true then some (aM x.c) else none
  |none=>none):=by
  rw [List.filterMap_map];rfl
 rw [e2,e1,List.filterMap_map]
 clear e1 e2
 induction ns with
 |nil=>rfl
 |cons x l ih =>
  rw [List.filterMap_cons,List.filter_cons]
  cases c:q x<;>simp_all
def jj (n:Net) (ts:Times) (t:Nat) (c:List Nat):Bool:=(c.all fun x=>(Mt.DL n ts t).contains x)&&(Mt.rJ n ts t).all fun x=>c.contains x
inductive n9I (T:Txt K mg) (x y:V) (H:Hp) (Q:VK):Prop
 |mk:∀a dx an fv at' n f t ts b c,x=.ref a→eG T H a dx an fv at' n f t ts→y=.ref b→H b=some (.lst (c.map aM))→c.length≤1000→(∀H',ax H H'→Q (.bl (jj n ts (t+1) c)) H')→n9I T x y H Q
def n9 (T:Txt K mg):Sp:=rX fun x y H Q=>n9I T x y H Q
theorem i8 (T:Txt K mg):aU P w K mg base cI 3 T.bN.f T.bN.fd ["self","steps"] (n9 T):=by
 refine T.bN.fn.sE aW fun bJ A outer s H x y Q E hr h=>?_;obtain ⟨a,dx,an,fv,at',n,f,t,ts,b,c,rfl,R,rfl,hb,hz,k⟩:=h;refine ⟨_,(ae (aN (i:=2) aW.nd rfl (Or.inr rfl) (cG fY (ai T.aQ.cl T.fb (pv 0)) aI)) (ae (aN (i:=3) aW.nd rfl (Or.inr rfl) (i7 rfl aW.nd (fg (ai T.aT.cl T.bo (ai T.aQ.cl T.kZ (pv 0)))) (bL (show jq ["self","steps","coming","may","must","nature","step"] (aq ck) _ [("nature",5)]=true from by decide+kernel)) (fun _ _ _ _ _=>(aK (i:=5) aW.nd rfl (Or.inl rfl))) (fun _ _ _ _ _=>(lF (bZ (a8 (pv 5) T.aH.cl T.c7.m (nh T) ‹hr› T.c7.b .nil aB (aa (ai T.aQ.cl T.cx (pv 0)) (aa (pv 2) ag)))))) (fun _ _ _ _ _=>(ai T.aH.cl T.bt (pv 5))))) (ae (nL (i:=4) rfl aW.nd rfl rfl (ql rfl rfl rfl rfl) (fg (ai T.aT.cl T.bo (ai T.aQ.cl T.kZ (pv 0)))) (bL (show jq ["self","steps","coming","may","must","nature","step"] (aq ck) _ [("nature",5)]=true from by decide+kernel)) (fun _ _ _ _ _=>(aK (i:=5) aW.nd rfl (Or.inl rfl))) (fun _ _ _ _ _=>(lF (bZ (a8 (pv 5) T.aH.cl T.cQ.m (mf T) ‹hr› T.cQ.b .nil aB (aa (ai T.aQ.cl T.cx (pv 0)) (aa (pv 2) ag)))))) (fun _ _ _ _ _=>(ai T.aH.cl T.bt (pv 5)))) (ah (au (gB (bc (all2 rfl) rfl T.zp za (aa (i7 rfl aW.nd (fg (pv 1)) (bL (show jq ["self","steps","coming","may","must","nature","step"] (aq ck) _ [("step",6)]=true from by decide+kernel)) (fun _ _ _ _ _=>(aK (i:=6) aW.nd rfl (Or.inl rfl))) (fun _ _ _ _ _=>eY) (fun _ _ _ _ _=>(bO Vc (pv 6) (pv 3) (by with_unfolding_all rfl)))) ag)) (gA (bc (all2 rfl) rfl T.zp za (aa (i7 rfl aW.nd (fg (pv 4)) (bL (show jq ["self","steps","coming","may","must","nature","step"] (aq ck) _ [("step",6)]=true from by decide+kernel)) (fun _ _ _ _ _=>(aK (i:=6) aW.nd rfl (Or.inl rfl))) (fun _ _ _ _ _=>eY) (fun _ _ _ _ _=>(bO Vc (pv 6) (pv 1) (by with_unfolding_all rfl)))) ag))))))))),?_⟩
 have h0:=R.obj;obtain ⟨dn,Mj,al,Ju,ns,ls,G0,N0⟩:=id R.net;have hn:=N0.obj;have ht:=N0.vA;exists h0,hn,ht;have nn:n.natures.length≤5:=R.full.nn;refine cW (bp G0) (fun i=>match n.natures[i]? with
  |some x=>if Mt.Dx ts (t+1) x=true then some (aM x.c) else none
  |none=>none) (fun H' s=>.of (s _ _ ht)) (fun i x H' kk hi s hx kf=>?_) (by rw [N0.pt.1];exact Nat.le_trans nn (by decide)) (fun M H1 hM s1 QD=>?_)
 ·obtain ⟨m,em,rm⟩:=N0.pt.at_ hx;obtain ⟨am,dm,rfl,hm⟩:=id rm;have R1:=R.same s;have rN:=R1.obj;have L7:=s _ _ hm;have gc:=R.full.nat m (List.mem_of_getElem? em);rw [em] at kf;have kf:∀H4,ax H' H4→kk (if Mt.Dx ts (t+1) m=true then some (aM m.c) else none) H4:=kf
  exists rN,L7;refine ⟨m,ts,at',t+1,rm.same s,rfl,rfl,R1.tm,by rw [R.len];exact gc.1,by rw [R.len];exact gc.2.1,?_⟩;have e:Fs ts (t+1) m=Mt.Dx ts (t+1) m:=rfl;rw [e];exists L7
  cases cc:Mt.Dx ts (t+1) m with
  |true =>
   rw [cc] at kf;exact kf H' (ax.refl _)
  |false =>
   rw [cc] at kf;exact kf H' (ax.refl _)
 ·rw [N0.pt.1,lA] at QD;have QD:H1 M=some (.lst ((Mt.DL n ts (t+1)).map aM)):=QD;have R1:=R.same s1;have rN:=R1.obj;have Wj:=s1 _ _ hn;have Wh:=s1 _ _ ht;exists rN,Wj,Wh;refine cW (bp G0) (fun i=>match n.natures[i]? with
   |some x=>if Mt.sy ts (t+1) x=true then some (aM x.c) else none
   |none=>none) (fun H' s=>.of (s _ _ Wh)) (fun i x H' kk hi s hx kf=>?_) (by rw [N0.pt.1];exact Nat.le_trans nn (by decide)) (fun U H2 hU s2 W0=>?_)
  ·obtain ⟨m,em,rm⟩:=N0.pt.at_ hx;obtain ⟨am,dm,rfl,hm⟩:=id rm;have R2:=R1.same s;have G4:=R2.obj;have L7:=(s1.trans s) _ _ hm;have gc:=R.full.nat m (List.mem_of_getElem? em);rw [em] at kf;have kf:∀H4,ax H' H4→kk (if Mt.sy ts (t+1) m=true then some (aM m.c) else none) H4:=kf
   exists G4,L7;refine ⟨m,ts,at',t+1,rm.same (s1.trans s),rfl,rfl,R2.tm,by rw [R.len];exact gc.1,by rw [R.len];exact gc.2.1,?_⟩;have e:Bl ts (t+1) m=Mt.sy ts (t+1) m:=rfl;rw [e];exists L7
   cases cc:Mt.sy ts (t+1) m with
   |true =>
    rw [cc] at kf;exact kf H' (ax.refl _)
   |false =>
    rw [cc] at kf;exact kf H' (ax.refl _)
  ·rw [N0.pt.1,lA] at W0;have W0:H2 U=some (.lst ((Mt.rJ n ts (t+1)).map aM)):=W0;have G6:=s1.trans s2;have OD:=G6 _ _ hb;have V4:=s2 _ _ QD;exists OD;refine cW (bp (c.map aM)) (fun i=>some (.bl ((c.map fun x=>(Mt.DL n ts (t+1)).contains x).getD i false))) (fun H' s=>.of (s _ _ OD)) (fun i x H' kk hi s hx kf=>?_) (by rw [List.length_map];exact Nat.le_trans hz (by decide)) (fun D H3 hD s3 hd=>?_)
   ·obtain ⟨p,ep,rfl⟩:=mE hx;have Uu:=s _ _ V4;rw [b9 (x:=(Mt.DL n ts (t+1)).contains p) (by rw [List.getElem?_map,ep];rfl)] at kf;exists Uu;refine ⟨rfl,pN _,?_⟩;rw [tE];exact kf H' (ax.refl _)
   ·refine ph (c.map fun x=>(Mt.DL n ts (t+1)).contains x) hd ?_ ?_
    ·rw [filterMap_some,List.length_map, ←List.length_map (f:=fun x=>(Mt.DL n ts (t+1)).contains x),cB]
    ·rw [List.all_map];have ZC:=s3 _ _ W0;have Eu:=G6.trans s3;have TQ:=Eu _ _ hb;unfold jj at k;rw [show (c.all (id ∘ fun x=>(Mt.DL n ts (t+1)).contains x))=(c.all fun x=>(Mt.DL n ts (t+1)).contains x) from rfl]
     cases cc:(c.all fun x=>(Mt.DL n ts (t+1)).contains x) with
     |false =>
      rw [cc,Bool.false_and] at k;right;exact k H3 Eu
     |true =>
      rw [cc,Bool.true_and] at k;exists ZC;have ml:(Mt.rJ n ts (t+1)).length≤5:=by
       unfold Mt.rJ;rw [List.length_map];exact Nat.le_trans (List.length_filter_le _ _) nn
      refine cW (bp ((Mt.rJ n ts (t+1)).map aM)) (fun i=>some (.bl (((Mt.rJ n ts (t+1)).map fun x=>c.contains x).getD i false))) (fun H' s=>.of (s _ _ ZC)) (fun i x H' kk hi s hx kf=>?_) (by rw [List.length_map];exact Nat.le_trans ml (by decide)) (fun D H4 hD s4 NM=>?_)
      ·obtain ⟨p,ep,rfl⟩:=mE hx;have Ss:=s _ _ TQ;rw [b9 (x:=c.contains p) (by rw [List.getElem?_map,ep];rfl)] at kf;exists Ss;refine ⟨rfl,pN _,?_⟩;rw [tE];exact kf H' (ax.refl _)
      ·refine ph ((Mt.rJ n ts (t+1)).map fun x=>c.contains x) NM ?_ ?_
       ·rw [filterMap_some,List.length_map, ←List.length_map (f:=fun x=>c.contains x),cB]
       ·rw [List.all_map];exact k H4 (Eu.trans s4)
structure tJ (T:Txt K mg) (H:Hp) (a dx an:Addr) (fv:V) (at':Addr) (n:Net) (f:Form) (p:Play):Prop where
 r:eG T H a dx an fv at' n f p.now p.times
 ok:Mt.SA n p
theorem tJ.same {T:Txt K mg} {H H':Hp} {a dx an:Addr} {fv:V} {at':Addr} {n:Net} {f:Form} {p:Play} (h:tJ T H a dx an fv at' n f p) (s:ax H H'):tJ T H' a dx an fv at' n f p:=⟨h.r.same s,h.ok⟩
inductive wBI (T:Txt K mg) (x y:V) (H:Hp) (Q:VK):Prop
 |mk:∀a dx an fv at' n f t ts b c,x=.ref a→eG T H a dx an fv at' n f t ts→y=.ref b→H b=some (.lst (c.map aM))→b≠at'→(∀q∈c,q<size n∧timeOf ts q=none)→(∀d H',H d=none→aO [a,at'] H H'→H' d=some (.lst ((Vblaai.steps f n (doneAt (t+1) c ts) (t+1)).map aM))→eG T H' a dx an fv at' n f (t+1) (doneAt (t+1) (Vblaai.steps f n (doneAt (t+1) c ts) (t+1)) (doneAt (t+1) c ts))→Q (.ref d) H')→wBI T x y H Q
def wB (T:Txt K mg):Sp:=rX fun x y H Q=>wBI T x y H Q
theorem oH (T:Txt K mg):aU P w K mg base cI 5 T.dM.f T.dM.fd ["self","steps"] (wB T):=by
 refine T.dM.fn.sE oa fun bJ A outer s H x y Q E hr h=>?_;obtain ⟨a,dx,an,fv,at',n,f,t,ts,b,c,rfl,R,rfl,hb,lP,hc,k⟩:=h;refine ⟨_,(ae (K1 T.aQ.cl T.fb (pv 0) aI) (ae (cJ PassesOwn.never rfl (fg (pv 1)) (aK (i:=2) oa.nd rfl (Or.inl rfl)) (ah (Gi (ai T.aQ.cl T.fb (pv 0)) (GQ (ai T.aQ.cl T.cx (pv 0)) (pv 2) set_list)))) (ah (au (cU (pv 0) T.aQ.cl T.dP.m (ot T) ‹hr› T.dP.b .nil aB))))),?_⟩;have h0:=R.obj;have Zs:b≠a:=pO hb h0 (by intro z;cases z);have e1:((t:Int)+1)=((t+1:Nat):Int):=by omega
 have QQ:∀o,upd H a o b=some (.lst (c.map aM)):=fun o=>by rw [aF Zs];exact hb
 exists h0,QQ,e1;refine ⟨by decide,?_⟩;have R1:=R.fe (t+1);generalize uT:upd H a (HO.ins T.aQ.C dx (dS (V.ref an) fv (aM (t+1)) (V.ref at')))=H1 at R1;have k1:aO [a,at'] H H1:=by rw [←uT];exact aO.upd (by simp)
 have EU:H1 b=some (.lst (c.map aM)):=by rw [←uT];exact QQ _
 have nB:b∉[a,at']:=by simp [Zs,lP]
 refine loop (bp (c.map aM)) (fun i σ H'=>∃v,σ=[some (.ref a),some (.ref b),v]∧aO [a,at'] H1 H'∧eG T H' a dx an fv at' n f (t+1) (Mt.jS (t+1) (c.take i) ts))
  ⟨none,rfl,aO.refl _ _,R1⟩ (fun i σ H' z1=>by obtain ⟨_,_,hk,_⟩:=z1;exact  .of (hk _ _ EU nB)) ?_ ?_
 ·intro i x σ H2 H3 N hi z1 s3 hx kN;obtain ⟨v,rfl,k2,R2⟩:=z1;obtain ⟨p,ep,rfl⟩:=mE hx;have R3:=R2.same s3;have Dh:=R3.obj;have O7:=R3.tm;have hp:=(hc p (List.mem_of_getElem? ep)).1;exists Dh,O7;refine ⟨p,FA (by rw [iH,R3.len];exact hp),kN _ _ ⟨_,rfl,(k2.trans (aO.of_same s3)).trans (aO.upd (by simp)),?_⟩⟩;rw [CF,take_snoc ep,zX];have q:=R3.times [p] (t+1);exact q
 ·intro σ H2 z1;obtain ⟨v,rfl,k2,R2⟩:=z1;rw [List.length_map,List.take_length,Mt.zm fun p hp=>(hc p hp).2] at R2;have G4:=R2.obj;exists G4;refine ⟨a,dx,an,fv,at',n,f,t+1,_,rfl,R2,fun d H3 hd k3 h3 R3=>?_⟩;refine k d H3 ?_ ((k1.trans k2).trans k3) h3 R3
  cases q:H d with
  |none=>rfl
  |some o =>
   by_cases hm:d∈[a,at']
   ·simp at hm;rcases hm with rfl|rfl
    ·rw [R2.obj] at hd;cases hd
    ·rw [R2.tm] at hd;cases hd
   ·have:=(k1.trans k2) _ _ q hm;rw [this] at hd
    cases hd
theorem xc {n:Net} {f:Form} {p:Play} {c:List Nat} (ok:Mt.SA n p):Vblaai.tick f n p c=if jj n p.times (p.now+1) c=true then some ({ now:=p.now+1,times:=doneAt (p.now+1) (Vblaai.steps f n (doneAt (p.now+1) c p.times) (p.now+1)) (doneAt (p.now+1) c p.times) },Vblaai.steps f n (doneAt (p.now+1) c p.times) (p.now+1)) else none:=by
 have e:Mt.rJ n p.times (p.now+1)=Vblaai.must n p.times (p.now+1):=Mt.C9 fun x hx s h1 h2=>by
  have:=ok.BS x hx s h1 h2;omega
 unfold Vblaai.tick jj;rw [e,Mt.FC];simp only [Bool.and_eq_true]
theorem F1 {n:Net} {ts:Times} {t:Nat} {c:List Nat} (hn:Mt.aP n) (h:jj n ts t c=true):∀q∈c,q<size n∧timeOf ts q=none:=fun q hq=>by
 unfold jj at h;have h1:=List.all_eq_true.mp (Bool.and_eq_true_iff.mp h).1 q hq;have h2:q∈Vblaai.may n ts t:=by simpa [Mt.FC] using h1
 refine ⟨?_,Mt.CA h2⟩;unfold Vblaai.may at h2;obtain ⟨x,hx,rfl⟩:=List.mem_map.mp h2;exact (hn.nat x (List.mem_filter.mp hx).1).2.1
theorem zV {n:Net} {f:Form} {p:Play} {c:List Nat} (hn:Mt.aP n) (ok:Mt.SA n p) (h:jj n p.times (p.now+1) c=true) :
  Mt.SA n { now:=p.now+1,times:=doneAt (p.now+1) (Vblaai.steps f n (doneAt (p.now+1) c p.times) (p.now+1)) (doneAt (p.now+1) c p.times) }:=by
 have e:Mt.rJ n p.times (p.now+1)=Vblaai.must n p.times (p.now+1):=Mt.C9 fun x hx s h1 h2=>by
  have:=ok.BS x hx s h1 h2;omega
 refine Mt.Nw hn ok (fun x hx=>?_) fun q hq=>(Mt.vR hq).1;unfold jj at h;rw [e] at h;have:=List.all_eq_true.mp (Bool.and_eq_true_iff.mp h).2 x hx;simpa using this
theorem Mb (f:Form) (n:Net) (p:Play):idleFrom f n 0 p=(p,[]):=rfl
theorem EW (f:Form) (n:Net) (k:Nat) (p:Play):idleFrom f n (k+1) p=match Vblaai.tick f n p [] with
 |none=>(p,[])
 |some x=>if x.2.isEmpty=true then idleFrom f n k x.1 else x:=rfl
inductive xnI (T:Txt K mg) (x y:V) (H:Hp) (Q:VK):Prop
 |mk:∀a dx an fv at' n f p m,x=.ref a→tJ T H a dx an fv at' n f p→y=aM m→(∀d H',aO [a,at'] H H'→H' d=some (.lst ((idleFrom f n m p).2.map aM))→tJ T H' a dx an fv at' n f (idleFrom f n m p).1→Q (.ref d) H')→xnI T x y H Q
def xn (T:Txt K mg):Sp:=rX fun x y H Q=>xnI T x y H Q
theorem yw (T:Txt K mg):aU P w K mg base cI 6 T.gG.f T.gG.fd ["self","most_ticks"] (xn T):=by
 refine T.gG.fn.sE fO fun bJ A outer s H x y Q E hr h=>?_;obtain ⟨a,dx,an,fv,at',n,f,p,m,rfl,C,rfl,k⟩:=h;refine ⟨_,(ae (aN (i:=2) fO.nd rfl (Or.inl rfl) (a9 ag)) (ae (aN (i:=3) fO.nd rfl (Or.inl rfl) aI) (ae (xu PassesOwn.never (PW.pt (jb (aE oo (pv 3) (pv 1) (aG _)) (jb (aE eF (bc nY rfl T.eM eJ (aa (pv 2) ag)) aI (aG _)) (jm (bZ (a8 (pv 0) T.aQ.cl T.bN.m (i8 T) ‹hr› T.bN.b .nil aB (aa (a9 ag) ag))))))) (ae (aN (i:=2) fO.nd rfl (Or.inl rfl) (a8 (pv 0) T.aQ.cl T.dM.m (oH T) ‹hr› T.dM.b .nil aB (aa (a9 ag) ag))) (ah (TH (i:=3) fO.nd rfl (Or.inl rfl) aI SV)))) (ah (au (pv 2)))))),?_⟩;right;refine ⟨by decide,fun D hD=>?_⟩;obtain ⟨H1,uT,s1,h1⟩:=dQ hD (.lst []);rw [uT];have full:=C.r.full;refine Fq (fun z σ H'=>∃p' i dn D,σ=[some (.ref a),some (aM m),some (.ref D),some (aM i)]∧z=m - i∧i≤m∧aO [a,at'] H H'∧tJ T H' a dx an fv at' n f p'∧H' D=some (.lst (dn.map aM))∧(if dn=[] then idleFrom f n m p=idleFrom f n (m - i) p' else idleFrom f n m p=(p',dn)))
  ⟨p,0,[],D,rfl,rfl,Nat.zero_le _,aO.of_same s1,C.same s1,h1,by rw [if_pos rfl];rfl⟩ ?_
 intro z σ H2 N kk z1 kN hk;obtain ⟨p',i,dn,D,rfl,rfl,him,k2,C2,h2,hI⟩:=z1;have fin:idleFrom f n m p=(p',dn)→∀H3,ax H2 H3→SW (yC 2) { nx:=fun _ H'=>Q .de H',rt:=Q } [some (.ref a),some (aM m),some (.ref D),some (aM i)] H3:=fun e H3 s3=>by
  right;rw [e] at k;exact k D H3 (k2.trans (aO.of_same s3)) (s3 _ _ h2) (C2.same s3)
 exists h2;by_cases c1:i<m
 ·rw [if_pos (by omega)]
  cases dn with
  |cons u r =>
   rw [if_neg (by simp only [List.map_cons,List.length_cons];omega)];rw [if_neg (by simp)] at hI;refine hk _ _ ?_;rw [if_neg Bool.false_ne_true];exact fin hI H2 (ax.refl _)
  |nil =>
   rw [if_pos (by simp)];rw [if_pos rfl] at hI;obtain ⟨g,eg⟩:∃g,m - i=g+1:=⟨m - i - 1,by omega⟩;rw [eg,EW,xc C2.ok] at hI;have G4:=C2.r.obj;exists G4;refine ⟨by decide,fun E2 Wv=>?_⟩;obtain ⟨H3,Ka,s3,h3⟩:=dQ Wv (.lst []);rw [Ka];have C3:=C2.same s3;refine ⟨a,dx,an,fv,at',n,f,_,_,E2,[],rfl,C3.r,rfl,h3,Nat.zero_le _,fun H4 s4=>?_⟩;have C4:=C3.same s4;have r9:=s3.trans s4;right;refine hk _ _ ?_
   cases c3:jj n p'.times (p'.now+1) [] with
   |false =>
    rw [if_neg Bool.false_ne_true];rw [c3,if_neg Bool.false_ne_true] at hI;exact fin hI H4 r9
   |true =>
    rw [if_pos rfl];rw [c3,if_pos rfl] at hI;have JE:=C4.r.obj;exists JE;refine ⟨by decide,fun E5 Z0=>?_⟩;obtain ⟨H5,Hb,s5,h5⟩:=dQ Z0 (.lst []);rw [Hb];have C5:=C4.same s5;refine ⟨a,dx,an,fv,at',n,f,_,_,E5,[],rfl,C5.r,rfl,h5,(aC C4.r.tm Z0).symm,by simp,fun d H6 hd k6 h6 R6=>?_⟩;right;have e1:((i:Int)+1)=((i+1:Nat):Int):=by omega
    rw [e1];refine kN (m - (i+1)) _ _ (by omega) ⟨_,i+1,_,d,rfl,rfl,by omega,((k2.trans (aO.of_same r9)).trans (aO.of_same s5)).trans k6,⟨R6,zV full C2.ok c3⟩,h6,?_⟩;simp only at hI;by_cases c6:Vblaai.steps f n (doneAt (p'.now+1) [] p'.times) (p'.now+1)=[]
    ·rw [if_pos c6];rw [if_pos (by rw [c6];rfl)] at hI;rw [hI]
     congr 1
     omega
    ·rw [if_neg c6];rw [if_neg (by simpa using c6)] at hI;exact hI
 ·rw [if_neg (by omega)];refine hk _ _ ?_;rw [if_neg Bool.false_ne_true];have ei:i=m:=by omega
  refine fin ?_ H2 (ax.refl _);by_cases c2:dn=[]
  ·rw [if_pos c2,ei,Nat.sub_self,Mb] at hI;rw [hI,c2]
  ·rw [if_neg c2] at hI;exact hI
def Eh (x:Option Nat):Int:=match x with
 |some (t:Nat)=>(t:Int)
 |none=> -1
inductive vWI (T:Txt K mg) (x:V) (H:Hp) (Q:VK):Prop
 |mk:∀a dx an fv at' n f t ts,x=.ref a→eG T H a dx an fv at' n f t ts→(∀b H',ax H H'→H' b=some (.lst (bh (ts.map Eh)))→Q (.ref b) H')→vWI T x H Q
def vW (T:Txt K mg):Sp:=m7 fun x H Q=>vWI T x H Q
theorem vn (T:Txt K mg):aU P w K mg base cI 1 T.fN.f T.fN.fd ["self"] (vW T):=by
 refine T.fN.fn.n4 js fun bJ A outer s H x Q E hr h=>?_;obtain ⟨a,dx,an,fv,at',n,f,t,ts,rfl,R,k⟩:=h;refine ⟨_,(ah (au (i7 rfl js.nd (fg (ai T.aQ.cl T.cx (pv 0))) (bL (show jq ["self","time"] (aq j0) _ [("time",1)]=true from by decide+kernel)) (fun _ _ _ _ _=>(aK (i:=1) js.nd rfl (Or.inl rfl))) (fun _ _ _ _ _=>eY) (fun _ _ _ _ _=>(dh (aE cC (pv 1) aS (aG _)) (EF zh aI) (pv 1)))))),?_⟩
 have h0:=R.obj;have h1:=R.tm;exists h0,h1;have z:=Ge R.full;refine cW (bp (bH ts)) (fun i=>some (.int (Eh (ts.getD i none)))) (fun H' s=>.of (s _ _ h1)) (fun i x H' kk hi s hx kf=>?_) (by rw [iH,R.len];exact Nat.le_trans z (by decide)) (fun D H' hD s hd=>k D H' s ?_)
 ·obtain ⟨o,eo,rfl⟩:=jN hx;rw [b9 eo] at kf
  cases o with
  |none =>
   exists eU;exact kf H' (ax.refl _)
  |some u =>
   exists d4;exact kf H' (ax.refl _)
 ·rw [hd,filterMap_some,iH]
  congr 2
  have:=cB ts none (fun x=>V.int (Eh x));rw [this];unfold bh;rw [List.map_map];rfl
theorem all_range (ts:Times) (q:Option Nat→Bool):(List.range ts.length).all (fun p=>q (timeOf ts p))=ts.all q:=by
 have e:=cB ts none q;have e2:(ts.map q).all id=ts.all q:=by rw [List.all_map];rfl
 rw [←e2, ←e,List.all_map];rfl
theorem Pl (ts:Times):(!LI .de (bH ts))=ts.all Option.isSome:=by
 unfold LI bH
 induction ts with
 |nil=>rfl
 |cons o ts ih =>
  rw [List.map_cons,List.any_cons,List.all_cons, ←ih]
  cases o with
  |none =>
   have:O8 (oV none) .de=true:=rfl;rw [this];rfl
  |some u =>
   have:O8 (oV (some u)) .de=false:=rfl;rw [this];rfl
theorem BF (ts:Times):(bH ts).all oG=true:=by
 unfold bH;rw [List.all_map];exact List.all_eq_true.mpr fun o _=>by cases o<;>rfl
inductive y8I (T:Txt K mg) (x:V) (H:Hp) (Q:VK):Prop
 |mk:∀a dx an fv at' n f t ts,x=.ref a→eG T H a dx an fv at' n f t ts→Q (.bl (allDone n ts)) H→y8I T x H Q
def y8 (T:Txt K mg):Sp:=m7 fun x H Q=>y8I T x H Q
theorem zb (T:Txt K mg):aU P w K mg base cI 1 T.ic.f T.ic.fd ["self"] (y8 T):=by
 refine T.ic.fn.n4 zd fun bJ A outer s H x Q E hr h=>?_;obtain ⟨a,dx,an,fv,at',n,f,t,ts,rfl,R,k⟩:=h;refine ⟨_,(ah (au (bO Ks aS (ai T.aQ.cl T.cx (pv 0)) (by with_unfolding_all rfl)))),?_⟩
 have h0:=R.obj;have h1:=R.tm;exists h0,h1;refine ⟨rfl,BF ts,?_⟩;rw [Pl];unfold allDone at k;rw [←R.len,all_range ts Option.isSome] at k;exact k
inductive qCI (T:Txt K mg) (x:V) (H:Hp) (Q:VK):Prop
 |mk:∀a dx an fv at' n f t ts,x=.ref a→eG T H a dx an fv at' n f t ts→(∀H',ax H H'→Q (.bl (Vblaai.keeps n ts)) H')→qCI T x H Q
def qC (T:Txt K mg):Sp:=m7 fun x H Q=>qCI T x H Q
theorem qi (T:Txt K mg):aU P w K mg base cI 3 T.dG.f T.dG.fd ["self"] (qC T):=by
 refine T.dG.fn.n4 qF fun bJ A outer s H x Q E hr h=>?_;obtain ⟨a,dx,an,fv,at',n,f,t,ts,rfl,R,k⟩:=h;refine ⟨_,(ah (au (a8 (ai T.aQ.cl T.kZ (pv 0)) T.aT.cl T.dE.m (qp T) ‹hr› T.dE.b .nil aB (aa (ai T.aQ.cl T.cx (pv 0)) ag)))),?_⟩;have h0:=R.obj;obtain ⟨dn,Mj,al,Ju,ns,ls,G0,N0⟩:=id R.net;have hn:=N0.obj;exists h0,hn;exact ⟨an,n,ts,at',rfl,R.net,R.full.tocH,Nat.le_trans R.full.nl (by decide),rfl,R.tm,R.len,k⟩
inductive F9I (T:Txt K mg) (x y z:V) (H:Hp) (Q:VK):Prop
 |mk:∀p dx an n f H0,x=.ref p→H p=some (.ins T.aQ.C dx [])→y=.ref an→Mt.aP n→Mt.yN n f→ax H0 H→H0 p=none→dr T H0 an n→fw T H0 z f→(∀H' at',H at'=none→aO [p] H H'→eG T H' p dx an z at' n f 0 (Vblaai.fresh n)→Q .de H')→F9I T x y z H Q
def F9 (T:Txt K mg):Sp:=Cs fun x y z H Q=>F9I T x y z H Q
theorem Fo (T:Txt K mg):aU P w K mg base cI 2 T.aQ.f T.aQ.fd ["self","net","form"] (F9 T):=by
 refine T.aQ.fn.Bi Fg fun bJ A outer s H x y z Q E hr h=>?_;obtain ⟨p,dx,an,n,f,H0,rfl,hp,rfl,full,n8,s0,O5,hN,hF,k⟩:=h;refine ⟨_,(ae (bC T.aQ.cl T.kZ (pv 0) (pv 1)) (ae (bC T.aQ.cl T.t9 (pv 0) (pv 2)) (ae (bC T.aQ.cl T.fb (pv 0) aI) (ah (bC T.aQ.cl T.cx (pv 0) (cU (pv 1) T.aT.cl T.dk.m (nX T) ‹hr› T.dk.b .nil aB)))))),?_⟩;obtain ⟨dn,Mj,al,Ju,ns,ls,G0,N0⟩:=id hN;have PR:an≠p:=aC N0.obj O5;have hn:=s0 _ _ N0.obj;exists hp,aF PR,hn;refine ⟨by decide,by show 1<1000;decide,by show 2<1000;decide,?_⟩;rw [fC,fC];obtain ⟨H1,uT,s1,h1,k1⟩:=Io s0 O5 (.ins T.aQ.C dx (g9 "tick" (V.int 0) (g9 "form" z (g9 "net" (V.ref an) []))));rw [uT];have Rf:=Ge full;refine ⟨an,n,rfl,hN.same s1,by omega,fun B H2 hB s2 h2=>?_⟩;have Qh:=s2 _ _ h1;exists Qh;refine ⟨by show 3<1000;decide,?_⟩;have TU:B≠p:=(aC h1 hB).symm;have hB0:H B=none:=by
  cases q:H B with
  |none=>rfl
  |some o =>
   have:=k1 _ _ q (by simpa using TU);rw [this] at hB
   cases hB
 refine k _ B hB0 ((k1.trans (aO.of_same s2)).trans (aO.upd (by simp))) ⟨aA,?_,full,n8,Mt.uf n,?_,H0,ax.iA (s1.trans s2) O5,O5,s1.free hB,hN,hF⟩
 ·rw [aF TU];exact h2
 ·rw [Mt.jW,if_pos ⟨rfl,full.pos⟩];rfl
structure T7 (H:Hp) (a:Addr) (ls:List (List Nat)):Prop where
 ex:∃as:List Addr,H a=some (.lst (as.map V.ref))∧as.length=ls.length∧∀(i:Nat) (b:Addr) (r:List Nat),as[i]?=some b→ls[i]?=some r→H b=some (.lst (r.map aM))
theorem T7.same {H H':Hp} {a:Addr} {ls:List (List Nat)} (h:T7 H a ls) (s:ax H H'):T7 H' a ls:=by
 obtain ⟨as,h1,h2,h3⟩:=h.ex;exact ⟨as,s _ _ h1,h2,fun i b r e1 e2=>s _ _ (h3 i b r e1 e2)⟩
theorem xX (l:List Nat) (x:Nat):Mt.cv (l++[x])=((Mt.cv l).map fun s=>s++[x])++Mt.cv l:=by
 unfold Mt.cv Mt.xH;rw [List.foldl_append];rfl
theorem AF:∀k (l:List Nat),l.length=k→(Mt.cv l).length=2 ^ k
 |0,l,h=>by
  have:l=[]:=List.length_eq_zero_iff.mp h;subst this;rfl
 |k+1,l,h=>by
  have lP:l≠[]:=by intro e;subst e;cases h
  obtain ⟨m,x,e⟩:∃m x,l=m++[x]:=⟨l.dropLast,l.getLast lP,(List.dropLast_concat_getLast lP).symm⟩;subst e;rw [xX,List.length_append,List.length_map,AF k m (by simpa using h)];omega
theorem Dm {l:List Nat} (h:l.length≤12):(Mt.cv l).length≤4096:=by
 rw [AF _ l rfl];exact Nat.pow_le_pow_right (by decide) h
theorem zg:∀(l s:List Nat),s∈Vblaai.parts l→s.length≤l.length
 |[],s,h=>by
  have:s=[]:=by simpa [Vblaai.parts] using h
  subst this;exact Nat.le_refl _
 |y::l,s,h=>by
  rcases (Mt.bK y l s).mp h with h|⟨r,hr,rfl⟩
  ·have:=zg l s h;simp only [List.length_cons];omega
  ·have:=zg l r hr;simp only [List.length_cons];omega
theorem CH {l s:List Nat} (h:s∈Mt.cv l):s.length≤l.length:=zg l s ((Mt.iI l s).mp h)
inductive KQI (T:Txt K mg) (x:V) (H:Hp) (Q:VK):Prop
 |mk:∀b l,x=.ref b→H b=some (.lst (l.map aM))→l.length≤12→(∀d H',ax H H'→T7 H' d (Mt.cv l)→Q (.ref d) H')→KQI T x H Q
def KQ (T:Txt K mg):Sp:=m7 fun x H Q=>KQI T x H Q
theorem Cb (T:Txt K mg):aU P w K mg base cI 1 T.iT.f T.iT.fd ["steps"] (KQ T):=by
 refine T.iT.fn.n4 kM fun bJ A outer s H x Q E hr h=>?_;obtain ⟨b,l,rfl,hb,hz,k⟩:=h;refine ⟨_,(ae (aN (i:=1) kM.nd rfl (Or.inl rfl) (a9 (aa (a9 ag) ag))) (ae (cJ PassesOwn.never rfl (fg (pv 0)) (aK (i:=2) kM.nd rfl (Or.inr rfl)) (ah (aN (i:=1) kM.nd rfl (Or.inl rfl) (cG jt (i7 rfl kM.nd (fg (pv 1)) (bL (show jq ["steps","found","step","some"] (aq ze) _ [("some",3)]=true from by decide+kernel)) (fun _ _ _ _ _=>(aK (i:=3) kM.nd rfl (Or.inl rfl))) (fun _ _ _ _ _=>eY) (fun _ _ _ _ _=>(cG jt (pv 3) (a9 (aa (pv 2) ag))))) (pv 1))))) (ah (au (pv 1))))),?_⟩
 right;refine ⟨by decide,fun D0 hD0=>?_⟩;obtain ⟨H1,uT,s1,h1⟩:=dQ hD0 (.lst []);rw [uT];refine ⟨by show 1≤sizeLine;decide,fun D1 hD1=>?_⟩;obtain ⟨H2,Aw,s2,h2⟩:=dQ hD1 (.lst [V.ref D0]);rw [Aw];have OD:=s2 _ _ (s1 _ _ hb);have W9:T7 H2 D1 (Mt.cv (l.take 0)):=⟨[D0],h2,rfl,fun i b r e1 e2=>by
  cases i with
  |zero =>
   cases e1
   cases e2;exact s2 _ _ h1
  |succ i=>simp at e1⟩
 exists OD;refine (loop (bp (l.map aM)) (fun i σ H'=>∃F v2,σ=[some (.ref b),some (.ref F),v2,none]∧ax H H'∧T7 H' F (Mt.cv (l.take i)))
  ⟨D1,none,rfl,s1.trans s2,W9⟩ (fun i σ H' z1=>by obtain ⟨_,_,_,s,_⟩:=z1;exact  .of (s _ _ hb)) ?_ ?_)
 ·intro i x σ H3 H4 N hi z1 s4 hx kN;obtain ⟨F,v2,rfl,s3,L3⟩:=z1;obtain ⟨p,ep,rfl⟩:=mE hx;have L4:=L3.same s4;obtain ⟨as,g1,g2,g3⟩:=L4.ex;have WB:i≤l.length:=by rw [List.length_map] at hi;omega
  have z1:(Mt.cv (l.take i)).length≤4096:=Dm (by rw [List.length_take];omega);exists g1;refine Bk (bp (as.map V.ref)) (fun i'=>((Mt.cv (l.take i)).getD i' []++[p]).map aM) (fun H' s=>.of (s _ _ g1)) (fun i' x H' kk o4 s hx' kf=>?_) (by rw [List.length_map,g2];exact Nat.le_trans z1 (by decide)) (fun D bs H5 hD FK s5 R5=>?_)
  ·obtain ⟨c,ec,rfl⟩:=jN hx';have KL:i'<(Mt.cv (l.take i)).length:=by rw [←g2];exact (List.getElem?_eq_some_iff.mp ec).1
   have er:=List.getElem?_eq_getElem KL;have hc:=s _ _ (g3 i' c _ ec er);rw [b9 er] at kf;exists hc;refine ⟨by show 1≤sizeLine;decide,fun E hE=>?_⟩;obtain ⟨H6,QH,s6,h6⟩:=dQ hE (.lst [aM p]);rw [QH];have Xl:=s6 _ _ hc;exists Xl,h6;refine ⟨?_,fun E2 Wv=>?_⟩
   ·have:=CH (List.getElem_mem KL);rw [List.length_take] at this;rw [List.length_map];exact Nat.le_trans (show _≤20 by omega) (by decide)
   ·obtain ⟨H7,S9,s7,h7⟩:=dQ Wv (.lst (((Mt.cv (l.take i))[i']).map aM++[aM p]));rw [S9];refine kf E2 H7 (s6.free Wv) (s6.trans s7) ?_;rw [h7,List.map_append];rfl
  ·rw [List.length_map,g2] at R5;have Yn:=s5 _ _ g1;have g05:=R5.lst;exists g05,Yn;refine ⟨?_,fun G hG=>?_⟩
   ·rw [List.length_map,List.length_map,R5.len,List.length_map,List.length_range,g2];exact Nat.le_trans (Nat.add_le_add z1 z1) (by decide)
   ·obtain ⟨H6,QH,s6,h6⟩:=dQ hG (.lst (bs.map V.ref++as.map V.ref));rw [QH];refine kN _ _ ⟨G,_,rfl,((s3.trans s4).trans s5).trans s6,?_⟩;rw [take_snoc ep,xX];have lb:bs.length=(Mt.cv (l.take i)).length:=by rw [R5.len,List.length_map,List.length_range]
    refine ⟨bs++as,by rw [h6,List.map_append],by rw [List.length_append,List.length_append,List.length_map,lb,g2],fun j c r e1 e2=>?_⟩;rw [List.getElem?_append] at e1 e2;rw [List.length_map] at e2;by_cases cj:j<(Mt.cv (l.take i)).length
    ·rw [if_pos (by omega)] at e1;rw [if_pos cj] at e2;obtain ⟨r0,e0,rfl⟩:=jN e2;refine s6 _ _ (R5.row j c _ e1 ?_);rw [List.getElem?_map,List.getElem?_range cj];show some (((Mt.cv (l.take i)).getD j []++[p]).map aM)=_;rw [b9 e0]
    ·rw [if_neg (by omega),lb] at e1;rw [if_neg cj] at e2;exact s6 _ _ (s5 _ _ (g3 _ c r e1 e2))
 ·intro σ H3 z1;obtain ⟨F,v2,rfl,s3,L3⟩:=z1;right;rw [List.length_map,List.take_length] at L3;exact k F H3 s3 L3
theorem B6 {u:Times} {i:Nat} {y:V} (h:(bH u)[i]?=some y):y=oV (timeOf u i)∧i<u.length:=by
 unfold bH at h;obtain ⟨x,e,rfl⟩:=jN h;refine ⟨?_,(List.getElem?_eq_some_iff.mp e).1⟩;unfold timeOf;rw [b9 e]
inductive DOI (T:Txt K mg) (x y z:V) (H:Hp) (Q:VK):Prop
 |mk:∀b u c s t,x=.ref b→H b=some (.lst (bH u))→u.length≤12→y=.ref c→H c=some (.lst (s.map aM))→z=aM t→(∀p∈s,timeOf u p=none)→(∀d H',H d=none→ax H H'→H' d=some (.lst (bH (doneAt t s u)))→Q (.ref d) H')→DOI T x y z H Q
def DO (T:Txt K mg):Sp:=Cs fun x y z H Q=>DOI T x y z H Q
theorem vc (T:Txt K mg):aU P w K mg base cI 1 T.eW.f T.eW.fd ["times","steps","tick"] (DO T):=by
 refine T.eW.fn.Bi lC fun bJ A outer s H x y z Q E hr h=>?_;obtain ⟨b,u,c,s,t,rfl,hb,hz,rfl,hc,rfl,hs,k⟩:=h;refine ⟨_,(ah (au (i7 rfl lC.nd (gS rfl T.bP (aa (pv 0) ag)) (bL (show jq ["times","steps","tick","step","time"] (aq qj) _ [("step",3),("time",4)]=true from by decide+kernel)) (fun _ _ _ _ _=>(fB (n:=2) rfl (bq (aK (i:=3) lC.nd rfl (Or.inl rfl)) (bq (aK (i:=4) lC.nd rfl (Or.inl rfl)) fD)))) (fun _ _ _ _ _=>eY) (fun _ _ _ _ _=>(dh (aE Vc (pv 3) (pv 1) (by with_unfolding_all rfl)) (pv 2) (pv 4)))))),?_⟩
 exists hb;refine ⟨⟨_,.of hb⟩,cW (dN (bH u)) (fun i=>some (if s.contains i=true then aM t else oV (timeOf u i))) (fun H' s=>.of (s _ _ hb)) (fun i x H' kk hi s1 hx kf=>?_) (by rw [iH];exact Nat.le_trans hz (by decide)) (fun D H1 hD s1 hd=>?_)⟩
 ·obtain ⟨T0,y,rfl,hT,hy⟩:=hx;obtain ⟨rfl,o4⟩:=B6 hy;have Z8:=s1 _ _ hc;exists hT,Z8;refine ⟨rfl,pN s,?_⟩;rw [tE]
  cases q:s.contains i with
  |true =>
   rw [q] at kf;right;exact kf H' (ax.refl _)
  |false =>
   rw [q] at kf;right;exact kf H' (ax.refl _)
 ·refine k D H1 hD s1 ?_;rw [hd,iH,filterMap_some, ←Mt.zm hs]
  congr 2
  apply List.ext_getElem?;intro i;unfold bH;rw [List.getElem?_map,List.getElem?_map,Mt.qa];by_cases hi:i<u.length
  ·rw [List.getElem?_range hi];have e:=List.getElem?_eq_getElem hi;by_cases c1:i∈s
   ·rw [if_pos ⟨c1,hi⟩];show some (if s.contains i=true then aM t else _)=_
    rw [if_pos (by simpa using c1)];rfl
   ·rw [if_neg (fun z=>c1 z.1),e];show some (if s.contains i=true then aM t else _)=_
    rw [if_neg (by simpa using c1)];unfold timeOf;rw [b9 e];rfl
  ·rw [if_neg (fun z=>hi z.2),List.getElem?_eq_none (by simp;omega),List.getElem?_eq_none (by omega)];rfl
theorem GY (a b:Int):(if b>a then b else a)=max a b:=by
 by_cases c:b>a
 ·rw [if_pos c];omega
 ·rw [if_neg c];omega
theorem OF (a b:Int):(if b<a then b else a)=min a b:=by
 by_cases c:b<a
 ·rw [if_pos c];omega
 ·rw [if_neg c];omega
theorem oF {x y:V}:iz [x,y] 0=some x:=rfl
theorem oe {x y:V}:iz [x,y] 1=some y:=rfl
theorem Pn {α:Type} {l:List α} {q:α→Bool} {i:Nat} {x:α} (h:(l.take i).find? q=none) (e:l[i]?=some x) (hq:q x=true):l.find? q=some x:=by
 have hi:=(List.getElem?_eq_some_iff.mp e).1;have e2:l=l.take i++x::l.drop (i+1):=by
  have:=List.take_append_drop i l;rw [List.drop_eq_getElem_cons hi,(List.getElem?_eq_some_iff.mp e).2] at this;exact this.symm
 rw [e2,List.find?_append,h,List.find?_cons,hq];rfl
theorem MF {α:Type} {l:List α} {q:α→Bool} {i:Nat} {x:α} (h:(l.take i).find? q=none) (e:l[i]?=some x) (hq:q x=false):(l.take (i+1)).find? q=none:=by
 rw [take_snoc e,List.find?_append,h,List.find?_cons,hq];rfl
structure i9 (T:Txt K mg) (H:Hp) (g dx an ao al:Addr) (as:List Addr) (am:Addr) (n:Net) (h:Nat):Prop where
 obj:H g=some (.ins T.bA.C dx (iJ (.ref an) (aM h) (.ref ao) (.ref al) (.ref am)))
 ne:g≠am
 full:Mt.aP n
 six:size n≤6
 hz:h≤8
 ex:∃H0,ax H0 H∧H0 am=none∧dr T H0 an n∧H0 ao=some (.lst ((Mt.j9 n).map aM))∧Tab H0 al as (zc n)
section
variable {T:Txt K mg} {H H':Hp} {g dx an ao al am:Addr} {as:List Addr} {n:Net} {h:Nat}
theorem i9.keep (R:i9 T H g dx an ao al as am n h) (k:aO [am] H H'):i9 T H' g dx an ao al as am n h:=by
 obtain ⟨H0,s0,h0,h1⟩:=R.ex;exact ⟨k _ _ R.obj (by simpa using R.ne),R.ne,R.full,R.six,R.hz,H0,aO.same s0 k (by simpa using h0),h0,h1⟩
theorem i9.same (R:i9 T H g dx an ao al as am n h) (s:ax H H'):i9 T H' g dx an ao al as am n h:=R.keep (aO.of_same s)
theorem i9.net (R:i9 T H g dx an ao al as am n h):dr T H an n:=by
 obtain ⟨H0,s0,h0,h1,_⟩:=R.ex;exact h1.same s0
theorem i9.ours (R:i9 T H g dx an ao al as am n h):H ao=some (.lst ((Mt.j9 n).map aM)):=by
 obtain ⟨H0,s0,h0,_,h1,_⟩:=R.ex;exact s0 _ _ h1
theorem i9.tab (R:i9 T H g dx an ao al as am n h):Tab H al as (zc n):=by
 obtain ⟨H0,s0,h0,_,_,h1⟩:=R.ex;exact h1.same s0
theorem i9.at_ (R:i9 T H g dx an ao al as am n h) {i j:Nat} (hi:i<size n) (hj:j<size n):∃b row,iz (as.map V.ref) (i:Int)=some (.ref b)∧H b=some (.lst (dU row))∧iz (dU row) (j:Int)=some (wV (at_ (Mt.jM n) i j)):=by
 have sq:=Mt.PX R.full.tocH;obtain ⟨row,er,Ri⟩:=sq.get hi;obtain ⟨b,e1,e2⟩:=Tab.get R.tab er;exact ⟨b,row,cV (by rw [List.getElem?_map,e1];rfl),e2,cV (nF (sq.ma er hj))⟩
end
inductive uPI (T:Txt K mg) (x y z:V) (H:Hp) (Q:VK):Prop
 |mk:∀g dx an ao al as am n h p b u,x=.ref g→i9 T H g dx an ao al as am n h→y=aM p→p<size n→z=.ref b→H b=some (.lst (bH u))→u.length=size n→(∀d H',H d=none→ax H H'→H' d=some (.tup [.int (Mt.kept n h u p).1,.int (Mt.kept n h u p).2])→Q (.ref d) H')→uPI T x y z H Q
def uP (T:Txt K mg):Sp:=Cs fun x y z H Q=>uPI T x y z H Q
theorem mm (T:Txt K mg):aU P w K mg base cI 1 T.cR.f T.cR.fd ["self","step","times"] (uP T):=by
 refine T.cR.fn.Bi bQ fun bJ A outer s H x y z Q E hr h=>?_;obtain ⟨g,dx,an,ao,al,as,am,n,h,p,b,u,rfl,R,rfl,hp,rfl,hb,hl,k⟩:=h;refine ⟨_,(ae (aN (i:=3) bQ.nd rfl (Or.inl rfl) aI) (ae (aN (i:=4) bQ.nd rfl (Or.inl rfl) (ai T.bA.cl T.t6 (pv 0))) (ae (cJ PassesOwn.never rfl (gS rfl T.bP (aa (pv 2) ag)) (fB (n:=2) rfl (bq (aK (i:=5) bQ.nd rfl (Or.inl rfl)) (bq (aK (i:=6) bQ.nd rfl (Or.inl rfl)) fD))) (ah (aY (PW.pt (jb (aE tQ (pv 5) (pv 1) (aG _)) (jm (aE iw (pv 6) aS (aG _))))) (ae (aN (i:=7) bQ.nd rfl (Or.inl rfl) (aR fz (aR fz (ai T.bA.cl T.jP (pv 0)) (pv 1) (fun _ _=>rfl)) (pv 5) (fun _ _=>rfl))) (ae (aN (i:=8) bQ.nd rfl (Or.inl rfl) (aR fz (aR fz (ai T.bA.cl T.jP (pv 0)) (pv 5) (fun _ _=>rfl)) (pv 1) (fun _ _=>rfl))) (ae (aN (i:=3) bQ.nd rfl (Or.inl rfl) (dh (aE cC (pv 7) aS (aG _)) (pv 3) (bc (ux rfl) rfl T.Fp Ft (aa (pv 3) (aa (cG vt (pv 6) (pv 7)) ag))))) (ah (aN (i:=4) bQ.nd rfl (Or.inl rfl) (dh (aE cC (pv 8) aS (aG _)) (pv 4) (bc (Ei rfl) rfl T.OK Nl (aa (pv 4) (aa (cG fY (pv 6) (pv 8)) ag))))))))) aJ))) (ah (au (vv (aa (pv 3) (aa (pv 4) ag)))))))),?_⟩;have h0:=R.obj;exists h0;refine ⟨⟨_,.of hb⟩,loop (dN (bH u)) (fun i σ H'=>∃v5 v6 v7 v8,σ=[some (.ref g),some (aM p),some (.ref b),some (.int (Mt.l8 n h u p i).1),some (.int (Mt.l8 n h u p i).2),v5,v6,v7,v8]∧ax H H')
  ⟨none,none,none,none,rfl,ax.refl _⟩ (fun i σ H' z1=>by obtain ⟨_,_,_,_,_,s1⟩:=z1;exact  .of (s1 _ _ hb)) ?_ ?_⟩
 ·intro i x σ H2 H3 N hi z1 s3 z2 kN;obtain ⟨v5,v6,v7,v8,rfl,s2⟩:=z1;obtain ⟨T0,y,rfl,hT,hy⟩:=z2;obtain ⟨rfl,o4⟩:=B6 hy;have Aq:=s2.trans s3;have R3:=R.same Aq;have Dh:=R3.obj;have go:∀σ4,(∃v5 v6 v7 v8,σ4=[some (.ref g),some (aM p),some (.ref b),some (.int (Mt.EE n u p (Mt.l8 n h u p i) i).1),some (.int (Mt.EE n u p (Mt.l8 n h u p i) i).2),v5,v6,v7,v8])→N σ4 H3:=by
   intro σ4 z1;obtain ⟨w5,w6,w7,w8,rfl⟩:=z1;refine kN _ _ ⟨w5,w6,w7,w8,?_,Aq⟩;rw [Mt.zU]
  unfold Mt.EE at go;exists hT;by_cases c1:i=p
  ·rw [if_pos (by omega)];rw [if_pos c1] at go;exact go _ ⟨_,_,_,_,rfl⟩
  ·rw [if_neg (by omega)];rw [if_neg c1] at go
   cases c2:timeOf u i with
   |none =>
    rw [c2] at go;exists eU;exact go _ ⟨_,_,_,_,rfl⟩
   |some s =>
    rw [c2] at go;obtain ⟨b1,r1,e1,e2,e3⟩:=R3.at_ hp (by rw [←hl];exact o4:i<size n);obtain ⟨b2,r2,e4,e5,e6⟩:=R3.at_ (by rw [←hl];exact o4:i<size n) hp;have tl:=R3.tab.lst;exists d4,Dh,tl,e1,e2,e3,e4,e5,e6
    cases c3:at_ (Mt.jM n) p i with
    |none =>
     rw [c3] at go
     cases c4:at_ (Mt.jM n) i p with
     |none =>
      rw [c4] at go;exists wV;exact go _ ⟨_,_,_,_,rfl⟩
     |some w2 =>
      rw [c4] at go;exists wV;rw [OF];exact go _ ⟨_,_,_,_,rfl⟩
    |some w1 =>
     rw [c3] at go
     cases c4:at_ (Mt.jM n) i p with
     |none =>
      rw [c4] at go;exists wV;rw [GY];exact go _ ⟨_,_,_,_,rfl⟩
     |some w2 =>
      rw [c4] at go;exists wV,d4;rw [GY,OF];exact go _ ⟨_,_,_,_,rfl⟩
 ·intro σ H2 z1;obtain ⟨v5,v6,v7,v8,rfl,s2⟩:=z1;right;refine ⟨by decide,fun D hD=>?_⟩;obtain ⟨H3,Ka,s3,h3⟩:=dQ hD (.tup [.int (Mt.l8 n h u p (bH u).length).1,.int (Mt.l8 n h u p (bH u).length).2]);rw [Ka];refine k D H3 (s2.free hD) (s2.trans s3) ?_;rw [h3,iH,hl];rfl
inductive tqI (T:Txt K mg) (x y z v:V) (H:Hp) (Q:VK):Prop
 |mk:∀g dx an ao al as am n h p b u t,x=.ref g→i9 T H g dx an ao al as am n h→y=aM p→p<size n→z=aM t→v=.ref b→H b=some (.lst (bH u))→u.length=size n→(∀H',ax H H'→Q (.bl (Mt.fits n h t u p)) H')→tqI T x y z v H Q
def tq (T:Txt K mg):Sp:=Qx fun x y z v H Q=>tqI T x y z v H Q
theorem su (T:Txt K mg):aU P w K mg base cI 2 T.eP.f T.eP.fd ["self","step","tick","times"] (tq T):=by
 refine T.eP.fn.Ro lS fun bJ A outer s H x y z v Q E hr h=>?_;obtain ⟨g,dx,an,ao,al,as,am,n,h,p,b,u,t,rfl,R,rfl,hp,rfl,rfl,hb,hl,k⟩:=h;refine ⟨_,(ae (aN (i:=4) lS.nd rfl (Or.inl rfl) (a8 (pv 0) T.bA.cl T.cR.m (mm T) ‹hr› T.cR.b .nil aB (aa (pv 1) (aa (pv 3) ag)))) (ah (au (nU ia ia (aR fz (pv 4) aI (fun _ _=>rfl)) (pv 2) (aR fz (pv 4) aI (fun _ _=>rfl)))))),?_⟩;have h0:=R.obj;exists h0;refine ⟨g,dx,an,ao,al,as,am,n,h,p,b,u,rfl,R,rfl,hp,rfl,hb,hl,fun d H1 hd s1 h1=>?_⟩;exists h1,oF,oe;unfold Mt.fits at k;by_cases c1:(Mt.kept n h u p).1≤(t:Int)
 ·by_cases c2:(t:Int)≤(Mt.kept n h u p).2
  ·rw [if_pos c1];rw [decide_eq_true ⟨c1,c2⟩] at k;rw [decide_eq_true c2];exact k H1 s1
  ·rw [if_pos c1];rw [decide_eq_false (fun z=>c2 z.2)] at k;rw [decide_eq_false c2];exact k H1 s1
 ·rw [if_neg c1];rw [decide_eq_false (fun z=>c1 z.1)] at k;exact k H1 s1
inductive rPI (T:Txt K mg) (x y z v w:V) (H:Hp) (Q:VK):Prop
 |mk:∀g dx an ao al as am n h p b u t ak k0 k1,x=.ref g→y=aM p→z=.ref ak→v=aM t→w=.ref b→i9 T H g dx an ao al as am n h→p<size n→H ak=some (.tup [.int k0,.int k1])→H b=some (.lst (bH u))→u.length=size n→(∀d H',H d=none→ax H H'→H' d=some (.tup [.int (Mt.gx n t u p (k0,k1)).1,.int (Mt.gx n t u p (k0,k1)).2])→Q (.ref d) H')→rPI T x y z v w H Q
def rP (T:Txt K mg):Sp:=V5 fun x y z v w H Q=>rPI T x y z v w H Q
theorem rW (T:Txt K mg):aU P w K mg base cI 2 T.eA.f T.eA.fd ["self","step","kept","tick","times"] (rP T):=by
 refine T.eA.fn.WC ip fun bJ A outer s H x y z v w' Q E hr h=>?_;obtain ⟨g,dx,an,ao,al,as,am,n,h,p,b,u,t,ak,k0,k1,rfl,rfl,rfl,rfl,rfl,R,hp,hk,hb,hl,k⟩:=h;refine ⟨_,(ae (aY (aE iw (aR fz (pv 4) (pv 1) (fun _ _=>rfl)) aS (aG _)) (ah (au (vv (aa (aR fz (pv 4) (pv 1) (fun _ _=>rfl)) (aa (aR fz (pv 4) (pv 1) (fun _ _=>rfl)) ag))))) aJ) (ae (cJ PassesOwn.never rfl (fg (ai T.aT.cl T.bo (ai T.bA.cl T.qX (pv 0)))) (aK (i:=5) ip.nd rfl (Or.inl rfl)) (ah (aY (PW.pt (jb (aE eF (ai T.aH.cl T.bt (pv 5)) (pv 1) (aG _)) (jm (bZ (a8 (pv 5) T.aH.cl T.bD.m (gM T) ‹hr› T.bD.b .nil aB (aa (pv 4) ag)))))) (ae (aN (i:=6) ip.nd rfl (Or.inl rfl) (aR fz (pv 4) (ai T.aH.cl T.bu (pv 5)) (fun _ _=>rfl))) (ah (au (vv (aa (bc (ux rfl) rfl T.Fp Ft (aa (cG fY (pv 6) (ai T.aH.cl T.ff (pv 5))) (aa (cG fY (pv 3) aI) ag))) (aa (cG fY (pv 6) (ai T.aH.cl T.gL (pv 5))) ag)))))) aJ))) (ah (au (vv (aa (bc (ux rfl) rfl T.Fp Ft (aa (aR fz (pv 2) aI (fun _ _=>rfl)) (aa (cG fY (pv 3) aI) ag))) (aa (aR fz (pv 2) aI (fun _ _=>rfl)) ag))))))),?_⟩;have h0:=R.obj;obtain ⟨dn,Mj,Kr,Ju,ns,ls,G0,N0⟩:=id R.net;have hn:=N0.obj;have ht:=N0.vA;have e1:iz (bH u) (p:Int)=some (oV (timeOf u p)):=eE (by rw [hl];exact hp);have mk:∀(H1:Hp) (c0 c1:Int),ax H H1→(c0,c1)=Mt.gx n t u p (k0,k1)→∀q,H1 q=none→Q (.ref q) (upd H1 q (.tup [.int c0,.int c1])):=fun H1 c0 c1 s1 e q hq=>by
  obtain ⟨H3,Ka,s3,h3⟩:=dQ hq (.tup [.int c0,.int c1]);rw [Ka];refine k q H3 (s1.free hq) (s1.trans s3) ?_;rw [h3, ←e]
 unfold Mt.gx at mk
 cases c:timeOf u p with
 |some s0 =>
  rw [c] at e1 mk;exists hb,e1,d4;exact ⟨by decide,mk H _ _ (ax.refl _) rfl⟩
 |none =>
  rw [c] at e1 mk;exists hb,e1,eU,h0,hn,ht;refine loop (bp G0) (fun i σ H'=>∃v5,σ=[some (.ref g),some (aM p),some (.ref ak),some (aM t),some (.ref b),v5,none]∧ax H H'∧(n.natures.take i).find? (fun x=>decide (x.c=p)&&Mt.BS u x)=none)
   ⟨none,rfl,ax.refl _,rfl⟩ (fun i σ H' z1=>by obtain ⟨_,_,s1,_⟩:=z1;exact  .of (s1 _ _ ht)) ?_ ?_
  ·intro i x σ H2 H3 N hi z1 s3 hx kN;obtain ⟨v5,rfl,s2,hf⟩:=z1;obtain ⟨m,em,rm⟩:=N0.pt.at_ hx;obtain ⟨Xc,dm,rfl,hm⟩:=id rm;have Aq:=s2.trans s3;have Z2:=Aq _ _ hm;have TQ:=Aq _ _ hb;have gc:=R.full.nat m (List.mem_of_getElem? em);have go:(decide (m.c=p)&&Mt.BS u m)=false→N [some (.ref g),some (aM p),some (.ref ak),some (aM t),some (.ref b),some (.ref Xc),none] H3:=fun hq=>kN _ _ ⟨_,rfl,Aq,MF hf em hq⟩;exists Z2;by_cases c1:m.c=p
   ·rw [if_pos (by omega)];rw [decide_eq_true c1,Bool.true_and] at go;refine ⟨m,u,b,rm.same Aq,rfl,TQ,by rw [hl];exact gc.1,by rw [hl];exact gc.2.1,?_⟩;right;have eu:tT u m=Mt.BS u m:=rfl;rw [eu]
    cases c2:Mt.BS u m with
    |false =>
     right;exact go c2
    |true =>
     have c3:=c2;unfold Mt.BS at c3;obtain ⟨s0,es⟩:∃s0,timeOf u m.a=some s0:=Option.isSome_iff_exists.mp (Bool.and_eq_true_iff.mp c3).1;have e2:iz (bH u) (m.a:Int)=some (oV (timeOf u m.a)):=eE (by rw [hl];exact gc.1);rw [es] at e2;exists Z2,TQ,e2,d4,oF,oe;have ef:=Pn (q:=fun x=>decide (x.c=p)&&Mt.BS u x) hf em (by simp only [c2,decide_eq_true c1];rfl);rw [GY];refine ⟨by decide,mk H3 _ _ Aq ?_⟩;rw [ef];simp only [es];rfl
   ·rw [if_neg (by omega)];rw [decide_eq_false c1,Bool.false_and] at go;exact go rfl
  ·intro σ H2 z1;obtain ⟨v5,rfl,s2,hf⟩:=z1;have hk2:=s2 _ _ hk;exists hk2,oF,oe;rw [N0.pt.1,List.take_length] at hf;rw [hf] at mk;rw [GY];exact ⟨by decide,mk H2 _ _ s2 rfl⟩
abbrev CB (H:Hp) (ws:List (Option (Int×Int))) (bs:List Addr):Prop:=Paired (fun x y=>H y=some (.tup (PM x))) ws bs
theorem CB.mono {H H':Hp} {ws:List (Option (Int×Int))} {bs:List Addr} (h:CB H ws bs) (m:∀c ys,H c=some (.tup ys)→H' c=some (.tup ys)):CB H' ws bs:=Paired.Qe h fun _ _ z=>m _ _ z
theorem Gz {H:Hp} {p:Addr} {o o':HO} (h:H p=some o') (hn:∀ys,o'≠ .tup ys):∀c ys,H c=some (.tup ys)→upd H p o c=some (.tup ys):=fun c ys e=>by
 rw [aF (fun z=>by
  subst z;rw [h] at e
  cases e;exact hn _ rfl)]
 exact e
inductive vNI (T:Txt K mg) (x y z:V) (H:Hp) (Q:VK):Prop
 |mk:∀g dx an ao al as am n h b u t,x=.ref g→i9 T H g dx an ao al as am n h→y=aM t→z=.ref b→H b=some (.lst (bH u))→u.length=size n→(∀H',ax H H'→(match Mt.look n h t u with
  |none=>Q .de H'
  |some ws=>∀d bs,H' d=some (.lst (bs.map V.ref))→CB H' ws bs→Q (.ref d) H'))→vNI T x y z H Q
def vN (T:Txt K mg):Sp:=Cs fun x y z H Q=>vNI T x y z H Q
theorem vq (T:Txt K mg):aU P w K mg base cI 3 T.fU.f T.fU.fd ["self","tick","times"] (vN T):=by
 refine T.fU.fn.Bi dO fun bJ A outer s H x y z Q E hr h=>?_;obtain ⟨g,dx,an,ao,al,as,am,n,h,b,u,t,rfl,R,rfl,rfl,hb,hl,k⟩:=h;refine ⟨_,(ae (aN (i:=3) dO.nd rfl (Or.inl rfl) (a9 ag)) (ae (cJ PassesOwn.never rfl (gS rfl T.bP (aa (pv 2) ag)) (fB (n:=2) rfl (bq (aK (i:=4) dO.nd rfl (Or.inl rfl)) (bq (aK (i:=5) dO.nd rfl (Or.inl rfl)) fD))) (ae (aN (i:=6) dO.nd rfl (Or.inl rfl) (a8 (pv 0) T.bA.cl T.cR.m (mm T) ‹hr› T.cR.b .nil aB (aa (pv 4) (aa (pv 2) ag)))) (ae (aN (i:=7) dO.nd rfl (Or.inl rfl) (a8 (pv 0) T.bA.cl T.eA.m (rW T) ‹hr› T.eA.b .nil aB (aa (pv 4) (aa (pv 6) (aa (pv 1) (aa (pv 2) ag)))))) (ae (aY (PW.pt (rC (aE K5 (aR fz (pv 7) aI (fun _ _=>rfl)) (aR fz (pv 7) aI (fun _ _=>rfl)) (aG _)) (rC (aE oo (aR fz (pv 7) aI (fun _ _=>rfl)) (aR fz (pv 6) aI (fun _ _=>rfl)) (aG _)) (oZ (aE K5 (aR fz (pv 7) aI (fun _ _=>rfl)) (aR fz (pv 6) aI (fun _ _=>rfl)) (aG _)))))) (ah (au aS)) aJ) (ah (b8 (d6 PySem.F.slot_list_append PySem.F.type_list_append dw (pv 3) (aa (dh (aE cC (pv 5) aS (aG _)) (pv 7) (vv ag)) ag)))))))) (ah (au (pv 3))))),?_⟩;have h0:=R.obj;right;refine ⟨by decide,fun W hW=>?_⟩;obtain ⟨H1,uT,s1,h1⟩:=dQ hW (.lst []);rw [uT];have EU:=s1 _ _ hb;have six:=R.six;exists EU;refine ⟨⟨_,.of EU⟩,loop (dN (bH u)) (fun i σ H'=>∃v4 v5 v6 v7 bs,σ=[some (.ref g),some (aM t),some (.ref b),some (.ref W),v4,v5,v6,v7]∧ax H H'∧H' W=some (.lst (bs.map V.ref))∧CB H' ((List.range i).map (Mt.u9 n h t u)) bs∧(List.range i).all (Mt.good n h t u)=true∧bs.length=i)
  ⟨none,none,none,none,[],rfl,s1,h1,Paired.nil,rfl,rfl⟩ (fun i σ H' z1=>by obtain ⟨_,_,_,_,_,_,s,_⟩:=z1;exact  .of (s _ _ hb)) ?_ ?_⟩
 ·intro i x σ H2 H3 N hi z1 s3 z2 kN;obtain ⟨v4,v5,v6,v7,bs,rfl,s2,X8,P2,A2,l2⟩:=z1;obtain ⟨T0,y,rfl,hT,hy⟩:=z2;obtain ⟨rfl,o4⟩:=B6 hy;have gc:i<size n:=by rw [←hl];exact o4
  have Aq:=s2.trans s3;have R3:=R.same Aq;have Dh:=R3.obj;have hW3:=s3 _ _ X8;have P3:=P2.mono fun c ys e=>s3 _ _ e;exists hT,Dh;refine ⟨g,dx,an,ao,al,as,am,n,h,i,b,u,rfl,R3,rfl,gc,rfl,Aq _ _ hb,hl,fun d1 H4 hd1 s4 h4=>?_⟩;have RA:=Aq.trans s4;have R4:=R.same RA;have JE:=R4.obj;exists JE;refine ⟨g,dx,an,ao,al,as,am,n,h,i,b,u,t,d1,_,_,rfl,rfl,rfl,rfl,rfl,R4,gc,h4,RA _ _ hb,hl,fun d2 H5 hd2 s5 h5=>?_⟩;have Y5:=RA.trans s5;have Ti:=s5 _ _ h4;have Wn:=s5 _ _ (s4 _ _ hW3);have P5:=P3.mono fun c ys e=>s5 _ _ (s4 _ _ e);have stop:Mt.good n h t u i=false→Q .de H5:=fun hq=>by
   have e:Mt.look n h t u=none:=by
    unfold Mt.look;rw [if_neg];rw [all_false (List.getElem?_range gc) hq];exact Bool.false_ne_true
   have:=k H5 Y5;rw [e] at this;exact this
  have go:Mt.good n h t u i=true→∀H6 d,ax H5 H6→H6 d=some (.tup (PM (Mt.u9 n h t u i)))→N [some (.ref g),some (aM t),some (.ref b),some (.ref W),some (aM i),some (oV (timeOf u i)),some (.ref d1),some (.ref d2)] (upd H6 W (.lst (bs.map V.ref++[.ref d]))):=fun hq H6 d s6 hd=>by
   have hW6:=s6 _ _ Wn;have tu:=Gz (o:= .lst (bs.map V.ref++[.ref d])) hW6 (by intro ys z;cases z);refine kN _ _ ⟨_,_,_,_,bs++[d],rfl,ax.iA (Y5.trans s6) hW,by rw [aA,List.map_append];rfl,?_,?_,by rw [List.length_append,l2];rfl⟩
   ·rw [List.range_succ,List.map_append];exact Paired.snoc (P5.mono fun c ys e=>tu _ _ (s6 _ _ e)) (tu _ _ hd)
   ·rw [List.range_succ,List.all_append,A2,List.all_cons,hq];rfl
  have ek:((Mt.kept n h u i).1,(Mt.kept n h u i).2)=Mt.kept n h u i:=rfl;rw [ek] at h5;unfold Mt.good at go stop;unfold Mt.u9 at go;exists h5,Ti,oF,oe;by_cases c1:(Mt.gx n t u i (Mt.kept n h u i)).2<(Mt.gx n t u i (Mt.kept n h u i)).1
  ·rw [if_pos c1];exact stop (decide_eq_false fun z=>by omega)
  ·rw [if_neg c1];by_cases c2:(Mt.gx n t u i (Mt.kept n h u i)).1<(Mt.kept n h u i).1
   ·rw [if_pos c2];exact stop (decide_eq_false fun z=>by omega)
   ·rw [if_neg c2];by_cases c3:(Mt.kept n h u i).2<(Mt.gx n t u i (Mt.kept n h u i)).2
    ·rw [if_pos c3];exact stop (decide_eq_false fun z=>by omega)
    ·rw [if_neg c3];have go:=go (decide_eq_true (by omega));have hle:(bs.map V.ref).length<sizeLine:=by
      rw [List.length_map,l2];exact Nat.lt_of_lt_of_le gc (Nat.le_trans six (by decide))
     refine ⟨⟨_,Wn⟩,?_⟩
     cases c4:timeOf u i with
     |none =>
      rw [if_pos eU];rw [c4] at go;exists Wn;refine ⟨hle,go H5 d2 (ax.refl _) ?_⟩;rw [h5];rfl
     |some s0 =>
      rw [if_neg (by rw [d4];intro z;cases z)];rw [c4] at go;refine ⟨by decide,fun q hq=>?_⟩;obtain ⟨H6,QH,s6,h6⟩:=dQ hq (.tup []);rw [QH];exists s6 _ _ Wn;exact ⟨hle,go H6 q s6 h6⟩
 ·intro σ H2 z1;obtain ⟨v4,v5,v6,v7,bs,rfl,s2,X8,P2,A2,l2⟩:=z1;right;rw [iH,hl] at P2 A2;have:=k H2 s2;have e:Mt.look n h t u=some ((List.range (size n)).map (Mt.u9 n h t u)):=by
   unfold Mt.look;rw [if_pos A2]
  rw [e] at this;exact this W bs X8 P2
def qW (H:Hp) (p:Addr):Hp:=fun q=>if q=p then none else H q
theorem NX (H:Hp) (p:Addr):aO [p] H (qW H p):=fun b o e n=>by
 unfold qW;rw [if_neg (by simpa using n)];exact e
theorem Rows.Uv {H H':Hp} {a p:Addr} {as:List Addr} {t:List (List V)} (h:Rows H a as t) (k:aO [p] H H') (n:p∉a::as):Rows H' a as t:=by
 have q:∀b,b∈a::as→b∉[p]:=fun b hb z=>by
  have:b=p:=by simpa using z
  subst this;exact n hb
 exact ⟨k _ _ h.lst (q a (by simp)),h.len,fun i b r e1 e2=>k _ _ (h.row i b r e1 e2) (q b (List.mem_cons_of_mem _ (List.mem_of_getElem? e1))),h.na,h.nd⟩
inductive F8I (T:Txt K mg) (x y z:V) (H:Hp) (Q:VK):Prop
 |mk:∀p dx an n h H0,x=.ref p→H p=some (.ins T.bA.C dx [])→y=.ref an→z=aM h→Mt.aP n→size n≤6→h≤8→ax H0 H→H0 p=none→dr T H0 an n→(∀H' ao al as am,aO [p] H H'→H am=none→H' am=some (jF am [])→i9 T H' p dx an ao al as am n h→Q .de H')→F8I T x y z H Q
def F8 (T:Txt K mg):Sp:=Cs fun x y z H Q=>F8I T x y z H Q
theorem GH (T:Txt K mg):aU P w K mg base cI 4 T.bA.f T.bA.fd ["self","net","horizon"] (F8 T):=by
 refine T.bA.fn.Bi FQ fun bJ A outer s H x y z Q E hr h=>?_;obtain ⟨p,dx,an,n,h,H0,rfl,hp,rfl,rfl,full,six,hz,s0,O5,hN,k⟩:=h;refine ⟨_,(ae (bC T.bA.cl T.qX (pv 0) (pv 1)) (ae (bC T.bA.cl T.t6 (pv 0) (pv 2)) (ae (bC T.bA.cl T.zP (pv 0) (cU (pv 1) T.aT.cl T.eL.m (pW T) ‹hr› T.eL.b .nil aB)) (ae (bC T.bA.cl T.jP (pv 0) (aD (rj T) ‹hr› rfl T.c8.g T.c8.fn.kp T.c8.b .nil aB (aa (pv 1) ag))) (ah (bC T.bA.cl T.mK (pv 0) Qz)))))),?_⟩;obtain ⟨dn,Mj,al,Ju,ns,ls,G0,N0⟩:=id hN;have PR:an≠p:=aC N0.obj O5;have hn:=s0 _ _ N0.obj;exists hp,aF PR,hn;refine ⟨by decide,by show 1<1000;decide,?_⟩;rw [fC];obtain ⟨H1,uT,s1,h1,k1⟩:=Io s0 O5 (.ins T.bA.C dx (g9 "horizon" (aM h) (g9 "net" (V.ref an) [])));rw [uT];refine ⟨an,n,rfl,hN.same s1,by omega,full.pos,Nat.le_trans full.nn (by decide),fun B H2 hB s2 h2=>?_⟩;have TU:B≠p:=(aC h1 hB).symm;exists s2 _ _ h1;refine ⟨by show 2<1000;decide,?_⟩;obtain ⟨H3,Ka,s3,h3,k3⟩:=Io (s1.trans s2) O5 (.ins T.bA.C dx (g9 "ours" (V.ref B) (g9 "horizon" (aM h) (g9 "net" (V.ref an) []))));rw [Ka];have T6:=k3 _ _ h2 (by simpa using TU);refine ⟨an,n,rfl,hN.same s3,full.tocH,by omega,fun C cs H4 nw s4 tb=>?_⟩;exists s4 _ _ h3;refine ⟨by show 3<1000;decide,?_⟩;obtain ⟨H5,Hb,s5,h5,k5⟩:=Io (s3.trans s4) O5 (.ins T.bA.C dx (g9 "limit_rows" (V.ref C) (g9 "ours" (V.ref B) (g9 "horizon" (aM h) (g9 "net" (V.ref an) [])))));rw [Hb];intro M hM;obtain ⟨H6,QH,s6,h6⟩:=dQ hM (jF M []);rw [QH];exists s6 _ _ h5;refine ⟨by show 4<1000;decide,?_⟩;have WQ:M≠p:=(aC h5 hM).symm;have hkk:aO [p] H H6:=(((k1.trans (aO.of_same s2)).trans k3).trans (aO.of_same s4)).trans (k5.trans (aO.of_same s6));have hM0:H M=none:=by
  cases q:H M with
  |none=>rfl
  |some o =>
   have:=((((k1.trans (aO.of_same s2)).trans k3).trans (aO.of_same s4)).trans k5) _ _ q (by simpa using WQ);rw [this] at hM
   cases hM
 have nC:p∉C::cs:=fun m=>by
  rcases List.mem_cons.mp m with rfl|m
  ·have:=nw.1;rw [h3] at this
   cases this
  ·have:=nw.2 _ m;rw [h3] at this
   cases this
 refine k _ B C cs M (hkk.trans (aO.upd (by simp))) hM0 (by rw [aF WQ];exact h6) ⟨aA,WQ.symm,full,six,hz,qW H5 p,?_,?_,hN.same ?_,?_,?_⟩
 ·intro b o e;have nb:b≠p:=fun z=>by
   subst z;unfold qW at e;rw [if_pos rfl] at e
   cases e
  rw [aF nb];refine s6 _ _ ?_;unfold qW at e;rw [if_neg nb] at e;exact e
 ·unfold qW;rw [if_neg WQ];exact hM
 ·intro b o e;unfold qW;rw [if_neg (aC e O5)];exact s5 _ _ e
 ·unfold qW;rw [if_neg TU];exact k5 _ _ (s4 _ _ T6) (by simpa using TU)
 ·refine Rows.Uv tb (k5.trans (NX H5 p)) nC
theorem Pu {td ty:TE} {σ:L2.St} {H:Hp} {Q:VK}:NH td ty σ H Q=(td σ H fun x H1=>ty σ H1 fun y H2=>∃a b xs k v,x=.ref a∧y=.ref b∧H2 a=some (jF a xs)∧(∀x∈xs,fF H2 x.1 x.2.1)∧fF H2 k b∧memoGet xs k=some v∧Q (.bl v) H2):=rfl
theorem LX {td ty:TE} {σ:L2.St} {H:Hp} {Q:VK}:Lx ty td σ H Q=(ty σ H fun y H1=>td σ H1 fun x H2=>∃a b xs k,x=.ref a∧y=.ref b∧H2 a=some (jF a xs)∧(∀x∈xs,fF H2 x.1 x.2.1)∧fF H2 k b∧Q (.bl (!(memoGet xs k).isSome)) H2):=rfl
theorem Qg {td ty tv:TE} {σ:L2.St} {H:Hp} {D:Ends}:QW td ty tv D σ H=(tv σ H fun v H1=>td σ H1 fun x H2=>ty σ H2 fun y H3=>∃a b xs k q,v=.bl q∧x=.ref a∧y=.ref b∧H3 a=some (jF a xs)∧(∀x∈xs,fF H3 x.1 x.2.1)∧fF H3 k b∧xs.length<sizeLine ∧
 D.nx σ (upd H3 a (jF a (memoPut xs k b q)))):=rfl
structure Memo (H:Hp) (am:Addr) (n:Net) (h:Nat) (xs:List (NK×Addr×Bool)):Prop where
 obj:H am=some (jF am xs)
 keys:∀x∈xs,fF H x.1 x.2.1
 nd:(xs.map (·.1)).Nodup
 ok:∀x∈xs,∃t u,x.1.1=((t:Nat):Int)∧t<h∧Mt.St n t u∧Mt.look n h t u=some x.1.2∧x.2.2=Mt.mv n (h - t - 1) t u
def kG (H:Hp) (am:Addr) (n:Net) (h:Nat):Prop:=∃xs,Memo H am n h xs
theorem Memo.same {H H':Hp} {am:Addr} {n:Net} {h:Nat} {xs:List (NK×Addr×Bool)} (m:Memo H am n h xs) (s:ax H H'):Memo H' am n h xs:=⟨s _ _ m.obj,fun x hx=>(m.keys x hx).mono fun c ys e=>s _ _ e,m.nd,m.ok⟩
theorem kG.same {H H':Hp} {am:Addr} {n:Net} {h:Nat} (m:kG H am n h) (s:ax H H'):kG H' am n h:=by
 obtain ⟨xs,m⟩:=m;exact ⟨xs,m.same s⟩
theorem Memo.small {H:Hp} {am:Addr} {n:Net} {h:Nat} {xs:List (NK×Addr×Bool)} (m:Memo H am n h xs) (six:size n≤6) (hz:h≤8):xs.length<sizeLine:=by
 have:=Mt.KI six hz (xs.map (·.1)) m.nd fun k hk=>by
  obtain ⟨x,hx,rfl⟩:=List.mem_map.mp hk;obtain ⟨t,u,h1,h2,h3,h4,_⟩:=m.ok x hx;exact ⟨t,u,h1,h2,h3,h4⟩
 rw [List.length_map] at this;exact Nat.lt_of_le_of_lt this (by decide)
theorem OQ {H H':Hp} {am:Addr} {xs:List (NK×Addr×Bool)} (k:aO [am] H H') (m:H am=some (jF am xs)):∀c ys,H c=some (.tup ys)→H' c=some (.tup ys):=fun c ys e=>k _ _ e (by
 intro z;have:c=am:=by simpa using z
 subst this;rw [m] at e
 cases e)
theorem nJ {H H':Hp} {am:Addr} {xs:List (NK×Addr×Bool)} {c:Addr} {ys:List V} (k:aO [am] H H') (m:H am=some (jF am xs)) (e:H c=some (.lst ys)):H' c=some (.lst ys):=k _ _ e (by
 intro z;have:c=am:=by simpa using z
 subst this;rw [m] at e
 cases e)
theorem Memo.put {H:Hp} {am b:Addr} {n:Net} {h t:Nat} {u:Times} {ws:List (Option (Int×Int))} {xs:List (NK×Addr×Bool)} (m:Memo H am n h xs) (hk:fF H ((t:Int),ws) b) (ht:t<h) (st:Mt.St n t u) (e:Mt.look n h t u=some ws) :
  Memo (upd H am (jF am (memoPut xs ((t:Int),ws) b (Mt.mv n (h - t - 1) t u)))) am n h (memoPut xs ((t:Int),ws) b (Mt.mv n (h - t - 1) t u)):=by
 have tu:=Gz (o:=jF am (memoPut xs ((t:Int),ws) b (Mt.mv n (h - t - 1) t u))) m.obj (by intro ys z;cases z);refine ⟨aA,fun x hx=>?_,DH _ _ _ m.nd,fun x hx=>?_⟩
 ·refine fF.mono ?_ tu;rcases Ai hx with hx|⟨e1,_,e2|⟨y,hy,e3,e4⟩⟩
  ·exact m.keys x hx
  ·rw [e1,e2];exact hk
  ·rw [e1, ←e4, ←e3];exact m.keys y hy
 ·rcases Ai hx with hx|⟨e1,e2,_⟩
  ·exact m.ok x hx
  ·rw [e1,e2];exact ⟨t,u,rfl,ht,st,e,rfl⟩
theorem Memo.val {H:Hp} {am:Addr} {n:Net} {h t:Nat} {u:Times} {ws:List (Option (Int×Int))} {xs:List (NK×Addr×Bool)} (m:Memo H am n h xs) (hn:Mt.aP n) (ht:t<h) (st:Mt.St n t u) (e:Mt.look n h t u=some ws) {v:Bool} (g:memoGet xs ((t:Int),ws)=some v) :
  v=Mt.mv n (h - t - 1) t u:=by
 obtain ⟨x,hx,e1,rfl⟩:=Ht g;obtain ⟨t',u',h1,h2,h3,h4,h5⟩:=m.ok x hx;rw [e1] at h1 h4;have et:t=t':=by
  have:(t:Int)=(t':Int):=h1;omega
 subst et;rw [h5];exact Mt.Ol hn (f:=h - t - 1) (by omega) h3 st h4 e
theorem Mg {u:Times}:LI V.de (bH u)= !u.all (·.isSome):=by
 unfold LI bH;rw [List.any_map]
 induction u with
 |nil=>rfl
 |cons x u ih =>
  rw [List.any_cons,List.all_cons,ih]
  cases x with
  |none=>rfl
  |some s=>rfl
inductive FII (T:Txt K mg) (f:Nat) (x y z:V) (H:Hp) (Q:VK):Prop
 |mk:∀g dx an ao al as am n h b u t,x=.ref g→i9 T H g dx an ao al as am n h→kG H am n h→y=aM t→t+f=h→z=.ref b→H b=some (.lst (bH u))→Mt.St n t u→(∀H',aO [am] H H'→kG H' am n h→Q (.bl (Vblaai.wins n f t u)) H')→FII T f x y z H Q
def FI (T:Txt K mg) (f:Nat):Sp:=Cs fun x y z H Q=>FII T f x y z H Q
inductive OfI (T:Txt K mg) (f:Nat) (x y z:V) (H:Hp) (Q:VK):Prop
 |mk:∀g dx an ao al as am n h b u t,x=.ref g→i9 T H g dx an ao al as am n h→kG H am n h→y=aM t→t+f=h→z=.ref b→H b=some (.lst (bH u))→Mt.St n t u→(∀H',aO [am] H H'→kG H' am n h→Q (.bl (Mt.nl n f t u)) H')→OfI T f x y z H Q
def Of (T:Txt K mg) (f:Nat):Sp:=Cs fun x y z H Q=>OfI T f x y z H Q
def Nt (T:Txt K mg):Nat→Sp
 |0=>fun _ _ _ _=>False
 |f+1=>Cs fun x y z H Q=>∃g dx an ao al as am n h b u t,x=.ref g∧i9 T H g dx an ao al as am n h∧kG H am n h∧y=aM (t+1)∧t+1+f=h∧z=.ref b∧H b=some (.lst (bH u))∧Mt.St n t u ∧
  ∀H',aO [am] H H'→kG H' am n h→Q (.bl (Mt.mv n f t u)) H'
theorem OT (T:Txt K mg) (f:Nat) (F:aU P w K mg base cI (3*f+4) T.cD.f T.cD.fd ["self","tick","times"] (Nt T f)):aU P w K mg base cI (3*f+4+1) T.bT.f T.bT.fd ["self","tick","times"] (Of T f):=by
 refine T.bT.fn.Bi gd fun bJ A outer s H x y z Q E hr h=>?_;obtain ⟨g,dx,an,ao,al,as,am,n,h,b,u,t,rfl,R,M,rfl,Uk,rfl,hb,st,k⟩:=h;refine ⟨_,(ae (aN (i:=3) gd.nd rfl (Or.inl rfl) (a8 (pv 0) T.bA.cl T.fU.m (vq T) (hr.mono (by omega)) T.fU.b .nil aB (aa (pv 1) (aa (pv 2) ag)))) (ae (aY (aE cC (pv 3) aS (aG _)) (ah (au kh)) aJ) (ae (aY (aE Ks aS (pv 2) (by with_unfolding_all rfl)) (ah (au kh)) aJ) (ae (aN (i:=4) gd.nd rfl (Or.inl rfl) (vv (aa (pv 1) (aa (ik Fi rfl T.xF yk (aa (pv 3) ag)) ag)))) (ae (aY (Sy (LY hr.units (pv 4) (ai T.bA.cl T.mK (pv 0))) (by with_unfolding_all rfl)) (ah (Qm hr.units (ai T.bA.cl T.mK (pv 0)) (pv 4) (a8 (pv 0) T.bA.cl T.cD.m F (hr.mono (by omega)) T.cD.b .nil aB (aa (cG fY (pv 1) aI) (aa (pv 2) ag))) rfl)) aJ) (ah (au (PN hr.units (ai T.bA.cl T.mK (pv 0)) (pv 4) (fun _ _=>rfl))))))))),?_⟩
 have h0:=R.obj;exists h0;refine ⟨g,dx,an,ao,al,as,am,n,h,b,u,t,rfl,R,rfl,rfl,hb,st.len,fun H1 s1=>?_⟩
 cases el:Mt.look n h t u with
 |none =>
  rw [Mt.LW R.full Uk st el] at k;right;exact k H1 (aO.of_same s1) (M.same s1)
 |some ws =>
  intro d bs hd hw;have EU:=s1 _ _ hb;exists EU;refine ⟨rfl,BF u,?_⟩;rw [Mg, ←Mt.HY st];have hkp:=Mt.vL R.full st el;unfold Mt.nl at k;rw [hkp,Bool.true_and] at k
  cases ed:allDone n u with
  |true =>
   rw [if_pos (show (!true)=false from rfl)]
   rw [ed,Bool.true_or] at k;exact k H1 (aO.of_same s1) (M.same s1)
  |false =>
   rw [if_neg (show ¬(!false)=false from fun z=>nomatch z)]
   rw [ed,Bool.false_or] at k
   cases f with
   |zero =>
    have et:t=h:=by omega
    subst et;rw [Mt.N9 R.full st el] at ed
    cases ed
   |succ f =>
    have k:∀H',aO [am] H H'→kG H' am n h→Q (.bl (Mt.mv n f t u)) H':=k;exists hd;refine fun L hL=>⟨by decide,?_⟩;obtain ⟨H2,Aw,s2,h2⟩:=dQ hL (.tup (bs.map V.ref));rw [Aw];intro B hB;obtain ⟨H3,Ka,s3,h3⟩:=dQ hB (.tup [aM t,V.ref L]);rw [Ka];have Eu:=s2.trans s3;have SN:=s1.trans Eu;have R3:=R.same SN;have Dh:=R3.obj;have kB:fF H3 ((t:Int),ws) B:=⟨L,bs,h3,s3 _ _ h2,hw.mono fun c ys e=>Eu _ _ e⟩;obtain ⟨xs,M0⟩:=M;have M3:=M0.same SN;have ef:f=h - t - 1:=by omega
    have ht:t<h:=by omega
    have fin:∀(H4:Hp) (Tv:List (NK×Addr×Bool)) (v:Bool),aO [am] H H4→Memo H4 am n h Tv→fF H4 ((t:Int),ws) B→memoGet Tv ((t:Int),ws)=some v→NH (N3 T.bA.C (yC 0) (Str.ofString "known")) (yC 4) [some (V.ref g),some (aM t),some (V.ref b),some (V.ref d),some (V.ref B)] H4 Q:=fun H4 Tv v k4 M4 Wb gv=>by
     have JE:=(R.keep k4).obj;rw [Pu];exists JE;refine ⟨Tv,M4.obj,M4.keys,_,Wb,v,gv,?_⟩;have:=M4.val R.full ht st el gv;rw [this, ←ef];exact k H4 k4 ⟨Tv,M4⟩
    rw [LX];exists Dh;refine ⟨xs,M3.obj,M3.keys,_,kB,?_⟩
    cases gv:memoGet xs ((t:Int),ws) with
    |some v =>
     rw [if_neg (show ¬(some v).isSome=false from fun z=>nomatch z)]
     exact fin H3 xs v (aO.of_same SN) M3 kB gv
    |none =>
     rw [if_pos (show (none:Option Bool).isSome=false from rfl),Qg]
     have e1:((t:Int)+1)=((t+1:Nat):Int):=by omega
     exists Dh,e1;refine ⟨g,dx,an,ao,al,as,am,n,h,b,u,t,rfl,R3,⟨xs,M3⟩,rfl,by omega,rfl,SN _ _ hb,st,fun H4 k4 ⟨Tv,M4⟩=>?_⟩;have Z4:aO [am] H H4:=(aO.of_same SN).trans k4;have JE:=(R.keep Z4).obj;have Wb:fF H4 ((t:Int),ws) B:=kB.mono (OQ k4 M3.obj);exists JE;rw [ef];have M5:=M4.put Wb ht st el;refine ⟨Tv,M4.obj,M4.keys,_,Wb,M4.small R.six R.hz,?_⟩;exact fin _ _ _ (Z4.trans (aO.upd (by simp))) M5 (Wb.mono (Gz M4.obj (by intro ys z;cases z))) (FO _ _ _ _)
theorem any_false {α:Type} {l:List α} {q:α→Bool} {i:Nat} {x:α} (h:(l.take i).any q=false) (e:l[i]?=some x) (hq:q x=false):(l.take (i+1)).any q=false:=by
 rw [take_snoc e,List.any_append,h,List.any_cons,hq];rfl
theorem any_true {α:Type} {l:List α} {q:α→Bool} {i:Nat} {x:α} (e:l[i]?=some x) (hq:q x=true):l.any q=true:=List.any_eq_true.mpr ⟨x,List.mem_of_getElem? e,hq⟩
theorem Ou {α:Type} {l:List α} {q:α→Bool} {i:Nat} {x:α} (h:(l.take i).all q=true) (e:l[i]?=some x) (hq:q x=true):(l.take (i+1)).all q=true:=by
 rw [take_snoc e,List.all_append,h,List.all_cons,hq];rfl
def AJ (n:Net) (h t:Nat) (u:Times):List Nat:=(Mt.j9 n).filter fun p=>(timeOf u p).isNone&&Mt.fits n h t u p
theorem Od {n:Net} {h t:Nat} {u:Times} (hn:Mt.aP n) (st:Mt.St n t u):AJ n h t u=(ours n u).filter (Mt.fits n h t u):=by
 unfold AJ;rw [←Mt.Hw n u hn.pos (by rw [st.zero];rfl),List.filter_filter]
 congr 1
 funext p
 rw [Bool.and_comm]
theorem Oh (T:Txt K mg) (f:Nat) (F:aU P w K mg base cI (3*f+5) T.bT.f T.bT.fd ["self","tick","times"] (Of T f)):aU P w K mg base cI (3*f+5+1) T.bB.f T.bB.fd ["self","tick","times"] (FI T f):=by
 refine T.bB.fn.Bi iy fun bJ A outer s H x y z Q E hr h=>?_;obtain ⟨g,dx,an,ao,al,as,am,n,h,b,u,t,rfl,R,M,rfl,Uk,rfl,hb,st,k⟩:=h;refine ⟨_,(ae (nL (i:=3) rfl iy.nd rfl rfl (ql rfl rfl rfl rfl) (fg (ai T.bA.cl T.zP (pv 0))) (bL (show jq ["self","tick","times","left","steps","step"] (aq lh) _ [("step",5)]=true from by decide+kernel)) (fun _ _ _ _ _=>(aK (i:=5) iy.nd rfl (Or.inl rfl))) (fun _ _ _ _ _=>(lF (PW.pt (jb (aE cC (aR fz (pv 2) (pv 5) (fun _ _=>rfl)) aS (aG _)) (jm (bZ (a8 (pv 0) T.bA.cl T.eP.m (su T) (hr.mono (by omega)) T.eP.b .nil aB (aa (pv 5) (aa (pv 1) (aa (pv 2) ag)))))))))) (fun _ _ _ _ _=>(pv 5))) (ae (cJ PassesOwn.never rfl (fg (aD (Cb T) (hr.mono (by omega)) rfl T.iT.g T.iT.fn.kp T.iT.b .nil aB (aa (pv 3) ag))) (aK (i:=4) iy.nd rfl (Or.inl rfl)) (ah (aY (bZ (a8 (pv 0) T.bA.cl T.bT.m F (hr.mono (by omega)) T.bT.b .nil aB (aa (pv 1) (aa (aD (vc T) (hr.mono (by omega)) rfl T.eW.g T.eW.fn.kp T.eW.b .nil aB (aa (pv 2) (aa (pv 4) (aa (pv 1) ag)))) ag)))) (ah (au kh)) aJ))) (ah (au kh)))),?_⟩
 have h0:=R.obj;have YW:=R.ours;have six:=R.six;have UM:(Mt.j9 n).length≤6:=Nat.le_trans (Ed n) six;exists h0,YW;refine cW (bp ((Mt.j9 n).map aM)) (fun i=>if (fun p=>(timeOf u p).isNone&&Mt.fits n h t u p) ((Mt.j9 n).getD i 0)=true then some (aM ((Mt.j9 n).getD i 0)) else none) (fun H' s=>.of (s _ _ YW)) (fun i x H' kk hi s hx kf=>?_) (by rw [List.length_map];exact Nat.le_trans UM (by decide)) (fun L H1 hL s1 hd=>?_)
 ·obtain ⟨p,ep,rfl⟩:=mE hx;have hp:=II (List.mem_of_getElem? ep);rw [b9 ep] at kf;have kf:∀H4,ax H' H4→kk (if ((timeOf u p).isNone&&Mt.fits n h t u p)=true then some (aM p) else none) H4:=kf
  have R1:=R.same s;have rN:=R1.obj;have EU:=s _ _ hb;have e1:iz (bH u) (p:Int)=some (oV (timeOf u p)):=eE (by rw [st.len];exact hp);exists rN,EU,e1
  cases c:timeOf u p with
  |some s0 =>
   rw [c] at kf;exists d4;exact kf H' (ax.refl _)
  |none =>
   rw [c] at kf;exists eU;refine ⟨g,dx,an,ao,al,as,am,n,h,p,b,u,t,rfl,R1,rfl,hp,rfl,rfl,EU,st.len,fun H2 s2=>?_⟩;right
   cases c2:Mt.fits n h t u p with
   |true =>
    rw [c2] at kf;exact kf H2 s2
   |false =>
    rw [c2] at kf;exact kf H2 s2
 ·have hd:H1 L=some (.lst ((AJ n h t u).map aM)):=by
   rw [hd,List.length_map]
   congr 2
   exact mC (Mt.j9 n) (fun p=>(timeOf u p).isNone&&Mt.fits n h t u p) aM
  have R1:=R.same s1;have hll:(AJ n h t u).length≤6:=Nat.le_trans (List.length_filter_le _ _) UM;have hln:∀p∈AJ n h t u,timeOf u p=none:=fun p hp=>by
   have:=(List.mem_filter.mp hp).2;simpa using (Bool.and_eq_true_iff.mp this).1
  right;refine ⟨L,_,rfl,hd,by omega,fun D H2 s2 W9=>?_⟩;have MX:=s1.trans s2;obtain ⟨cs,g1,g2,g3⟩:=W9.ex;obtain ⟨xs0,M0⟩:=id M;have M2:=M0.same MX;have R2:=R.same MX;have e0:=Mt.MH R.full Uk st;rw [←Od R.full st] at e0;rw [e0] at k;refine ⟨⟨_,g1⟩,loop (bp (cs.map V.ref)) (fun i σ H'=>∃v4,σ=[some (.ref g),some (aM t),some (.ref b),some (.ref L),v4,none]∧aO [am] H2 H'∧kG H' am n h∧((Mt.cv (AJ n h t u)).take i).any (fun s=>Mt.nl n f t (doneAt t s u))=false)
   ⟨none,rfl,aO.refl _ _,⟨_,M2⟩,rfl⟩ (fun i σ H' z1=>by obtain ⟨_,_,k1,_⟩:=z1;exact  .of (nJ k1 M2.obj g1)) ?_ ?_⟩
  ·intro i x σ H3 H4 N hi z1 s4 hx kN;obtain ⟨v4,rfl,k3,M3,A3⟩:=z1;obtain ⟨c,ec,rfl⟩:=jN hx;have KL:i<(Mt.cv (AJ n h t u)).length:=by rw [←g2];exact (List.getElem?_eq_some_iff.mp ec).1
   have er:=List.getElem?_eq_getElem KL;have hc:=nJ k3 M2.obj (g3 i c _ ec er);generalize es:(Mt.cv (AJ n h t u))[i]=s0 at er hc;have Ss:=s4 _ _ (nJ k3 M2.obj (MX _ _ hb));have hc4:=s4 _ _ hc;have R4:=(R2.keep k3).same s4;have JE:=R4.obj;have k24:=k3.trans (aO.of_same s4);exists JE;refine ⟨b,u,c,s0,t,rfl,Ss,by rw [st.len];omega,rfl,hc4,rfl,fun p hp=>hln p (Mt.i3 _ _ ((Mt.iI _ _).mp (List.mem_of_getElem? er)) p hp),fun D5 H5 hD5 s5 h5=>?_⟩;have R5:=R4.same s5;refine ⟨g,dx,an,ao,al,as,am,n,h,D5,_,t,rfl,R5,(M3.same s4).same s5,rfl,Uk,rfl,h5,Mt.yJ R.full st s0,fun H6 k6 M6=>?_⟩;have Zm:=(k24.trans (aO.of_same s5)).trans k6;right
   cases c6:Mt.nl n f t (doneAt t s0 u) with
   |true =>
    right;rw [any_true er c6] at k;exact k H6 ((aO.of_same MX).trans Zm) M6
   |false =>
    right;exact kN _ _ ⟨_,rfl,Zm,M6,any_false A3 er c6⟩
  ·intro σ H3 z1;obtain ⟨v4,rfl,k3,M3,A3⟩:=z1;right;rw [List.length_map,g2,List.take_length] at A3;rw [A3] at k;exact k H3 ((aO.of_same MX).trans k3) M3
theorem Te (T:Txt K mg) (f:Nat) (F:aU P w K mg base cI (3*f+6) T.bB.f T.bB.fd ["self","tick","times"] (FI T f)):aU P w K mg base cI (3*f+6+1) T.cD.f T.cD.fd ["self","tick","times"] (Nt T (f+1)):=by
 refine T.cD.fn.Bi bF fun bJ A outer s H x y z Q E hr h=>?_;obtain ⟨g,dx,an,ao,al,as,am,n,h,b,u,t,rfl,R,M,rfl,Uk,rfl,hb,st,k⟩:=h;refine ⟨_,(ae (aN (i:=3) bF.nd rfl (Or.inr rfl) (i7 rfl bF.nd (fg (ai T.aT.cl T.bo (ai T.bA.cl T.qX (pv 0)))) (bL (show jq ["self","tick","times","must","may","steps","nature","step"] (aq d8) _ [("nature",6)]=true from by decide+kernel)) (fun _ _ _ _ _=>(aK (i:=6) bF.nd rfl (Or.inl rfl))) (fun _ _ _ _ _=>(lF (bZ (a8 (pv 6) T.aH.cl T.cQ.m (mf T) (hr.mono (by omega)) T.cQ.b .nil aB (aa (pv 2) (aa (pv 1) ag)))))) (fun _ _ _ _ _=>(ai T.aH.cl T.bt (pv 6))))) (ae (nL (i:=4) rfl bF.nd rfl rfl (ql rfl rfl rfl rfl) (fg (ai T.aT.cl T.bo (ai T.bA.cl T.qX (pv 0)))) (bL (show jq ["self","tick","times","must","may","steps","nature","step"] (aq d8) _ [("nature",6)]=true from by decide+kernel)) (fun _ _ _ _ _=>(aK (i:=6) bF.nd rfl (Or.inl rfl))) (fun _ _ _ _ _=>(lF (bZ (a8 (pv 6) T.aH.cl T.c7.m (nh T) (hr.mono (by omega)) T.c7.b .nil aB (aa (pv 2) (aa (pv 1) ag)))))) (fun _ _ _ _ _=>(ai T.aH.cl T.bt (pv 6)))) (ae (cJ PassesOwn.never rfl (fg (aD (Cb T) (hr.mono (by omega)) rfl T.iT.g T.iT.fn.kp T.iT.b .nil aB (aa (i7 rfl bF.nd (fg (pv 4)) (bL (show jq ["self","tick","times","must","may","steps","nature","step"] (aq d8) _ [("step",7)]=true from by decide+kernel)) (fun _ _ _ _ _=>(aK (i:=7) bF.nd rfl (Or.inl rfl))) (fun _ _ _ _ _=>(lF (aE Ks (pv 7) (pv 3) (by with_unfolding_all rfl)))) (fun _ _ _ _ _=>(pv 7))) ag))) (aK (i:=5) bF.nd rfl (Or.inl rfl)) (ah (aY (gu (bZ (a8 (pv 0) T.bA.cl T.bB.m F (hr.mono (by omega)) T.bB.b .nil aB (aa (pv 1) (aa (aD (vc T) (hr.mono (by omega)) rfl T.eW.g T.eW.fn.kp T.eW.b .nil aB (aa (pv 2) (aa (cG jt (pv 3) (pv 5)) (aa (pv 1) ag)))) ag))))) (ah (au kh)) aJ))) (ah (au kh))))),?_⟩
 have h0:=R.obj;obtain ⟨dn,Mj,Kr,Ju,ns,ls,G0,N0⟩:=id R.net;have hn:=N0.obj;have ht:=N0.vA;have six:=R.six;have nn:n.natures.length≤5:=R.full.nn;exists h0,hn,ht;refine cW (bp G0) (fun i=>match n.natures[i]? with
  |some x=>if Mt.sy u (t+1) x=true then some (aM x.c) else none
  |none=>none) (fun H' s=>.of (s _ _ ht)) (fun i x H' kk hi s hx kf=>?_) (by rw [N0.pt.1];exact Nat.le_trans nn (by decide)) (fun MU H1 hMU s1 QD=>?_)
 ·obtain ⟨m,em,rm⟩:=N0.pt.at_ hx;obtain ⟨Xc,dm,rfl,hm⟩:=id rm;have L7:=s _ _ hm;have gc:=R.full.nat m (List.mem_of_getElem? em);rw [em] at kf;have kf:∀H4,ax H' H4→kk (if Mt.sy u (t+1) m=true then some (aM m.c) else none) H4:=kf
  exists L7;refine ⟨m,u,b,t+1,rm.same s,rfl,rfl,s _ _ hb,by rw [st.len];exact gc.1,by rw [st.len];exact gc.2.1,?_⟩;have e:Bl u (t+1) m=Mt.sy u (t+1) m:=rfl;rw [e];exists L7
  cases cc:Mt.sy u (t+1) m with
  |true =>
   rw [cc] at kf;exact kf H' (ax.refl _)
  |false =>
   rw [cc] at kf;exact kf H' (ax.refl _)
 have QD:H1 MU=some (.lst ((Vblaai.must n u (t+1)).map aM)):=by
  rw [QD,N0.pt.1, ←Mt.Qu st];exact congrArg (fun l=>some (HO.lst l)) (lA (ns:=n.natures) (Mt.sy u (t+1)))
 have R1:=R.same s1;have rN:=R1.obj;have Wj:=s1 _ _ hn;have Wh:=s1 _ _ ht;exists rN,Wj,Wh;refine cW (bp G0) (fun i=>match n.natures[i]? with
  |some x=>if Mt.Dx u (t+1) x=true then some (aM x.c) else none
  |none=>none) (fun H' s=>.of (s _ _ Wh)) (fun i x H' kk hi s hx kf=>?_) (by rw [N0.pt.1];exact Nat.le_trans nn (by decide)) (fun MY H2 hMY s2 Vj=>?_)
 ·obtain ⟨m,em,rm⟩:=N0.pt.at_ hx;obtain ⟨Xc,dm,rfl,hm⟩:=id rm;have L7:=s _ _ (s1 _ _ hm);have gc:=R.full.nat m (List.mem_of_getElem? em);rw [em] at kf;have kf:∀H4,ax H' H4→kk (if Mt.Dx u (t+1) m=true then some (aM m.c) else none) H4:=kf
  exists L7;refine ⟨m,u,b,t+1,(rm.same s1).same s,rfl,rfl,s _ _ (s1 _ _ hb),by rw [st.len];exact gc.1,by rw [st.len];exact gc.2.1,?_⟩;have e:Fs u (t+1) m=Mt.Dx u (t+1) m:=rfl;rw [e];exists L7
  cases cc:Mt.Dx u (t+1) m with
  |true =>
   rw [cc] at kf;exact kf H' (ax.refl _)
  |false =>
   rw [cc] at kf;exact kf H' (ax.refl _)
 have Vj:H2 MY=some (.lst ((Vblaai.may n u (t+1)).map aM)):=by
  rw [Vj,N0.pt.1, ←Mt.FC];exact congrArg (fun l=>some (HO.lst l)) (lA (ns:=n.natures) (Mt.Dx u (t+1)))
 have V4:=s2 _ _ QD;have MX:=s1.trans s2;generalize Wa:Vblaai.must n u (t+1)=mu at V4 QD;generalize Yo:Vblaai.may n u (t+1)=my at Vj;have hmul:mu.length≤5:=by
  rw [←Wa];unfold Vblaai.must;rw [List.length_map];exact Nat.le_trans (List.length_filter_le _ _) nn
 have VR:my.length≤5:=by
  rw [←Yo];unfold Vblaai.may;rw [List.length_map];exact Nat.le_trans (List.length_filter_le _ _) nn
 exists Vj;refine cW (bp (my.map aM)) (fun i=>if (fun p=> !mu.contains p) (my.getD i 0)=true then some (aM (my.getD i 0)) else none) (fun H' s=>.of (s _ _ Vj)) (fun i x H' kk hi s hx kf=>?_) (by rw [List.length_map];exact Nat.le_trans VR (by decide)) (fun L H3 hL s3 hd=>?_)
 ·obtain ⟨p,ep,rfl⟩:=mE hx;rw [b9 ep] at kf;have kf:∀H4,ax H' H4→kk (if (!mu.contains p)=true then some (aM p) else none) H4:=kf
  have Uu:=s _ _ V4;exists Uu;refine ⟨rfl,pN mu,?_⟩;rw [tE]
  cases q:mu.contains p with
  |true =>
   rw [q] at kf;exact kf H' (ax.refl _)
  |false =>
   rw [q] at kf;exact kf H' (ax.refl _)
 have hd:H3 L=some (.lst ((my.filter fun p=> !mu.contains p).map aM)):=by
  rw [hd,List.length_map]
  congr 2
  exact mC my (fun p=> !mu.contains p) aM
 generalize Yz:(my.filter fun p=> !mu.contains p)=lf at hd;have hlf:lf.length≤5:=by
  rw [←Yz];exact Nat.le_trans (List.length_filter_le _ _) VR
 have SN:=MX.trans s3;have Uu:=s3 _ _ V4;have e0:Mt.mv n f t u=(Mt.cv lf).all fun s=>Vblaai.wins n f (t+1) (doneAt (t+1) (mu++s) u):=by
  have q:=Mt.NQ R.full st (fun v=>Vblaai.keeps n v&&Vblaai.wins n f (t+1) v);unfold Mt.mv;rw [q,Wa,Yo,Yz]
  congr 1
  funext s
  have MW:Mt.St n (t+1) (doneAt (t+1) (mu++s) u):=Mt.mS R.full st fun x hx=>by
   rw [Wa] at hx;exact List.mem_append_left _ hx
  exact Mt.J6 fun s' hk=>Mt.Ci R.full MW.zero (Mt.hX MW s') hk
 refine ⟨L,_,rfl,hd,by omega,fun D H4 s4 L4=>?_⟩;have VY:=SN.trans s4;obtain ⟨cs,g1,g2,g3⟩:=L4.ex;obtain ⟨xs0,M0⟩:=id M;have M4:=M0.same VY;have R4:=R.same VY;have hM4:=s4 _ _ Uu;rw [e0] at k;have V8:∀s∈Mt.cv lf,∀p∈mu++s,timeOf u p=none:=fun s hs p hp=>by
  rcases List.mem_append.mp hp with hp|hp
  ·rw [←Wa] at hp;exact Mt.CA (Mt.ng R.full st hp)
  ·have:=Mt.i3 _ _ ((Mt.iI _ _).mp hs) p hp;rw [←Yz, ←Yo] at this;exact Mt.CA (List.mem_filter.mp this).1
 refine ⟨⟨_,g1⟩,loop (bp (cs.map V.ref)) (fun i σ H'=>∃v5,σ=[some (.ref g),some (aM (t+1)),some (.ref b),some (.ref MU),some (.ref MY),v5,none,none]∧aO [am] H4 H'∧kG H' am n h∧((Mt.cv lf).take i).all (fun s=>Vblaai.wins n f (t+1) (doneAt (t+1) (mu++s) u))=true)
  ⟨none,rfl,aO.refl _ _,⟨_,M4⟩,rfl⟩ (fun i σ H' z1=>by obtain ⟨_,_,k1,_⟩:=z1;exact  .of (nJ k1 M4.obj g1)) ?_ ?_⟩
 ·intro i x σ H5 H6 N hi z1 s6 hx kN;obtain ⟨v4,rfl,k5,M5,A5⟩:=z1;obtain ⟨c,ec,rfl⟩:=jN hx;have KL:i<(Mt.cv lf).length:=by rw [←g2];exact (List.getElem?_eq_some_iff.mp ec).1
  have er:=List.getElem?_eq_getElem KL;have hc:=nJ k5 M4.obj (g3 i c _ ec er);generalize es:(Mt.cv lf)[i]=s0 at er hc;have ZX:=List.mem_of_getElem? er;have Ys:=s6 _ _ (nJ k5 M4.obj (VY _ _ hb));have hM6:=s6 _ _ (nJ k5 M4.obj hM4);have Xl:=s6 _ _ hc;have R6:=(R4.keep k5).same s6;have Xs:=R6.obj;have k46:=k5.trans (aO.of_same s6);have sl:=CH ZX;exists Xs,hM6,Xl;refine ⟨?_,fun G hG=>?_⟩
  ·rw [List.length_map,List.length_map];exact Nat.le_trans (show _≤20 by omega) (by decide)
  obtain ⟨H7,S9,s7,h7⟩:=dQ hG (.lst (mu.map aM++s0.map aM));rw [S9];refine ⟨b,u,G,mu++s0,t+1,rfl,s7 _ _ Ys,by rw [st.len];omega,rfl,by rw [h7,List.map_append],rfl,V8 s0 ZX,fun D5 H8 hD5 s8 h8=>?_⟩;have R8:=(R6.same s7).same s8;refine ⟨g,dx,an,ao,al,as,am,n,h,D5,_,t+1,rfl,R8,((M5.same s6).same s7).same s8,rfl,Uk,rfl,h8,Mt.mS R.full st (fun x hx=>by rw [Wa] at hx;exact List.mem_append_left _ hx),fun H9 k9 M9=>?_⟩;have Zr:=((k46.trans (aO.of_same s7)).trans (aO.of_same s8)).trans k9;right
  cases c6:Vblaai.wins n f (t+1) (doneAt (t+1) (mu++s0) u) with
  |false =>
   right;rw [all_false er c6] at k;exact k H9 ((aO.of_same VY).trans Zr) M9
  |true =>
   right;exact kN _ _ ⟨_,rfl,Zr,M9,Ou A5 er c6⟩
 ·intro σ H5 z1;obtain ⟨v4,rfl,k5,M5,A5⟩:=z1;right;rw [List.length_map,g2,List.take_length] at A5;rw [A5] at k;exact k H5 ((aO.of_same VY).trans k5) M5
theorem Ke (T:Txt K mg):∀f:Nat,aU P w K mg base cI (3*f+6) T.bB.f T.bB.fd ["self","tick","times"] (FI T f)
 |0=>Oh T 0 (OT T 0 ⟨fun _ _ _ _ h=>h.elim,fun _ _ _ _ _ _ _ _ _ _ _ _ _ h=>h.elim⟩)
 |f+1=>Oh T (f+1) (OT T (f+1) ((Te T f (Ke T f)).mono (by omega)))
def yi (T:Txt K mg):Sp:=fun vs H Q E=>∃f,f≤8∧FI T f vs H Q E
theorem xJ (T:Txt K mg):aU P w K mg base cI 30 T.bB.f T.bB.fd ["self","tick","times"] (yi T):=by
 refine ⟨fun vs H Q E z1=>(by obtain ⟨f,_,h⟩:=z1;exact (Ke (P:=P) (w:=w) (base:=base) T f).len vs H Q E h),fun A outer s H args us vs Q E hr he hb hv z1=>?_⟩;obtain ⟨f,hf,h⟩:=z1;exact (Ke T f).run A outer s H args us vs Q E (hr.mono (by omega)) he hb hv h
inductive DrI (T:Txt K mg) (x y:V) (H:Hp) (Q:VK):Prop
 |mk:∀an n h,x=.ref an→dr T H an n→Mt.aP n→size n≤6→y=aM h→h≤8→(∀H',ax H H'→Q (.bl (Vblaai.game n h)) H')→DrI T x y H Q
def Dr (T:Txt K mg):Sp:=rX fun x y H Q=>DrI T x y H Q
theorem DI (T:Txt K mg):aU P w K mg base cI 31 T.iW.f T.iW.fd ["net","horizon"] (Dr T):=by
 refine T.iW.fn.sE DF fun bJ A outer s H x y Q E hr h=>?_;obtain ⟨an,n,h,rfl,hN,full,six,rfl,hh,k⟩:=h;refine ⟨_,(ah (au (a8 (gQ T.bA.Fy (GH T) ‹hr› rfl T.bA.g T.bA.b .nil aB (aa (pv 0) (aa (pv 1) ag))) T.bA.cl T.bB.m (xJ T) ‹hr› T.bB.b .nil aB (aa aI (aa (cU (pv 0) T.aT.cl T.dk.m (nX T) ‹hr› T.dk.b .nil aB) ag))))),?_⟩;obtain ⟨dn,Mj,Kr,Ju,ns,ls,G0,N0⟩:=id hN;have hn:=N0.obj;right;intro p dx hp Za lP;have PR:an≠p:=aC hn hp;have s0:ax H (upd (upd H dx (.own p)) p (.ins T.bA.C dx [])):=fun b u e=>by
  rw [aF (aC e hp),aF (aC e Za)];exact e
 refine ⟨p,dx,an,n,h,H,rfl,aA,rfl,rfl,full,six,hh,s0,hp,hN,fun H1 ao al as am k1 hm L7 R1=>?_⟩;have s1:=cF hp Za k1;have Wj:=s1 _ _ hn;have rN:=R1.obj;refine ⟨rfl,?_⟩;exists Wj,rN;refine ⟨an,n,rfl,hN.same s1,by omega,fun B H2 hB s2 h2=>?_⟩;have R2:=R1.same s2;have hm2:=s2 _ _ L7;have M2:kG H2 am n h:=⟨[],hm2,by simp,by simp,by simp⟩;refine ⟨h,hh,p,dx,an,ao,al,as,am,n,h,B,_,0,rfl,R2,M2,rfl,by omega,rfl,h2,Mt.NU full,fun H3 k3 M3=>?_⟩;have Z3:H am=none:=by
  cases q:H am with
  |none=>rfl
  |some o=>rw [s0 _ _ q] at hm;cases hm
 exact k H3 (aO.same (s1.trans s2) k3 (by simpa using Z3))
def Dz (T:Txt K mg):Sp:=m7 fun x H Q=>∃w,x=wV w∧∀b H',H b=none→ax H H'→H' b=some (.lst (bh (wRow w)))→Q (.ref b) H'
theorem lG (T:Txt K mg):aU P w K mg base cI 1 T.bY.f T.bY.fd ["bound"] (Dz T):=by
 refine T.bY.fn.n4 DZ fun bJ A outer s H x Q E hr h=>?_;obtain ⟨wd,rfl,k⟩:=h;refine ⟨_,(ah (au (dh (aE cC (pv 0) aS (aG _)) (a9 (aa aI ag)) (a9 (aa aI (aa (pv 0) ag)))))),?_⟩
 cases wd with
 |none =>
  exists wV;refine ⟨by decide,fun q hq=>?_⟩;obtain ⟨H1,uT,s1,h1⟩:=dQ hq (.lst [V.int 0]);rw [uT];exact k q H1 hq s1 h1
 |some z =>
  exists wV;refine ⟨by decide,fun q hq=>?_⟩;obtain ⟨H1,uT,s1,h1⟩:=dQ hq (.lst [V.int 1,V.int z]);rw [uT];exact k q H1 hq s1 h1
inductive F4I (T:Txt K mg) (x:V) (H:Hp) (Q:VK):Prop
 |mk:∀a l,x=.ref a→H a=some (.lst (bh l))→l.length≤100000→(∀b H',H b=none→ax H H'→H' b=some (.lst (bh ((l.length:Int)::l)))→Q (.ref b) H')→F4I T x H Q
def F4 (T:Txt K mg):Sp:=m7 fun x H Q=>F4I T x H Q
theorem mB (T:Txt K mg):aU P w K mg base cI 1 T.cA.f T.cA.fd ["row"] (F4 T):=by
 refine T.cA.fn.n4 Fh fun bJ A outer s H x Q E hr h=>?_;obtain ⟨a,l,rfl,ha,hz,k⟩:=h;refine ⟨_,(ah (au (cG jt (a9 (aa (bc nY rfl T.eM eJ (aa (pv 0) ag)) ag)) (pv 0)))),?_⟩;exists ha;have el:(bh l).length=l.length:=List.length_map _;rw [el];refine ⟨by decide,fun q hq=>?_⟩;obtain ⟨H1,uT,s1,h1⟩:=dQ hq (.lst [V.int (l.length:Int)]);rw [uT];have LS:=s1 _ _ ha;exists LS,h1;rw [el];refine ⟨Nat.le_trans (show _≤200000 by omega) (by decide),fun q2 Dg=>?_⟩;obtain ⟨H2,Aw,s2,h2⟩:=dQ Dg (.lst ([V.int (l.length:Int)]++bh l));have e2:V.int (l.length:Int)::bh l=[V.int (l.length:Int)]++bh l:=rfl
 first|rw [e2,Aw]|rw [Aw]
 exact k q2 H2 (s1.free Dg) (s1.trans s2) h2
def uU (T:Txt K mg):Sp:=m7 fun x H Q=>∃b,x=.bl b∧Q (.int (bit b)) H
theorem jh (T:Txt K mg):aU P w K mg base cI 1 T.bG.f T.bG.fd ["truth"] (uU T):=by
 refine T.bG.fn.n4 Dn fun bJ A outer s H x Q E hr h=>?_;obtain ⟨b,rfl,k⟩:=h;refine ⟨_,(ah (au (dh (bZ (pv 0)) aI aI))),?_⟩
 cases b with
 |true =>
  right;exact k
 |false =>
  right;exact k
def ly (o:HO):Prop:=∀C dx fs,o=.ins C dx fs→fs≠[]∧∀x0 x1 x2,fs≠bx x0 x1 x2
def Cz (H H':Hp):Prop:=∀b o,H b=some o→ly o→H' b=some o
theorem BB (l:List V):ly (.lst l):=fun _ _ _ z=>by cases z
theorem SE (l:List V):ly (.tup l):=fun _ _ _ z=>by cases z
theorem S5 (o:Obj) (u:HO):ly (.sg o u):=fun _ _ _ z=>by cases z
theorem Tp (C dx:Addr) (x0 x1 x2:V):ly (.ins C dx (fu x0 x1 x2)):=fun _ _ _ z=>by
 cases z;refine ⟨(fun z=>nomatch z),fun y0 y1 y2 z=>?_⟩
 simp [fu,bx] at z;exact absurd z.1.1 (by decide)
theorem Sf (C dx:Addr) (x0 x1 x2 x3:V):ly (.ins C dx (j2 x0 x1 x2 x3)):=fun _ _ _ z=>by
 cases z;refine ⟨(fun z=>nomatch z),fun y0 y1 y2 z=>?_⟩
 simp [j2,bx] at z
theorem Td (C dx:Addr) (x0 x1 x2 x3:V):ly (.ins C dx (gI x0 x1 x2 x3)):=fun _ _ _ z=>by
 cases z;refine ⟨(fun z=>nomatch z),fun y0 y1 y2 z=>?_⟩
 simp [gI,bx] at z
theorem Qt (C dx:Addr) (x0 x1:V):ly (.ins C dx (uz x0 x1)):=fun _ _ _ z=>by
 cases z;refine ⟨(fun z=>nomatch z),fun y0 y1 y2 z=>?_⟩
 simp [uz,bx] at z
theorem N6 (C dx:Addr) (x0 x1:V):ly (.ins C dx (iR x0 x1)):=fun _ _ _ z=>by
 cases z;refine ⟨(fun z=>nomatch z),fun y0 y1 y2 z=>?_⟩
 simp [iR,bx] at z
section
variable {T:Txt K mg} {H H':Hp}
theorem dr.u7 {a:Addr} {n:Net} (h:dr T H a n) (k:Cz H H'):dr T H' a n:=by
 obtain ⟨dx,an,al,at',ns,ls,ts,N⟩:=h;refine ⟨dx,an,al,at',ns,ls,ts,k _ _ N.obj (Tp _ _ _ _ _),k _ _ N.AW (BB _),k _ _ N.Jt (BB _),k _ _ N.vA (BB _),N.pn.mono fun v x r=>?_,N.pl.mono fun v x r=>?_,N.pt.mono fun v x r=>?_⟩
 ·obtain ⟨b,e,r⟩:=r;refine ⟨b,e,?_⟩;rcases r with (r|⟨o,r⟩)|r
  ·exact .inl (.inl (k _ _ r (SE _)))
  ·exact .inl (.inr ⟨o,k _ _ r (S5 _ _)⟩)
  ·exact .inr r
 ·obtain ⟨b,dx,e,r⟩:=r;exact ⟨b,dx,e,k _ _ r (Sf _ _ _ _ _ _)⟩
 ·obtain ⟨b,dx,e,r⟩:=r;exact ⟨b,dx,e,k _ _ r (Td _ _ _ _ _ _)⟩
theorem Rows.u7 {a:Addr} {as:List Addr} {t:List (List V)} (h:Rows H a as t) (k:Cz H H'):Rows H' a as t:=⟨k _ _ h.lst (BB _),h.len,fun i b r e1 e2=>k _ _ (h.row i b r e1 e2) (BB _),h.na,h.nd⟩
theorem fw.u7 {v:V} {f:Form} (h:fw T H v f) (k:Cz H H'):fw T H' v f:=by
 obtain ⟨a,dx,ab,abs,aw,Aj,e,h1,h2,h3⟩:=h;exact ⟨a,dx,ab,abs,aw,Aj,e,k _ _ h1 (Qt _ _ _ _),Rows.u7 h2 k,Rows.u7 h3 k⟩
theorem iO.u7 {v:V} {r:Option (Nat×Form)} (h:iO T H v r) (k:Cz H H'):iO T H' v r:=by
 obtain ⟨a,dx,fv,e,h1,h2,h3⟩:=h;refine ⟨a,dx,fv,e,h1,k _ _ h2 (N6 _ _ _ _),?_⟩
 cases r with
 |none=>exact h3
 |some x=>exact ⟨h3.1.u7 k,h3.2⟩
theorem EA {d:Addr} {o':HO} (h:H d=some o') (hn:¬ly o'):Cz H (qW H d):=fun b o e nd=>by
 unfold qW;rw [if_neg (fun z=>by
  subst z;rw [h] at e
  cases e;exact hn nd)]
 exact e
theorem zL {d:Addr} {C dx:Addr} {x0 x1 x2:V} (h:H d=some (.ins C dx (bx x0 x1 x2))):Cz H (qW H d):=EA h fun z=>(z C dx _ rfl).2 _ _ _ rfl
theorem L1 {d:Addr} {C dx:Addr} (h:H d=some (.ins C dx [])):Cz H (qW H d):=EA h fun z=>(z C dx _ rfl).1 rfl
theorem BH {d:Addr} {o:HO}:ax (qW H d) (upd H d o):=fun b u e=>by
 have nb:b≠d:=fun z=>by
  subst z;unfold qW at e;rw [if_pos rfl] at e
  cases e
 rw [aF nb];unfold qW at e;rw [if_neg nb] at e;exact e
theorem CO {d:Addr}:∀q∈[d],qW H d q=none:=fun q hq=>by
 have:q=d:=by simpa using hq
 subst this;unfold qW;rw [if_pos rfl]
end
structure gw (T:Txt K mg) (H:Hp) (d dx an:Addr) (jv pl:V) (S:List Addr) (n:Net) (o:Option Play):Prop where
 obj:H d=some (.ins T.aL.C dx (bx (.ref an) jv pl))
 full:Mt.aP n
 ex:∃H0,ax H0 H∧(∀q∈S,H0 q=none)∧dr T H0 an n∧(jv=.de∨iO T H0 jv (reduced n))
 play:match o with
  |none=>pl=.de∧S=[d]
  |some p=>∃a Bw fv at' k f,pl=.ref a∧S=[d,a,at']∧a≠d∧at'≠d∧reduced n=some (k,f)∧jv≠ .de∧tJ T H a Bw an fv at' n f p
def dB (T:Txt K mg) (H:Hp) (d:Addr) (S:List Addr) (D:Desk):Prop:=∃dx an jv pl,gw T H d dx an jv pl S D.net D.play
def aZ (T:Txt K mg) (H:Hp) (d:Addr) (S:List Addr) (r:Desk×List Int) (Q:VK):Prop:=∀b H' S',H b=none→aO S H H'→(∀q∈S',q∈S∨H q=none)→dB T H' d S' r.1→H' b=some (.lst (bh r.2))→Q (.ref b) H'
section
variable {T:Txt K mg} {H H':Hp} {d dx an:Addr} {jv pl:V} {S:List Addr} {n:Net} {o:Option Play}
theorem gw.same (D:gw T H d dx an jv pl S n o) (s:ax H H'):gw T H' d dx an jv pl S n o:=by
 obtain ⟨H0,s0,h0,h1⟩:=D.ex;refine ⟨s _ _ D.obj,D.full,⟨H0,s0.trans s,h0,h1⟩,?_⟩;have:=D.play
 cases o with
 |none=>exact this
 |some p =>
  obtain ⟨a,Bw,fv,at',k,f,e1,e2,e3,e4,e5,e6,C⟩:=this;exact ⟨a,Bw,fv,at',k,f,e1,e2,e3,e4,e5,e6,C.same s⟩
theorem gw.net (D:gw T H d dx an jv pl S n o):dr T H an n:=by
 obtain ⟨H0,s0,h0,h1,_⟩:=D.ex;exact h1.same s0
theorem gw.some (D:gw T H d dx an jv pl S n o):∀q∈S,H q≠none:=by
 have:=D.play
 cases o with
 |none =>
  obtain ⟨_,rfl⟩:=this;intro q hq;have:q=d:=by simpa using hq
  subst this;rw [D.obj];exact fun z=>nomatch z
 |some p =>
  obtain ⟨a,Bw,fv,at',k,f,e1,rfl,e3,e4,e5,e6,C⟩:=this;intro q hq;simp at hq;rcases hq with rfl|rfl|rfl
  ·rw [D.obj];exact fun z=>nomatch z
  ·rw [C.r.obj];exact fun z=>nomatch z
  ·rw [C.r.tm];exact fun z=>nomatch z
theorem gw.ds (D:gw T H d dx an jv pl S n o):d∈S:=by
 have:=D.play
 cases o with
 |none =>
  obtain ⟨_,rfl⟩:=this;simp
 |some p =>
  obtain ⟨a,Bw,fv,at',k,f,e1,rfl,_⟩:=this;simp
theorem gw.judge (D:gw T H d dx an jv pl S n o) (h:jv≠ .de):iO T H jv (reduced n):=by
 obtain ⟨H0,s0,h0,h1,h2⟩:=D.ex;rcases h2 with h2|h2
 ·exact absurd h2 h
 ·exact h2.same s0
theorem FH (k:aO S H H') (h:∀q∈S,H' q≠none):∀q,H' q=none→H q=none:=fun q e=>by
 cases c:H q with
 |none=>rfl
 |some u =>
  by_cases hq:q∈S
  ·exact absurd e (h q hq)
  ·have:=k _ _ c hq;rw [e] at this
   cases this
theorem aZ.ret {r:Desk×List Int} {Q:VK} {S':List Addr} (e:aZ T H d S r Q) (D:dB T H' d S' r.1) (k:aO S H H') (g:∀q,H' q=none→H q=none) (hS:∀q∈S',q∈S∨H q=none) {b:Addr} (hb:H' b=none):Q (.ref b) (upd H' b (.lst (bh r.2))):=by
 obtain ⟨dx,an,jv,pl,D⟩:=D;refine e b _ S' (g b hb) (k.trans (aO.of_same (ax.upd hb))) hS ⟨dx,an,jv,pl,D.same (ax.upd hb)⟩ aA
theorem aZ.read {l:List Int} {Q:VK} (e:aZ T H d S ({ net:=n,play:=o },l) Q) (D:gw T H d dx an jv pl S n o) (s:ax H H') {b:Addr} (hb:H' b=none):Q (.ref b) (upd H' b (.lst (bh l))) :=
 e.ret ⟨dx,an,jv,pl,D.same s⟩ (aO.of_same s) (fun q hq=>s.free hq) (fun q hq=>.inl hq) hb
theorem aZ.qe {l:List Int} {Q:VK} {v:V} {H1:Hp} (e:aZ T H d S ({ net:=n,play:=o },l) Q) (k:aO S H H1) (D:gw T H1 d dx an v pl S n o) (s:ax H1 H') {b:Addr} (hb:H' b=none):Q (.ref b) (upd H' b (.lst (bh l))) :=
 e.ret ⟨dx,an,v,pl,D.same s⟩ (k.trans (aO.of_same s)) (fun q hq=>FH k D.some q (s.free hq)) (fun q hq=>.inl hq) hb
end
inductive CLI (T:Txt K mg) (x:V) (H:Hp) (Q:VK):Prop
 |mk:∀d dx an jv pl S n o,x=.ref d→gw T H d dx an jv pl S n o→(∀v H',aO S H H'→gw T H' d dx an v pl S n o→v≠ .de→Q v H')→CLI T x H Q
def CL (T:Txt K mg):Sp:=m7 fun x H Q=>CLI T x H Q
theorem iC (T:Txt K mg):aU P w K mg base cI 7 T.cg.f T.cg.fd ["self"] (CL T):=by
 refine T.cg.fn.n4 CK fun bJ A outer s H x Q E hr h=>?_;obtain ⟨d,dx,an,jv,pl,S,n,o,rfl,D,k⟩:=h;refine ⟨_,(ae (aY (aE cC (ai T.aL.cl T.gn (pv 0)) aS (aG _)) (ah (bC T.aL.cl T.gn (pv 0) (aD (IS T) ‹hr› rfl T.mz.g T.mz.fn.kp T.mz.b .nil aB (aa (ai T.aL.cl T.cq (pv 0)) ag)))) aJ) (ah (au (ai T.aL.cl T.gn (pv 0))))),?_⟩;have h0:=D.obj;exists h0;by_cases c:jv=.de
 ·rw [if_pos c];have full:=D.full;have Rf:=Ge full;refine ⟨an,n,rfl,D.net,full.tocH,by omega,Nat.le_trans full.nn (by decide),fun v H1 s1 J=>?_⟩;have rN:=s1 _ _ h0;exists rN;refine ⟨by show 3<1000;decide,?_⟩;have hp:=D.play;have hj:v≠ .de:=by
   obtain ⟨a,dx,fv,e,rfl,_⟩:=J;exact fun z=>nomatch z
  cases o with
  |some p =>
   obtain ⟨a,Bw,fv,at',k,f,e1,e2,e3,e4,e5,e6,C⟩:=hp;exact absurd c e6
  |none =>
   obtain ⟨e1,rfl⟩:=hp;refine k v _ ((aO.of_same s1).trans (aO.upd (by simp))) ⟨aA,full,⟨qW H1 d,BH,CO,(D.net.same s1).u7 (zL rN),.inr (J.u7 (zL rN))⟩,e1,rfl⟩ hj
 ·rw [if_neg c];exact k jv H (aO.refl _ _) D c
theorem Tab.cell {H:Hp} {a:Addr} {as:List Addr} {t:Table} {m k i j:Nat} (h:Tab H a as t) (rc:Mt.Rc m k t) (hi:i<m) (hj:j<k):∃b row,iz (as.map V.ref) (i:Int)=some (.ref b)∧H b=some (.lst (dU row))∧iz (dU row) (j:Int)=some (wV (at_ t i j)):=by
 obtain ⟨row,er,Ri⟩:=rc.get hi;obtain ⟨b,e1,e2⟩:=Tab.get h er;exact ⟨b,row,cV (by rw [List.getElem?_map,e1];rfl),e2,cV (nF (rc.ma er hj))⟩
theorem vg {n:Net} (hn:Mt.cH n) {k:Nat} {f:Form} (h:reduced n=some (k,f)):Mt.yN n f:=by
 obtain ⟨s,_,_,_,rfl,_,_⟩:=Mt.zx n (Vblaai.first n) Vblaai.ROUNDS 0 h;exact Mt.uo hn (Mt.pj hn) s
def refusal (n:Net) (i j:Int):Int:=if (isStep n i&&isStep n j)=false then -1 else if i=j then -2 else 0
theorem yt {n:Net} {i:Int} (h:isStep n i=true):i=((i.toNat:Nat):Int)∧i.toNat<size n:=by
 unfold isStep within at h;obtain ⟨h1,h2⟩:=Bool.and_eq_true_iff.mp h;have h1:=of_decide_eq_true h1;have h2:=of_decide_eq_true h2;omega
theorem sm (D:Desk) (i j:Int) (f:Nat→Nat→Desk×Vblaai.Ans):onTwo D i j f=if refusal D.net i j≠0 then (D,[refusal D.net i j]) else f i.toNat j.toNat:=by
 unfold onTwo refusal;by_cases c:(isStep D.net i&&isStep D.net j)=false
 ·rw [if_pos c,if_pos c];rfl
 ·rw [if_neg c,if_neg c];by_cases e:i=j
  ·rw [if_pos e,if_pos e];rfl
  ·rw [if_neg e,if_neg e];rfl
theorem mD {n:Net} {i j:Int} (h:refusal n i j=0):i=((i.toNat:Nat):Int)∧j=((j.toNat:Nat):Int)∧i.toNat<size n∧j.toNat<size n∧i.toNat≠j.toNat:=by
 unfold refusal at h;by_cases c:(isStep n i&&isStep n j)=false
 ·rw [if_pos c] at h
  cases h
 ·rw [if_neg c] at h;by_cases e:i=j
  ·rw [if_pos e] at h
   cases h
  ·have c:(isStep n i&&isStep n j)=true:=by simpa using c
   obtain ⟨c1,c2⟩:=Bool.and_eq_true_iff.mp c;obtain ⟨a1,a2⟩:=yt c1;obtain ⟨b1,b2⟩:=yt c2;exact ⟨a1,b1,a2,b2,fun z=>e (by rw [a1,b1,z])⟩
inductive tGI (T:Txt K mg) (x y z:V) (H:Hp) (Q:VK):Prop
 |mk:∀d dx an jv pl S n o i j,x=.ref d→gw T H d dx an jv pl S n o→y=.int i→z=.int j→Q (.int (refusal n i j)) H→tGI T x y z H Q
def tG (T:Txt K mg):Sp:=Cs fun x y z H Q=>tGI T x y z H Q
theorem fL (T:Txt K mg):aU P w K mg base cI 2 T.bz.f T.bz.fd ["self","i","j"] (tG T):=by
 refine T.bz.fn.Bi sM fun bJ A outer s H x y z Q E hr h=>?_;obtain ⟨d,dx,an,jv,pl,S,n,o,i,j,rfl,D,rfl,rfl,k⟩:=h;refine ⟨_,(ae (aY (PW.pt (rC (gu (bZ (a8 (ai T.aL.cl T.cq (pv 0)) T.aT.cl T.cz.m (jl T) ‹hr› T.cz.b .nil aB (aa (pv 1) ag)))) (oZ (gu (bZ (a8 (ai T.aL.cl T.cq (pv 0)) T.aT.cl T.cz.m (jl T) ‹hr› T.cz.b .nil aB (aa (pv 2) ag))))))) (ah (au (kI T.mZ))) aJ) (ah (au (dh (aE eF (pv 1) (pv 2) (aG _)) (kI T.Sv) (kI T.fH))))),?_⟩;have h0:=D.obj;obtain ⟨dn,Mj,Kr,Ju,ns,ls,G0,N0⟩:=id D.net;have hn:=N0.obj;exists h0,hn;refine ⟨an,n,i,rfl,D.net,rfl,?_⟩;unfold refusal at k;right
 cases c1:isStep n i with
 |false =>
  rw [c1] at k;right;exact k
 |true =>
  exists h0,hn;refine ⟨an,n,j,rfl,D.net,rfl,?_⟩;right
  cases c2:isStep n j with
  |false =>
   rw [c1,c2] at k;right;exact k
  |true =>
   rw [c1,c2] at k;right;by_cases e:i=j
   ·rw [if_pos e];rw [if_neg (by decide),if_pos e] at k;exact k
   ·rw [if_neg e];rw [if_neg (by decide),if_neg e] at k;exact k
inductive x9I (T:Txt K mg) (x:V) (H:Hp) (Q:VK):Prop
 |mk:∀d S D,x=.ref d→dB T H d S D→aZ T H d S (Vblaai.step D .sure) Q→x9I T x H Q
def x9 (T:Txt K mg):Sp:=m7 fun x H Q=>x9I T x H Q
theorem xA (T:Txt K mg):aU P w K mg base cI 8 T.gH.f T.gH.fd ["self"] (x9 T):=by
 refine T.gH.fn.n4 oy fun bJ A outer s H x Q E hr h=>?_;obtain ⟨d,S,DD,rfl,⟨dx,an,jv,pl,D⟩,k⟩:=h;refine ⟨_,(ae (aN (i:=1) oy.nd rfl (Or.inl rfl) (cU (pv 0) T.aL.cl T.cg.m (iC T) ‹hr› T.cg.b .nil aB)) (ah (au (dh (aE cC (ai T.bf.cl T.dR (pv 1)) aS (aG _)) (a9 (aa (kI T.fH) (aa aI ag))) (a9 (aa (kI T.fH) (aa aI (aa (ai T.bf.cl T.mx (pv 1)) ag)))))))),?_⟩;have h0:=D.obj;exists h0;refine ⟨d,dx,an,jv,pl,S,DD.net,DD.play,rfl,D,fun v H1 k1 D1 hv=>?_⟩;obtain ⟨aj,dj,fv,e,rfl,hj,hm⟩:=D1.judge hv;have k:aZ T H d S (match reduced DD.net with
  |some x=>(DD,[0,1,(x.1:Int)])
  |none=>(DD,[0,0])) Q:=k
 cases c:reduced DD.net with
 |none =>
  rw [c] at k hm;have hm:fv=.de:=hm;subst hm;exists hj;exact ⟨by decide,fun q hq=>aZ.qe (l:=[0,0]) k k1 D1 (ax.refl _) hq⟩
 |some x =>
  rw [c] at k hm;obtain ⟨hF,rfl⟩:=hm;obtain ⟨af,df,ab,abs,aw,Aj,rfl,g1,g2,g3⟩:=hF;exists hj;exact ⟨by decide,fun q hq=>aZ.qe (l:=[0,1,(x.1:Int)]) k k1 D1 (ax.refl _) hq⟩
inductive vVI (T:Txt K mg) (x y z:V) (H:Hp) (Q:VK):Prop
 |mk:∀d S D i j,x=.ref d→dB T H d S D→y=.int i→z=.int j→aZ T H d S (Vblaai.step D (.bound i j)) Q→vVI T x y z H Q
def vV (T:Txt K mg):Sp:=Cs fun x y z H Q=>vVI T x y z H Q
theorem tV (w:W):(wRow w).length≤2:=by
 cases w with
 |none=>exact Nat.le_succ 1
 |some x=>exact Nat.le_refl 2
theorem cK (l:List Int):(bh l).length=l.length:=List.length_map _
theorem vH (T:Txt K mg):aU P w K mg base cI 8 T.fX.f T.fX.fd ["self","i","j"] (vV T):=by
 refine T.fX.fn.Bi jA fun bJ A outer s H x y z Q E hr h=>?_;obtain ⟨d,S,DD,i,j,rfl,⟨dx,an,jv,pl,D⟩,rfl,rfl,k⟩:=h;refine ⟨_,(ae (aN (i:=3) jA.nd rfl (Or.inl rfl) (a8 (pv 0) T.aL.cl T.bz.m (fL T) ‹hr› T.bz.b .nil aB (aa (pv 1) (aa (pv 2) ag)))) (ae (aY (aE tQ (pv 3) (kI T.fH) (aG _)) (ah (au (a9 (aa (pv 3) ag)))) aJ) (ae (aN (i:=4) jA.nd rfl (Or.inl rfl) (ai T.bf.cl T.dR (cU (pv 0) T.aL.cl T.cg.m (iC T) ‹hr› T.cg.b .nil aB))) (ah (au (dh (aE cC (pv 4) aS (aG _)) (a9 (aa (kI T.nS) ag)) (cG jt (a9 (aa (kI T.fH) ag)) (aD (lG T) ‹hr› rfl T.bY.g T.bY.fn.kp T.bY.b .nil aB (aa (aR fz (aR fz (ai T.bR.cl T.cX (pv 4)) (pv 1) (fun _ _=>rfl)) (pv 2) (fun _ _=>rfl)) ag))))))))),?_⟩;have h0:=D.obj;exists h0;refine ⟨d,dx,an,jv,pl,S,DD.net,DD.play,i,j,rfl,D,rfl,rfl,?_⟩;have k:aZ T H d S (onTwo DD i j fun i j=>onSure DD fun _ f=>(DD,0::wRow (at_ f.ord i j))) Q:=k;rw [sm] at k;right;by_cases c:refusal DD.net i j=0
 ·rw [if_pos c];rw [if_neg (by rw [c];decide)] at k;obtain ⟨ei,ej,hi,hj,_⟩:=mD c;exists h0;refine ⟨d,dx,an,jv,pl,S,DD.net,DD.play,rfl,D,fun v H1 k1 D1 hv=>?_⟩;obtain ⟨aj,dj,fv,e,rfl,Og,hm⟩:=D1.judge hv;unfold onSure at k
  cases cr:reduced DD.net with
  |none =>
   rw [cr] at k hm;have hm:fv=.de:=hm;subst hm;exists Og;exact ⟨by decide,fun q hq=>aZ.qe (l:=[-3]) k k1 D1 (ax.refl _) hq⟩
  |some x =>
   rw [cr] at k hm;obtain ⟨hF,rfl⟩:=hm;obtain ⟨af,df,ab,abs,aw,Aj,rfl,g1,g2,g3⟩:=hF;have n8:=vg D.full.tocH cr;obtain ⟨b,row,e1,e2,e3⟩:=Tab.cell g2 n8.ord hi hj;rw [←ei] at e1;rw [←ej] at e3;have gl:=g2.lst;exists Og,g1,gl,e1,e2,e3;refine ⟨by decide,fun q hq=>?_⟩;obtain ⟨H2,Aw,s2,h2⟩:=dQ hq (.lst [V.int 0]);rw [Aw];have Vh:=s2 _ _ g1;have Vy:=s2 _ _ gl;have UJ:=s2 _ _ e2;exists Vh,Vy,e1,UJ,e3;refine ⟨_,rfl,fun B H3 hB s3 h3=>?_⟩;have SS:=s3 _ _ h2;exists SS,h3;rw [cK];have wl:=tV (at_ x.2.ord i.toNat j.toNat);refine ⟨Nat.le_trans (show _≤10 by omega) (by decide),fun q2 Dg=>?_⟩;exact aZ.qe (l:=0::wRow (at_ x.2.ord i.toNat j.toNat)) k k1 D1 (s2.trans s3) Dg
 ·rw [if_neg c];rw [if_pos c] at k;exact ⟨by decide,fun q hq=>aZ.read (l:=[refusal DD.net i j]) k D (ax.refl _) hq⟩
inductive x8I (T:Txt K mg) (x y z:V) (H:Hp) (Q:VK):Prop
 |mk:∀d S D i j,x=.ref d→dB T H d S D→y=.int i→z=.int j→aZ T H d S (Vblaai.step D (.wait i j)) Q→x8I T x y z H Q
def x8 (T:Txt K mg):Sp:=Cs fun x y z H Q=>x8I T x y z H Q
theorem Kw {m:Nat} {i:Int} (h:within i 0 ((m:Int) - 1)=true):i=((i.toNat:Nat):Int)∧i.toNat<m:=by
 unfold within at h;obtain ⟨h1,h2⟩:=Bool.and_eq_true_iff.mp h;have h1:=of_decide_eq_true h1;have h2:=of_decide_eq_true h2;omega
theorem xD (T:Txt K mg):aU P w K mg base cI 8 T.gE.f T.gE.fd ["self","k","i"] (x8 T):=by
 refine T.gE.fn.Bi oB fun bJ A outer s H x y z Q E hr h=>?_;obtain ⟨d,S,DD,i,j,rfl,⟨dx,an,jv,pl,D⟩,rfl,rfl,k⟩:=h;refine ⟨_,(ae (aY (PW.pt (rC (gu (bZ (a8 (ai T.aL.cl T.cq (pv 0)) T.aT.cl T.gJ.m (yq T) ‹hr› T.gJ.b .nil aB (aa (pv 1) ag)))) (oZ (gu (bZ (a8 (ai T.aL.cl T.cq (pv 0)) T.aT.cl T.cz.m (jl T) ‹hr› T.cz.b .nil aB (aa (pv 2) ag))))))) (ah (au (a9 (aa (kI T.mZ) ag)))) aJ) (ae (aN (i:=3) oB.nd rfl (Or.inl rfl) (ai T.bf.cl T.dR (cU (pv 0) T.aL.cl T.cg.m (iC T) ‹hr› T.cg.b .nil aB))) (ah (au (dh (aE cC (pv 3) aS (aG _)) (a9 (aa (kI T.nS) ag)) (cG jt (a9 (aa (kI T.fH) ag)) (aD (lG T) ‹hr› rfl T.bY.g T.bY.fn.kp T.bY.b .nil aB (aa (aR fz (aR fz (ai T.bR.cl T.du (pv 3)) (pv 1) (fun _ _=>rfl)) (pv 2) (fun _ _=>rfl)) ag)))))))),?_⟩;have h0:=D.obj;obtain ⟨dn,Mj,Kr,Ju,ns,ls,G0,N0⟩:=id D.net;have hn:=N0.obj;have k:aZ T H d S (if within i 0 ((DD.net.natures.length:Int) - 1)=false∨isStep DD.net j=false then Vblaai.no DD (-1) else onSure DD fun _ f=>(DD,0::wRow (Vblaai.waitAt f i.toNat j.toNat))) Q:=k
 exists h0,hn;refine ⟨an,DD.net,i,rfl,D.net,rfl,?_⟩;right
 cases c1:within i 0 ((DD.net.natures.length:Int) - 1) with
 |false =>
  rw [if_pos (.inl c1)] at k;right;exact ⟨by decide,fun q hq=>aZ.read (l:=[-1]) k D (ax.refl _) hq⟩
 |true =>
  exists h0,hn;refine ⟨an,DD.net,j,rfl,D.net,rfl,?_⟩;right
  cases c2:isStep DD.net j with
  |false =>
   rw [if_pos (.inr c2)] at k;right;exact ⟨by decide,fun q hq=>aZ.read (l:=[-1]) k D (ax.refl _) hq⟩
  |true =>
   rw [if_neg (by rw [c1,c2];decide)] at k;obtain ⟨ei,hi⟩:=Kw c1;obtain ⟨ej,hj⟩:=yt c2;exists h0;refine ⟨d,dx,an,jv,pl,S,DD.net,DD.play,rfl,D,fun v H1 k1 D1 hv=>?_⟩;obtain ⟨aj,dj,fv,e,rfl,Og,hm⟩:=D1.judge hv;unfold onSure at k
   cases cr:reduced DD.net with
   |none =>
    rw [cr] at k hm;have hm:fv=.de:=hm;subst hm;exists Og;exact ⟨by decide,fun q hq=>aZ.qe (l:=[-3]) k k1 D1 (ax.refl _) hq⟩
   |some x =>
    rw [cr] at k hm;obtain ⟨hF,rfl⟩:=hm;obtain ⟨af,df,ab,abs,aw,Aj,rfl,g1,g2,g3⟩:=hF;have n8:=vg D.full.tocH cr;obtain ⟨b,row,e1,e2,e3⟩:=Tab.cell g3 n8.wait hi hj;rw [←ei] at e1;rw [←ej] at e3;have gl:=g3.lst;exists Og,g1;refine ⟨by decide,fun q hq=>?_⟩;obtain ⟨H2,Aw,s2,h2⟩:=dQ hq (.lst [V.int 0]);rw [Aw];have Vh:=s2 _ _ g1;have Vy:=s2 _ _ gl;have UJ:=s2 _ _ e2;exists Vh,Vy,e1,UJ,e3;refine ⟨_,rfl,fun B H3 hB s3 h3=>?_⟩;have SS:=s3 _ _ h2;exists SS,h3;rw [cK];have wl:=tV (at_ x.2.wait i.toNat j.toNat);refine ⟨Nat.le_trans (show _≤10 by omega) (by decide),fun q2 Dg=>?_⟩;exact aZ.qe (l:=0::wRow (at_ x.2.wait i.toNat j.toNat)) k k1 D1 (s2.trans s3) Dg
inductive ztI (T:Txt K mg) (x y z:V) (H:Hp) (Q:VK):Prop
 |mk:∀d S D i j,x=.ref d→dB T H d S D→y=.int i→z=.int j→aZ T H d S (Vblaai.step D (.far i j)) Q→ztI T x y z H Q
def zt (T:Txt K mg):Sp:=Cs fun x y z H Q=>ztI T x y z H Q
theorem yW (T:Txt K mg):aU P w K mg base cI 6 T.g6.f T.g6.fd ["self","i","j"] (zt T):=by
 refine T.g6.fn.Bi kK fun bJ A outer s H x y z Q E hr h=>?_;obtain ⟨d,S,DD,i,j,rfl,⟨dx,an,jv,pl,D⟩,rfl,rfl,k⟩:=h;refine ⟨_,(ae (aN (i:=3) kK.nd rfl (Or.inl rfl) (a8 (pv 0) T.aL.cl T.bz.m (fL T) ‹hr› T.bz.b .nil aB (aa (pv 1) (aa (pv 2) ag)))) (ae (aY (aE tQ (pv 3) (kI T.fH) (aG _)) (ah (au (a9 (aa (pv 3) ag)))) aJ) (ae (aN (i:=4) kK.nd rfl (Or.inl rfl) (aD (t8 T) ‹hr› rfl T.d5.g T.d5.fn.kp T.d5.b .nil aB (aa (ai T.aL.cl T.cq (pv 0)) ag))) (ah (au (dh (aE cC (pv 4) aS (aG _)) (a9 (aa (kI T.nS) ag)) (cG jt (a9 (aa (kI T.fH) ag)) (aD (lG T) ‹hr› rfl T.bY.g T.bY.fn.kp T.bY.b .nil aB (aa (aR fz (aR fz (pv 4) (pv 1) (fun _ _=>rfl)) (pv 2) (fun _ _=>rfl)) ag))))))))),?_⟩;have h0:=D.obj;exists h0;refine ⟨d,dx,an,jv,pl,S,DD.net,DD.play,i,j,rfl,D,rfl,rfl,?_⟩;have k:aZ T H d S (onTwo DD i j fun i j=>if Vblaai.weak DD.net=false then Vblaai.no DD (-3) else (DD,0::wRow (at_ (Vblaai.closed (size DD.net) (Vblaai.base DD.net)) i j))) Q:=k
 rw [sm] at k;right;by_cases c:refusal DD.net i j=0
 ·rw [if_pos c];rw [if_neg (by rw [c];decide)] at k;obtain ⟨ei,ej,hi,hj,_⟩:=mD c;have Rf:=Ge D.full;exists h0;refine ⟨an,DD.net,rfl,D.net,D.full.tocH,by omega,fun v H1 s1 hv=>?_⟩
  cases cw:Vblaai.weak DD.net with
  |false =>
   rw [cw] at k hv;have hv:v=.de:=hv;subst hv;right;exact ⟨by decide,fun q hq=>aZ.read (l:=[-3]) k D s1 hq⟩
  |true =>
   rw [cw] at k hv;obtain ⟨b0,bs,rfl,tb⟩:=hv;obtain ⟨b,row,e1,e2,e3⟩:=Tab.cell tb (Mt.mU (Mt.Be DD.net)) hi hj;rw [←ei] at e1;rw [←ej] at e3;have gl:=tb.lst;right;refine ⟨by decide,fun q hq=>?_⟩;obtain ⟨H2,Aw,s2,h2⟩:=dQ hq (.lst [V.int 0]);rw [Aw];have Vy:=s2 _ _ gl;have UJ:=s2 _ _ e2;exists Vy,e1,UJ,e3;refine ⟨_,rfl,fun B H3 hB s3 h3=>?_⟩;have SS:=s3 _ _ h2;exists SS,h3;rw [cK];have wl:=tV (at_ (Vblaai.closed (size DD.net) (Vblaai.base DD.net)) i.toNat j.toNat);refine ⟨Nat.le_trans (show _≤10 by omega) (by decide),fun q2 Dg=>?_⟩;exact aZ.read (l:=0::wRow (at_ (Vblaai.closed (size DD.net) (Vblaai.base DD.net)) i.toNat j.toNat)) k D ((s1.trans s2).trans s3) Dg
 ·rw [if_neg c];rw [if_pos c] at k;exact ⟨by decide,fun q hq=>aZ.read (l:=[refusal DD.net i j]) k D (ax.refl _) hq⟩
inductive rYI (T:Txt K mg) (x y z:V) (H:Hp) (Q:VK):Prop
 |mk:∀d S D i j,x=.ref d→dB T H d S D→y=.int i→z=.int j→aZ T H d S (Vblaai.step D (.tightest i j)) Q→rYI T x y z H Q
def rY (T:Txt K mg):Sp:=Cs fun x y z H Q=>rYI T x y z H Q
theorem Vp {T:Txt K mg} {H:Hp} {d dx an:Addr} {jv pl:V} {S:List Addr} {n:Net} {o:Option Play} (D:gw T H d dx an jv pl S n o):L9 T H an n:=by
 have Rf:=Ge D.full;exact ⟨D.net,D.full.tocH,by omega,Nat.le_trans D.full.nn (by decide),Nat.le_trans D.full.nl (by decide)⟩
theorem rT (T:Txt K mg):aU P w K mg base cI 9 T.en.f T.en.fd ["self","i","j"] (rY T):=by
 refine T.en.fn.Bi kj fun bJ A outer s H x y z Q E hr h=>?_;obtain ⟨d,S,DD,i,j,rfl,⟨dx,an,jv,pl,D⟩,rfl,rfl,k⟩:=h;refine ⟨_,(ae (aN (i:=3) kj.nd rfl (Or.inl rfl) (a8 (pv 0) T.aL.cl T.bz.m (fL T) ‹hr› T.bz.b .nil aB (aa (pv 1) (aa (pv 2) ag)))) (ae (aY (aE tQ (pv 3) (kI T.fH) (aG _)) (ah (au (a9 (aa (pv 3) ag)))) aJ) (ae (aY (aE cC (ai T.bf.cl T.dR (cU (pv 0) T.aL.cl T.cg.m (iC T) ‹hr› T.cg.b .nil aB)) aS (aG _)) (ah (au (a9 (aa (kI T.nS) ag)))) aJ) (ah (au (cG jt (a9 (aa (kI T.fH) ag)) (aD (lG T) ‹hr› rfl T.bY.g T.bY.fn.kp T.bY.b .nil aB (aa (aD (Hq T) ‹hr› rfl T.kq.g T.kq.fn.kp T.kq.b .nil aB (aa (ai T.aL.cl T.cq (pv 0)) (aa (pv 1) (aa (pv 2) ag)))) ag)))))))),?_⟩;have h0:=D.obj;exists h0;refine ⟨d,dx,an,jv,pl,S,DD.net,DD.play,i,j,rfl,D,rfl,rfl,?_⟩;have k:aZ T H d S (onTwo DD i j fun i j=>onSure DD fun _ f=>match at_ f.ord i j with
  |none=>(DD,if Vblaai.sure (withLimit DD.net i j MOST)=true then 0::[1,searchFrom DD.net i j 20 (-MOST) MOST] else [0,0])
  |some _=>(DD,0::[1,searchFrom DD.net i j 20 (-MOST) MOST])) Q:=k
 rw [sm] at k;right;by_cases c:refusal DD.net i j=0
 ·rw [if_pos c];rw [if_neg (by rw [c];decide)] at k;obtain ⟨ei,ej,hi,hj,lP⟩:=mD c;exists h0;refine ⟨d,dx,an,jv,pl,S,DD.net,DD.play,rfl,D,fun v H1 k1 D1 hv=>?_⟩;obtain ⟨aj,dj,fv,e,rfl,Og,hm⟩:=D1.judge hv;unfold onSure at k
  cases cr:reduced DD.net with
  |none =>
   rw [cr] at k hm;have hm:fv=.de:=hm;subst hm;exists Og;exact ⟨by decide,fun q hq=>aZ.qe (l:=[-3]) k k1 D1 (ax.refl _) hq⟩
  |some x =>
   rw [cr] at k hm;obtain ⟨hF,rfl⟩:=hm;obtain ⟨af,df,ab,abs,aw,Aj,rfl,g1,g2,g3⟩:=hF;have k:aZ T H d S (DD,0::wRow (wj DD.net i.toNat j.toNat)) Q:=by
    have e0:(0::wRow (wj DD.net i.toNat j.toNat))=if Vblaai.sure (withLimit DD.net i.toNat j.toNat 12000)=true then 0::[1,searchFrom DD.net i.toNat j.toNat 20 (-12000) 12000] else [0,0]:=by
     unfold wj;by_cases c9:Vblaai.sure (withLimit DD.net i.toNat j.toNat 12000)=true
     ·rw [if_pos c9,if_pos c9];rfl
     ·rw [if_neg c9,if_neg c9];rfl
    cases ca:at_ x.2.ord i.toNat j.toNat with
    |none =>
     simp only [ca] at k;rw [e0];exact k
    |some y =>
     simp only [ca] at k;rw [e0,if_pos (Mt.MA D.full cr hi hj lP ca)];exact k
   exists Og,g1;refine ⟨by decide,fun q hq=>?_⟩;obtain ⟨H2,Aw,s2,h2⟩:=dQ hq (.lst [V.int 0]);rw [Aw];have D2:=D1.same s2;have G4:=D2.obj;exists G4;refine ⟨an,DD.net,i.toNat,j.toNat,rfl,congrArg V.int ei,congrArg V.int ej,Vp D2,hi,hj,lP,fun H3 s3=>?_⟩;refine ⟨_,rfl,fun B H4 hB s4 h4=>?_⟩;have VS:=s4 _ _ (s3 _ _ h2);exists VS,h4;rw [cK];have wl:=tV (wj DD.net i.toNat j.toNat);refine ⟨Nat.le_trans (show _≤10 by omega) (by decide),fun q2 Dg=>?_⟩;exact aZ.qe (l:=0::wRow (wj DD.net i.toNat j.toNat)) k k1 D1 ((s2.trans s3).trans s4) Dg
 ·rw [if_neg c];rw [if_pos c] at k;exact ⟨by decide,fun q hq=>aZ.read (l:=[refusal DD.net i j]) k D (ax.refl _) hq⟩
inductive rQI (T:Txt K mg) (x y z u:V) (H:Hp) (Q:VK):Prop
 |mk:∀d S D i j w,x=.ref d→dB T H d S D→y=.int i→z=.int j→u=.int w→aZ T H d S (Vblaai.step D (.ifLimit i j w)) Q→rQI T x y z u H Q
def rQ (T:Txt K mg):Sp:=Qx fun x y z u H Q=>rQI T x y z u H Q
theorem rR (T:Txt K mg):aU P w K mg base cI 8 T.eB.f T.eB.fd ["self","i","j","w"] (rQ T):=by
 refine T.eB.fn.Ro km fun bJ A outer s H x y z u Q E hr h=>?_;obtain ⟨d,S,DD,i,j,l,rfl,⟨dx,an,jv,pl,D⟩,rfl,rfl,rfl,k⟩:=h;refine ⟨_,(ae (aN (i:=4) km.nd rfl (Or.inl rfl) (a8 (pv 0) T.aL.cl T.bz.m (fL T) ‹hr› T.bz.b .nil aB (aa (pv 1) (aa (pv 2) ag)))) (ae (aY (aE tQ (pv 4) (kI T.fH) (aG _)) (ah (au (a9 (aa (pv 4) ag)))) aJ) (ae (aY (gu (sR ia ia (kI T.xp) (pv 3) (kI T.sW))) (ah (au (a9 (aa (kI T.mZ) ag)))) aJ) (ah (au (a9 (aa (kI T.fH) (aa (aD (jh T) ‹hr› rfl T.bG.g T.bG.fn.kp T.bG.b .nil aB (aa (aD (l7 T) ‹hr› rfl T.b6.g T.b6.fn.kp T.b6.b .nil aB (aa (ai T.aL.cl T.cq (pv 0)) (aa (pv 1) (aa (pv 2) (aa (pv 3) ag))))) ag)) ag)))))))),?_⟩;have h0:=D.obj;exists h0;refine ⟨d,dx,an,jv,pl,S,DD.net,DD.play,i,j,rfl,D,rfl,rfl,?_⟩;have k:aZ T H d S (onTwo DD i j fun i j=>if within l (-MOST) MOST=false then Vblaai.no DD (-1) else (DD,[0,bit (Vblaai.sure (withLimit DD.net i j l))])) Q:=k
 rw [sm] at k;right;by_cases c:refusal DD.net i j=0
 ·rw [if_pos c];rw [if_neg (by rw [c];decide)] at k;obtain ⟨ei,ej,hi,hj,lP⟩:=mD c;have ok:(-12000≤l∧l≤12000)→∀q':Prop,(rl T [.ref an,.int i,.int j,.int l] H (fun y H1=>uU T [y] H1 (fun y H1=>2≤sizeLine∧∀p,H1 p=none→Q (.ref p) (upd H1 p (.lst [V.int 0,y]))) E0) E0→q')→q':=fun hw q' GR=>by
   have N2:within l (-MOST) MOST=true:=by
    unfold within MOST;rw [decide_eq_true hw.1,decide_eq_true hw.2];rfl
   rw [if_neg (by rw [N2];decide)] at k;refine GR ⟨an,DD.net,i.toNat,j.toNat,l,rfl,congrArg V.int ei,congrArg V.int ej,rfl,Vp D,hi,hj,lP,fun H1 s1=>?_⟩;exact ⟨_,rfl,by show 2≤_;decide,fun q hq=>aZ.read (l:=[0,bit _]) k D s1 hq⟩
  have no:¬(-12000≤l∧l≤12000)→∀p,H p=none→Q (.ref p) (upd H p (.lst [V.int (-1)])):=fun hw p hp=>by
   have N2:within l (-MOST) MOST=false:=by
    unfold within MOST;by_cases c1: -12000≤l
    ·rw [decide_eq_false (fun z=>hw ⟨c1,z⟩),Bool.and_false]
    ·rw [decide_eq_false c1,Bool.false_and]
   rw [if_pos N2] at k;exact aZ.read (l:=[-1]) k D (ax.refl _) hp
  exists h0;by_cases c1: -12000≤l
  ·rw [if_pos c1];by_cases c2:l≤12000
   ·rw [if_pos c2];exact ok ⟨c1,c2⟩ _ id
   ·rw [if_neg c2];exact ⟨by decide,no fun z=>c2 z.2⟩
  ·rw [if_neg c1];exact ⟨by decide,no fun z=>c1 z.1⟩
 ·rw [if_neg c];rw [if_pos c] at k;exact ⟨by decide,fun q hq=>aZ.read (l:=[refusal DD.net i j]) k D (ax.refl _) hq⟩
inductive xoI (T:Txt K mg) (x y:V) (H:Hp) (Q:VK):Prop
 |mk:∀d S D i,x=.ref d→dB T H d S D→y=.int i→aZ T H d S (Vblaai.step D (.game i)) Q→xoI T x y H Q
def xo (T:Txt K mg):Sp:=rX fun x y H Q=>xoI T x y H Q
theorem xW (T:Txt K mg):aU P w K mg base cI 32 T.gq.f T.gq.fd ["self","horizon"] (xo T):=by
 refine T.gq.fn.sE xf fun bJ A outer s H x y Q E hr h=>?_;obtain ⟨d,S,DD,i,rfl,⟨dx,an,jv,pl,D⟩,rfl,k⟩:=h;refine ⟨_,(ae (aY (gu (sR ia ia aI (pv 1) (kI T.CV))) (ah (au (a9 (aa (kI T.mZ) ag)))) aJ) (ae (aY (aE K5 (bc nY rfl T.eM eJ (aa (ai T.aT.cl T.bj (ai T.aL.cl T.cq (pv 0))) ag)) (kI T.xO) (aG _)) (ah (au (a9 (aa (kI T.Hu) ag)))) aJ) (ah (au (a9 (aa (kI T.fH) (aa (aD (jh T) ‹hr› rfl T.bG.g T.bG.fn.kp T.bG.b .nil aB (aa (aD (DI T) ‹hr› rfl T.iW.g T.iW.fn.kp T.iW.b .nil aB (aa (ai T.aL.cl T.cq (pv 0)) (aa (pv 1) ag))) ag)) ag))))))),?_⟩;have h0:=D.obj;obtain ⟨dn,Mj,Kr,Ju,ns,ls,G0,N0⟩:=id D.net;have hn:=N0.obj;have Ub:=N0.AW;have WG:ns.length=size DD.net:=N0.pn.1;have k:aZ T H d S (if within i 0 8=false then Vblaai.no DD (-1) else if 6<size DD.net then Vblaai.no DD (-5) else (DD,[0,bit (Vblaai.game DD.net i.toNat)])) Q:=k
 have no:¬(0≤i∧i≤8)→∀p,H p=none→Q (.ref p) (upd H p (.lst [V.int (-1)])):=fun hw p hp=>by
  have N2:within i 0 8=false:=by
   unfold within;by_cases c1:0≤i
   ·rw [decide_eq_false (fun z=>hw ⟨c1,z⟩),Bool.and_false]
   ·rw [decide_eq_false c1,Bool.false_and]
  rw [if_pos N2] at k;exact aZ.read (l:=[-1]) k D (ax.refl _) hp
 exists h0,hn,Ub;by_cases c1:0≤i
 ·rw [if_pos c1];by_cases c2:i≤8
  ·rw [if_pos c2];have N2:within i 0 8=true:=by
    unfold within;rw [decide_eq_true c1,decide_eq_true c2];rfl
   rw [if_neg (by rw [N2];decide)] at k;by_cases c3:6<size DD.net
   ·rw [if_pos (by rw [WG];omega)];rw [if_pos c3] at k;exact ⟨by decide,fun q hq=>aZ.read (l:=[-5]) k D (ax.refl _) hq⟩
   ·rw [if_neg (by rw [WG];omega)];rw [if_neg c3] at k;refine ⟨an,DD.net,i.toNat,rfl,D.net,D.full,by omega,congrArg V.int (by omega),by omega,fun H1 s1=>?_⟩;exact ⟨_,rfl,by show 2≤_;decide,fun q hq=>aZ.read (l:=[0,bit _]) k D s1 hq⟩
  ·rw [if_neg c2];exact ⟨by decide,no fun z=>c2 z.2⟩
 ·rw [if_neg c1];exact ⟨by decide,no fun z=>c1 z.1⟩
inductive ylI (T:Txt K mg) (x:V) (H:Hp) (Q:VK):Prop
 |mk:∀d S D,x=.ref d→dB T H d S D→aZ T H d S (Vblaai.step D .print) Q→ylI T x H Q
def yl (T:Txt K mg):Sp:=m7 fun x H Q=>ylI T x H Q
theorem ya (T:Txt K mg):aU P w K mg base cI 4 T.gp.f T.gp.fd ["self"] (yl T):=by
 refine T.gp.fn.n4 yE fun bJ A outer s H x Q E hr h=>?_;obtain ⟨d,S,DD,rfl,⟨dx,an,jv,pl,D⟩,k⟩:=h;refine ⟨_,(ah (au (cG jt (a9 (aa (kI T.fH) ag)) (aD (mB T) ‹hr› rfl T.cA.g T.cA.fn.kp T.cA.b .nil aB (aa (aD (Hx T) ‹hr› rfl T.kW.g T.kW.fn.kp T.kW.b .nil aB (aa (ai T.aL.cl T.cq (pv 0)) ag)) ag))))),?_⟩;right;refine ⟨by decide,fun q hq=>?_⟩;obtain ⟨H2,Aw,s2,h2⟩:=dQ hq (.lst [V.int 0]);rw [Aw];have D2:=D.same s2;have G4:=D2.obj;exists G4;refine ⟨an,DD.net,rfl,⟨D2.net,D.full⟩,fun B H3 hB s3 h3 hz=>?_⟩;rw [←vY] at h3;have el:(nums (Mt.iY DD.net)).length=(Mt.iY DD.net).length:=List.length_map _;refine ⟨B,_,rfl,h3,by rw [el];exact hz,fun B4 H4 WH s4 h4=>?_⟩;have VS:=s4 _ _ (s3 _ _ h2);exists VS,h4;rw [cK,List.length_cons,el];refine ⟨Nat.le_trans (show _≤200000 by omega) (by decide),fun q2 Dg=>?_⟩;refine aZ.read (l:=0::((Mt.iY DD.net).length:Int)::nums (Mt.iY DD.net)) ?_ D ((s2.trans s3).trans s4) Dg;have k:aZ T H d S (DD,0::Vblaai.row (Vblaai.printNet DD.net)) Q:=k;have e:Vblaai.row (Vblaai.printNet DD.net)=((Mt.iY DD.net).length:Int)::nums (Mt.iY DD.net):=by
  rw [Mt.zS];rfl
 rw [e] at k;exact k
inductive zNI (T:Txt K mg) (x y:V) (H:Hp) (Q:VK):Prop
 |mk:∀d S D b w,x=.ref d→dB T H d S D→y=.ref b→H b=some (.lst (bg w))→w.length≤2000→aZ T H d S (Vblaai.step D (.net w)) Q→zNI T x y H Q
def zN (T:Txt K mg):Sp:=rX fun x y H Q=>zNI T x y H Q
theorem zz (T:Txt K mg):aU P w K mg base cI 7 T.ib.f T.ib.fd ["self","text"] (zN T):=by
 refine T.ib.fn.sE pA fun bJ A outer s H x y Q E hr h=>?_;obtain ⟨d,S,DD,b,wd,rfl,⟨dx,an,jv,pl,D⟩,rfl,hb,hz,k⟩:=h;refine ⟨_,(ae (aN (i:=2) pA.nd rfl (Or.inl rfl) (aD (IG T) ‹hr› rfl T.lg.g T.lg.fn.kp T.lg.b .nil aB (aa (pv 1) ag))) (ae (aY (aE cC (ai T.bX.cl T.o7 (pv 2)) aS (aG _)) (ah (au (a9 (aa (kI T.GB) (aa (ai T.bX.cl T.lY (pv 2)) (aa (ai T.bX.cl T.pP (pv 2)) ag)))))) aJ) (ae (bC T.aL.cl T.cq (pv 0) (ai T.bX.cl T.o7 (pv 2))) (ae (bC T.aL.cl T.gn (pv 0) aS) (ae (bC T.aL.cl T.bW (pv 0) aS) (ah (au (a9 (aa (kI T.fH) ag))))))))),?_⟩;right;refine ⟨b,wd,rfl,hb,hz,fun v H1 s1 R=>?_⟩;obtain ⟨p,Bw,nv,ln,rs,rfl,hp,hr⟩:=R;have k:aZ T H d S (match Vblaai.readNet wd with
  | .ok n=>({ net:=n },[0])
  | .error e=>(DD,[1,(e.1:Int),(e.2:Int)])) Q:=k
 cases c:Vblaai.readNet wd with
 |error e =>
  rw [c] at k hr;obtain ⟨rfl,rfl,rfl⟩:=hr;exists hp;exact ⟨by decide,fun q hq=>aZ.read (l:=[1,(e.1:Int),(e.2:Int)]) k D s1 hq⟩
 |ok n =>
  rw [c] at k hr;obtain ⟨a,rfl,hN,full⟩:=hr;have D1:=D.same s1;have rN:=D1.obj;have npd:p≠d:=fun z=>by
   subst z;rw [hp] at rN
   injection rN with rN
   injection rN with _ _ rN
   have:=congrArg (fun l=>l.map Prod.fst) rN;simp [kr,bx] at this;exact absurd this.1 (by decide)
  exists hp,rN;refine ⟨by decide,by decide,by decide,by decide,fun q hq=>?_⟩;rw [fC,fC] at hq ⊢;have kH:aO [d] H1 (upd H1 d (.ins T.aL.C dx (bx (.ref a) .de .de))):=aO.upd (by simp);have kS:aO S H (upd H1 d (.ins T.aL.C dx (bx (.ref a) .de .de))):=(aO.of_same s1).trans (kH.mono fun x hx=>by
   have:x=d:=by simpa using hx
   subst this;exact D.ds)
  have hq1:H1 q=none:=by
   by_cases c:q=d
   ·subst c;rw [aA] at hq
    cases hq
   ·rw [aF c] at hq;exact hq
  refine aZ.ret (r:=({ net:=n },[0])) (S':=[d]) k ⟨dx,a,.de,.de,aA,full,⟨qW H1 d,BH,CO,hN.u7 (zL rN),.inl rfl⟩,rfl,rfl⟩ kS (fun x hx=>?_) (fun x hx=>.inl ?_) hq
  ·by_cases c:x=d
   ·subst c;rw [aA] at hx
    cases hx
   ·rw [aF c] at hx;exact s1.free hx
  ·have:x=d:=by simpa using hx
   subst this;exact D.ds
inductive GhI (T:Txt K mg) (x:V) (H:Hp) (Q:VK):Prop
 |mk:∀p dx,x=.ref p→H p=some (.ins T.aL.C dx [])→(∀H',aO [p] H H'→dB T H' p [p] {}→Q .de H')→GhI T x H Q
def Gh (T:Txt K mg):Sp:=m7 fun x H Q=>GhI T x H Q
theorem F3 (T:Txt K mg):aU P w K mg base cI 3 T.aL.f T.aL.fd ["self"] (Gh T):=by
 refine T.aL.fn.n4 Fc fun bJ A outer s H x Q E hr h=>?_;obtain ⟨p,dx,rfl,hp,k⟩:=h;refine ⟨_,(ae (bC T.aL.cl T.cq (pv 0) (wL T.aT.Fy (sk T) ‹hr› rfl T.aT.g T.aT.b .nil aB)) (ae (bC T.aL.cl T.gn (pv 0) aS) (ah (bC T.aL.cl T.bW (pv 0) aS)))),?_⟩;right;intro q dq hq uG lP;refine ⟨q,dq,rfl,aA,fun H1 an al at' h1 h2 h3 M k1=>?_⟩;have s1:=cF hq uG k1;have Ow:=s1 _ _ hp;refine ⟨rfl,?_⟩;exists Ow;refine ⟨by decide,by show 1<1000;decide,by show 2<1000;decide,?_⟩;rw [fC,fC];have hN:dr T H1 q {}:=⟨_,_,_,_,_,_,_,M.toNv⟩;refine k _ ((aO.of_same s1).trans (aO.upd (by simp))) ⟨dx,q,.de,.de,aA,Mt.BR,⟨qW H1 p,BH,CO,hN.u7 (L1 Ow),.inl rfl⟩,rfl,rfl⟩
theorem Ek (f:Form) (n:Net) (ts:Times) (t:Nat):∀(k:Nat) (s:List Nat),(Vblaai.ready f n ts t k s).length≤s.length
 |0,s=>Nat.le_refl _
 |k+1,s=>by
  rw [Mt.m9];have hl:=List.length_filter_le (Mt.ow f n ts t s) s;by_cases c:(s.filter (Mt.ow f n ts t s)).length=s.length
  ·rw [if_pos c];exact Nat.le_refl _
  ·rw [if_neg c];exact Nat.le_trans (Ek f n ts t k _) hl
theorem pb {f:Form} {n:Net} (hn:Mt.aP n) (ts:Times) (t:Nat):(Vblaai.steps f n ts t).length≤12:=Nat.le_trans (Ek f n ts t _ _) (Nat.le_trans (Mt.CZ n ts) hn.nm)
theorem JI (s:List Nat):s.map aM=bh (nums s):=(vY s).symm
theorem lO (s:List Nat):(nums s).length=s.length:=List.length_map _
inductive wtI (T:Txt K mg) (x:V) (H:Hp) (Q:VK):Prop
 |mk:∀d S D,x=.ref d→dB T H d S D→aZ T H d S (Vblaai.step D .begin_) Q→wtI T x H Q
def wt (T:Txt K mg):Sp:=m7 fun x H Q=>wtI T x H Q
theorem wq (T:Txt K mg):aU P w K mg base cI 8 T.fV.f T.fV.fd ["self"] (wt T):=by
 refine T.fV.fn.n4 nD fun bJ A outer s H x Q E hr h=>?_;obtain ⟨d,S,DD,rfl,⟨dx,an,jv,pl,D⟩,k⟩:=h;refine ⟨_,(ae (aN (i:=1) nD.nd rfl (Or.inl rfl) (ai T.bf.cl T.dR (cU (pv 0) T.aL.cl T.cg.m (iC T) ‹hr› T.cg.b .nil aB))) (ae (aY (aE cC (pv 1) aS (aG _)) (ah (au (a9 (aa (kI T.nS) ag)))) aJ) (ae (bC T.aL.cl T.bW (pv 0) (gQ T.aQ.Fy (Fo T) ‹hr› rfl T.aQ.g T.aQ.b .nil aB (aa (ai T.aL.cl T.cq (pv 0)) (aa (pv 1) ag)))) (ah (au (cG jt (a9 (aa (kI T.fH) ag)) (aD (mB T) ‹hr› rfl T.cA.g T.cA.fn.kp T.cA.b .nil aB (aa (cU (ai T.aL.cl T.bW (pv 0)) T.aQ.cl T.dP.m (ot T) ‹hr› T.dP.b .nil aB) ag)))))))),?_⟩;have h0:=D.obj;exists h0;refine ⟨d,dx,an,jv,pl,S,DD.net,DD.play,rfl,D,fun v H1 k1 D1 hv=>?_⟩;obtain ⟨H0,s0,n0,Xj,XB⟩:=D1.ex;have XB:iO T H0 v (reduced DD.net):=XB.resolve_left hv;obtain ⟨aj,dj,fv,e,rfl,Og,hm⟩:=XB;have ZN:=s0 _ _ Og;have k:aZ T H d S (onSure DD fun _ f=>let x:=Vblaai.begin_ f DD.net;({ DD with play:=some x.1 },0::listRow x.2)) Q:=k
 unfold onSure at k
 cases cr:reduced DD.net with
 |none =>
  rw [cr] at k hm;have hm:fv=.de:=hm;subst hm;exists ZN;exact ⟨by decide,fun q hq=>aZ.qe (l:=[-3]) k k1 D1 (ax.refl _) hq⟩
 |some x =>
  rw [cr] at k hm;obtain ⟨hF,rfl⟩:=hm;have n8:=vg D.full.tocH cr;obtain ⟨af,df,ab,abs,aw,Aj,rfl,g1,g2,g3⟩:=id hF;have rN:=D1.obj;exists ZN,rN;intro q dq hq uG lP;have WN:=D1.ds;have W8:=FH k1 D1.some;have sb:ax H0 (upd (upd H1 dq (.own q)) q (.ins T.aQ.C dq [])):=fun b u e=>by
   rw [aF (aC (s0 _ _ e) hq),aF (aC (s0 _ _ e) uG)];exact s0 _ _ e
  refine ⟨q,dq,an,DD.net,x.2,H0,rfl,aA,rfl,D.full,n8,sb,s0.free hq,Xj,hF,fun H2 at' Ms k2 R2=>?_⟩;have s2:=cF hq uG k2;have G4:=s2 _ _ rN;have KR:H1 at'=none:=by
   cases c:H1 at' with
   |none=>rfl
   |some u =>
    rw [aF (aC c hq),aF (aC c uG),c] at Ms
    cases Ms
  have Xx:d≠q:=aC rN hq;have Uc:d≠at':=aC rN KR;refine ⟨rfl,?_⟩;exists G4;refine ⟨by decide,?_⟩;obtain ⟨H3,Ka,s3,h3,k3⟩:=Io (s0.trans s2) (n0 d WN) (.ins T.aL.C dx (bx (.ref an) (.ref aj) (.ref q)));rw [Ka];have R3:eG T H3 q dq an (.ref af) at' DD.net x.2 0 (Vblaai.fresh DD.net):=⟨k3 _ _ R2.obj (by simpa using Xx.symm),k3 _ _ R2.tm (by simpa using Uc.symm),R2.full,R2.n8,R2.len,R2.zero,H0,s3,s0.free hq,s0.free KR,Xj,hF⟩;refine ⟨by decide,fun B hB=>?_⟩;obtain ⟨H4,Qr,s4,h4⟩:=dQ hB (.lst [V.int 0]);rw [Qr];have QS:=s4 _ _ h3;have R4:=R3.same s4;have hq4:=R4.obj;exists QS,hq4;refine ⟨q,dq,an,.ref af,at',DD.net,x.2,0,Vblaai.fresh DD.net,rfl,R4,fun C H5 hC k5 h5 R5=>?_⟩;have Z9:B≠q:=(aC R3.obj hB).symm;have nBa:B≠at':=(aC R3.tm hB).symm;have Ti:=k5 _ _ h4 (by simp [Z9,nBa]);have WX:=k5 _ _ QS (by simp [Xx,Uc]);rw [JI] at h5;have sl:=pb (f:=x.2) D.full (Vblaai.fresh DD.net) 0;refine ⟨C,_,rfl,h5,by rw [lO];omega,fun F H6 hF6 s6 h6=>?_⟩;have h46:=s6 _ _ Ti;exists h46,h6;rw [cK,List.length_cons,lO];refine ⟨Nat.le_trans (show _≤100 by omega) (by decide),fun G hG=>?_⟩;have R6:=R5.same s6;have U3:aO S H1 H6:=fun b u e hb=>by
   have b1:b≠d:=fun z=>hb (by rw [z];exact WN);have b2:b≠q:=aC e hq;have b3:b≠at':=aC e KR;exact s6 _ _ (k5 _ _ (s4 _ _ (k3 _ _ (s2 _ _ e) (by simpa using b1))) (by simp [b2,b3]))
  have k6:aO S H H6:=k1.trans U3;have gr:∀y,H6 y=none→H y=none:=fun y hy=>W8 y (by
   cases c:H1 y with
   |none=>rfl
   |some u =>
    by_cases hyS:y∈S
    ·by_cases cd:y=d
     ·subst cd;rw [s6 _ _ WX] at hy
      cases hy
     ·have b2:y≠q:=aC c hq;have b3:y≠at':=aC c KR;rw [s6 _ _ (k5 _ _ (s4 _ _ (k3 _ _ (s2 _ _ c) (by simpa using cd))) (by simp [b2,b3]))] at hy
      cases hy
    ·rw [U3 _ _ c hyS] at hy
     cases hy)
  have D6:dB T H6 d [d,q,at'] { DD with play:=some (Vblaai.begin_ x.2 DD.net).1 }:=by
   refine ⟨dx,an,.ref aj,.ref q,s6 _ _ WX,D.full,⟨H0,?_,?_,Xj,.inr ?_⟩,q,dq,.ref af,at',x.1,x.2,rfl,rfl,Xx.symm,Uc.symm,cr,(fun z=>nomatch z),⟨R6,Mt.L6 D.full _⟩⟩
   ·intro b u e;have e1:=s4 _ _ (s3 _ _ e);have b2:b≠q:=aC (s0 _ _ e) hq;have b3:b≠at':=aC (s0 _ _ e) KR;exact s6 _ _ (k5 _ _ e1 (by simp [b2,b3]))
   ·intro y hy;simp at hy;rcases hy with rfl|rfl|rfl
    ·exact n0 _ WN
    ·exact s0.free hq
    ·exact s0.free KR
   ·rw [cr];exact ⟨aj,dj,.ref af,x.1,rfl,Og,hF,rfl⟩
  refine aZ.ret (r:=({ DD with play:=some (Vblaai.begin_ x.2 DD.net).1 },0::((Vblaai.steps x.2 DD.net (Vblaai.fresh DD.net) 0).length:Int)::nums (Vblaai.steps x.2 DD.net (Vblaai.fresh DD.net) 0))) k D6 k6 gr (fun y hy=>?_) hG;simp at hy;rcases hy with rfl|rfl|rfl
  ·exact .inl WN
  ·exact .inr (W8 _ hq)
  ·exact .inr (W8 _ KR)
inductive vGI (T:Txt K mg) (x:V) (H:Hp) (Q:VK):Prop
 |mk:∀d S D,x=.ref d→dB T H d S D→aZ T H d S (Vblaai.step D .state) Q→vGI T x H Q
def vG (T:Txt K mg):Sp:=m7 fun x H Q=>vGI T x H Q
theorem wo (T:Txt K mg):aU P w K mg base cI 2 T.fW.f T.fW.fd ["self"] (vG T):=by
 refine T.fW.fn.n4 vm fun bJ A outer s H x Q E hr h=>?_;obtain ⟨d,S,⟨n,o⟩,rfl,⟨dx,an,jv,pl,D⟩,k⟩:=h;refine ⟨_,(ae (aY (aE cC (ai T.aL.cl T.bW (pv 0)) aS (aG _)) (ah (au (a9 (aa (kI T.ug) ag)))) aJ) (ah (au (cG jt (a9 (aa (kI T.fH) (aa (ai T.aQ.cl T.fb (ai T.aL.cl T.bW (pv 0))) ag))) (cU (ai T.aL.cl T.bW (pv 0)) T.aQ.cl T.fN.m (vn T) ‹hr› T.fN.b .nil aB))))),?_⟩;have h0:=D.obj;have hp:=D.play
 cases o with
 |none =>
  obtain ⟨rfl,rfl⟩:=hp;have k:aZ T H d [d] ({ net:=n,play:=none },[-4]) Q:=k;exists h0;exact ⟨by decide,fun q hq=>aZ.read (l:=[-4]) k D (ax.refl _) hq⟩
 |some p =>
  obtain ⟨a,Bw,fv,at',kk,f,rfl,rfl,e3,e4,e5,e6,C⟩:=hp;have k:aZ T H d [d,a,at'] ({ net:=n,play:=some p },0::(p.now:Int)::p.times.map Eh) Q:=k;have ha:=C.r.obj;exists h0,ha;refine ⟨by decide,fun q hq=>?_⟩;obtain ⟨H1,uT,s1,h1⟩:=dQ hq (.lst [V.int 0,aM p.now]);rw [uT];have C1:=C.same s1;have rN:=s1 _ _ h0;have LS:=s1 _ _ ha;exists rN,LS;refine ⟨a,Bw,an,fv,at',n,f,p.now,p.times,rfl,C1.r,fun B H2 s2 h2=>?_⟩;have QV:=s2 _ _ h1;exists QV,h2;rw [cK,List.length_map,C.r.len];have Rf:=Ge D.full;refine ⟨Nat.le_trans (show _≤100 by omega) (by decide),fun q2 Dg=>?_⟩;exact aZ.read (l:=0::(p.now:Int)::p.times.map Eh) k D (s1.trans s2) Dg
inductive yBI (T:Txt K mg) (x:V) (H:Hp) (Q:VK):Prop
 |mk:∀d S D,x=.ref d→dB T H d S D→aZ T H d S (Vblaai.step D .kept) Q→yBI T x H Q
def yB (T:Txt K mg):Sp:=m7 fun x H Q=>yBI T x H Q
theorem yh (T:Txt K mg):aU P w K mg base cI 4 T.gD.f T.gD.fd ["self"] (yB T):=by
 refine T.gD.fn.n4 xV fun bJ A outer s H x Q E hr h=>?_;obtain ⟨d,S,⟨n,o⟩,rfl,⟨dx,an,jv,pl,D⟩,k⟩:=h;refine ⟨_,(ae (aY (aE cC (ai T.aL.cl T.bW (pv 0)) aS (aG _)) (ah (au (a9 (aa (kI T.ug) ag)))) aJ) (ah (au (a9 (aa (kI T.fH) (aa (aD (jh T) ‹hr› rfl T.bG.g T.bG.fn.kp T.bG.b .nil aB (aa (cU (ai T.aL.cl T.bW (pv 0)) T.aQ.cl T.ic.m (zb T) ‹hr› T.ic.b .nil aB) ag)) (aa (aD (jh T) ‹hr› rfl T.bG.g T.bG.fn.kp T.bG.b .nil aB (aa (cU (ai T.aL.cl T.bW (pv 0)) T.aQ.cl T.dG.m (qi T) ‹hr› T.dG.b .nil aB) ag)) ag))))))),?_⟩;have h0:=D.obj;have hp:=D.play
 cases o with
 |none =>
  obtain ⟨rfl,rfl⟩:=hp;have k:aZ T H d [d] ({ net:=n,play:=none },[-4]) Q:=k;exists h0;exact ⟨by decide,fun q hq=>aZ.read (l:=[-4]) k D (ax.refl _) hq⟩
 |some p =>
  obtain ⟨a,Bw,fv,at',kk,f,rfl,rfl,e3,e4,e5,e6,C⟩:=hp;have k:aZ T H d [d,a,at'] ({ net:=n,play:=some p },[0,bit (allDone n p.times),bit (Vblaai.keeps n p.times)]) Q:=k;have ha:=C.r.obj;exists h0,ha;refine ⟨a,Bw,an,fv,at',n,f,p.now,p.times,rfl,C.r,?_⟩;refine ⟨_,rfl,?_⟩;exists h0,ha;refine ⟨a,Bw,an,fv,at',n,f,p.now,p.times,rfl,C.r,fun H1 s1=>?_⟩;refine ⟨_,rfl,?_⟩;exact ⟨by show 3≤_;decide,fun q hq=>aZ.read (l:=[0,bit _,bit _]) k D s1 hq⟩
theorem aZ.played {T:Txt K mg} {H H':Hp} {d dx an a Bw at':Addr} {jv fv:V} {n:Net} {o:Option Play} {p:Play} {f:Form} {k:Nat} {l:List Int} {Q:VK} (e:aZ T H d [d,a,at'] ({ net:=n,play:=some p },l) Q)
  (D:gw T H d dx an jv (.ref a) [d,a,at'] n o) (Uc:a≠d) (YT:at'≠d) (hr:reduced n=some (k,f)) (hj:jv≠ .de) (kp:aO [a,at'] H H') (C:tJ T H' a Bw an fv at' n f p) {b:Addr} (hb:H' b=none):Q (.ref b) (upd H' b (.lst (bh l))):=by
 have kS:aO [d,a,at'] H H':=kp.mono fun x hx=>List.mem_cons_of_mem _ hx;obtain ⟨H0,s0,n0,h1⟩:=D.ex;have hd:H' d=some (.ins T.aL.C dx (bx (.ref an) jv (.ref a))):=kp _ _ D.obj (by simp [Uc.symm,YT.symm]);have D':gw T H' d dx an jv (.ref a) [d,a,at'] n (some p):=by
  refine ⟨hd,D.full,⟨H0,?_,n0,h1⟩,a,Bw,fv,at',k,f,rfl,rfl,Uc,YT,hr,hj,C⟩;exact aO.same s0 kp fun x hx=>n0 x (List.mem_cons_of_mem _ hx)
 exact e.ret ⟨dx,an,jv,.ref a,D'⟩ kS (FH kS D'.some) (fun q hq=>.inl hq) hb
inductive qZI (T:Txt K mg) (x y:V) (H:Hp) (Q:VK):Prop
 |mk:∀d S D b c,x=.ref d→dB T H d S D→y=.ref b→H b=some (.lst (bh c))→b∉S→c.length≤20→aZ T H d S (Vblaai.step D (.tick c)) Q→qZI T x y H Q
def qZ (T:Txt K mg):Sp:=rX fun x y H Q=>qZI T x y H Q
theorem PF {s:List Int} {i:Nat} {x:V} (h:(bh s)[i]?=some x):∃c,s[i]?=some c∧x=.int c:=jN h
theorem qS (T:Txt K mg):aU P w K mg base cI 6 T.dF.f T.dF.fd ["self","steps"] (qZ T):=by
 refine T.dF.fn.sE eZ fun bJ A outer s H x y Q E hr h=>?_;obtain ⟨d,S,⟨n,o⟩,b,c,rfl,⟨dx,an,jv,pl,D⟩,rfl,hb,nb,hz,k⟩:=h;refine ⟨_,(ae (aY (aE cC (ai T.aL.cl T.bW (pv 0)) aS (aG _)) (ah (au (a9 (aa (kI T.ug) ag)))) aJ) (ae (aY (gu (bZ (bc (all2 rfl) rfl T.zp za (aa (i7 rfl eZ.nd (fg (pv 1)) (bL (show jq ["self","steps","done","step"] (aq ir) _ [("step",3)]=true from by decide+kernel)) (fun _ _ _ _ _=>(aK (i:=3) eZ.nd rfl (Or.inl rfl))) (fun _ _ _ _ _=>eY) (fun _ _ _ _ _=>(a8 (ai T.aL.cl T.cq (pv 0)) T.aT.cl T.cz.m (jl T) ‹hr› T.cz.b .nil aB (aa (pv 3) ag)))) ag)))) (ah (au (a9 (aa (kI T.mZ) ag)))) aJ) (ae (aY (gu (bZ (a8 (ai T.aL.cl T.bW (pv 0)) T.aQ.cl T.bN.m (i8 T) ‹hr› T.bN.b .nil aB (aa (pv 1) ag)))) (ah (au (a9 (aa (kI T.Ds) ag)))) aJ) (ae (aN (i:=2) eZ.nd rfl (Or.inl rfl) (a8 (ai T.aL.cl T.bW (pv 0)) T.aQ.cl T.dM.m (oH T) ‹hr› T.dM.b .nil aB (aa (pv 1) ag))) (ah (au (cG jt (a9 (aa (kI T.fH) (aa (ai T.aQ.cl T.fb (ai T.aL.cl T.bW (pv 0))) ag))) (aD (mB T) ‹hr› rfl T.cA.g T.cA.fn.kp T.cA.b .nil aB (aa (pv 2) ag))))))))),?_⟩
 have h0:=D.obj;have hp:=D.play
 cases o with
 |none =>
  obtain ⟨rfl,rfl⟩:=hp;have k:aZ T H d [d] ({ net:=n,play:=none },[-4]) Q:=k;exists h0;exact ⟨by decide,fun q hq=>aZ.read (l:=[-4]) k D (ax.refl _) hq⟩
 |some p =>
  obtain ⟨a,Bw,fv,at',kk,f,rfl,rfl,e3,e4,e5,e6,C⟩:=hp;have k:aZ T H d [d,a,at'] (if (c.all (isStep n))=false then Vblaai.no { net:=n,play:=some p } (-1) else onSure { net:=n,play:=some p } fun _ f=>match Vblaai.tick f n p (c.map Int.toNat) with
   |some x=>({ net:=n,play:=some x.1 },0::(x.1.now:Int)::listRow x.2)
   |none=>Vblaai.no { net:=n,play:=some p } (-6)) Q:=k
  exists h0,hb;refine cW (bp (bh c)) (fun i=>some (V.bl (isStep n (c.getD i 0)))) (fun H' s=>.of (s _ _ hb)) (fun i x H' kk2 hi s hx kf=>?_) (by rw [cK];exact Nat.le_trans hz (by decide)) (fun L H1 hL s1 hd=>?_)
  ·obtain ⟨z,ez,rfl⟩:=PF hx;rw [b9 ez] at kf;have D1:=D.same s;have rN:=D1.obj;obtain ⟨dn,Mj,Kr,Ju,ns,ls,G0,N0⟩:=id D1.net;have hn:=N0.obj;exists rN,hn;refine ⟨an,n,z,rfl,D1.net,rfl,?_⟩;exact kf H' (ax.refl _)
  ·rw [cK,filterMap_some] at hd;have el:(List.range c.length).map (fun i=>V.bl (isStep n (c.getD i 0)))=(c.map (isStep n)).map V.bl:=by
    rw [List.map_map];exact cB c 0 (V.bl ∘ isStep n)
   rw [el] at hd;refine ph (c.map (isStep n)) hd rfl ?_;have XY:(c.map (isStep n)).all id=c.all (isStep n):=by
    rw [List.all_map];rfl
   rw [XY]
   cases ca:c.all (isStep n) with
   |false =>
    rw [if_pos ca] at k;right;exact ⟨by decide,fun q hq=>aZ.read (l:=[-1]) k D s1 hq⟩
   |true =>
    rw [if_neg (by rw [ca];decide)] at k;unfold onSure at k;rw [e5] at k;have D1:=D.same s1;have C1:=C.same s1;have rN:=D1.obj;have LS:=C1.r.obj;have EU:=s1 _ _ hb;have ec:bh c=(c.map Int.toNat).map aM:=by
     unfold bh;rw [List.map_map];apply List.map_congr_left;intro z Wo;exact congrArg V.int (yt (List.all_eq_true.mp ca z Wo)).1
    rw [ec] at EU;exists rN,LS;refine ⟨a,Bw,an,fv,at',n,f,p.now,p.times,b,c.map Int.toNat,rfl,C1.r,rfl,EU,by rw [List.length_map];omega,fun H2 s2=>?_⟩;have G6:=s1.trans s2;have D2:=D.same G6;have C2:=C.same G6;have G4:=D2.obj;have RR:=C2.r.obj;have OD:=s2 _ _ EU;have k:aZ T H d [d,a,at'] (match Vblaai.tick f n p (c.map Int.toNat) with
     |some x=>({ net:=n,play:=some x.1 },0::(x.1.now:Int)::listRow x.2)
     |none=>Vblaai.no { net:=n,play:=some p } (-6)) Q:=k
    rw [xc C.ok] at k;right
    cases cb:jj n p.times (p.now+1) (c.map Int.toNat) with
    |false =>
     rw [cb,if_neg Bool.false_ne_true] at k;right;exact ⟨by decide,fun q hq=>aZ.read (l:=[-6]) k D G6 hq⟩
    |true =>
     rw [cb,if_pos rfl] at k;exists G4,RR;have WK:b≠at':=fun z=>nb (by rw [z];simp);refine ⟨a,Bw,an,fv,at',n,f,p.now,p.times,b,c.map Int.toNat,rfl,C2.r,rfl,OD,WK,F1 D.full cb,fun G H3 hG k3 h3 R3=>?_⟩;have X9:=k3 _ _ G4 (by simp [e3.symm,e4.symm]);have XX:=R3.obj;have Bi:=zV (f:=f) D.full C.ok cb;exists X9,XX;refine ⟨by decide,fun q hq=>?_⟩;obtain ⟨H4,Qr,s4,h4⟩:=dQ hq (.lst [V.int 0,aM (p.now+1)]);rw [Qr];have QS:=s4 _ _ h3;rw [JI] at QS;have sl:=pb (f:=f) (n:=n) D.full (doneAt (p.now+1) (c.map Int.toNat) p.times) (p.now+1);refine ⟨G,_,rfl,QS,by rw [lO];omega,fun B H5 hB s5 h5=>?_⟩;have Ti:=s5 _ _ h4;exists Ti,h5;rw [cK,List.length_cons,lO];refine ⟨Nat.le_trans (show _≤100 by omega) (by decide),fun q2 Dg=>?_⟩;have kp:aO [a,at'] H H5:=(((aO.of_same G6).trans k3).trans (aO.of_same s4)).trans (aO.of_same s5);exact aZ.played k D e3 e4 e5 e6 kp ⟨(R3.same s4).same s5,Bi⟩ Dg
inductive ASI (T:Txt K mg) (x y:V) (H:Hp) (Q:VK):Prop
 |mk:∀d S D m,x=.ref d→dB T H d S D→y=.int m→aZ T H d S (Vblaai.step D (.idle m)) Q→ASI T x y H Q
def AS (T:Txt K mg):Sp:=rX fun x y H Q=>ASI T x y H Q
theorem Br {f:Form} {n:Net} (hn:Mt.aP n):∀(m:Nat) (p:Play),(idleFrom f n m p).2.length≤12
 |0,p=>Nat.zero_le _
 |m+1,p=>by
  rw [EW]
  cases c:Vblaai.tick f n p [] with
  |none=>exact Nat.zero_le _
  |some x =>
   show (if x.2.isEmpty=true then idleFrom f n m x.1 else x).2.length≤12
   by_cases e:x.2.isEmpty=true
   ·rw [if_pos e];exact Br hn m x.1
   ·rw [if_neg e];unfold Vblaai.tick at c;dsimp only at c;split at c
    ·cases c;exact pb hn _ _
    ·cases c
theorem A4 (T:Txt K mg):aU P w K mg base cI 7 T.iE.f T.iE.fd ["self","most_ticks"] (AS T):=by
 refine T.iE.fn.sE rK fun bJ A outer s H x y Q E hr h=>?_;obtain ⟨d,S,⟨n,o⟩,m,rfl,⟨dx,an,jv,pl,D⟩,rfl,k⟩:=h;refine ⟨_,(ae (aY (aE cC (ai T.aL.cl T.bW (pv 0)) aS (aG _)) (ah (au (a9 (aa (kI T.ug) ag)))) aJ) (ae (aY (gu (sR ia ia aI (pv 1) (kI T.yg))) (ah (au (a9 (aa (kI T.mZ) ag)))) aJ) (ae (aN (i:=2) rK.nd rfl (Or.inl rfl) (a8 (ai T.aL.cl T.bW (pv 0)) T.aQ.cl T.gG.m (yw T) ‹hr› T.gG.b .nil aB (aa (pv 1) ag))) (ah (au (cG jt (a9 (aa (kI T.fH) (aa (ai T.aQ.cl T.fb (ai T.aL.cl T.bW (pv 0))) ag))) (aD (mB T) ‹hr› rfl T.cA.g T.cA.fn.kp T.cA.b .nil aB (aa (pv 2) ag)))))))),?_⟩;have h0:=D.obj;have hp:=D.play
 cases o with
 |none =>
  obtain ⟨rfl,rfl⟩:=hp;have k:aZ T H d [d] ({ net:=n,play:=none },[-4]) Q:=k;exists h0;exact ⟨by decide,fun q hq=>aZ.read (l:=[-4]) k D (ax.refl _) hq⟩
 |some p =>
  obtain ⟨a,Bw,fv,at',kk,f,rfl,rfl,e3,e4,e5,e6,C⟩:=hp;have k:aZ T H d [d,a,at'] (if within m 1 300=false then Vblaai.no { net:=n,play:=some p } (-1) else onSure { net:=n,play:=some p } fun _ f=>let x:=idleFrom f n m.toNat p;({ net:=n,play:=some x.1 },0::(x.1.now:Int)::listRow x.2)) Q:=k
  have no:¬(1≤m∧m≤300)→∀q,H q=none→Q (.ref q) (upd H q (.lst [V.int (-1)])):=fun hw q hq=>by
   have N2:within m 1 300=false:=by
    unfold within;by_cases c1:1≤m
    ·rw [decide_eq_false (fun z=>hw ⟨c1,z⟩),Bool.and_false]
    ·rw [decide_eq_false c1,Bool.false_and]
   rw [if_pos N2] at k;exact aZ.read (l:=[-1]) k D (ax.refl _) hq
  have ha:=C.r.obj;exists h0,ha;by_cases c1:1≤m
  ·rw [if_pos c1];by_cases c2:m≤300
   ·rw [if_pos c2];have N2:within m 1 300=true:=by
     unfold within;rw [decide_eq_true c1,decide_eq_true c2];rfl
    rw [if_neg (by rw [N2];decide)] at k;unfold onSure at k;rw [e5] at k;have k:aZ T H d [d,a,at'] ({ net:=n,play:=some (idleFrom f n m.toNat p).1 },0::((idleFrom f n m.toNat p).1.now:Int)::listRow (idleFrom f n m.toNat p).2) Q:=k;refine ⟨a,Bw,an,fv,at',n,f,p,m.toNat,rfl,C,congrArg V.int (by omega),fun G H3 k3 h3 C3=>?_⟩;have X9:=k3 _ _ h0 (by simp [e3.symm,e4.symm]);have XX:=C3.r.obj;exists X9,XX;refine ⟨by decide,fun q hq=>?_⟩;obtain ⟨H4,Qr,s4,h4⟩:=dQ hq (.lst [V.int 0,aM (idleFrom f n m.toNat p).1.now]);rw [Qr];have QS:=s4 _ _ h3;rw [JI] at QS;have sl:=Br (f:=f) (n:=n) D.full m.toNat p;refine ⟨G,_,rfl,QS,by rw [lO];omega,fun B H5 hB s5 h5=>?_⟩;have Ti:=s5 _ _ h4;exists Ti,h5;rw [cK,List.length_cons,lO];refine ⟨Nat.le_trans (show _≤100 by omega) (by decide),fun q2 Dg=>?_⟩;have kp:aO [a,at'] H H5:=(k3.trans (aO.of_same s4)).trans (aO.of_same s5);exact aZ.played k D e3 e4 e5 e6 kp ((C3.same s4).same s5) Dg
   ·rw [if_neg c2];exact ⟨by decide,no fun z=>c2 z.2⟩
  ·rw [if_neg c1];exact ⟨by decide,no fun z=>c1 z.1⟩
inductive vE (p:Int) (ns r:List Int) (c:Vblaai.Call):Prop
 |a0 (_:p=0) (_:c=.net (r.map Int.toNat)) (_:r.length≤2000) (_:NeutralIO.bytes r=true)|a1 (_:p=1) (_:c=.print)|a2 (_:p=2) (_:c=.steps)|a3 (_:p=3) (_:c=.weak)|a4 (_:p=4) (_:c=.sure)|a5 (_:p=5) (i j) (_:ns=[i,j]) (_:c=.bound i j)|a6 (_:p=6) (i j) (_:ns=[i,j]) (_:c=.wait i j)|a7 (_:p=7) (i j) (_:ns=[i,j]) (_:c=.far i j)|a8 (_:p=8) (i j) (_:ns=[i,j]) (_:c=.tightest i j)|a9 (_:p=9) (i) (_:ns=[i]) (_:c=.game i)|a10 (_:p=10) (_:c=.begin_)|a11 (_:p=11) (_:c=.tick r) (_:r.length≤20)|a12 (_:p=12) (i) (_:ns=[i]) (_:c=.idle i)|a13 (_:p=13) (_:c=.state)|a14 (_:p=14) (_:c=.kept)|a15 (_:p=15) (i j w) (_:ns=[i,j,w]) (_:c=.ifLimit i j w)
theorem Nf {x:V}:iz [x] 0=some x:=rfl
theorem UW {x y z:V}:iz [x,y,z] 0=some x:=rfl
theorem U4 {x y z:V}:iz [x,y,z] 1=some y:=rfl
theorem VQ {x y z:V}:iz [x,y,z] 2=some z:=rfl
inductive raI (T:Txt K mg) (x y z u:V) (H:Hp) (Q:VK):Prop
 |mk:∀d S D p nb ns rb r c,x=.ref d→dB T H d S D→y=.int p→z=.ref nb→H nb=some (.lst (bh ns))→u=.ref rb→H rb=some (.lst (bh r))→rb∉S→vE p ns r c→10≤p→aZ T H d S (Vblaai.step D c) Q→raI T x y z u H Q
def ra (T:Txt K mg):Sp:=Qx fun x y z u H Q=>raI T x y z u H Q
theorem qs (T:Txt K mg):aU P w K mg base cI 9 T.dH.f T.dH.fd ["self","call","numbers","row"] (ra T):=by
 refine T.dH.fn.Ro qY fun bJ A outer s H x y z u Q E hr h=>?_;obtain ⟨d,S,D,p,nb,ns,rb,r,c,rfl,DC,rfl,rfl,yb,rfl,MZ,hS,hc,hp,k⟩:=h;refine ⟨_,(ae (aY (aE eF (pv 1) (kI T.PY) (aG _)) (ah (au (cU (pv 0) T.aL.cl T.fV.m (wq T) ‹hr› T.fV.b .nil aB))) aJ) (ae (aY (aE eF (pv 1) (kI T.R7) (aG _)) (ah (au (a8 (pv 0) T.aL.cl T.dF.m (qS T) ‹hr› T.dF.b .nil aB (aa (pv 3) ag)))) aJ) (ae (aY (aE eF (pv 1) (kI T.RC) (aG _)) (ah (au (a8 (pv 0) T.aL.cl T.iE.m (A4 T) ‹hr› T.iE.b .nil aB (aa (aR fz (pv 2) aI (fun _ _=>rfl)) ag)))) aJ) (ae (aY (aE eF (pv 1) (kI T.Pw) (aG _)) (ah (au (cU (pv 0) T.aL.cl T.fW.m (wo T) ‹hr› T.fW.b .nil aB))) aJ) (ae (aY (aE eF (pv 1) (kI T.SY) (aG _)) (ah (au (cU (pv 0) T.aL.cl T.gD.m (yh T) ‹hr› T.gD.b .nil aB))) aJ) (ah (au (a8 (pv 0) T.aL.cl T.eB.m (rR T) ‹hr› T.eB.b .nil aB (aa (aR fz (pv 2) aI (fun _ _=>rfl)) (aa (aR fz (pv 2) aI (fun _ _=>rfl)) (aa (aR fz (pv 2) aI (fun _ _=>rfl)) ag))))))))))),?_⟩;obtain ⟨dx,an,jv,pl,DA⟩:=id DC;have h0:=DA.obj;rcases hc with ⟨rfl,_⟩|⟨rfl,_⟩|⟨rfl,_⟩|⟨rfl,_⟩|⟨rfl,_⟩|⟨rfl,_⟩|⟨rfl,_⟩|⟨rfl,_⟩|⟨rfl,_⟩|⟨rfl,_⟩|⟨rfl,rfl⟩|⟨rfl,rfl,hz⟩|⟨rfl,i,rfl,rfl⟩|⟨rfl,rfl⟩|⟨rfl,rfl⟩|⟨rfl,i,j,l,rfl,rfl⟩
 ·omega
 ·omega
 ·omega
 ·omega
 ·omega
 ·omega
 ·omega
 ·omega
 ·omega
 ·omega
 ·exists h0;exact ⟨d,S,D,rfl,DC,k⟩
 ·exists h0;exact ⟨d,S,D,rb,r,rfl,DC,rfl,MZ,hS,hz,k⟩
 ·have yb:H nb=some (.lst [.int i]):=yb;exists h0,yb,Nf;exact ⟨d,S,D,i,rfl,DC,rfl,k⟩
 ·exists h0;exact ⟨d,S,D,rfl,DC,k⟩
 ·exists h0;exact ⟨d,S,D,rfl,DC,k⟩
 ·have yb:H nb=some (.lst [.int i,.int j,.int l]):=yb;exists h0,yb,UW,U4,VQ;exact ⟨d,S,D,i,j,l,rfl,DC,rfl,rfl,rfl,k⟩
theorem Pf {r:List Int} (h:NeutralIO.bytes r=true):bh r=bg (r.map Int.toNat):=by
 unfold bh bg;rw [List.map_map];apply List.map_congr_left;intro z hz;have:=List.all_eq_true.mp h z hz;have:=of_decide_eq_true (Bool.and_eq_true_iff.mp this).1;exact congrArg V.int (by omega)
inductive sXI (T:Txt K mg) (x y z u:V) (H:Hp) (Q:VK):Prop
 |mk:∀d S D p nb ns rb r c,x=.ref d→dB T H d S D→y=.int p→z=.ref nb→H nb=some (.lst (bh ns))→u=.ref rb→H rb=some (.lst (bh r))→rb∉S→vE p ns r c→aZ T H d S (Vblaai.step D c) Q→sXI T x y z u H Q
def sX (T:Txt K mg):Sp:=Qx fun x y z u H Q=>sXI T x y z u H Q
theorem BM (T:Txt K mg):aU P w K mg base cI 33 T.jd.f T.jd.fd ["self","call","numbers","row"] (sX T):=by
 refine T.jd.fn.Ro B5 fun bJ A outer s H x y z u Q E hr h=>?_;obtain ⟨d,S,D,p,nb,ns,rb,r,c,rfl,DC,rfl,rfl,yb,rfl,MZ,hS,hc,k⟩:=h;refine ⟨_,(ae (aY (aE eF (pv 1) (kI T.Ve) (aG _)) (ah (au (a8 (pv 0) T.aL.cl T.ib.m (zz T) ‹hr› T.ib.b .nil aB (aa (pv 3) ag)))) aJ) (ae (aY (aE eF (pv 1) (kI T.QF) (aG _)) (ah (au (cU (pv 0) T.aL.cl T.gp.m (ya T) ‹hr› T.gp.b .nil aB))) aJ) (ae (aY (aE eF (pv 1) (kI T.Px) (aG _)) (ah (au (cG jt (a9 (aa (kI T.fH) (aa (bc nY rfl T.eM eJ (aa (ai T.aT.cl T.bj (ai T.aL.cl T.cq (pv 0))) ag)) ag))) (aD (FN T) ‹hr› rfl T.jB.g T.jB.fn.kp T.jB.b .nil aB (aa (ai T.aL.cl T.cq (pv 0)) ag))))) aJ) (ae (aY (aE eF (pv 1) (kI T.RY) (aG _)) (ah (au (a9 (aa (kI T.fH) (aa (aD (jh T) ‹hr› rfl T.bG.g T.bG.fn.kp T.bG.b .nil aB (aa (bO iw (aD (t8 T) ‹hr› rfl T.d5.g T.d5.fn.kp T.d5.b .nil aB (aa (ai T.aL.cl T.cq (pv 0)) ag)) aS (aG _)) ag)) ag))))) aJ) (ae (aY (aE eF (pv 1) (kI T.S8) (aG _)) (ah (au (cU (pv 0) T.aL.cl T.gH.m (xA T) ‹hr› T.gH.b .nil aB))) aJ) (ae (aY (aE eF (pv 1) (kI T.Pk) (aG _)) (ah (au (a8 (pv 0) T.aL.cl T.fX.m (vH T) ‹hr› T.fX.b .nil aB (aa (aR fz (pv 2) aI (fun _ _=>rfl)) (aa (aR fz (pv 2) aI (fun _ _=>rfl)) ag))))) aJ) (ae (aY (aE eF (pv 1) (kI T.Tq) (aG _)) (ah (au (a8 (pv 0) T.aL.cl T.gE.m (xD T) ‹hr› T.gE.b .nil aB (aa (aR fz (pv 2) aI (fun _ _=>rfl)) (aa (aR fz (pv 2) aI (fun _ _=>rfl)) ag))))) aJ) (ae (aY (aE eF (pv 1) (kI T.Vb) (aG _)) (ah (au (a8 (pv 0) T.aL.cl T.g6.m (yW T) ‹hr› T.g6.b .nil aB (aa (aR fz (pv 2) aI (fun _ _=>rfl)) (aa (aR fz (pv 2) aI (fun _ _=>rfl)) ag))))) aJ) (ae (aY (aE eF (pv 1) (kI T.JH) (aG _)) (ah (au (a8 (pv 0) T.aL.cl T.en.m (rT T) ‹hr› T.en.b .nil aB (aa (aR fz (pv 2) aI (fun _ _=>rfl)) (aa (aR fz (pv 2) aI (fun _ _=>rfl)) ag))))) aJ) (ae (aY (aE eF (pv 1) (kI T.R0) (aG _)) (ah (au (a8 (pv 0) T.aL.cl T.gq.m (xW T) ‹hr› T.gq.b .nil aB (aa (aR fz (pv 2) aI (fun _ _=>rfl)) ag)))) aJ) (ah (au (a8 (pv 0) T.aL.cl T.dH.m (qs T) ‹hr› T.dH.b .nil aB (aa (pv 1) (aa (pv 2) (aa (pv 3) ag)))))))))))))))),?_⟩;obtain ⟨dx,an,jv,pl,DA⟩:=id DC;have h0:=DA.obj;by_cases hp:10≤p
 ·exists h0;rw [if_neg (by omega),if_neg (by omega),if_neg (by omega),if_neg (by omega),if_neg (by omega),if_neg (by omega),if_neg (by omega),if_neg (by omega),if_neg (by omega),if_neg (by omega)];exact ⟨d,S,D,p,nb,ns,rb,r,c,rfl,DC,rfl,rfl,yb,rfl,MZ,hS,hc,hp,k⟩
 rcases hc with ⟨rfl,rfl,hz,hby⟩|⟨rfl,rfl⟩|⟨rfl,rfl⟩|⟨rfl,rfl⟩|⟨rfl,rfl⟩|⟨rfl,i,j,rfl,rfl⟩|⟨rfl,i,j,rfl,rfl⟩|⟨rfl,i,j,rfl,rfl⟩|⟨rfl,i,j,rfl,rfl⟩|⟨rfl,i,rfl,rfl⟩|⟨rfl,_⟩|⟨rfl,_⟩|⟨rfl,_⟩|⟨rfl,_⟩|⟨rfl,_⟩|⟨rfl,_⟩
 ·exists h0;rw [Pf hby] at MZ;exact ⟨d,S,D,rb,_,rfl,DC,rfl,MZ,by rw [List.length_map];exact hz,k⟩
 ·exists h0;exact ⟨d,S,D,rfl,DC,k⟩
 ·obtain ⟨dn,Mj,Kr,Ju,ns',ls,G0,N0⟩:=id DA.net;have hn:=N0.obj;have Ub:=N0.AW;have WG:ns'.length=size D.net:=N0.pn.1;exists h0,hn,Ub;refine ⟨by decide,fun q hq=>?_⟩;rw [WG];obtain ⟨H1,uT,s1,h1⟩:=dQ hq (.lst [V.int 0,aM (size D.net)]);rw [uT];have D1:=DA.same s1;have rN:=D1.obj;exists rN;refine ⟨an,D.net,rfl,⟨D1.net,DA.full⟩,fun B H2 hB s2 h2 hz=>?_⟩;have QV:=s2 _ _ h1;exists QV,h2;rw [cK];refine ⟨Nat.le_trans (show _≤2000 by omega) (by decide),fun q2 Dg=>?_⟩;exact aZ.read (l:=0::(size D.net:Int)::pS D.net) k DA (s1.trans s2) Dg
 ·have Rf:=Ge DA.full;exists h0;refine ⟨an,D.net,rfl,DA.net,DA.full.tocH,by omega,fun v H1 s1 hv=>?_⟩;have k:aZ T H d S (D,[0,bit (Vblaai.weak D.net)]) Q:=k
  cases cw:Vblaai.weak D.net with
  |false =>
   rw [cw] at k hv;have hv:v=.de:=hv;subst hv;right;exact ⟨_,rfl,by decide,fun q hq=>aZ.read (l:=[0,bit false]) k DA s1 hq⟩
  |true =>
   rw [cw] at k hv;obtain ⟨b0,bs,rfl,tb⟩:=hv;right;exact ⟨_,rfl,by decide,fun q hq=>aZ.read (l:=[0,bit true]) k DA s1 hq⟩
 ·exists h0;exact ⟨d,S,D,rfl,DC,k⟩
 ·have yb:H nb=some (.lst [.int i,.int j]):=yb;exists h0,yb,oF,oe;exact ⟨d,S,D,i,j,rfl,DC,rfl,rfl,k⟩
 ·have yb:H nb=some (.lst [.int i,.int j]):=yb;exists h0,yb,oF,oe;exact ⟨d,S,D,i,j,rfl,DC,rfl,rfl,k⟩
 ·have yb:H nb=some (.lst [.int i,.int j]):=yb;exists h0,yb,oF,oe;exact ⟨d,S,D,i,j,rfl,DC,rfl,rfl,k⟩
 ·have yb:H nb=some (.lst [.int i,.int j]):=yb;exists h0,yb,oF,oe;exact ⟨d,S,D,i,j,rfl,DC,rfl,rfl,k⟩
 ·have yb:H nb=some (.lst [.int i]):=yb;exists h0,yb,Nf;exact ⟨d,S,D,i,rfl,DC,rfl,k⟩
 ·omega
 ·omega
 ·omega
 ·omega
 ·omega
 ·omega
theorem wF {α β:Type} (f:α→List β) (c:Nat):∀l:List α, (∀x∈l,(f x).length≤c)→(l.flatMap f).length≤l.length*c
 |[],_=>by simp
 |x::l,h=>by
  rw [List.flatMap_cons,List.length_append,List.length_cons,Nat.add_mul,Nat.one_mul];have h1:=h x List.mem_cons_self;have h2:=wF f c l fun y hy=>h y (List.mem_cons_of_mem _ hy);omega
theorem IL {n:Net} (full:Mt.aP n):(Mt.iY n).length≤10000:=by
 have nm:n.names.length≤12:=full.nm;have nl:n.limits.length≤40:=full.nl;have nt:n.natures.length≤5:=full.nn;unfold Mt.iY;rw [List.length_append,List.length_append];have h1:=wF (fun w=>Mt.d7 [Mt.d9,w]) 100 (n.names.drop 1) fun w hw=>by
  have:=full.names w (List.mem_of_mem_drop hw);simp only [Mt.d7,Mt.d9,List.flatMap_cons,List.flatMap_nil,List.append_nil,List.length_append,List.length_cons,List.length_nil];omega
 have h2:=wF (fun (x:Limit)=>Mt.d7 [Mt.cE,Vblaai.nameAt n x.a,Vblaai.nameAt n x.b,boundText x.least,boundText x.most]) 100 n.limits fun y hy=>by
  have gc:=full.lim y hy;have Qb:=full.J1 y hy;have l1:=full.names _ (List.mem_of_getElem? (eD gc.1));have l2:=full.names _ (List.mem_of_getElem? (eD gc.2.1));exact Nat.le_trans (lZ (a:=Mt.cE) (by decide) l1 l2 (cY Qb.1) (cY Qb.2)) (by decide)
 have h3:=wF (fun (x:Nature)=>Mt.d7 [Mt.bU,Vblaai.nameAt n x.a,Vblaai.nameAt n x.c,boundText (some x.lo),boundText (some x.hi)]) 100 n.natures fun y hy=>by
  have gc:=full.nat y hy;have Qb:=full.vw y hy;have l1:=full.names _ (List.mem_of_getElem? (eD gc.1));have l2:=full.names _ (List.mem_of_getElem? (eD gc.2.1));exact Nat.le_trans (lZ (a:=Mt.bU) (by decide) l1 l2 (cY (by intro q hq;cases hq;omega)) (cY (by intro q hq;cases hq;omega))) (by decide)
 rw [List.length_drop] at h1;have e1:(n.names.length - 1)*100≤1100:=by omega
 have e2:n.limits.length*100≤4000:=by omega
 have e3:n.natures.length*100≤500:=by omega
 omega
theorem GG {n:Net} (full:Mt.aP n):(pS n).length≤1000:=by
 have nm:size n≤12:=full.nm;have:=wF (fun p=>bit (isNature n p)::Vblaai.row (Vblaai.nameAt n p)) 20 (List.range (size n)) fun p hp=>by
  have:=full.names _ (List.mem_of_getElem? (eD (List.mem_range.mp hp)));simp only [Vblaai.row,nums,List.length_cons,List.length_map];omega
 rw [List.length_range] at this;unfold pS;omega
theorem uq {D:Desk} {i j:Int} {f:Nat→Nat→Desk×Vblaai.Ans} (h:∀i j,(f i j).2.length≤20000):(onTwo D i j f).2.length≤20000:=by
 rw [sm];split
 ·exact Nat.le_of_ble_eq_true rfl
 ·exact h _ _
theorem kJ {D:Desk} {f:Nat→Form→Desk×Vblaai.Ans} (h:∀i j,(f i j).2.length≤20000):(onSure D f).2.length≤20000:=by
 unfold onSure;split
 ·exact h _ _
 ·exact Nat.le_of_ble_eq_true rfl
theorem GN (w:W):(0::wRow w).length≤20000:=by
 have:=tV w;simp only [List.length_cons];omega
theorem tU (l:List Nat):(listRow l).length=l.length+1:=by
 unfold listRow;rw [List.length_cons,lO]
theorem N7 {D:Desk} (full:Mt.aP D.net) (hp:∀p,D.play=some p→p.times.length=size D.net) (c:Vblaai.Call):(Vblaai.step D c).2.length≤20000:=by
 cases c with
 |net t =>
  show (match Vblaai.readNet t with
   | .ok n=>({ net:=n },[0])
   | .error e=>(D,[1,(e.1:Int),(e.2:Int)]):Desk×Vblaai.Ans).2.length≤20000
  split<;>exact Nat.le_of_ble_eq_true rfl
 |print =>
  show (0::Vblaai.row (Vblaai.printNet D.net)).length≤20000;have:=IL full;rw [Mt.zS];simp only [Vblaai.row,List.length_cons,lO];omega
 |steps =>
  show (0::(size D.net:Int)::pS D.net).length≤20000;have:=GG full;simp only [List.length_cons];omega
 |weak=>exact Nat.le_of_ble_eq_true rfl
 |sure =>
  show (match reduced D.net with
   |some x=>(D,[0,1,(x.1:Int)])
   |none=>(D,[0,0]):Desk×Vblaai.Ans).2.length≤20000
  split<;>exact Nat.le_of_ble_eq_true rfl
 |bound i j=>exact uq fun i j=>kJ fun _ f=>GN _
 |wait k i =>
  show (if within k 0 ((D.net.natures.length:Int) - 1)=false∨isStep D.net i=false then Vblaai.no D (-1) else onSure D fun _ f=>(D,0::wRow (Vblaai.waitAt f k.toNat i.toNat))).2.length≤20000
  split
  ·exact Nat.le_of_ble_eq_true rfl
  ·exact kJ fun _ f=>GN _
 |far i j =>
  refine uq fun i j=>?_;split
  ·exact Nat.le_of_ble_eq_true rfl
  ·exact GN _
 |tightest i j =>
  refine uq fun i j=>kJ fun _ f=>?_;split
  ·show (if _ then _ else _:Vblaai.Ans).length≤20000
   split<;>exact Nat.le_of_ble_eq_true rfl
  ·exact Nat.le_of_ble_eq_true rfl
 |game h =>
  show (if within h 0 8=false then Vblaai.no D (-1) else if 6<size D.net then Vblaai.no D (-5) else (D,[0,bit (Vblaai.game D.net h.toNat)])).2.length≤20000
  split
  ·exact Nat.le_of_ble_eq_true rfl
  ·split<;>exact Nat.le_of_ble_eq_true rfl
 |begin_ =>
  refine kJ fun _ f=>?_;show (0::listRow (Vblaai.steps f D.net (Vblaai.fresh D.net) 0)).length≤20000;have:=pb (f:=f) full (Vblaai.fresh D.net) 0;rw [List.length_cons,tU];omega
 |tick c =>
  show (onPlay D fun p=>if (c.all (isStep D.net))=false then Vblaai.no D (-1) else onSure D fun _ f=>match Vblaai.tick f D.net p (c.map Int.toNat) with
   |some x=>({ D with play:=some x.1 },0::(x.1.now:Int)::listRow x.2)
   |none=>Vblaai.no D (-6)).2.length≤20000
  unfold onPlay;split
  ·split
   ·exact Nat.le_of_ble_eq_true rfl
   ·refine kJ fun _ f=>?_;split
    ·rename_i x hx;unfold Vblaai.tick at hx;dsimp only at hx;split at hx
     ·cases hx;simp only [List.length_cons,tU];exact Nat.le_trans (Nat.succ_le_succ (Nat.succ_le_succ (Nat.succ_le_succ (pb (f:=f) full _ _)))) (by decide)
     ·cases hx
    ·exact Nat.le_of_ble_eq_true rfl
  ·exact Nat.le_of_ble_eq_true rfl
 |idle m =>
  show (onPlay D fun p=>if within m 1 300=false then Vblaai.no D (-1) else onSure D fun _ f=>let x:=idleFrom f D.net m.toNat p;({ D with play:=some x.1 },0::(x.1.now:Int)::listRow x.2)).2.length≤20000
  unfold onPlay;split
  ·split
   ·exact Nat.le_of_ble_eq_true rfl
   ·refine kJ fun _ f=>?_;have:=Br (f:=f) full m.toNat (by assumption);simp only [List.length_cons,tU];omega
  ·exact Nat.le_of_ble_eq_true rfl
 |state =>
  show (onPlay D fun p=>(D,0::(p.now:Int)::p.times.map Eh)).2.length≤20000;unfold onPlay;split
  ·rename_i p h;have:=hp p h;have:=Ge full;simp only [List.length_cons,List.length_map];omega
  ·exact Nat.le_of_ble_eq_true rfl
 |kept =>
  show (onPlay D fun p=>(D,[0,bit (allDone D.net p.times),bit (Vblaai.keeps D.net p.times)])).2.length≤20000;unfold onPlay
  split<;>exact Nat.le_of_ble_eq_true rfl
 |ifLimit i j w =>
  refine uq fun i j=>?_
  split<;>exact Nat.le_of_ble_eq_true rfl
def hnN:List Int:=[0,0,0,0,0,2,2,2,2,1,0,0,1,0,0,3]
def Z7:List Int:=[1,0,0,0,0,0,0,0,0,0,0,1,0,0,0,0]
theorem JQ {r:List Int} (h:1≤r.length):∃i,r.take 1=[i]:=by
 cases r with
 |nil=>simp at h
 |cons x r=>exact ⟨x,rfl⟩
theorem Bx {r:List Int} (h:2≤r.length):∃i j,r.take 2=[i,j]:=by
 cases r with
 |nil=>simp at h
 |cons x r =>
  obtain ⟨j,e⟩:=JQ (r:=r) (by simp at h;omega);exact ⟨x,j,by rw [List.take_succ_cons,e]⟩
theorem O3 {r:List Int} (h:3≤r.length):∃i j k,r.take 3=[i,j,k]:=by
 cases r with
 |nil=>simp at h
 |cons x r =>
  obtain ⟨j,k,e⟩:=Bx (r:=r) (by simp at h;omega);exact ⟨x,j,k,by rw [List.take_succ_cons,e]⟩
theorem RS {α:Type} {c:Prop} [Decidable c] {a b x:α} (h:(if c then a else b)=x):(c∧a=x)∨(¬c∧b=x):=by
 by_cases e:c
 ·rw [if_pos e] at h;exact .inl ⟨e,h⟩
 ·rw [if_neg e] at h;exact .inr ⟨e,h⟩
inductive tY:Int→Nat→Nat→Prop
 |a0:tY 0 0 1|a1:tY 1 0 0|a2:tY 2 0 0|a3:tY 3 0 0|a4:tY 4 0 0|a5:tY 5 2 0|a6:tY 6 2 0|a7:tY 7 2 0|a8:tY 8 2 0|a9:tY 9 1 0|a10:tY 10 0 0|a11:tY 11 0 1|a12:tY 12 1 0|a13:tY 13 0 0|a14:tY 14 0 0|a15:tY 15 3 0
theorem tZ {p:Int} {n k:Nat} (h:PyVblaai.shape p=some (n,k)):tY p n k:=by
 unfold PyVblaai.shape at h
 iterate 16 (rcases RS h with ⟨rfl,h⟩|⟨-,h⟩;(· cases h;constructor))
 cases h
theorem UH {p:Int} {n k:Nat} (h:PyVblaai.shape p=some (n,k)):iz (hnN.map V.int) p=some (aM n)∧iz (Z7.map V.int) p=some (aM k)∧k≤1:=by
 cases tZ h<;>exact ⟨rfl,rfl,by decide⟩
theorem Oi {p:Int} {n:Nat} {r:List Int} (h:PyVblaai.shape p=some (n,0)) (hn:n≤r.length):vE p (r.take n) [] (VblaaiNeutral.callOf [p::r.take n]):=by
 cases tZ h
 ·exact .a1 rfl rfl
 ·exact .a2 rfl rfl
 ·exact .a3 rfl rfl
 ·exact .a4 rfl rfl
 ·obtain ⟨i,j,e⟩:=Bx hn;rw [e];exact .a5 rfl i j rfl rfl
 ·obtain ⟨i,j,e⟩:=Bx hn;rw [e];exact .a6 rfl i j rfl rfl
 ·obtain ⟨i,j,e⟩:=Bx hn;rw [e];exact .a7 rfl i j rfl rfl
 ·obtain ⟨i,j,e⟩:=Bx hn;rw [e];exact .a8 rfl i j rfl rfl
 ·obtain ⟨i,e⟩:=JQ hn;rw [e];exact .a9 rfl i rfl rfl
 ·exact .a10 rfl rfl
 ·obtain ⟨i,e⟩:=JQ hn;rw [e];exact .a12 rfl i rfl rfl
 ·exact .a13 rfl rfl
 ·exact .a14 rfl rfl
 ·obtain ⟨i,j,l,e⟩:=O3 hn;rw [e];exact .a15 rfl i j l rfl rfl
theorem Oe {p:Int} {n:Nat} {r row:List Int} (h:PyVblaai.shape p=some (n,1)) (ha:VblaaiNeutral.asked1 [p::r.take n,row]=true):vE p (r.take n) row (VblaaiNeutral.callOf [p::r.take n,row]):=by
 cases tZ h
 ·have ha:(decide (row.length≤2000)&&NeutralIO.bytes row)=true:=ha;obtain ⟨h1,h2⟩:=Bool.and_eq_true_iff.mp ha;exact .a0 rfl rfl (of_decide_eq_true h1) h2
 ·have ha:(decide (row.length≤20)&&row.all VblaaiNeutral.whole60)=true:=ha;obtain ⟨h1,h2⟩:=Bool.and_eq_true_iff.mp ha;exact .a11 rfl rfl (of_decide_eq_true h1)
section
variable {X:Cx}
def Vm (K:PySem.W.Frag):R2:=fun x y H Q=>∃p i xs,x=.ref p∧y=.int i∧(kd K H p xs∨n6 K H p xs)∧∃v,iz xs i=some v∧Q v H
theorem OI {K:PySem.W.Frag} {x y:V} {H:Hp} {Q:VK}:Vm K x y H Q=(∃p i xs,x=.ref p∧y=.int i∧(kd K H p xs∨n6 K H p xs)∧∃v,iz xs i=some v∧Q v H):=rfl
theorem W2:Ln X (Vm X.K):=N4.imp fun x y H Q z1=>(by obtain ⟨p,i,xs,e1,e2,h,v,e,q⟩:=z1;exact h.elim (fun h=>.inl ⟨p,xs,i,v,e1,e2,h,e,q⟩) fun h=>.inr (.inl ⟨p,xs,i,v,e1,e2,h,e,q⟩))
def Rr (K:PySem.W.Frag):List V→Hp→VK→Prop:=fun vs H Q=>∃p ys,vs=[.ref p]∧(kd K H p ys∨n6 K H p ys)∧Q (.int ys.length) H
theorem QK {K:PySem.W.Frag} {vs:List V} {H:Hp} {Q:VK}:Rr K vs H Q=(∃p ys,vs=[.ref p]∧(kd K H p ys∨n6 K H p ys)∧Q (.int ys.length) H):=rfl
theorem W5:jI X (.builtin "len") (Rr X.K):=qO
end
def AR (K:PySem.W.Frag) (H:Hp) (S:List Addr) (a:Addr) (xs:List V):Prop:=(Rd H a (.lst xs)∧a∉S)∨∀H',kd K H' a xs
theorem AR.sq {H:Hp} {S:List Addr} {a:Addr} {xs:List V} (h:AR K H S a xs):kd K H a xs:=h.elim (fun h=>.inl h.1) fun h=>h H
theorem Rd.some {H:Hp} {a:Addr} {u:HO} (h:Rd H a u):∃o,H a=.some o:=h.elim (fun h=>⟨_,h⟩) fun ⟨_,h⟩=>⟨_,h⟩
theorem Rd.keep {H H':Hp} {S:List Addr} {a:Addr} {u:HO} (h:Rd H a u) (k:aO S H H') (n:a∉S):Rd H' a u:=h.elim (fun h=>.inl (k _ _ h n)) fun ⟨o,h⟩=>.inr ⟨o,k _ _ h n⟩
theorem AR.keep {H H':Hp} {S S':List Addr} {a:Addr} {xs:List V} (h:AR K H S a xs) (k:aO S H H') (g:∀q∈S',q∈S∨H q=none):AR K H' S' a xs:=by
 rcases h with ⟨h,n⟩|h
 ·refine .inl ⟨Rd.keep h k n,fun z=>?_⟩;rcases g a z with z|z
  ·exact n z
  ·obtain ⟨o,e⟩:=Rd.some h;rw [z] at e
   cases e
 ·exact .inr h
theorem AR.start {H:Hp} {a:Addr} {xs:List V} (h:kd K H a xs):AR K H [] a xs:=by
 rcases h with h|h
 ·exact .inl ⟨h,by simp⟩
 ·exact .inr fun H'=>.inr h
theorem MG (x:List Int) (l:List (List Int)):PyFlat.told (x::l)=((x.length:Int)::x)++PyFlat.told l:=rfl
theorem Hs (D:Desk) (c:List (List Int)) (cs:List (List (List Int))):PyFlat.played VblaaiNeutral.step D (c::cs)=(Vblaai.step D (VblaaiNeutral.callOf c)).2::PyFlat.played VblaaiNeutral.step (Vblaai.step D (VblaaiNeutral.callOf c)).1 cs:=rfl
def NJ (o:HO):Prop:=∀od l,o≠ .sg od (.lst l)
def Ir (H H':Hp):Prop:=∀b o,H b=some o→NJ o→H' b=some o
theorem zf (l:List V):NJ (.lst l):=fun _ _ z=>by cases z
theorem RE (l:List V):NJ (.tup l):=fun _ _ z=>by cases z
theorem Sd (o:Obj) (l:List V):NJ (.sg o (.tup l)):=fun _ _ z=>by cases z
theorem wa (C dx:Addr) (fs:List (Str×V)):NJ (.ins C dx fs):=fun _ _ z=>by cases z
section
variable {T:Txt K mg} {H H':Hp}
theorem dr.uR {a:Addr} {n:Net} (h:dr T H a n) (k:Ir H H'):dr T H' a n:=by
 obtain ⟨dx,an,al,at',ns,ls,ts,N⟩:=h;refine ⟨dx,an,al,at',ns,ls,ts,k _ _ N.obj (wa _ _ _),k _ _ N.AW (zf _),k _ _ N.Jt (zf _),k _ _ N.vA (zf _),N.pn.mono fun v x r=>?_,N.pl.mono fun v x r=>?_,N.pt.mono fun v x r=>?_⟩
 ·obtain ⟨b,e,r⟩:=r;refine ⟨b,e,?_⟩;rcases r with (r|⟨o,r⟩)|r
  ·exact .inl (.inl (k _ _ r (RE _)))
  ·exact .inl (.inr ⟨o,k _ _ r (Sd _ _)⟩)
  ·exact .inr r
 ·obtain ⟨b,dx,e,r⟩:=r;exact ⟨b,dx,e,k _ _ r (wa _ _ _)⟩
 ·obtain ⟨b,dx,e,r⟩:=r;exact ⟨b,dx,e,k _ _ r (wa _ _ _)⟩
theorem Rows.uR {a:Addr} {as:List Addr} {t:List (List V)} (h:Rows H a as t) (k:Ir H H'):Rows H' a as t:=⟨k _ _ h.lst (zf _),h.len,fun i b r e1 e2=>k _ _ (h.row i b r e1 e2) (zf _),h.na,h.nd⟩
theorem fw.uR {v:V} {f:Form} (h:fw T H v f) (k:Ir H H'):fw T H' v f:=by
 obtain ⟨a,dx,ab,abs,aw,Aj,e,h1,h2,h3⟩:=h;exact ⟨a,dx,ab,abs,aw,Aj,e,k _ _ h1 (wa _ _ _),Rows.uR h2 k,Rows.uR h3 k⟩
theorem iO.uR {v:V} {r:Option (Nat×Form)} (h:iO T H v r) (k:Ir H H'):iO T H' v r:=by
 obtain ⟨a,dx,fv,e,h1,h2,h3⟩:=h;refine ⟨a,dx,fv,e,h1,k _ _ h2 (wa _ _ _),?_⟩
 cases r with
 |none=>exact h3
 |some x=>exact ⟨h3.1.uR k,h3.2⟩
theorem uk {H0:Hp} {t:Addr} {od:Obj} {l:List V} (s:ax H0 H) (h:H t=some (.sg od (.lst l))):Ir H0 (qW H0 t):=fun b o e nf=>by
 unfold qW;rw [if_neg (fun z=>by
  subst z;rw [s _ _ e] at h
  cases h;exact nf _ _ rfl)]
 exact e
theorem IK {H0:Hp} {t:Addr} (s:ax H0 H):ax (qW H0 t) (qW H t):=fun b o e=>by
 unfold qW at e ⊢;by_cases c:b=t
 ·rw [if_pos c] at e
  cases e
 ·rw [if_neg c] at e ⊢;exact s _ _ e
theorem xj {t q:Addr} (h:H q=none):qW H t q=none:=by
 unfold qW;split
 ·rfl
 ·exact h
theorem G1 {t:Addr}:qW H t t=none:=if_pos rfl
theorem GC {t q:Addr} (h:q≠t):qW H t q=H q:=if_neg h
theorem LN {t:Addr} {o:HO}:qW (upd H t o) t=qW H t:=funext fun q=>by
 by_cases c:q=t
 ·rw [c,G1,G1]
 ·rw [GC c,GC c,aF c]
theorem tJ.unlock {a dx an:Addr} {fv:V} {at':Addr} {n:Net} {f:Form} {p:Play} {t:Addr} {od:Obj} {l:List V} (h:tJ T H a dx an fv at' n f p) (ht:H t=some (.sg od (.lst l))):tJ T (qW H t) a dx an fv at' n f p:=by
 have kF:=uk (ax.refl H) ht;obtain ⟨H0,s0,h1,h2,h3,h4⟩:=h.r.ex;have k0:=uk s0 ht;exact ⟨⟨kF _ _ h.r.obj (wa _ _ _),kF _ _ h.r.tm (zf _),h.r.full,h.r.n8,h.r.len,h.r.zero,⟨qW H0 t,IK s0,xj h1,xj h2,h3.uR k0,h4.uR k0⟩⟩,h.ok⟩
theorem dB.unlock {d t:Addr} {S:List Addr} {D:Desk} {od:Obj} {l:List V} (h:dB T H d S D) (ht:H t=some (.sg od (.lst l))):dB T (qW H t) d S D:=by
 obtain ⟨dx,an,jv,pl,h⟩:=h;have kF:=uk (ax.refl H) ht;obtain ⟨H0,s0,h1,h2,h3⟩:=h.ex;have k0:=uk s0 ht;refine ⟨dx,an,jv,pl,kF _ _ h.obj (wa _ _ _),h.full,⟨qW H0 t,IK s0,fun q hq=>xj (h1 q hq),h2.uR k0,h3.imp_right fun z=>z.uR k0⟩,?_⟩;have hp:=h.play
 cases c:D.play with
 |none =>
  rw [c] at hp;exact hp
 |some p =>
  rw [c] at hp;obtain ⟨a,Bw,fv,at',k,f,e1,e2,e3,e4,e5,e6,C⟩:=hp;exact ⟨a,Bw,fv,at',k,f,e1,e2,e3,e4,e5,e6,C.unlock ht⟩
theorem dB.QY {d:Addr} {S:List Addr} {D:Desk} (h:dB T H d S D) (s:ax H H'):dB T H' d S D:=by
 obtain ⟨dx,an,jv,pl,h⟩:=h;exact ⟨dx,an,jv,pl,h.same s⟩
theorem dB.some {d:Addr} {S:List Addr} {D:Desk} (h:dB T H d S D):∀q∈S,H q≠none:=by
 obtain ⟨dx,an,jv,pl,h⟩:=h;exact h.some
theorem dB.obj {d:Addr} {S:List Addr} {D:Desk} (h:dB T H d S D):∃dx x0 x1 x2,H d=.some (.ins T.aL.C dx (bx x0 x1 x2)):=by
 obtain ⟨dx,an,jv,pl,h⟩:=h;exact ⟨_,_,_,_,h.obj⟩
theorem dB.len {d:Addr} {S:List Addr} {D:Desk} (h:dB T H d S D) (c:Vblaai.Call):(Vblaai.step D c).2.length≤20000:=by
 obtain ⟨dx,an,jv,pl,h⟩:=h;refine N7 h.full (fun p e=>?_) c;have hp:=h.play;rw [e] at hp;obtain ⟨a,Bw,fv,at',k,f,e1,e2,e3,e4,e5,e6,C⟩:=hp;exact C.r.len
end
theorem Lu {l:List Int} {pl:Nat} {p:Int} {r:List Int} (h:l.drop pl=p::r):iz (bh l) (pl:Int)=some (.int p):=by
 have h1:l[pl]?=some p:=by
  have:=congrArg (fun z=>z[0]?) h;simpa using this
 have h2:pl<l.length:=(List.getElem?_eq_some_iff.mp h1).1;refine at_of (j:=pl) rfl ?_;unfold bh;rw [List.getElem?_map,h1];rfl
theorem Bp {l:List Int} {pl n:Nat} {p:Int} {r:List Int} (h:l.drop pl=p::r) (hn:n≤r.length):xG (bh l) (some ((pl+1:Nat):Int)) (some ((pl+1+n:Nat):Int))=bh (r.take n):=by
 have hl:l.length - pl=r.length+1:=by rw [←List.length_drop,h];rfl
 rw [Qd _ (by omega) (by rw [cK];omega)];have e:l.drop (pl+1)=r:=by
  rw [←List.drop_drop,h];rfl
 unfold bh;rw [←List.map_drop,e, ←List.map_take]
 congr 2
 omega
def Xg (K:PySem.W.Frag):Sp:=m7 fun x H Q=>∃a l,x=.ref a∧kd K H a (bh l)∧PyVblaai.answers_asked l=true∧∀b H',H' b=some (.lst (bh (PyVblaai.answers l)))→Q (.ref b) H'
def JU (_:Txt K mg):Sp:=Xg K
theorem Ky (T:Txt K mg):aU P w K mg base cI 34 T.m8.f T.m8.fd ["calls"] (JU T):=by
 refine T.m8.fn.n4 dJ fun bJ A outer s H x Q E hr h=>?_;obtain ⟨a,l,rfl,hA,hask,k⟩:=h;refine ⟨_,(ae (aN (i:=1) dJ.nd rfl (Or.inl rfl) (wL T.aL.Fy (F3 T) ‹hr› rfl T.aL.g T.aL.b .nil aB)) (ae (aN (i:=2) dJ.nd rfl (Or.inl rfl) (a9 ag)) (ae (aN (i:=3) dJ.nd rfl (Or.inl rfl) aI) (ae (xu PassesOwn.never (aE oo (pv 3) (bc W5 rfl T.eM eJ (aa (pv 0) ag)) (aG _)) (ae (aN (i:=4) dJ.nd rfl (Or.inl rfl) (aR W2 (pv 0) (pv 3) (fun _ _=>rfl))) (ae (aN (i:=5) dJ.nd rfl (Or.inl rfl) (cG fY (cG fY (pv 3) aI) (aR W2 (kT T.nN) (pv 4) (fun _ _=>rfl)))) (ae (aN (i:=6) dJ.nd rfl (Or.inl rfl) (xr Gn (pv 0) (uC (cG fY (pv 3) aI)) (uC (pv 5)))) (ae (aN (i:=7) dJ.nd rfl (Or.inl rfl) (a9 ag)) (ae (aN (i:=3) dJ.nd rfl (Or.inl rfl) (pv 5)) (ae (aY (aE eF (aR W2 (kT T.rE) (pv 4) (fun _ _=>rfl)) aI (aG _)) (ae (aN (i:=5) dJ.nd rfl (Or.inl rfl) (cG fY (cG fY (pv 3) aI) (aR W2 (pv 0) (pv 3) (fun _ _=>rfl)))) (ae (aN (i:=7) dJ.nd rfl (Or.inl rfl) (xr Gn (pv 0) (uC (cG fY (pv 3) aI)) (uC (pv 5)))) (ah (aN (i:=3) dJ.nd rfl (Or.inl rfl) (pv 5))))) aJ) (ae (aN (i:=8) dJ.nd rfl (Or.inl rfl) (Qy<|a8 (pv 1) T.aL.cl T.jd.m (BM T) ‹hr› T.jd.b .nil aB (aa (pv 4) (aa (pv 6) (aa (pv 7) ag))))) (ae (b8 (d6 PySem.F.slot_list_append PySem.F.type_list_append dw (pv 2) (aa (bc nY rfl T.eM eJ (aa (pv 8) ag)) ag))) (ah (b8 (d6 PySem.F.slot_list_extend PySem.F.type_list_extend uj (pv 2) (aa (pv 8) ag))))))))))))) (ah (au (pv 2))))))),?_⟩;obtain ⟨Zf,Tg,Z3,Ya⟩:∃cs,PyVblaai.calls l=some cs∧cs.length≤400∧cs.all VblaaiNeutral.asked1=true:=by
  unfold PyVblaai.answers_asked at hask
  cases c:PyVblaai.calls l with
  |none=>rw [c] at hask;cases hask
  |some cs =>
   rw [c] at hask;obtain ⟨h1,h2⟩:=Bool.and_eq_true_iff.mp hask;exact ⟨cs,rfl,of_decide_eq_true h1,(Bool.and_eq_true_iff.mp h2).1⟩
 have Yi:PyFlat.told (PyFlat.played VblaaiNeutral.step {} Zf)=PyVblaai.answers l:=by
  unfold PyVblaai.answers;rw [Tg];rfl
 rw [Mt.O2] at Tg;right;intro d dd hd hdd lP;refine ⟨d,dd,rfl,aA,fun H1 k1 D1=>⟨rfl,?_⟩⟩;have s1:=cF hd hdd k1;refine ⟨by decide,fun t ht=>?_⟩;obtain ⟨H2,Aw,s2,h2⟩:=dQ ht (.lst []);rw [Aw];have D2:dB T (qW H2 t) d [d] {}:=D1.QY fun b o e=>by rw [GC (aC e ht)];exact s2 _ _ e
 have A2:AR K H2 [t,d] a (bh l):=(AR.start hA).keep (aO.of_same (s1.trans s2)) fun q hq=>by
  simp at hq;rcases hq with rfl|rfl
  ·exact .inr (s1.free ht)
  ·exact .inr hd
 refine Fq (fun m σ H'=>∃pl out S D cs f v4 v5 v6 v7 v8,σ=[some (.ref a),some (.ref d),some (.ref t),some (aM pl),v4,v5,v6,v7,v8]∧m=l.length - pl∧pl≤l.length∧dB T (qW H' t) d S D∧H' t=some (.lst (bh out))∧AR K H' (t::S) a (bh l)∧PyFlat.calls PyVblaai.shape f (l.drop pl)=some cs∧cs.all VblaaiNeutral.asked1=true∧out++PyFlat.told (PyFlat.played VblaaiNeutral.step D cs)=PyVblaai.answers l∧out.length+cs.length*20001≤20001*400)
  ⟨0,[],[d],{},Zf,_,none,none,none,none,none,rfl,rfl,Nat.zero_le _,D2,h2,A2,Tg,Ya,Yi,by simp only [List.length_nil];omega⟩ ?_
 intro m σ H3 N kk z1 kN hk;obtain ⟨pl,out,S,D,cs,f,v4,v5,v6,v7,v8,rfl,rfl,Js,D3,h3,A3,Q0,mH,Uy,hlen⟩:=z1;have q3:=A3.sq;exists QK;refine ⟨_,.inl q3,hk _ _ ?_⟩;rw [cK];by_cases c:pl<l.length
 ·rw [if_pos (decide_eq_true (by omega))];obtain ⟨p,r,er⟩:∃p r,l.drop pl=p::r:=by
   cases e:l.drop pl with
   |nil =>
    have:=congrArg List.length e;rw [List.length_drop,List.length_nil] at this;omega
   |cons p r=>exact ⟨p,r,rfl⟩
  rw [er] at Q0;obtain ⟨n,kR,Xq,hn,xs,tl,QZ,f',RL,V1,rfl⟩:=Mt.MC Q0;obtain ⟨a1,a2,hk1⟩:=UH Xq;exists OI;refine ⟨_,.inl q3,_,Lu er,?_⟩;exists OI;refine ⟨_,.inr (T.nN.sq (by decide)),_,a1,?_⟩;have tS:t∉S:=fun z=>D3.some t z G1;have lk:∀(H4:Hp) (nb rb:Addr) (v3 v5 v8:Option V) (ns rw:List Int) (c:Vblaai.Call) (Q':VK),ax H3 H4→H4 nb=some (.lst (bh ns))→H4 rb=some (.lst (bh rw))→H3 nb=none→H3 rb=none→vE p ns rw c →
    (∀b H5 S',H5 t=some (.lst (bh out))→b≠t→H5 b=some (.lst (bh (Vblaai.step D c).2))→dB T (qW H5 t) d S' (Vblaai.step D c).1→AR K H5 (t::S') a (bh l)→Q' (.ref b) H5) →
    O1 (IH T.aL.C "answer" (sX T) [] E0 (yC 1) (Ap (yC 4) (Ap (yC 6) (Ap (yC 7) KP)))) [some (.ref a),some (.ref d),some (.ref t),v3,some (.int p),v5,some (.ref nb),some (.ref rb),v8] H4 Q':=by
   intro H4 nb rb v3 v5 v8 ns rw c Q' s4 yb MZ nnb ZE hc kQ;refine ⟨t,.lst (bh out),s4 _ _ h3,trivial,fun od=>?_⟩;have ntb:nb≠t:=(aC h3 nnb).symm;have rtb:rb≠t:=(aC h3 ZE).symm;have D4:dB T (upd H4 t (.sg od (.lst (bh out)))) d S D:=D3.QY fun b o e=>by
    have nb:b≠t:=fun z=>by rw [z,G1] at e;cases e
    rw [GC nb] at e;rw [aF nb];exact s4 _ _ e
   obtain ⟨dx,x0,x1,x2,NM⟩:=D4.obj;exists NM;refine ⟨d,S,D,p,nb,ns,rb,rw,c,rfl,D4,rfl,rfl,by rw [aF ntb];exact yb,rfl,by rw [aF rtb];exact MZ,fun z=>D3.some rb z (xj ZE),hc,?_⟩;intro b H5 S' hb k5 hS5 D5 h5;have YH:H5 t=some (.sg od (.lst (bh out))):=k5 _ _ aA tS;have WK:b≠t:=(aC aA hb).symm;refine ⟨YH,kQ b _ S' aA WK (by rw [aF WK];exact h5) (by rw [LN];exact D5.unlock YH) (A3.keep (fun q o e nq=>?_) fun q hq=>?_)⟩
   ·simp at nq;rw [aF nq.1];exact k5 _ _ (by rw [aF nq.1];exact s4 _ _ e) nq.2
   ·rcases List.mem_cons.mp hq with rfl|hq
    ·exact .inl List.mem_cons_self
    ·rcases hS5 q hq with z|z
     ·exact .inl (List.mem_cons_of_mem _ z)
     ·refine .inr (s4.free ?_)
      rwa [aF (fun y=>by rw [y,aA] at z;cases z)] at z
  have hl0:=D3.len (VblaaiNeutral.callOf ((p::r.take n)::xs));rw [List.length_cons] at hlen;have tail:∀(b:Addr) (H6:Hp) (S':List Addr) (RU:Nat) (v5 v6 v7:Option V) (MS:List Int),MS=(Vblaai.step D (VblaaiNeutral.callOf ((p::r.take n)::xs))).2→pl<RU→RU≤l.length→PyFlat.calls PyVblaai.shape f' (l.drop RU)=some RL→dB T (qW H6 t) d S' (Vblaai.step D (VblaaiNeutral.callOf ((p::r.take n)::xs))).1→AR K H6 (t::S') a (bh l) →
    (bh out).length<sizeLine∧(bh out++[V.int ((bh MS).length:Nat)]).length+(bh MS).length≤sizeLine∧N [some (.ref a),some (.ref d),some (.ref t),some (aM RU),some (.int p),v5,v6,v7,some (.ref b)] (upd (upd H6 t (.lst (bh out++[V.int ((bh MS).length:Nat)]))) t (.lst (bh out++[V.int ((bh MS).length:Nat)]++bh MS))):=by
   intro b H6 S' RU v5 v6 v7 MS ea h1 h2 Uo h4 h5;rw [←ea] at hl0;have ei:bh out++[V.int ((bh MS).length:Nat)]++bh MS=bh (out++((MS.length:Int)::MS)):=by
    rw [cK];unfold bh;rw [List.map_append,List.map_cons,List.append_assoc];rfl
   rw [ei,fC];refine ⟨?_,?_,kN (l.length - RU) _ _ (by omega) ⟨RU,out++((MS.length:Int)::MS),S',_,RL,f',_,v5,v6,v7,_,rfl,rfl,h2,by rw [LN];exact h4,aA,h5.keep (aO.upd List.mem_cons_self) fun q hq=>.inl hq,Uo,(Bool.and_eq_true_iff.mp mH).2,?_,?_⟩⟩
   ·rw [cK];exact Nat.lt_of_lt_of_le (show _<20001*400 by omega) (by decide)
   ·rw [List.length_append,cK,cK,List.length_singleton];exact Nat.le_trans (show _≤20001*400 by omega) (by decide)
   ·rw [←Uy,Hs,MG, ←ea,List.append_assoc]
   ·rw [List.length_append,List.length_cons];omega
  have e1:(pl:Int)+1=((pl+1:Nat):Int):=by omega
  have e2:((pl+1:Nat):Int)+(n:Int)=((pl+1+n:Nat):Int):=by omega
  exists OI;refine ⟨bh l,q3,fun nb yb=>⟨by decide,fun rb MZ=>?_⟩⟩;rw [e1,e2,Bp er hn];rw [e1,e2,Bp er hn] at MZ;obtain ⟨H4,Qr,s4,h4⟩:=dQ yb (.lst (bh (r.take n)));rw [Qr] at MZ ⊢;obtain ⟨H5,Hb,s5,h5⟩:=dQ MZ (.lst []);rw [Hb];refine ⟨_,.inr (T.rE.sq (by decide)),_,a2,rfl,?_⟩;have hl1:l.length - pl=r.length+1:=by rw [←List.length_drop,er];rfl
  have hle:pl+1+n≤l.length:=by omega
  have Ue:l.drop (pl+1+n)=r.drop n:=by rw [←List.drop_drop, ←List.drop_drop (i:=1),er];rfl
  rcases Nat.lt_or_ge kR 1 with c0|c0
  ·have:kR=0:=by omega
   subst this;obtain ⟨rfl,rfl⟩:=Mt.EG QZ;rw [if_neg (by intro z;cases z)];refine lk H5 nb rb _ _ _ _ [] _ _ (s4.trans s5) (s5 _ _ h4) h5 yb (s4.free MZ) (Oi Xq hn) fun b H6 S' g1 g2 g3 g4 g5=>?_;obtain ⟨t1,t2,t3⟩:=tail b H6 S' (pl+1+n) _ _ _ _ rfl (by omega) hle (by rw [Ue];exact V1) g4 g5;right;refine ⟨⟨_,g1⟩,?_⟩;exists g3,g1;refine ⟨t1,?_⟩;exists aF g2,g3;exact ⟨t2,t3⟩
  ·have:kR=1:=by omega
   subst this;obtain ⟨m,r',er',hm,rfl,rfl⟩:=Mt.Nr QZ;rw [er'] at Ue;rw [if_pos (show aM 1=V.int 1 from rfl)]
   have q5:=ax.seq (s4.trans s5) q3;have WJ:l.length - (pl+1+n)=r'.length+1:=by rw [←List.length_drop,Ue];rfl
   refine ⟨_,.inl q5,_,Lu Ue,?_⟩;exists OI;refine ⟨_,q5,fun rb2 U2=>?_⟩;have e3:((pl+1+n:Nat):Int)+1=((pl+1+n+1:Nat):Int):=by omega
   have e4:((pl+1+n+1:Nat):Int)+(m:Int)=((pl+1+n+1+m:Nat):Int):=by omega
   rw [e3,e4,Bp Ue hm];obtain ⟨H7,S9,s7,h7⟩:=dQ U2 (.lst (bh (r'.take m)));rw [S9];have s37:=(s4.trans s5).trans s7;refine lk H7 nb rb2 _ _ _ _ _ _ _ s37 (s7 _ _ (s5 _ _ h4)) h7 yb ((s4.trans s5).free U2) (Oe Xq (Bool.and_eq_true_iff.mp mH).1) fun b H6 S' g1 g2 g3 g4 g5=>?_;obtain ⟨t1,t2,t3⟩:=tail b H6 S' (pl+1+n+1+m) _ _ _ _ rfl (by omega) (by omega) (by rw [show l.drop (pl+1+n+1+m)=r'.drop m by rw [←List.drop_drop, ←List.drop_drop (i:=1),Ue];rfl];exact V1) g4 g5;right;refine ⟨⟨_,g1⟩,?_⟩;exists g3,g1;refine ⟨t1,?_⟩;exists aF g2,g3;exact ⟨t2,t3⟩
 ·rw [if_neg (by rw [decide_eq_false (by omega)];exact Bool.false_ne_true)];have e:l.drop pl=[]:=List.drop_of_length_le (by omega);rw [e,Mt.OB] at Q0
  cases Q0;right;refine k t H3 ?_;rw [h3, ←Uy];exact congrArg (fun z=>some (HO.lst (bh z))) (List.append_nil out).symm
end Rp
namespace Rp
open PySem PySem.Spec PyProof.Rows L2 Pg
section
variable {K:PySem.W.Frag} {mg:Str→Option Value}
abbrev Ta {h:Heap} {x qual:Str} {st:Stmt} {ps:List Str} {f:Addr} {oc kV doc pm bJ ct:Value} {od an:Option Addr} {Ho:Array (Option Value)} (X:K.In h) (G:h.Ns mainGlobals mg) (g:PySem.W.nsIn K mainGlobals x=some (some (.ref f)))
  (l:K.lookup f=some ⟨oc,od,.func (PySem.W.fnOf x qual (lp st) (gj st) (aq st) .none kV doc pm an bJ ct),Ho⟩) (c:PySem.W.codeIn K bJ qual=true) (k:PySem.W.keepIn K (.ref f)=true)
  (b:∀(kV doc pm:Value) (an:Option Addr) (bJ ct:Value) (us:List Value),us.length=ps.length→bindArgs (PySem.W.fnOf x qual (lp st) (gj st) (aq st) .none kV doc pm an bJ ct) ⟨us,[]⟩=pure (ps.zip us)):Def K mg x qual st ps :=
 ⟨f,_,zE l c k,(zE l c k).binds b,PySem.W.mg_of X G g⟩
abbrev Qw {C:Addr} {x qual:Str} {st:Stmt} {ps:List Str} {f:Addr} {oc kV doc pm bJ ct:Value} {od an:Option Addr} {Ho:Array (Option Value)} (g:PySem.W.findIn K (.ref C) x=some (some (.ref f))) (i:PySem.W.isFn K (.ref f)=true)
  (l:K.lookup f=some ⟨oc,od,.func (PySem.W.fnOf x qual (lp st) (gj st) (aq st) .none kV doc pm an bJ ct),Ho⟩) (c:PySem.W.codeIn K bJ qual=true) (k:PySem.W.keepIn K (.ref f)=true)
  (b:∀(kV doc pm:Value) (an:Option Addr) (bJ ct:Value) (us:List Value),us.length=ps.length→bindArgs (PySem.W.fnOf x qual (lp st) (gj st) (aq st) .none kV doc pm an bJ ct) ⟨us,[]⟩=pure (ps.zip us)):fh K C x qual st ps :=
 ⟨f,_,zE l c k,(zE l c k).binds b,⟨g,i,k⟩⟩
abbrev F0 {h:Heap} {C:Addr} {x qual:Str} {st:Stmt} {ps:List Str} {f:Addr} {oc kV doc pm bJ ct:Value} {od an:Option Addr} {Ho:Array (Option Value)} (X:K.In h) (G:h.Ns mainGlobals mg) (g:PySem.W.nsIn K mainGlobals x=some (some (.ref C)))
  (pg:PySem.W.plainGet K C Str.empty=true) (hd:PySem.W.hasDictIn K C=true) (po:PySem.W.plainOver K C=true) (sa:PySem.W.findIn K (.ref C) "__setattr__"=some (some (.builtin "object.__setattr__"))) (mk:PySem.W.makesIn K C=true) (kc:PySem.W.keepIn K (.ref C)=true)
  (g2:PySem.W.findIn K (.ref C) "__init__"=some (some (.ref f))) (i:PySem.W.isFn K (.ref f)=true)
  (l:K.lookup f=some ⟨oc,od,.func (PySem.W.fnOf "__init__" qual (lp st) (gj st) (aq st) .none kV doc pm an bJ ct),Ho⟩) (c:PySem.W.codeIn K bJ qual=true) (k:PySem.W.keepIn K (.ref f)=true)
  (b:∀(kV doc pm:Value) (an:Option Addr) (bJ ct:Value) (us:List Value),us.length=ps.length→bindArgs (PySem.W.fnOf "__init__" qual (lp st) (gj st) (aq st) .none kV doc pm an bJ ct) ⟨us,[]⟩=pure (ps.zip us)):Di K mg x qual st ps :=
 ⟨C,⟨pg,hd,po,sa⟩,PySem.W.mg_of X G g,f,_,zE l c k,(zE l c k).binds b,⟨mk,g2,i,kc⟩⟩
abbrev Ph {h:Heap} {x:Str} {ns:List Int} {a:Addr} {od:Option Addr} {bI:Array Value} {n:Nat} {Ho:Array (Option Value)} (X:K.In h) (G:h.Ns mainGlobals mg) (g:PySem.W.nsIn K mainGlobals x=some (some (.ref a)))
  (l:K.lookup a=some ⟨.type "tuple",od,.seq bI n,Ho⟩) (v:IntsAre bI.toList ns):CS K mg x ns :=
 ⟨a,PySem.W.mg_of X G g,_,bI,n,l,rfl,rfl,v⟩
theorem Sz {h:Heap} {x:Str} {z:Int} {v:Value} (X:K.In h) (G:h.Ns mainGlobals mg) (g:PySem.W.nsIn K mainGlobals x=some (some v)) (e:∃t,v=.int z t):∃t,mg x=some (.int z t):=by
 obtain ⟨t,rfl⟩:=e;exact ⟨t,PySem.W.mg_of X G g⟩
theorem Tz {P:Program} {w:World} {fa:Addr} (hfa:mg "answers"=some (.ref fa)) (T:Txt K mg) :
  ∃fd:FuncData,(∀(s:Shared) (us:List Value),us.length=(["calls"]:List Str).length→BindsTo s fd ⟨us,[]⟩ ((["calls"]:List Str).zip us))∧∀base:Heap,K.In base→base.Ns mainGlobals mg→aU P w K mg base cI 34 fa fd ["calls"] (Xg K):=by
 have e:=hfa.symm.trans T.m8.g
 cases e;obtain ⟨oc,od,kV,doc,pm,an,bJ,ct,Ho,e,_,_⟩:=T.m8.fn.ex;refine ⟨T.m8.fd,fun s us hu=>?_,fun base _ _=>Ky T⟩;rw [e]
 match us,hu with
 |[_],_=>exact .of_eq rfl
end
end Rp
namespace PySem.W.Fast
theorem t:True:=⟨⟩
theorem tw2922372639588279186:True:=t
theorem tw3728983443140618633:True:=t
theorem tw3825374486561341461:True:=t
theorem tw14640812245075128895:True:=t
theorem tw6369242253922379384:True:=t
theorem tw10911187224357385892:True:=t
theorem tw1606603247573174945:True:=t
theorem tw15659881430732964918:True:=t
theorem tw2161376877511212912:True:=t
theorem tw3468017493814263810:True:=t
theorem tw402039863084512857:True:=t
theorem tw10306963424175506460:True:=t
theorem tw13372579701732835501:True:=t
theorem tw17684771635421391066:True:=t
theorem tw7224796980282749341:True:=t
theorem tw6848172925243168307:True:=t
theorem tw11958925289806935802:True:=t
theorem tw6882749960000140736:True:=t
theorem tw4322690867942957769:True:=t
theorem tw8313967269057709825:True:=t
theorem tw10716451228977990046:True:=t
theorem tw1031452228772422444:True:=t
theorem tw15852304479597799727:True:=t
theorem tw5787779185910381587:True:=t
theorem tw10458928319628308907:True:=t
theorem tw17882831471906795727:True:=t
theorem tw3437285809470000022:True:=t
theorem tw8163700144131590859:True:=t
theorem tw5568943942730931020:True:=t
theorem tw16706603698729025711:True:=t
theorem tw15543376348786640942:True:=t
theorem tw11228780303849875761:True:=t
theorem tw10813787995524192946:True:=t
theorem tw9954516285041027283:True:=t
theorem tw7494300842366273491:True:=t
theorem tw14349174363552574925:True:=t
theorem tw1283119180340346882:True:=t
theorem tw11047775143110559899:True:=t
theorem tw5503449043977161402:True:=t
theorem tw15745734883637402930:True:=t
theorem tw17684945260274104478:True:=t
theorem tw5714123198137828476:True:=t
theorem tw16412174301885811746:True:=t
theorem tw12211741783722040572:True:=t
theorem tw9916985312313767044:True:=t
theorem tw9219131594957345330:True:=t
theorem tw13828277065471014564:True:=t
theorem tw3955445883395951191:True:=t
theorem tw5691279430992845441:True:=t
theorem tw4589371270787644178:True:=t
theorem tw11774860570602674987:True:=t
theorem tw1510534491303984842:True:=t
theorem tw13165373080788214476:True:=t
theorem tw11942044509614265558:True:=t
theorem tw12709199317013249373:True:=t
theorem tw10600474563694543428:True:=t
theorem tw18399317525949466504:True:=t
theorem tw12148117857292895853:True:=t
theorem tw14216868591513464910:True:=t
theorem tw5729885479397207658:True:=t
theorem tw6817364998652383683:True:=t
theorem tw16693424806189385880:True:=t
theorem tw1701789299007166665:True:=t
theorem tw15330368798480648837:True:=t
theorem tw13491861210155631872:True:=t
theorem tw1356725068973754759:True:=t
theorem tw2926727294063103645:True:=t
theorem tw10973086632046351672:True:=t
theorem tw4852816748785731500:True:=t
theorem tw4921301369424345770:True:=t
theorem tw12432389134472094321:True:=t
theorem tw12447860624718421623:True:=t
theorem tw13110816195722457545:True:=t
theorem tw7927804358098902622:True:=t
theorem tw1069059577094434084:True:=t
theorem tw2506102374350159884:True:=t
theorem tw12015599410479408338:True:=t
theorem tw15384878270259817825:True:=t
theorem tw8474419990322208106:True:=t
theorem tw1996566943552028301:True:=t
theorem tw5705755279598492748:True:=t
theorem tw212997202572060059:True:=t
theorem tw412341147164399107:True:=t
theorem tw4591554613253593057:True:=t
theorem tw9034996655285375060:True:=t
theorem tw18036731347028462117:True:=t
theorem tw3744387875145863291:True:=t
theorem tw5194748546875698632:True:=t
theorem tw11249969393849709032:True:=t
theorem tw8630658586394483120:True:=t
theorem tw15268598157821767832:True:=t
theorem tw8450361422325816658:True:=t
theorem tw8085961820711092081:True:=t
theorem tw662645706660281005:True:=t
theorem tw5102380578795913366:True:=t
theorem tw3377276198798278872:True:=t
theorem tw4369316952833413088:True:=t
theorem tw4576899022338651288:True:=t
theorem tw2885168587053855603:True:=t
theorem tw7547982128464579470:True:=t
theorem tw4112157330177423148:True:=t
theorem tw1824284014934312049:True:=t
theorem tw11816503672515751828:True:=t
theorem tw4967787989157527418:True:=t
theorem tw6971074055437582499:True:=t
theorem tw17969831305715707783:True:=t
theorem tw16347890227302966:True:=t
theorem tw11275720930711260399:True:=t
theorem tw4071899972905590723:True:=t
theorem tw2361806244841301475:True:=t
theorem tw15505693885147520075:True:=t
theorem tw13120014327171658760:True:=t
theorem tw6108427018654512188:True:=t
theorem tw18429219064405414234:True:=t
theorem tw10804584308139702015:True:=t
theorem tw10712459926117494876:True:=t
theorem tw8124132607521507018:True:=t
theorem tw12852308721108984479:True:=t
theorem tw2746965891271309244:True:=t
theorem tw13559107783597881326:True:=t
theorem tw16958187652990266022:True:=t
theorem tw16200155123699814541:True:=t
theorem tw1854235648128337795:True:=t
theorem tw17853831961650165279:True:=t
theorem tw1494116115210356435:True:=t
theorem tw2536714085785733640:True:=t
theorem tw16107374766328477626:True:=t
theorem tw11602150723471182273:True:=t
theorem tw3152327560956640473:True:=t
theorem tw16513951544728748446:True:=t
theorem tw9906232455847478201:True:=t
theorem tw4941262373509931282:True:=t
theorem tw4685518648150544983:True:=t
theorem tw9409112801713714988:True:=t
theorem tw9807612615557050909:True:=t
theorem tw2782319736185973768:True:=t
theorem tw12056602951743057758:True:=t
theorem tw7852256316814686027:True:=t
theorem tw10962262579989500523:True:=t
theorem tw7188772510462519008:True:=t
theorem tw4514908446520660650:True:=t
theorem tw16515036236409676418:True:=t
theorem tw6935566304939307451:True:=t
theorem tw13079034477946791899:True:=t
theorem tw788949268087281178:True:=t
theorem tw13395319627159675853:True:=t
theorem tw406609064971252276:True:=t
theorem tw3610490421716400436:True:=t
theorem tw13338386036816066866:True:=t
theorem tw4793521714667766625:True:=t
theorem tw4154784079179652729:True:=t
theorem tw12688415339630898645:True:=t
theorem tw4667648470346059209:True:=t
theorem tw2548808130099615373:True:=t
theorem tw50249635860599334:True:=t
theorem tw1684378720320224578:True:=t
theorem tw2845225086126260391:True:=t
theorem tw9421539615153873870:True:=t
theorem tw15916310375792853987:True:=t
theorem tw13036868300170732115:True:=t
theorem tw9242210414222057148:True:=t
theorem tw10544724777698307149:True:=t
theorem tw7404441096352314142:True:=t
theorem tw12959552677849154607:True:=t
theorem tw1900474905613818307:True:=t
theorem tw9396820992794829860:True:=t
theorem tw14100700460211459897:True:=t
theorem tw17039740182129854333:True:=t
theorem tw7185823927613358458:True:=t
theorem tw7307223240825911712:True:=t
theorem tw17638443694164534473:True:=t
theorem tw4506048275139841636:True:=t
theorem tw314076647226615740:True:=t
theorem tw11968930861947033167:True:=t
theorem tw5901095473961716021:True:=t
theorem tw6934600333648826098:True:=t
theorem tw8003542122503213836:True:=t
theorem tw1143045509017646353:True:=t
theorem tw13624064793313632645:True:=t
theorem tw1598108831803278834:True:=t
theorem tw16507697194886593941:True:=t
theorem tw10820957406169219265:True:=t
theorem tw12562283862775831433:True:=t
theorem tw1341426453739325886:True:=t
theorem tw8681122326446856592:True:=t
theorem tw424904984929770444:True:=t
theorem tw13555345072629437665:True:=t
theorem tw11507255838965542093:True:=t
theorem tw4212551944773208569:True:=t
theorem tw15223539209345275089:True:=t
theorem tw4148590769876516545:True:=t
theorem tw8313861670520818461:True:=t
theorem tw447521251591965050:True:=t
theorem tw6150516983216932739:True:=t
theorem tw4918263907406548225:True:=t
theorem tw4046785035987403039:True:=t
theorem tw7828092558162924117:True:=t
theorem tw12289504517994443035:True:=t
theorem tw14430086964754147954:True:=t
theorem tw12061097705854238432:True:=t
theorem tw12517883242739207713:True:=t
theorem tw14402939273887284525:True:=t
theorem tw2097213971844503007:True:=t
theorem tw10768047012558839801:True:=t
theorem tw10345620954655313338:True:=t
theorem tw7067511535689141446:True:=t
theorem tw9602712840489594306:True:=t
theorem tw5765210189453506787:True:=t
theorem tw8966679793694343197:True:=t
theorem tw8257122323895390860:True:=t
theorem tw3486872099853344448:True:=t
theorem tw13207597115198637271:True:=t
theorem tw7908117845937311587:True:=t
theorem tw10446673066650451320:True:=t
theorem tw12902849887167226216:True:=t
theorem tw14413528888081887643:True:=t
theorem tw7579756375828588606:True:=t
theorem tw17131684614293937632:True:=t
theorem tw3688675348705088871:True:=t
theorem tw10477725258910540536:True:=t
theorem tw17183411056440806630:True:=t
theorem tw2154751279484450373:True:=t
theorem tw10995534584242396491:True:=t
theorem tw7123160053159293269:True:=t
theorem tw8544148214983951868:True:=t
theorem tw13750201673389681873:True:=t
theorem tw7621753756165648420:True:=t
theorem tw2171654522082223525:True:=t
theorem tw7276382287559026897:True:=t
theorem tw12009437130711405516:True:=t
theorem tw1310211434310342257:True:=t
theorem tw18018180891046568145:True:=t
theorem tw12316208474733984397:True:=t
theorem tw7833865365882581632:True:=t
theorem tw11443853269165691759:True:=t
theorem tw15076030310366913239:True:=t
theorem tw10467465471169089620:True:=t
theorem tw6910109743164699333:True:=t
theorem tw16338379258622266484:True:=t
theorem tw9422654463832304133:True:=t
theorem tw1816189182438386456:True:=t
theorem tw2805222104807074301:True:=t
theorem tw8394756528984991762:True:=t
theorem tw14847745912861543347:True:=t
theorem tw8869136768105479372:True:=t
theorem tw8891244826753609968:True:=t
theorem tw8187627198855433812:True:=t
theorem tw17698514377262895660:True:=t
theorem tw4218542789133837488:True:=t
theorem tw11630511746014263704:True:=t
theorem tw10852765402076335626:True:=t
theorem tw14562536795512478557:True:=t
theorem tw9072233361706233215:True:=t
theorem tw14802716116963731636:True:=t
theorem tw5637720166425602342:True:=t
theorem tw14560958621535618601:True:=t
theorem tw12751822896033680869:True:=t
theorem tw1100387482624484166:True:=t
theorem tw11862131860348666640:True:=t
theorem tw4990587599848527914:True:=t
theorem tw11822540881106431109:True:=t
theorem tw485565816178237689:True:=t
theorem tw2667867158282311976:True:=t
theorem tw2907707514529706372:True:=t
theorem tw12888714962741462474:True:=t
theorem tw3307485848704372534:True:=t
theorem tw1725699586276570385:True:=t
theorem tw46597440529011398:True:=t
theorem tw18331751772329106820:True:=t
theorem tw17334880482853339307:True:=t
theorem tw15441547641588737499:True:=t
theorem tw5582021737351191562:True:=t
theorem tw17883842803437924599:True:=t
theorem tw6416242143006783492:True:=t
theorem tw3073787090444249809:True:=t
theorem tw14204993009981530643:True:=t
theorem tw9583669060090978126:True:=t
theorem tw17809570733823700663:True:=t
theorem tw7402713264752437535:True:=t
theorem tw674871348786128231:True:=t
theorem tw15368420709822966229:True:=t
theorem tw3054662134030617387:True:=t
theorem tw810064438349868345:True:=t
theorem tw4255622719671992453:True:=t
theorem tw10402912971906994739:True:=t
theorem tw13851877776130559716:True:=t
theorem tw2043946617374026763:True:=t
theorem tw14797005794733629798:True:=t
theorem tw11903980105578339064:True:=t
theorem tw8846534071736502234:True:=t
theorem tw5216082533557947136:True:=t
theorem tw5753714994543171315:True:=t
theorem tw16498095418689674357:True:=t
theorem tw12806589061390877556:True:=t
theorem tw1522549689000948502:True:=t
theorem tw7646539896249481370:True:=t
theorem tw9739940490102539104:True:=t
theorem tw6220452803591936149:True:=t
theorem tw13663649944309869682:True:=t
theorem tw687098369079896234:True:=t
theorem tw12998193078349186507:True:=t
theorem tw15472349630332198301:True:=t
theorem tw13013600637059839857:True:=t
theorem tw1247044708501011477:True:=t
theorem tw2327120119374535813:True:=t
theorem tw13757250848680194315:True:=t
theorem tw9634370291881428562:True:=t
theorem tw2921303316517074110:True:=t
theorem tw27491694456219690:True:=t
theorem tw14361960940823477644:True:=t
theorem tw1867902707270336930:True:=t
end PySem.W.Fast
open PySem PySem.W PyProof.Rows
set_option maxRecDepth 100000 in
set_option maxHeartbeats 0 in
theorem PySem.Challenge.cw_steptimes_s01_answers_holds : PySem.Challenge.rw_steptimes_s01_answers.Holds := by
  have ws := L2.Nu
  w_on; k_headS; (case hw => exact ⟨[.list [.int 1]], by decide +kernel, by decide +kernel⟩)
  k_fillS
  refine L2.J5 (r := PySem.Challenge.rw_steptimes_s01_answers) (k := 34) (CX := L2.cI) (ps := ["calls"]) (sp := Rp.Xg) L2.Nu rfl rfl ⟨rfl, by decide, by decide⟩ (fun w h Y => PySem.W.kIn_of Y) ?F ?S (fun _ _ _ _ z => z)
  case F =>
    intro w mg fa h Y KX G hmg
    refine' Rp.Tz hmg ⟨?_,?_,?_,?_,?_,?_,?_,?_,?_,?_,?_,?_,?_,?_,?_,?_,?_,?_,?_,?_,?_,?_,?_,?_,?_,?_,?_,?_,?_,?_,?_,?_,?_,?_,?_,?_,?_,?_,?_,?_,?_,?_,?_,?_,?_,?_,?_,?_,?_,?_,?_,?_,?_,?_,?_,?_,?_,?_,?_,?_,?_,?_,?_,?_,?_,?_,?_,?_,?_,?_,?_,?_,?_,?_,?_,?_,?_,?_,?_,?_,?_,?_,?_,?_,?_,?_,?_,?_,?_,?_,?_,?_,?_,?_,?_,?_,?_,?_,?_,?_,?_,?_,?_,?_,?_,?_,?_,?_,?_,?_,?_,?_,?_,?_,?_,?_,?_,?_,?_,?_,?_,?_,?_,?_,?_,?_,?_,?_,?_,?_,?_,?_,?_,?_,?_,?_,?_,?_,?_,?_,?_,?_,?_,?_,?_,?_,?_,?_,?_,?_,?_,?_,?_,?_,?_,?_,?_,?_,?_,?_,?_,?_,?_,?_,?_,?_,?_,?_,?_,?_,?_,?_,?_,?_,?_,?_,?_,?_,?_,?_,?_,?_,?_,?_,?_,?_,?_,?_,?_,?_,?_,?_,?_,?_,?_,?_,?_,?_,?_,?_,?_,?_,?_,?_,?_,?_,?_,?_,?_,?_⟩
    all_goals first
      | (refine' PySem.W.mg_none_of KX G ?g; (case g => as_aux_lemma => k_is))
      | (refine' Rp.Sz KX G ?g ?e; (case g => as_aux_lemma => k_is); (case e => exact ⟨_, rfl⟩))
      | (refine' Rp.Ph KX G ?g ?l ?v; (case g => as_aux_lemma => k_is); (case l => as_aux_lemma => k_is); (case v => repeat' constructor))
      | (refine' Rp.Ta KX G ?g ?l ?c ?k ?b; (case g => as_aux_lemma => k_is); (case l => as_aux_lemma => k_is); (case c => as_aux_lemma => k_is); (case k => as_aux_lemma => k_is); (case b => as_aux_lemma => intro _ _ _ _ _ _ us hl; rcases us with _ | ⟨_, _ | ⟨_, _ | ⟨_, _ | ⟨_, _ | ⟨_, _ | _⟩⟩⟩⟩⟩ <;> first | rfl | exact absurd hl (by simp)))
      | (refine' Rp.F0 KX G ?g ?pg ?hd ?po ?sa ?mk ?kc ?g2 ?i ?l ?c ?k ?b; (case g => as_aux_lemma => k_is); (case pg => as_aux_lemma => k_is); (case hd => as_aux_lemma => k_is); (case po => as_aux_lemma => k_is); (case sa => as_aux_lemma => k_is); (case mk => as_aux_lemma => k_is); (case kc => as_aux_lemma => k_is); (case g2 => as_aux_lemma => k_is); (case i => as_aux_lemma => k_is); (case l => as_aux_lemma => k_is); (case c => as_aux_lemma => k_is); (case k => as_aux_lemma => k_is); (case b => as_aux_lemma => intro _ _ _ _ _ _ us hl; rcases us with _ | ⟨_, _ | ⟨_, _ | ⟨_, _ | ⟨_, _ | ⟨_, _ | _⟩⟩⟩⟩⟩ <;> first | rfl | exact absurd hl (by simp)))
      | ((try dsimp only [Rp.F0]); refine' Rp.Qw ?g ?i ?l ?c ?k ?b; (case g => as_aux_lemma => k_is); (case i => as_aux_lemma => k_is); (case l => as_aux_lemma => k_is); (case c => as_aux_lemma => k_is); (case k => as_aux_lemma => k_is); (case b => as_aux_lemma => intro _ _ _ _ _ _ us hl; rcases us with _ | ⟨_, _ | ⟨_, _ | ⟨_, _ | ⟨_, _ | ⟨_, _ | _⟩⟩⟩⟩⟩ <;> first | rfl | exact absurd hl (by simp)))
      | ((try dsimp only [Rp.F0]); unfold L2.b7; as_aux_lemma => k_is)
  case S =>
    intro K H xs a hO hwi hask hx
    cases hx with
    | cons h1 h2 =>
      cases h2
      cases h1 with
      | lst hs ha =>
        have e := L2.Lp a.1 _ ha
        subst e
        exact ⟨_, a.1, rfl, hs, hask, fun b H' hp =>.lst (L2.kd.of hp) (L2.LF _)⟩

