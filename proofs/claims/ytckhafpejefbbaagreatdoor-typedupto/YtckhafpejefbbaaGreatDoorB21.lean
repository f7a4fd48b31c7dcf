import Derived.Test.YtckhafpejefbbaaGreatDoorB20
import Derived.Maps.AppendAt
import Derived.RangeFuncBox

set_option maxRecDepth 100000
set_option maxHeartbeats 4000000
namespace Go.Proofs.YtckhafpejefbbaaGreatDoor
section
open Go.RowKit
section
variable (l:Nat)(ρ:Operand -> Value)(d:Option Tmp)(ty:TypeId)(p:String)(af:Array Edge)(g:Option (Nat × Bool))
theorem zfe(t:TypeId)(x:Operand):Oper.semAt (some l) ρ {dst:=d,op:=.load t x,type:=ty,pos:=p,after:=af,guard:=g}=execOp ρ {dst:=d,op:=.load t x,type:=ty,pos:=p,after:=af,guard:=g}:=rfl
theorem zbo(t:TypeId)(x y:Operand):Oper.semAt (some l) ρ {dst:=d,op:=.store t x y,type:=ty,pos:=p,after:=af,guard:=g}=execOp ρ {dst:=d,op:=.store t x y,type:=ty,pos:=p,after:=af,guard:=g}:=rfl
theorem zff(x:Operand):Oper.semAt (some l) ρ {dst:=d,op:=.move x,type:=ty,pos:=p,after:=af,guard:=g}=execOp ρ {dst:=d,op:=.move x,type:=ty,pos:=p,after:=af,guard:=g}:=rfl
theorem zjn(x:Operand):Oper.semAt (some l) ρ {dst:=d,op:=.nilCheck x,type:=ty,pos:=p,after:=af,guard:=g}=execOp ρ {dst:=d,op:=.nilCheck x,type:=ty,pos:=p,after:=af,guard:=g}:=rfl
theorem zbp(t:TypeId)(x:Operand)(i:Nat):Oper.semAt (some l) ρ {dst:=d,op:=.fieldAddr t x i,type:=ty,pos:=p,after:=af,guard:=g}=execOp ρ {dst:=d,op:=.fieldAddr t x i,type:=ty,pos:=p,after:=af,guard:=g}:=rfl
theorem zbq(t:TypeId)(x:Array (Nat×Operand)):Oper.semAt (some l) ρ {dst:=d,op:=.build t x,type:=ty,pos:=p,after:=af,guard:=g}=execOp ρ {dst:=d,op:=.build t x,type:=ty,pos:=p,after:=af,guard:=g}:=rfl
theorem zbr(t:TypeId)(n:Nat)(x:Array (Nat×Operand)):Oper.semAt (some l) ρ {dst:=d,op:=.buildSlice t n x,type:=ty,pos:=p,after:=af,guard:=g}=execOp ρ {dst:=d,op:=.buildSlice t n x,type:=ty,pos:=p,after:=af,guard:=g}:=rfl
end
theorem Xy{F:Fence}{l n:Nat}{P:Program}(w:World){o:Oper}{a:Act}{K:Act->World->Prop}{Q:Exit->Act->World->Prop}
  (s x:Operand) (t:TypeId) (A:o.op=Op.call {callee:=Callee.builtin Builtin.append,args:=#[s,x],argTypes:=#[t,t]})
  (base:Nat) (e:TypeId) (i:TypeInfo) (z:Value) (size q:Nat) (E:P.underlying t=some (.slice e)) (H:P.info? e=some i) (I:i.zero=some z) (J:i.size=size) (L:i.bytes=q) (M:z.cells.size=size) (N:0<size)
  (v:Value) (k:Nat) (y:List Value) (V:a.eval s=v) (T:w.ownsRow base e size v k y) (h:Addr) (m c:Nat) (b:List Value) (W:a.eval x=.slice (some h) m c) (S:b.length=m*size)
  (O:∀j u,b[j]?=some u->w.cell? (h.add j)=some u) (G:∀u∈b,u.oneCell'=true) (B:k+m<=maxLen) (C:(k+m)*q<=140737488355328) (D:base<=w.heap.size)
  (hK:∀r f,f.ownsRow base e size r (k+m) (y++b)->w.grownBy f v.ownBlock->K (a.put o.dst r) f) :
  Oper.uponIn F n P o a K Q (Sem.run P (Oper.semAt (some l) a.eval o) w):=by
 obtain⟨r,f,U,X,Y,_⟩:=run_append_own (P:=P) w base t o.type e i z size q E H I J L M N v k y T h m c b S O G B C D;rw[Oper.semAt_some l _ _ (by rw[A];intro c R;cases R)];simp[execOp,A,resolve,invoke,builtin,V,W,U,Result.andThen];exact hK _ _ X Y
theorem O8{X i:World}{x B:Nat}{t e:TypeId}{size:Nat}{v z:Value}{k:Nat}{A:List Value}{y:Obj}(w:Boxed X B t v)(s:X.ownsRow x e size v k A)(q:(X.alloc y).grownBy i v.ownBlock)(m:Qm.contains t=false)(n:Qm.contains e=false):Kp X (i.setCell (aD B 0) z):=by
 intro j c F E a b;have o:B≠j:=by
  rintro rfl;have:X.heap[B]?=_:=w;rw[a]at this;cases this;rw[m]at b;cases b
 have r:=(zgE.1 a).1;rw[Below.heap_setCell _ _ _ _ o.symm];rw[q.block j (by simp;omega) ?_]
 ·exact(Below.heap_alloc _ _ _ r).trans a
 ·intro f;rcases s.2 with⟨rfl,_⟩|⟨g,C,D,rfl,_,h,_⟩
  ·cases f
  ·cases f;rw[a]at h;cases h;rw[n]at b;cases b
end
end Go.Proofs.YtckhafpejefbbaaGreatDoor
