import Derived.Test.YtckhafpejefbbaaGreatDoorB20

set_option maxRecDepth 100000
set_option maxHeartbeats 4000000
namespace Go.Proofs.YtckhafpejefbbaaGreatDoor
section
open Go.RowKit
section
section
variable (l:Nat)(ρ:Operand -> Value)(d:Option Tmp)(ty:TypeId)(p:String)(af:Array Edge)(g:Option (Nat × Bool))
theorem zk5(t:TypeId)(x:Operand):Oper.semAt (some l) ρ {dst:=d,op:=.load t x,type:=ty,pos:=p,after:=af,guard:=g}=execOp ρ {dst:=d,op:=.load t x,type:=ty,pos:=p,after:=af,guard:=g}:=rfl
theorem zgi(t:TypeId)(x y:Operand):Oper.semAt (some l) ρ {dst:=d,op:=.store t x y,type:=ty,pos:=p,after:=af,guard:=g}=execOp ρ {dst:=d,op:=.store t x y,type:=ty,pos:=p,after:=af,guard:=g}:=rfl
theorem zk6(x:Operand):Oper.semAt (some l) ρ {dst:=d,op:=.move x,type:=ty,pos:=p,after:=af,guard:=g}=execOp ρ {dst:=d,op:=.move x,type:=ty,pos:=p,after:=af,guard:=g}:=rfl
theorem zp4(x:Operand):Oper.semAt (some l) ρ {dst:=d,op:=.nilCheck x,type:=ty,pos:=p,after:=af,guard:=g}=execOp ρ {dst:=d,op:=.nilCheck x,type:=ty,pos:=p,after:=af,guard:=g}:=rfl
theorem zgj(t:TypeId)(x:Operand)(i:Nat):Oper.semAt (some l) ρ {dst:=d,op:=.fieldAddr t x i,type:=ty,pos:=p,after:=af,guard:=g}=execOp ρ {dst:=d,op:=.fieldAddr t x i,type:=ty,pos:=p,after:=af,guard:=g}:=rfl
theorem zgk(t:TypeId)(x:Array (Nat×Operand)):Oper.semAt (some l) ρ {dst:=d,op:=.build t x,type:=ty,pos:=p,after:=af,guard:=g}=execOp ρ {dst:=d,op:=.build t x,type:=ty,pos:=p,after:=af,guard:=g}:=rfl
theorem zgl(t:TypeId)(n:Nat)(x:Array (Nat×Operand)):Oper.semAt (some l) ρ {dst:=d,op:=.buildSlice t n x,type:=ty,pos:=p,after:=af,guard:=g}=execOp ρ {dst:=d,op:=.buildSlice t n x,type:=ty,pos:=p,after:=af,guard:=g}:=rfl
end
theorem zce{F:Fence}{l n:Nat}{P:Program}(w:World){o:Oper}{a:Act}{K:Act->World->Prop}{Q:Exit->Act->World->Prop}
  (s x:Operand) (t:TypeId) (y:o.op=Op.call {callee:=Callee.builtin Builtin.append,args:=#[s,x],argTypes:=#[t,t]})
  (base:Nat) (e:TypeId) (i:TypeInfo) (z:Value) (size h:Nat) (D:P.underlying t=some (.slice e)) (G:P.info? e=some i) (H:i.zero=some z) (I:i.size=size) (J:i.bytes=h) (L:z.cells.size=size) (M:0<size)
  (v:Value) (k:Nat) (r:List Value) (U:a.eval s=v) (S:w.ownsRow base e size v k r) (f:Addr) (m c:Nat) (b:List Value) (V:a.eval x=.slice (some f) m c) (R:b.length=m*size)
  (N:∀j u,b[j]?=some u->w.cell? (f.add j)=some u) (E:∀u∈b,u.oneCell'=true) (A:k+m<=maxLen) (B:(k+m)*h<=140737488355328) (C:base<=w.heap.size)
  (hK:∀q w',w'.ownsRow base e size q (k+m) (r++b)->w.grownBy w' v.ownBlock->K (a.put o.dst q) w') :
  Oper.uponIn F n P o a K Q (Sem.run P (Oper.semAt (some l) a.eval o) w):=by
 obtain⟨q,w',T,W,X,_⟩:=run_append_own (P:=P) w base t o.type e i z size h D G H I J L M v k r S f m c b R N E A B C;rw[Oper.semAt_some l _ _ (by rw[y];intro c O;cases O)];simp[execOp,y,resolve,invoke,builtin,U,V,T,Result.andThen];exact hK _ _ W X
theorem Sl{X i:World}{w B:Nat}{t e:TypeId}{size:Nat}{v y:Value}{k:Nat}{z:List Value}{x:Obj}(hv:Boxed X B t v)(s:X.ownsRow w e size v k z)(q:(X.alloc x).grownBy i v.ownBlock)(m:Su.contains t=false)(n:Su.contains e=false):Kp X (i.setCell (aD B 0) y):=by
 intro j c E D a b;have o:B≠j:=by
  rintro rfl;have:X.heap[B]?=_:=hv;rw[a]at this;cases this;rw[m]at b;cases b
 have r:=(zgE.1 a).1;rw[Below.heap_setCell _ _ _ _ o.symm];rw[q.block j (by simp;omega) ?_]
 ·exact(Below.heap_alloc _ _ _ r).trans a
 ·intro f;rcases s.2 with⟨rfl,_⟩|⟨g,A,C,rfl,_,h,_⟩
  ·cases f
  ·cases f;rw[a]at h;cases h;rw[n]at b;cases b
end
end
end Go.Proofs.YtckhafpejefbbaaGreatDoor
