/- Texts of the proof, put together: AltRen, AppIn. -/
import Derived.Test.YtckhafpejefbbaaGreatDoorB22
import Derived.Maps.AppendAt
import Derived.RangeFuncBox
import Derived.OwnWalkIn
import Derived.Test.YtckhafpejefbbaaGreatDoorB17
import Derived.Test.YtckhafpejefbbaaGreatDoorB13

set_option maxRecDepth 100000
set_option maxHeartbeats 4000000
namespace Go.Proofs.YtckhafpejefbbaaGreatDoor
open Go.RowKit
theorem zx3 {w:World} {hi:Nat} {t:Tw.T} {tv:Value} {LN:List TN} {s name:ByteArray} {a:Int} {x:TN} (hn:NDL w hi t tv LN) (hnear:∀x∈LN,x.t.near) (hit:hitL a LN=some x) (hnm:name.size<=300) (hbad:Tw.isNm name.data.toList=false) :
  Calls Tryz.prog 39 #[.string s,tv,.int .i64 a,.string name] w fun e w'=>e = .returned (.tuple #[.string ⟨#[]⟩,.int .i64 7])/\w.grownBy w' none:=by
 obtain ⟨TX,nx,hxv⟩:=(hn.rep.2 x (List.mem_of_find?_eq_some hit)).iface
 obtain ⟨T0,n0,rfl⟩:=hn.iface
 go_enter Tryz.func39,Tryz.ntmps39
 go_wp2_with fail
 have n0:=zad w (.cells #[.string name] 9)
 have G0:w.grownBy (w.alloc (.cells #[.string name] 9)) none:=zwA _ _ none
 refine (zek (hn.kp (Kp.of_grown G0)) hnear a).mono ?_
 rintro e1 w1 ⟨rfl,hg1⟩
 rw [hit]
 have n1:=zbG hg1 n0
 have c1:=(zag n1).1
 have G1:=bV (zaa G0 hg1)
 simp only [zny,hxv]
 clear G0 hg1 n0 n1
 go_wp2_with fail
 refine (zme name w1 hnm).mono ?_
 rintro e1 w2 ⟨rfl,rfl⟩
 rw [hbad]
 go_wp2_with fail
 go_ret2
 go_light
 exact ⟨rfl,G1.out⟩
theorem zve {w:World} {hi:Nat} {t:Tw.T} {tv:Value} {LN:List TN} {s name:ByteArray} {a:Int} {x:TN} {A:Addr} (hn:NDL w hi t tv LN) (hnear:∀x∈LN,x.t.near) (hit:hitL a LN=some x) (hA:x.bind=some A) (hnm:name.size<=300) (hgood:Tw.isNm name.data.toList=true) (hc:name.data.toList≠x.t.bname/\x.t.captN name.data.toList) :
  Calls Tryz.prog 39 #[.string s,tv,.int .i64 a,.string name] w fun e w'=>e = .returned (.tuple #[.string ⟨#[]⟩,.int .i64 8])/\w.grownBy w' none:=by
 have hxr:=hn.rep.2 x (List.mem_of_find?_eq_some hit)
 obtain ⟨TX,nx,hxv⟩:=hxr.iface
 obtain ⟨T0,n0,rfl⟩:=hn.iface
 go_enter Tryz.func39,Tryz.ntmps39
 go_wp2_with fail
 have n0:=zad w (.cells #[.string name] 9)
 have G0:w.grownBy (w.alloc (.cells #[.string name] 9)) none:=zwA _ _ none
 refine (zek (hn.kp (Kp.of_grown G0)) hnear a).mono ?_
 rintro e1 w1 ⟨rfl,hg1⟩
 rw [hit]
 have n1:=zbG hg1 n0
 have c1:=(zag n1).1
 have G1:=bV (zaa G0 hg1)
 have HX:=bV (ziz (hxr.kp (Kp.of_grown (uh G1))) hA name.data.toList)
 rw [show ug name.data.toList = .string name from rfl] at HX
 have HXV:=bV hxv
 simp only [zny,hxv] at HX ⊢
 clear G0 hg1 n0 n1 hxv
 go_wp2_with fail
 refine (zme name w1 hnm).mono ?_
 rintro e1 w2 ⟨rfl,rfl⟩
 rw [hgood]
 go_wp2_with fail
 refine (uh HX).mono ?_
 rintro e1 w2 ⟨⟨cb,rfl,hcb⟩,hg2⟩
 obtain rfl:cb=true:=hcb.2 hc
 have G2:=bV (zaa (uh G1) hg2)
 clear hg2 HX G1
 go_wp2_with fail
 go_ret2
 go_light
 exact ⟨rfl,G2.out⟩
open Go.RowKit
section
variable (l : Nat) (ρ : Operand -> Value) (d : Option Tmp) (ty : TypeId) (p : String) (af : Array Edge) (g : Option (Nat × Bool))
theorem ztn (t:TypeId) (x:Operand):Oper.semAt (some l) ρ {dst:=d,op:=.load t x,type:=ty,pos:=p,after:=af,guard:=g}=execOp ρ {dst:=d,op:=.load t x,type:=ty,pos:=p,after:=af,guard:=g}:=rfl
theorem zq0 (t:TypeId) (x y:Operand):Oper.semAt (some l) ρ {dst:=d,op:=.store t x y,type:=ty,pos:=p,after:=af,guard:=g}=execOp ρ {dst:=d,op:=.store t x y,type:=ty,pos:=p,after:=af,guard:=g}:=rfl
theorem zto (x:Operand):Oper.semAt (some l) ρ {dst:=d,op:=.move x,type:=ty,pos:=p,after:=af,guard:=g}=execOp ρ {dst:=d,op:=.move x,type:=ty,pos:=p,after:=af,guard:=g}:=rfl
theorem zx4 (x:Operand):Oper.semAt (some l) ρ {dst:=d,op:=.nilCheck x,type:=ty,pos:=p,after:=af,guard:=g}=execOp ρ {dst:=d,op:=.nilCheck x,type:=ty,pos:=p,after:=af,guard:=g}:=rfl
theorem zq1 (t:TypeId) (x:Operand) (i:Nat):Oper.semAt (some l) ρ {dst:=d,op:=.fieldAddr t x i,type:=ty,pos:=p,after:=af,guard:=g}=execOp ρ {dst:=d,op:=.fieldAddr t x i,type:=ty,pos:=p,after:=af,guard:=g}:=rfl
theorem zq2 (t:TypeId) (x:Array (Nat×Operand)):Oper.semAt (some l) ρ {dst:=d,op:=.build t x,type:=ty,pos:=p,after:=af,guard:=g}=execOp ρ {dst:=d,op:=.build t x,type:=ty,pos:=p,after:=af,guard:=g}:=rfl
theorem zq3 (t:TypeId) (n:Nat) (x:Array (Nat×Operand)):Oper.semAt (some l) ρ {dst:=d,op:=.buildSlice t n x,type:=ty,pos:=p,after:=af,guard:=g}=execOp ρ {dst:=d,op:=.buildSlice t n x,type:=ty,pos:=p,after:=af,guard:=g}:=rfl
end
theorem zlx {F:Fence} {l n:Nat} {P:Program} (w:World) {o:Oper} {a:Act} {K:Act->World->Prop} {Q:Exit->Act->World->Prop}
  (s x:Operand) (t:TypeId) (hop:o.op=Op.call {callee:=Callee.builtin Builtin.append,args:=#[s,x],argTypes:=#[t,t]})
  (base:Nat) (e:TypeId) (i:TypeInfo) (z:Value) (size bytes:Nat) (h1:P.underlying t=some (.slice e)) (h2:P.info? e=some i) (h3:i.zero=some z) (h4:i.size=size) (h5:i.bytes=bytes) (h6:z.cells.size=size) (h7:0<size)
  (v:Value) (k:Nat) (xs:List Value) (hs:a.eval s=v) (hown:w.ownsRow base e size v k xs) (ad:Addr) (m c:Nat) (news:List Value) (hx:a.eval x = .slice (some ad) m c) (hn:news.length=m * size)
  (hc:∀j u,news[j]? = some u->w.cell? (ad.add j)=some u) (h1c:∀u∈news,u.oneCell'=true) (b1:k+m<=maxLen) (b2:(k+m) * bytes<=140737488355328) (b3:base<=w.heap.size)
  (hK:∀v' w',w'.ownsRow base e size v' (k+m) (xs++news)->w.grownBy w' v.ownBlock->K (a.put o.dst v') w') :
  Oper.uponIn F n P o a K Q (Sem.run P (Oper.semAt (some l) a.eval o) w):=by
 obtain ⟨v',w',hrun,r1,r2,_⟩:=run_append_own (P:=P) w base t o.type e i z size bytes h1 h2 h3 h4 h5 h6 h7 v k xs hown ad m c news hn hc h1c b1 b2 b3
 rw [Oper.semAt_some l _ _ (by rw [hop]; intro c hc'; cases hc')]
 simp [execOp,hop,resolve,invoke,builtin,hs,hx,hrun,Result.andThen]
 exact hK _ _ r1 r2
theorem zel {X w1:World} {n₀ B:Nat} {t e:TypeId} {size:Nat} {v v':Value} {k:Nat} {xs:List Value} {tmp:Obj} (hv:Boxed X B t v) (hrow:X.ownsRow n₀ e size v k xs) (hgrow:(X.alloc tmp).grownBy w1 v.ownBlock) (h1:zh9.contains t=false) (h2:zh9.contains e=false):Kp X (w1.setCell ⟨B,0,none⟩ v'):=by
 intro j c u m hj hu
 have hb:B≠j:=by
  rintro rfl
  have:X.heap[B]? = _:=hv
  rw [hj] at this
  cases this
  rw [h1] at hu
  cases hu
 have hlt:=(zgE.1 hj).1
 rw [Below.heap_setCell _ _ _ _ hb.symm]
 rw [hgrow.block j (by simp; omega) ?_]
 ·exact (Below.heap_alloc _ _ _ hlt).trans hj
 ·intro e1
  rcases hrow.2 with ⟨rfl,_⟩ | ⟨g,cap,cur,rfl,_,hg,_⟩
  ·cases e1
  ·cases e1
   rw [hj] at hg
   cases hg
   rw [h2] at hu
   cases hu
end Go.Proofs.YtckhafpejefbbaaGreatDoor 
