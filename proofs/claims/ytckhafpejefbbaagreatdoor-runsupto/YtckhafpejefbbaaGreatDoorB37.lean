import Derived.Test.YtckhafpejefbbaaGreatDoorB36

set_option maxRecDepth 100000
set_option maxHeartbeats 16000000
namespace Go.Proofs.YtckhafpejefbbaaGreatDoor
section
open Go.Proofs.Tryz
open Go.ChangeShapes Go.WideShapes Go.ChangeAt Go.RowKit
section
variable{H:Type}
theorem zq7(d:DataW H):1<=Rows.uptoBulk d:=by
 cases d with
 |lit l=>cases l<;>simp[Rows.uptoBulk]
 |_=>simp[Rows.uptoBulk]
theorem zhm{H:Type}:∀l:List (DataW H),l.length<=Rows.uptoBulkAll l
 |[]=>yD _
 |d::l=>by
  have:=zhm l
  have:=zq7 d;simp only[Rows.uptoBulkAll,zB];omega
theorem zoh:∃a b c d:Field,prog.underlying 65=some (.struct #[a,b,c,d])/\(a.type=3/\a.offset=0)/\(b.type=3/\b.offset=1)/\(c.type=3/\c.offset=2)/\d.type=9/\d.offset=3:=
 ⟨_,_,_,_,underlying65,⟨rfl,rfl⟩,⟨rfl,rfl⟩,⟨rfl,rfl⟩,rfl,rfl⟩
theorem zoi:∀ {a:List Value},a.length=4->∃u0 u1 u2 u3,a=[u0,u1,u2,u3]
 |[u0,u1,u2,u3],_=>⟨u0,u1,u2,u3,rfl⟩
theorem zq8{enc:TypeId×Value->H}{w:World}{base:Nat}{spare:Nat->Bool}{held:Bool}{fuel:Nat}{ar:Option Addr}{len cap:Nat}{x:DataW H×List MemPlace}
  (h:DataW.trod enc prog w base spare held fuel 22 [.slice ar len cap]=some x) (hk:Rows.uptoBulk x.1<=1048576):zbn w ar len:=by
 have c4:prog.cellsOf 65=4:=kR;have c1:prog.cellsOf 3=1:=kR;have cs:prog.cellsOf 9=1:=kR;obtain⟨f0,f1,f2,f3,hu,⟨a1,a2⟩,⟨b1,b2⟩,⟨d1,d2⟩,e1,e2⟩:=zoh;rcases DataW.trod_slice underlying22 h with⟨h0,_⟩|⟨a,len',cap',elems,rest,n,_,h1,hx,hb,hl,hm,hlen,hel,_,_⟩
 ·simp at h0;obtain⟨rfl,rfl,rfl⟩:=h0;exact⟨oM,λi hi=>absurd hi oM⟩
 ·simp at h1;obtain⟨rfl,rfl,rfl⟩:=h1;have hbl:len<=1048576:=by
   rw[hx]at hk;simp only[Rows.uptoBulk]at hk
   have:=zhm (elems.map (·.1));rw[uD]at this;omega
  refine⟨oM,λi hi=>?_⟩;have e:=hel i hi;obtain⟨y,hy⟩:∃y,elems[i]?=some y:=⟨_,fA oM⟩;rw[hy,c4,zbE]at e;obtain⟨cs,hcs,ht⟩:=e;obtain⟨_,hcl,hcell⟩:=World.cells?_some hcs;obtain⟨xs,m,_,_,_,hxl,hf⟩:=DataW.trod_struct hu ht;obtain⟨u0,u1,u2,u3,rfl⟩:=zoi hcl;have g0:=hf 0 f0 rfl;have g1:=hf 1 f1 rfl;have g2:=hf 2 f2 rfl;have g3:=hf 3 f3 rfl;rw[a1,a2,c1]at g0;rw[b1,b2,c1]at g1;rw[d1,d2,c1]at g2;rw[e1,e2,cs]at g3;obtain⟨y0,hy0⟩:∃y0,xs[0]?=some y0:=⟨_,fA (by rw[hxl];simp)⟩;obtain⟨y1,hy1⟩:∃y1,xs[1]?=some y1:=⟨_,fA (by rw[hxl];simp)⟩;obtain⟨y2,hy2⟩:∃y2,xs[2]?=some y2:=⟨_,fA (by rw[hxl];simp)⟩;obtain⟨y3,hy3⟩:∃y3,xs[3]?=some y3:=⟨_,fA (by rw[hxl];simp)⟩;rw[hy0]at g0;rw[hy1]at g1;rw[hy2]at g2;rw[hy3]at g3;obtain⟨k,q0,_,w0⟩:=DataW.trod_int underlying3 g0;obtain⟨p,q1,_,w1⟩:=DataW.trod_int underlying3 g1;obtain⟨q,q2,_,w2⟩:=DataW.trod_int underlying3 g2;obtain⟨s,q3,_,_⟩:=DataW.trod_string underlying9 g3;simp at q0 q1 q2 q3;subst q0 q1 q2 q3;have k0:=hcell 0 oM;have k1:=hcell 1 oM;have k2:=hcell 2 oM;have k3:=hcell 3 oM;refine⟨a,k,p,q,s,rfl,by simpa[Addr.add]using k0,by simpa[Addr.add]using k1,by simpa[Addr.add]using k2,by simpa[Addr.add]using k3,?_,?_⟩
  ·simpa[Lit.wf,IntKind.min,IntKind.max,IntKind.signed,IntKind.bits]using w1
  ·simpa[Lit.wf,IntKind.min,IntKind.max,IntKind.signed,IntKind.bits]using w2
end
end
end Go.Proofs.YtckhafpejefbbaaGreatDoor
