import Derived.Test.YtckhafpejefbbaaGreatDoorB07
import Derived.Deep.RegionWith

set_option maxRecDepth 100000
set_option maxHeartbeats 4000000
namespace Go.Proofs.YtckhafpejefbbaaGreatDoor
section
open Tw Go.Proofs.Tryz
open Go.RowKit
section
variable{w:World}{bp gt cap:Nat}{cur:Array Value}{s:ByteArray}{ts:List Tw.Tok}{st st':Tw.PS}{tk:Tw.Tok}
theorem zdu{n:Nat}(g:Db 237 Cd n)
  (h:B7 w bp gt cap cur s ts st) (j:Ej ts st=some tk) {t:Tw.T} (k:(tk.sort==16)=true) (i:Cd s.data.toList ts n st=some (t,st')) :
  Calls prog 233 #[pT bp] w (Mi w bp gt cap cur s ts t st'):=by
 have a:=h;have c:=j;have b:Cd s.data.toList ts n st=some (t,st'):=i;go_in;go_wp21;go_call Cs a c as e w1 ⟨rfl,hg⟩;have f:=a.kept hg;have d:Bl bp w w1:=Bl.Ax hg;have l:=hg.size;go_wp21;go_call g (f.alloc _) b as e w2 ⟨v,rfl,hk,h,r⟩;have X:Bl bp w w2/\B7 w2 bp gt cap cur s ts st'/\Rep w2 w.heap.size w2.heap.size t v:=⟨(d.alloc _).trans hk,h,r.wide (by simp;omega) (znL _)⟩;go_wp21;go_ret;exact⟨_,rfl,X⟩
theorem zl6
  (h:B7 w bp gt cap cur s ts st) (m:Ej ts st=some tk) (o:(tk.sort==16)=false) (k:Ap tk.sort=false) (l:Hj ts st=some st') :
  Calls prog 233 #[pT bp] w (Mi w bp gt cap cur s ts (.name 0 0 []) st'):=by
 have a:=h;have d:=m;have b:Hj ts st=some st':=l;have c:=k;go_in;go_wp21;go_call Cs a d as e w1 ⟨rfl,hg⟩;have i:=a.kept hg;have f:Bl bp w w1:=Bl.Ax hg;have p:=hg.size;go_wp21;go_call Dr _ _ as e w2 ⟨rfl,rfl⟩;rw[c];go_wp21;go_call Zu (i.alloc _) b as e w3 ⟨rfl,hk,h⟩;have j:=h;have g:=(f.alloc _).trans hk;have n:=hk.size;simp at n;go_wp21;go_ret;go_light;exact⟨_,rfl,g.alloc _,j.alloc _,⟨w3.heap.size,oM,sM,rfl,Ac w3 _⟩⟩
theorem zl7
  (h:B7 w bp gt cap cur s ts st) (o:Ej ts st=some tk) {r:Tw.Tok} (x:(tk.sort==16)=false) (m:Ap tk.sort=true) (n:Tw.Bg ts tk.sort st=some (r,st')) (y:(tk.sort==2)=false) (v:(tk.sort==10)=true) :
  Calls prog 233 #[pT bp] w (Mi w bp gt cap cur s ts (.Ak tk.fr tk.to true) st'):=by
 have a:=h;have g:=o;have C:=h.Js;have d:Tw.Bg ts tk.sort st=some (r,st'):=n;have f:=m;go_in;go_wp21;go_call Cs a g as e w1 ⟨rfl,hg⟩;have l:=a.kept hg;have i:Bl bp w w1:=Bl.Ax hg;have J:=hg.size;go_wp21;go_call Dr _ _ as e w2 ⟨rfl,rfl⟩;rw[f];go_wp21;go_call Dq (l.alloc _) _ d as e w3 ⟨rfl,hk,h⟩;have c:=h;have j:=(i.alloc _).trans hk;have L:w1.heap.size<w3.heap.size:=by have:=hk.size;simp at this;omega
 have k:=Ag (hk.at (Ac w1 _) oM);have⟨p,q,t,z,A,B⟩:=k;have⟨D,E,F,G,H,I⟩:=c.p;go_wp21;go_ret;go_light;have b:=Ac (w3.alloc (.cells #[vI tk.fr,vI tk.to] 85)) (.cells #[vI tk.fr,vI tk.to,.bool true] 198);rw[show(w3.alloc (.cells #[vI tk.fr,vI tk.to] 85)).heap.size=w3.heap.size+1 from sM]at b;exact⟨_,rfl,(j.alloc _).alloc _,(c.alloc _).alloc _,⟨w3.heap.size+1,oM,sM,rfl,b⟩⟩
theorem zh8
  (h:B7 w bp gt cap cur s ts st) (o:Ej ts st=some tk) {r:Tw.Tok} (y:(tk.sort==16)=false) (m:Ap tk.sort=true) (n:Tw.Bg ts tk.sort st=some (r,st')) (z:(tk.sort==2)=false) (v:(tk.sort==10)=false) (x:(tk.sort==11)=true) :
  Calls prog 233 #[pT bp] w (Mi w bp gt cap cur s ts (.Ak tk.fr tk.to false) st'):=by
 have a:=h;have g:=o;have D:=h.Js;have d:Tw.Bg ts tk.sort st=some (r,st'):=n;have f:=m;go_in;go_wp21;go_call Cs a g as e w1 ⟨rfl,hg⟩;have l:=a.kept hg;have i:Bl bp w w1:=Bl.Ax hg;have L:=hg.size;go_wp21;go_call Dr _ _ as e w2 ⟨rfl,rfl⟩;rw[f];go_wp21;go_call Dq (l.alloc _) _ d as e w3 ⟨rfl,hk,h⟩;have c:=h;have j:=(i.alloc _).trans hk;have M:w1.heap.size<w3.heap.size:=by have:=hk.size;simp at this;omega
 have k:=Ag (hk.at (Ac w1 _) oM);have⟨p,q,t,A,B,C⟩:=k;have⟨E,F,G,H,I,J⟩:=c.p;go_wp21;go_ret;go_light;have b:=Ac (w3.alloc (.cells #[vI tk.fr,vI tk.to] 85)) (.cells #[vI tk.fr,vI tk.to,.bool false] 198);rw[show(w3.alloc (.cells #[vI tk.fr,vI tk.to] 85)).heap.size=w3.heap.size+1 from sM]at b;exact⟨_,rfl,(j.alloc _).alloc _,(c.alloc _).alloc _,⟨w3.heap.size+1,oM,sM,rfl,b⟩⟩
theorem zo2
  (h:B7 w bp gt cap cur s ts st) (o:Ej ts st=some tk) {r:Tw.Tok} (A:(tk.sort==16)=false) (m:Ap tk.sort=true) (n:Tw.Bg ts tk.sort st=some (r,st')) (B:(tk.sort==2)=false) (v:(tk.sort==10)=false) (x:(tk.sort==11)=false) (y:(tk.sort==12)=true) (z:(tk.sort==13)=false) :
  Calls prog 233 #[pT bp] w (Mi w bp gt cap cur s ts (.side tk.fr tk.to false) st'):=by
 have a:=h;have g:=o;have F:=h.Js;have d:Tw.Bg ts tk.sort st=some (r,st'):=n;have f:=m;go_in;go_wp21;go_call Cs a g as e w1 ⟨rfl,hg⟩;have l:=a.kept hg;have i:Bl bp w w1:=Bl.Ax hg;have N:=hg.size;go_wp21;go_call Dr _ _ as e w2 ⟨rfl,rfl⟩;rw[f];go_wp21;go_call Dq (l.alloc _) _ d as e w3 ⟨rfl,hk,h⟩;have c:=h;have j:=(i.alloc _).trans hk;have O:w1.heap.size<w3.heap.size:=by have:=hk.size;simp at this;omega
 have k:=Ag (hk.at (Ac w1 _) oM);have⟨p,q,t,C,D,E⟩:=k;have⟨G,H,I,J,L,M⟩:=c.p;go_wp21;go_ret;go_light;have b:=Ac (w3.alloc (.cells #[vI tk.fr,vI tk.to] 85)) (.cells #[vI tk.fr,vI tk.to,.bool false] 201);rw[show(w3.alloc (.cells #[vI tk.fr,vI tk.to] 85)).heap.size=w3.heap.size+1 from sM]at b;exact⟨_,rfl,(j.alloc _).alloc _,(c.alloc _).alloc _,⟨w3.heap.size+1,oM,sM,rfl,b⟩⟩
theorem zo3
  (h:B7 w bp gt cap cur s ts st) (o:Ej ts st=some tk) {r:Tw.Tok} (A:(tk.sort==16)=false) (m:Ap tk.sort=true) (n:Tw.Bg ts tk.sort st=some (r,st')) (B:(tk.sort==2)=false) (v:(tk.sort==10)=false) (x:(tk.sort==11)=false) (y:(tk.sort==12)=false) (z:(tk.sort==13)=true) :
  Calls prog 233 #[pT bp] w (Mi w bp gt cap cur s ts (.side tk.fr tk.to true) st'):=by
 have a:=h;have g:=o;have F:=h.Js;have d:Tw.Bg ts tk.sort st=some (r,st'):=n;have f:=m;go_in;go_wp21;go_call Cs a g as e w1 ⟨rfl,hg⟩;have l:=a.kept hg;have i:Bl bp w w1:=Bl.Ax hg;have N:=hg.size;go_wp21;go_call Dr _ _ as e w2 ⟨rfl,rfl⟩;rw[f];go_wp21;go_call Dq (l.alloc _) _ d as e w3 ⟨rfl,hk,h⟩;have c:=h;have j:=(i.alloc _).trans hk;have O:w1.heap.size<w3.heap.size:=by have:=hk.size;simp at this;omega
 have k:=Ag (hk.at (Ac w1 _) oM);have⟨p,q,t,C,D,E⟩:=k;have⟨G,H,I,J,L,M⟩:=c.p;go_wp21;go_ret;go_light;have b:=Ac (w3.alloc (.cells #[vI tk.fr,vI tk.to] 85)) (.cells #[vI tk.fr,vI tk.to,.bool true] 201);rw[show(w3.alloc (.cells #[vI tk.fr,vI tk.to] 85)).heap.size=w3.heap.size+1 from sM]at b;exact⟨_,rfl,(j.alloc _).alloc _,(c.alloc _).alloc _,⟨w3.heap.size+1,oM,sM,rfl,b⟩⟩
theorem zl8
  (h:B7 w bp gt cap cur s ts st) (o:Ej ts st=some tk) {r:Tw.Tok} (A:(tk.sort==16)=false) (m:Ap tk.sort=true) (n:Tw.Bg ts tk.sort st=some (r,st')) (B:(tk.sort==2)=false) (v:(tk.sort==10)=false) (x:(tk.sort==11)=false) (y:(tk.sort==12)=false) (z:(tk.sort==13)=false) (H:tk.fr<=tk.to) (I:tk.to<=s.size) :
  Calls prog 233 #[pT bp] w (Mi w bp gt cap cur s ts (.name tk.fr tk.to (Bv s.data.toList tk.fr tk.to)) st'):=by
 have a:=h;have g:=o;have F:=h.Js;have d:Tw.Bg ts tk.sort st=some (r,st'):=n;have f:=m;go_in;go_wp21;go_call Cs a g as e w1 ⟨rfl,hg⟩;have l:=a.kept hg;have i:Bl bp w w1:=Bl.Ax hg;have S:=hg.size;go_wp21;go_call Dr _ _ as e w2 ⟨rfl,rfl⟩;rw[f];go_wp21;go_call Dq (l.alloc _) _ d as e w3 ⟨rfl,hk,h⟩;have c:=h;have j:=(i.alloc _).trans hk;have T:w1.heap.size<w3.heap.size:=by have:=hk.size;simp at this;omega
 have k:=Ag (hk.at (Ac w1 _) oM);have⟨p,q,t,C,D,E⟩:=k;have⟨M,N,O,P,Q,R⟩:=c.p;have G:bp<w3.heap.size:=oM;have J:(tk.fr:Int)<=(tk.to:Int):=oM;have L:(tk.to:Int)<=(s.size:Int):=oM;go_wp21;go_region;go_wp21;go_ret;go_light;have b:=Ac (w3.alloc (.cells #[vI tk.fr,vI tk.to] 85)) (.cells #[vI tk.fr,vI tk.to,.string (s.extract tk.fr tk.to)] 87);rw[show(w3.alloc (.cells #[vI tk.fr,vI tk.to] 85)).heap.size=w3.heap.size+1 from sM,Lh]at b;rw[Lh];exact⟨_,rfl,((j.alloc _).alloc _).drew,((c.alloc _).alloc _).drew,⟨w3.heap.size+1,oM,sM,rfl,b⟩⟩
end
end
end Go.Proofs.YtckhafpejefbbaaGreatDoor
