import Derived.Test.YtckhafpejefbbaaGreatDoorB07
import Derived.Deep.RegionWith

set_option maxRecDepth 100000
set_option maxHeartbeats 4000000
namespace Go.Proofs.YtckhafpejefbbaaGreatDoor
section
open Tw Go.Proofs.Tryz
open Go.RowKit
variable{w:World}{bp gt cap:Nat}{cur:Array Value}{s:ByteArray}{ts:List Tw.Tok}{st st':Tw.PS}{tk:Tw.Tok}
theorem Zg{n:Nat}(k:Cf 237 Ba n)
  (h:PCtx w bp gt cap cur s ts st) (o:tokS ts st=some tk) {t:Tw.T} (p:(tk.sort==16)=true) (l:Ba s.data.toList ts n st=some (t,st')) :
  Calls prog 233 #[pT bp] w (Jg w bp gt cap cur s ts t st'):=by
 have d:Hid (PCtx w bp gt cap cur s ts st):=h;have f:Hid (tokS ts st=some tk):=o;have q:=h.Gp;have x:=h.Hs;have y:=h.size;have e:Hid (Ba s.data.toList ts n st=some (t,st')):=l
 go_in;go_wp2_with fail;refine(Ca d.o f.o).mono ?_;rintro j c ⟨rfl,b⟩;have i:Hid (PCtx c bp gt cap cur s ts st):=d.o.kept b;have g:Hid (Keep bp w c):=Keep.of_none b;have z:w.heap.size<=c.heap.size:=b.size;go_wp2_with fail;refine(k (i.o.alloc _) e.o).mono ?_;rintro j a ⟨v,rfl,m,h,r⟩;have X:Hid (Keep bp w a/\PCtx a bp gt cap cur s ts st'/\Rep a w.heap.size a.heap.size t v):=⟨(g.o.alloc _).trans m,h,r.wide (by simp;omega) (znL _)⟩;go_wp2_with fail;go_ret;exact⟨_,rfl,X.o⟩
theorem zgg
  (h:PCtx w bp gt cap cur s ts st) (q:tokS ts st=some tk) (t:(tk.sort==16)=false) (o:Aj tk.sort=false) (p:Fb ts st=some st') :
  Calls prog 233 #[pT bp] w (Jg w bp gt cap cur s ts (.name 0 0 []) st'):=by
 have d:Hid (PCtx w bp gt cap cur s ts st):=h;have j:Hid (tokS ts st=some tk):=q;have v:=h.Gp;have x:=h.Hs;have y:=h.size;have g:Hid (Fb ts st=some st'):=p;have i:Hid (Aj tk.sort=false):=o
 go_in;go_wp2_with fail;refine(Ca d.o j.o).mono ?_;rintro e c ⟨rfl,b⟩;have m:Hid (PCtx c bp gt cap cur s ts st):=d.o.kept b;have k:Hid (Keep bp w c):=Keep.of_none b;have A:w.heap.size<=c.heap.size:=b.size;go_wp2_with fail;refine(Cz _ _).mono ?_;rintro e z ⟨rfl,rfl⟩;rw[i.o];go_wp2_with fail;refine(Vj (m.o.alloc _) g.o).mono ?_;rintro e a ⟨rfl,f,h⟩;have n:Hid (PCtx a bp gt cap cur s ts st'):=h;have l:Hid (Keep bp w a):=(k.o.alloc _).trans f;have r:=f.size;simp at r;go_wp2_with fail;go_ret;go_light;exact⟨_,rfl,l.o.alloc _,n.o.alloc _,⟨a.heap.size,oM,sM,rfl,Ac a _⟩⟩
theorem zgh
  (h:PCtx w bp gt cap cur s ts st) (v:tokS ts st=some tk) {r:Tw.Tok} (B:(tk.sort==16)=false) (q:Aj tk.sort=true) (t:Tw.Au ts tk.sort st=some (r,st')) (C:(tk.sort==2)=false) (A:(tk.sort==10)=true) :
  Calls prog 233 #[pT bp] w (Jg w bp gt cap cur s ts (.truth tk.fr tk.to true) st'):=by
 have e:Hid (PCtx w bp gt cap cur s ts st):=h;have l:Hid (tokS ts st=some tk):=v;have G:=h.Gp;have I:=h.Hs;have J:=h.size;have j:Hid (Tw.Au ts tk.sort st=some (r,st')):=t;have k:Hid (Aj tk.sort=true):=q
 go_in;go_wp2_with fail;refine(Ca e.o l.o).mono ?_;rintro i b ⟨rfl,c⟩;have p:Hid (PCtx b bp gt cap cur s ts st):=e.o.kept c;have m:Hid (Keep bp w b):=Keep.of_none c;have S:w.heap.size<=b.heap.size:=c.size;go_wp2_with fail;refine(Cz _ _).mono ?_;rintro i R ⟨rfl,rfl⟩;rw[k.o];go_wp2_with fail;refine(Cy (p.o.alloc _) _ j.o).mono ?_;rintro i a ⟨rfl,d,h⟩;have g:Hid (PCtx a bp gt cap cur s ts st'):=h;have n:Hid (Keep bp w a):=(m.o.alloc _).trans d;have T:b.heap.size<a.heap.size:=by have:=d.size;simp at this;omega
 have o:=An (d.at (Ac b _) oM);obtain⟨x,y,z,D,E,F⟩:=o;obtain⟨L,M,N,O,P,Q⟩:=g.o.p;have H:bp<a.heap.size:=oM;go_wp2_with fail;go_ret;go_light;have f:=Ac (a.alloc (.cells #[vI tk.fr,vI tk.to] 85)) (.cells #[vI tk.fr,vI tk.to,.bool true] 198);rw[show(a.alloc (.cells #[vI tk.fr,vI tk.to] 85)).heap.size=a.heap.size+1 from sM]at f;exact⟨_,rfl,(n.o.alloc _).alloc _,(g.o.alloc _).alloc _,⟨a.heap.size+1,oM,sM,rfl,f⟩⟩
theorem zc4
  (h:PCtx w bp gt cap cur s ts st) (v:tokS ts st=some tk) {r:Tw.Tok} (C:(tk.sort==16)=false) (q:Aj tk.sort=true) (t:Tw.Au ts tk.sort st=some (r,st')) (D:(tk.sort==2)=false) (A:(tk.sort==10)=false) (B:(tk.sort==11)=true) :
  Calls prog 233 #[pT bp] w (Jg w bp gt cap cur s ts (.truth tk.fr tk.to false) st'):=by
 have e:Hid (PCtx w bp gt cap cur s ts st):=h;have l:Hid (tokS ts st=some tk):=v;have H:=h.Gp;have J:=h.Hs;have L:=h.size;have j:Hid (Tw.Au ts tk.sort st=some (r,st')):=t;have k:Hid (Aj tk.sort=true):=q
 go_in;go_wp2_with fail;refine(Ca e.o l.o).mono ?_;rintro i b ⟨rfl,c⟩;have p:Hid (PCtx b bp gt cap cur s ts st):=e.o.kept c;have m:Hid (Keep bp w b):=Keep.of_none c;have T:w.heap.size<=b.heap.size:=c.size;go_wp2_with fail;refine(Cz _ _).mono ?_;rintro i S ⟨rfl,rfl⟩;rw[k.o];go_wp2_with fail;refine(Cy (p.o.alloc _) _ j.o).mono ?_;rintro i a ⟨rfl,d,h⟩;have g:Hid (PCtx a bp gt cap cur s ts st'):=h;have n:Hid (Keep bp w a):=(m.o.alloc _).trans d;have U:b.heap.size<a.heap.size:=by have:=d.size;simp at this;omega
 have o:=An (d.at (Ac b _) oM);obtain⟨x,y,z,E,F,G⟩:=o;obtain⟨M,N,O,P,Q,R⟩:=g.o.p;have I:bp<a.heap.size:=oM;go_wp2_with fail;go_ret;go_light;have f:=Ac (a.alloc (.cells #[vI tk.fr,vI tk.to] 85)) (.cells #[vI tk.fr,vI tk.to,.bool false] 198);rw[show(a.alloc (.cells #[vI tk.fr,vI tk.to] 85)).heap.size=a.heap.size+1 from sM]at f;exact⟨_,rfl,(n.o.alloc _).alloc _,(g.o.alloc _).alloc _,⟨a.heap.size+1,oM,sM,rfl,f⟩⟩
theorem zis
  (h:PCtx w bp gt cap cur s ts st) (v:tokS ts st=some tk) {r:Tw.Tok} (E:(tk.sort==16)=false) (q:Aj tk.sort=true) (t:Tw.Au ts tk.sort st=some (r,st')) (F:(tk.sort==2)=false) (A:(tk.sort==10)=false) (B:(tk.sort==11)=false) (C:(tk.sort==12)=true) (D:(tk.sort==13)=false) :
  Calls prog 233 #[pT bp] w (Jg w bp gt cap cur s ts (.side tk.fr tk.to false) st'):=by
 have e:Hid (PCtx w bp gt cap cur s ts st):=h;have l:Hid (tokS ts st=some tk):=v;have J:=h.Gp;have M:=h.Hs;have N:=h.size;have j:Hid (Tw.Au ts tk.sort st=some (r,st')):=t;have k:Hid (Aj tk.sort=true):=q
 go_in;go_wp2_with fail;refine(Ca e.o l.o).mono ?_;rintro i b ⟨rfl,c⟩;have p:Hid (PCtx b bp gt cap cur s ts st):=e.o.kept c;have m:Hid (Keep bp w b):=Keep.of_none c;have V:w.heap.size<=b.heap.size:=c.size;go_wp2_with fail;refine(Cz _ _).mono ?_;rintro i U ⟨rfl,rfl⟩;rw[k.o];go_wp2_with fail;refine(Cy (p.o.alloc _) _ j.o).mono ?_;rintro i a ⟨rfl,d,h⟩;have g:Hid (PCtx a bp gt cap cur s ts st'):=h;have n:Hid (Keep bp w a):=(m.o.alloc _).trans d;have W:b.heap.size<a.heap.size:=by have:=d.size;simp at this;omega
 have o:=An (d.at (Ac b _) oM);obtain⟨x,y,z,G,H,I⟩:=o;obtain⟨O,P,Q,R,S,T⟩:=g.o.p;have L:bp<a.heap.size:=oM;go_wp2_with fail;go_ret;go_light;have f:=Ac (a.alloc (.cells #[vI tk.fr,vI tk.to] 85)) (.cells #[vI tk.fr,vI tk.to,.bool false] 201);rw[show(a.alloc (.cells #[vI tk.fr,vI tk.to] 85)).heap.size=a.heap.size+1 from sM]at f;exact⟨_,rfl,(n.o.alloc _).alloc _,(g.o.alloc _).alloc _,⟨a.heap.size+1,oM,sM,rfl,f⟩⟩
theorem zit
  (h:PCtx w bp gt cap cur s ts st) (v:tokS ts st=some tk) {r:Tw.Tok} (E:(tk.sort==16)=false) (q:Aj tk.sort=true) (t:Tw.Au ts tk.sort st=some (r,st')) (F:(tk.sort==2)=false) (A:(tk.sort==10)=false) (B:(tk.sort==11)=false) (C:(tk.sort==12)=false) (D:(tk.sort==13)=true) :
  Calls prog 233 #[pT bp] w (Jg w bp gt cap cur s ts (.side tk.fr tk.to true) st'):=by
 have e:Hid (PCtx w bp gt cap cur s ts st):=h;have l:Hid (tokS ts st=some tk):=v;have J:=h.Gp;have M:=h.Hs;have N:=h.size;have j:Hid (Tw.Au ts tk.sort st=some (r,st')):=t;have k:Hid (Aj tk.sort=true):=q
 go_in;go_wp2_with fail;refine(Ca e.o l.o).mono ?_;rintro i b ⟨rfl,c⟩;have p:Hid (PCtx b bp gt cap cur s ts st):=e.o.kept c;have m:Hid (Keep bp w b):=Keep.of_none c;have V:w.heap.size<=b.heap.size:=c.size;go_wp2_with fail;refine(Cz _ _).mono ?_;rintro i U ⟨rfl,rfl⟩;rw[k.o];go_wp2_with fail;refine(Cy (p.o.alloc _) _ j.o).mono ?_;rintro i a ⟨rfl,d,h⟩;have g:Hid (PCtx a bp gt cap cur s ts st'):=h;have n:Hid (Keep bp w a):=(m.o.alloc _).trans d;have W:b.heap.size<a.heap.size:=by have:=d.size;simp at this;omega
 have o:=An (d.at (Ac b _) oM);obtain⟨x,y,z,G,H,I⟩:=o;obtain⟨O,P,Q,R,S,T⟩:=g.o.p;have L:bp<a.heap.size:=oM;go_wp2_with fail;go_ret;go_light;have f:=Ac (a.alloc (.cells #[vI tk.fr,vI tk.to] 85)) (.cells #[vI tk.fr,vI tk.to,.bool true] 201);rw[show(a.alloc (.cells #[vI tk.fr,vI tk.to] 85)).heap.size=a.heap.size+1 from sM]at f;exact⟨_,rfl,(n.o.alloc _).alloc _,(g.o.alloc _).alloc _,⟨a.heap.size+1,oM,sM,rfl,f⟩⟩
theorem zgi
  (h:PCtx w bp gt cap cur s ts st) (v:tokS ts st=some tk) {r:Tw.Tok} (E:(tk.sort==16)=false) (q:Aj tk.sort=true) (t:Tw.Au ts tk.sort st=some (r,st')) (F:(tk.sort==2)=false) (A:(tk.sort==10)=false) (B:(tk.sort==11)=false) (C:(tk.sort==12)=false) (D:(tk.sort==13)=false) (N:tk.fr<=tk.to) (O:tk.to<=s.size) :
  Calls prog 233 #[pT bp] w (Jg w bp gt cap cur s ts (.name tk.fr tk.to (Bf s.data.toList tk.fr tk.to)) st'):=by
 have e:Hid (PCtx w bp gt cap cur s ts st):=h;have l:Hid (tokS ts st=some tk):=v;have J:=h.Gp;have M:=h.Hs;have R:=h.size;have j:Hid (Tw.Au ts tk.sort st=some (r,st')):=t;have k:Hid (Aj tk.sort=true):=q
 go_in;go_wp2_with fail;refine(Ca e.o l.o).mono ?_;rintro i b ⟨rfl,c⟩;have p:Hid (PCtx b bp gt cap cur s ts st):=e.o.kept c;have m:Hid (Keep bp w b):=Keep.of_none c;have Z:w.heap.size<=b.heap.size:=c.size;go_wp2_with fail;refine(Cz _ _).mono ?_;rintro i Y ⟨rfl,rfl⟩;rw[k.o];go_wp2_with fail;refine(Cy (p.o.alloc _) _ j.o).mono ?_;rintro i a ⟨rfl,d,h⟩;have g:Hid (PCtx a bp gt cap cur s ts st'):=h;have n:Hid (Keep bp w a):=(m.o.alloc _).trans d;have z3:b.heap.size<a.heap.size:=by have:=d.size;simp at this;omega
 have o:=An (d.at (Ac b _) oM);obtain⟨x,y,z,G,H,I⟩:=o;obtain⟨S,T,U,V,W,X⟩:=g.o.p;have L:bp<a.heap.size:=oM;have P:(tk.fr:Int)<=(tk.to:Int):=oM;have Q:(tk.to:Int)<=(s.size:Int):=oM;go_wp2_with fail;go_region;go_wp2_with fail;go_ret;go_light;have f:=Ac (a.alloc (.cells #[vI tk.fr,vI tk.to] 85)) (.cells #[vI tk.fr,vI tk.to,.string (s.extract tk.fr tk.to)] 87);rw[show(a.alloc (.cells #[vI tk.fr,vI tk.to] 85)).heap.size=a.heap.size+1 from sM,Iu]at f;rw[Iu];exact⟨_,rfl,((n.o.alloc _).alloc _).drew,((g.o.alloc _).alloc _).drew,⟨a.heap.size+1,oM,sM,rfl,f⟩⟩
end
end Go.Proofs.YtckhafpejefbbaaGreatDoor
