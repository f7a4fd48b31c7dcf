/- Texts of the proof, put together: Gram8. -/
import Derived.Test.YtckhafpejefbbaaGreatDoorB07
import Derived.Deep.RegionWith

set_option maxRecDepth 100000
set_option maxHeartbeats 4000000
namespace Go.Proofs.YtckhafpejefbbaaGreatDoor
open Go.RowKit
theorem zs1 {n:Nat} (hB:zbr 237 Tw.za0 n) {w:World} {bp gt cap:Nat} {cur:Array Value} {s:ByteArray} {ts:List Tw.Tok} {st st':Tw.PS} {tk:Tw.Tok}
  (h:PCtx w bp gt cap cur s ts st) (ht:Tw.tokS ts st=some tk) {t:Tw.T} (b16:(tk.sort==16)=true) (hf:Tw.za0 s.data.toList ts n st=some (t,st')) :
  Calls Tryz.prog 233 #[.pointer (some ⟨bp,0,none⟩)] w (zgn w bp gt cap cur s ts t st'):=by
 have HH:Hid (PCtx w bp gt cap cur s ts st):=h
 have HT:Hid (Tw.tokS ts st=some tk):=ht
 have hbp:=h.zeo
 have hgt:=h.zff
 have hsz:=h.size
 have H2:Hid (Tw.za0 s.data.toList ts n st=some (t,st')):=hf
 clear h ht hf
 go_enter Tryz.func233,Tryz.ntmps233
 go_wp2_with fail
 refine (zbo HH.out HT.out).mono ?_
 rintro e w1 ⟨rfl,hg⟩
 have P1:Hid (PCtx w1 bp gt cap cur s ts st):=HH.out.kept hg
 have K1:Hid (Keep bp w w1):=Keep.of_none hg
 have z1:w.heap.size<=w1.heap.size:=hg.size
 clear hg
 go_wp2_with fail
 refine (hB (P1.out.alloc _) H2.out).mono ?_
 rintro e w2 ⟨v,rfl,hk,h,r⟩
 have X:Hid (Keep bp w w2/\PCtx w2 bp gt cap cur s ts st'/\Rep w2 w.heap.size w2.heap.size t v):=⟨(K1.out.alloc _).trans hk,h,r.wide (by simp; omega) (znL _)⟩
 clear hk h r
 go_wp2_with fail
 go_ret
 exact ⟨_,rfl,X.out⟩
theorem zz4 {w:World} {bp gt cap:Nat} {cur:Array Value} {s:ByteArray} {ts:List Tw.Tok} {st st':Tw.PS} {tk:Tw.Tok}
  (h:PCtx w bp gt cap cur s ts st) (ht:Tw.tokS ts st=some tk) (b16:(tk.sort==16)=false) (hb:Tw.zal tk.sort=false) (hf:Tw.zh6 ts st=some st') :
  Calls Tryz.prog 233 #[.pointer (some ⟨bp,0,none⟩)] w (zgn w bp gt cap cur s ts (.name 0 0 []) st'):=by
 have HH:Hid (PCtx w bp gt cap cur s ts st):=h
 have HT:Hid (Tw.tokS ts st=some tk):=ht
 have hbp:=h.zeo
 have hgt:=h.zff
 have hsz:=h.size
 have H2:Hid (Tw.zh6 ts st=some st'):=hf
 have HB:Hid (Tw.zal tk.sort=false):=hb
 clear h ht hf hb
 go_enter Tryz.func233,Tryz.ntmps233
 go_wp2_with fail
 refine (zbo HH.out HT.out).mono ?_
 rintro e w1 ⟨rfl,hg⟩
 have P1:Hid (PCtx w1 bp gt cap cur s ts st):=HH.out.kept hg
 have K1:Hid (Keep bp w w1):=Keep.of_none hg
 have z1:w.heap.size<=w1.heap.size:=hg.size
 clear hg
 go_wp2_with fail
 refine (zb5 _ _).mono ?_
 rintro e w2 ⟨rfl,rfl⟩
 rw [HB.out]
 go_wp2_with fail
 refine (zpx (P1.out.alloc _) H2.out).mono ?_
 rintro e w3 ⟨rfl,hk,h⟩
 have P3:Hid (PCtx w3 bp gt cap cur s ts st'):=h
 have K3:Hid (Keep bp w w3):=(K1.out.alloc _).trans hk
 have z3:=hk.size
 simp at z3
 clear hk h
 go_wp2_with fail
 go_ret
 go_light
 exact ⟨_,rfl,K3.out.alloc _,P3.out.alloc _,⟨w3.heap.size,by omega,by simp,rfl,zad w3 _⟩⟩
theorem zz5 {w:World} {bp gt cap:Nat} {cur:Array Value} {s:ByteArray} {ts:List Tw.Tok} {st st':Tw.PS} {tk:Tw.Tok}
  (h:PCtx w bp gt cap cur s ts st) (ht:Tw.tokS ts st=some tk) {r:Tw.Tok} (b16:(tk.sort==16)=false) (hb:Tw.zal tk.sort=true) (hf:Tw.zbe ts tk.sort st=some (r,st')) (b2:(tk.sort==2)=false) (b10:(tk.sort==10)=true) :
  Calls Tryz.prog 233 #[.pointer (some ⟨bp,0,none⟩)] w (zgn w bp gt cap cur s ts (.truth tk.fr tk.to true) st'):=by
 have HH:Hid (PCtx w bp gt cap cur s ts st):=h
 have HT:Hid (Tw.tokS ts st=some tk):=ht
 have hbp:=h.zeo
 have hgt:=h.zff
 have hsz:=h.size
 have H2:Hid (Tw.zbe ts tk.sort st=some (r,st')):=hf
 have HB:Hid (Tw.zal tk.sort=true):=hb
 clear h ht hf hb
 go_enter Tryz.func233,Tryz.ntmps233
 go_wp2_with fail
 refine (zbo HH.out HT.out).mono ?_
 rintro e w1 ⟨rfl,hg⟩
 have P1:Hid (PCtx w1 bp gt cap cur s ts st):=HH.out.kept hg
 have K1:Hid (Keep bp w w1):=Keep.of_none hg
 have z1:w.heap.size<=w1.heap.size:=hg.size
 clear hg
 go_wp2_with fail
 refine (zb5 _ _).mono ?_
 rintro e w2 ⟨rfl,rfl⟩
 rw [HB.out]
 go_wp2_with fail
 refine (zb4 (P1.out.alloc _) _ H2.out).mono ?_
 rintro e w3 ⟨rfl,hk,h⟩
 have P3:Hid (PCtx w3 bp gt cap cur s ts st'):=h
 have K3:Hid (Keep bp w w3):=(K1.out.alloc _).trans hk
 have z3:w1.heap.size<w3.heap.size:=by have:=hk.size; simp at this; omega
 have L3:=zaf (hk.at (zad w1 _) (by omega))
 obtain ⟨a0,a1,a2,f0,f1,f2⟩:=L3
 obtain ⟨p0,p1,p2,p3,p4,p5⟩:=P3.out.p
 have hbp3:bp<w3.heap.size:=by omega
 clear hk h p1 p2 p3 p4 p5
 go_wp2_with fail
 go_ret
 go_light
 have NW:=zad (w3.alloc (.cells #[.int .i64 tk.fr,.int .i64 tk.to] 85)) (.cells #[.int .i64 tk.fr,.int .i64 tk.to,.bool true] 198)
 rw [show (w3.alloc (.cells #[.int .i64 tk.fr,.int .i64 tk.to] 85)).heap.size=w3.heap.size+1 from by simp] at NW
 exact ⟨_,rfl,(K3.out.alloc _).alloc _,(P3.out.alloc _).alloc _,⟨w3.heap.size+1,by omega,by simp,rfl,NW⟩⟩
theorem zwo {w:World} {bp gt cap:Nat} {cur:Array Value} {s:ByteArray} {ts:List Tw.Tok} {st st':Tw.PS} {tk:Tw.Tok}
  (h:PCtx w bp gt cap cur s ts st) (ht:Tw.tokS ts st=some tk) {r:Tw.Tok} (b16:(tk.sort==16)=false) (hb:Tw.zal tk.sort=true) (hf:Tw.zbe ts tk.sort st=some (r,st')) (b2:(tk.sort==2)=false) (b10:(tk.sort==10)=false) (b11:(tk.sort==11)=true) :
  Calls Tryz.prog 233 #[.pointer (some ⟨bp,0,none⟩)] w (zgn w bp gt cap cur s ts (.truth tk.fr tk.to false) st'):=by
 have HH:Hid (PCtx w bp gt cap cur s ts st):=h
 have HT:Hid (Tw.tokS ts st=some tk):=ht
 have hbp:=h.zeo
 have hgt:=h.zff
 have hsz:=h.size
 have H2:Hid (Tw.zbe ts tk.sort st=some (r,st')):=hf
 have HB:Hid (Tw.zal tk.sort=true):=hb
 clear h ht hf hb
 go_enter Tryz.func233,Tryz.ntmps233
 go_wp2_with fail
 refine (zbo HH.out HT.out).mono ?_
 rintro e w1 ⟨rfl,hg⟩
 have P1:Hid (PCtx w1 bp gt cap cur s ts st):=HH.out.kept hg
 have K1:Hid (Keep bp w w1):=Keep.of_none hg
 have z1:w.heap.size<=w1.heap.size:=hg.size
 clear hg
 go_wp2_with fail
 refine (zb5 _ _).mono ?_
 rintro e w2 ⟨rfl,rfl⟩
 rw [HB.out]
 go_wp2_with fail
 refine (zb4 (P1.out.alloc _) _ H2.out).mono ?_
 rintro e w3 ⟨rfl,hk,h⟩
 have P3:Hid (PCtx w3 bp gt cap cur s ts st'):=h
 have K3:Hid (Keep bp w w3):=(K1.out.alloc _).trans hk
 have z3:w1.heap.size<w3.heap.size:=by have:=hk.size; simp at this; omega
 have L3:=zaf (hk.at (zad w1 _) (by omega))
 obtain ⟨a0,a1,a2,f0,f1,f2⟩:=L3
 obtain ⟨p0,p1,p2,p3,p4,p5⟩:=P3.out.p
 have hbp3:bp<w3.heap.size:=by omega
 clear hk h p1 p2 p3 p4 p5
 go_wp2_with fail
 go_ret
 go_light
 have NW:=zad (w3.alloc (.cells #[.int .i64 tk.fr,.int .i64 tk.to] 85)) (.cells #[.int .i64 tk.fr,.int .i64 tk.to,.bool false] 198)
 rw [show (w3.alloc (.cells #[.int .i64 tk.fr,.int .i64 tk.to] 85)).heap.size=w3.heap.size+1 from by simp] at NW
 exact ⟨_,rfl,(K3.out.alloc _).alloc _,(P3.out.alloc _).alloc _,⟨w3.heap.size+1,by omega,by simp,rfl,NW⟩⟩
theorem yb9 {w:World} {bp gt cap:Nat} {cur:Array Value} {s:ByteArray} {ts:List Tw.Tok} {st st':Tw.PS} {tk:Tw.Tok}
  (h:PCtx w bp gt cap cur s ts st) (ht:Tw.tokS ts st=some tk) {r:Tw.Tok} (b16:(tk.sort==16)=false) (hb:Tw.zal tk.sort=true) (hf:Tw.zbe ts tk.sort st=some (r,st')) (b2:(tk.sort==2)=false) (b10:(tk.sort==10)=false) (b11:(tk.sort==11)=false) (b12:(tk.sort==12)=true) (b13:(tk.sort==13)=false) :
  Calls Tryz.prog 233 #[.pointer (some ⟨bp,0,none⟩)] w (zgn w bp gt cap cur s ts (.side tk.fr tk.to false) st'):=by
 have HH:Hid (PCtx w bp gt cap cur s ts st):=h
 have HT:Hid (Tw.tokS ts st=some tk):=ht
 have hbp:=h.zeo
 have hgt:=h.zff
 have hsz:=h.size
 have H2:Hid (Tw.zbe ts tk.sort st=some (r,st')):=hf
 have HB:Hid (Tw.zal tk.sort=true):=hb
 clear h ht hf hb
 go_enter Tryz.func233,Tryz.ntmps233
 go_wp2_with fail
 refine (zbo HH.out HT.out).mono ?_
 rintro e w1 ⟨rfl,hg⟩
 have P1:Hid (PCtx w1 bp gt cap cur s ts st):=HH.out.kept hg
 have K1:Hid (Keep bp w w1):=Keep.of_none hg
 have z1:w.heap.size<=w1.heap.size:=hg.size
 clear hg
 go_wp2_with fail
 refine (zb5 _ _).mono ?_
 rintro e w2 ⟨rfl,rfl⟩
 rw [HB.out]
 go_wp2_with fail
 refine (zb4 (P1.out.alloc _) _ H2.out).mono ?_
 rintro e w3 ⟨rfl,hk,h⟩
 have P3:Hid (PCtx w3 bp gt cap cur s ts st'):=h
 have K3:Hid (Keep bp w w3):=(K1.out.alloc _).trans hk
 have z3:w1.heap.size<w3.heap.size:=by have:=hk.size; simp at this; omega
 have L3:=zaf (hk.at (zad w1 _) (by omega))
 obtain ⟨a0,a1,a2,f0,f1,f2⟩:=L3
 obtain ⟨p0,p1,p2,p3,p4,p5⟩:=P3.out.p
 have hbp3:bp<w3.heap.size:=by omega
 clear hk h p1 p2 p3 p4 p5
 go_wp2_with fail
 go_ret
 go_light
 have NW:=zad (w3.alloc (.cells #[.int .i64 tk.fr,.int .i64 tk.to] 85)) (.cells #[.int .i64 tk.fr,.int .i64 tk.to,.bool false] 201)
 rw [show (w3.alloc (.cells #[.int .i64 tk.fr,.int .i64 tk.to] 85)).heap.size=w3.heap.size+1 from by simp] at NW
 exact ⟨_,rfl,(K3.out.alloc _).alloc _,(P3.out.alloc _).alloc _,⟨w3.heap.size+1,by omega,by simp,rfl,NW⟩⟩
theorem yca {w:World} {bp gt cap:Nat} {cur:Array Value} {s:ByteArray} {ts:List Tw.Tok} {st st':Tw.PS} {tk:Tw.Tok}
  (h:PCtx w bp gt cap cur s ts st) (ht:Tw.tokS ts st=some tk) {r:Tw.Tok} (b16:(tk.sort==16)=false) (hb:Tw.zal tk.sort=true) (hf:Tw.zbe ts tk.sort st=some (r,st')) (b2:(tk.sort==2)=false) (b10:(tk.sort==10)=false) (b11:(tk.sort==11)=false) (b12:(tk.sort==12)=false) (b13:(tk.sort==13)=true) :
  Calls Tryz.prog 233 #[.pointer (some ⟨bp,0,none⟩)] w (zgn w bp gt cap cur s ts (.side tk.fr tk.to true) st'):=by
 have HH:Hid (PCtx w bp gt cap cur s ts st):=h
 have HT:Hid (Tw.tokS ts st=some tk):=ht
 have hbp:=h.zeo
 have hgt:=h.zff
 have hsz:=h.size
 have H2:Hid (Tw.zbe ts tk.sort st=some (r,st')):=hf
 have HB:Hid (Tw.zal tk.sort=true):=hb
 clear h ht hf hb
 go_enter Tryz.func233,Tryz.ntmps233
 go_wp2_with fail
 refine (zbo HH.out HT.out).mono ?_
 rintro e w1 ⟨rfl,hg⟩
 have P1:Hid (PCtx w1 bp gt cap cur s ts st):=HH.out.kept hg
 have K1:Hid (Keep bp w w1):=Keep.of_none hg
 have z1:w.heap.size<=w1.heap.size:=hg.size
 clear hg
 go_wp2_with fail
 refine (zb5 _ _).mono ?_
 rintro e w2 ⟨rfl,rfl⟩
 rw [HB.out]
 go_wp2_with fail
 refine (zb4 (P1.out.alloc _) _ H2.out).mono ?_
 rintro e w3 ⟨rfl,hk,h⟩
 have P3:Hid (PCtx w3 bp gt cap cur s ts st'):=h
 have K3:Hid (Keep bp w w3):=(K1.out.alloc _).trans hk
 have z3:w1.heap.size<w3.heap.size:=by have:=hk.size; simp at this; omega
 have L3:=zaf (hk.at (zad w1 _) (by omega))
 obtain ⟨a0,a1,a2,f0,f1,f2⟩:=L3
 obtain ⟨p0,p1,p2,p3,p4,p5⟩:=P3.out.p
 have hbp3:bp<w3.heap.size:=by omega
 clear hk h p1 p2 p3 p4 p5
 go_wp2_with fail
 go_ret
 go_light
 have NW:=zad (w3.alloc (.cells #[.int .i64 tk.fr,.int .i64 tk.to] 85)) (.cells #[.int .i64 tk.fr,.int .i64 tk.to,.bool true] 201)
 rw [show (w3.alloc (.cells #[.int .i64 tk.fr,.int .i64 tk.to] 85)).heap.size=w3.heap.size+1 from by simp] at NW
 exact ⟨_,rfl,(K3.out.alloc _).alloc _,(P3.out.alloc _).alloc _,⟨w3.heap.size+1,by omega,by simp,rfl,NW⟩⟩
theorem zz6 {w:World} {bp gt cap:Nat} {cur:Array Value} {s:ByteArray} {ts:List Tw.Tok} {st st':Tw.PS} {tk:Tw.Tok}
  (h:PCtx w bp gt cap cur s ts st) (ht:Tw.tokS ts st=some tk) {r:Tw.Tok} (b16:(tk.sort==16)=false) (hb:Tw.zal tk.sort=true) (hf:Tw.zbe ts tk.sort st=some (r,st')) (b2:(tk.sort==2)=false) (b10:(tk.sort==10)=false) (b11:(tk.sort==11)=false) (b12:(tk.sort==12)=false) (b13:(tk.sort==13)=false) (hp1:tk.fr<=tk.to) (hp2:tk.to<=s.size) :
  Calls Tryz.prog 233 #[.pointer (some ⟨bp,0,none⟩)] w (zgn w bp gt cap cur s ts (.name tk.fr tk.to (Tw.zaw s.data.toList tk.fr tk.to)) st'):=by
 have HH:Hid (PCtx w bp gt cap cur s ts st):=h
 have HT:Hid (Tw.tokS ts st=some tk):=ht
 have hbp:=h.zeo
 have hgt:=h.zff
 have hsz:=h.size
 have H2:Hid (Tw.zbe ts tk.sort st=some (r,st')):=hf
 have HB:Hid (Tw.zal tk.sort=true):=hb
 clear h ht hf hb
 go_enter Tryz.func233,Tryz.ntmps233
 go_wp2_with fail
 refine (zbo HH.out HT.out).mono ?_
 rintro e w1 ⟨rfl,hg⟩
 have P1:Hid (PCtx w1 bp gt cap cur s ts st):=HH.out.kept hg
 have K1:Hid (Keep bp w w1):=Keep.of_none hg
 have z1:w.heap.size<=w1.heap.size:=hg.size
 clear hg
 go_wp2_with fail
 refine (zb5 _ _).mono ?_
 rintro e w2 ⟨rfl,rfl⟩
 rw [HB.out]
 go_wp2_with fail
 refine (zb4 (P1.out.alloc _) _ H2.out).mono ?_
 rintro e w3 ⟨rfl,hk,h⟩
 have P3:Hid (PCtx w3 bp gt cap cur s ts st'):=h
 have K3:Hid (Keep bp w w3):=(K1.out.alloc _).trans hk
 have z3:w1.heap.size<w3.heap.size:=by have:=hk.size; simp at this; omega
 have L3:=zaf (hk.at (zad w1 _) (by omega))
 obtain ⟨a0,a1,a2,f0,f1,f2⟩:=L3
 obtain ⟨p0,p1,p2,p3,p4,p5⟩:=P3.out.p
 have hbp3:bp<w3.heap.size:=by omega
 clear hk h p1 p2 p3 p4 p5
 have hq1:(tk.fr:Int)<=(tk.to:Int):=by omega
 have hq2:(tk.to:Int)<=(s.size:Int):=by omega
 go_wp2_with fail
 go_region
 go_wp2_with fail
 go_ret
 go_light
 have NW:=zad (w3.alloc (.cells #[.int .i64 tk.fr,.int .i64 tk.to] 85)) (.cells #[.int .i64 tk.fr,.int .i64 tk.to,.string (s.extract tk.fr tk.to)] 87)
 rw [show (w3.alloc (.cells #[.int .i64 tk.fr,.int .i64 tk.to] 85)).heap.size=w3.heap.size+1 from by simp,zdh] at NW
 rw [zdh]
 exact ⟨_,rfl,((K3.out.alloc _).alloc _).drew,((P3.out.alloc _).alloc _).drew,⟨w3.heap.size+1,by omega,by simp,rfl,NW⟩⟩
end Go.Proofs.YtckhafpejefbbaaGreatDoor
