/- Texts of the proof, put together: KeptAsk, KeptWalk. -/
import Derived.Test.YtckhafpejefbbaaGreatDoorB30
import Derived.Deep.QuietTactic

set_option maxRecDepth 100000
set_option maxHeartbeats 4000000
namespace Go.Proofs.YtckhafpejefbbaaGreatDoor
open Go.RowKit
theorem Tw.ydv {fo:Nat} {l:List UInt8} {k p:Nat} (h:Tw.zcd 6100 fo l=some (.fault k p)):k≠6:=by
 unfold Tw.zcd at h
 split at h
 ·cases h; omega
 ·unfold Tw.zk0 at h
  split at h
  ·cases h; omega
  ·simp only [zbE] at h
   obtain ⟨r,_,h⟩:=h
   split at h
   ·cases h; omega
   ·unfold Tw.zgu at h
    split at h
    ·cases h; omega
    ·simp only [zbE] at h
     obtain ⟨k',_,h⟩:=h
     split at h
     ·cases h; omega
     ·simp only [zbE] at h
      obtain ⟨o,_,h⟩:=h
      cases o with
      | none=>cases h; omega
      | some sh=>cases h
theorem zt0 {P:Program} {id:Nat} {Q:Exit->Act->World->Prop} {a:Act} {w:World} {l:List Oper} (S:World->Prop) (hm:P.follows .mixedOrders=true) (hS:S w.drew)
  (h:S w.drew->wpAnyH P .any l.toArray (zjv Q) S l.toArray.size (Array.replicate l.toArray.size false) a w.drew):(Code.region id l.toArray true).wp P Q a w :=
 wp_mono (Q:=zjv Q) (wp_region_any hm (wpAny_of_held (S:=S) _ _ _ _ (h hS))) (by rintro e a w ⟨rfl,h⟩; exact h)
def Tw.zzq:List (List UInt8):=[[120],[121],[102],[110],[122,122],[114,101,99],[88],[116,111,111,108,111,110,103],[97,49],[],[105,110]]
theorem Tw.ydw:∀y∈Tw.zzq,y.length<=300/\(Tw.isNm y=true->Tw.Nm y):=by
 intro y hy
 simp only [Tw.zzq,zmC,List.not_mem_nil,or_false] at hy
 rcases hy with rfl | rfl | rfl | rfl | rfl | rfl | rfl | rfl | rfl | rfl | rfl
 all_goals first
  | exact ⟨by decide,fun _=>⟨by decide,by decide,by decide,by decide⟩⟩
  | exact ⟨by decide,fun h=>absurd h (by decide)⟩
def yeb:Array Value:=#[.string ⟨#[120]⟩,.string ⟨#[121]⟩,.string ⟨#[102]⟩,.string ⟨#[110]⟩,.string ⟨#[122,122]⟩,.string ⟨#[114,101,99]⟩,.string ⟨#[88]⟩,.string ⟨#[116,111,111,108,111,110,103]⟩,.string ⟨#[97,49]⟩,.string ⟨#[]⟩,.string ⟨#[105,110]⟩]
theorem zyl {i:Nat} (hi:i<11):∃y,y∈Tw.zzq/\yeb[i]? = some (.string ⟨y.toArray⟩):=by
 match i,hi with
 | 0,_=>exact ⟨[120],by decide,rfl⟩
 | 1,_=>exact ⟨[121],by decide,rfl⟩
 | 2,_=>exact ⟨[102],by decide,rfl⟩
 | 3,_=>exact ⟨[110],by decide,rfl⟩
 | 4,_=>exact ⟨[122,122],by decide,rfl⟩
 | 5,_=>exact ⟨[114,101,99],by decide,rfl⟩
 | 6,_=>exact ⟨[88],by decide,rfl⟩
 | 7,_=>exact ⟨[116,111,111,108,111,110,103],by decide,rfl⟩
 | 8,_=>exact ⟨[97,49],by decide,rfl⟩
 | 9,_=>exact ⟨[],by decide,rfl⟩
 | 10,_=>exact ⟨[105,110],by decide,rfl⟩
theorem zso (w:World) :
  Calls Tryz.prog 28 #[] w fun e w'=>e = .returned (.slice (some ⟨w.heap.size,0,none⟩) 11 11)/\w.grownBy w' none/\w'.heap[w.heap.size]? = some (.cells yeb 9 (0,0)):=by
 go_enter Tryz.func28,Tryz.ntmps28
 go_wp2_with fail
 go_ret
 exact ⟨rfl,zwA _ _ none,zad w _⟩
def Asked (w:World) (bt:Nat) (s:ByteArray) (bud:Nat) (r:Int×Nat×List UInt8) (e0:Int) (sh2:List UInt8) (w':World):Prop :=
 ∃s2 t2 fo2 nf2,TextAt w' bt s2 t2/\Tw.zcd 6100 fo2 s2.data.toList=some (.fine t2 sh2)/\Tw.runS nf2 t2 bud=some r/\(e0≠0->s2=s)/\w.grownBy w' (some bt)
theorem zym {w w':World} {b:Nat} (h:w.grownBy w' none):w.grownBy w' (some b) :=
 ⟨h.os,h.tape,h.output,h.size,fun k hk _=>h.block k hk (by simp)⟩
theorem Asked.same {w w':World} {bt:Nat} {s:ByteArray} {t:Tw.T} {sh:List UInt8} {fo nf bud:Nat} {r:Int×Nat×List UInt8} (X:TextAt w bt s t) (HO:Tw.zcd 6100 fo s.data.toList=some (.fine t sh)) (HR:Tw.runS nf t bud=some r) (e0:Int) (hg:w.grownBy w' none):Asked w bt s bud r e0 sh w' :=
 ⟨s,t,fo,nf,X.grown hg,HO,HR,fun _=>rfl,zym hg⟩
theorem zyn (L:Lib6) {w:World} {bt:Nat} {s:ByteArray} {t:Tw.T} {sh:List UInt8} {fo nf bud:Nat} {r:Int×Nat×List UInt8} (X:TextAt w bt s t) (HO:Tw.zcd 6100 fo s.data.toList=some (.fine t sh)) (HR:Tw.runS nf t bud=some r) {n:Tw.T} (hn:n∈t.binds) {a:Int} (h1:(n.bpl:Int)<=a) (h2:a<(n.bpl:Int)+n.bname.length) {y:List UInt8} (hy:y∈Tw.zzq) :
  Calls Tryz.prog 27 #[.pointer (some ⟨bt,0,none⟩),.int .i64 a,.string ⟨y.toArray⟩] w fun e w'=>∃e0:Int,e = .returned (.int .i64 e0)/\e0≠6/\Asked w bt s bud r e0 sh w':=by
 obtain ⟨body,hop,_⟩:=zkz HO
 obtain ⟨hy1,hy2⟩:=Tw.ydw y hy
 obtain ⟨l',k,hI,hk⟩:=zyj L.bd (name:=⟨y.toArray⟩) hop hn h1 h2 (by show y.toArray.size<=300; simpa using hy1) (by simpa using hy2)
 rcases hk with ⟨rfl,hN,hc,hl⟩ | rfl | rfl
 ·simp only at hN hc hl
  obtain ⟨res,hres,hcase⟩:=Tw.ydt HO hn hN hc
  rw [<-hl] at hres
  rcases hcase with ⟨kf,p,rfl⟩ | ⟨t',rfl,hrun⟩
  ·refine (zfr X hI (kk:=kf) (Q:=fun w'=>w.grownBy w' none) fun W hW=>(znt L.ib L.pi L.it W bt hres (Tw.zrc hres)).mono ?_).mono ?_
   ·rintro e w' ⟨rfl,hg⟩
    exact ⟨rfl,zaa hW hg⟩
   ·rintro e w' ⟨rfl,hg⟩
    exact ⟨_,rfl,by have:=Tw.ydv hres; omega,Asked.same X HO HR _ hg⟩
  ·refine (zfr X hI (kk:=0) (Q:=fun w'=>TextAt w' bt l' t'/\w.grownBy w' (some bt)) fun W hW=>(zpd L.ib L.pi L.it (X.grown hW) hres).mono ?_).mono ?_
   ·rintro e w' ⟨rfl,hT,hg⟩
    exact ⟨rfl,hT,zoq hW hg⟩
   ·rintro e w' ⟨rfl,hT,hg⟩
    exact ⟨_,rfl,by decide,l',t',fo,nf,hT,hres,hrun _ _ _ HR,fun h=>absurd rfl h,hg⟩
 ·refine (zfr X hI (kk:=7) (Q:=fun w'=>w.grownBy w' none) fun W hW=>(zhq W bt l' (by decide)).mono ?_).mono ?_
  ·rintro e w' ⟨rfl,hg⟩
   exact ⟨rfl,zaa hW hg⟩
  ·rintro e w' ⟨rfl,hg⟩
   exact ⟨_,rfl,by decide,Asked.same X HO HR _ hg⟩
 ·refine (zfr X hI (kk:=8) (Q:=fun w'=>w.grownBy w' none) fun W hW=>(zhq W bt l' (by decide)).mono ?_).mono ?_
  ·rintro e w' ⟨rfl,hg⟩
   exact ⟨rfl,zaa hW hg⟩
  ·rintro e w' ⟨rfl,hg⟩
   exact ⟨_,rfl,by decide,Asked.same X HO HR _ hg⟩
theorem zyo (L:Lib6) {w:World} {bt:Nat} {s:ByteArray} {t:Tw.T} {sh:List UInt8} {fo nf bud:Nat} {r:Int×Nat×List UInt8} (X:TextAt w bt s t) (HO:Tw.zcd 6100 fo s.data.toList=some (.fine t sh)) (HR:Tw.runS nf t bud=some r) {n:Tw.T} (hn:n∈t.binds) {a:Int} (h1:(n.bpl:Int)<=a) (h2:a<(n.bpl:Int)+n.bname.length) :
  Calls Tryz.prog 26 #[.pointer (some ⟨bt,0,none⟩),.int .i64 a] w fun e w'=>∃e0:Int,e = .returned (.int .i64 e0)/\∃sh2,Asked w bt s bud r e0 sh2 w':=by
 obtain ⟨body,hop,hG⟩:=zkz HO
 obtain ⟨l',k,hI,hk⟩:=zyk L.bd hop hG hn h1 h2
 have refused:k≠0->Calls Tryz.prog 26 #[.pointer (some ⟨bt,0,none⟩),.int .i64 a] w fun e w'=>∃e0:Int,e = .returned (.int .i64 e0)/\∃sh2,Asked w bt s bud r e0 sh2 w':=fun hk0=>by
  refine (zhr X hI (kk:=k) (Q:=fun w'=>w.grownBy w' none) fun W hW=>(zhq W bt l' hk0).mono ?_).mono ?_
  ·rintro e w' ⟨rfl,hg⟩
   exact ⟨rfl,zaa hW hg⟩
  ·rintro e w' ⟨rfl,hg⟩
   exact ⟨_,rfl,_,Asked.same X HO HR _ hg⟩
 rcases hk with ⟨rfl,⟨f0,t0,k0,x,d,b,he,hv,hc⟩,hl⟩ | rfl | rfl | rfl
 ·obtain ⟨fo',res,hres,hcase⟩:=Tw.ydu HO hn he hv hc
  rw [<-hl] at hres
  rcases hcase with ⟨kf,p,rfl⟩ | ⟨t',sh',rfl,hrun⟩
  ·refine (zhr X hI (kk:=kf) (Q:=fun w'=>w.grownBy w' none) fun W hW=>(znt L.ib L.pi L.it W bt hres (Tw.zrc hres)).mono ?_).mono ?_
   ·rintro e w' ⟨rfl,hg⟩
    exact ⟨rfl,zaa hW hg⟩
   ·rintro e w' ⟨rfl,hg⟩
    exact ⟨_,rfl,_,Asked.same X HO HR _ hg⟩
  ·obtain ⟨m',hm'⟩:=hrun _ _ _ HR
   refine (zhr X hI (kk:=0) (Q:=fun w'=>TextAt w' bt l' t'/\w.grownBy w' (some bt)) fun W hW=>(zpd L.ib L.pi L.it (X.grown hW) hres).mono ?_).mono ?_
   ·rintro e w' ⟨rfl,hT,hg⟩
    exact ⟨rfl,hT,zoq hW hg⟩
   ·rintro e w' ⟨rfl,hT,hg⟩
    exact ⟨_,rfl,sh',l',t',fo',m',hT,hres,hm',fun h=>absurd rfl h,hg⟩
 ·exact refused (by decide)
 ·exact refused (by decide)
 ·exact refused (by decide)
open Go.RowKit
structure zt6 (w:World) (ar:Option Addr) (len:Nat):Prop where
 small:len<=9223372036854775807
 get:∀i,i<len->∃a k p n,ar=some a/\w.cell? (a.add (i * 3))=some (.int .i64 k)/\w.cell? ⟨(a.add (i * 3)).block,(a.add (i * 3)).off+1,none⟩=some (.int .i64 p)/\w.cell? ⟨(a.add (i * 3)).block,(a.add (i * 3)).off+2,none⟩=some (.int .i64 n)/\(-9223372036854775808<=p/\p<=9223372036854775807) /\ -9223372036854775808<=n/\n<=9223372036854775807
theorem yf7 {z:Int} {N:Nat} (h0 : -9223372036854775808<=z) (h1:z<=9223372036854775807) (hN:0<N) : -9223372036854775808<=z.tdiv N/\z.tdiv N<=9223372036854775807:=by
 have key:∀y:Int,0<=y->0<=y.tdiv N/\y.tdiv N<=y:=fun y hy=>by
  rw [Int.tdiv_eq_ediv_of_nonneg hy]
  exact ⟨Int.ediv_nonneg hy (by omega),Int.ediv_le_self _ hy⟩
 by_cases h:0<=z
 ·have:=key z h
  omega
 ·have e:z.tdiv N = -((-z).tdiv N):=by rw [Int.neg_tdiv,Int.neg_neg]
  have:=key (-z) (by omega)
  rw [e]
  omega
theorem ydx (L:Lib6) {w:World} (hT:Tab w) (hG:1<w.heap.size) (s:ByteArray) {ar:Option Addr} {len cap:Nat} (hR:zt6 w ar len) (steps:Int) :
  Calls Tryz.prog 11 #[.string s,.slice ar len cap,.int .i64 steps] w fun e w'=>e = .returned (.bool true)/\w.grownBy w' none:=by
 have HT:=bV hT
 have HR:=bV hR
 obtain ⟨fo,res,hres⟩:=Tw.zuz s.data.toList
 have HRes:=bV (hres fo (znL _))
 clear hT hres hR
 cases res with
 | fault k p =>
  have hk0:=Tw.zrc (uh HRes)
  have hki:¬(k:Int)=0:=by omega
  have hkb:((k:Int) != 0)=true:=by simp; omega
  go_enter Tryz.func11,Tryz.ntmps11
  go_wp2_with fail
  refine (zsh L.toLib4 (uh HT) hG).mono ?_
  rintro e1 w1 ⟨rfl,hk⟩
  have K1:=bV hk.grown
  clear hk
  go_wp2_with fail
  refine (zqh L.ib L.pi L.it (uh HRes) w1).mono ?_
  rintro e1 w2 ⟨rfl,hk⟩
  have K2:=bV (zaa (uh K1) hk.grown)
  clear hk
  go_wp2_with fail
  go_ret
  exact ⟨rfl,uh K2⟩
 | fine t0 sh0 =>
  obtain ⟨nf,⟨rk,rs,rsh⟩,hrun⟩:=Tw.yc8 (uh HRes) (zjn steps)
  have HRun:=bV hrun
  have hsm:=(uh HR).small
  clear hrun
  go_enter Tryz.func11,Tryz.ntmps11
  go_wp2_with fail
  refine (zsh L.toLib4 (uh HT) hG).mono ?_
  rintro e1 w1 ⟨rfl,hk⟩
  have K1:=bV hk.grown
  clear hk
  go_wp2_with fail
  refine (zv5 L.ib L.pi L.it (uh HRes) w1).mono ?_
  rintro e1 w2 ⟨bt,rfl,hX,hg,hbt⟩
  have X2:=bV hX
  have K2:=bV (zaa (uh K1) hg)
  have hbw:w.heap.size<=bt:=Nat.le_trans (uh K1).size hbt
  clear hX hg hbt K1
  go_wp2_with fail
  refine (zk7 L.fi L.fb steps (uh X2) ((uh HT).tk (TK.of_grown w.heap.size [] (uh K2)) hG) (by have:=(uh K2).size; omega) (uh HRun)).mono ?_
  rintro e1 w4 ⟨rfl,hk⟩
  have X4:=bV ((uh X2).tk (TK.of_grown 0 [] hk.grown) (by decide))
  have K4:=bV (zaa (uh K2) hk.grown)
  have lb:bt<w4.heap.size:=by obtain ⟨_,_,hb,_⟩:=X4.out; exact (zgE.1 hb).1
  clear hk X2 K2
  go_wp2_with fail
  obtain ⟨w5,hw5⟩:∃w5,w4.alloc (.cells #[.int .i64 rk,.int .i64 rs,ug rsh] 39)=w5:=⟨_,rfl⟩
  have g5:w4.grownBy w5 none:=by rw [<-hw5]; exact zwA _ _ none
  have C5:Hid (w5.heap[w4.heap.size]? = some (.cells #[.int .i64 rk,.int .i64 rs,ug rsh] 39 (0,0))):=by rw [<-hw5]; exact zad w4 _
  have X5:=bV ((uh X4).grown g5)
  have K5:=bV (zaa (uh K4) g5)
  obtain ⟨r4,hr4⟩:∃r4,w4.heap.size=r4:=⟨_,rfl⟩
  rw [hr4] at C5 lb
  rw [hw5,hr4]
  clear hw5 hr4 g5 X4 K4
  go_loopg [12] len (fun j iv wr=>∃q:Nat,∃s t sh fo nf,j+q=len/\q<=len/\iv = .int .i64 q/\Hid (w.grownBy wr none)/\Hid (wr.heap[r4]? = some (.cells #[.int .i64 rk,.int .i64 rs,ug rsh] 39 (0,0)))/\Hid (TextAt wr bt s t)/\Hid (Tw.zcd 6100 fo s.data.toList=some (.fine t sh))/\Hid (Tw.runS nf t (zjn steps)=some (rk,rs,rsh)))
  case atStart=>exact ⟨0,s,t0,sh0,fo,nf,by omega,by omega,rfl,K5,C5,X5,HRes,HRun⟩
  case round =>
   obtain ⟨q,s1,t,sh,fo1,nf1,hj,hq,rfl,K,C,X,HO,HRn⟩:=hrel
   by_cases hlt:q<len
   ·have hli:(q:Int)<(len:Int):=by omega
    clear K5 C5 X5 HRes HRun
    obtain ⟨body,hop,hGr⟩:=zkz (uh HO)
    have HOP:=bV hop
    have HGR:=bV hGr
    have hnn:=zyf (uh HO)
    clear hop hGr
    go_wp2_with fail
    refine (zpo (uh X) (uh HOP) hnn).mono ?_
    rintro e1 w6 ⟨⟨lv,rfl,hB⟩,hg⟩
    have X6:=bV ((uh X).grown hg)
    have K6:=bV (zaa (uh K) hg)
    have C6:=bV (zbG hg (uh C))
    have B6:=bV hB
    have hNl:t.binds.length<=300:=by
     have:=(Tw.zda t).length_le
     rw [List.length_map] at this
     exact Nat.le_trans this (uh HOP).small
    have hsl:∃p cc,lv = .slice p t.binds.length cc:=by
     obtain ⟨E,e1,hr,_⟩:=hB
     obtain ⟨p,cc,e⟩:=zhb hr
     exact ⟨p,cc,by rw [e,<-e1,List.length_map]⟩
    obtain ⟨p,cc,rfl⟩:=hsl
    clear hB hg X K C
    by_cases hN:t.binds.length=0
    ·have hNi:(t.binds.length:Int)=0:=by omega
     go_wp2_with fail
     go_ret
     exact ⟨rfl,uh K6⟩
    ·have hNi:¬(t.binds.length:Int)=0:=by omega
     obtain ⟨ad,ck,cp,cn,rfl,z0,z1,z2,hp,hn0,hn1⟩:=(uh HR).get q hlt
     have s0:=cell_kept z0 (uh K6) (by simp)
     have s1':=cell_kept z1 (uh K6) (by simp)
     have s2:=cell_kept z2 (uh K6) (by simp)
     have Z0:=bV z0
     have Z2:=bV z2
     clear z0 z1 z2
     obtain ⟨i,hi,hpick⟩:=zqq cp t.binds.length hp.1 hp.2 (by omega) (by omega)
     obtain ⟨n,hn⟩:∃n,t.binds[i]? = some n:=⟨_,List.getElem?_eq_getElem hi⟩
     obtain ⟨g,cc',u,e1,cnm,ca,cu,hu⟩:=(uh B6).get hn
     cases e1
     obtain ⟨pu,cu2,rfl,_⟩:=hu.get
     have HP:=bV hpick
     have hii:(i:Int)<t.binds.length:=by omega
     clear hpick hu
     have hnm0:0<n.bname.length:=List.length_pos_iff.2 (Tw.ztz (uh HO) (List.mem_of_getElem? hn)).ne
     have hnm6:n.bname.length<=6:=(Tw.ztz (uh HO) (List.mem_of_getElem? hn)).len
     have hbp:n.bpl+n.bname.length<=300:=((uh HOP).bind (List.mem_of_getElem? hn)).2
     have hns:n.bname.toArray.size=n.bname.length:=by simp
     go_wp2_with fail
     refine (uh HP w6).mono ?_
     rintro e1 w7 ⟨rfl,rfl⟩
     simp only [ug] at cnm
     obtain ⟨W7,hW7⟩:∃W7,w6.alloc (.cells #[.string ⟨n.bname.toArray⟩,.int .i64 n.bpl,.slice pu n.useS.length cu2] 48)=W7:=⟨_,rfl⟩
     have g7:w6.grownBy W7 none:=by rw [<-hW7]; exact zwA _ _ none
     have b7:W7.heap[w6.heap.size]? = some (.cells #[.string ⟨n.bname.toArray⟩,.int .i64 n.bpl,.slice pu n.useS.length cu2] 48 (0,0)):=by rw [<-hW7]; exact zad w6 _
     obtain ⟨c70,c71,_,_,_,_⟩:=zaf b7
     have S7:Hid (W7.cell? (ad.add (q * 3))=some (.int .i64 ck)/\W7.cell? ⟨(ad.add (q * 3)).block,(ad.add (q * 3)).off+1,none⟩=some (.int .i64 cp)/\W7.cell? ⟨(ad.add (q * 3)).block,(ad.add (q * 3)).off+2,none⟩=some (.int .i64 cn)):=bV ⟨cell_kept s0 g7 (by simp),cell_kept s1' g7 (by simp),cell_kept s2 g7 (by simp)⟩
     have X7:=bV ((uh X6).grown g7)
     have K7:=bV (zaa (uh K6) g7)
     have C7:=bV (zbG g7 (uh C6))
     obtain ⟨f1,f2,f3⟩:=S7.out
     have hq0:((t.binds.length:Int)==0)=false:=beq_eq_false_iff_ne.2 hNi
     have htd:=yf7 (N:=t.binds.length) hp.1 hp.2 (by omega)
     obtain ⟨j2,hj2,hpick2⟩:=zqq (cp.tdiv t.binds.length) n.bname.length htd.1 htd.2 hnm0 (by omega)
     have HP2:=bV hpick2
     have D7:Hid (W7.grownBy W7.drew none):=zac (zab _)
     clear g7 b7 X6 K6 C6 B6 hpick2
     go_wp2_with fail
     go_quiet (first | (go_at_call 17; refine Calls.quiet_of_same ((uh HP2 _).mono fun _ _ ⟨he,hw⟩=>⟨he,hw.symm⟩)))
     obtain ⟨W8,hW8⟩:∃W8,W7.drewN nq=W8:=⟨_,rfl⟩
     have g8:W7.grownBy W8 none:=by rw [<-hW8]; exact za4 _ _
     have S8:Hid (W8.cell? (ad.add (q * 3))=some (.int .i64 ck)/\W8.cell? ⟨(ad.add (q * 3)).block,(ad.add (q * 3)).off+2,none⟩=some (.int .i64 cn)):=bV ⟨cell_kept f1 g8 (by simp),cell_kept f3 g8 (by simp)⟩
     have X8:=bV ((uh X7).grown g8)
     have K8:=bV (zaa (uh K7) g8)
     have C8:=bV (zbG g8 (uh C7))
     rw [hW8]
     clear hW8 g8 X7 K7 C7 S7 D7 f1 f2 f3 c70 c71 s0 s1' s2 cnm ca cu HP2 HP hq0 hii htd
     go_wp2_with fail
     refine (zhl (uh X8)).mono ?_
     rintro e1 w9 ⟨rfl,rfl⟩
     go_wp2_with fail
     obtain ⟨_,_,_,_,_,htr⟩:=Tw.zcw (uh HO)
     have HOf:=bV (Tw.ze4 htr).2.2.2
     clear htr
     refine (ziv (S:=WtS) (uh X8) (zho L.it (uh HOf))).mono ?_
     rintro e1 w9 ⟨rfl,hk⟩
     have X9:=bV ((uh X8).tk (TK.of_grown 0 [] hk.grown) (by decide))
     have K9:=bV (zaa (uh K8) hk.grown)
     have C9:=bV (zbG hk.grown (uh C8))
     have S9:Hid (w9.cell? (ad.add (q * 3))=some (.int .i64 ck)/\w9.cell? ⟨(ad.add (q * 3)).block,(ad.add (q * 3)).off+2,none⟩=some (.int .i64 cn)):=bV ⟨cell_kept S8.out.1 hk.grown (by simp),cell_kept S8.out.2 hk.grown (by simp)⟩
     clear hk X8 K8 C8 S8
     obtain ⟨f1,f3⟩:=S9.out
     cases hbr:(bits BinOp.and IntKind.i64 ck 1==1)
     ·go_wp2_with fail
      have hqi:(q:Int)<(len:Int):=by omega
      have hmx:Tryz.prog.follows .mixedOrders=true:=by kernel_rfl
      obtain ⟨j3,hj3,hpick3⟩:=zqq cn 11 hn0 hn1 (by decide) (by decide)
      have HP3:=bV hpick3
      obtain ⟨y,hy,hyc⟩:=zyl hj3
      have hj3i:(j3:Int)<11:=by omega
      clear hpick3 f1
      have CL:Hid (∀W,w9.grownBy W none->W.cell? ⟨(ad.add (q * 3)).block,(ad.add (q * 3)).off+2,none⟩=some (.int .i64 cn)):=bV fun W hW=>cell_kept f3 hW (by simp)
      refine zt0 (fun W=>W.cell? ⟨(ad.add (q * 3)).block,(ad.add (q * 3)).off+2,none⟩=some (.int .i64 cn)) hmx (uh CL _ (zac (zab _))) ?_
      intro hSd
      refine tkH 0 (oi:=⟨some 95,.move (.tmp 8),26,"keeps.go:212",#[],none⟩) (v:=.pointer (some ⟨bt,0,none⟩)) rfl (fun W _=>by go_simp) hSd ?_
      simp only [Act.put,zsA,zsZ,zsS]
      refine tkH 1 (oi:=⟨some 96,.move (.tmp 15),3,"keeps.go:212",#[],none⟩) (v:=.int .i64 ((n.bpl:Int)+j2)) rfl (fun W _=>by go_simp) hSd ?_
      simp only [Act.put,zsA,zsZ,zsS]
      refine tkH 3 (oi:=⟨some 98,.move (.tmp 1),44,"keeps.go:212",#[],none⟩) (v:=.slice (some ad) len cap) rfl (fun W _=>by go_simp) hSd ?_
      simp only [Act.put,zsA,zsZ,zsS]
      refine tkH 4 (oi:=⟨some 99,.move (.tmp 12),3,"keeps.go:212",#[],none⟩) (v:=.int .i64 q) rfl (fun W _=>by go_simp) hSd ?_
      simp only [Act.put,zsA,zsZ,zsS]
      refine tkH 5 (oi:=⟨some 100,.indexAddr 44 (.tmp 98) (.tmp 99),0,"keeps.go:212",#[⟨3,.data⟩,⟨4,.data⟩],none⟩) (v:=.pointer (some (ad.add (q * 3)))) rfl (fun W _=>by go_simp) hSd ?_
      simp only [Act.put,zsA,zsZ,zsS]
      refine tkH 6 (oi:=⟨some 101,.fieldAddr 50 (.tmp 100) 2,0,"keeps.go:212",#[⟨5,.data⟩],none⟩) (v:=.pointer (some ⟨(ad.add (q * 3)).block,(ad.add (q * 3)).off+2,none⟩)) rfl (fun W _=>by go_simp) hSd ?_
      simp only [Act.put,zsA,zsZ,zsS]
      refine tkH 7 (oi:=⟨some 102,.load 3 (.tmp 101),3,"keeps.go:212",#[⟨6,.data⟩],none⟩) (v:=.int .i64 cn) rfl (fun W hSW=>by go_simp) hSd ?_
      simp only [Act.put,zsA,zsZ,zsS]
      refine wpAnyH_ready (rs:=[2]) (by kernel_rfl) (by simp) ?_
      refine AllReadyH.cons (o:=⟨some 97,.call ⟨.value (.func 28),#[],#[]⟩,30,"keeps.go:212",#[],none⟩) rfl (fun K hK => ?_) AllReadyH.nil
      go_simp
      refine (zso _).mono ?_
      rintro e1 W1 ⟨rfl,g1,b1⟩
      have G1:=bV (zaa (zac (zab w9)) g1)
      have B1:=bV b1
      obtain ⟨nb,hnb⟩:∃nb,w9.drew.heap.size=nb:=⟨_,rfl⟩
      rw [hnb] at B1 ⊢
      refine hK.out _ _ (uh CL _ G1.out) (fun hSd => ?_)
      clear hK K g1 b1 hnb
      refine wpAnyH_ready (rs:=[8]) (by kernel_rfl) (by simp) ?_
      refine AllReadyH.cons (o:=⟨some 103,.call ⟨.value (.func 28),#[],#[]⟩,30,"keeps.go:212",#[⟨2,.chain⟩],none⟩) rfl (fun K hK => ?_) AllReadyH.nil
      go_simp
      refine (zso _).mono ?_
      rintro e1 W2 ⟨rfl,g1,b1⟩
      have G2:=bV (zaa G1.out g1)
      have B2:=bV (zbG g1 (uh B1))
      refine hK.out _ _ (uh CL _ G2.out) (fun hSd => ?_)
      clear hK K g1 b1 G1 B1
      refine wpAnyH_ready (rs:=[9]) (by kernel_rfl) (by simp) ?_
      refine AllReadyH.cons (o:=⟨some 104,.call ⟨.builtin .len,#[.tmp 103],#[30]⟩,3,"keeps.go:212",#[⟨8,.data⟩],none⟩) rfl (fun K hK => ?_) AllReadyH.nil
      go_simp
      refine hK.out _ _ (uh CL _ G2.out) (fun hSd => ?_)
      clear hK K
      refine wpAnyH_ready (rs:=[10]) (by kernel_rfl) (by simp) ?_
      refine AllReadyH.cons (o:=⟨some 105,.call ⟨.value (.func 17),#[.tmp 102,.tmp 104],#[3,3]⟩,3,"keeps.go:212",#[⟨7,.data⟩,⟨9,.data⟩,⟨8,.chain⟩],none⟩) rfl (fun K hK => ?_) AllReadyH.nil
      go_simp
      refine (uh HP3 _).mono ?_
      rintro e1 W3 ⟨rfl,rfl⟩
      refine hK.out _ _ (uh CL _ G2.out) (fun hSd => ?_)
      clear hK K
      refine wpAnyH_ready (rs:=[11]) (by kernel_rfl) (by simp) ?_
      refine AllReadyH.cons (o:=⟨some 106,.indexAddr 30 (.tmp 97) (.tmp 105),0,"keeps.go:212",#[⟨2,.data⟩,⟨10,.data⟩],none⟩) rfl (fun K hK => ?_) AllReadyH.nil
      go_simp
      refine hK.out _ _ (uh CL _ G2.out) (fun hSd => ?_)
      clear hK K
      refine wpAnyH_ready (rs:=[12]) (by kernel_rfl) (by simp) ?_
      refine AllReadyH.cons (o:=⟨some 107,.load 9 (.tmp 106),9,"keeps.go:212",#[⟨11,.data⟩],none⟩) rfl (fun K hK => ?_) AllReadyH.nil
      have c12:W2.cell? ⟨nb,j3,none⟩=some (.string ⟨y.toArray⟩):=by rw [cell_of_row _ _ _ _ _ _ (uh B2)]; exact hyc
      go_simp
      refine hK.out _ _ (uh CL _ G2.out) (fun hSd => ?_)
      clear hK K c12
      refine wpAnyH_ready (rs:=[13]) (by kernel_rfl) (by simp) ?_
      refine AllReadyH.cons (o:=⟨some 108,.call ⟨.value (.func 27),#[.tmp 95,.tmp 96,.tmp 107],#[26,3,9]⟩,27,"keeps.go:212",#[⟨0,.data⟩,⟨1,.data⟩,⟨12,.data⟩,⟨10,.chain⟩],none⟩) rfl (fun K hK => ?_) AllReadyH.nil
      go_simp
      have X9':=bV ((uh X9).grown G2.out)
      have K9':=bV (zaa (uh K9) G2.out)
      have C9':=bV (zbG G2.out (uh C9))
      clear X9 K9 C9
      refine (zyn L (uh X9') (uh HO) (uh HRn) (List.mem_of_getElem? hn) (a:=(n.bpl:Int)+j2) (by omega) (by omega) hy).mono ?_
      rintro e1 w10 ⟨e0,rfl,he6,s2,t2,fo2,nf2,hX,hO2,hR2,hsame,hg⟩
      have K9:=K9'
      have C9:=C9'
      have X9:=X9'
      refine hK.out _ _ (cell_kept (uh Z2) (zlh (uh K9) hg hbw) (by simp)) (fun hSd => ?_)
      clear hK K X9' K9' C9'
      refine wpAnyH_ready (rs:=[14]) (by kernel_rfl) (by simp) ?_
      refine AllReadyH.cons (o:=⟨some 18,.assign (.tmp 108),27,"keeps.go:212",#[⟨13,.data⟩,⟨13,.chain⟩,⟨0,.phase⟩,⟨1,.phase⟩,⟨2,.phase⟩,⟨3,.phase⟩,⟨4,.phase⟩,⟨5,.phase⟩,⟨6,.phase⟩,⟨7,.phase⟩,⟨8,.phase⟩,⟨9,.phase⟩,⟨10,.phase⟩,⟨11,.phase⟩,⟨12,.phase⟩,⟨13,.phase⟩],none⟩) rfl (fun K hK => ?_) AllReadyH.nil
      go_simp
      refine hK.out _ _ (cell_kept (uh Z2) (zlh (uh K9) hg hbw) (by simp)) (fun hSd => ?_)
      clear hK K hSd
      refine wpAnyH_done (by kernel_rfl) ⟨rfl,?_⟩ _
      have K10:=bV (zlh (uh K9) hg hbw)
      have X10:=bV hX
      have O10:=bV hO2
      have R10:=bV hR2
      have C10:=bV ((hg.block r4 (zgE.1 (uh C9)).1 (by intro e; cases e; omega)).trans (uh C9))
      have HSM:=bV hsame
      clear hg hX hO2 hR2 hsame f3 S9 CL G2 B2 X9 K9 C9 HO HRn HOf HOP HGR
      go_wp2_with fail
      refine (zhl (uh X10)).mono ?_
      rintro e1 w11 ⟨rfl,rfl⟩
      go_wp2_with fail
      refine (zsn L.ib L.pi L.it (uh O10) _).mono ?_
      rintro e1 w12 ⟨bu,rfl,hU,hg,hbu⟩
      have X12:=bV ((uh X10).grown hg)
      have U12:=bV hU
      have K12:=bV (zaa (uh K10) hg)
      have C12:=bV (zbG hg (uh C10))
      clear hg hU X10 K10 C10
      go_wp2_with fail
      refine (zk7 L.fi L.fb steps (uh X12) ((uh HT).tk (TK.of_grown w.heap.size [] (uh K12)) hG) (by have:=(uh K12).size; omega) (uh R10)).mono ?_
      rintro e1 w13 ⟨rfl,hk⟩
      have X13:=bV ((uh X12).tk (TK.of_grown 0 [] hk.grown) (by decide))
      have U13:=bV ((uh U12).tk (TK.of_grown 0 [] hk.grown) (by decide))
      have K13:=bV (zaa (uh K12) hk.grown)
      have C13:=bV (zbG hk.grown (uh C12))
      clear hk X12 U12 K12 C12
      have g14:w13.grownBy (w13.alloc (.cells #[.int .i64 rk,.int .i64 rs,.string ⟨rsh.toArray⟩] 39)) none:=zwA _ _ none
      have P14:Hid ((w13.alloc (.cells #[.int .i64 rk,.int .i64 rs,.string ⟨rsh.toArray⟩] 39)).heap[w13.heap.size]? = some (.cells #[.int .i64 rk,.int .i64 rs,.string ⟨rsh.toArray⟩] 39 (0,0))):=zad w13 _
      have X14:=bV ((uh X13).grown g14)
      have U14:=bV ((uh U13).grown g14)
      have K14:=bV (zaa (uh K13) g14)
      have C14:=bV (zbG g14 (uh C13))
      clear X13 U13 K13 C13 g14
      simp only [ug] at C14
      obtain ⟨o0,o1,o2,_,_,_⟩:=zaf (uh C14)
      obtain ⟨p0,p1,p2,_,_,_⟩:=zaf (uh P14)
      have k0:=cell_kept (uh Z0) (uh K14) (by simp)
      have b6:(e0==6)=false:=by simpa using he6
      have hS:e0=0\/(((e0==0)=false/\(e0 != 0)=true)/\s2=s1):=by
       rcases Classical.em (e0=0) with h | h
       ·exact .inl h
       ·exact .inr ⟨⟨by simpa using h,by simpa using h⟩,uh HSM h⟩
      clear HSM
      rcases hS with rfl | ⟨⟨b0,b1⟩,rfl⟩
      all_goals
       go_wp2_with fail
       obtain ⟨r13,hr13⟩:∃r13,w13.heap.size=r13:=⟨_,rfl⟩
       generalize hW14:w13.alloc (.cells #[.int .i64 rk,.int .i64 rs,.string ⟨rsh.toArray⟩] 39)=w14 at *
       rw [hr13] at P14 ⊢
       clear hW14 hr13 o0 o1 o2 p0 p1 p2 k0
       refine (zk7 L.fi L.fb steps (uh U14) ((uh HT).tk (TK.of_grown w.heap.size [] (uh K14)) hG) (by have:=(uh K14).size; omega) (uh R10)).mono ?_
       rintro e1 w15 ⟨rfl,hk⟩
       have X15:=bV ((uh X14).tk (TK.of_grown 0 [] hk.grown) (by decide))
       have U15:=bV ((uh U14).tk (TK.of_grown 0 [] hk.grown) (by decide))
       have K15:=bV (zaa (uh K14) hk.grown)
       have C15:=bV (zbG hk.grown (uh C14))
       have P15:=bV (zbG hk.grown (uh P14))
       clear hk X14 U14 K14 C14 P14
       go_wp2_with fail
       obtain ⟨w16,hw16⟩:∃w16,w15.alloc (.cells #[.int .i64 rk,.int .i64 rs,.string ⟨rsh.toArray⟩] 39)=w16:=⟨_,rfl⟩
       have g16:w15.grownBy w16 none:=by rw [<-hw16]; exact zwA _ _ none
       have Q16:Hid (w16.heap[w15.heap.size]? = some (.cells #[.int .i64 rk,.int .i64 rs,.string ⟨rsh.toArray⟩] 39 (0,0))):=by rw [<-hw16]; exact zad w15 _
       have X16:=bV ((uh X15).grown g16)
       have U16:=bV ((uh U15).grown g16)
       have K16:=bV (zaa (uh K15) g16)
       have C16:=bV (zbG g16 (uh C15))
       have P16:=bV (zbG g16 (uh P15))
       obtain ⟨r15,hr15⟩:∃r15,w15.heap.size=r15:=⟨_,rfl⟩
       rw [hr15] at Q16
       rw [hw16,hr15]
       clear hw16 hr15 g16 X15 U15 K15 C15 P15
       obtain ⟨_,_,_,_,_,htr⟩:=Tw.zcw (uh O10)
       have HOf:=bV (Tw.ze4 htr).2.2.2
       clear htr
       refine (ziv (S:=WtS) (uh X16) (zho L.it (uh HOf))).mono ?_
       rintro e1 w17 ⟨rfl,hk⟩
       have X17:=bV ((uh X16).tk (TK.of_grown 0 [] hk.grown) (by decide))
       have U17:=bV ((uh U16).tk (TK.of_grown 0 [] hk.grown) (by decide))
       have K17:=bV (zaa (uh K16) hk.grown)
       have C17:=bV (zbG hk.grown (uh C16))
       have P17:=bV (zbG hk.grown (uh P16))
       have Q17:=bV (zbG hk.grown (uh Q16))
       clear hk X16 U16 K16 C16 P16 Q16
       obtain ⟨p0,p1,p2,_,_,_⟩:=zaf (uh P17)
       obtain ⟨q0,q1,q2,_,_,_⟩:=zaf (uh Q17)
       have k0:=cell_kept (uh Z0) (uh K17) (by simp)
       go_wp2_with fail
       refine (ziv (S:=WtS) (uh U17) (zho L.it (uh HOf))).mono ?_
       rintro e1 w18 ⟨rfl,hk⟩
       have X18:=bV ((uh X17).tk (TK.of_grown 0 [] hk.grown) (by decide))
       have K18:=bV (zaa (uh K17) hk.grown)
       have C18:=bV (zbG hk.grown (uh C17))
       clear hk X17 U17 K17 C17 P17 Q17 p0 p1 p2 q0 q1 q2 k0
       have k0:=cell_kept (uh Z0) (uh K18) (by simp)
       cases hz:(bits BinOp.and IntKind.i64 ck 1==0)
       all_goals
        go_wp2_with fail
        go_roundg (gk-1)
        case measure=>omega
        case rel=>exact ⟨q+1,_,t2,sh,fo2,nf2,by omega,by omega,by go_num,K18,C18,X18,O10,R10⟩
     ·have hk1:bits BinOp.and IntKind.i64 ck 1=1:=by simpa using hbr
      go_wp2_with fail
      refine (zyo L (uh X9) (uh HO) (uh HRn) (List.mem_of_getElem? hn) (a:=(n.bpl:Int)+j2) (by omega) (by omega)).mono ?_
      rintro e1 w10 ⟨e0,rfl,sh2,s2,t2,fo2,nf2,hX,hO2,hR2,hsame,hg⟩
      have K10:=bV (zlh (uh K9) hg hbw)
      have X10:=bV hX
      have O10:=bV hO2
      have R10:=bV hR2
      have C10:=bV ((hg.block r4 (zgE.1 (uh C9)).1 (by intro e; cases e; omega)).trans (uh C9))
      have HSM:=bV hsame
      clear hg hX hO2 hR2 hsame f1 f3 S9 X9 K9 C9 HO HRn HOf HOP HGR
      go_wp2_with fail
      refine (zhl (uh X10)).mono ?_
      rintro e1 w11 ⟨rfl,rfl⟩
      go_wp2_with fail
      refine (zsn L.ib L.pi L.it (uh O10) _).mono ?_
      rintro e1 w12 ⟨bu,rfl,hU,hg,hbu⟩
      have X12:=bV ((uh X10).grown hg)
      have U12:=bV hU
      have K12:=bV (zaa (uh K10) hg)
      have C12:=bV (zbG hg (uh C10))
      clear hg hU X10 K10 C10
      go_wp2_with fail
      refine (zk7 L.fi L.fb steps (uh X12) ((uh HT).tk (TK.of_grown w.heap.size [] (uh K12)) hG) (by have:=(uh K12).size; omega) (uh R10)).mono ?_
      rintro e1 w13 ⟨rfl,hk⟩
      have X13:=bV ((uh X12).tk (TK.of_grown 0 [] hk.grown) (by decide))
      have U13:=bV ((uh U12).tk (TK.of_grown 0 [] hk.grown) (by decide))
      have K13:=bV (zaa (uh K12) hk.grown)
      have C13:=bV (zbG hk.grown (uh C12))
      clear hk X12 U12 K12 C12
      have g14:w13.grownBy (w13.alloc (.cells #[.int .i64 rk,.int .i64 rs,.string ⟨rsh.toArray⟩] 39)) none:=zwA _ _ none
      have P14:Hid ((w13.alloc (.cells #[.int .i64 rk,.int .i64 rs,.string ⟨rsh.toArray⟩] 39)).heap[w13.heap.size]? = some (.cells #[.int .i64 rk,.int .i64 rs,.string ⟨rsh.toArray⟩] 39 (0,0))):=zad w13 _
      have X14:=bV ((uh X13).grown g14)
      have U14:=bV ((uh U13).grown g14)
      have K14:=bV (zaa (uh K13) g14)
      have C14:=bV (zbG g14 (uh C13))
      clear X13 U13 K13 C13 g14
      simp only [ug] at C14
      obtain ⟨o0,o1,o2,_,_,_⟩:=zaf (uh C14)
      obtain ⟨p0,p1,p2,_,_,_⟩:=zaf (uh P14)
      have k0:=cell_kept (uh Z0) (uh K14) (by simp)
      have hS:e0=0\/(e0=6/\s2=s1)\/(((e0==0)=false/\(e0==6)=false/\(e0 != 0)=true)/\s2=s1):=by
       rcases (by omega:e0=0\/e0=6\/(e0≠0/\e0≠6)) with h | h | ⟨h,h6⟩
       ·exact .inl h
       ·exact .inr (.inl ⟨h,uh HSM (by omega)⟩)
       ·exact .inr (.inr ⟨⟨by simpa using h,by simpa using h6,by simpa using h⟩,uh HSM h⟩)
      clear HSM
      rcases hS with rfl | ⟨rfl,rfl⟩ | ⟨⟨b0,b6,b1⟩,rfl⟩
      all_goals
       go_wp2_with fail
       obtain ⟨r13,hr13⟩:∃r13,w13.heap.size=r13:=⟨_,rfl⟩
       generalize hW14:w13.alloc (.cells #[.int .i64 rk,.int .i64 rs,.string ⟨rsh.toArray⟩] 39)=w14 at *
       rw [hr13] at P14 ⊢
       clear hW14 hr13 o0 o1 o2 p0 p1 p2 k0
       refine (zk7 L.fi L.fb steps (uh U14) ((uh HT).tk (TK.of_grown w.heap.size [] (uh K14)) hG) (by have:=(uh K14).size; omega) (uh R10)).mono ?_
       rintro e1 w15 ⟨rfl,hk⟩
       have X15:=bV ((uh X14).tk (TK.of_grown 0 [] hk.grown) (by decide))
       have U15:=bV ((uh U14).tk (TK.of_grown 0 [] hk.grown) (by decide))
       have K15:=bV (zaa (uh K14) hk.grown)
       have C15:=bV (zbG hk.grown (uh C14))
       have P15:=bV (zbG hk.grown (uh P14))
       clear hk X14 U14 K14 C14 P14
       go_wp2_with fail
       obtain ⟨w16,hw16⟩:∃w16,w15.alloc (.cells #[.int .i64 rk,.int .i64 rs,.string ⟨rsh.toArray⟩] 39)=w16:=⟨_,rfl⟩
       have g16:w15.grownBy w16 none:=by rw [<-hw16]; exact zwA _ _ none
       have Q16:Hid (w16.heap[w15.heap.size]? = some (.cells #[.int .i64 rk,.int .i64 rs,.string ⟨rsh.toArray⟩] 39 (0,0))):=by rw [<-hw16]; exact zad w15 _
       have X16:=bV ((uh X15).grown g16)
       have U16:=bV ((uh U15).grown g16)
       have K16:=bV (zaa (uh K15) g16)
       have C16:=bV (zbG g16 (uh C15))
       have P16:=bV (zbG g16 (uh P15))
       obtain ⟨r15,hr15⟩:∃r15,w15.heap.size=r15:=⟨_,rfl⟩
       rw [hr15] at Q16
       rw [hw16,hr15]
       clear hw16 hr15 g16 X15 U15 K15 C15 P15
       obtain ⟨_,_,_,_,_,htr⟩:=Tw.zcw (uh O10)
       have HOf:=bV (Tw.ze4 htr).2.2.2
       clear htr
       refine (ziv (S:=WtS) (uh X16) (zho L.it (uh HOf))).mono ?_
       rintro e1 w17 ⟨rfl,hk⟩
       have X17:=bV ((uh X16).tk (TK.of_grown 0 [] hk.grown) (by decide))
       have U17:=bV ((uh U16).tk (TK.of_grown 0 [] hk.grown) (by decide))
       have K17:=bV (zaa (uh K16) hk.grown)
       have C17:=bV (zbG hk.grown (uh C16))
       have P17:=bV (zbG hk.grown (uh P16))
       have Q17:=bV (zbG hk.grown (uh Q16))
       clear hk X16 U16 K16 C16 P16 Q16
       obtain ⟨p0,p1,p2,_,_,_⟩:=zaf (uh P17)
       obtain ⟨q0,q1,q2,_,_,_⟩:=zaf (uh Q17)
       have k0:=cell_kept (uh Z0) (uh K17) (by simp)
       go_wp2_with fail
       refine (ziv (S:=WtS) (uh U17) (zho L.it (uh HOf))).mono ?_
       rintro e1 w18 ⟨rfl,hk⟩
       have X18:=bV ((uh X17).tk (TK.of_grown 0 [] hk.grown) (by decide))
       have K18:=bV (zaa (uh K17) hk.grown)
       have C18:=bV (zbG hk.grown (uh C17))
       clear hk X17 U17 K17 C17 P17 Q17 p0 p1 p2 q0 q1 q2 k0
       have k0:=cell_kept (uh Z0) (uh K18) (by simp)
       go_wp2_with fail
       go_roundg (gk-1)
       case measure=>omega
       case rel=>exact ⟨q+1,_,t2,sh2,fo2,nf2,by omega,by omega,by go_num,K18,C18,X18,O10,R10⟩
   ·have hli:¬(q:Int)<(len:Int):=by omega
    go_wp2_with fail
    go_ret
    exact ⟨rfl,uh K⟩
end Go.Proofs.YtckhafpejefbbaaGreatDoor
