/- Texts of the proof, put together: Brief, Show, TypesOf, ShowTw, Show2, Show3, Show4, Show5, TypesOf2. -/
import Derived.Test.YtckhafpejefbbaaGreatDoorB09
import Derived.Test.YtckhafpejefbbaaGreatDoorB11
import Derived.Lib.AppendStr
import Derived.Laws.IdiomStrings
import Derived.Lib.ItoaNum
import Derived.Deep.RegionHeld3
import Derived.Deep.RegionWith

set_option maxRecDepth 100000
set_option maxHeartbeats 4000000
namespace Go.Proofs.YtckhafpejefbbaaGreatDoor
open Go.RowKit
structure TK (B:Nat) (S:List TypeId) (w w':World):Prop where
 low:∀ {k:Nat},k<B->k<w.heap.size->w'.heap[k]? = w.heap[k]?
 os:w'.os=w.os
 tape:w'.tape=w.tape
 output:w'.output=w.output
 size:w.heap.size<=w'.heap.size
 cells:∀ {k:Nat} {c:Array Value} {t:TypeId} {m:Nat×Nat},w.heap[k]? = some (.cells c t m)->S.contains t=false->w'.heap[k]? = some (.cells c t m)
 other:∀ {k:Nat} {o:Obj},w.heap[k]? = some o->(∀c t m,o ≠ .cells c t m)->w'.heap[k]? = some o
theorem TK.refl (B:Nat) (S:List TypeId) (w:World):TK B S w w:=⟨fun _ _=>rfl,rfl,rfl,rfl,znL _,fun h _=>h,fun h _=>h⟩
theorem TK.trans {B:Nat} {S:List TypeId} {a b c:World} (h:TK B S a b) (k:TK B S b c):TK B S a c :=
 ⟨fun x y=>(k.low x (Nat.lt_of_lt_of_le y h.size)).trans (h.low x y),k.os.trans h.os,k.tape.trans h.tape,k.output.trans h.output,Nat.le_trans h.size k.size,fun x y=>k.cells (h.cells x y) y,fun x y=>k.other (h.other x y) y⟩
theorem TK.of_grown (B:Nat) (S:List TypeId) {w w':World} (h:w.grownBy w' none):TK B S w w' :=
 ⟨fun _ y=>h.block _ y (by simp),h.os,h.tape,h.output,h.size,fun x _=>zbG h x,fun x _=>zbG h x⟩
theorem TK.base {B B':Nat} {S:List TypeId} {w w':World} (h:TK B S w w') (hB:B'<=B):TK B' S w w' := {h with low:=fun x y=>h.low (Nat.lt_of_lt_of_le x hB) y}
theorem TK.grown {S:List TypeId} {w w':World} (h:TK w.heap.size S w w'):w.grownBy w' none:=⟨h.os,h.tape,h.output,h.size,fun _ hk _=>h.low hk hk⟩
theorem TK.mono {B:Nat} {S S':List TypeId} {w w':World} (h:TK B S w w') (hS:∀t,S'.contains t=false->S.contains t=false):TK B S' w w' :=
 {h with cells:=fun x y=>h.cells x (hS _ y)}
theorem TK.sub {B:Nat} {S S':List TypeId} {w w':World} (h:TK B S w w') (hs:S.all (fun t=>S'.contains t)=true):TK B S' w w' :=
 h.mono fun t ht=>by
  cases hc:S.contains t
  ·rfl
  ·have:=List.all_eq_true.1 hs t (by simpa using hc)
   rw [ht] at this
   cases this
def zjk (l:List UInt8):List Value:=l.map fun b=>Value.int .u8 b.toNat
theorem Tryz.info5:(Tryz.prog.info? 5).map (fun i=>(i.zero,i.size,i.bytes))=some (some (.int .u8 0),1,1):=by kernel_rfl
structure BrAt (w:World) (bw lim:Nat) (sv:Value) (shown:List UInt8):Prop where
 cell:w.heap[bw]? = some (.cells #[.int .i64 lim,sv] 329 (0,0))
 owns:w.ownsRow bw 5 1 sv shown.length (zjk shown)
 ne:sv.ownBlock≠some bw
 len:shown.length<=5000
 liml:lim<=1000
abbrev WrS:List TypeId:=[329,5]
theorem BrAt.slice {w:World} {bw lim:Nat} {sv:Value} {shown:List UInt8} (h:BrAt w bw lim sv shown):∃a cap,sv = .slice a shown.length cap:=by
 rcases h.owns.2 with ⟨hv,hn⟩ | ⟨g,cap,cur,hv,_⟩
 ·exact ⟨none,0,by rw [hv,hn]⟩
 ·exact ⟨_,_,hv⟩
theorem BrAt.grown {w w':World} {bw lim:Nat} {sv:Value} {shown:List UInt8} (h:BrAt w bw lim sv shown) (hg:w.grownBy w' none):BrAt w' bw lim sv shown:=by
 refine {h with cell:=zbG hg h.cell,owns:=⟨h.owns.1,?_⟩}
 rcases h.owns.2 with hn | ⟨g',cap,cur,hv,hb,hh,rest⟩
 ·exact .inl hn
 ·exact .inr ⟨g',cap,cur,hv,hb,zbG hg hh,rest⟩
theorem BrAt.tk {B:Nat} {S:List TypeId} {w w':World} {bw lim:Nat} {sv:Value} {shown:List UInt8} (h:BrAt w bw lim sv shown) (hg:TK B S w w') (h1:S.contains 329=false) (h2:S.contains 5=false):BrAt w' bw lim sv shown:=by
 refine {h with cell:=hg.cells h.cell h1,owns:=⟨h.owns.1,?_⟩}
 rcases h.owns.2 with hn | ⟨g',cap,cur,hv,hb,hh,rest⟩
 ·exact .inl hn
 ·exact .inr ⟨g',cap,cur,hv,hb,hg.cells hh h2,rest⟩
theorem zij (w:World) (lim:Nat) (hl:lim<=1000) :
  Calls Tryz.prog 94 #[.int .i64 lim] w fun e w'=>e = .returned (.pointer (some ⟨w.heap.size,0,none⟩))/\w.grownBy w' none/\BrAt w' w.heap.size lim (.slice none 0 0) []:=by
 go_enter Tryz.func94,Tryz.ntmps94
 go_wp2_with fail
 go_ret
 exact ⟨rfl,zwA _ _ none,zad w _,⟨by simp [zjk],.inl ⟨rfl,rfl⟩⟩,by simp [Value.ownBlock],by simp,hl⟩
theorem zd3 {w:World} {bw lim:Nat} {sv:Value} {shown:List UInt8} (h:BrAt w bw lim sv shown) :
  Calls Tryz.prog 171 #[.pointer (some ⟨bw,0,none⟩)] w fun e w'=>e = .returned (.bool (decide (lim<shown.length)))/\w'=w.drew:=by
 obtain ⟨c0,c1,_,_⟩:=zau h.cell
 obtain ⟨a,cap,hs⟩:=h.slice
 rw [hs] at c1
 have hl:=h.len
 have hl2:=h.liml
 generalize shown.length=N at *
 clear h hs
 go_enter Tryz.func171,Tryz.ntmps171
 go_wp2_with fail
 go_region
 go_wp2_with fail
 go_ret
 exact ⟨zc5 (by simp),rfl⟩
theorem zhy {w:World} {B bw lim:Nat} {sv:Value} {shown:List UInt8} (h:BrAt w bw lim sv shown) (hB:B<=bw) (s:ByteArray) (hs:s.size<=1000) (h0:0<s.size) :
    Calls Tryz.prog 172 #[.pointer (some ⟨bw,0,none⟩),.string s] w fun e w'=>e = .returned (.tuple #[])/\TK B WrS w w'/\∃sv',BrAt w' bw lim sv' (Tw.putS lim shown s.data.toList):=by
  have H0:=bV h
  have hl:=h.liml
  clear h
  unfold Tw.putS
  by_cases hlt:lim<shown.length
  · rw [if_pos hlt]
    have hd:decide (lim<shown.length)=true:=by simp [hlt]
    go_enter Tryz.func172,Tryz.ntmps172
    go_wp2_with fail
    refine (zd3 (uh H0)).mono ?_
    rintro e1 w1 ⟨rfl,rfl⟩
    rw [hd]
    go_wp2_with fail
    go_end0
    exact ⟨rfl,TK.of_grown _ _ (zac (zab _)),sv,(uh H0).grown (zac (zab _))⟩
  · rw [if_neg hlt]
    have hd:decide (lim<shown.length)=false:=by simp; omega
    obtain ⟨i0,hi,hz0,hz1,hz2⟩:=info_parts Tryz.info5
    go_enter Tryz.func172,Tryz.ntmps172
    go_wp2_with fail
    refine (zd3 (uh H0)).mono ?_
    rintro e1 w1 ⟨rfl,rfl⟩
    rw [hd]
    have H1:Hid (BrAt w.drew bw lim sv shown):=(uh H0).grown (zac (zab _))
    obtain ⟨c0,c1,f0,f1⟩:=zau H1.out.cell
    obtain ⟨a,cap,hsl⟩:=H1.out.slice
    subst hsl
    have hbw:bw<w.drew.heap.size:=(zgE.1 H1.out.cell).1
    have ho:=H1.out.owns
    clear H0 hd
    have hN2:shown.length<=1000:=by omega
    generalize hN:shown.length=N at *
    have HN:=bV hN
    clear hN
    have KD:Hid (TK B WrS w w.drew):=TK.of_grown _ _ (zac (zab _))
    generalize w.drew=w1 at *
    go_wp2_with (first
      | (at_builtin; refine Lib.wpList_append_own_string _ rfl _ _ 66 9 rfl bw 5 i0 Tryz.underlying66 Tryz.underlying9 hi hz0 hz1 hz2 (.slice a N cap) N (zjk shown) rfl ho s rfl (by unfold maxLen; omega) (by omega) (by omega) ?_; intro v3 w3 hown3 hgrow3 hnil3
         obtain ⟨g,cap3,rfl⟩:∃g cap3,v3 = .slice (some ⟨g,0,none⟩) (N+s.size) cap3:=by
           rcases hown3.2 with ⟨_,hn⟩ | ⟨g,cap3,_,hv,_⟩
           · omega
           · exact ⟨g,cap3,hv⟩
         have hne:(Value.slice a N cap).ownBlock≠some bw:=H1.out.ne
         have S3:Hid (w3.heap[bw]? = some (.cells #[.int .i64 lim,.slice a N cap] 329 (0,0))):=(hgrow3.block bw (by omega) (fun e=>hne e.symm)).trans H1.out.cell
         have K3:Hid (TK B WrS w w3):=KD.out.trans ⟨fun {k} x y=>hgrow3.block k y (fun e=>by have:=(ho.lt k e.symm).1; omega),hgrow3.os,hgrow3.tape,hgrow3.output,hgrow3.size,fun {k c t m} x y=>(hgrow3.block k (zgE.1 x).1 (fun e=>by
           rcases ho.2 with ⟨hv,_⟩ | ⟨g',cap',cur',hv,_,hh,_⟩
           · rw [hv] at e; simp [Value.ownBlock] at e
           · rw [hv] at e; simp [Value.ownBlock] at e; subst e; rw [hh] at x; cases x; simp at y)).trans x,fun {k o} x y=>(hgrow3.block k (zgE.1 x).1 (fun e=>by
           rcases ho.2 with ⟨hv,_⟩ | ⟨g',cap',cur',hv,_,hh,_⟩
           · rw [hv] at e; simp [Value.ownBlock] at e
           · rw [hv] at e; simp [Value.ownBlock] at e; subst e; rw [hh] at x; cases x; exact y _ _ _ rfl)).trans x⟩
         have gne:g≠bw:=by
           rcases hown3.2 with ⟨hv,_⟩ | ⟨g',cap',cur',hv,_,hh,_⟩
           · cases hv
           · cases hv
             intro e
             subst e
             rw [S3.out] at hh
             simp at hh
         have O3:=bV hown3
         obtain ⟨k0,k1,e0,e1⟩:=zau S3.out
         clear hgrow3 hown3 hnil3))
    go_end0
    go_light
    refine ⟨rfl,?_,.slice (some ⟨g,0,none⟩) (N+s.size) cap3,?_⟩
    · have K:=K3.out
      refine ⟨fun {k} x y=>by rw [heap_setCell_other _ _ _ _ (by simp; omega)]; exact K.low x y,K.os,K.tape,K.output,by have:=K.size; simpa using this,fun {k c t m} x y => ?_,fun {k o} x y => ?_⟩
      · by_cases hk:k=bw
        · subst hk
          have:=K.cells x y
          rw [S3.out] at this
          cases this
          simp at y
        · rw [heap_setCell_other _ _ _ _ (by simp; omega)]; exact K.cells x y
      · by_cases hk:k=bw
        · subst hk
          have:=K.other x y
          rw [S3.out] at this
          cases this
          exact absurd rfl (y _ _ _)
        · rw [heap_setCell_other _ _ _ _ (by simp; omega)]; exact K.other x y
    have hl2:(shown++s.data.toList).length=N+s.size:=by rw [List.length_append,uh HN]; rfl
    refine ⟨by rw [heap_setCell_same _ _ _ _ _ _ S3.out]; rfl,?_,by simpa [Value.ownBlock] using gne,by rw [hl2]; omega,hl⟩
    rw [hl2]
    have e2:zjk (shown++s.data.toList)=zjk shown++Lib.strCells s:=by simp [zjk,Lib.strCells]
    rw [e2]
    have:=uh O3
    refine ⟨this.1,?_⟩
    rcases this.2 with ⟨hv,_⟩ | ⟨g',cap',cur',hv,hb,hh,rest⟩
    · cases hv
    · cases hv
      exact .inr ⟨g,cap3,cur',rfl,hb,by rw [heap_setCell_other _ _ _ _ (by simpa using gne)]; exact hh,rest⟩
theorem zmz (w:World):(convert 66 9 (.slice none 0 0)).run Tryz.prog w = .ok (ug []) w:=by kernel_rfl
theorem zqd {w:World} {bw lim:Nat} {sv:Value} {shown:List UInt8} (h:BrAt w bw lim sv shown) :
  Calls Tryz.prog 96 #[.pointer (some ⟨bw,0,none⟩)] w fun e w'=>e = .returned (ug (Tw.zju lim shown))/\w.grownBy w' none:=by
 have H0:=bV h
 clear h
 unfold Tw.zju
 by_cases hlt:lim<shown.length
 ·rw [if_pos hlt]
  have hd:decide (lim<shown.length)=true:=by simp [hlt]
  go_enter Tryz.func96,Tryz.ntmps96
  go_wp2_with fail
  refine (zd3 (uh H0)).mono ?_
  rintro e1 w1 ⟨rfl,rfl⟩
  rw [hd]
  go_wp2_with fail
  go_ret
  exact ⟨rfl,zac (zab _)⟩
 ·rw [if_neg hlt]
  have hd:decide (lim<shown.length)=false:=by simp; omega
  go_enter Tryz.func96,Tryz.ntmps96
  go_wp2_with fail
  refine (zd3 (uh H0)).mono ?_
  rintro e1 w1 ⟨rfl,rfl⟩
  rw [hd]
  have H1:Hid (BrAt w.drew bw lim sv shown):=(uh H0).grown (zac (zab _))
  obtain ⟨c0,c1,f0,f1⟩:=zau H1.out.cell
  obtain ⟨a,cap,hsl⟩:=H1.out.slice
  subst hsl
  have hcv:(convert 66 9 (.slice a shown.length cap)).run Tryz.prog w.drew = .ok (ug shown) w.drew:=by
   rcases H1.out.owns.2 with ⟨hv,hn⟩ | ⟨g,cap',cur,hv,hb,hh,hn,hc,_,ht⟩
   ·have:shown=[]:=List.length_eq_zero_iff.1 hn
    subst this
    cases hv
    exact zmz w.drew
   ·cases hv
    refine run_convert_bytes_back w.drew _ _ 5 ⟨g,0,none⟩ cap shown Tryz.underlying66 Tryz.underlying5 Tryz.underlying9 ?_
    intro j hj
    rw [show (Addr.add ⟨g,0,none⟩ j)=(⟨g,j,none⟩:Addr) from by simp [Addr.add]; omega]
    rw [cell_of_row _ _ _ _ _ _ hh]
    have:=congrArg (fun l=>l[j]?) ht
    simp only [Nat.mul_one,List.getElem?_take,hj,if_true,zjk,List.getElem?_map,List.getElem?_eq_getElem hj,Option.map_some] at this
    simpa using this
  clear H0 hd
  generalize hB:shown.length=N at *
  go_wp2_with fail
  go_ret
  exact ⟨rfl,zac (zab _)⟩
open Go.RowKit
abbrev ShS:List TypeId:=[128,334,329,5]
theorem RowAt.zqe {B:Nat} {S:List TypeId} {w w':World} {bs g cap:Nat} {cur:Array Value} {st:Tw.SS} (h:RowAt w bs g cap cur st) (hk:UK bs g w w') (h1:S.contains 128=true) (h2:S.contains 334=true) (hB:B<=bs):TK B S w w':=by
 refine ⟨fun {k} x y=>hk.block k y (by omega) (by have:=h.low; omega),hk.os,hk.tape,hk.output,hk.size,fun {k c t m} x y => ?_,fun {k o} x y => ?_⟩
 ·refine hk.at x (fun e => ?_) (fun e => ?_)
  ·subst e; rw [h.solver] at x; cases x; rw [h1] at y; cases y
  ·subst e; rw [h.row] at x; cases x; rw [h2] at y; cases y
 ·refine hk.at x (fun e => ?_) (fun e => ?_)
  ·subst e; rw [h.solver] at x; cases x; exact absurd rfl (y _ _ _)
  ·subst e; rw [h.row] at x; cases x; exact absurd rfl (y _ _ _)
theorem RowAt.tk {B:Nat} {S:List TypeId} {w w':World} {bs g cap:Nat} {cur:Array Value} {st:Tw.SS} (h:RowAt w bs g cap cur st) (hk:TK B S w w') (h1:S.contains 128=false) (h2:S.contains 334=false):RowAt w' bs g cap cur st :=
 {h with solver:=hk.cells h.solver h1,row:=hk.cells h.row h2}
theorem yam {w:World} {B bt bw bs g cap:Nat} {cur:Array Value} {st st1:Tw.SS} {sv:Value} {va:Option Addr} {vn vc:Nat} {shown:List UInt8}
  (hT:w.heap[bt]? = some (.cells #[.pointer (some ⟨bw,0,none⟩),.pointer (some ⟨bs,0,none⟩),.slice va vn vc] 245 (0,0)))
  (hW:BrAt w bw 400 sv shown) (hR:RowAt w bs g cap cur st) (hlen:shown.length<=400) (hB1:B<=bs) (hB2:B<=bw)
  {fuel r p:Nat} {x:Tw.Sh} (hf:Tw.zdq fuel st r=some (p,st1)) (hx:st1.shs[p]? = some x) (hs:x.sort=1) :
  Calls Tryz.prog 107 #[.pointer (some ⟨bt,0,none⟩),.int .i64 r] w fun e w'=>e = .returned (.tuple #[])/\TK B ShS w w'/\(∃cur',RowAt w' bs g cap cur' st1)/\∃sv',BrAt w' bw 400 sv' (shown ++ [105,110,116]):=by
 have T0:=bV hT
 have W0:=bV hW
 have R0:=bV hR
 have HF:=bV hf
 have HX:=bV hx
 obtain ⟨c0,c1,_,_,_,_⟩:=zaf hT
 have c237:Tryz.prog.cellsOf 334=4:=by kernel_rfl
 have s0:(x.sort==0)=false:=by simp [hs]
 have s1:(x.sort==1)=true:=by simp [hs]
 have hd:decide (400<shown.length)=false:=by simp; omega
 have HD:=bV hd
 clear hW hR hf hx hs hd hT
 go_enter Tryz.func107,Tryz.ntmps107
 go_wp2_with fail
 refine (zd3 (uh W0)).mono ?_
 rintro e1 w' ⟨rfl,rfl⟩
 rw [uh HD]
 have T1:Hid (w.drew.heap[bt]? = some (.cells #[.pointer (some ⟨bw,0,none⟩),.pointer (some ⟨bs,0,none⟩),.slice va vn vc] 245 (0,0))):=uh T0
 obtain ⟨d0,d1,_,_,_,_⟩:=zaf (uh T1)
 clear c0 c1
 go_wp2_with fail
 refine (zet (uh R0).drew (uh HF)).mono ?_
 rintro e1 w1 ⟨rfl,hk,cur1,hR1⟩
 have R1:=bV hR1
 have K1:Hid (TK B [128,334] w w1):=(TK.of_grown _ _ (zac (zab _))).trans ((uh R0).drew.zqe hk (by decide) (by decide) hB1)
 have W1:=bV ((uh W0).tk (uh K1) (by decide) (by decide))
 have T2:=bV ((uh K1).cells (uh T0) (by decide))
 obtain ⟨e0,e1,_,_,_,_⟩:=zaf (uh T2)
 have hbt:bt<w1.heap.size:=(zgE.1 (uh T2)).1
 obtain ⟨hpl,x0,x1,x2,x3⟩:=hR1.sh (uh HX)
 obtain ⟨t0,_,_,_⟩:=zau hR1.solver
 have hpi:(p:Int)<(st1.shs.length:Int):=by omega
 have hm:=hR1.many
 clear hk hR1 d0 d1
 go_wp2_with fail
 refine (zhy ((uh W1).grown (zwA _ _ none)) hB2 ⟨#[105,110,116]⟩ (by simp [ByteArray.size]) (by simp [ByteArray.size])).mono ?_
 rintro e1 w2 ⟨rfl,hk,sv2,hW2⟩
 rw [Tw.putS,if_neg (by omega)] at hW2
 have X:Hid (TK B ShS w w2/\(∃cur',RowAt w2 bs g cap cur' st1)/\∃sv',BrAt w2 bw 400 sv' (shown ++ [105,110,116])) :=
  ⟨((uh K1).sub (by decide)).trans ((TK.of_grown _ _ (zwA _ _ none)).trans (hk.sub (by decide))),⟨cur1,((uh R1).grown (zwA _ _ none)).tk hk (by decide) (by decide)⟩,sv2,hW2⟩
 clear hk hW2
 go_wp2_with fail
 go_end0
 exact ⟨rfl,X.out⟩
theorem ycl {w:World} {B bs g cap:Nat} {cur:Array Value} {st st1:Tw.SS} (hR:RowAt w bs g cap cur st)
  {fuel r p:Nat} {x:Tw.Sh} (hf:Tw.zdq fuel st r=some (p,st1)) (hx:st1.shs[p]? = some x) (hs:x.sort=1) (hB:B<=bs) :
  Calls Tryz.prog 55 #[.pointer (some ⟨bs,0,none⟩),.int .i64 r] w fun e w'=>e = .returned (ug [105,110,116])/\TK B ShS w w':=by
 have R0:=bV hR
 have HF:=bV hf
 have HX:=bV hx
 have hbs:bs<w.heap.size:=(zgE.1 hR.solver).1
 clear hR hf hx
 go_enter Tryz.func55,Tryz.ntmps55
 go_wp2_with fail
 refine (zij w 400 (by omega)).mono ?_
 rintro e1 w1 ⟨rfl,hg,hb⟩
 have G1:=bV hg
 have B1:=bV hb
 have R1:=bV ((uh R0).grown hg)
 clear hg hb
 go_wp2_with fail
 refine (yam (zad _ _) ((uh B1).grown (zwA _ _ none)) ((uh R1).grown (zwA _ _ none)) (by simp) hB (by omega) (uh HF) (uh HX) hs).mono ?_
 rintro e1 w2 ⟨rfl,hk,_,sv2,hB⟩
 have K2:Hid (TK B ShS w w2):=(TK.of_grown _ _ (zae (uh G1) _)).trans hk
 have B2:=bV hB
 have T2:=bV (hk.cells (zad w1 _) (by decide))
 obtain ⟨e0,e1,_,_,_,_⟩:=zaf (uh T2)
 clear hk hB
 go_wp2_with fail
 refine (zqd (uh B2)).mono ?_
 rintro e1 w3 ⟨rfl,hg⟩
 go_wp2_with fail
 go_ret
 exact ⟨rfl,(uh K2).trans (TK.of_grown _ _ hg)⟩
open Go.RowKit
theorem Sol.zyy {B:Nat} {S:List TypeId} {w w':World} {bs:Nat} {st:Tw.SS} (hS:Sol w bs st) (hk:SK bs w w') (h1:S.contains 128=true) (h2:S.contains 334=true) (hB:B<=bs):TK B S w w':=by
 obtain ⟨g,cap,cur,h⟩:=hS
 refine ⟨fun {k} x y=>hk.block k y (by omega) (.inl (by omega)),hk.os,hk.tape,hk.output,hk.size,fun {k c t m} x y => ?_,fun {k o} x y => ?_⟩
 ·refine hk.at x (fun e => ?_) (fun c' m' e => ?_)
  ·subst e; rw [h.solver] at x; cases x; rw [h1] at y; cases y
  ·cases e; rw [h2] at y; cases y
 ·refine hk.at x (fun e => ?_) (fun c' m' e => ?_)
  ·subst e; rw [h.solver] at x; cases x; exact absurd rfl (y _ _ _)
  ·cases e; exact absurd rfl (y _ _ _)
def ss0:Tw.SS:=⟨[⟨1,0,0,0⟩,⟨2,0,0,1⟩],false⟩
structure IntTyped (t:Tw.T):Prop where
 is:∃fuel r p st1 st2 st3 x,Tw.zav fuel t .nil ss0=some (r,st1)/\st1.clash=false/\Tw.zhs fuel st1=some (false,st2)/\Tw.zdq fuel st2 r=some (p,st3)/\st3.shs[p]? = some x/\x.sort=1
theorem yfi {w:World} {hi:Nat} {t:Tw.T} {tv:Value} (hr:Rep w 0 hi t tv) (ht:IntTyped t) :
  Calls Tryz.prog 34 #[tv] w fun e w'=>e = .returned (.tuple #[ug [105,110,116],.bool true])/\TK w.heap.size ShS w w':=by
 obtain ⟨fuel,r,p,st1,st2,st3,x,h1,h2,h3,h4,h5,h6⟩:=ht.is
 have HR:=bV hr
 have H1:=bV h1
 have H2:=bV h2
 have H3:=bV h3
 have H4:=bV h4
 have H5:=bV h5
 obtain ⟨T0,n0,rfl⟩:=hr.iface
 clear hr h1 h2 h3 h4 h5
 go_enter Tryz.func34,Tryz.ntmps34
 go_wp2_with fail
 refine (zga w).mono ?_
 rintro e1 w1 ⟨rfl,hg,hs⟩
 have G1:=bV hg
 have S1:=bV hs
 have R1:=bV ((uh HR).grown hg (znL _) (znL _))
 clear hg hs
 go_wp2_with fail
 refine ((zf1 fuel).1 (uh S1) (uh R1) (show EnvAt w1 hi .nil (.pointer none) from rfl) (uh H1)).mono ?_
 rintro e1 w2 ⟨rfl,hk,hs⟩
 have K2:Hid (TK w.heap.size ShS w w2):=(TK.of_grown _ _ (uh G1)).trans ((uh S1).zyy hk (by decide) (by decide) (znL _))
 obtain ⟨g,cap,cur,hR⟩:=hs
 have R2:=bV hR
 obtain ⟨s0,s1,_,_⟩:=zau hR.solver
 rw [uh H2] at s1
 clear hk hR
 go_wp2_with fail
 refine (zkc (uh R2) (uh H3)).mono ?_
 rintro e1 w3 ⟨rfl,hk,cur3,hR⟩
 have K3:Hid (TK w.heap.size ShS w w3):=(uh K2).trans ((uh R2).zqe hk (by decide) (by decide) (znL _))
 have R3:=bV hR
 clear hk hR
 go_wp2_with fail
 refine (ycl (uh R3) (uh H4) (uh H5) h6 (znL _)).mono ?_
 rintro e1 w4 ⟨rfl,hk⟩
 have K4:Hid (TK w.heap.size ShS w w4):=(uh K3).trans hk
 clear hk
 go_wp2_with fail
 go_ret2
 exact ⟨rfl,K4.out⟩
end Go.Proofs.YtckhafpejefbbaaGreatDoor
namespace Go.Proofs.YtckhafpejefbbaaGreatDoor.Tw
open Go Go.RowKit
structure TW where
 st:SS
 vars:List Nat
 acc:List UInt8
def zh8 (k:Nat):List UInt8:=39::UInt8.ofNat (97+k % 26)::(if 0<k / 26 then Lib.itoa (k / 26:Nat) else [])
def idxS (r:Nat):List Nat->Nat->Option Nat
 | [],_=>none
 | x::l,i=>if r=x then some i else idxS r l (i+1)
def zjl (vars:List Nat) (r:Nat):Option (Nat×List Nat) :=
 match idxS r vars 0 with
 | some i=>some (i,vars)
 | none=>if vars.length<=2000 then some (vars.length,vars ++ [r]) else none
def zg2 (n:Nat) (st:SS) (r:Nat):Option (Int×SS):=(zdq n st r).bind fun p=>(p.2.shs[p.1]?).bind fun x=>some (x.sort,p.2)
mutual
def zcu:Nat->TW->Nat->Option TW
 | 0,_,_=>none
 | n+1,t,r=>if 400<t.acc.length then some t else (zdq n t.st r).bind fun p=>(p.2.shs[p.1]?).bind fun x =>
  if x.sort=0 then (zjl t.vars p.1).bind fun k=>some ⟨p.2,k.2,putS 400 t.acc (zh8 k.1)⟩
  else if x.sort=1 then some ⟨p.2,t.vars,putS 400 t.acc [105,110,116]⟩
  else if x.sort=2 then some ⟨p.2,t.vars,putS 400 t.acc [98,111,111,108]⟩
  else if x.sort=3 then (zg2 n p.2 x.left).bind fun q=>(zjm n ⟨q.2,t.vars,t.acc⟩ x.left (q.1==3)).bind fun u =>
   zcu n ⟨u.st,u.vars,putS 400 u.acc [32,45,62,32]⟩ x.right
  else if x.sort=4 then (zg2 n p.2 x.left).bind fun q=>(zjm n ⟨q.2,t.vars,t.acc⟩ x.left (q.1==3||q.1==4)).bind fun u =>
   (zg2 n u.st x.right).bind fun v=>zjm n ⟨v.2,u.vars,putS 400 u.acc [32,42,32]⟩ x.right (v.1==3||v.1==4)
  else some ⟨p.2,t.vars,t.acc⟩
def zjm:Nat->TW->Nat->Bool->Option TW
 | 0,_,_,_=>none
 | n+1,t,r,b=>if b then (zcu n ⟨t.st,t.vars,putS 400 t.acc [40]⟩ r).bind fun u=>some ⟨u.st,u.vars,putS 400 u.acc [41]⟩ else zcu n t r
end
def ofS (fuel:Nat) (t:T):Option (Option (List UInt8)) :=
 (zav fuel t .nil ⟨[⟨1,0,0,0⟩,⟨2,0,0,1⟩],false⟩).bind fun a=>if a.2.clash then some none else (zhs fuel a.2).bind fun b=>if b.1 then some none else
  (zcu fuel ⟨b.2,[],[]⟩ a.1).bind fun u=>some (some (zju 400 u.acc))
end Go.Proofs.YtckhafpejefbbaaGreatDoor.Tw
namespace Go.Proofs.YtckhafpejefbbaaGreatDoor
open Go.RowKit
theorem zke (u:Nat) (h:u<100):(Lib.decDigits u).length<=2:=by
 unfold Lib.decDigits
 split
 ·simp
 ·unfold Lib.decDigits
  rw [dif_pos (by omega)]
  simp
def Said.ItoaSmall:Prop:=∀(i:Nat) (_:i<100) (w:World),Calls Tryz.prog 211 #[.int .i64 i] w fun e w'=>e = .returned (ug (Lib.decDigits i))/\w=w'
theorem ycm (w:World):∀k:Nat,k<26->(convert 21 9 (.int .i32 (97+(k:Int)))).run Tryz.prog w = .ok (ug [UInt8.ofNat (97+k)]) w
 | 0,_=>by kernel_rfl
 | 1,_=>by kernel_rfl
 | 2,_=>by kernel_rfl
 | 3,_=>by kernel_rfl
 | 4,_=>by kernel_rfl
 | 5,_=>by kernel_rfl
 | 6,_=>by kernel_rfl
 | 7,_=>by kernel_rfl
 | 8,_=>by kernel_rfl
 | 9,_=>by kernel_rfl
 | 10,_=>by kernel_rfl
 | 11,_=>by kernel_rfl
 | 12,_=>by kernel_rfl
 | 13,_=>by kernel_rfl
 | 14,_=>by kernel_rfl
 | 15,_=>by kernel_rfl
 | 16,_=>by kernel_rfl
 | 17,_=>by kernel_rfl
 | 18,_=>by kernel_rfl
 | 19,_=>by kernel_rfl
 | 20,_=>by kernel_rfl
 | 21,_=>by kernel_rfl
 | 22,_=>by kernel_rfl
 | 23,_=>by kernel_rfl
 | 24,_=>by kernel_rfl
 | 25,_=>by kernel_rfl
 | n+26,h=>absurd h (by omega)
theorem zum (k:Nat) (w:World):(convert 21 9 (.int .i32 (97+(k:Int) % 26))).run Tryz.prog w = .ok (ug [UInt8.ofNat (97+k % 26)]) w:=by
 have:=ycm w (k % 26) (by omega)
 rw [show ((k % 26:Nat):Int)=(k:Int) % 26 from by omega] at this
 exact this
theorem zn8 (hIt:Said.ItoaSmall) (k:Nat) (hk:k<2600) (w:World):Calls Tryz.prog 179 #[.int .i64 k] w fun e w'=>e = .returned (ug (Tw.zh8 k))/\w=w':=by
 have hr:=zum k
 obtain ⟨c,hc⟩:∃c,[UInt8.ofNat (97+k % 26)]=c:=⟨_,rfl⟩
 simp only [hc] at hr
 have hl:c.length=1:=by rw [<-hc]; rfl
 have hla:c.toArray.size=1:=by simpa using hl
 have HC:=bV hc
 clear hc
 by_cases h26:k<26
 ·have hq:¬(0:Int)<(k:Int) / 26:=by omega
  go_enter Tryz.func179,Tryz.ntmps179
  go_wp2_with fail
  go_ret
  refine ⟨?_,rfl⟩
  have e:ug (Tw.zh8 k)=Value.string ({data:=#[39]} ++ {data:=c.toArray}):=by
   rw [Tw.zh8,if_neg (by omega),<-uh HC]
   rfl
  rw [e]
  rfl
 ·have hq:(0:Int)<(k:Int) / 26:=by omega
  have HI:Hid (((k:Int) / 26)=((k / 26:Nat):Int)):=by show _=_; omega
  have h100:k / 26<100:=by omega
  have hdl:=zke (k / 26) h100
  go_enter Tryz.func179,Tryz.ntmps179
  go_wp2_with fail
  rw [uh HI]
  refine (hIt (k / 26) h100 w).mono ?_
  rintro e1 w1 ⟨rfl,rfl⟩
  have hds:(Lib.decDigits (k / 26)).toArray.size<=2:=by simpa using hdl
  go_wp2_with fail
  go_ret
  refine ⟨?_,rfl⟩
  have e:ug (Tw.zh8 k)=Value.string (({data:=#[39]} ++ {data:=c.toArray}) ++ {data:=(Lib.decDigits (k / 26)).toArray}):=by
   have e2:Lib.itoa ((k / 26:Nat):Int)=Lib.decDigits (k / 26):=by
    unfold Lib.itoa
    rw [if_neg (by omega)]
    rfl
   rw [Tw.zh8,if_pos (by omega),e2,<-uh HC]
   show Value.string _=Value.string _
   congr 1
  rw [e]
  rfl
structure VarsAt (w:World) (base:Nat) (vv:Value) (vars:List Nat):Prop where
 owns:w.ownsRow base 124 1 vv vars.length (vars.map fun (x:Nat)=>Value.int .i64 x)
 few:vars.length<=2001
theorem VarsAt.slice {w:World} {base:Nat} {vv:Value} {vars:List Nat} (h:VarsAt w base vv vars):∃a cap,vv = .slice a vars.length cap:=by
 rcases h.owns.2 with ⟨hv,hn⟩ | ⟨g,cap,cur,hv,_⟩
 ·exact ⟨none,0,by rw [hv,hn]⟩
 ·exact ⟨_,_,hv⟩
theorem VarsAt.cell {w:World} {base:Nat} {a:Option Addr} {n cap:Nat} {vars:List Nat} (h:VarsAt w base (.slice a n cap) vars) {i:Nat} (hi:i<vars.length):∃g,a=some ⟨g,0,none⟩/\n=vars.length/\w.cell? ⟨g,i,none⟩=some (.int .i64 vars[i]):=by
 rcases h.owns.2 with ⟨_,hn⟩ | ⟨g,cap',cur,hv,hb,hh,hn,hc,_,ht⟩
 ·omega
 ·cases hv
  refine ⟨g,rfl,rfl,?_⟩
  rw [cell_of_row _ _ _ _ _ _ hh]
  have:=congrArg (fun l=>l[i]?) ht
  simp only [Nat.mul_one,List.getElem?_take,hi,if_true,List.getElem?_map,List.getElem?_eq_getElem hi,Option.map_some] at this
  simpa using this
theorem zn9 (r:Nat):∀(l:List Nat) (i:Nat),(∃k,Tw.idxS r l i=some k/\i<=k/\k<i+l.length/\l[k-i]? = some r/\∀j,j<k-i->l[j]? ≠ some r)\/(Tw.idxS r l i=none/\∀j,j<l.length->l[j]? ≠ some r)
 | [],i=>.inr ⟨rfl,by simp⟩
 | x::l,i=>by
  by_cases h:r=x
  ·exact .inl ⟨i,by simp [Tw.idxS,h],by omega,by simp,by simp [h],by omega⟩
  ·rcases zn9 r l (i+1) with ⟨k,h1,h2,h3,h4,h5⟩ | ⟨h1,h2⟩
   ·refine .inl ⟨k,by simp [Tw.idxS,h,h1],by omega,by simp; omega,?_,fun j hj => ?_⟩
    ·rw [show k-i=(k-(i+1))+1 from by omega,List.getElem?_cons_succ]
     exact h4
    ·cases j with
     | zero=>simpa using fun e=>h e.symm
     | succ j=>rw [List.getElem?_cons_succ]; exact h5 j (by omega)
   ·refine .inr ⟨by simp [Tw.idxS,h,h1],fun j hj => ?_⟩
    cases j with
    | zero=>simpa using fun e=>h e.symm
    | succ j=>rw [List.getElem?_cons_succ]; exact h2 j (by simpa using hj)
theorem yan {w:World} {base:Nat} {vv:Value} {vars:List Nat} (h:VarsAt w base vv vars) (r:Nat) :
  Calls Tryz.prog 212 #[vv,.int .i64 r] w fun e w'=>e = .returned (.int .i64 (match Tw.idxS r vars 0 with | some i=>(i:Int) | none => -1))/\w=w':=by
 obtain ⟨a,cap,rfl⟩:=h.slice
 have HH:=bV h
 have hfew:=h.few
 have c1:Tryz.prog.cellsOf 124=1:=by kernel_rfl
 obtain ⟨R,hR⟩:∃R,(match Tw.idxS r vars 0 with | some i=>(i:Int) | none => -1)=R:=⟨_,rfl⟩
 rw [hR]
 have HR:=bV hR
 have HS:=bV (zn9 r vars 0)
 obtain ⟨N,hN⟩:∃N,vars.length=N:=⟨_,rfl⟩
 rw [hN] at hfew ⊢
 have HN:=bV hN
 clear h hR hN
 go_enter Tryz.func212,Tryz.ntmps212
 go_wp2_with fail
 go_loopg [8] N (fun j iv wr=>wr=w/\∃q:Nat,j+q=N/\iv = .int .i64 q/\Hid (∀i,i<q->vars[i]? ≠ some r))
 case atStart=>exact ⟨rfl,0,by omega,rfl,fun i hi=>by omega⟩
 case round =>
  obtain ⟨hw,q,hjq,rfl,HQ⟩:=hrel
  subst hw
  by_cases hlt:q<N
  ·have hqv:q<vars.length:=by rw [uh HN]; exact hlt
   obtain ⟨g,rfl,hnn,hc⟩:=(uh HH).cell hqv
   have hqi:(q:Int)<(N:Int):=by omega
   by_cases heq:vars[q]=r
   ·have be:((r:Int)==(vars[q]:Int))=true:=by simp [heq]
    have X:Hid (R=q):=by
     have hq2:vars[q]? = some r:=by rw [List.getElem?_eq_getElem hqv,heq]
     rcases uh HS with ⟨k,h1,h2,h3,h4,h5⟩ | ⟨h1,h2⟩
     ·have hk:k=q:=by
       have a1:¬k<q:=fun hh=>uh HQ k hh (by simpa using h4)
       have a2:¬q<k:=fun hh=>h5 q (by omega) hq2
       omega
      show R=_
      rw [<-uh HR,h1,hk]
     ·exact absurd hq2 (h2 q hqv)
    generalize (vars[q]:Nat)=x at *
    clear hnn
    go_wp2_with fail
    go_ret
    exact ⟨zdt (by rw [uh X]),rfl⟩
   ·have be:((r:Int)==(vars[q]:Int))=false:=by simp; omega
    have HQ2:Hid (∀i,i<q+1->vars[i]? ≠ some r):=fun i hi=>by
     by_cases hi2:i<q
     ·exact uh HQ i hi2
     ·have:i=q:=by omega
      subst this
      rw [List.getElem?_eq_getElem hqv]
      simpa using heq
    generalize (vars[q]:Nat)=x at *
    clear hnn
    go_wp2_with fail
    go_roundg (gk-1)
    case measure=>omega
    case rel=>exact ⟨rfl,q+1,by omega,by go_num,HQ2⟩
  ·have hqN:q=N:=by omega
   have X:Hid (R = -1):=by
    show R=_
    rcases uh HS with ⟨k,h1,h2,h3,h4,h5⟩ | ⟨h1,h2⟩
    ·exact absurd (by simpa using h4) (uh HQ k (by rw [hqN,<-uh HN]; omega))
    ·rw [<-uh HR,h1]
   go_wp2_with fail
   go_ret
   exact ⟨zdt (by rw [uh X]),rfl⟩
open Go.RowKit
theorem TK.yfj {B base k n:Nat} {S:List TypeId} {T:TypeId} {w w':World} {v:Value} {xs:List Value} (ho:w.ownsRow base T k v n xs) (hg:w.grownBy w' v.ownBlock) (hB:B<=base) (hT:S.contains T=true):TK B S w w':=by
 refine ⟨fun {i} x y=>hg.block i y (fun e=>by have:=(ho.lt i e.symm).1; omega),hg.os,hg.tape,hg.output,hg.size,fun {i c t m} x y=>(hg.block i (zgE.1 x).1 (fun e => ?_)).trans x,fun {i o} x y=>(hg.block i (zgE.1 x).1 (fun e => ?_)).trans x⟩
 ·rcases ho.2 with ⟨hv,_⟩ | ⟨g',cap',cur',hv,_,hh,_⟩
  ·rw [hv] at e; simp [Value.ownBlock] at e
  ·rw [hv] at e; simp [Value.ownBlock] at e; subst e; rw [hh] at x; cases x; rw [hT] at y; cases y
 ·rcases ho.2 with ⟨hv,_⟩ | ⟨g',cap',cur',hv,_,hh,_⟩
  ·rw [hv] at e; simp [Value.ownBlock] at e
  ·rw [hv] at e; simp [Value.ownBlock] at e; subst e; rw [hh] at x; cases x; exact y _ _ _ rfl
theorem TK.setAt {B b j:Nat} {S:List TypeId} {w:World} {c:Array Value} {t:TypeId} {m:Nat×Nat} (hb:w.heap[b]? = some (.cells c t m)) (hB:B<=b) (hS:S.contains t=true) (v:Value):TK B S w (w.setCell ⟨b,j,none⟩ v):=by
 refine ⟨fun {k} x y=>heap_setCell_other _ _ _ _ (by simp; omega),rfl,rfl,rfl,by simp,fun {k c' t' m'} x y => ?_,fun {k o} x y => ?_⟩
 ·by_cases hk:k=b
  ·subst hk; rw [hb] at x; cases x; rw [hS] at y; cases y
  ·rw [heap_setCell_other _ _ _ _ (by simp; omega)]; exact x
 ·by_cases hk:k=b
  ·subst hk; rw [hb] at x; cases x; exact absurd rfl (y _ _ _)
  ·rw [heap_setCell_other _ _ _ _ (by simp; omega)]; exact x
theorem Tryz.info124:(Tryz.prog.info? 124).map (fun i=>(i.zero,i.size,i.bytes))=some (some (.int .i64 0),1,8):=by kernel_rfl
structure TwAt (w:World) (bt bw bs:Nat) (vv:Value) (vars:List Nat):Prop where
 cell:w.heap[bt]? = some (.cells #[.pointer (some ⟨bw,0,none⟩),.pointer (some ⟨bs,0,none⟩),vv] 245 (0,0))
 vars:VarsAt w bt vv vars
 ne:vv.ownBlock≠some bt
abbrev NumS:List TypeId:=[245,124]
theorem VarsAt.tk {B:Nat} {S:List TypeId} {w w':World} {base:Nat} {vv:Value} {vars:List Nat} (h:VarsAt w base vv vars) (hg:TK B S w w') (h2:S.contains 124=false):VarsAt w' base vv vars:=by
 refine {h with owns:=⟨h.owns.1,?_⟩}
 rcases h.owns.2 with hn | ⟨g',cap,cur,hv,hb,hh,rest⟩
 ·exact .inl hn
 ·exact .inr ⟨g',cap,cur,hv,hb,hg.cells hh h2,rest⟩
theorem TwAt.tk {B:Nat} {S:List TypeId} {w w':World} {bt bw bs:Nat} {vv:Value} {vars:List Nat} (h:TwAt w bt bw bs vv vars) (hg:TK B S w w') (h1:S.contains 245=false) (h2:S.contains 124=false):TwAt w' bt bw bs vv vars :=
 {h with cell:=hg.cells h.cell h1,vars:=h.vars.tk hg h2}
theorem TwAt.grown {w w':World} {bt bw bs:Nat} {vv:Value} {vars:List Nat} (h:TwAt w bt bw bs vv vars) (hg:w.grownBy w' none):TwAt w' bt bw bs vv vars:=h.tk (TK.of_grown 0 [] hg) rfl rfl
theorem zs7 (w:World) (a:Value) (t:TypeId):∀j u,[a][j]? = some u->(w.alloc (.cells #[a] t)).cell? ((⟨w.heap.size,0,none⟩:Addr).add j)=some u:=by
 intro j u h
 match j,h with
 | 0,h =>
  simp at h
  subst h
  show (w.alloc _).cell? ⟨w.heap.size,0,none⟩=_
  rw [cell_of_row _ _ _ _ _ _ (zad w _)]
  rfl
theorem zun {w:World} {B bt bw bs:Nat} {vv:Value} {vars vars':List Nat} (h:TwAt w bt bw bs vv vars) (hB:B<=bt) {r i:Nat} (hf:Tw.zjl vars r=some (i,vars')) :
    Calls Tryz.prog 180 #[.pointer (some ⟨bt,0,none⟩),.int .i64 r] w fun e w'=>e = .returned (.int .i64 i)/\TK B NumS w w'/\∃vv',TwAt w' bt bw bs vv' vars':=by
  have H0:=bV h
  obtain ⟨a,cap,rfl⟩:=h.vars.slice
  obtain ⟨c0,c1,c2,_,_,f2⟩:=zaf h.cell
  have hbt:bt<w.heap.size:=(zgE.1 h.cell).1
  have HI:=bV (yan h.vars r)
  unfold Tw.zjl at hf
  cases hix:Tw.idxS r vars 0 with
  | some k =>
    rw [hix] at hf HI
    simp only [zsI,zpI] at hf
    obtain ⟨rfl,rfl⟩:=hf
    dsimp only at HI
    clear h hix
    go_enter Tryz.func180,Tryz.ntmps180
    go_wp2_with fail
    refine (uh HI).mono ?_
    rintro e1 w1 ⟨rfl,rfl⟩
    have hk0:(0:Int)<=(k:Int):=by omega
    go_wp2_with fail
    go_ret
    exact ⟨rfl,TK.refl _ _ _,_,uh H0⟩
  | none =>
    rw [hix] at hf HI
    dsimp only at hf HI
    split at hf
    rotate_left
    · cases hf
    rename_i hlen
    simp only [zsI,zpI] at hf
    obtain ⟨rfl,rfl⟩:=hf
    obtain ⟨i0,hi,hz0,hz1,hz2⟩:=info_parts Tryz.info124
    have ho:=h.vars.owns
    clear h hix
    generalize hN:vars.length=N at *
    have HN:=bV hN
    clear hN
    go_enter Tryz.func180,Tryz.ntmps180
    go_wp2_with fail
    refine (uh HI).mono ?_
    rintro e1 w1 ⟨rfl,rfl⟩
    go_wp2_with (first
      | (at_builtin; refine wpList_append_own _ rfl _ _ 243 rfl bt 124 i0 (.int .i64 0) 1 8 Tryz.underlying243 hi hz0 hz1 hz2 rfl (by decide) (.slice a N cap) N (vars.map fun (x:Nat)=>Value.int .i64 x) rfl (ho.alloc _) ⟨w.heap.size,0,none⟩ 1 1 [.int .i64 r] rfl rfl (zs7 _ _ _) (by intro u hu; simp at hu; rcases hu with rfl; rfl) (by unfold maxLen; omega) (by omega) (by simp; omega) ?_; intro v3 w3 hown3 hgrow3 hnil3
         obtain ⟨g,cap3,rfl⟩:∃g cap3,v3 = .slice (some ⟨g,0,none⟩) (N+1) cap3:=by
           rcases hown3.2 with ⟨_,hn⟩ | ⟨g,cap3,_,hv,_⟩
           · omega
           · exact ⟨g,cap3,hv⟩
         have hne:(Value.slice a N cap).ownBlock≠some bt:=H0.out.ne
         have S3:Hid (w3.heap[bt]? = some (.cells #[.pointer (some ⟨bw,0,none⟩),.pointer (some ⟨bs,0,none⟩),.slice a N cap] 245 (0,0))):=(hgrow3.block bt (by simp; omega) (fun e=>hne e.symm)).trans (zin H0.out.cell _)
         have K3:Hid (TK B NumS w w3):=(TK.of_grown _ _ (zwA w _ none)).trans (TK.yfj (ho.alloc _) hgrow3 hB (by decide))
         have gne:g≠bt:=by
           rcases hown3.2 with ⟨hv,_⟩ | ⟨g',cap',cur',hv,_,hh,_⟩
           · cases hv
           · cases hv
             intro e
             subst e
             rw [S3.out] at hh
             simp at hh
         have O3:=bV hown3
         obtain ⟨k0,k1,k2,e0,e1,e2⟩:=zaf S3.out
         clear hgrow3 hown3 hnil3))
    go_ret
    go_light
    refine ⟨by go_num,K3.out.trans (TK.setAt S3.out hB (by decide) _),.slice (some ⟨g,0,none⟩) (N+1) cap3,?_⟩
    have hl:(vars ++ [r]).length=N+1:=by simp [HN.out]
    refine ⟨by rw [heap_setCell_same _ _ _ _ _ _ S3.out]; rfl,⟨?_,by rw [hl]; omega⟩,by simpa [Value.ownBlock] using gne⟩
    rw [hl,List.map_append]
    have:=uh O3
    refine ⟨this.1,?_⟩
    rcases this.2 with ⟨hv,_⟩ | ⟨g',cap',cur',hv,hb,hh,rest⟩
    · cases hv
    · cases hv
      exact .inr ⟨g,cap3,cur',rfl,hb,by rw [heap_setCell_other _ _ _ _ (by simpa using gne)]; exact hh,rest⟩
open Go.RowKit
def WrtAt (w:World) (bt bw bs g cap:Nat) (t:Tw.TW):Prop:=∃vv sv cur,TwAt w bt bw bs vv t.vars/\BrAt w bw 400 sv t.acc/\RowAt w bs g cap cur t.st
abbrev WtS:List TypeId:=[128,334,329,5,245,124]
abbrev SolS:List TypeId:=[128,334]
structure KG (g:Nat) (w w':World):Prop where
 keep:∀ {k:Nat} {c:Array Value} {m:Nat×Nat},k≠g->w.heap[k]? = some (.cells c 334 m)->w'.heap[k]? = some (.cells c 334 m)
theorem KG.trans {g:Nat} {a b c:World} (h:KG g a b) (k:KG g b c):KG g a c:=⟨fun n x=>k.keep n (h.keep n x)⟩
theorem KG.of_grown {g:Nat} {w w':World} (h:w.grownBy w' none):KG g w w':=⟨fun _ x=>zbG h x⟩
theorem KG.ye9 {B g:Nat} {S:List TypeId} {w w':World} (h:TK B S w w') (hS:S.contains 334=false):KG g w w':=⟨fun _ x=>h.cells x hS⟩
theorem KG.of_uk {bs g cap:Nat} {cur:Array Value} {st:Tw.SS} {w w':World} (hR:RowAt w bs g cap cur st) (h:UK bs g w w'):KG g w w':=⟨fun {k c m} n x=>h.at x (fun e=>by subst e; rw [hR.solver] at x; simp at x) n⟩
theorem zoa:∀(n:Nat) {st st':Tw.SS} {r p:Nat},Tw.zdq n st r=some (p,st')->st'.shs.length=st.shs.length
 | 0,_,_,_,_,h=>by simp [Tw.zdq] at h
 | n+1,st,st',r,p,h=>by
  rw [Tw.zdq] at h
  split at h
  ·cases h
  ·split at h
   ·cases h; rfl
   ·split at h
    ·cases h
    ·have:=zoa n h
     simpa [Tw.za9] using this
theorem zxa {w:World} {B bt bw bs g cap:Nat} {cur:Array Value} {vv:Value} {vars:List Nat} (hT:TwAt w bt bw bs vv vars) {st st1:Tw.SS} (hR:RowAt w bs g cap cur st) (hB:B<=bs) {fuel r:Nat} {so:Int}
    (hf:Tw.zg2 fuel st r=some (so,st1)) :
    Calls Tryz.prog 182 #[.pointer (some ⟨bt,0,none⟩),.int .i64 r] w fun e w'=>e = .returned (.int .i64 so)/\TK B SolS w w'/\KG g w w'/\∃cur',RowAt w' bs g cap cur' st1:=by
  unfold Tw.zg2 at hf
  simp only [zbE,zsI,zpI] at hf
  obtain ⟨⟨p,st2⟩,hfi,x,hx,rfl,rfl⟩:=hf
  have HT:=bV hT
  have HR:=bV hR
  have HF:=bV hfi
  have HX:=bV hx
  have hl:=zoa _ hfi
  dsimp only at hl hx
  have RD:=bV hR.drew
  obtain ⟨c0,c1,c2,_,_,_⟩:=zaf (show w.drew.heap[bt]? = _ from hT.cell)
  obtain ⟨d0,d1,_,_⟩:=zau (uh RD).solver
  have c237:Tryz.prog.cellsOf 334=4:=by kernel_rfl
  clear hT hR hfi hx
  go_enter Tryz.func182,Tryz.ntmps182
  go_wp2_with fail
  go_region_with
    ((go_at_call 177; refine (zet (uh RD) (uh HF)).mono ?_; rintro e1 w1 ⟨rfl,hk,cur1,hR1⟩
      have R1:=bV hR1
      have K1:Hid (TK B SolS w w1):=(TK.of_grown _ _ (zac (zab _))).trans ((uh HR).drew.zqe hk (by decide) (by decide) hB)
      have T1:=bV ((uh HT).tk (uh K1) (by decide) (by decide))
      have G1:Hid (KG g w w1):=(KG.of_grown (zac (zab _))).trans (KG.of_uk (uh HR).drew hk)
      obtain ⟨e0,e1,e2,_,_,_⟩:=zaf (uh T1).cell
      obtain ⟨f0,f1,_,_⟩:=zau hR1.solver
      rw [hl] at f0
      obtain ⟨hpl,x0,x1,x2,x3⟩:=hR1.sh (uh HX)
      have hpi:(p:Int)<(st.shs.length:Int):=by omega
      clear hk hR1))
  all_goals (go_wp2_with fail; go_ret; exact ⟨rfl,K1.out,G1.out,cur1,R1.out⟩)
theorem zsb {w:World} {B bt bw bs g cap:Nat} {cur:Array Value} {vv:Value} {vars:List Nat} (hT:TwAt w bt bw bs vv vars) {st st1:Tw.SS} (hR:RowAt w bs g cap cur st) (hB:B<=bs) {fuel r:Nat} {so:Int}
    (hf:Tw.zg2 fuel st r=some (so,st1)) :
    Calls Tryz.prog 183 #[.pointer (some ⟨bt,0,none⟩),.int .i64 r] w fun e w'=>e = .returned (.bool (so==3||so==4))/\TK B SolS w w'/\KG g w w'/\∃cur',RowAt w' bs g cap cur' st1:=by
  unfold Tw.zg2 at hf
  simp only [zbE,zsI,zpI] at hf
  obtain ⟨⟨p,st2⟩,hfi,x,hx,rfl,rfl⟩:=hf
  have HT:=bV hT
  have HR:=bV hR
  have HF:=bV hfi
  have HX:=bV hx
  have hl:=zoa _ hfi
  dsimp only at hl hx
  have RD:=bV hR.drew
  obtain ⟨c0,c1,c2,_,_,_⟩:=zaf (show w.drew.heap[bt]? = _ from hT.cell)
  obtain ⟨d0,d1,_,_⟩:=zau (uh RD).solver
  have c237:Tryz.prog.cellsOf 334=4:=by kernel_rfl
  obtain ⟨mv,hmv⟩:∃mv,(x.sort==3||x.sort==4)=mv:=⟨_,rfl⟩
  rw [hmv]
  have HM:Hid (Tw.zi1 x=mv):=hmv
  clear hT hR hfi hx hmv
  go_enter Tryz.func183,Tryz.ntmps183
  go_wp2_with fail
  go_region_with
    (first
      | (go_at_call 177; refine (zet (uh RD) (uh HF)).mono ?_; rintro e1 w1 ⟨rfl,hk,cur1,hR1⟩
         have R1:=bV hR1
         have K1:Hid (TK B SolS w w1):=(TK.of_grown _ _ (zac (zab _))).trans ((uh HR).drew.zqe hk (by decide) (by decide) hB)
         have T1:=bV ((uh HT).tk (uh K1) (by decide) (by decide))
         have G1:Hid (KG g w w1):=(KG.of_grown (zac (zab _))).trans (KG.of_uk (uh HR).drew hk)
         obtain ⟨e0,e1,e2,_,_,_⟩:=zaf (uh T1).cell
         obtain ⟨f0,f1,_,_⟩:=zau hR1.solver
         rw [hl] at f0
         obtain ⟨hpl,x0,x1,x2,x3⟩:=hR1.sh (uh HX)
         have hpi:(p:Int)<(st.shs.length:Int):=by omega
         clear hk hR1)
      | (go_at_call 178; refine (zmx x _).mono ?_; rintro e1 w2 ⟨rfl,hg⟩
         rw [uh HM]
         have K2:Hid (TK B SolS w w2):=K1.out.trans (TK.of_grown _ _ hg)
         have G2:Hid (KG g w w2):=G1.out.trans (KG.of_grown hg)
         have R2:=bV ((uh R1).grown hg)
         obtain ⟨e3,e4,e5,_,_,_⟩:=zaf ((uh T1).grown hg).cell
         obtain ⟨f3,f4,_,_⟩:=zau (uh R2).solver
         rw [hl] at f3
         clear hg))
  all_goals (go_wp2_with fail; go_ret; exact ⟨rfl,K2.out,G2.out,cur1,R2.out⟩)
open Go.RowKit
def yd2 (B bt bw bs g cap:Nat) (w:World) (t':Tw.TW) (e:Ending) (w':World):Prop:=e = .returned (.tuple #[])/\(TK B WtS w w'/\KG g w w')/\WrtAt w' bt bw bs g cap t'
def zt1 (n:Nat):Prop:=∀ {w:World} {B bt bw bs g cap:Nat} {t t':Tw.TW} {r:Nat},WrtAt w bt bw bs g cap t->B<=bt->B<=bw->B<=bs->Tw.zcu n t r=some t' ->
 Calls Tryz.prog 107 #[.pointer (some ⟨bt,0,none⟩),.int .i64 r] w (yd2 B bt bw bs g cap w t')
def zyt (n:Nat):Prop:=∀ {w:World} {B bt bw bs g cap:Nat} {t t':Tw.TW} {r:Nat} {b:Bool},WrtAt w bt bw bs g cap t->B<=bt->B<=bw->B<=bs->Tw.zjm n t r b=some t' ->
 Calls Tryz.prog 181 #[.pointer (some ⟨bt,0,none⟩),.int .i64 r,.bool b] w (yd2 B bt bw bs g cap w t')
theorem zxb {vars vars':List Nat} {r k:Nat} (h:Tw.zjl vars r=some (k,vars')) (hl:vars.length<=2001):k<2600:=by
 unfold Tw.zjl at h
 rcases zn9 r vars 0 with ⟨i,h1,_,h3,_⟩ | ⟨h1,_⟩
 ·rw [h1] at h
  cases h
  omega
 ·rw [h1] at h
  dsimp only at h
  split at h
  ·cases h
   omega
  ·cases h
theorem zsc {k:Nat} (h:k<2600):(Tw.zh8 k).length<=4/\0<(Tw.zh8 k).length:=by
 unfold Tw.zh8
 split
 ·have:Lib.itoa ((k / 26:Nat):Int)=Lib.decDigits (k / 26):=by
   unfold Lib.itoa
   rw [if_neg (by omega)]
   rfl
  rw [this]
  have:=zke (k / 26) (by omega)
  simp
  omega
 ·simp
theorem zhj {w:World} {B bt bw bs g cap:Nat} {t:Tw.TW} (h:WrtAt w bt bw bs g cap t) (hB:B<=bw) (s:ByteArray) (hs:s.size<=1000) (h0:0<s.size) :
  Calls Tryz.prog 172 #[.pointer (some ⟨bw,0,none⟩),.string s] w (yd2 B bt bw bs g cap w ⟨t.st,t.vars,Tw.putS 400 t.acc s.data.toList⟩):=by
 obtain ⟨vv,sv,cur,hT,hW,hR⟩:=h
 refine (zhy hW hB s hs h0).mono ?_
 rintro e w' ⟨rfl,hk,sv',hW'⟩
 exact ⟨rfl,⟨hk.sub (by decide),KG.ye9 hk (by decide)⟩,vv,sv',cur,hT.tk hk (by decide) (by decide),hW',hR.tk hk (by decide) (by decide)⟩
theorem WrtAt.cells {w:World} {bt bw bs g cap:Nat} {t:Tw.TW} (h:WrtAt w bt bw bs g cap t):∃vv,w.heap[bt]? = some (.cells #[.pointer (some ⟨bw,0,none⟩),.pointer (some ⟨bs,0,none⟩),vv] 245 (0,0)):=by
 obtain ⟨vv,sv,cur,hT,_,_⟩:=h
 exact ⟨vv,hT.cell⟩
theorem WrtAt.grown {w w':World} {bt bw bs g cap:Nat} {t:Tw.TW} (h:WrtAt w bt bw bs g cap t) (hg:w.grownBy w' none):WrtAt w' bt bw bs g cap t:=by
 obtain ⟨vv,sv,cur,hT,hW,hR⟩:=h
 exact ⟨vv,sv,cur,hT.grown hg,hW.grown hg,hR.grown hg⟩
theorem yao {n:Nat} (hW:zt1 n):zyt (n+1):=by
 intro w B bt bw bs g cap t t' r b h h1 h2 h3 hf
 rw [Tw.zjm] at hf
 have HH:=bV h
 obtain ⟨vv,hc⟩:=h.cells
 obtain ⟨c0,c1,_,_,_,_⟩:=zaf hc
 clear h hc
 cases b with
 | false =>
  simp only [Bool.false_eq_true,if_false] at hf
  have HF:=bV hf
  clear hf
  go_enter Tryz.func181,Tryz.ntmps181
  go_wp2_with fail
  refine (hW (uh HH) h1 h2 h3 (uh HF)).mono ?_
  rintro e1 w1 ⟨rfl,hk⟩
  have K:=bV hk
  clear hk
  go_wp2_with fail
  go_end0
  exact ⟨rfl,uh K⟩
 | true =>
  simp only [if_true,zbE,zsI] at hf
  obtain ⟨u,hu,rfl⟩:=hf
  have HF:=bV hu
  clear hu
  go_enter Tryz.func181,Tryz.ntmps181
  go_wp2_with fail
  refine (zhj (uh HH) h2 ⟨#[40]⟩ (by simp [ByteArray.size]) (by simp [ByteArray.size])).mono ?_
  rintro e1 w1 ⟨rfl,hk,hw⟩
  have K1:=bV hk
  have W1:=bV hw
  clear hk hw c0 c1
  go_wp2_with fail
  refine (hW (uh W1) h1 h2 h3 (uh HF)).mono ?_
  rintro e1 w2 ⟨rfl,hk,hw⟩
  have K2:=bV (And.intro ((uh K1).1.trans hk.1) ((uh K1).2.trans hk.2))
  have W2:=bV hw
  obtain ⟨vv2,hc⟩:=hw.cells
  obtain ⟨c0,c1,_,_,_,_⟩:=zaf hc
  clear hk hw hc K1
  go_wp2_with fail
  refine (zhj (uh W2) h2 ⟨#[41]⟩ (by simp [ByteArray.size]) (by simp [ByteArray.size])).mono ?_
  rintro e1 w3 ⟨rfl,hk,hw⟩
  have X:=bV (And.intro (And.intro ((uh K2).1.trans hk.1) ((uh K2).2.trans hk.2)) hw)
  clear hk hw
  go_wp2_with fail
  go_end0
  exact ⟨rfl,uh X⟩
theorem zxc {n:Nat} (hIt:Said.ItoaSmall) (hW:zt1 n) (hP:zyt n):zt1 (n+1):=by
  intro w B bt bw bs g cap t t' r h h1 h2 h3 hf
  rw [Tw.zcu] at hf
  have HH:=bV h
  obtain ⟨vv,sv,cur,hT,hB,hR⟩:=h
  obtain ⟨c0,c1,_,_,_,_⟩:=zaf hT.cell
  have T0:=bV hT
  have B0:=bV hB
  have R0:=bV hR
  clear hT hB hR
  by_cases hfull:400<t.acc.length
  · rw [if_pos hfull] at hf
    cases hf
    have hd:decide (400<t.acc.length)=true:=by simp [hfull]
    have HD:=bV hd
    clear hd
    go_enter Tryz.func107,Tryz.ntmps107
    go_wp2_with fail
    refine (zd3 (uh B0)).mono ?_
    rintro e1 w1 ⟨rfl,rfl⟩
    rw [uh HD]
    go_wp2_with fail
    go_end0
    exact ⟨rfl,⟨TK.of_grown _ _ (zac (zab _)),KG.of_grown (zac (zab _))⟩,(uh HH).grown (zac (zab _))⟩
  rw [if_neg hfull] at hf
  simp only [zbE] at hf
  obtain ⟨⟨p,st1⟩,hfi,x,hx,hf⟩:=hf
  dsimp only at hx hf
  have HF:=bV hfi
  have HX:=bV hx
  have hd:decide (400<t.acc.length)=false:=by simp; omega
  have HD:=bV hd
  have c237:Tryz.prog.cellsOf 334=4:=by kernel_rfl
  clear hfi hx hd
  have hcase:x.sort=0\/x.sort=1\/x.sort=2\/x.sort=3\/x.sort=4\/(x.sort≠0/\x.sort≠1/\x.sort≠2/\x.sort≠3/\x.sort≠4):=by omega
  have hbt:bt<w.heap.size:=(zgE.1 (uh T0).cell).1
  rcases hcase with hs | hs | hs | hs | hs | ⟨hs0,hs1,hs2,hs3,hs4⟩
  all_goals
    first
      | (simp only [hs,if_true,Int.reduceEq,if_false,zsI] at hf)
      | (simp only [hs0,hs1,hs2,hs3,hs4,if_false,zsI] at hf)
    have HG:=bV hf
    clear hf
    first
      | (
          have s0:=congrArg (fun z:Int=>z==0) hs
          have s1:=congrArg (fun z:Int=>z==1) hs
          have s2:=congrArg (fun z:Int=>z==2) hs
          have s3:=congrArg (fun z:Int=>z==3) hs
          have s4:=congrArg (fun z:Int=>z==4) hs
          simp only [Int.reduceBEq] at s0 s1 s2 s3 s4)
      | (
          have s0:(x.sort==0)=false:=by simp [hs0]
          have s1:(x.sort==1)=false:=by simp [hs1]
          have s2:(x.sort==2)=false:=by simp [hs2]
          have s3:(x.sort==3)=false:=by simp [hs3]
          have s4:(x.sort==4)=false:=by simp [hs4])
    first
      | clear hs
      | clear hs0 hs1 hs2 hs3 hs4
    go_enter Tryz.func107,Tryz.ntmps107
    go_wp2_with fail
    refine (zd3 (uh B0)).mono ?_
    rintro e1 w' ⟨rfl,rfl⟩
    rw [uh HD]
    have T1:Hid (TwAt w.drew bt bw bs vv t.vars):=(uh T0).grown (zac (zab _))
    obtain ⟨d0,d1,_,_,_,_⟩:=zaf (uh T1).cell
    clear c0 c1
    go_wp2_with fail
    refine (zet (uh R0).drew (uh HF)).mono ?_
    rintro e1 w1 ⟨rfl,hk,cur1,hR1⟩
    have R1:=bV hR1
    have K1:Hid (TK B SolS w w1):=(TK.of_grown _ _ (zac (zab _))).trans ((uh R0).drew.zqe hk (by decide) (by decide) h3)
    have G1:Hid (KG g w w1):=(KG.of_grown (zac (zab _))).trans (KG.of_uk (uh R0).drew hk)
    have W1:Hid (WrtAt w1 bt bw bs g cap ⟨st1,t.vars,t.acc⟩):=⟨vv,sv,cur1,(uh T0).tk (uh K1) (by decide) (by decide),(uh B0).tk (uh K1) (by decide) (by decide),hR1⟩
    have T2:=bV ((uh T0).tk (uh K1) (by decide) (by decide))
    obtain ⟨e0,e1,_,_,_,_⟩:=zaf (uh T2).cell
    have hbt1:bt<w1.heap.size:=(zgE.1 (uh T2).cell).1
    obtain ⟨hpl,x0,x1,x2,x3⟩:=hR1.sh (uh HX)
    obtain ⟨t0,_,_,_⟩:=zau hR1.solver
    have hpi:(p:Int)<(st1.shs.length:Int):=by omega
    have hm:=hR1.many
    clear hk hR1 d0 d1 T0 T1 B0 R0 HH
    have hgl:g<w1.heap.size:=(zgE.1 (uh R1).row).1
    have A2:Hid (w1.grownBy (w1.alloc (.cells #[.int .i64 x.sort,.int .i64 x.left,.int .i64 x.right,.int .i64 x.same] 334)) none):=zwA _ _ none
    have K2:Hid (TK B WtS w (w1.alloc (.cells #[.int .i64 x.sort,.int .i64 x.left,.int .i64 x.right,.int .i64 x.same] 334))/\KG g w (w1.alloc (.cells #[.int .i64 x.sort,.int .i64 x.left,.int .i64 x.right,.int .i64 x.same] 334))):=⟨((uh K1).sub (by decide)).trans (TK.of_grown _ _ A2.out),G1.out.trans (KG.of_grown A2.out)⟩
    have W2:=bV ((uh W1).grown A2.out)
    have N2:Hid ((w1.alloc (.cells #[.int .i64 x.sort,.int .i64 x.left,.int .i64 x.right,.int .i64 x.same] 334)).heap[w1.heap.size]? = some (.cells #[.int .i64 x.sort,.int .i64 x.left,.int .i64 x.right,.int .i64 x.same] 334 (0,0))):=zad _ _
    clear R1 K1 G1 W1 T2 A2
    go_wp2_with fail
  · have hg':=HG.out
    simp only [zbE,zsI] at hg'
    obtain ⟨⟨k,vars'⟩,hn,rfl⟩:=hg'
    have HN:=bV hn
    obtain ⟨vv2,sv2,cur2,hT2,hB2,hR2⟩:=uh W2
    have HK:=bV (zxb hn hT2.vars.few)
    clear hn HG
    have T2:=bV (hT2.grown (zac (zab _)))
    obtain ⟨f0,f1,f2,_,_,_⟩:=zaf (uh T2).cell
    have B2:=bV hB2
    have R2:=bV hR2
    clear hT2 hB2 hR2
    generalize w1.alloc (.cells #[.int .i64 x.sort,.int .i64 x.left,.int .i64 x.right,.int .i64 x.same] 334)=wa at *
    go_region_held3 (fun W=>W.cell? ⟨bt,0,none⟩=some (.pointer (some ⟨bw,0,none⟩))) (go_keep)
      (first
        | (go_at_call 180; refine (zun (uh T2) h1 (uh HN)).mono ?_; rintro e1 w3 ⟨rfl,hk,vv3,hT3⟩
           have T3:=bV hT3
           have K3:Hid (TK B WtS w w3/\KG g w w3):=⟨(uh K2).1.trans ((TK.of_grown _ _ (zac (zab _))).trans (hk.sub (by decide))),(uh K2).2.trans ((KG.of_grown (zac (zab _))).trans (KG.ye9 hk (by decide)))⟩
           have B3:=bV (((uh B2).grown (zac (zab _))).tk hk (by decide) (by decide))
           have R3:=bV ((uh R2).drew.tk hk (by decide) (by decide))
           obtain ⟨k0,k1,k2,_,_,_⟩:=zaf hT3.cell
           clear hk hT3)
        | (go_at_call 179; refine (zn8 hIt k (uh HK) _).mono ?_; rintro e1 w4 ⟨rfl,rfl⟩)
        | (go_at_call 172; refine (zhj (t:=⟨st1,vars',t.acc⟩) ⟨vv3,sv2,cur2,uh T3,uh B3,uh R3⟩ h2 ⟨(Tw.zh8 k).toArray⟩ (by have:=(zsc (uh HK)).1; simp [ByteArray.size]; omega) (by have:=(zsc (uh HK)).2; simpa [ByteArray.size] using this)).mono ?_; rintro e1 w5 ⟨rfl,hk,hw⟩
           have X:=bV (And.intro (And.intro ((uh K3).1.trans hk.1) ((uh K3).2.trans hk.2)) hw)
           obtain ⟨vv4,hc⟩:=hw.cells
           obtain ⟨m0,m1,m2,_,_,_⟩:=zaf hc
           clear hk hw hc))
    go_wp2_with fail
    go_end0
    exact ⟨rfl,uh X⟩
  · cases HG.out
    refine (zhj (uh W2) h2 ⟨#[105,110,116]⟩ (by simp [ByteArray.size]) (by simp [ByteArray.size])).mono ?_
    rintro e1 w3 ⟨rfl,hk,hw⟩
    have X:=bV (And.intro (And.intro ((uh K2).1.trans hk.1) ((uh K2).2.trans hk.2)) hw)
    clear hk hw
    go_wp2_with fail
    go_end0
    exact ⟨rfl,uh X⟩
  · cases HG.out
    refine (zhj (uh W2) h2 ⟨#[98,111,111,108]⟩ (by simp [ByteArray.size]) (by simp [ByteArray.size])).mono ?_
    rintro e1 w3 ⟨rfl,hk,hw⟩
    have X:=bV (And.intro (And.intro ((uh K2).1.trans hk.1) ((uh K2).2.trans hk.2)) hw)
    clear hk hw
    go_wp2_with fail
    go_end0
    exact ⟨rfl,uh X⟩
  · have hg':=HG.out
    simp only [zbE] at hg'
    obtain ⟨⟨so,st2⟩,hn,u,hu,hv⟩:=hg'
    dsimp only at hu hv
    have HN:=bV hn
    have HU:=bV hu
    have HV:=bV hv
    clear hn hu hv HG
    obtain ⟨vv2,sv2,cur2,hT2,hB2,hR2⟩:=uh W2
    have T2:=bV (hT2.grown (zac (zab _)))
    have B2:=bV (hB2.grown (zac (zab _)))
    have R2:=bV hR2.drew
    clear hT2 hB2 hR2
    have hgne:w1.heap.size≠g:=by omega
    have NE:=bV hgne
    generalize w1.alloc (.cells #[.int .i64 x.sort,.int .i64 x.left,.int .i64 x.right,.int .i64 x.same] 334)=wa at *
    clear e0 e1 x0 x1 x2 x3 t0 hbt1 hgl hgne
    generalize w1.heap.size=wb at *
    have KD:Hid (TK B WtS w wa.drew/\KG g w wa.drew):=⟨(uh K2).1.trans (TK.of_grown _ _ (zac (zab _))),(uh K2).2.trans (KG.of_grown (zac (zab _)))⟩
    have ND:Hid (wa.drew.heap[wb]? = some (.cells #[.int .i64 x.sort,.int .i64 x.left,.int .i64 x.right,.int .i64 x.same] 334 (0,0))):=uh N2
    obtain ⟨y0,y1,y2,y3⟩:=zbl (uh ND)
    clear W2 K2 N2
    go_region_held3 (fun W=>W.cell? ⟨wb,1,none⟩=some (.int .i64 x.left)) (go_keep)
      (first
        | (go_at_call 182; refine (zxa (uh T2) (uh R2) h3 (uh HN)).mono ?_; rintro e1 w3 ⟨rfl,hk,hkg,cur3,hR3⟩
           have K3:Hid (TK B WtS w w3/\KG g w w3):=⟨(uh KD).1.trans (hk.sub (by decide)),(uh KD).2.trans hkg⟩
           have W3:Hid (WrtAt w3 bt bw bs g cap ⟨st2,t.vars,t.acc⟩):=⟨vv2,sv2,cur3,(uh T2).tk hk (by decide) (by decide),(uh B2).tk hk (by decide) (by decide),hR3⟩
           have N3:=bV (hkg.keep (uh NE) (uh ND))
           obtain ⟨z0,z1,z2,z3⟩:=zbl (uh N3)
           clear hk hkg hR3)
        | (go_at_call 181; refine (hP (uh W3) h1 h2 h3 (uh HU)).mono ?_; rintro e1 w4 ⟨rfl,hk,hw⟩
           have K4:Hid (TK B WtS w w4/\KG g w w4):=⟨(uh K3).1.trans hk.1,(uh K3).2.trans hk.2⟩
           have W4:=bV hw
           have N4:=bV (hk.2.keep (uh NE) (uh N3))
           obtain ⟨v0,v1,v2,v3⟩:=zbl (uh N4)
           obtain ⟨vv4,hc⟩:=hw.cells
           obtain ⟨m0,m1,m2,_,_,_⟩:=zaf hc
           clear hk hw hc))
    go_wp2_with fail
    refine (zhj (uh W4) h2 ⟨#[32,45,62,32]⟩ (by simp [ByteArray.size]) (by simp [ByteArray.size])).mono ?_
    rintro e1 w5 ⟨rfl,hk,hw⟩
    have K5:Hid (TK B WtS w w5/\KG g w w5):=⟨(uh K4).1.trans hk.1,(uh K4).2.trans hk.2⟩
    have W5:=bV hw
    obtain ⟨u0,u1,u2,u3⟩:=zbl (hk.2.keep (uh NE) (uh N4))
    clear hk hw
    go_wp2_with fail
    refine (hW (uh W5) h1 h2 h3 (uh HV)).mono ?_
    rintro e1 w6 ⟨rfl,hk,hw⟩
    have X:=bV (And.intro (And.intro ((uh K5).1.trans hk.1) ((uh K5).2.trans hk.2)) hw)
    clear hk hw
    go_wp2_with fail
    go_end0
    exact ⟨rfl,uh X⟩
  · have hg':=HG.out
    simp only [zbE] at hg'
    obtain ⟨⟨so,st2⟩,hn,u,hu,⟨so2,st3⟩,hn2,hv⟩:=hg'
    dsimp only at hu hv
    have HN:=bV hn
    have HU:=bV hu
    have HN2:=bV hn2
    have HV:=bV hv
    clear hn hu hn2 hv HG
    obtain ⟨vv2,sv2,cur2,hT2,hB2,hR2⟩:=uh W2
    have T2:=bV (hT2.grown (zac (zab _)))
    have B2:=bV (hB2.grown (zac (zab _)))
    have R2:=bV hR2.drew
    clear hT2 hB2 hR2
    have hgne:w1.heap.size≠g:=by omega
    have NE:=bV hgne
    generalize w1.alloc (.cells #[.int .i64 x.sort,.int .i64 x.left,.int .i64 x.right,.int .i64 x.same] 334)=wa at *
    clear e0 e1 x0 x1 x2 x3 t0 hbt1 hgl hgne
    generalize w1.heap.size=wb at *
    have KD:Hid (TK B WtS w wa.drew/\KG g w wa.drew):=⟨(uh K2).1.trans (TK.of_grown _ _ (zac (zab _))),(uh K2).2.trans (KG.of_grown (zac (zab _)))⟩
    have ND:Hid (wa.drew.heap[wb]? = some (.cells #[.int .i64 x.sort,.int .i64 x.left,.int .i64 x.right,.int .i64 x.same] 334 (0,0))):=uh N2
    obtain ⟨y0,y1,y2,y3⟩:=zbl (uh ND)
    clear W2 K2 N2
    go_region_held3 (fun W=>W.cell? ⟨wb,1,none⟩=some (.int .i64 x.left)) (go_keep)
      (first
        | (go_at_call 183; refine (zsb (uh T2) (uh R2) h3 (uh HN)).mono ?_; rintro e1 w3 ⟨rfl,hk,hkg,cur3,hR3⟩
           have K3:Hid (TK B WtS w w3/\KG g w w3):=⟨(uh KD).1.trans (hk.sub (by decide)),(uh KD).2.trans hkg⟩
           have W3:Hid (WrtAt w3 bt bw bs g cap ⟨st2,t.vars,t.acc⟩):=⟨vv2,sv2,cur3,(uh T2).tk hk (by decide) (by decide),(uh B2).tk hk (by decide) (by decide),hR3⟩
           have N3:=bV (hkg.keep (uh NE) (uh ND))
           obtain ⟨z0,z1,z2,z3⟩:=zbl (uh N3)
           clear hk hkg hR3)
        | (go_at_call 181; refine (hP (uh W3) h1 h2 h3 (uh HU)).mono ?_; rintro e1 w4 ⟨rfl,hk,hw⟩
           have K4:Hid (TK B WtS w w4/\KG g w w4):=⟨(uh K3).1.trans hk.1,(uh K3).2.trans hk.2⟩
           have W4:=bV hw
           have N4:=bV (hk.2.keep (uh NE) (uh N3))
           obtain ⟨v0,v1,v2,v3⟩:=zbl (uh N4)
           obtain ⟨vv4,hc⟩:=hw.cells
           obtain ⟨m0,m1,m2,_,_,_⟩:=zaf hc
           clear hk hw hc))
    go_wp2_with fail
    refine (zhj (uh W4) h2 ⟨#[32,42,32]⟩ (by simp [ByteArray.size]) (by simp [ByteArray.size])).mono ?_
    rintro e1 w5 ⟨rfl,hk,hw⟩
    have K5:Hid (TK B WtS w w5.drew/\KG g w w5.drew):=⟨((uh K4).1.trans hk.1).trans (TK.of_grown _ _ (zac (zab _))),((uh K4).2.trans hk.2).trans (KG.of_grown (zac (zab _)))⟩
    obtain ⟨vv5,sv5,cur5,hT5,hB5,hR5⟩:=hw
    have T5:=bV (hT5.grown (zac (zab _)))
    have B5:=bV (hB5.grown (zac (zab _)))
    have R5:=bV hR5.drew
    have N5:Hid (w5.drew.heap[wb]? = some (.cells #[.int .i64 x.sort,.int .i64 x.left,.int .i64 x.right,.int .i64 x.same] 334 (0,0))):=hk.2.keep (uh NE) (uh N4)
    obtain ⟨u0,u1,u2,u3⟩:=zbl (uh N5)
    clear hk hT5 hB5 hR5 KD ND T2 B2 R2 W4 K4 N4
    go_wp2_with fail
    go_region_held3 (fun W=>W.cell? ⟨wb,2,none⟩=some (.int .i64 x.right)) (go_keep)
      (first
        | (go_at_call 183; refine (zsb (uh T5) (uh R5) h3 (uh HN2)).mono ?_; rintro e1 w6 ⟨rfl,hk,hkg,cur6,hR6⟩
           have K6:Hid (TK B WtS w w6/\KG g w w6):=⟨(uh K5).1.trans (hk.sub (by decide)),(uh K5).2.trans hkg⟩
           have W6:Hid (WrtAt w6 bt bw bs g cap ⟨st3,u.vars,Tw.putS 400 u.acc [32,42,32]⟩):=⟨vv5,sv5,cur6,(uh T5).tk hk (by decide) (by decide),(uh B5).tk hk (by decide) (by decide),hR6⟩
           have N6:=bV (hkg.keep (uh NE) (uh N5))
           obtain ⟨z0,z1,z2,z3⟩:=zbl (uh N6)
           clear hk hkg hR6)
        | (go_at_call 181; refine (hP (uh W6) h1 h2 h3 (uh HV)).mono ?_; rintro e1 w7 ⟨rfl,hk,hw⟩
           have X:=bV (And.intro (And.intro ((uh K6).1.trans hk.1) ((uh K6).2.trans hk.2)) hw)
           obtain ⟨v0,v1,v2,v3⟩:=zbl (hk.2.keep (uh NE) (uh N6))
           clear hk hw))
    go_wp2_with fail
    go_end0
    exact ⟨rfl,uh X⟩
  · cases HG.out
    go_end0
    exact ⟨rfl,uh K2,uh W2⟩
theorem zk5 (hIt:Said.ItoaSmall):∀n,zt1 n/\zyt n
 | 0=>⟨fun _ _ _ _ h=>by simp [Tw.zcu] at h,fun _ _ _ _ h=>by simp [Tw.zjm] at h⟩
 | n+1=>⟨zxc hIt (zk5 hIt n).1 (zk5 hIt n).2,yao (zk5 hIt n).1⟩
theorem ycn (hIt:Said.ItoaSmall) {w:World} {B bs g cap:Nat} {cur:Array Value} {st:Tw.SS} (hR:RowAt w bs g cap cur st) {n r:Nat} {u:Tw.TW} (hf:Tw.zcu n ⟨st,[],[]⟩ r=some u) (hB:B<=bs) :
  Calls Tryz.prog 55 #[.pointer (some ⟨bs,0,none⟩),.int .i64 r] w fun e w'=>e = .returned (ug (Tw.zju 400 u.acc))/\TK B WtS w w':=by
 have R0:=bV hR
 have HF:=bV hf
 have hbs:bs<w.heap.size:=(zgE.1 hR.solver).1
 clear hR hf
 go_enter Tryz.func55,Tryz.ntmps55
 go_wp2_with fail
 refine (zij w 400 (by omega)).mono ?_
 rintro e1 w1 ⟨rfl,hg,hb⟩
 have G1:=bV hg
 have B1:=bV hb
 have R1:=bV ((uh R0).grown hg)
 have z1:=hg.size
 clear hg hb
 go_wp2_with fail
 refine ((zk5 hIt n).1 (B:=B) (t:=⟨st,[],[]⟩) ⟨_,_,_,⟨zad _ _,⟨⟨by simp,.inl ⟨rfl,rfl⟩⟩,by simp⟩,by simp [Value.ownBlock]⟩,(uh B1).grown (zwA _ _ none),(uh R1).grown (zwA _ _ none)⟩ (by omega) (by omega) hB (uh HF)).mono ?_
 rintro e1 w2 ⟨rfl,hk,vv2,sv2,cur2,hT,hB',hR'⟩
 have K2:Hid (TK B WtS w w2):=(TK.of_grown _ _ (zae (uh G1) _)).trans hk.1
 have B2:=bV hB'
 obtain ⟨e0,e1,_,_,_,_⟩:=zaf hT.cell
 clear hk hB' hT hR'
 go_wp2_with fail
 refine (zqd (uh B2)).mono ?_
 rintro e1 w3 ⟨rfl,hg⟩
 go_wp2_with fail
 go_ret
 exact ⟨rfl,(uh K2).trans (TK.of_grown _ _ hg)⟩
open Go.RowKit
def ofV:Option (List UInt8)->Value
 | none=>.tuple #[ug [],.bool false]
 | some s=>.tuple #[ug s,.bool true]
theorem yco (hIt:Said.ItoaSmall) {w:World} {hi:Nat} {t:Tw.T} {tv:Value} (hr:Rep w 0 hi t tv) {fuel:Nat} {res:Option (List UInt8)} (hf:Tw.ofS fuel t=some res) :
  Calls Tryz.prog 34 #[tv] w fun e w'=>e = .returned (ofV res)/\TK w.heap.size WtS w w':=by
 unfold Tw.ofS at hf
 simp only [zbE] at hf
 obtain ⟨⟨r,st1⟩,h1,hf⟩:=hf
 dsimp only at hf
 have HR:=bV hr
 have H1:Hid (Tw.zav fuel t .nil ss0=some (r,st1)):=h1
 obtain ⟨T0,n0,rfl⟩:=hr.iface
 clear hr h1
 by_cases hc:st1.clash=true
 ·rw [if_pos hc] at hf
  cases hf
  have HC:=bV hc
  clear hc
  go_enter Tryz.func34,Tryz.ntmps34
  go_wp2_with fail
  refine (zga w).mono ?_
  rintro e1 w1 ⟨rfl,hg,hs⟩
  have G1:=bV hg
  have S1:=bV hs
  have R1:=bV ((uh HR).grown hg (znL _) (znL _))
  clear hg hs
  go_wp2_with fail
  refine ((zf1 fuel).1 (uh S1) (uh R1) (show EnvAt w1 hi .nil (.pointer none) from rfl) (uh H1)).mono ?_
  rintro e1 w2 ⟨rfl,hk,hs⟩
  have K2:Hid (TK w.heap.size WtS w w2):=(TK.of_grown _ _ (uh G1)).trans ((uh S1).zyy hk (by decide) (by decide) (znL _))
  obtain ⟨g,cap,cur,hR⟩:=hs
  obtain ⟨s0,s1,_,_⟩:=zau hR.solver
  rw [uh HC] at s1
  clear hk hR
  go_wp2_with fail
  go_ret2
  exact ⟨rfl,K2.out⟩
 rw [if_neg hc] at hf
 simp only [Bool.not_eq_true] at hc
 have HC:=bV hc
 simp only [zbE] at hf
 obtain ⟨⟨en,st2⟩,h2,hf⟩:=hf
 dsimp only at hf
 have H2:=bV h2
 clear h2 hc
 cases en with
 | true =>
  simp only [if_true,zsI] at hf
  subst hf
  go_enter Tryz.func34,Tryz.ntmps34
  go_wp2_with fail
  refine (zga w).mono ?_
  rintro e1 w1 ⟨rfl,hg,hs⟩
  have G1:=bV hg
  have S1:=bV hs
  have R1:=bV ((uh HR).grown hg (znL _) (znL _))
  clear hg hs
  go_wp2_with fail
  refine ((zf1 fuel).1 (uh S1) (uh R1) (show EnvAt w1 hi .nil (.pointer none) from rfl) (uh H1)).mono ?_
  rintro e1 w2 ⟨rfl,hk,hs⟩
  have K2:Hid (TK w.heap.size WtS w w2):=(TK.of_grown _ _ (uh G1)).trans ((uh S1).zyy hk (by decide) (by decide) (znL _))
  obtain ⟨g,cap,cur,hR⟩:=hs
  have R2:=bV hR
  obtain ⟨s0,s1,_,_⟩:=zau hR.solver
  rw [uh HC] at s1
  clear hk hR
  go_wp2_with fail
  refine (zkc (uh R2) (uh H2)).mono ?_
  rintro e1 w3 ⟨rfl,hk,cur3,hR⟩
  have K3:Hid (TK w.heap.size WtS w w3):=(uh K2).trans ((uh R2).zqe hk (by decide) (by decide) (znL _))
  clear hk hR
  go_wp2_with fail
  go_ret2
  exact ⟨rfl,K3.out⟩
 | false =>
  simp only [Bool.false_eq_true,if_false,zbE,zsI] at hf
  obtain ⟨u,h3,rfl⟩:=hf
  have H3:=bV h3
  clear h3
  go_enter Tryz.func34,Tryz.ntmps34
  go_wp2_with fail
  refine (zga w).mono ?_
  rintro e1 w1 ⟨rfl,hg,hs⟩
  have G1:=bV hg
  have S1:=bV hs
  have R1:=bV ((uh HR).grown hg (znL _) (znL _))
  clear hg hs
  go_wp2_with fail
  refine ((zf1 fuel).1 (uh S1) (uh R1) (show EnvAt w1 hi .nil (.pointer none) from rfl) (uh H1)).mono ?_
  rintro e1 w2 ⟨rfl,hk,hs⟩
  have K2:Hid (TK w.heap.size WtS w w2):=(TK.of_grown _ _ (uh G1)).trans ((uh S1).zyy hk (by decide) (by decide) (znL _))
  obtain ⟨g,cap,cur,hR⟩:=hs
  have R2:=bV hR
  obtain ⟨s0,s1,_,_⟩:=zau hR.solver
  rw [uh HC] at s1
  clear hk hR
  go_wp2_with fail
  refine (zkc (uh R2) (uh H2)).mono ?_
  rintro e1 w3 ⟨rfl,hk,cur3,hR⟩
  have K3:Hid (TK w.heap.size WtS w w3):=(uh K2).trans ((uh R2).zqe hk (by decide) (by decide) (znL _))
  have R3:=bV hR
  clear hk hR
  go_wp2_with fail
  refine (ycn hIt (uh R3) (uh H3) (znL _)).mono ?_
  rintro e1 w4 ⟨rfl,hk⟩
  have K4:Hid (TK w.heap.size WtS w w4):=(uh K3).trans hk
  clear hk
  go_wp2_with fail
  go_ret2
  exact ⟨rfl,K4.out⟩
end Go.Proofs.YtckhafpejefbbaaGreatDoor
