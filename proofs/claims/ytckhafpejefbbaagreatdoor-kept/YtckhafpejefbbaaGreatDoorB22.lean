/- Texts of the proof, put together: Bld, AltChg. -/
import Derived.Test.YtckhafpejefbbaaGreatDoorProg
import Derived.WalkKit
import Derived.WalkSpells
import Derived.Deep.Light
import Derived.Lib.Builder
import Derived.Lib.AppendStr
import Derived.Lib.UnsafeStr
import Derived.Lib.OthersKept
import Derived.Laws.Externs
import Derived.OwnWalk
import Derived.Test.YtckhafpejefbbaaGreatDoorB21
import Derived.Test.YtckhafpejefbbaaGreatDoorB16
import Derived.Deep.LoopGhost

set_option maxRecDepth 100000
set_option maxHeartbeats 4000000
namespace Go.Proofs.YtckhafpejefbbaaGreatDoor
open Go.RowKit
theorem zx0 (b:Nat) (w:World) (h0:w.cell? ⟨b,0,none⟩=some (.pointer (some ⟨b,0,none⟩))) :
  Calls Tryz.prog 187 #[.pointer (some ⟨b,0,none⟩)] w fun e w'=>e = .returned (.tuple #[])/\w'=w:=by
 have hx:(Tryz.prog.info? 258).map (·.size)=some 2:=by kernel_rfl
 obtain ⟨j,hj,_⟩:=Option.map_eq_some_iff.1 hx
 go_enter Tryz.func187,Tryz.ntmps187
 go_wp2
 rw [Lib.run_neq_ptr_same w _ Tryz.underlying256 hj]
 go_wp2
 go_end0
 exact ⟨rfl,rfl⟩
theorem zvd (b:Nat) (w:World) (h0:w.cell? ⟨b,0,none⟩=some (.pointer none)) (hsh:w.shape? b=some (258,2)) (hfz:w.frozen? ⟨b,0,none⟩=false) :
  Calls Tryz.prog 187 #[.pointer (some ⟨b,0,none⟩)] w fun e w'=>e = .returned (.tuple #[])/\w'=w.setCell ⟨b,0,none⟩ (.pointer (some ⟨b,0,none⟩)):=by
 have hx:(Tryz.prog.info? 258).map (·.size)=some 2:=by kernel_rfl
 have hlies:liesAt Tryz.prog Tryz.prog.depth 258 (2 / Tryz.prog.cellsOf 258) 0 258 1=true:=by kernel_rfl
 obtain ⟨j,hj,hjs⟩:=Option.map_eq_some_iff.1 hx
 go_enter Tryz.func187,Tryz.ntmps187
 go_wp2
 rw [Lib.run_to_unsafe w ⟨b,0,none⟩ Tryz.underlying256 Tryz.underlying365 hj (by rw [hjs]; decide) hsh (Nat.zero_lt_succ 1)]
 simp only [Result.andThen]
 rw [Oper.upon_value]
 go_wp2
 rw [run_callFunc_extern Tryz.func213 (by kernel_rfl) (by kernel_rfl) (by kernel_rfl) (e:=Extern.AbiNoEscape.same) (by kernel_rfl)]
 rw [Lib.run_noEscape]
 simp only [Result.andThen]
 rw [Oper.upon_value]
 go_wp2
 rw [Lib.run_from_unsafe w ⟨b,0,none⟩ Tryz.underlying365 Tryz.underlying256 hj hsh hlies]
 simp only [Result.andThen]
 rw [Oper.upon_value]
 go_wp2
 go_end0
 exact ⟨rfl,rfl⟩
theorem ybl (B b:Nat) (bs:List Value) (w:World) (h:Lib.IsBuilderF 258 5 B b bs w) :
  Calls Tryz.prog 187 #[.pointer (some ⟨b,0,none⟩)] w fun e w'=>e = .returned (.tuple #[])/\(Lib.BuilderAtF 258 5 B b (.pointer (some ⟨b,0,none⟩)) bs w'/\Below B w w'/\Lib.OthersKept 5 (some b) w w'):=by
 rcases h with h | h
 ·refine (zvd b w h.cell0 h.shape h.frozen0).mono ?_
  rintro e w' ⟨rfl,rfl⟩
  exact ⟨rfl,h.used _,(Below.refl B w).setCell (p:=⟨b,0,none⟩) h.1 _,(Lib.OthersKept.refl _ _ w).setCell ⟨b,0,none⟩ rfl _⟩
 ·refine (zx0 b w h.cell0).mono ?_
  rintro e w' ⟨rfl,rfl⟩
  exact ⟨rfl,h,Below.refl B _,Lib.OthersKept.refl _ _ _⟩
theorem zon (B b:Nat) (bs:List Value) (s:ByteArray) (w:World) (h:Lib.IsBuilderF 258 5 B b bs w) (hlen:bs.length+s.size<=140737488355328) (hBw:B<=w.heap.size) :
  Calls Tryz.prog 115 #[.pointer (some ⟨b,0,none⟩),.string s] w fun e w'=>e = .returned (.tuple #[.int .i64 s.size,.nilIface])/\(Lib.BuilderAtF 258 5 B b (.pointer (some ⟨b,0,none⟩)) (bs++Lib.strCells s) w'/\Below B w w'/\Lib.OthersKept 5 (some b) w w'):=by
 have hb:(Tryz.prog.info? 5).map (fun i=>(i.zero,i.size,i.bytes))=some (some (.int .u8 0),1,1):=by kernel_rfl
 obtain ⟨i0,hi,hz0,hz1,hz2⟩:=info_parts hb
 go_enter Tryz.func115,Tryz.ntmps115
 go_wp2_with fail
 refine (ybl B b bs _ h).mono ?_
 rintro e w1 ⟨rfl,h1,hb1,hk1⟩
 obtain ⟨hB,v,hbk,hown,hne⟩:=h1
 have c0:w1.cell? ⟨b,0,none⟩=some (.pointer (some ⟨b,0,none⟩)):=by rw [Lib.cell_of_heap hbk]; rfl
 have c1:w1.cell? ⟨b,1,none⟩=some v:=by rw [Lib.cell_of_heap hbk]; rfl
 go_wp2_with (at_builtin; refine Lib.wpList_append_own_stringF _ rfl _ _ 66 9 rfl B 5 i0 Tryz.underlying66 Tryz.underlying9 hi hz0 hz1 hz2 _ _ _ rfl hown s rfl ?c3 ?c4 ?c5 ?_)
 case c3=>unfold maxLen; omega
 case c4=>omega
 case c5=>have:=hb1.size; omega
 intro v' w2 hown' hgrow _
 have hlt:b<w1.heap.size:=(zgE.1 hbk).1
 have hb2:w2.heap[b]? = some (.cells #[.pointer (some ⟨b,0,none⟩),v] 258 (0,0)):=by
  rw [hgrow.block b hlt (fun e=>hne e.symm)]
  exact hbk
 have d0:w2.cell? ⟨b,0,none⟩=some (.pointer (some ⟨b,0,none⟩)):=by rw [Lib.cell_of_heap hb2]; rfl
 have d1:w2.cell? ⟨b,1,none⟩=some v:=by rw [Lib.cell_of_heap hb2]; rfl
 have f1:w2.frozen? ⟨b,1,none⟩=false:=Lib.frozen_of_heap hb2 1
 obtain ⟨ao,n',cap,rfl⟩:∃ao n' cap,v' = .slice ao n' cap:=by
  rcases hown'.2 with ⟨hv,_⟩ | ⟨g,cap,cur,fz,hv,_⟩
  ·exact ⟨_,_,_,hv⟩
  ·exact ⟨_,_,_,hv⟩
 go_wp2
 go_ret2
 refine ⟨rfl,?_,?_,(hk1.grown hgrow (Lib.ownsRowF_kind hown)).setCell ⟨b,1,none⟩ rfl _⟩
 ·exact Lib.BuilderAtF.put (T:=258) (e:=5) hB hb2 (bs':=bs++Lib.strCells s) (by simpa [Lib.strCells_length] using hown') (by decide)
 ·exact (hb1.grown hgrow (by have:=hb1.size; omega) (fun k hk=>(hown.lt k hk).1)).setCell (p:=⟨b,1,none⟩) hB _
open Go.RowKit
structure Said.Builder:Prop where
 string:∀(B b:Nat) (l:List UInt8) (w:World),Lib.IsBuilderF 258 5 B b (Lib.byteCells l) w->B<=w.heap.size ->
  Calls Tryz.prog 116 #[.pointer (some ⟨b,0,none⟩)] w fun e w'=>e = .returned (.string ⟨l.toArray⟩)/\(Lib.IsBuilderF 258 5 B b (Lib.byteCells l) w'/\Below B w w'/\Lib.OthersKept 5 (some b) w w')
def ChOk (n:Nat):Nat->List (Nat×Nat×List UInt8)->Prop
 | d,[]=>d<=n
 | d,(f,t,_)::cs=>d<=f/\f<=t/\f<=n/\ChOk n t cs
def ChAt (w:World) (r:Nat) (cs:List (Nat×Nat×List UInt8)):Prop:=∀i (h:i<cs.length),w.cell? ⟨r,i * 3,none⟩=some (.int .i64 cs[i].1)/\w.cell? ⟨r,i * 3+1,none⟩=some (.int .i64 cs[i].2.1)/\w.cell? ⟨r,i * 3+2,none⟩=some (ug cs[i].2.2)
structure ChInv (l:List UInt8) (cs:List (Nat×Nat×List UInt8)) (q:Nat) (acc:List UInt8) (d:Nat):Prop where
 sum:acc++Tw.chgR d (l.drop d) (cs.drop q)=Tw.chgR 0 l cs
 ok:ChOk l.length d (cs.drop q)
 len:acc.length<=q * 800
theorem ChInv.step {l:List UInt8} {cs:List (Nat×Nat×List UInt8)} {q:Nat} {acc:List UInt8} {d:Nat} (h:ChInv l cs q acc d) (hq:q<cs.length) (hl:l.length<=300) (hb:cs[q].2.2.length<=400):d<=cs[q].1/\cs[q].1<=l.length/\ChInv l cs (q+1) ((acc++Tw.zaw l d cs[q].1)++cs[q].2.2) cs[q].2.1:=by
 have e:cs.drop q=cs[q]::cs.drop (q+1):=List.drop_eq_getElem_cons hq
 have ho:=h.ok
 rw [e] at ho
 have ho2:d<=cs[q].1/\cs[q].1<=cs[q].2.1/\cs[q].1<=l.length/\ChOk l.length cs[q].2.1 (cs.drop (q+1)):=ho
 clear ho
 obtain ⟨h1,h12,h2,h3⟩:=ho2
 refine ⟨h1,h2,?_,h3,?_⟩
 ·have hs:=h.sum
  rw [e] at hs
  simp only [Tw.chgR] at hs
  rw [<-hs]
  simp only [Tw.zaw,List.append_assoc,List.drop_drop]
  rw [show d+(cs[q].2.1-d)=cs[q].2.1 by omega]
 ·have:=h.len
  simp only [List.length_append,Tw.zaw,List.length_take,List.length_drop]
  have:min (cs[q].1-d) (l.length-d)<=300:=by omega
  omega
theorem zpa {w w1 w2:World} (h:w.grownBy w1 none) (k:Below w.heap.size w1 w2):w.grownBy w2 none :=
 ⟨k.os.trans h.os,k.tape.trans h.tape,k.output.trans h.output,Nat.le_trans h.size k.size,fun i hi _=>(k.block i hi).trans (h.block i hi (by simp))⟩
theorem zpb (hB:Said.Builder) {w:World} {s:ByteArray} {r cap:Nat} {cs:List (Nat×Nat×List UInt8)} (hs:s.size<=300) (hc:ChAt w r cs) (hr:r<w.heap.size) (hok:ChOk s.size 0 cs) (hn:cs.length<=400) (hl:∀c∈cs,c.2.2.length<=400) :
  Calls Tryz.prog 64 #[.string s,.slice (some ⟨r,0,none⟩) cs.length cap] w fun e w'=>e = .returned (.string ⟨(Tw.chgR 0 s.data.toList cs).toArray⟩)/\w.grownBy w' none:=by
 have hsz:s.data.toList.length=s.size:=Array.length_toList
 have I0:Hid (ChInv s.data.toList cs 0 [] 0):=⟨by simp,by rw [hsz]; simpa using hok,by simp⟩
 have HC:=bV hc
 have HL:=bV hl
 clear hok hc hl
 have c145:Tryz.prog.cellsOf 145=3:=by kernel_rfl
 obtain ⟨n,hnn⟩:∃n,cs.length=n:=⟨_,rfl⟩
 have HN:=bV hnn
 rw [hnn] at hn ⊢
 clear hnn
 go_enter Tryz.func64,Tryz.ntmps64
 go_wp2_with fail
 go_loopg [11,6] n (fun j iv dv wr=>∃q d:Nat,∃acc:List UInt8,j+q=n/\q<=n/\iv = .int .i64 q/\dv = .int .i64 d/\Hid (ChInv s.data.toList cs q acc d)/\Hid (Lib.IsBuilderF 258 5 w.heap.size w.heap.size (Lib.byteCells acc) wr)/\Hid (w.grownBy wr none))
 case atStart=>exact ⟨0,0,[],by omega,by omega,rfl,rfl,I0,Lib.IsBuilderF.of (Lib.fresh_isBuilder _ _ w),zwA _ _ none⟩
 case round =>
  obtain ⟨q,d,acc,hjq,hq,rfl,rfl,IR,BR,GR⟩:=hrel
  by_cases hlt:q<n
  ·have h1:q<cs.length:=by rw [uh HN]; exact hlt
   obtain ⟨k1,k2,k3⟩:=IR.out.step h1 (by omega) (uh HL _ (List.getElem_mem h1))
   obtain ⟨c0,c1,c2⟩:=uh HC q h1
   obtain ⟨⟨f,t,by_⟩,hcq⟩:∃c,cs[q]=c:=⟨_,rfl⟩
   rw [hcq] at k1 k2 k3 c0 c1 c2
   dsimp only at k1 k2 k3 c0 c1 c2
   have K3:=bV k3
   have hbl:=uh HL _ (List.getElem_mem h1)
   rw [hcq] at hbl
   dsimp only at hbl
   rw [hsz] at k2
   have hlen:=IR.out.len
   have old:∀ {o:Nat} {v:Value},w.cell? ⟨r,o,none⟩=some v->wr.cell? ⟨r,o,none⟩=some v:=fun {o v} hv=>by
    have hb:=GR.out.block r hr (by simp)
    unfold World.cell? at hv ⊢
    simp only at hv ⊢
    rw [hb]
    exact hv
   have d0:=old c0
   have d1:=old c1
   have d2:=old c2
   have hqi:(q:Int)<(n:Int):=by omega
   clear k3 c0 c1 c2 hcq h1 old
   have hbw:w.heap.size<wr.heap.size:=by
    rcases BR.out with h | h
    ·exact h.lt
    ·exact h.lt
   go_wp2_with fail
   refine (zon _ _ _ _ _ (BR.out.imp (fun h=>h.alloc _) (fun h=>h.alloc _)) (by rw [Lib.byteCells_length]; simp [ByteArray.size_extract]; omega) (by simp; omega)).mono ?_
   rintro e1 w1 ⟨rfl,hb1,hbe,hok1⟩
   have G1:Hid (w.grownBy w1 none):=bV (zpa (zaa GR.out (zwA _ _ none)) hbe)
   rw [Lib.strCells_eq,zdh,<-Lib.byteCells_append] at hb1
   have B1:=bV hb1
   have hcb:w1.heap[wr.heap.size]? = some (.cells #[.int .i64 f,.int .i64 t,ug by_] 145):=by
    refine hok1 _ _ (heap_alloc_new _ _) (by intro h; injection h with h; omega) ?_
    intro c fz h
    injection h with _ h
    exact absurd h (by decide)
   have x0:w1.cell? ⟨wr.heap.size,0,none⟩=some (.int .i64 f):=by rw [Lib.cell_of_heap hcb]; rfl
   have x1:w1.cell? ⟨wr.heap.size,1,none⟩=some (.int .i64 t):=by rw [Lib.cell_of_heap hcb]; rfl
   have x2:w1.cell? ⟨wr.heap.size,2,none⟩=some (ug by_):=by rw [Lib.cell_of_heap hcb]; rfl
   clear hb1 hbe hok1 d0 d1 d2
   go_wp2_with fail
   refine (zon _ _ _ _ _ (.inr (uh B1)) (by rw [Lib.byteCells_length,List.length_append]; simp only [Tw.zaw,List.length_take,List.length_drop,ByteArray.size,List.size_toArray]; omega) G1.out.size).mono ?_
   rintro e1 w2 ⟨rfl,hb2,hbe,hok2⟩
   have G2:Hid (w.grownBy w2 none):=bV (zpa G1.out hbe)
   rw [Lib.strCells_eq,<-Lib.byteCells_append] at hb2
   have B2:=bV hb2
   have hcb2:w2.heap[wr.heap.size]? = some (.cells #[.int .i64 f,.int .i64 t,ug by_] 145):=by
    refine hok2 _ _ hcb (by intro h; injection h with h; omega) ?_
    intro c fz h
    injection h with _ h
    exact absurd h (by decide)
   have y0:w2.cell? ⟨wr.heap.size,0,none⟩=some (.int .i64 f):=by rw [Lib.cell_of_heap hcb2]; rfl
   have y1:w2.cell? ⟨wr.heap.size,1,none⟩=some (.int .i64 t):=by rw [Lib.cell_of_heap hcb2]; rfl
   have y2:w2.cell? ⟨wr.heap.size,2,none⟩=some (ug by_):=by rw [Lib.cell_of_heap hcb2]; rfl
   clear hb2 hbe hok2 x0 x1 x2
   go_wp2_with fail
   go_roundg (gk-1)
   case measure=>omega
   case rel=>exact ⟨q+1,t,_,by omega,by omega,by go_num,rfl,K3,bV (.inr (uh B2)),G2⟩
  ·have hqn:q=n:=by omega
   have hq2:cs.drop q=[]:=by rw [hqn,<-uh HN]; simp
   have ho:=IR.out.ok
   have hsum:=IR.out.sum
   have hlen:=IR.out.len
   rw [hq2] at ho hsum
   simp only [ChOk,Tw.chgR] at ho hsum
   rw [hsz] at ho
   have HSum:=bV hsum
   have hdi:(d:Int)<=(s.size:Int):=by omega
   clear hsum hq2 hqn
   go_wp2_with fail
   have hx:(s.extract d s.size).data.toList=s.data.toList.drop d:=by
    rw [zdh]
    simp only [Tw.zaw]
    rw [List.take_of_length_le (by simp)]
   refine (zon _ _ _ _ _ BR.out (by rw [Lib.byteCells_length]; simp [ByteArray.size_extract]; omega) GR.out.size).mono ?_
   rintro e1 w1 ⟨rfl,hb1,hbe,hok1⟩
   have G1:Hid (w.grownBy w1 none):=⟨hbe.os.trans GR.out.os,hbe.tape.trans GR.out.tape,hbe.output.trans GR.out.output,Nat.le_trans GR.out.size hbe.size,fun k hk _=>(hbe.block k hk).trans (GR.out.block k hk (by simp))⟩
   rw [Lib.strCells_eq,hx,<-Lib.byteCells_append,uh HSum] at hb1
   have B1:=bV hb1
   clear hb1 hbe hok1
   go_wp2_with fail
   refine (hB.string _ _ _ _ (.inr (uh B1)) G1.out.size).mono ?_
   rintro e1 w2 ⟨rfl,hb2,hbe,hok2⟩
   have G2:Hid (w.grownBy w2 none):=⟨hbe.os.trans G1.out.os,hbe.tape.trans G1.out.tape,hbe.output.trans G1.out.output,Nat.le_trans G1.out.size hbe.size,fun k hk _=>(hbe.block k hk).trans (G1.out.block k hk (by simp))⟩
   clear hbe hb2 hok2
   go_wp2_with fail
   go_ret
   go_light
   exact ⟨rfl,G2.out⟩
end Go.Proofs.YtckhafpejefbbaaGreatDoor
