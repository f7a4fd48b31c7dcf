/- Texts of the proof, put together: Parse3, Rep, Rep2, Gram, Gram2, Gram3, Gram4. -/
import Derived.Test.YtckhafpejefbbaaGreatDoorB05
import Derived.Defers
import Derived.Lib.ParseIntB

set_option maxRecDepth 100000
set_option maxHeartbeats 4000000
namespace Go.Proofs.YtckhafpejefbbaaGreatDoor
open Go.RowKit
section
variable {w w' : World} {bp gt cap : Nat} {cur : Array Value} {s : ByteArray} {ts : List Tw.Tok} {st : Tw.PS}
def zc3 (l:List Int):Array Value:=(l.map fun n=>Value.int .i64 n).toArray
theorem ze7 (h:PCtx w bp gt cap cur s ts st) (l:List Int) (g:Nat) (hl:l.length<=5) (hg:w.heap[g]? = some (.cells (zc3 l) 172 (0,0))) (hgb:g≠bp) {r:Int} {st':Tw.PS} (hf:Tw.zao ts l st=some (r,st')) :
    Calls Tryz.prog 203 #[.pointer (some ⟨bp,0,none⟩),.slice (some ⟨g,0,none⟩) l.length l.length] w fun e w'=>e = .returned (.int .i64 r)/\Keep bp w w'/\PCtx w' bp gt cap cur s ts st':=by
  have HH:Hid (PCtx w bp gt cap cur s ts st):=h
  have HG:Hid (w.heap[g]? = some (.cells (zc3 l) 172 (0,0))):=hg
  have HF:Hid (Tw.zao ts l st=some (r,st')):=hf
  have fd:=zf7
  have c160:Tryz.prog.cellsOf 172=1:=by kernel_rfl
  clear h hg hf
  go_enter Tryz.func203,Tryz.ntmps203
  go_wp2_with fail
  go_loopw [9] (fun i wr=>∃k:Nat,i = .int .i64 k/\k<=l.length/\Hid (Keep bp w wr)/\Hid (PCtx wr bp gt cap cur s ts st)/\Hid (Tw.zao ts (l.drop k) st=some (r,st'))) (fun i _=>l.length-(intOf i).toNat)
  case atStart=>exact ⟨0,rfl,by omega,Keep.refl _ _,HH.out,by show _=_; rw [List.drop_zero]; exact HF.out⟩
  case round =>
    obtain ⟨k,rfl,hk,HK,HP,HS⟩:=hrel
    by_cases hlt:k<l.length
    · have hdrop:l.drop k=l[k]::l.drop (k+1):=List.drop_eq_getElem_cons hlt
      have HS2:=HS.out
      rw [hdrop,Tw.zao] at HS2
      obtain ⟨t,ht,hst⟩:=zbE.1 HS2
      have HT:Hid (Tw.tokS ts st=some t):=ht
      have hc:wr.cell? ⟨g,k,none⟩=some (.int .i64 l[k]):=by
        rw [cell_of_row wr g _ _ _ _ (HK.out.at HG.out hgb)]
        simp [zc3,hlt]
      generalize hq:l[k]=q at *
      clear HS2 ht hdrop hq
      have hkl:(k:Int)<(l.length:Int):=by omega
      by_cases he:t.sort=q
      · rw [if_pos he] at hst
        obtain ⟨⟨t2,st2⟩,ht2,hst2⟩:=zbE.1 hst
        simp only [zsI,zpI] at hst2
        have hb:(t.sort==q)=true:=by simp [he]
        have HT2:Hid (Tw.zbe ts q st=some (t2,st2)):=ht2
        have HE:Hid (t2.sort=r/\st2=st'):=hst2
        clear he hst hst2 ht2
        go_wp2_with (first
          | (go_at_call 155; refine (zbo HP.out HT.out).mono ?_; rintro e w1 ⟨rfl,hg1⟩
             have h1:Hid (PCtx w1 bp gt cap cur s ts st):=HP.out.kept hg1
             have hk1:Hid (Keep bp w w1):=HK.out.trans (Keep.of_none hg1)
             clear hg1)
          | (go_at_call 82; refine (zb4 h1.out _ HT2.out).mono ?_; rintro e w2 ⟨rfl,hk2,h2⟩
             have h2':Hid (PCtx w2 bp gt cap cur s ts st2):=h2
             have hk2':Hid (Keep bp w w2):=hk1.out.trans hk2
             clear hk2 h2))
        go_ret
        exact ⟨zdt HE.out.1,hk2'.out,HE.out.2 ▸ h2'.out⟩
      · rw [if_neg he] at hst
        have hb:(t.sort==q)=false:=by simp [he]
        have HE:Hid (Tw.zao ts (l.drop (k+1)) st=some (r,st')):=hst
        clear he hst
        go_wp2_with (first
          | (go_at_call 155; refine (zbo HP.out HT.out).mono ?_; rintro e w1 ⟨rfl,hg1⟩
             have h1:Hid (PCtx w1 bp gt cap cur s ts st):=HP.out.kept hg1
             have hk1:Hid (Keep bp w w1):=HK.out.trans (Keep.of_none hg1)
             clear hg1))
        go_roundw
        case rel=>go_light; exact ⟨k+1,by go_num,by omega,hk1.out,h1.out,HE.out⟩
        case measure=>go_light; simp [intOf]; omega
    · go_wp2_with fail
      go_ret
      go_light
      have:=HS.out
      rw [List.drop_eq_nil_of_le (by omega),Tw.zao] at this
      simp only [zsI,zpI] at this
      exact ⟨zdt this.1,HK.out,this.2 ▸ HP.out⟩
theorem zio (h:PCtx w bp gt cap cur s ts st) (sort:Int) {a:Nat} {st':Tw.PS} (hf:Tw.zce ts sort st=some (a,st')) :
    Calls Tryz.prog 201 #[.pointer (some ⟨bp,0,none⟩),.int .i64 sort] w fun e w'=>e = .returned (.int .i64 a)/\Keep bp w w'/\PCtx w' bp gt cap cur s ts st':=by
  unfold Tw.zce at hf
  obtain ⟨st1,hf1,hf2⟩:=zbE.1 hf
  split at hf2
  rotate_left
  · cases hf2
  rename_i hd1
  obtain ⟨⟨t,st2⟩,ht,hst⟩:=zbE.1 hf2
  simp only [zsI,zpI] at hst
  obtain ⟨rfl,rfl⟩:=hst
  have HH:Hid (PCtx w bp gt cap cur s ts st):=h
  have HT:Hid (Tw.zbe ts sort {st1 with depth:=st1.depth+1}=some (t,st2)):=ht
  obtain ⟨p0,p1,p2,p3,p4,p5⟩:=h.p
  have fz:=h.fz 3
  have fd:=zsp
  clear h hf hf2 ht p0 p1 p2 p4 p5
  by_cases hd:st.depth=40
  · rw [if_pos hd] at hf1
    have HF:Hid (Tw.zh6 ts st=some st1):=hf1
    have hb:((st.depth:Int)==40)=true:=by simp; omega
    clear hf1 hd
    go_enter Tryz.func201,Tryz.ntmps201
    go_wp2_with (first
      | (go_at_call 160; refine (zpx HH.out HF.out).mono ?_; rintro e w1 ⟨rfl,hk1,h1⟩
         have h1':Hid (PCtx w1 bp gt cap cur s ts st1):=h1
         have hk1':Hid (Keep bp w w1):=hk1
         obtain ⟨q0,q1,q2,q3,q4,q5⟩:=h1.p
         have fz1:=h1.fz 3
         clear hk1 h1 q0 q1 q2 q4 q5)
      | (go_at_call 82; refine (zb4 (h1'.out.setDepth (st1.depth+1) (by omega)) _ HT.out).mono ?_; rintro e w2 ⟨rfl,hk2,h2⟩
         have h2':Hid (PCtx w2 bp gt cap cur s ts st2):=h2
         have hk2':Hid (Keep bp w w2):=(hk1'.out.set 3 _).trans hk2
         clear hk2 h2))
    go_ret
    exact ⟨rfl,hk2'.out,h2'.out⟩
  · rw [if_neg hd] at hf1
    simp only [zsI] at hf1
    subst hf1
    have hb:((st.depth:Int)==40)=false:=by simp; omega
    clear hd
    go_enter Tryz.func201,Tryz.ntmps201
    go_wp2_with (first
      | (go_at_call 82; refine (zb4 (HH.out.setDepth (st.depth+1) (by omega)) _ HT.out).mono ?_; rintro e w2 ⟨rfl,hk2,h2⟩
         have h2':Hid (PCtx w2 bp gt cap cur s ts st2):=h2
         have hk2':Hid (Keep bp w w2):=((Keep.refl bp w).set 3 _).trans hk2
         clear hk2 h2))
    go_ret
    exact ⟨rfl,hk2'.out,h2'.out⟩
theorem zfg (h:PCtx w bp gt cap cur s ts st) (u:FrameMode) {st':Tw.PS} (hf:Tw.endS st=some st') :
  CallsD Tryz.prog 202 #[.pointer (some ⟨bp,0,none⟩)] u w fun e u' w'=>u'=u/\(e = .returned (.tuple #[])/\Keep bp w w'/\PCtx w' bp gt cap cur s ts st'):=by
 unfold Tw.endS at hf
 split at hf
 ·cases hf
 simp only [zsI] at hf
 subst hf
 obtain ⟨p0,p1,p2,p3,p4,p5⟩:=h.p
 have fz:=h.fz 3
 have hd:=h.dep
 obtain ⟨d,hd1⟩:∃d,st.depth=d+1:=⟨st.depth-1,by omega⟩
 rw [hd1] at p3
 have hd2:d<=300:=by omega
 have HD:Hid (st.depth=d+1):=hd1
 have HH:Hid (PCtx w bp gt cap cur s ts st):=h
 clear hd1 hd p0 p1 p2 p4 p5 h
 go_enter_d Tryz.func202,Tryz.ntmps202
 go_wp2
 go_end0
 refine ⟨rfl,(Keep.refl bp w).set 3 _,?_⟩
 have:=HH.out.setDepth d (by omega)
 rwa [show d=st.depth-1 from by have:=HD.out; omega] at this ⊢
end
open Go.RowKit
theorem zaa {a b c:World} (h:a.grownBy b none) (k:b.grownBy c none):a.grownBy c none :=
 ⟨k.os.trans h.os,k.tape.trans h.tape,k.output.trans h.output,Nat.le_trans h.size k.size,fun i hi hr=>(k.block i (Nat.lt_of_lt_of_le hi h.size) hr).trans (h.block i hi hr)⟩
theorem zac {a b:World} (h:a.grownBy b none):a.grownBy b.drew none:=⟨h.os,h.tape,h.output,h.size,h.block⟩
theorem zae {a b:World} (h:a.grownBy b none) (o:Obj):a.grownBy (b.alloc o) none:=zaa h (zwA b o none)
theorem zab (a:World):a.grownBy a none:=⟨rfl,rfl,rfl,znL _,fun _ _ _=>rfl⟩
theorem zmp {a b:World} (h:a.grownBy b none) {g:Nat} (hg:a.heap.size<=g) (j:Nat) (v:Value):a.grownBy (b.setCell ⟨g,j,none⟩ v) none :=
 ⟨h.os,h.tape,h.output,by simpa using h.size,fun k hk hr=>by rw [heap_setCell_other b ⟨g,j,none⟩ k v (by simp; omega)]; exact h.block k hk hr⟩
abbrev ug (l:List UInt8):Value:=.string ⟨l.toArray⟩
def ptrT:Tw.T->TypeId
 | .name _ _ _=>83
 | .int _ _ _=>191
 | .truth _ _ _=>195
 | .side _ _ _=>199
 | .bracket _ _ _=>204
 | .pair _ _ _ _=>207
 | .call _ _ _ _=>209
 | .binary _ _ _ _ _=>211
 | .cond _ _ _ _ _=>213
 | .fn _ _ _ _ _=>215
 | .lett _ _ _ _ _ _ _=>136
def nodeAt (w:World) (lo hi:Nat) (fr to:Nat) (rest:List Value) (pt st:TypeId) (v:Value):Prop :=
 ∃b,lo<=b/\b<hi/\v = .iface pt (.pointer (some ⟨b,0,none⟩))/\w.heap[b]? = some (.cells (#[.int .i64 fr,.int .i64 to]++rest.toArray) st (0,0))
def Rep (w:World) (lo hi:Nat):Tw.T->Value->Prop
 | .name fr to tx,v=>nodeAt w lo hi fr to [ug tx] 83 87 v
 | .int fr to n,v=>nodeAt w lo hi fr to [.int .i64 n] 191 194 v
 | .truth fr to b,v=>nodeAt w lo hi fr to [.bool b] 195 198 v
 | .side fr to b,v=>nodeAt w lo hi fr to [.bool b] 199 201 v
 | .bracket fr to i,v=>∃v1,nodeAt w lo hi fr to [v1] 204 206 v/\Rep w lo hi i v1
 | .pair fr to l r,v=>∃v1 v2,nodeAt w lo hi fr to [v1,v2] 207 229 v/\Rep w lo hi l v1/\Rep w lo hi r v2
 | .call fr to l r,v=>∃v1 v2,nodeAt w lo hi fr to [v1,v2] 209 319 v/\Rep w lo hi l v1/\Rep w lo hi r v2
 | .binary fr to sg l r,v=>∃v1 v2,nodeAt w lo hi fr to [.int .i64 sg,v1,v2] 211 322 v/\Rep w lo hi l v1/\Rep w lo hi r v2
 | .cond fr to c t e,v=>∃v1 v2 v3,nodeAt w lo hi fr to [v1,v2,v3] 213 326 v/\Rep w lo hi c v1/\Rep w lo hi t v2/\Rep w lo hi e v3
 | .fn fr to bn bat b,v=>∃v1,nodeAt w lo hi fr to [ug bn,.int .i64 bat,v1] 215 235 v/\Rep w lo hi b v1
 | .lett fr to rc bn bat d b,v=>∃v1 v2,nodeAt w lo hi fr to [.bool rc,ug bn,.int .i64 bat,v1,v2] 136 140 v/\Rep w lo hi d v1/\Rep w lo hi b v2
theorem nodeAt.kept {w w':World} {lo lo' hi hi' fr to:Nat} {rest:List Value} {pt st:TypeId} {v:Value} (h:nodeAt w lo hi fr to rest pt st v) (hb:∀b,lo<=b->b<hi->b<w.heap.size->w'.heap[b]? = w.heap[b]?) (hl:lo'<=lo) (hh:hi<=hi'):nodeAt w' lo' hi' fr to rest pt st v:=by
 obtain ⟨b,h1,h1',h2,h3⟩:=h
 exact ⟨b,Nat.le_trans hl h1,Nat.lt_of_lt_of_le h1' hh,h2,by rw [hb b h1 h1' (zgE.1 h3).1]; exact h3⟩
theorem Rep.kept {w w':World} {lo lo' hi hi':Nat} (hb:∀b,lo<=b->b<hi->b<w.heap.size->w'.heap[b]? = w.heap[b]?) (hl:lo'<=lo) (hh:hi<=hi'):∀ {t:Tw.T} {v:Value},Rep w lo hi t v->Rep w' lo' hi' t v
 | .name ..,_,h=>nodeAt.kept h hb hl hh
 | .int ..,_,h=>nodeAt.kept h hb hl hh
 | .truth ..,_,h=>nodeAt.kept h hb hl hh
 | .side ..,_,h=>nodeAt.kept h hb hl hh
 | .bracket ..,_,⟨v1,h,r1⟩=>⟨v1,h.kept hb hl hh,Rep.kept hb hl hh r1⟩
 | .pair ..,_,⟨v1,v2,h,r1,r2⟩=>⟨v1,v2,h.kept hb hl hh,Rep.kept hb hl hh r1,Rep.kept hb hl hh r2⟩
 | .call ..,_,⟨v1,v2,h,r1,r2⟩=>⟨v1,v2,h.kept hb hl hh,Rep.kept hb hl hh r1,Rep.kept hb hl hh r2⟩
 | .binary ..,_,⟨v1,v2,h,r1,r2⟩=>⟨v1,v2,h.kept hb hl hh,Rep.kept hb hl hh r1,Rep.kept hb hl hh r2⟩
 | .cond ..,_,⟨v1,v2,v3,h,r1,r2,r3⟩=>⟨v1,v2,v3,h.kept hb hl hh,Rep.kept hb hl hh r1,Rep.kept hb hl hh r2,Rep.kept hb hl hh r3⟩
 | .fn ..,_,⟨v1,h,r1⟩=>⟨v1,h.kept hb hl hh,Rep.kept hb hl hh r1⟩
 | .lett ..,_,⟨v1,v2,h,r1,r2⟩=>⟨v1,v2,h.kept hb hl hh,Rep.kept hb hl hh r1,Rep.kept hb hl hh r2⟩
theorem Rep.node {w:World} {lo hi:Nat} {t:Tw.T} {v:Value} (h:Rep w lo hi t v) :
  ∃b,(lo<=b/\b<hi)/\b<w.heap.size/\v = .iface (ptrT t) (.pointer (some ⟨b,0,none⟩))/\w.cell? ⟨b,0,none⟩=some (.int .i64 t.fr)/\w.cell? ⟨b,1,none⟩=some (.int .i64 t.to):=by
 have key:∀ {fr to:Nat} {rest:List Value} {pt st:TypeId},nodeAt w lo hi fr to rest pt st v->∃b,(lo<=b/\b<hi)/\b<w.heap.size/\v = .iface pt (.pointer (some ⟨b,0,none⟩))/\w.cell? ⟨b,0,none⟩=some (.int .i64 fr)/\w.cell? ⟨b,1,none⟩=some (.int .i64 to):=by
  rintro fr to rest pt st ⟨b,h1,h1',h2,h3⟩
  refine ⟨b,⟨h1,h1'⟩,(zgE.1 h3).1,h2,?_,?_⟩ <;> (rw [cell_of_row w b _ _ _ _ h3]; simp)
 cases t with
 | name=>exact key h
 | int=>exact key h
 | truth=>exact key h
 | side=>exact key h
 | bracket=>obtain ⟨_,h,_⟩:=h; exact key h
 | pair=>obtain ⟨_,_,h,_⟩:=h; exact key h
 | call=>obtain ⟨_,_,h,_⟩:=h; exact key h
 | binary=>obtain ⟨_,_,h,_⟩:=h; exact key h
 | cond=>obtain ⟨_,_,_,h,_⟩:=h; exact key h
 | fn=>obtain ⟨_,h,_⟩:=h; exact key h
 | lett=>obtain ⟨_,_,h,_⟩:=h; exact key h
theorem zwi (a:Addr) (w:World):Sem.run Tryz.prog (method 517 83 (.pointer (some a)) "Place") w=Sem.run Tryz.prog (do let v ←loadVar 85 a; pure (266,v)) w:=by kernel_rfl
theorem zzu (a:Addr) (w:World):Sem.run Tryz.prog (method 517 191 (.pointer (some a)) "Place") w=Sem.run Tryz.prog (do let v ←loadVar 85 a; pure (266,v)) w:=by kernel_rfl
theorem zt8 (a:Addr) (w:World):Sem.run Tryz.prog (method 517 195 (.pointer (some a)) "Place") w=Sem.run Tryz.prog (do let v ←loadVar 85 a; pure (266,v)) w:=by kernel_rfl
theorem zwj (a:Addr) (w:World):Sem.run Tryz.prog (method 517 199 (.pointer (some a)) "Place") w=Sem.run Tryz.prog (do let v ←loadVar 85 a; pure (266,v)) w:=by kernel_rfl
theorem zrk (a:Addr) (w:World):Sem.run Tryz.prog (method 517 204 (.pointer (some a)) "Place") w=Sem.run Tryz.prog (do let v ←loadVar 85 a; pure (266,v)) w:=by kernel_rfl
theorem zwk (a:Addr) (w:World):Sem.run Tryz.prog (method 517 207 (.pointer (some a)) "Place") w=Sem.run Tryz.prog (do let v ←loadVar 85 a; pure (266,v)) w:=by kernel_rfl
theorem zwl (a:Addr) (w:World):Sem.run Tryz.prog (method 517 209 (.pointer (some a)) "Place") w=Sem.run Tryz.prog (do let v ←loadVar 85 a; pure (266,v)) w:=by kernel_rfl
theorem zsy (a:Addr) (w:World):Sem.run Tryz.prog (method 517 211 (.pointer (some a)) "Place") w=Sem.run Tryz.prog (do let v ←loadVar 85 a; pure (266,v)) w:=by kernel_rfl
theorem yb2 (a:Addr) (w:World):Sem.run Tryz.prog (method 517 213 (.pointer (some a)) "Place") w=Sem.run Tryz.prog (do let v ←loadVar 85 a; pure (266,v)) w:=by kernel_rfl
theorem zzv (a:Addr) (w:World):Sem.run Tryz.prog (method 517 215 (.pointer (some a)) "Place") w=Sem.run Tryz.prog (do let v ←loadVar 85 a; pure (266,v)) w:=by kernel_rfl
theorem zzw (a:Addr) (w:World):Sem.run Tryz.prog (method 517 136 (.pointer (some a)) "Place") w=Sem.run Tryz.prog (do let v ←loadVar 85 a; pure (266,v)) w:=by kernel_rfl
theorem yb3 (t:Tw.T) (a:Addr) (w:World):Sem.run Tryz.prog (method 517 (ptrT t) (.pointer (some a)) "Place") w=Sem.run Tryz.prog (do let v ←loadVar 85 a; pure (266,v)) w:=by
 cases t with
 | name=>exact zwi a w
 | int=>exact zzu a w
 | truth=>exact zt8 a w
 | side=>exact zwj a w
 | bracket=>exact zrk a w
 | pair=>exact zwk a w
 | call=>exact zwl a w
 | binary=>exact zsy a w
 | cond=>exact yb2 a w
 | fn=>exact zzv a w
 | lett=>exact zzw a w
theorem zg3 (t:Tw.T) (b:Nat) (w:World) (x y:Int) (h0:w.cell? ⟨b,0,none⟩=some (.int .i64 x)) (h1:w.cell? ⟨b,1,none⟩=some (.int .i64 y)) :
  Sem.run Tryz.prog (method 517 (ptrT t) (.pointer (some ⟨b,0,none⟩)) "Place") w = .ok (266,.agg #[.int .i64 x,.int .i64 y]) w:=by
 rw [yb3]
 have c:Tryz.prog.cellsOf 85=2:=by kernel_rfl
 go_simp
theorem ze8 (w:World) (x y:Int) :
  Calls Tryz.prog 266 #[.agg #[.int .i64 x,.int .i64 y]] w fun e w'=>e = .returned (.agg #[.int .i64 x,.int .i64 y])/\w.grownBy w' none:=by
 go_enter Tryz.func266,Tryz.ntmps266
 go_wp2_with fail
 refine bodyPost_ret (v:=.agg #[.int .i64 x,.int .i64 y]) (by simp [results,Tryz.results266,go_sem]) rfl ⟨rfl,?_⟩
 exact zae (zae (zab _) _) _
theorem zau {w:World} {b:Nat} {x y:Value} {t:TypeId} (h:w.heap[b]? = some (.cells #[x,y] t (0,0))) :
  w.cell? ⟨b,0,none⟩=some x/\w.cell? ⟨b,1,none⟩=some y/\w.frozen? ⟨b,0,none⟩=false/\w.frozen? ⟨b,1,none⟩=false:=by
 refine ⟨?_,?_,frozen_of_row _ _ _ _ _ h,frozen_of_row _ _ _ _ _ h⟩ <;> (rw [cell_of_row w b _ _ _ _ h]; rfl)
theorem zre (a b:Int) (w:World):Sem.run Tryz.prog (Instr.field 85 (.agg #[.int .i64 a,.int .i64 b]) 0) w = .ok (.int .i64 a) w:=by kernel_rfl
theorem zys (a b:Int) (w:World):Sem.run Tryz.prog (Instr.field 85 (.agg #[.int .i64 a,.int .i64 b]) 1) w = .ok (.int .i64 b) w:=by kernel_rfl
theorem zge (w:World) (fr:Int) {lo hi:Nat} {t:Tw.T} {v:Value} (h:Rep w lo hi t v) :
    Calls Tryz.prog 205 #[.int .i64 fr,v] w fun e w'=>e = .returned (.agg #[.int .i64 fr,.int .i64 t.to])/\w.grownBy w' none:=by
  obtain ⟨b,_,hb,rfl,c0,c1⟩:=h.node
  clear h
  have fd:=zys
  have hp:=zg3 t b (w.alloc (.cells #[.int .i64 0,.int .i64 0] 85)) t.fr t.to (by go_simp) (by go_simp)
  generalize ptrT t=T at *
  go_enter Tryz.func205,Tryz.ntmps205
  go_wp2_with (go_at_call 266; refine (ze8 _ _ _).mono ?_; rintro e w1 ⟨rfl,hg⟩
               have hg':Hid (w.grownBy w1 none):=zaa (zae (zab _) _) hg
               have l4:=zau ((hg.block _ (by simp) (by simp)).trans (zad w _))
               obtain ⟨a40,a41,f40,f41⟩:=l4
               clear hg)
  refine bodyPost_ret (v:=.agg #[.int .i64 fr,.int .i64 t.to]) (by simp [results,Tryz.results205,go_sem,a40,a41]) rfl ⟨rfl,?_⟩
  exact zmp (zmp hg'.out (znL _) _ _) (znL _) _ _
open Go.RowKit
theorem Rep.grown {w w':World} {lo lo' hi hi':Nat} {t:Tw.T} {v:Value} (h:Rep w lo hi t v) (hg:w.grownBy w' none) (hl:lo'<=lo) (hh:hi<=hi'):Rep w' lo' hi' t v :=
 Rep.kept (fun b _ _ hb=>hg.block b hb (by simp)) hl hh h
theorem Rep.keep {bp:Nat} {w w':World} {lo lo' hi hi':Nat} {t:Tw.T} {v:Value} (h:Rep w lo hi t v) (hg:Keep bp w w') (hb:bp<lo) (hl:lo'<=lo) (hh:hi<=hi'):Rep w' lo' hi' t v :=
 Rep.kept (fun b h1 _ h2=>hg.block b h2 (by simp; omega)) hl hh h
theorem Rep.set {w:World} {lo lo' hi hi':Nat} {t:Tw.T} {v:Value} (h:Rep w lo hi t v) {b j:Nat} (u:Value) (hb:b<lo\/hi<=b) (hl:lo'<=lo) (hh:hi<=hi'):Rep (w.setCell ⟨b,j,none⟩ u) lo' hi' t v :=
 Rep.kept (fun k h1 h2 _=>heap_setCell_other w ⟨b,j,none⟩ k u (by simp; omega)) hl hh h
theorem Rep.wide {w:World} {lo lo' hi hi':Nat} {t:Tw.T} {v:Value} (h:Rep w lo hi t v) (hl:lo'<=lo) (hh:hi<=hi'):Rep w lo' hi' t v :=
 Rep.kept (fun _ _ _ _=>rfl) hl hh h
theorem zl1 (w:World) (sg:Int) {lo hi:Nat} {l r:Tw.T} {v1 v2:Value} (h1:Rep w lo hi l v1) (h2:Rep w lo hi r v2) (_hlo:lo<=w.heap.size) (_hhi:hi<=w.heap.size) :
    Calls Tryz.prog 207 #[.int .i64 sg,v1,v2] w fun e w'=>∃v,e = .returned v/\w.grownBy w' none/\Rep w' lo w'.heap.size (.binary l.fr r.to sg l r) v:=by
  have H1:Hid (Rep w lo hi l v1):=h1
  have H2:Hid (Rep w lo hi r v2):=h2
  obtain ⟨b,_,hb,hv1,c0,c1⟩:=h1.node
  have HV:Hid (v1 = .iface (ptrT l) (.pointer (some ⟨b,0,none⟩))):=hv1
  obtain ⟨b2,_,_,hv2,_,_⟩:=h2.node
  have fd:=zre
  have hp:=zg3 l b w l.fr l.to c0 c1
  generalize ptrT l=T at *
  generalize ptrT r=T2 at *
  subst hv1 hv2
  clear h1 h2
  go_enter Tryz.func207,Tryz.ntmps207
  go_wp2_with (first
    | (go_at_call 266; refine (ze8 _ _ _).mono ?_; rintro e w1 ⟨rfl,hg⟩
       have hg1:Hid (w.grownBy w1 none):=hg
       clear hg)
    | (go_at_call 205; refine (zge _ _ (H2.out.grown hg1.out (znL _) (znL _))).mono ?_; rintro e w2 ⟨rfl,hg⟩
       have hg2:Hid (w.grownBy w2 none):=zaa hg1.out hg
       clear hg))
  go_ret
  refine ⟨_,rfl,zae hg2.out _,?_⟩
  have hz:=hg2.out.size
  exact ⟨_,_,⟨w2.heap.size,by omega,by simp,rfl,zad w2 _⟩,H1.out.grown (zae hg2.out _) (znL _) (by simp; omega),H2.out.grown (zae hg2.out _) (znL _) (by simp; omega)⟩
def Said.ParseInt:Prop:=∀(s:ByteArray) (_:s.size<=300) (v:Int) (_:Lib.parseIntB 64 s.data.toList = .ok v) (w:World),
  Calls Tryz.prog 239 #[.string s,.int .i64 10,.int .i64 64] w fun e w'=>e = .returned (.tuple #[.int .i64 v,.nilIface])/\w.grownBy w' none
theorem zzx (hPI:Said.ParseInt) (s:ByteArray) (hs:s.size<=300) (v:Int) (hv:Lib.parseIntB 64 s.data.toList = .ok v) (w:World) :
  Calls Tryz.prog 238 #[.string s] w fun e w'=>e = .returned (.int .i64 v)/\w.grownBy w' none:=by
 have HV:Hid (Lib.parseIntB 64 s.data.toList = .ok v):=hv
 clear hv
 go_enter Tryz.func238,Tryz.ntmps238
 go_wp2_with (go_at_call 239; refine (hPI _ hs _ HV.out _).mono ?_; rintro e w1 ⟨rfl,hg⟩)
 go_ret
 exact ⟨rfl,hg⟩
theorem zb5 (n:Int) (w:World) :
  Calls Tryz.prog 234 #[.int .i64 n] w fun e w'=>e = .returned (.bool (Tw.zal n))/\w=w':=by
 go_enter Tryz.func234,Tryz.ntmps234
 go_wp2
 all_goals (go_ret; go_light; exact ⟨zc5 (by simp_all [Tw.zal]),rfl⟩)
section
variable {w w' : World} {bp gt cap : Nat} {cur : Array Value} {s : ByteArray} {ts : List Tw.Tok} {st : Tw.PS}
theorem zdh (s:ByteArray) (a b:Nat):s.extract a b=⟨(Tw.zaw s.data.toList a b).toArray⟩:=by
 apply zwe
 rw [Lib.extract_data]
 rfl
theorem zpy (h:PCtx w bp gt cap cur s ts st) {bn:List UInt8} {a:Nat} {st':Tw.PS} (hf:Tw.zct s.data.toList ts st=some ((bn,a),st')) :
    Calls Tryz.prog 204 #[.pointer (some ⟨bp,0,none⟩)] w fun e w'=>e = .returned (.agg #[ug bn,.int .i64 a])/\Keep bp w w'/\PCtx w' bp gt cap cur s ts st':=by
  unfold Tw.zct at hf
  obtain ⟨⟨t,st1⟩,ht,hst⟩:=zbE.1 hf
  split at hst
  rotate_left
  · cases hst
  rename_i hpc
  obtain ⟨hp1,hp2⟩:=hpc
  simp only [zsI,zpI] at hst
  obtain ⟨⟨rfl,rfl⟩,rfl⟩:=hst
  have hl:s.data.toList.length=s.size:=rfl
  rw [hl] at hp2
  simp only at hp1
  have hsz:=h.size
  clear hl
  have HH:Hid (PCtx w bp gt cap cur s ts st):=h
  have HT:Hid (Tw.zbe ts 1 st=some (t,st1)):=ht
  have hbp:=h.zeo
  have hgt:=h.zff
  clear h ht hf
  go_enter Tryz.func204,Tryz.ntmps204
  go_wp2_with (first
    | (go_at_call 82; refine (zb4 (HH.out.alloc _) _ HT.out).mono ?_; rintro e w1 ⟨rfl,hk1,h1⟩
       have h1':Hid (PCtx w1 bp gt cap cur s ts st1):=h1
       have hk1':Hid (Keep bp w w1):=((Keep.refl bp w).alloc _).trans hk1
       have hs1:w.heap.size<w1.heap.size:=by have:=hk1.size; simp at this; omega
       have l4:=zau (hk1.at (zad w _) (by omega))
       obtain ⟨a40,a41,f40,f41⟩:=l4
       obtain ⟨p0,p1,p2,p3,p4,p5⟩:=h1.p
       have hbp1:bp<w1.heap.size:=by omega
       clear hk1 h1 p1 p2 p3 p4 p5))
  have hq1:(t.fr:Int)<=(t.to:Int):=by omega
  have hq2:(t.to:Int)<=(s.size:Int):=by omega
  go_region
  go_wp2_with fail
  refine bodyPost_ret (v:=.agg #[.string (s.extract t.fr t.to),.int .i64 t.fr]) (by simp [results,Tryz.results204,go_sem,a40,a41,hs1]) rfl ⟨?_,?_,?_⟩
  · rw [zdh]
  · go_light
    exact (((hk1'.out.setNew _ _ _ (znL _)).setNew _ _ _ (znL _)).alloc _).drew
  · go_light
    exact (((h1'.out.setOther _ _ _ (by omega) (by omega)).setOther _ _ _ (by omega) (by omega)).alloc _).drew
end
open Go.RowKit
def zgn (w:World) (bp gt cap:Nat) (cur:Array Value) (s:ByteArray) (ts:List Tw.Tok) (t:Tw.T) (st':Tw.PS) (e:Ending) (w':World):Prop :=
 ∃v,e = .returned v/\Keep bp w w'/\PCtx w' bp gt cap cur s ts st'/\Rep w' w.heap.size w'.heap.size t v
def zbr (f:FuncId) (S:List UInt8->List Tw.Tok->Nat->Tw.PS->Option (Tw.T×Tw.PS)) (n:Nat):Prop :=
 ∀ {w:World} {bp gt cap:Nat} {cur:Array Value} {s:ByteArray} {ts:List Tw.Tok} {st:Tw.PS} {t:Tw.T} {st':Tw.PS},
  PCtx w bp gt cap cur s ts st->S s.data.toList ts n st=some (t,st')->Calls Tryz.prog f #[.pointer (some ⟨bp,0,none⟩)] w (zgn w bp gt cap cur s ts t st')
theorem yb4 {n:Nat} (hX:zbr 156 Tw.letS n) {w:World} {bp gt cap:Nat} {cur:Array Value} {s:ByteArray} {ts:List Tw.Tok} {st:Tw.PS} {t:Tw.T} {st':Tw.PS} {tk:Tw.Tok}
    (h:PCtx w bp gt cap cur s ts st) (ht:Tw.tokS ts st=some tk) (hf:Tw.letS s.data.toList ts n st=some (t,st')) (b3:(tk.sort==3)=true) :
    Calls Tryz.prog 81 #[.pointer (some ⟨bp,0,none⟩)] w (zgn w bp gt cap cur s ts t st'):=by
  have HH:Hid (PCtx w bp gt cap cur s ts st):=h
  have HT:Hid (Tw.tokS ts st=some tk):=ht
  have HF:Hid (Tw.letS s.data.toList ts n st=some (t,st')):=hf
  have fd:=zf7
  clear h ht hf
  go_enter Tryz.func81,Tryz.ntmps81
  go_wp2_with (first
    | (go_at_call 155; refine (zbo HH.out HT.out).mono ?_; rintro e w1 ⟨rfl,hg⟩
       have h1:Hid (PCtx w1 bp gt cap cur s ts st):=HH.out.kept hg
       have hg1:Hid (w.grownBy w1 none):=hg
       clear hg)
    | (go_at_call 156; refine (hX h1.out HF.out).mono ?_; rintro e w2 ⟨v,rfl,hk2,h2,r2⟩
       have X:Hid (Keep bp w w2/\PCtx w2 bp gt cap cur s ts st'/\Rep w2 w.heap.size w2.heap.size t v):=⟨(Keep.of_none hg1.out).trans hk2,h2,r2.wide hg1.out.size (znL _)⟩
       clear hk2 h2 r2))
  go_ret
  exact ⟨_,rfl,X.out⟩
theorem zrl {n:Nat} (hX:zbr 157 Tw.funS n) {w:World} {bp gt cap:Nat} {cur:Array Value} {s:ByteArray} {ts:List Tw.Tok} {st:Tw.PS} {t:Tw.T} {st':Tw.PS} {tk:Tw.Tok}
    (h:PCtx w bp gt cap cur s ts st) (ht:Tw.tokS ts st=some tk) (hf:Tw.funS s.data.toList ts n st=some (t,st')) (b3:(tk.sort==3)=false) (b6:(tk.sort==6)=true) :
    Calls Tryz.prog 81 #[.pointer (some ⟨bp,0,none⟩)] w (zgn w bp gt cap cur s ts t st'):=by
  have HH:Hid (PCtx w bp gt cap cur s ts st):=h
  have HT:Hid (Tw.tokS ts st=some tk):=ht
  have HF:Hid (Tw.funS s.data.toList ts n st=some (t,st')):=hf
  have fd:=zf7
  clear h ht hf
  go_enter Tryz.func81,Tryz.ntmps81
  go_wp2_with (first
    | (go_at_call 155; refine (zbo HH.out HT.out).mono ?_; rintro e w1 ⟨rfl,hg⟩
       have h1:Hid (PCtx w1 bp gt cap cur s ts st):=HH.out.kept hg
       have hg1:Hid (w.grownBy w1 none):=hg
       clear hg)
    | (go_at_call 157; refine (hX h1.out HF.out).mono ?_; rintro e w2 ⟨v,rfl,hk2,h2,r2⟩
       have X:Hid (Keep bp w w2/\PCtx w2 bp gt cap cur s ts st'/\Rep w2 w.heap.size w2.heap.size t v):=⟨(Keep.of_none hg1.out).trans hk2,h2,r2.wide hg1.out.size (znL _)⟩
       clear hk2 h2 r2))
  go_ret
  exact ⟨_,rfl,X.out⟩
theorem zt9 {n:Nat} (hX:zbr 158 Tw.zco n) {w:World} {bp gt cap:Nat} {cur:Array Value} {s:ByteArray} {ts:List Tw.Tok} {st:Tw.PS} {t:Tw.T} {st':Tw.PS} {tk:Tw.Tok}
    (h:PCtx w bp gt cap cur s ts st) (ht:Tw.tokS ts st=some tk) (hf:Tw.zco s.data.toList ts n st=some (t,st')) (b3:(tk.sort==3)=false) (b6:(tk.sort==6)=false) (b7:(tk.sort==7)=true) :
    Calls Tryz.prog 81 #[.pointer (some ⟨bp,0,none⟩)] w (zgn w bp gt cap cur s ts t st'):=by
  have HH:Hid (PCtx w bp gt cap cur s ts st):=h
  have HT:Hid (Tw.tokS ts st=some tk):=ht
  have HF:Hid (Tw.zco s.data.toList ts n st=some (t,st')):=hf
  have fd:=zf7
  clear h ht hf
  go_enter Tryz.func81,Tryz.ntmps81
  go_wp2_with (first
    | (go_at_call 155; refine (zbo HH.out HT.out).mono ?_; rintro e w1 ⟨rfl,hg⟩
       have h1:Hid (PCtx w1 bp gt cap cur s ts st):=HH.out.kept hg
       have hg1:Hid (w.grownBy w1 none):=hg
       clear hg)
    | (go_at_call 158; refine (hX h1.out HF.out).mono ?_; rintro e w2 ⟨v,rfl,hk2,h2,r2⟩
       have X:Hid (Keep bp w w2/\PCtx w2 bp gt cap cur s ts st'/\Rep w2 w.heap.size w2.heap.size t v):=⟨(Keep.of_none hg1.out).trans hk2,h2,r2.wide hg1.out.size (znL _)⟩
       clear hk2 h2 r2))
  go_ret
  exact ⟨_,rfl,X.out⟩
theorem zpi {n:Nat} (hX:zbr 159 Tw.cmpS n) {w:World} {bp gt cap:Nat} {cur:Array Value} {s:ByteArray} {ts:List Tw.Tok} {st:Tw.PS} {t:Tw.T} {st':Tw.PS} {tk:Tw.Tok}
    (h:PCtx w bp gt cap cur s ts st) (ht:Tw.tokS ts st=some tk) (hf:Tw.cmpS s.data.toList ts n st=some (t,st')) (b3:(tk.sort==3)=false) (b6:(tk.sort==6)=false) (b7:(tk.sort==7)=false) :
    Calls Tryz.prog 81 #[.pointer (some ⟨bp,0,none⟩)] w (zgn w bp gt cap cur s ts t st'):=by
  have HH:Hid (PCtx w bp gt cap cur s ts st):=h
  have HT:Hid (Tw.tokS ts st=some tk):=ht
  have HF:Hid (Tw.cmpS s.data.toList ts n st=some (t,st')):=hf
  have fd:=zf7
  clear h ht hf
  go_enter Tryz.func81,Tryz.ntmps81
  go_wp2_with (first
    | (go_at_call 155; refine (zbo HH.out HT.out).mono ?_; rintro e w1 ⟨rfl,hg⟩
       have h1:Hid (PCtx w1 bp gt cap cur s ts st):=HH.out.kept hg
       have hg1:Hid (w.grownBy w1 none):=hg
       clear hg)
    | (go_at_call 159; refine (hX h1.out HF.out).mono ?_; rintro e w2 ⟨v,rfl,hk2,h2,r2⟩
       have X:Hid (Keep bp w w2/\PCtx w2 bp gt cap cur s ts st'/\Rep w2 w.heap.size w2.heap.size t v):=⟨(Keep.of_none hg1.out).trans hk2,h2,r2.wide hg1.out.size (znL _)⟩
       clear hk2 h2 r2))
  go_ret
  exact ⟨_,rfl,X.out⟩
theorem zzy {n:Nat} (hL:zbr 156 Tw.letS n) (hF:zbr 157 Tw.funS n) (hC:zbr 158 Tw.zco n) (hM:zbr 159 Tw.cmpS n) :
  zbr 81 Tw.za6 (n+1):=by
 intro w bp gt cap cur s ts st t st' h hf
 rw [Tw.za6] at hf
 obtain ⟨tk,ht,hf0⟩:=zbE.1 hf
 by_cases h3:tk.sort=3
 ·rw [if_pos h3] at hf0
  exact yb4 hL h ht hf0 (by simp [h3])
 ·rw [if_neg h3] at hf0
  by_cases h6:tk.sort=6
  ·rw [if_pos h6] at hf0
   exact zrl hF h ht hf0 (by simp [h3]) (by simp [h6])
  ·rw [if_neg h6] at hf0
   by_cases h7:tk.sort=7
   ·rw [if_pos h7] at hf0
    exact zt9 hC h ht hf0 (by simp [h3]) (by simp [h6]) (by simp [h7])
   ·rw [if_neg h7] at hf0
    exact zpi hM h ht hf0 (by simp [h3]) (by simp [h6]) (by simp [h7])
theorem yb5 {n:Nat} (hE:zbr 81 Tw.za6 n) :
    zbr 157 Tw.funS (n+1):=by
  intro w bp gt cap cur s ts st t st' h hf0
  rw [Tw.funS] at hf0
  obtain ⟨⟨bfr,st1⟩,hb,hf1⟩:=zbE.1 hf0
  obtain ⟨⟨⟨bn,bat⟩,st2⟩,hbd,hf2⟩:=zbE.1 hf1
  obtain ⟨⟨ta,st3⟩,ha,hf3⟩:=zbE.1 hf2
  obtain ⟨⟨x,st4⟩,hx,hf4⟩:=zbE.1 hf3
  obtain ⟨st5,he,hf5⟩:=zbE.1 hf4
  clear hf0 hf1 hf2 hf3 hf4
  simp only [zsI,zpI] at hf5
  obtain ⟨rfl,rfl⟩:=hf5
  simp only at hbd ha hx he
  have HH:Hid (PCtx w bp gt cap cur s ts st):=h
  have H1:Hid (Tw.zce ts 6 st=some (bfr,st1)):=hb
  have H2:Hid (Tw.zct s.data.toList ts st1=some ((bn,bat),st2)):=hbd
  have H3:Hid (Tw.zbe ts 14 st2=some (ta,st3)):=ha
  have H4:Hid (Tw.za6 s.data.toList ts n st3=some (x,st4)):=hx
  have H5:Hid (Tw.endS st4=some st5):=he
  have hbp:=h.zeo
  have hgt:=h.zff
  clear h hb hbd ha hx he
  go_enter_defers Tryz.func157,Tryz.ntmps157
  go_wp2_with (first
    | (go_at_call 201; refine (zio HH.out _ H1.out).mono ?_; rintro e w1 ⟨rfl,hk,h⟩
       have P1:Hid (PCtx w1 bp gt cap cur s ts st1):=h
       have K1:Hid (Keep bp w w1):=hk
       have z1:w.heap.size<=w1.heap.size:=hk.size
       clear hk h)
    | (go_at_call 204; refine (zpy P1.out H2.out).mono ?_; rintro e w2 ⟨rfl,hk,h⟩
       have P2:Hid (PCtx w2 bp gt cap cur s ts st2):=h
       have K2:Hid (Keep bp w w2):=K1.out.trans hk
       have z2:w1.heap.size<=w2.heap.size:=hk.size
       clear hk h)
    | (go_at_call 82; refine (zb4 (P2.out.alloc _) _ H3.out).mono ?_; rintro e w3 ⟨rfl,hk,h⟩
       have P3:Hid (PCtx w3 bp gt cap cur s ts st3):=h
       have K3:Hid (Keep bp w w3):=(K2.out.alloc _).trans hk
       have z3:w2.heap.size<w3.heap.size:=by have:=hk.size; simp at this; omega
       have N3:Hid (w3.heap[w2.heap.size]? = some (.cells #[.int .i64 0,.int .i64 0,ug bn,.int .i64 bat,.nilIface] 235 (0,0))):=hk.at (zad w2 _) (by omega)
       clear hk h)
    | (go_at_call 81; refine (hE P3.out H4.out).mono ?_; rintro e w4 ⟨v,rfl,hk,h,r⟩
       have P4:Hid (PCtx w4 bp gt cap cur s ts st4):=h
       have K4:Hid (Keep bp w w4):=K3.out.trans hk
       have z4:w3.heap.size<=w4.heap.size:=hk.size
       have N4:Hid (w4.heap[w2.heap.size]? = some (.cells #[.int .i64 0,.int .i64 0,ug bn,.int .i64 bat,.nilIface] 235 (0,0))):=hk.at N3.out (by omega)
       obtain ⟨vb,_,_,hv,_,_⟩:=r.node
       generalize ptrT x=T at hv
       subst hv
       have R4:Hid (Rep w4 w3.heap.size w4.heap.size x (.iface T (.pointer (some ⟨vb,0,none⟩)))):=r
       have c4:w4.cell? ⟨w2.heap.size,4,none⟩=some .nilIface:=zcR N4.out
       have f4:=frozen_of_row _ _ 4 _ _ N4.out
       clear hk h r)
    | (go_at_call 205; refine (zge _ _ (R4.out.set _ (.inl z3) (znL _) (znL _))).mono ?_; rintro e w5 ⟨rfl,hg⟩
       have N4':Hid ((w4.setCell ⟨w2.heap.size,4,none⟩ (.iface T (.pointer (some ⟨vb,0,none⟩)))).heap[w2.heap.size]? = some (.cells #[.int .i64 0,.int .i64 0,ug bn,.int .i64 bat,.iface T (.pointer (some ⟨vb,0,none⟩))] 235 (0,0))):=by show _=_; rw [heap_setCell_same _ _ _ _ _ _ N4.out]; rfl
       have N5:Hid (w5.heap[w2.heap.size]? = some (.cells #[.int .i64 0,.int .i64 0,ug bn,.int .i64 bat,.iface T (.pointer (some ⟨vb,0,none⟩))] 235 (0,0))):=(Keep.of_none (bp:=bp) hg).at N4'.out (by omega)
       have P5:Hid (PCtx w5 bp gt cap cur s ts st4):=(P4.out.setOther _ _ _ (by omega) (by omega)).kept hg
       have K5:Hid (Keep bp w w5):=(K4.out.setNew _ _ _ (by omega)).trans (Keep.of_none hg)
       have R5:Hid (Rep w5 w3.heap.size w4.heap.size x (.iface T (.pointer (some ⟨vb,0,none⟩)))):=(R4.out.set _ (.inl z3) (znL _) (znL _)).grown hg (znL _) (znL _)
       have K5s:Hid (w4.heap.size<=w5.heap.size):=by show _<=_; have:=hg.size; simpa using this
       have d0:w5.cell? ⟨w2.heap.size,0,none⟩=some (.int .i64 0):=zcR N5.out
       have d1:w5.cell? ⟨w2.heap.size,1,none⟩=some (.int .i64 0):=zcR N5.out
       have g0:=frozen_of_row _ _ 0 _ _ N5.out
       have g1:=frozen_of_row _ _ 1 _ _ N5.out
       clear hg))
  refine leaves_cons (f:=202) (args:=#[.pointer (some ⟨bp,0,none⟩)]) (by simp) (by simp [go_sem]) ?_
  refine (zfg ((P5.out.setOther _ _ _ (by omega) (by omega)).setOther _ _ _ (by omega) (by omega)) .returning H5.out).mono ?_
  rintro e u' w6 ⟨rfl,rfl,hk6,h6⟩
  refine ⟨_,results_tmp rfl _ _ _,?_⟩
  go_light
  have N6:((w5.setCell ⟨w2.heap.size,0,none⟩ (.int .i64 bfr)).setCell ⟨w2.heap.size,1,none⟩ (.int .i64 x.to)).heap[w2.heap.size]? = some (.cells #[.int .i64 bfr,.int .i64 x.to,ug bn,.int .i64 bat,.iface T (.pointer (some ⟨vb,0,none⟩))] 235 (0,0)):=by
    rw [heap_setCell_same _ _ _ _ _ _ (heap_setCell_same _ _ _ _ _ _ N5.out)]; rfl
  refine ⟨_,rfl,((K5.out.setNew _ _ _ (by omega)).setNew _ _ _ (by omega)).trans hk6,h6,?_⟩
  have z6:=hk6.size
  have z5:=K5s.out
  simp at z6
  exact ⟨_,⟨w2.heap.size,by omega,by omega,rfl,hk6.at N6 (by omega)⟩,((R5.out.set _ (.inl z3) (znL _) (znL _)).set _ (.inl z3) (znL _) (znL _)).keep hk6 (by omega) (by omega) (by omega)⟩
open Go.RowKit
section
variable {w w' : World} {bp gt cap : Nat} {cur : Array Value} {s : ByteArray} {ts : List Tw.Tok} {st : Tw.PS}
theorem zrf (h:PCtx w bp gt cap cur s ts st) (a:Int) {r:Int} {st':Tw.PS} (hf:Tw.zao ts [a] st=some (r,st')) :
  Calls Tryz.prog 203 #[.pointer (some ⟨bp,0,none⟩),.slice (some ⟨w.heap.size,0,none⟩) 1 1] (w.alloc (.cells #[.int .i64 a] 172)) fun e w'=>e = .returned (.int .i64 r)/\(Keep bp w w'/\w.heap.size<w'.heap.size)/\PCtx w' bp gt cap cur s ts st':=by
 have hb:=h.zeo
 refine (ze7 (h.alloc _) [a] w.heap.size (by simp) (zad w _) (by omega) hf).mono ?_
 rintro e w' ⟨rfl,hk,h'⟩
 exact ⟨rfl,⟨((Keep.refl bp w).alloc _).trans hk,by have:=hk.size; simp at this; omega⟩,h'⟩
theorem zv9 (h:PCtx w bp gt cap cur s ts st) (a b:Int) {r:Int} {st':Tw.PS} (hf:Tw.zao ts [a,b] st=some (r,st')) :
  Calls Tryz.prog 203 #[.pointer (some ⟨bp,0,none⟩),.slice (some ⟨w.heap.size,0,none⟩) 2 2] (w.alloc (.cells #[.int .i64 a,.int .i64 b] 172)) fun e w'=>e = .returned (.int .i64 r)/\(Keep bp w w'/\w.heap.size<w'.heap.size)/\PCtx w' bp gt cap cur s ts st':=by
 have hb:=h.zeo
 refine (ze7 (h.alloc _) [a,b] w.heap.size (by simp) (zad w _) (by omega) hf).mono ?_
 rintro e w' ⟨rfl,hk,h'⟩
 exact ⟨rfl,⟨((Keep.refl bp w).alloc _).trans hk,by have:=hk.size; simp at this; omega⟩,h'⟩
end
theorem yb6 {n:Nat} (hE:zbr 81 Tw.za6 n) :
    zbr 156 Tw.letS (n+1):=by
  intro w bp gt cap cur s ts st t st' h hf0
  rw [Tw.letS] at hf0
  obtain ⟨⟨bfr,st1⟩,hb,hf1⟩:=zbE.1 hf0
  obtain ⟨⟨rc,st2⟩,hrc,hf2⟩:=zbE.1 hf1
  obtain ⟨⟨⟨bn,bat⟩,st3⟩,hbd,hf3⟩:=zbE.1 hf2
  obtain ⟨⟨ta,st4⟩,ha,hf4⟩:=zbE.1 hf3
  obtain ⟨⟨d,st5⟩,hd,hf5⟩:=zbE.1 hf4
  obtain ⟨⟨ti,st6⟩,hi,hf6⟩:=zbE.1 hf5
  obtain ⟨⟨x,st7⟩,hx,hf7⟩:=zbE.1 hf6
  obtain ⟨st8,he,hf8⟩:=zbE.1 hf7
  clear hf0 hf1 hf2 hf3 hf4 hf5 hf6 hf7
  simp only [zsI,zpI] at hf8
  obtain ⟨rfl,rfl⟩:=hf8
  simp only at hrc hbd ha hd hi hx he
  have HH:Hid (PCtx w bp gt cap cur s ts st):=h
  have H1:Hid (Tw.zce ts 3 st=some (bfr,st1)):=hb
  have H2:Hid (Tw.zao ts [4] st1=some (rc,st2)):=hrc
  have H3:Hid (Tw.zct s.data.toList ts st2=some ((bn,bat),st3)):=hbd
  have H4:Hid (Tw.zbe ts 15 st3=some (ta,st4)):=ha
  have H5:Hid (Tw.za6 s.data.toList ts n st4=some (d,st5)):=hd
  have H6:Hid (Tw.zbe ts 5 st5=some (ti,st6)):=hi
  have H7:Hid (Tw.za6 s.data.toList ts n st6=some (x,st7)):=hx
  have H8:Hid (Tw.endS st7=some st8):=he
  have hbp:=h.zeo
  have hgt:=h.zff
  clear h hb hrc hbd ha hd hi hx he
  go_enter_defers Tryz.func156,Tryz.ntmps156
  go_wp2_with (first
    | (go_at_call 201; refine (zio HH.out _ H1.out).mono ?_; rintro e w1 ⟨rfl,hk,h⟩
       have P1:Hid (PCtx w1 bp gt cap cur s ts st1):=h
       have K1:Hid (Keep bp w w1):=hk
       have z1:w.heap.size<=w1.heap.size:=hk.size
       clear hk h)
    | (go_at_call 203; refine (zrf P1.out 4 H2.out).mono ?_; rintro e w2 ⟨rfl,⟨hk,hz⟩,h⟩
       have P2:Hid (PCtx w2 bp gt cap cur s ts st2):=h
       have K2:Hid (Keep bp w w2):=K1.out.trans hk
       have z2:w1.heap.size<w2.heap.size:=hz
       clear hk h hz)
    | (go_at_call 204; refine (zpy (P2.out.alloc _) H3.out).mono ?_; rintro e w3 ⟨rfl,hk,h⟩
       have P3:Hid (PCtx w3 bp gt cap cur s ts st3):=h
       have K3:Hid (Keep bp w w3):=(K2.out.alloc _).trans hk
       have z3:w2.heap.size<w3.heap.size:=by have:=hk.size; simp at this; omega
       have N3:Hid (w3.heap[w2.heap.size]? = some (.cells #[.int .i64 0,.int .i64 0,.bool (rc==4),.string ⟨#[]⟩,.int .i64 0,.nilIface,.nilIface] 140 (0,0))):=hk.at (zad w2 _) (by omega)
       have c3:w3.cell? ⟨w2.heap.size,3,none⟩=some (.string ⟨#[]⟩):=zcR N3.out
       have c4:w3.cell? ⟨w2.heap.size,4,none⟩=some (.int .i64 0):=zcR N3.out
       have f3:=frozen_of_row _ _ 3 _ _ N3.out
       have f4:=frozen_of_row _ _ 4 _ _ N3.out
       clear hk h))
  -- the sign
  have N3b:Hid (((w3.setCell ⟨w2.heap.size,3,none⟩ (.string ⟨bn.toArray⟩)).setCell ⟨w2.heap.size,4,none⟩ (.int .i64 bat)).heap[w2.heap.size]? = some (.cells #[.int .i64 0,.int .i64 0,.bool (rc==4),ug bn,.int .i64 bat,.nilIface,.nilIface] 140 (0,0))):=by
    show _=_
    rw [heap_setCell_same _ _ _ _ _ _ (heap_setCell_same _ _ _ _ _ _ N3.out)]; rfl
  have P3b:=(P3.out.setOther w2.heap.size 3 (.string ⟨bn.toArray⟩) (by omega) (by omega)).setOther w2.heap.size 4 (.int .i64 bat) (by omega) (by omega)
  have K3b:=(K3.out.setNew w2.heap.size 3 (.string ⟨bn.toArray⟩) (by omega)).setNew w2.heap.size 4 (.int .i64 bat) (by omega)
  refine (zb4 P3b _ H4.out).mono ?_
  rintro e w4 ⟨rfl,hk,h⟩
  have P4:Hid (PCtx w4 bp gt cap cur s ts st4):=h
  have K4:Hid (Keep bp w w4):=K3b.trans hk
  have z4:w3.heap.size<=w4.heap.size:=by have:=hk.size; simpa using this
  have N4:Hid (w4.heap[w2.heap.size]? = some (.cells #[.int .i64 0,.int .i64 0,.bool (rc==4),ug bn,.int .i64 bat,.nilIface,.nilIface] 140 (0,0))):=hk.at N3b.out (by omega)
  clear hk h P3b K3b N3b N3 P3 K3 c3 c4 f3 f4
  go_wp2_with fail
  -- the definition
  refine (hE P4.out H5.out).mono ?_
  rintro e w5 ⟨v,rfl,hk,h,r⟩
  have P5:Hid (PCtx w5 bp gt cap cur s ts st5):=h
  have K5:Hid (Keep bp w w5):=K4.out.trans hk
  have z5:w4.heap.size<=w5.heap.size:=hk.size
  have N5:Hid (w5.heap[w2.heap.size]? = some (.cells #[.int .i64 0,.int .i64 0,.bool (rc==4),ug bn,.int .i64 bat,.nilIface,.nilIface] 140 (0,0))):=hk.at N4.out (by omega)
  obtain ⟨b1,_,_,hv,_,_⟩:=r.node
  generalize ptrT d=T1 at hv
  subst hv
  have R5:Hid (Rep w5 w4.heap.size w5.heap.size d (.iface T1 (.pointer (some ⟨b1,0,none⟩)))):=r
  have c5:w5.cell? ⟨w2.heap.size,5,none⟩=some .nilIface:=zcR N5.out
  have f5:=frozen_of_row _ _ 5 _ _ N5.out
  clear hk h r P4 K4 N4
  go_wp2_with fail
  -- 'in'
  have N5b:Hid ((w5.setCell ⟨w2.heap.size,5,none⟩ (.iface T1 (.pointer (some ⟨b1,0,none⟩)))).heap[w2.heap.size]? = some (.cells #[.int .i64 0,.int .i64 0,.bool (rc==4),ug bn,.int .i64 bat,.iface T1 (.pointer (some ⟨b1,0,none⟩)),.nilIface] 140 (0,0))):=by
    show _=_
    rw [heap_setCell_same _ _ _ _ _ _ N5.out]; rfl
  have P5b:=P5.out.setOther w2.heap.size 5 (.iface T1 (.pointer (some ⟨b1,0,none⟩))) (by omega) (by omega)
  have K5b:=K5.out.setNew w2.heap.size 5 (.iface T1 (.pointer (some ⟨b1,0,none⟩))) (by omega)
  have R5b:=R5.out.set (b:=w2.heap.size) (j:=5) (lo':=w4.heap.size) (.iface T1 (.pointer (some ⟨b1,0,none⟩))) (.inl (by omega)) (znL _) (znL _)
  refine (zb4 P5b _ H6.out).mono ?_
  rintro e w6 ⟨rfl,hk,h⟩
  have P6:Hid (PCtx w6 bp gt cap cur s ts st6):=h
  have K6:Hid (Keep bp w w6):=K5b.trans hk
  have z6:w5.heap.size<=w6.heap.size:=by have:=hk.size; simpa using this
  have N6:Hid (w6.heap[w2.heap.size]? = some (.cells #[.int .i64 0,.int .i64 0,.bool (rc==4),ug bn,.int .i64 bat,.iface T1 (.pointer (some ⟨b1,0,none⟩)),.nilIface] 140 (0,0))):=hk.at N5b.out (by omega)
  have R6:Hid (Rep w6 w4.heap.size w5.heap.size d (.iface T1 (.pointer (some ⟨b1,0,none⟩)))):=R5b.keep hk (by omega) (znL _) (znL _)
  clear hk h P5b K5b R5b N5b N5 P5 K5 R5 c5 f5
  go_wp2_with fail
  -- the body
  refine (hE P6.out H7.out).mono ?_
  rintro e w7 ⟨v,rfl,hk,h,r⟩
  have P7:Hid (PCtx w7 bp gt cap cur s ts st7):=h
  have K7:Hid (Keep bp w w7):=K6.out.trans hk
  have z7:w6.heap.size<=w7.heap.size:=hk.size
  have N7:Hid (w7.heap[w2.heap.size]? = some (.cells #[.int .i64 0,.int .i64 0,.bool (rc==4),ug bn,.int .i64 bat,.iface T1 (.pointer (some ⟨b1,0,none⟩)),.nilIface] 140 (0,0))):=hk.at N6.out (by omega)
  have R7d:Hid (Rep w7 w4.heap.size w5.heap.size d (.iface T1 (.pointer (some ⟨b1,0,none⟩)))):=R6.out.keep hk (by omega) (znL _) (znL _)
  obtain ⟨b2,_,_,hv,_,_⟩:=r.node
  generalize ptrT x=T2 at hv
  subst hv
  have R7:Hid (Rep w7 w6.heap.size w7.heap.size x (.iface T2 (.pointer (some ⟨b2,0,none⟩)))):=r
  have c6:w7.cell? ⟨w2.heap.size,6,none⟩=some .nilIface:=zcR N7.out
  have f6:=frozen_of_row _ _ 6 _ _ N7.out
  clear hk h r P6 K6 N6 R6
  go_wp2_with fail
  -- the span
  have N7b:Hid ((w7.setCell ⟨w2.heap.size,6,none⟩ (.iface T2 (.pointer (some ⟨b2,0,none⟩)))).heap[w2.heap.size]? = some (.cells #[.int .i64 0,.int .i64 0,.bool (rc==4),ug bn,.int .i64 bat,.iface T1 (.pointer (some ⟨b1,0,none⟩)),.iface T2 (.pointer (some ⟨b2,0,none⟩))] 140 (0,0))):=by
    show _=_
    rw [heap_setCell_same _ _ _ _ _ _ N7.out]; rfl
  have P7b:=P7.out.setOther w2.heap.size 6 (.iface T2 (.pointer (some ⟨b2,0,none⟩))) (by omega) (by omega)
  have K7b:=K7.out.setNew w2.heap.size 6 (.iface T2 (.pointer (some ⟨b2,0,none⟩))) (by omega)
  have R7db:=R7d.out.set (b:=w2.heap.size) (j:=6) (lo':=w4.heap.size) (.iface T2 (.pointer (some ⟨b2,0,none⟩))) (.inl (by omega)) (znL _) (znL _)
  have R7b:=R7.out.set (b:=w2.heap.size) (j:=6) (lo':=w6.heap.size) (.iface T2 (.pointer (some ⟨b2,0,none⟩))) (.inl (by omega)) (znL _) (znL _)
  refine (zge _ _ R7b).mono ?_
  rintro e w8 ⟨rfl,hg⟩
  have P8:Hid (PCtx w8 bp gt cap cur s ts st7):=P7b.kept hg
  have K8:Hid (Keep bp w w8):=K7b.trans (Keep.of_none hg)
  have N8:Hid (w8.heap[w2.heap.size]? = some (.cells #[.int .i64 0,.int .i64 0,.bool (rc==4),ug bn,.int .i64 bat,.iface T1 (.pointer (some ⟨b1,0,none⟩)),.iface T2 (.pointer (some ⟨b2,0,none⟩))] 140 (0,0))):=(Keep.of_none (bp:=bp) hg).at N7b.out (by omega)
  have R8d:Hid (Rep w8 w4.heap.size w5.heap.size d (.iface T1 (.pointer (some ⟨b1,0,none⟩)))):=R7db.grown hg (znL _) (znL _)
  have R8:Hid (Rep w8 w6.heap.size w7.heap.size x (.iface T2 (.pointer (some ⟨b2,0,none⟩)))):=R7b.grown hg (znL _) (znL _)
  have z8:w7.heap.size<=w8.heap.size:=by have:=hg.size; simpa using this
  have d0:w8.cell? ⟨w2.heap.size,0,none⟩=some (.int .i64 0):=zcR N8.out
  have d1:w8.cell? ⟨w2.heap.size,1,none⟩=some (.int .i64 0):=zcR N8.out
  have g0:=frozen_of_row _ _ 0 _ _ N8.out
  have g1:=frozen_of_row _ _ 1 _ _ N8.out
  clear hg P7b K7b R7b R7db N7b N7 P7 K7 R7 R7d c6 f6
  go_wp2_with fail
  refine leaves_cons (f:=202) (args:=#[.pointer (some ⟨bp,0,none⟩)]) (by simp) (by simp [go_sem]) ?_
  refine (zfg ((P8.out.setOther _ _ _ (by omega) (by omega)).setOther _ _ _ (by omega) (by omega)) .returning H8.out).mono ?_
  rintro e u' w9 ⟨rfl,rfl,hk9,h9⟩
  refine ⟨_,results_tmp rfl _ _ _,?_⟩
  go_light
  have N9:((w8.setCell ⟨w2.heap.size,0,none⟩ (.int .i64 bfr)).setCell ⟨w2.heap.size,1,none⟩ (.int .i64 x.to)).heap[w2.heap.size]? = some (.cells #[.int .i64 bfr,.int .i64 x.to,.bool (rc==4),ug bn,.int .i64 bat,.iface T1 (.pointer (some ⟨b1,0,none⟩)),.iface T2 (.pointer (some ⟨b2,0,none⟩))] 140 (0,0)):=by
    rw [heap_setCell_same _ _ _ _ _ _ (heap_setCell_same _ _ _ _ _ _ N8.out)]; rfl
  refine ⟨_,rfl,((K8.out.setNew _ _ _ (by omega)).setNew _ _ _ (by omega)).trans hk9,h9,?_⟩
  have z9:=hk9.size
  simp at z9
  exact ⟨_,_,⟨w2.heap.size,by omega,by omega,rfl,hk9.at N9 (by omega)⟩,((R8d.out.set _ (.inl (by omega)) (znL _) (znL _)).set _ (.inl (by omega)) (znL _) (znL _)).keep hk9 (by omega) (by omega) (by omega),((R8.out.set _ (.inl (by omega)) (znL _) (znL _)).set _ (.inl (by omega)) (znL _) (znL _)).keep hk9 (by omega) (by omega) (by omega)⟩
open Go.RowKit
theorem zzz {n:Nat} (hE:zbr 81 Tw.za6 n) :
  zbr 158 Tw.zco (n+1):=by
 intro w bp gt cap cur s ts st t st' h hf0
 rw [Tw.zco] at hf0
 obtain ⟨⟨bfr,st1⟩,hb,hf1⟩:=zbE.1 hf0
 obtain ⟨⟨c,st2⟩,hc,hf2⟩:=zbE.1 hf1
 obtain ⟨⟨ta,st3⟩,ha,hf3⟩:=zbE.1 hf2
 obtain ⟨⟨x,st4⟩,hx,hf4⟩:=zbE.1 hf3
 obtain ⟨⟨tb,st5⟩,hb5,hf5⟩:=zbE.1 hf4
 obtain ⟨⟨y,st6⟩,hy,hf6⟩:=zbE.1 hf5
 obtain ⟨st7,he,hf7⟩:=zbE.1 hf6
 clear hf0 hf1 hf2 hf3 hf4 hf5 hf6
 simp only [zsI,zpI] at hf7
 obtain ⟨rfl,rfl⟩:=hf7
 simp only at hc ha hx hb5 hy he
 have HH:Hid (PCtx w bp gt cap cur s ts st):=h
 have H1:Hid (Tw.zce ts 7 st=some (bfr,st1)):=hb
 have H2:Hid (Tw.za6 s.data.toList ts n st1=some (c,st2)):=hc
 have H3:Hid (Tw.zbe ts 8 st2=some (ta,st3)):=ha
 have H4:Hid (Tw.za6 s.data.toList ts n st3=some (x,st4)):=hx
 have H5:Hid (Tw.zbe ts 9 st4=some (tb,st5)):=hb5
 have H6:Hid (Tw.za6 s.data.toList ts n st5=some (y,st6)):=hy
 have H7:Hid (Tw.endS st6=some st7):=he
 have hbp:=h.zeo
 have hgt:=h.zff
 clear h hb hc ha hx hb5 hy he
 go_enter_defers Tryz.func158,Tryz.ntmps158
 go_wp2_with fail
 refine (zio HH.out _ H1.out).mono ?_
 rintro e w1 ⟨rfl,hk,h⟩
 have P1:Hid (PCtx w1 bp gt cap cur s ts st1):=h
 have K1:Hid (Keep bp w w1):=hk
 have z1:w.heap.size<=w1.heap.size:=hk.size
 clear hk h
 go_wp2_with fail
 -- the truth
 refine (hE P1.out H2.out).mono ?_
 rintro e w2 ⟨v,rfl,hk,h,r⟩
 have P2:Hid (PCtx w2 bp gt cap cur s ts st2):=h
 have K2:Hid (Keep bp w w2):=K1.out.trans hk
 have z2:w1.heap.size<=w2.heap.size:=hk.size
 obtain ⟨b1,_,_,hv,_,_⟩:=r.node
 generalize ptrT c=T1 at hv
 subst hv
 have R2:Hid (Rep w2 w1.heap.size w2.heap.size c (.iface T1 (.pointer (some ⟨b1,0,none⟩)))):=r
 clear hk h r P1 K1
 go_wp2_with fail
 refine (zb4 (P2.out.alloc _) _ H3.out).mono ?_
 rintro e w3 ⟨rfl,hk,h⟩
 have P3:Hid (PCtx w3 bp gt cap cur s ts st3):=h
 have K3:Hid (Keep bp w w3):=(K2.out.alloc _).trans hk
 have z3:w2.heap.size<w3.heap.size:=by have:=hk.size; simp at this; omega
 have N3:Hid (w3.heap[w2.heap.size]? = some (.cells #[.int .i64 0,.int .i64 0,.iface T1 (.pointer (some ⟨b1,0,none⟩)),.nilIface,.nilIface] 326 (0,0))):=hk.at (zad w2 _) (by omega)
 have R3:Hid (Rep w3 w1.heap.size w2.heap.size c (.iface T1 (.pointer (some ⟨b1,0,none⟩)))):=(R2.out.grown (zwA w2 _ none) (znL _) (znL _)).keep hk (by omega) (znL _) (znL _)
 clear hk h P2 K2 R2
 go_wp2_with fail
 -- then
 refine (hE P3.out H4.out).mono ?_
 rintro e w4 ⟨v,rfl,hk,h,r⟩
 have P4:Hid (PCtx w4 bp gt cap cur s ts st4):=h
 have K4:Hid (Keep bp w w4):=K3.out.trans hk
 have z4:w3.heap.size<=w4.heap.size:=hk.size
 have N4:Hid (w4.heap[w2.heap.size]? = some (.cells #[.int .i64 0,.int .i64 0,.iface T1 (.pointer (some ⟨b1,0,none⟩)),.nilIface,.nilIface] 326 (0,0))):=hk.at N3.out (by omega)
 have R4c:Hid (Rep w4 w1.heap.size w2.heap.size c (.iface T1 (.pointer (some ⟨b1,0,none⟩)))):=R3.out.keep hk (by omega) (znL _) (znL _)
 obtain ⟨b2,_,_,hv,_,_⟩:=r.node
 generalize ptrT x=T2 at hv
 subst hv
 have R4:Hid (Rep w4 w3.heap.size w4.heap.size x (.iface T2 (.pointer (some ⟨b2,0,none⟩)))):=r
 have c3:w4.cell? ⟨w2.heap.size,3,none⟩=some .nilIface:=zcR N4.out
 have f3:=frozen_of_row _ _ 3 _ _ N4.out
 clear hk h r P3 K3 N3 R3
 go_wp2_with fail
 have N4b:Hid ((w4.setCell ⟨w2.heap.size,3,none⟩ (.iface T2 (.pointer (some ⟨b2,0,none⟩)))).heap[w2.heap.size]? = some (.cells #[.int .i64 0,.int .i64 0,.iface T1 (.pointer (some ⟨b1,0,none⟩)),.iface T2 (.pointer (some ⟨b2,0,none⟩)),.nilIface] 326 (0,0))):=by
  show _=_
  rw [heap_setCell_same _ _ _ _ _ _ N4.out]; rfl
 have P4b:=P4.out.setOther w2.heap.size 3 (.iface T2 (.pointer (some ⟨b2,0,none⟩))) (by omega) (by omega)
 have K4b:=K4.out.setNew w2.heap.size 3 (.iface T2 (.pointer (some ⟨b2,0,none⟩))) (by omega)
 have R4b:=R4.out.set (b:=w2.heap.size) (j:=3) (lo':=w3.heap.size) (.iface T2 (.pointer (some ⟨b2,0,none⟩))) (.inl (by omega)) (znL _) (znL _)
 have R4cb:=R4c.out.set (b:=w2.heap.size) (j:=3) (lo':=w1.heap.size) (.iface T2 (.pointer (some ⟨b2,0,none⟩))) (.inr (by omega)) (znL _) (znL _)
 refine (zb4 P4b _ H5.out).mono ?_
 rintro e w5 ⟨rfl,hk,h⟩
 have P5:Hid (PCtx w5 bp gt cap cur s ts st5):=h
 have K5:Hid (Keep bp w w5):=K4b.trans hk
 have z5:w4.heap.size<=w5.heap.size:=by have:=hk.size; simpa using this
 have N5:Hid (w5.heap[w2.heap.size]? = some (.cells #[.int .i64 0,.int .i64 0,.iface T1 (.pointer (some ⟨b1,0,none⟩)),.iface T2 (.pointer (some ⟨b2,0,none⟩)),.nilIface] 326 (0,0))):=hk.at N4b.out (by omega)
 have R5:Hid (Rep w5 w3.heap.size w4.heap.size x (.iface T2 (.pointer (some ⟨b2,0,none⟩)))):=R4b.keep hk (by omega) (znL _) (znL _)
 have R5c:Hid (Rep w5 w1.heap.size w2.heap.size c (.iface T1 (.pointer (some ⟨b1,0,none⟩)))):=R4cb.keep hk (by omega) (znL _) (znL _)
 clear hk h P4b K4b R4b R4cb N4b N4 P4 K4 R4 R4c c3 f3
 go_wp2_with fail
 -- else
 refine (hE P5.out H6.out).mono ?_
 rintro e w6 ⟨v,rfl,hk,h,r⟩
 have P6:Hid (PCtx w6 bp gt cap cur s ts st6):=h
 have K6:Hid (Keep bp w w6):=K5.out.trans hk
 have z6:w5.heap.size<=w6.heap.size:=hk.size
 have N6:Hid (w6.heap[w2.heap.size]? = some (.cells #[.int .i64 0,.int .i64 0,.iface T1 (.pointer (some ⟨b1,0,none⟩)),.iface T2 (.pointer (some ⟨b2,0,none⟩)),.nilIface] 326 (0,0))):=hk.at N5.out (by omega)
 have R6x:Hid (Rep w6 w3.heap.size w4.heap.size x (.iface T2 (.pointer (some ⟨b2,0,none⟩)))):=R5.out.keep hk (by omega) (znL _) (znL _)
 have R6c:Hid (Rep w6 w1.heap.size w2.heap.size c (.iface T1 (.pointer (some ⟨b1,0,none⟩)))):=R5c.out.keep hk (by omega) (znL _) (znL _)
 obtain ⟨b3,_,_,hv,_,_⟩:=r.node
 generalize ptrT y=T3 at hv
 subst hv
 have R6:Hid (Rep w6 w5.heap.size w6.heap.size y (.iface T3 (.pointer (some ⟨b3,0,none⟩)))):=r
 have c4:w6.cell? ⟨w2.heap.size,4,none⟩=some .nilIface:=zcR N6.out
 have f4:=frozen_of_row _ _ 4 _ _ N6.out
 clear hk h r P5 K5 N5 R5 R5c
 go_wp2_with fail
 have N6b:Hid ((w6.setCell ⟨w2.heap.size,4,none⟩ (.iface T3 (.pointer (some ⟨b3,0,none⟩)))).heap[w2.heap.size]? = some (.cells #[.int .i64 0,.int .i64 0,.iface T1 (.pointer (some ⟨b1,0,none⟩)),.iface T2 (.pointer (some ⟨b2,0,none⟩)),.iface T3 (.pointer (some ⟨b3,0,none⟩))] 326 (0,0))):=by
  show _=_
  rw [heap_setCell_same _ _ _ _ _ _ N6.out]; rfl
 have P6b:=P6.out.setOther w2.heap.size 4 (.iface T3 (.pointer (some ⟨b3,0,none⟩))) (by omega) (by omega)
 have K6b:=K6.out.setNew w2.heap.size 4 (.iface T3 (.pointer (some ⟨b3,0,none⟩))) (by omega)
 have R6b:=R6.out.set (b:=w2.heap.size) (j:=4) (lo':=w5.heap.size) (.iface T3 (.pointer (some ⟨b3,0,none⟩))) (.inl (by omega)) (znL _) (znL _)
 have R6xb:=R6x.out.set (b:=w2.heap.size) (j:=4) (lo':=w3.heap.size) (.iface T3 (.pointer (some ⟨b3,0,none⟩))) (.inl (by omega)) (znL _) (znL _)
 have R6cb:=R6c.out.set (b:=w2.heap.size) (j:=4) (lo':=w1.heap.size) (.iface T3 (.pointer (some ⟨b3,0,none⟩))) (.inr (by omega)) (znL _) (znL _)
 refine (zge _ _ R6b).mono ?_
 rintro e w7 ⟨rfl,hg⟩
 have P7:Hid (PCtx w7 bp gt cap cur s ts st6):=P6b.kept hg
 have K7:Hid (Keep bp w w7):=K6b.trans (Keep.of_none hg)
 have N7:Hid (w7.heap[w2.heap.size]? = some (.cells #[.int .i64 0,.int .i64 0,.iface T1 (.pointer (some ⟨b1,0,none⟩)),.iface T2 (.pointer (some ⟨b2,0,none⟩)),.iface T3 (.pointer (some ⟨b3,0,none⟩))] 326 (0,0))):=(Keep.of_none (bp:=bp) hg).at N6b.out (by omega)
 have R7:Hid (Rep w7 w5.heap.size w6.heap.size y (.iface T3 (.pointer (some ⟨b3,0,none⟩)))):=R6b.grown hg (znL _) (znL _)
 have R7x:Hid (Rep w7 w3.heap.size w4.heap.size x (.iface T2 (.pointer (some ⟨b2,0,none⟩)))):=R6xb.grown hg (znL _) (znL _)
 have R7c:Hid (Rep w7 w1.heap.size w2.heap.size c (.iface T1 (.pointer (some ⟨b1,0,none⟩)))):=R6cb.grown hg (znL _) (znL _)
 have z7:w6.heap.size<=w7.heap.size:=by have:=hg.size; simpa using this
 have d0:w7.cell? ⟨w2.heap.size,0,none⟩=some (.int .i64 0):=zcR N7.out
 have d1:w7.cell? ⟨w2.heap.size,1,none⟩=some (.int .i64 0):=zcR N7.out
 have g0:=frozen_of_row _ _ 0 _ _ N7.out
 have g1:=frozen_of_row _ _ 1 _ _ N7.out
 clear hg P6b K6b R6b R6xb R6cb N6b N6 P6 K6 R6 R6x R6c c4 f4
 go_wp2_with fail
 refine leaves_cons (f:=202) (args:=#[.pointer (some ⟨bp,0,none⟩)]) (by simp) (by simp [go_sem]) ?_
 refine (zfg ((P7.out.setOther _ _ _ (by omega) (by omega)).setOther _ _ _ (by omega) (by omega)) .returning H7.out).mono ?_
 rintro e u' w9 ⟨rfl,rfl,hk9,h9⟩
 refine ⟨_,results_tmp rfl _ _ _,?_⟩
 go_light
 have N9:((w7.setCell ⟨w2.heap.size,0,none⟩ (.int .i64 bfr)).setCell ⟨w2.heap.size,1,none⟩ (.int .i64 y.to)).heap[w2.heap.size]? = some (.cells #[.int .i64 bfr,.int .i64 y.to,.iface T1 (.pointer (some ⟨b1,0,none⟩)),.iface T2 (.pointer (some ⟨b2,0,none⟩)),.iface T3 (.pointer (some ⟨b3,0,none⟩))] 326 (0,0)):=by
  rw [heap_setCell_same _ _ _ _ _ _ (heap_setCell_same _ _ _ _ _ _ N7.out)]; rfl
 refine ⟨_,rfl,((K7.out.setNew _ _ _ (by omega)).setNew _ _ _ (by omega)).trans hk9,h9,?_⟩
 have z9:=hk9.size
 simp at z9
 exact ⟨_,_,_,⟨w2.heap.size,by omega,by omega,rfl,hk9.at N9 (by omega)⟩,
  ((R7c.out.set _ (.inr (by omega)) (znL _) (znL _)).set _ (.inr (by omega)) (znL _) (znL _)).keep hk9 (by omega) (by omega) (by omega),
  ((R7x.out.set _ (.inl (by omega)) (znL _) (znL _)).set _ (.inl (by omega)) (znL _) (znL _)).keep hk9 (by omega) (by omega) (by omega),
  ((R7.out.set _ (.inl (by omega)) (znL _) (znL _)).set _ (.inl (by omega)) (znL _) (znL _)).keep hk9 (by omega) (by omega) (by omega)⟩
open Go.RowKit
theorem yb7 {n:Nat} (hS:zbr 206 Tw.sumS n) :
  zbr 159 Tw.cmpS (n+1):=by
 intro w bp gt cap cur s ts st t st' h hf0
 rw [Tw.cmpS] at hf0
 obtain ⟨⟨a,st1⟩,ha,hf1⟩:=zbE.1 hf0
 obtain ⟨⟨sg,st2⟩,hsg,hf2⟩:=zbE.1 hf1
 clear hf0 hf1
 simp only at hsg hf2
 have HH:Hid (PCtx w bp gt cap cur s ts st):=h
 have H1:Hid (Tw.sumS s.data.toList ts n st=some (a,st1)):=ha
 have H2:Hid (Tw.zao ts [23,15] st1=some (sg,st2)):=hsg
 have hbp:=h.zeo
 clear h ha hsg
 by_cases hz:sg=0
 ·rw [if_pos hz] at hf2
  simp only [zsI,zpI] at hf2
  obtain ⟨rfl,rfl⟩:=hf2
  have bz:(sg != 0)=false:=by simp [hz]
  clear hz
  go_enter Tryz.func159,Tryz.ntmps159
  go_wp2_with fail
  refine (hS HH.out H1.out).mono ?_
  rintro e w1 ⟨v,rfl,hk,h,r⟩
  have P1:Hid (PCtx w1 bp gt cap cur s ts st1):=h
  have K1:Hid (Keep bp w w1):=hk
  have R1:Hid (Rep w1 w.heap.size w1.heap.size a v):=r
  have z1:=hk.size
  clear hk h r
  go_wp2_with fail
  refine (zv9 P1.out 23 15 H2.out).mono ?_
  rintro e w2 ⟨rfl,⟨hk,hz⟩,h⟩
  have X:Hid (Keep bp w w2/\PCtx w2 bp gt cap cur s ts st2/\Rep w2 w.heap.size w2.heap.size a v):=⟨K1.out.trans hk,h,R1.out.keep hk hbp (znL _) (by omega)⟩
  clear hk h hz
  go_wp2_with fail
  go_ret
  exact ⟨_,rfl,X.out⟩
 ·rw [if_neg hz] at hf2
  obtain ⟨⟨b,st3⟩,hb,hf3⟩:=zbE.1 hf2
  clear hf2
  simp only [zsI,zpI] at hf3
  obtain ⟨rfl,rfl⟩:=hf3
  have H3:Hid (Tw.sumS s.data.toList ts n st2=some (b,st3)):=hb
  have bz:(sg != 0)=true:=by simp [hz]
  clear hz hb
  go_enter Tryz.func159,Tryz.ntmps159
  go_wp2_with fail
  refine (hS HH.out H1.out).mono ?_
  rintro e w1 ⟨v,rfl,hk,h,r⟩
  have P1:Hid (PCtx w1 bp gt cap cur s ts st1):=h
  have K1:Hid (Keep bp w w1):=hk
  have R1:Hid (Rep w1 w.heap.size w1.heap.size a v):=r
  have z1:=hk.size
  clear hk h r
  go_wp2_with fail
  refine (zv9 P1.out 23 15 H2.out).mono ?_
  rintro e w2 ⟨rfl,⟨hk,hz⟩,h⟩
  have P2:Hid (PCtx w2 bp gt cap cur s ts st2):=h
  have K2:Hid (Keep bp w w2):=K1.out.trans hk
  have R2:Hid (Rep w2 w.heap.size w1.heap.size a v):=R1.out.keep hk hbp (znL _) (znL _)
  clear hk h
  go_wp2_with fail
  refine (hS P2.out H3.out).mono ?_
  rintro e w3 ⟨v2,rfl,hk,h,r⟩
  have P3:Hid (PCtx w3 bp gt cap cur s ts st3):=h
  have K3:Hid (Keep bp w w3):=K2.out.trans hk
  have z3:=hk.size
  have R3:Hid (Rep w3 w.heap.size w3.heap.size a v):=R2.out.keep hk hbp (znL _) (by omega)
  have R3b:Hid (Rep w3 w.heap.size w3.heap.size b v2):=r.wide (by omega) (znL _)
  clear hk h r
  go_wp2_with fail
  refine (zl1 w3 sg R3.out R3b.out (by omega) (znL _)).mono ?_
  rintro e w4 ⟨v3,rfl,hg,r⟩
  have X:Hid (Keep bp w w4/\PCtx w4 bp gt cap cur s ts st3/\Rep w4 w.heap.size w4.heap.size (.binary a.fr b.to sg a b) v3):=⟨K3.out.trans (Keep.of_none hg),P3.out.kept hg,r⟩
  clear hg r
  go_wp2_with fail
  go_ret
  exact ⟨_,rfl,X.out⟩
end Go.Proofs.YtckhafpejefbbaaGreatDoor
