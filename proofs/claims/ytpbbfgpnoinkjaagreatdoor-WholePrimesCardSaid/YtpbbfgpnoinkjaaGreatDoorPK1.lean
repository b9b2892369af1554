import Derived.Test.YtpbbfgpnoinkjaaGreatDoorK0
set_option linter.unusedVariables false
set_option linter.unusedSimpArgs false
set_option maxRecDepth 100000
namespace Go.Proofs.YtpbbfgpnoinkjaaGreatDoor.Cn
open Go Go.AE Seg
noncomputable abbrev hk0 := asHook
noncomputable def nest0 := acallD Tryz.prog 5 hk0 1000000 12
noncomputable def dr0 := adrawC Tryz.prog 5 (retOf nest0)
noncomputable def stp0 := bstep Tryz.prog 5 hk0 nest0 dr0
noncomputable abbrev go0 (n : Nat) (s : AS) : Option AS := iter stp0 n s
noncomputable def ta0 : Array Value := #[]
noncomputable def tv0 : Value := (.bool true)
end Go.Proofs.YtpbbfgpnoinkjaaGreatDoor.Cn
set_option maxRecDepth 100000
namespace Go.Proofs.YtpbbfgpnoinkjaaGreatDoor.Cn
open Go Go.AE Seg
noncomputable def cf0 : Frame := ⟨100,(List.toArray ((.pointer (some ⟨54,0,none⟩))::(.pointer (some ⟨55,0,none⟩))::(.pointer (some ⟨56,0,none⟩))::(str [])::(str [51])::(str [49,48,48])::(str [55])::undef::[])),[.inRegion (rg Tryz.f100 [1,0]) [3,4],.code .ret],[],.run,.normal,none⟩
noncomputable def cf1 : Frame := ⟨71,(List.toArray ((.func (.func 100) #[] #[(.pointer (some ⟨54,0,none⟩)),(.pointer (some ⟨55,0,none⟩)),(.pointer (some ⟨56,0,none⟩))])::undef::(str [])::(.pointer (some ⟨57,0,none⟩))::(.func (.func 122) #[] #[(.pointer (some ⟨57,0,none⟩))])::(.func (.func 100) #[] #[(.pointer (some ⟨54,0,none⟩)),(.pointer (some ⟨55,0,none⟩)),(.pointer (some ⟨56,0,none⟩))])::undef::[])),[.inRegion (rg Tryz.f71 [1,1,0]) [1,2,3],.code .ret],[⟨(.fn (.func 122) #[(.pointer (some ⟨57,0,none⟩))]),#[]⟩],.run,.normal,none⟩
noncomputable def cf2 : Frame := ⟨49,(List.toArray ((str [51])::(str [49,48,48])::(str [55])::(.pointer (some ⟨54,0,none⟩))::(.pointer (some ⟨55,0,none⟩))::(.pointer (some ⟨56,0,none⟩))::(str [])::(.int .i64 (.ofNat 0))::(.func (.func 100) #[] #[(.pointer (some ⟨54,0,none⟩)),(.pointer (some ⟨55,0,none⟩)),(.pointer (some ⟨56,0,none⟩))])::un 3 ([]))),[.inRegion (rg Tryz.f49 [1,0]) [1,2,3,4,5],.code .ret],[],.run,.normal,none⟩
noncomputable def cf3 : Frame := ⟨15,(List.toArray ((.bool false)::(str [45,56,51,56,49,48,50,48,53])::(.int .i64 (.ofNat 0))::(str [45,52])::(str [49])::(.int .i64 (.ofNat 0))::(str [54])::(str [50])::(str [45,49])::(.int .i64 (.ofNat 0))::un 8 ((.tuple #[(str [45,56,51,56,49,48,50,48,53]),(.int .i64 (.ofNat 0))])::(.tuple #[(str [45,56,51,56,49,48,50,48,53]),(.int .i64 (.ofNat 0))])::(str [45,56,51,56,49,48,50,48,53])::(.int .i64 (.ofNat 0))::(.tuple #[(str [45,52]),(str [49]),(.int .i64 (.ofNat 0))])::(.tuple #[(str [45,52]),(str [49]),(.int .i64 (.ofNat 0))])::(str [45,52])::(str [49])::(.int .i64 (.ofNat 0))::(.tuple #[(str [54]),(str [50]),(str [45,49]),(.int .i64 (.ofNat 0))])::(.tuple #[(str [54]),(str [50]),(str [45,49]),(.int .i64 (.ofNat 0))])::(str [54])::(str [50])::(str [45,49])::(.int .i64 (.ofNat 0))::un 83 ([])))),[.inRegion (rg Tryz.f15 [1,1,1,1,0]) [0,1,2,3,4,5],.code (cd Tryz.f15 [1,1,1,1,1])],[],.run,.normal,none⟩
noncomputable def cf4 : Frame := ⟨102,(List.toArray ((.pointer (some ⟨234,0,none⟩))::(.pointer (some ⟨235,0,none⟩))::(str [])::(str [57,57])::(.int .i64 (.ofNat 2))::undef::[])),[.inRegion (rg Tryz.f102 [1,0]) [2,3],.code .ret],[],.run,.normal,none⟩
noncomputable def cf5 : Frame := ⟨71,(List.toArray ((.func (.func 102) #[] #[(.pointer (some ⟨234,0,none⟩)),(.pointer (some ⟨235,0,none⟩))])::undef::(str [])::(.pointer (some ⟨236,0,none⟩))::(.func (.func 122) #[] #[(.pointer (some ⟨236,0,none⟩))])::(.func (.func 102) #[] #[(.pointer (some ⟨234,0,none⟩)),(.pointer (some ⟨235,0,none⟩))])::undef::[])),[.inRegion (rg Tryz.f71 [1,1,0]) [1,2,3],.code .ret],[⟨(.fn (.func 122) #[(.pointer (some ⟨236,0,none⟩))]),#[]⟩],.run,.normal,none⟩
noncomputable def cf6 : Frame := ⟨51,(List.toArray ((str [57,57])::(.int .i64 (.ofNat 2))::(.pointer (some ⟨234,0,none⟩))::(.pointer (some ⟨235,0,none⟩))::(str [])::(.int .i64 (.ofNat 0))::(.func (.func 102) #[] #[(.pointer (some ⟨234,0,none⟩)),(.pointer (some ⟨235,0,none⟩))])::un 3 ([]))),[.inRegion (rg Tryz.f51 [1,0]) [1,2,3,4,5],.code .ret],[],.run,.normal,none⟩
noncomputable def cf7 : Frame := ⟨15,(List.toArray ((.bool false)::(str [45,56,51,56,49,48,50,48,53])::(.int .i64 (.ofNat 0))::(str [45,52])::(str [49])::(.int .i64 (.ofNat 0))::(str [54])::(str [50])::(str [45,49])::(.int .i64 (.ofNat 0))::(str [52])::(.int .i64 (.ofNat 0))::(str [45,102,102])::(.int .i64 (.ofNat 0))::(.slice (some ⟨233,0,none⟩) 6 0)::(.int .i64 (.ofNat 0))::un 2 ((.tuple #[(str [45,56,51,56,49,48,50,48,53]),(.int .i64 (.ofNat 0))])::(.tuple #[(str [45,56,51,56,49,48,50,48,53]),(.int .i64 (.ofNat 0))])::(str [45,56,51,56,49,48,50,48,53])::(.int .i64 (.ofNat 0))::(.tuple #[(str [45,52]),(str [49]),(.int .i64 (.ofNat 0))])::(.tuple #[(str [45,52]),(str [49]),(.int .i64 (.ofNat 0))])::(str [45,52])::(str [49])::(.int .i64 (.ofNat 0))::(.tuple #[(str [54]),(str [50]),(str [45,49]),(.int .i64 (.ofNat 0))])::(.tuple #[(str [54]),(str [50]),(str [45,49]),(.int .i64 (.ofNat 0))])::(str [54])::(str [50])::(str [45,49])::(.int .i64 (.ofNat 0))::(.tuple #[(str [52]),(.int .i64 (.ofNat 0))])::(.tuple #[(str [52]),(.int .i64 (.ofNat 0))])::(str [52])::(.int .i64 (.ofNat 0))::(.tuple #[(str [45,102,102]),(.int .i64 (.ofNat 0))])::(.tuple #[(str [45,102,102]),(.int .i64 (.ofNat 0))])::(str [45,102,102])::(.int .i64 (.ofNat 0))::(.tuple #[(.slice (some ⟨233,0,none⟩) 6 0),(.int .i64 (.ofNat 0))])::(.tuple #[(.slice (some ⟨233,0,none⟩) 6 0),(.int .i64 (.ofNat 0))])::(.slice (some ⟨233,0,none⟩) 6 0)::(.int .i64 (.ofNat 0))::un 71 ([])))),[.inRegion (rg Tryz.f15 [1,1,1,1,1,1,1,0]) [0,1,2,3,4,5],.code (cd Tryz.f15 [1,1,1,1,1,1,1,1])],[],.run,.normal,none⟩
noncomputable def ob0 : AObj := (.cells [(str [45,49,50,51,52,53])] 9 none false)
noncomputable def ob1 : AObj := (.cells [(str [54,55,56,57])] 9 none false)
noncomputable def ob2 : AObj := (.cells [(.int .i64 (.ofNat 0))] 28 none false)
noncomputable def ob3 : AObj := (.cells [(str [45,49,50,51,52,53]),(str [54,55,56,57])] 9 none false)
noncomputable def ob4 : AObj := (.cells [(.int .u8 (.ofNat 45)),(.int .u8 (.ofNat 56)),(.int .u8 (.ofNat 51)),(.int .u8 (.ofNat 56)),(.int .u8 (.ofNat 49)),(.int .u8 (.ofNat 48)),(.int .u8 (.ofNat 50)),(.int .u8 (.ofNat 48)),(.int .u8 (.ofNat 53)),(.int .u8 (.ofNat 0)),(.int .u8 (.ofNat 0)),(.int .u8 (.ofNat 0)),(.int .u8 (.ofNat 0)),(.int .u8 (.ofNat 0)),(.int .u8 (.ofNat 0)),(.int .u8 (.ofNat 0)),(.int .u8 (.ofNat 0)),(.int .u8 (.ofNat 0)),(.int .u8 (.ofNat 0)),(.int .u8 (.ofNat 0)),(.int .u8 (.ofNat 0)),(.int .u8 (.ofNat 0)),(.int .u8 (.ofNat 0)),(.int .u8 (.ofNat 0))] 236 none false)
noncomputable def ob5 : AObj := (.cells [(str []),(str [])] 64 none false)
noncomputable def ob6 : AObj := (.cells [(str [45,55]),(str [50])] 9 none false)
noncomputable def ob7 : AObj := (.cells [(str [45,52]),(str [49])] 64 none false)
noncomputable def ob8 : AObj := (.cells [(.int .u8 (.ofNat 45)),(.int .u8 (.ofNat 52)),(.int .u8 (.ofNat 0)),(.int .u8 (.ofNat 0)),(.int .u8 (.ofNat 0)),(.int .u8 (.ofNat 0)),(.int .u8 (.ofNat 0)),(.int .u8 (.ofNat 0)),(.int .u8 (.ofNat 0)),(.int .u8 (.ofNat 0)),(.int .u8 (.ofNat 0)),(.int .u8 (.ofNat 0)),(.int .u8 (.ofNat 0)),(.int .u8 (.ofNat 0)),(.int .u8 (.ofNat 0)),(.int .u8 (.ofNat 0)),(.int .u8 (.ofNat 0)),(.int .u8 (.ofNat 0)),(.int .u8 (.ofNat 0)),(.int .u8 (.ofNat 0)),(.int .u8 (.ofNat 0)),(.int .u8 (.ofNat 0)),(.int .u8 (.ofNat 0)),(.int .u8 (.ofNat 0))] 236 none false)
noncomputable def ob9 : AObj := (.cells [(str []),(str []),(str [])] 80 none false)
noncomputable def ob10 : AObj := (.cells [(str [49,50]),(str [49,56])] 9 none false)
noncomputable def ob11 : AObj := (.cells [(.int .i64 (.ofNat 6)),(.int .i64 (.ofNat 2)),(.int .i64 (.negSucc 0))] 172 none false)
noncomputable def ob12 : AObj := (.cells [(.int .i64 (.ofNat 0)),(.int .i64 (.ofNat 3)),(.int .i64 (.negSucc 1))] 172 none false)
noncomputable def ob13 : AObj := (.cells [(.int .i64 (.ofNat 12)),(.int .i64 (.ofNat 1)),(.int .i64 (.ofNat 0))] 172 none false)
noncomputable def ob14 : AObj := (.cells [(.int .i64 (.ofNat 18)),(.int .i64 (.ofNat 0)),(.int .i64 (.ofNat 1))] 172 none false)
noncomputable def ob15 : AObj := (.cells [(.int .i64 (.ofNat 6)),(.int .i64 (.negSucc 0)),(.int .i64 (.ofNat 1))] 172 none false)
noncomputable def ob16 : AObj := (.cells [(str [54]),(str [50]),(str [45,49])] 80 none false)
noncomputable def ob17 : AObj := (.cells [(.int .u8 (.ofNat 45)),(.int .u8 (.ofNat 49)),(.int .u8 (.ofNat 0)),(.int .u8 (.ofNat 0)),(.int .u8 (.ofNat 0)),(.int .u8 (.ofNat 0)),(.int .u8 (.ofNat 0)),(.int .u8 (.ofNat 0)),(.int .u8 (.ofNat 0)),(.int .u8 (.ofNat 0)),(.int .u8 (.ofNat 0)),(.int .u8 (.ofNat 0)),(.int .u8 (.ofNat 0)),(.int .u8 (.ofNat 0)),(.int .u8 (.ofNat 0)),(.int .u8 (.ofNat 0)),(.int .u8 (.ofNat 0)),(.int .u8 (.ofNat 0)),(.int .u8 (.ofNat 0)),(.int .u8 (.ofNat 0)),(.int .u8 (.ofNat 0)),(.int .u8 (.ofNat 0)),(.int .u8 (.ofNat 0)),(.int .u8 (.ofNat 0))] 236 none false)
noncomputable def ob18 : AObj := (.cells [(str [51]),(str [49,48,48]),(str [55])] 9 none false)
noncomputable def ob19 : AObj := (.cells [(.bool false),(.slice (some ⟨63,0,none⟩) 1 1)] 77 none false)
noncomputable def ob20 : AObj := (.cells [(.int .u32 (.ofNat 7))] 121 none false)
noncomputable def ob21 : AObj := (.cells [(.bool false),(.slice none 0 0)] 77 none false)
noncomputable def ob22 : AObj := (.cells [(.int .u32 (.ofNat 3)),(.int .u32 (.ofNat 0))] 121 none false)
noncomputable def ob23 : AObj := (.cells [(.int .u32 (.ofNat 2)),(.int .u32 (.ofNat 0))] 121 none false)
noncomputable def ob24 : AObj := (.cells [(.int .u32 (.ofNat 1)),(.int .u32 (.ofNat 0))] 121 none false)
noncomputable def ob25 : AObj := (.cells [(str [50]),(str [50]),(str [50]),(str [51]),(str [51]),(str [53])] 9 (some 1) false)
end Go.Proofs.YtpbbfgpnoinkjaaGreatDoor.Cn
