"""loancheck: a language of owned values, a checker that is exact, and code on cells."""
