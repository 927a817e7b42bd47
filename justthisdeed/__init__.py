"""A yes for just this deed: what others said yes to is done, as it was asked, and nothing else."""
