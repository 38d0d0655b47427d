"""A cake shared by three persons so that none of them need envy another."""
