"""What anybody can have seen: which histories of shared things can have been so."""
