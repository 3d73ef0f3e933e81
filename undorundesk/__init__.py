"""Programs that run both ways; the functions to call lie in undorundesk.desk."""
